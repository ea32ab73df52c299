import PyProof.Rows.All
import Wide.All
import OpenK.AllK
import Wide.FinOn
import PyProof.EqAt
import PyProof.EqKinds
import PyProof.TupleCall
import HandS.ForMost
import HandS.ForExc
import HandS.Nested
import HandS.ExcInit
import HandS.RaiseMore
import HandS.IsInst
import HandS.ExcField
import HandS.ExcIs
import HandS.FStr
import HandS.Wide
import HandS.Style
import HandS.Flow
import HandS.RevRange
import HandS.Walk
import HandS.Defaults
import HandS.TupSets
import HandS.TupAny
import HandS.ListEq
import HandS.Zip
import PyProof.ReprReads
import KE.KExcSuper
import KE.KIntText
import KE.IntTextText
import HandS.Text
import HandS.Codes
import HandS.DictTup
import KE.KDictPairs
import HandS.SortRule
import HandS.Deep
import HandS.Lambda
import KE.KExcIs
import HandS.ExcOwn
import HandS.EndTab
import PyProof.StrOps2
import KE.KNest
import PySem.Challenge.RW_nodetour_k27_deeds_as_texts
set_option Elab.async false
set_option linter.all false
set_option maxRecDepth 100000
set_option maxHeartbeats 4000000
/-! part K0 -/
/-! Data in the abstract heap, frames of what is kept, defs that know that no repr is under way. -/
namespace NT
open PySem PySem.Spec PyProof.Rows L2
/-! ### data at a value, off the addresses S -/
mutual
def At (S : Addr → Prop) (H : Hp) : PyData → V → Prop
  | .none, v => v = .non
  | .bool b, v => v = .bl b
  | .int i, v => v = .int i
  | .str x, v => v = .str x
  | .list ds, v => ∃ p xs, v = .ref p ∧ ¬ S p ∧ H p = some (.lst xs) ∧ AtL S H ds xs
  | .tuple ds, v => ∃ p xs, v = .ref p ∧ ¬ S p ∧ H p = some (.tup xs) ∧ AtL S H ds xs
  | .dict _, _ => False
def AtL (S : Addr → Prop) (H : Hp) : List PyData → List V → Prop
  | [], vs => vs = []
  | d :: ds, vs => ∃ v r, vs = v :: r ∧ At S H d v ∧ AtL S H ds r
end
/-- all that stood off S stands -/
def Kp (S : Addr → Prop) (H H' : Hp) : Prop := ∀ b o, H b = some o → ¬ S b → H' b = some o
abbrev No : Addr → Prop := fun _ => False
theorem Kp.refl (S : Addr → Prop) (H : Hp) : Kp S H H := fun _ _ h _ => h
theorem Kp.trans {S : Addr → Prop} {H H1 H2 : Hp} (a : Kp S H H1) (b : Kp S H1 H2) : Kp S H H2 := fun c o h n => b c o (a c o h n) n
theorem Kp.of_same {S : Addr → Prop} {H H' : Hp} (a : Same H H') : Kp S H H' := fun b o h _ => a b o h
theorem Kp.same {H H' : Hp} (a : Kp No H H') : Same H H' := fun b o h => a b o h id
theorem Kp.mono {S T : Addr → Prop} {H H' : Hp} (a : Kp S H H') (st : ∀ b, S b → T b) : Kp T H H' := fun b o h n => a b o h fun z => n (st b z)
theorem Kp.upd_new {S : Addr → Prop} {H : Hp} {p : Addr} {o : HO} (h : H p = none) : Kp S H (upd H p o) := fun b u e _ => by
  rw [upd_ne (ne_of_none e h)]
  exact e
theorem Kp.upd_in {S : Addr → Prop} {H : Hp} {p : Addr} {o : HO} (h : S p) : Kp S H (upd H p o) := fun b u e n => by
  have hb : b ≠ p := fun z => n (by rw [z]; exact h)
  rw [upd_ne hb]
  exact e
theorem same_new {H : Hp} {p : Addr} {o : HO} (h : H p = none) : Same H (upd H p o) := fun b u e => by
  rw [upd_ne (ne_of_none e h)]
  exact e
/-- new things do not come where something stands -/
theorem Same.none {H H' : Hp} (e : Same H H') {l : Addr} (h : H' l = none) : H l = none := e.free h
theorem Kp.none {S : Addr → Prop} {H H' : Hp} (e : Kp S H H') {l : Addr} (h : H' l = none) (n : ¬ S l) : H l = none := by
  cases q : H l with
  | none => rfl
  | some o =>
    have z := e l o q n
    rw [h] at z
    cases z
mutual
theorem At.kp {S : Addr → Prop} {H H' : Hp} (k : Kp S H H') : ∀ {d : PyData} {v : V}, At S H d v → At S H' d v
  | .none, _, h => h
  | .bool _, _, h => h
  | .int _, _, h => h
  | .str _, _, h => h
  | .list ds, v, h => by
    unfold At at h ⊢
    obtain ⟨p, xs, e, n, hp, ha⟩ := h
    exact ⟨p, xs, e, n, k _ _ hp n, AtL.kp k ha⟩
  | .tuple ds, v, h => by
    unfold At at h ⊢
    obtain ⟨p, xs, e, n, hp, ha⟩ := h
    exact ⟨p, xs, e, n, k _ _ hp n, AtL.kp k ha⟩
  | .dict _, _, h => h.elim
theorem AtL.kp {S : Addr → Prop} {H H' : Hp} (k : Kp S H H') : ∀ {ds : List PyData} {vs : List V}, AtL S H ds vs → AtL S H' ds vs
  | [], _, h => h
  | d :: ds, vs, h => by
    unfold AtL at h ⊢
    obtain ⟨v, r, e, h1, h2⟩ := h
    exact ⟨v, r, e, At.kp k h1, AtL.kp k h2⟩
end
mutual
theorem At.off {S T : Addr → Prop} {H : Hp} (st : ∀ b o, H b = some o → T b → S b) : ∀ {d : PyData} {v : V}, At S H d v → At T H d v
  | .none, _, h => h
  | .bool _, _, h => h
  | .int _, _, h => h
  | .str _, _, h => h
  | .list ds, v, h => by
    unfold At at h ⊢
    obtain ⟨p, xs, e, n, hp, ha⟩ := h
    exact ⟨p, xs, e, fun z => n (st _ _ hp z), hp, AtL.off st ha⟩
  | .tuple ds, v, h => by
    unfold At at h ⊢
    obtain ⟨p, xs, e, n, hp, ha⟩ := h
    exact ⟨p, xs, e, fun z => n (st _ _ hp z), hp, AtL.off st ha⟩
  | .dict _, _, h => h.elim
theorem AtL.off {S T : Addr → Prop} {H : Hp} (st : ∀ b o, H b = some o → T b → S b) : ∀ {ds : List PyData} {vs : List V}, AtL S H ds vs → AtL T H ds vs
  | [], _, h => h
  | d :: ds, vs, h => by
    unfold AtL at h ⊢
    obtain ⟨v, r, e, h1, h2⟩ := h
    exact ⟨v, r, e, At.off st h1, AtL.off st h2⟩
end
theorem At.no {S : Addr → Prop} {H : Hp} {d : PyData} {v : V} (h : At S H d v) : At No H d v := h.off fun _ _ _ z => z.elim
theorem AtL.no {S : Addr → Prop} {H : Hp} {d : List PyData} {v : List V} (h : AtL S H d v) : AtL No H d v := h.off fun _ _ _ z => z.elim
theorem AtL.length {S : Addr → Prop} {H : Hp} : ∀ {ds : List PyData} {vs : List V}, AtL S H ds vs → vs.length = ds.length
  | [], vs, h => by
    unfold AtL at h
    rw [h]
    rfl
  | d :: ds, vs, h => by
    unfold AtL at h
    obtain ⟨v, r, rfl, _, h2⟩ := h
    rw [List.length_cons, List.length_cons, h2.length]
theorem AtL.get {S : Addr → Prop} {H : Hp} : ∀ {ds : List PyData} {vs : List V} {i : Nat} {d : PyData}, AtL S H ds vs → ds[i]? = some d → ∃ v, vs[i]? = some v ∧ At S H d v
  | [], _, _, _, _, e => by simp at e
  | d :: ds, vs, 0, d', h, e => by
    unfold AtL at h
    obtain ⟨v, r, rfl, h1, _⟩ := h
    have q : d = d' := by simpa using e
    exact ⟨v, rfl, q ▸ h1⟩
  | d :: ds, vs, i + 1, d', h, e => by
    unfold AtL at h
    obtain ⟨v, r, rfl, _, h2⟩ := h
    obtain ⟨u, e1, e2⟩ := h2.get (i := i) (by simpa using e)
    exact ⟨u, by simpa using e1, e2⟩
theorem AtL.append {S : Addr → Prop} {H : Hp} : ∀ {ds es : List PyData} {vs us : List V}, AtL S H ds vs → AtL S H es us → AtL S H (ds ++ es) (vs ++ us)
  | [], _, _, _, h, g => by
    unfold AtL at h
    rw [h]
    exact g
  | d :: ds, es, vs, us, h, g => by
    unfold AtL at h
    obtain ⟨v, r, rfl, h1, h2⟩ := h
    show AtL S H (d :: (ds ++ es)) (v :: (r ++ us))
    unfold AtL
    exact ⟨v, _, rfl, h1, h2.append g⟩
theorem AtL.take {S : Addr → Prop} {H : Hp} : ∀ {ds : List PyData} {vs : List V} (n : Nat), AtL S H ds vs → AtL S H (ds.take n) (vs.take n)
  | _, _, 0, _ => by
    show AtL S H [] []
    unfold AtL
    rfl
  | [], vs, n + 1, h => by
    unfold AtL at h
    rw [h]
    show AtL S H [] []
    unfold AtL
    rfl
  | d :: ds, vs, n + 1, h => by
    unfold AtL at h
    obtain ⟨v, r, rfl, h1, h2⟩ := h
    show AtL S H (d :: ds.take n) (v :: r.take n)
    unfold AtL
    exact ⟨v, _, rfl, h1, h2.take n⟩
theorem AtL.drop {S : Addr → Prop} {H : Hp} : ∀ {ds : List PyData} {vs : List V} (n : Nat), AtL S H ds vs → AtL S H (ds.drop n) (vs.drop n)
  | _, _, 0, h => h
  | [], vs, n + 1, h => by
    unfold AtL at h
    rw [h]
    show AtL S H [] []
    unfold AtL
    rfl
  | d :: ds, vs, n + 1, h => by
    unfold AtL at h
    obtain ⟨v, r, rfl, h1, h2⟩ := h
    exact h2.drop n
theorem atl_nil {S : Addr → Prop} {H : Hp} : AtL S H [] [] := by
  unfold AtL
  rfl
theorem atl_cons {S : Addr → Prop} {H : Hp} {d : PyData} {ds : List PyData} {v : V} {vs : List V} (h : At S H d v) (r : AtL S H ds vs) : AtL S H (d :: ds) (v :: vs) := by
  unfold AtL
  exact ⟨v, vs, rfl, h, r⟩
theorem AtL.snoc {S : Addr → Prop} {H : Hp} {d : PyData} {ds : List PyData} {v : V} {vs : List V} (r : AtL S H ds vs) (h : At S H d v) : AtL S H (ds ++ [d]) (vs ++ [v]) := r.append (atl_cons h atl_nil)
theorem at_int {S : Addr → Prop} {H : Hp} {i : Int} : At S H (.int i) (.int i) := by
  unfold At
  rfl
theorem at_str {S : Addr → Prop} {H : Hp} {x : Str} : At S H (.str x) (.str x) := by
  unfold At
  rfl
theorem at_non {S : Addr → Prop} {H : Hp} : At S H .none .non := by
  unfold At
  rfl
theorem at_bl {S : Addr → Prop} {H : Hp} {b : Bool} : At S H (.bool b) (.bl b) := by
  unfold At
  rfl
theorem at_tup {S : Addr → Prop} {H : Hp} {p : Addr} {xs : List V} {ds : List PyData} (n : ¬ S p) (hp : H p = some (.tup xs)) (h : AtL S H ds xs) : At S H (.tuple ds) (.ref p) := by
  unfold At
  exact ⟨p, xs, rfl, n, hp, h⟩
theorem at_lst {S : Addr → Prop} {H : Hp} {p : Addr} {xs : List V} {ds : List PyData} (n : ¬ S p) (hp : H p = some (.lst xs)) (h : AtL S H ds xs) : At S H (.list ds) (.ref p) := by
  unfold At
  exact ⟨p, xs, rfl, n, hp, h⟩
theorem At.tup {S : Addr → Prop} {H : Hp} {ds : List PyData} {v : V} (h : At S H (.tuple ds) v) : ∃ p xs, v = .ref p ∧ ¬ S p ∧ H p = some (.tup xs) ∧ AtL S H ds xs := by
  unfold At at h
  exact h
theorem At.lst {S : Addr → Prop} {H : Hp} {ds : List PyData} {v : V} (h : At S H (.list ds) v) : ∃ p xs, v = .ref p ∧ ¬ S p ∧ H p = some (.lst xs) ∧ AtL S H ds xs := by
  unfold At at h
  exact h
theorem At.int {S : Addr → Prop} {H : Hp} {i : Int} {v : V} (h : At S H (.int i) v) : v = .int i := by
  unfold At at h
  exact h
theorem At.str {S : Addr → Prop} {H : Hp} {i : Str} {v : V} (h : At S H (.str i) v) : v = .str i := by
  unfold At at h
  exact h
theorem AtL.cons {S : Addr → Prop} {H : Hp} {d : PyData} {ds : List PyData} {vs : List V} (h : AtL S H (d :: ds) vs) : ∃ v r, vs = v :: r ∧ At S H d v ∧ AtL S H ds r := by
  unfold AtL at h
  exact h
theorem AtL.nil {S : Addr → Prop} {H : Hp} {vs : List V} (h : AtL S H [] vs) : vs = [] := by
  unfold AtL at h
  exact h
/-! ### data at the machine's values -/
mutual
theorem At.reads {S : Addr → Prop} {P : Program} {w : World} {H : Hp} {h : Heap} (ok : HOk P w H h) : ∀ {d : PyData} {v : V} {u : Value}, At S H d v → RelV v u → ∃ as, Reads h u d as
  | .none, v, u, a, r => by
    unfold At at a
    subst a
    obtain rfl : u = Value.none := r
    exact ⟨_, .none⟩
  | .bool b, v, u, a, r => by
    unfold At at a
    subst a
    obtain rfl : u = Value.bool b := r
    exact ⟨_, .bool b⟩
  | .int i, v, u, a, r => by
    unfold At at a
    subst a
    obtain ⟨t, rfl⟩ := r
    exact ⟨_, .int i t⟩
  | .str x, v, u, a, r => by
    unfold At at a
    subst a
    obtain ⟨t, rfl⟩ := r
    exact ⟨_, .str x t⟩
  | .list ds, v, u, a, r => by
    obtain ⟨p, xs, rfl, _, hp, hl⟩ := a.lst
    obtain rfl : u = Value.ref p := r
    obtain ⟨_, its, n, rv, e⟩ := ok _ _ hp
    obtain ⟨as, ra⟩ := AtL.reads ok hl rv
    exact ⟨_, .list e rfl rfl (by simpa using ra)⟩
  | .tuple ds, v, u, a, r => by
    obtain ⟨p, xs, rfl, _, hp, hl⟩ := a.tup
    obtain rfl : u = Value.ref p := r
    obtain ⟨_, its, rv, o, e, ec, n, ed⟩ := ok _ _ hp
    obtain ⟨as, ra⟩ := AtL.reads ok hl rv
    exact ⟨_, .tuple e ec ed (by simpa using ra)⟩
  | .dict _, _, _, a, _ => by
    unfold At at a
    exact a.elim
theorem AtL.reads {S : Addr → Prop} {P : Program} {w : World} {H : Hp} {h : Heap} (ok : HOk P w H h) : ∀ {ds : List PyData} {vs : List V} {us : List Value}, AtL S H ds vs → Vals vs us → ∃ as, ReadsAll h us ds as
  | [], vs, us, a, r => by
    unfold AtL at a
    subst a
    cases r
    exact ⟨_, .nil⟩
  | d :: ds, vs, us, a, r => by
    obtain ⟨v, q, rfl, h1, h2⟩ := a.cons
    cases r with
    | cons r1 r2 =>
      obtain ⟨as, e1⟩ := At.reads ok h1 r1
      obtain ⟨bs, e2⟩ := AtL.reads ok h2 r2
      exact ⟨_, .cons e1 e2⟩
end
end NT
/-! part K1 -/
/-! Defs that are called where no repr is under way; repr of data; the law's call. -/
namespace NT
open PySem PySem.Spec PyProof.Rows L2
/-! ### repr of data -/
def Rp (d : PyData) : Prop := d.showable = true ∧ d.hasDict = false ∧ d.depth ≤ 20 ∧ d.shown.length ≤ sizeLine
theorem call_repr_data {X : Cx} (hg : X.A.guards = some []) (hu : X.A.units + 64 < cLine) : CallR X (.builtin "repr") (fun xs H Q => ∃ v d, xs = [v] ∧ At No H d v ∧ Rp d ∧ Q (.str d.shown) H) := by
  intro pins s σ H xs us Q I r h
  obtain ⟨v, d, rfl, ha, ⟨h1, h2, h3, h4⟩, q⟩ := h
  obtain ⟨u, rfl, rv⟩ := vals1 r
  obtain ⟨as, hr⟩ := ha.reads I.hok rv
  cases hr with
  | none => exact PySem.P.repr_of_none ⟨.str _, H, I.tok _, ⟨_, rfl⟩, q⟩
  | bool b => exact PySem.P.repr_of_bool ⟨.str _, H, I.tok _, ⟨_, rfl⟩, q⟩
  | int i t => exact PySem.P.repr_of_int (by simpa [PyData.showable] using h1) ⟨.str _, H, I.tok _, ⟨_, rfl⟩, q⟩
  | str x t => exact PySem.P.repr_of_str ⟨.str _, H, I.tok _, ⟨_, rfl⟩, q⟩ h4
  | list e1 e2 e3 e4 =>
    exact repr_of_reads' (.list e1 e2 e3 e4) h1 (PyData.noDict_hsm h2) hg (by omega) (fun _ _ e => e) (fun h' u tk k => ⟨.str _, H, I.kept k, ⟨_, rfl⟩, q⟩) h4
  | tuple e1 e2 e3 e4 =>
    exact repr_of_reads' (.tuple e1 e2 e3 e4) h1 (PyData.noDict_hsm h2) hg (by omega) (fun _ _ e => e) (fun h' u tk k => ⟨.str _, H, I.kept k, ⟨_, rfl⟩, q⟩) h4
  | dict => unfold At at ha; exact ha.elim
/-! ### a def that is called where no repr is under way -/
structure FnG (P : Program) (w : World) (K : PySem.W.Frag) (mg : Str → Option Value) (base : Heap) (CX : CXT) (k : Nat) (f : Addr) (fd : FuncData) (ps : List Str) (sp : Sp) : Prop where
  len : ∀ vs H Q E, sp vs H Q E → vs.length = ps.length
  run : ∀ (A : Around) (outer : List Env) (s : Shared) (H : Hp) (args : Args) (us : List Value) (vs : List V) (Q : VK) (E : XK), A.guards = some [] → Room k A → Env0 P w K mg base A outer s H → BindsTo s fd args (ps.zip us) → Vals vs us → sp vs H Q E →
    codeAny (model P w) A (.call (.ref f) args) (CR CX outer P w H s Q E) s
theorem FnOk.toG {P : Program} {w : World} {K : PySem.W.Frag} {mg : Str → Option Value} {base : Heap} {CX : CXT} {k : Nat} {f : Addr} {fd : FuncData} {ps : List Str} {sp : Sp} (F : FnOk P w K mg base CX k f fd ps sp) : FnG P w K mg base CX k f fd ps sp :=
  ⟨F.len, fun A outer s H args us vs Q E _ => F.run A outer s H args us vs Q E⟩
theorem guards_deeper {A : Around} {env : Env} (h : A.guards = some []) : (A.deeper env).guards = some [] := h
/-- a def by its body, no repr under way -/
theorem Fun.okG {P : Program} {w : World} {K : PySem.W.Frag} {mg : Str → Option Value} {base : Heap} {x qual : Str} {st : Stmt} {f : Addr} {fd : FuncData} {N ps : List Str} {k : Nat} {sp : Sp} (F : Fun K x qual st f fd) (S : FnScope N ps (defScope st))
    (len : ∀ vs H Q E, sp vs H Q E → vs.length = ps.length)
    (hbody : ∀ (cdv : Value) (A : Around) (outer : List Env) (s : Shared) (H : Hp) (vs : List V) (Q : VK) (E : XK), (A.deeper (envOfC qual (defScope st) s.heap.objs.size f cdv)).guards = some [] → Room k (A.deeper (envOfC qual (defScope st) s.heap.objs.size f cdv)) → sp vs H Q E →
      ∃ t, PSs (cxOf CX0 P w K mg base N qual (defScope st) f cdv A outer s H E).nox (defBody st) t ∧ t { nx := fun _ H' => Q .non H', rt := Q } (start N vs) H) : FnG P w K mg base CX0 (k + 1) f fd ps sp := by
  obtain ⟨oc, od, kV, doc, pm, an, cdv, ct, osl, rfl, lk, hcd⟩ := F.ex
  refine ⟨len, fun A outer s H args us vs Q E hg hr e0 hb r hsp => ?_⟩
  have KX : K.In s.heap := e0.mod.kin.keeps fun b o e => (e0.bs b o e).1
  have lim : s.heap.NoLimit := e0.mod.nolimit.keeps fun b o e => (e0.bs b o e).1
  have pk : ∀ y ∈ ps.zip us, (defScope st).names.lookup y.1 = some .local ∨ ((defScope st).names.lookup y.1 = some .cell ∧ ((cellsFrom (s.heap.objs.size + 1) (defScope st).names []).lookup y.1).isSome = true) := by
    rintro ⟨n, v⟩ hy
    rcases S.par n (List.of_mem_zip hy).1 with z | z
    · exact .inl z
    · exact .inr ⟨z, PySem.W.cellsFrom_some _ _ _ (.inl z)⟩
  refine codeAny_call_function hr.depth (KX _ _ lk) rfl S.co S.gen rfl (PySem.W.codeRec_of KX hcd) (hb _ _ _ _ (wpAny_newFunctionEnv_cells S.kind pk fun env he s1 y => ?_))
  subst he
  refine ⟨lim.keeps y.toInCall.keep, codeAny_func ?_⟩
  obtain ⟨t, ht, hq⟩ := hbody cdv A outer s H vs Q E hg (hr.deeper _) hsp
  have I : Inv (cxOf CX0 P w K mg base N qual (defScope st) f cdv A outer s H E) [] (start N vs) H s1 := inv_start S hr.hd e0 (len _ _ _ _ hsp) r y
  refine wpAny_mono (ht.nox.run [] s1 (start N vs) H _ I hq) (fun fl s' hs => ?_) fun e s' hs => hs
  match fl, hs with
  | .ret u, ⟨v, σ', H', J, rv, q⟩ => exact ⟨v, H', J.os, J.bare, J.base, J.hok, rv, q⟩
  | .next, ⟨σ', H', J, q⟩ => exact ⟨V.non, H', J.os, J.bare, J.base, J.hok, rfl, q⟩
  | .brk, ⟨_, _, _, q⟩ => exact q.elim
  | .cont, ⟨_, _, _, q⟩ => exact q.elim
section
variable {X : Cx} {CX : CXT} {k : Nat} {f : Addr} {fd : FuncData} {ps : List Str} {sp : Sp} {E : XK} {x : Str} {p pos : Pos} {e : Expr} {es : List Expr} {t : TA}
/-- f(..) of such a def -/
theorem pe_callG (F : FnG X.prog X.w X.K X.mg X.base CX k f fd ps sp) (hgd : X.A.guards = some []) (hr : Room k X.A) (hg : Gl X x) (hm : X.mg x = some (.ref f)) (hk : PySem.W.keepIn X.K (.ref f) = true) (hb : Binds X.K fd ps []) (hx : Passes CX X E)
    (ha : PA X (e :: es) t) (hdb : (x == ("__debug__" : Str)) = false := by decide) (he : starEach (e :: es) X.env = (false, eval e X.env) :: starEach es X.env := by rfl) (hpl : (backTo pos (starEach es X.env)).any (·.1) = false := by rfl) :
    PE X (.Call (.Name x p) (e :: es) [] pos) (tCall sp [] E t) := by
  refine ⟨fun pins s σ H Q I h => wpAny_Call_Name_kw (ld_glob I hg hm ?_ hdb)⟩
  refine PySem.W.callWith_K (h₀ := X.base) I.ok.mod.kin hk (thn (ha.run pos pins s σ H _ I h) fun us s1 ⟨vs, H1, I1, r, q⟩ => ⟨I1.kIn, ?_⟩) he hpl
  replace q : sp (vs ++ []) H1 Q E := q
  rw [List.append_nil] at q
  have hl : us.length = ps.length := by
    rw [← r.length]
    exact F.len _ _ _ _ q
  have hb2 := hb s1 us I1.kIn (by rw [List.append_nil]; exact hl)
  rw [List.append_nil] at hb2
  refine wpAny_call (codeAny_mono (F.run X.A X.stack s1 H1 ⟨us, []⟩ us vs Q E hgd hr I1.env0 hb2 r q) fun res s' hq => ?_)
  match res, hq with
  | .error er, hq => exact hx pins σ H1 s1 er s' I1 hq
  | .ok (.ret u), hq => exact I1.after hq
end
/-! ### the law's own call -/
theorem law_callG {P : Program} {w : World} {K : PySem.W.Frag} {mg mb : Str → Option Value} {k : Nat} {fa a : Addr} {fd : FuncData} {x : Str} {sp : Sp} {s₁ : Shared} {vs : List Value} {ns : List Int}
    (KX : K.In s₁.heap) (hns : s₁.heap.Ns mainGlobals mg) (hb : s₁.heap.Ns builtinsNs mb) (hbb : ∀ x : Str, x ≠ "__name__" → mb x = bootBuiltins x) (hlim : s₁.heap.NoLimit) (hg : s₁.gens = #[])
    (ha : s₁.heap.get? a = some { cls := .type "list", data := .seq vs.toArray }) (hi : IntsAre vs ns) (hl : ns.length ≤ sizeLine) (hr : Room k callerA)
    (F : ∀ base : Heap, K.In base → base.Ns mainGlobals mg → FnG P w K mg base CX0 k fa fd [x] sp) (hbind : ∀ (s : Shared) (u : Value), BindsTo s fd ⟨[u], []⟩ [(x, u)])
    (hsp : ∀ H : Hp, Only H → SqL K H a (ns.map V.int) → sp [.ref a] H (fun v _ => v = .bl true) E0) :
    codeAny (model P w) callerA (.call (.ref fa) ⟨[.ref a], []⟩) (fun r s' => r = .ok (.ret (.bool true)) ∧ OldK s₁.heap s'.heap ∧ s'.os = s₁.os ∧ AllBare s'.gens) s₁ := by
  have rv : Vals (ns.map V.int) vs := vals_ints hi
  -- H: what is tracked at the call: the script alone, or nothing where the script is the module's own
  have main : ∀ H : Hp, Only H → SqL K H a (ns.map V.int) → HOk P w H s₁.heap → (∀ b u, H b = some u → b = a ∧ K.lookup a = none) →
      codeAny (model P w) callerA (.call (.ref fa) ⟨[.ref a], []⟩) (fun r s' => r = .ok (.ret (.bool true)) ∧ OldK s₁.heap s'.heap ∧ s'.os = s₁.os ∧ AllBare s'.gens) s₁ := fun H hO hS ok only => by
    have clear : ∀ {b : Addr} {o : Obj}, s₁.heap.get? b = some o → b ≠ a → (hidT s₁.heap H).get? b = some o := fun {b o} e n => hidT_get e (by
      match q : H b with
      | none => rfl
      | some u => exact absurd (only b u q).1 n)
    have dicts : ∀ {b : Addr} {m : Str → Option Value}, s₁.heap.Ns b m → (hidT s₁.heap H).Ns b m := fun {b m} h => by
      obtain ⟨o, es, ep, e, d, z⟩ := h
      refine ⟨o, es, ep, clear e fun eb => ?_, d, z⟩
      subst eb
      rw [e] at ha
      obtain rfl := Option.some.inj ha
      cases d
    have KB : K.In (hidT s₁.heap H) := fun b o e => by
      refine hidT_get (KX b o e) ?_
      match q : H b with
      | none => rfl
      | some u =>
        obtain ⟨rfl, z⟩ := only b u q
        rw [z] at e
        cases e
    obtain ⟨mc, l1, l2⟩ := hlim
    have M : Mod K mg (hidT s₁.heap H) := ⟨KB, dicts hns, ⟨mb, dicts hb, hbb⟩, mc, dicts l1, l2⟩
    have nofr : ∀ b ∈ frs ([] : List Env), H b = none := fun b z => absurd z (by simp [frs])
    have e0 : Env0 P w K mg (hidT s₁.heap H) callerA [] s₁ H := ⟨rfl, M, fun _ _ e => of_hidT e, Nat.le_of_eq (hidT_size _ _), trivial, nofr, ok, .of_eq hg⟩
    refine codeAny_mono ((F _ KB (dicts hns)).run callerA [] s₁ H ⟨[.ref a], []⟩ [.ref a] [.ref a] _ _ rfl hr e0 (hbind s₁ (.ref a)) (.cons rfl .nil) (hsp H hO hS)) fun r s' h => ?_
    match r, h with
    | .error e, h => exact h.elim
    | .ok (.ret u), ⟨v, H', os, bare, un, ok', rr, q⟩ =>
      replace q : v = V.bl true := q
      subst q
      replace rr : u = Value.bool true := rr
      subst rr
      refine ⟨rfl, OldK.of_keep fun b o e => ?_, os, bare⟩
      rcases hO b with z | ⟨ob, xs, z⟩
      · exact un.keep b o e z (by simp [frs]) (by simp)
      · have now := (ok' b _ (un.frzs b ob _ z)).1
        have was := (ok b _ z).1
        rw [was] at e
        rw [now, ← e]
  match hk : K.lookup a with
  | some o =>
    have e := KX a o hk
    rw [ha] at e
    obtain rfl := Option.some.inj e
    exact main (fun _ => none) (fun _ => .inl rfl) (.inr ⟨_, vs.toArray, _, hk, rfl, rfl, rfl, by rw [List.size_toArray, hi.length]; exact hl, by simpa using rv⟩) (fun b u z => by cases z) (fun b u z => by cases z)
  | none =>
    let o : Obj := { cls := .type "list", data := .seq vs.toArray }
    have at_a : upd (fun _ => none) a (.frz o (.lst (ns.map V.int))) a = some (.frz o (.lst (ns.map V.int))) := upd_same
    have off : ∀ {b : Addr}, b ≠ a → upd (fun _ => none) a (.frz o (.lst (ns.map V.int))) b = none := fun hb => by rw [upd_ne hb]
    refine main (upd (fun _ => none) a (.frz o (.lst (ns.map V.int)))) (fun b => ?_) (.inl (.inr ⟨o, at_a⟩)) (fun b u z => ?_) (fun b u z => ?_)
    · by_cases hb : b = a
      · exact .inr ⟨o, _, by rw [hb]; exact at_a⟩
      · exact .inl (off hb)
    · by_cases hb : b = a
      · subst hb
        rw [at_a] at z
        obtain rfl := Option.some.inj z
        exact ⟨ha, by rw [List.length_map]; exact hl, vs, _, rv, ha⟩
      · rw [off hb] at z
        cases z
    · by_cases hb : b = a
      · exact ⟨hb, hk⟩
      · rw [off hb] at z
        cases z
/-- the law's row from its promise -/
theorem walkG {l : PySem.W.OpenLaw} {n k : Nat} {q : Program} {loose : List Str} {XP : (Str → Option Value) → Heap → Prop} {YP : World → Heap → Prop} {d : DefRec} {K : Params → PySem.W.Frag} {sp : PySem.W.Frag → Sp} {x : Str}
    (hn : l.most = some n) (hn2 : n ≤ sizeLine) (hdf : d.params.defaults = []) (hr : Room k callerA)
    (hY : ∀ (w : World) (h : Heap), YP w h → (K w.params).In h)
    (F : ∀ (w : World) (mg : Str → Option Value) (fa : Addr) (h : Heap), (K w.params).In h → h.Ns mainGlobals mg → mg d.name = some (.ref fa) →
      ∃ fd : FuncData, (∀ (s : Shared) (u : Value), BindsTo s fd ⟨[u], []⟩ [(x, u)]) ∧
        ∀ base : Heap, (K w.params).In base → base.Ns mainGlobals mg → FnG l.prog w (K w.params) mg base CX0 k fa fd [x] (sp (K w.params)))
    (hsp : ∀ (K : PySem.W.Frag) (H : Hp) (a : Addr) (ns : List Int), ns.length ≤ n → Only H → SqL K H a (ns.map V.int) → sp K [.ref a] H (fun v _ => v = .bl true) E0) :
    PySem.W.WalkO q loose XP YP l.row.toRowW d [] (fun f vs => PySem.call f vs) := by
  refine Att.attach_call hn hdf fun w s₀ s₁ mg mb fa o pm cd doc a vs ns G Y _ _ _ hmg hobj hints hlen hg => ?_
  obtain ⟨fd, hb, hF⟩ := F w mg fa _ (hY w _ Y) G.T.g hmg
  exact law_callG (hY w _ Y) G.T.g G.T.b G.T.builtins G.T.nolimit hg hobj hints (Nat.le_trans hlen hn2) hr hF hb fun H hO hS => hsp _ H a ns hlen hO hS
end NT
/-! part K2 -/
/-! A def of the text by its name alone. -/
namespace NT
open PySem PySem.Spec PyProof.Rows L2
/-- the def x stands, and keeps sp -/
def Ok (P : Program) (w : World) (K : PySem.W.Frag) (mg : Str → Option Value) (base : Heap) (CX : CXT) (k : Nat) (x : Str) (ps : List Str) (sp : Sp) : Prop :=
  ∃ f fd, FnOk P w K mg base CX k f fd ps sp ∧ mg x = some (.ref f) ∧ PySem.W.keepIn K (.ref f) = true ∧ L2.Binds K fd ps []
def OkG (P : Program) (w : World) (K : PySem.W.Frag) (mg : Str → Option Value) (base : Heap) (CX : CXT) (k : Nat) (x : Str) (ps : List Str) (sp : Sp) : Prop :=
  ∃ f fd, FnG P w K mg base CX k f fd ps sp ∧ mg x = some (.ref f) ∧ PySem.W.keepIn K (.ref f) = true ∧ L2.Binds K fd ps []
theorem Ok.toG {P : Program} {w : World} {K : PySem.W.Frag} {mg : Str → Option Value} {base : Heap} {CX : CXT} {k : Nat} {x : Str} {ps : List Str} {sp : Sp} (F : Ok P w K mg base CX k x ps sp) : OkG P w K mg base CX k x ps sp := by
  obtain ⟨f, fd, F, r⟩ := F
  exact ⟨f, fd, FnOk.toG F, r⟩
theorem Ok.imp {P : Program} {w : World} {K : PySem.W.Frag} {mg : Str → Option Value} {base : Heap} {CX : CXT} {k : Nat} {x : Str} {ps : List Str} {sp sp' : Sp} (F : Ok P w K mg base CX k x ps sp) (h : ∀ vs H Q E, sp' vs H Q E → sp vs H Q E) : Ok P w K mg base CX k x ps sp' := by
  obtain ⟨f, fd, F, r⟩ := F
  exact ⟨f, fd, F.imp h, r⟩
section
variable {X : Cx} {CX : CXT} {j k : Nat} {ps : List Str} {sp : Sp} {E : XK} {x : Str} {p pos : Pos} {e : Expr} {es : List Expr} {t : TA}
theorem pe_d (D : Ok X.prog X.w X.K X.mg X.base CX k x ps sp) (hr : Room j X.A) (hx : Passes CX X E) (ha : PA X (e :: es) t) (hjk : k ≤ j := by decide) (hg : Gl X x := by rfl) (hdb : (x == ("__debug__" : Str)) = false := by decide)
    (he : starEach (e :: es) X.env = (false, eval e X.env) :: starEach es X.env := by rfl) (hpl : (backTo pos (starEach es X.env)).any (·.1) = false := by rfl) : PE X (.Call (.Name x p) (e :: es) [] pos) (tCall sp [] E t) := by
  obtain ⟨f, fd, F, g, kp, b⟩ := D
  exact pe_call F (hr.mono hjk) hg g kp b .nil hx ha hdb he hpl
theorem pe_d0 (D : Ok X.prog X.w X.K X.mg X.base CX k x ps sp) (hr : Room j X.A) (hx : Passes CX X E) (hjk : k ≤ j := by decide) (hg : Gl X x := by rfl) (hdb : (x == ("__debug__" : Str)) = false := by decide) : PE X (.Call (.Name x p) [] [] pos) (tCall sp [] E tNil) := by
  obtain ⟨f, fd, F, g, kp, b⟩ := D
  exact pe_call0 F (hr.mono hjk) hg g kp b .nil hx hdb
theorem pe_dG (D : OkG X.prog X.w X.K X.mg X.base CX k x ps sp) (hgd : X.A.guards = some []) (hr : Room j X.A) (hx : Passes CX X E) (ha : PA X (e :: es) t) (hjk : k ≤ j := by decide) (hg : Gl X x := by rfl) (hdb : (x == ("__debug__" : Str)) = false := by decide)
    (he : starEach (e :: es) X.env = (false, eval e X.env) :: starEach es X.env := by rfl) (hpl : (backTo pos (starEach es X.env)).any (·.1) = false := by rfl) : PE X (.Call (.Name x p) (e :: es) [] pos) (tCall sp [] E t) := by
  obtain ⟨f, fd, F, g, kp, b⟩ := D
  exact pe_callG F hgd (hr.mono hjk) hg g kp b hx ha hdb he hpl
end
/-! ### items -/
theorem map_get {α β : Type} {f : α → β} {l : List α} {i : Nat} {x : β} (h : (l.map f)[i]? = some x) : ∃ k, l[i]? = some k ∧ x = f k := by
  rw [List.getElem?_map] at h
  cases e : l[i]? with
  | none =>
    rw [e] at h
    cases h
  | some k =>
    rw [e] at h
    exact ⟨k, rfl, (Option.some.inj h).symm⟩
theorem get_lt {α : Type} {l : List α} {i : Nat} {x : α} (h : l[i]? = some x) : i < l.length := (List.getElem?_eq_some_iff.mp h).1
theorem small_sz {n m : Nat} (h : n ≤ m) (hm : m ≤ 16777216) : n ≤ sizeLine := by
  rw [sizeLine_eq]
  omega
theorem small_lt {n m : Nat} (h : n ≤ m) (hm : m < 16777216) : n < sizeLine := by
  rw [sizeLine_eq]
  omega
/-! ### a while, its end told once -/
theorem while_m {c : TT} {tb : TS} {D : Ends} {σ : L2.St} {H : Hp} (Pv : Nat → L2.St → Hp → Prop) (Pe : L2.St → Hp → Prop) (h0 : ∃ m, Pv m σ H) (he : ∀ σ H, Pe σ H → D.nx σ H)
    (hs : ∀ nx : L2.St → Hp → Prop, (∀ σ H, Pe σ H → nx σ H) → ∀ m σ H, Pv m σ H → c σ H fun b H1 => if b = true then ∃ N : L2.St → Hp → Prop, (∀ σ' H', N σ' H' → ∃ m', m' < m ∧ Pv m' σ' H') ∧ tb { nx := N, rt := D.rt, bk := nx, ct := N } σ H1 else nx σ H1) :
    tWhile c tb D σ H := ⟨Pv, h0, fun m σ H p => hs D.nx he m σ H p⟩
end NT
/-! part SupInit -/
/-! An own exception's __init__ that says super().__init__(a text) first, walked as a def: its promise. -/
namespace SupX
open PySem PySem.Spec PyProof.Rows L2 NdefX
/-- the first statement: super().__init__(text) -/
def sSup (p0 p1 p2 p3 p4 p5 : Pos) (txt : Str) (j : Nat) : Stmt :=
  .Expr (.Call (.Attribute (.Call (.Name "super" p0) [] [] p1) "__init__" p2) [.Constant (.str txt) j p3] [] p4) p5
theorem env_eq (F : NF) (f L : Addr) (dV kV doc pm ct : Value) (an : Option Addr) :
    callEnv (PySem.W.fnX F.name F.qual F.params F.body F.scope F.cl dV kV doc pm an (.ref F.c) ct) L f = envF F f L := rfl
section
variable {CX : CXT} {P : Program} {w : World} {K : PySem.W.Frag} {mg : Str → Option Value} {base : Heap} {N ps : List Str} {F : NF} {f cc C : Addr} {k : Nat} {sp : Sp}
theorem fn_super {oc dV kV doc pm ct ccl cl' : Value} {od an cdd cld : Option Addr} {osl ccs csl : Array (Option Value)} {vs0 : Array Value} {file : Str} {tf : Tok} {cdD : ClassData} {ar : Arg}
    {p0 p1 p2 p3 p4 p5 : Pos} {txt : Str} {j : Nat} {rest : List Stmt}
    (lk : K.lookup f = some ⟨oc, od, .func (PySem.W.fnX F.name F.qual F.params F.body F.scope F.cl dV kV doc pm an (.ref F.c) ct), osl⟩)
    (hcl : F.cl = [(("__class__" : Str), cc)])
    (hbody : F.body = sSup p0 p1 p2 p3 p4 p5 txt j :: rest)
    (hcode : PySem.W.codeIn K (.ref F.c) F.qual = true)
    (hco : K.lookup F.c = some ⟨ccl, cdd, .fields vs0, ccs⟩) (hvs : vs0[2]? = some (.str file tf)) (hfile : ((P.main.file : Str) == file) = true)
    (hcell : K.lookup cc = some ⟨cl', cld, .cell (some (.ref C)), csl⟩)
    (T : OexC K C) (hcls : PySem.W.clsIn K C = some cdD) (hsuper : mg "super" = none) (htop : (P.main.scope.names.lookup ("super" : Str)).isSome = false)
    (hsub : PySem.W.mroIn K C (.ref C) = some true)
    (hm : PySem.W.ks_superIn K C C "__init__" = some (some (.builtin "ValueError.__init__")))
    (hB : PySem.W.subIn K (.ref C) (.type "ValueError") = some true)
    (ho : PySem.W.nsIn K cStatics "thirdparty.any" = some none)
    (hboot : bootBuiltins "super" = some (.type "super"))
    (S : NScope N ps ["__class__"] F.scope) (hp : (F.params.posonlyargs ++ F.params.args).head? = some ar) (hps : ps[0]? = some ar.arg)
    (hks : F.scope.names.lookup ("super" : Str) = some .globalImplicit)
    {pl : Sem Bool} (hev : ∀ L, eval (.Call (.Attribute (.Call (.Name "super" p0) [] [] p1) "__init__" p2) [.Constant (.str txt) j p3] [] p4) (envF F f L) = (do
      let ov ← attributeBase (.Call (.Name "super" p0) [] [] p1) "__init__" (envF F f L) (eval (.Call (.Name "super" p0) [] [] p1) (envF F f L))
      standAt p2.atName
      let (f', first) ← holding [ov] (getMethod ov "__init__" pl)
      callWith p4 f' first (backTo p4 (starEach [.Constant (.str txt) j p3] (envF F f L))) []))
    (hst : ∀ L, interactive (envF F f L) = false) (hsw : ∀ L, swapsWith (.Call (.Attribute (.Call (.Name "super" p0) [] [] p1) "__init__" p2) [.Constant (.str txt) j p3] [] p4) none p5.line (envF F f L) = pure false)
    (len : ∀ vs H Q E, sp vs H Q E → vs.length = ps.length)
    (hpre : ∀ vs H Q E, sp vs H Q E → ∃ x r, vs = .ref x :: r ∧ H x = some (exo x C none))
    (hrest : ∀ (A : Around) (outer : List Env) (s : Shared) (H : Hp) (vs : List V) (ws : List (Option V)) (Q : VK) (E : XK), Room k (A.deeper (envF F f s.heap.objs.size)) → ws.length = 1 → sp vs H Q E →
      ∃ t, PSs (ncx CX P w K mg base N F f A outer s H E) rest t ∧ t { nx := fun _ H' => Q .non H', rt := Q } (startF N vs ws) H) :
    FnOk P w K mg base CX (k + 1) f (PySem.W.fnX F.name F.qual F.params F.body F.scope F.cl dV kV doc pm an (.ref F.c) ct) ps sp := by
  refine ⟨len, fun A outer s H args us vs Q E hr e0 hb r hsp => ?_⟩
  have hl := len _ _ _ _ hsp
  have KX : K.In s.heap := e0.mod.kin.keeps fun b o e => (e0.bs b o e).1
  have lim : s.heap.NoLimit := e0.mod.nolimit.keeps fun b o e => (e0.bs b o e).1
  obtain ⟨x, vr, hvx, hx⟩ := hpre vs H Q E hsp
  -- the static cell
  have C0 : CellsAt F.cl ["__class__"] [some (V.ref C)] s.heap H := by
    have cellcc : s.heap.IsCell cc (some (.ref C)) := ⟨_, KX _ _ hcell, rfl⟩
    have hHcc : H cc = none := by
      have q := e0.mod.kin _ _ hcell
      exact (e0.bs _ _ q).2
    refine ⟨rfl, fun y c e => ?_, fun y z c e1 e2 => ?_, fun i y e => ?_⟩
    · rw [hcl] at e
      have e' := PySem.mem_of_lookup e
      simp at e'
      obtain ⟨_, rfl⟩ := e'
      exact ⟨hHcc, _, cellcc⟩
    · rw [hcl] at e1 e2
      have e1' := PySem.mem_of_lookup e1
      have e2' := PySem.mem_of_lookup e2
      simp at e1' e2'
      rw [e1'.1, e2'.1]
    · cases i with
      | zero =>
        have ey : y = "__class__" := by simpa using e.symm
        subst ey
        refine ⟨cc, by rw [hcl]; rfl, fun v hv => ?_⟩
        have ev : v = V.ref C := by simpa using hv.symm
        subst ev
        exact ⟨_, rfl, cellcc⟩
      | succ i => simp at e
  refine PySem.ks_codeAny_call_defAt (body := F.body) (binds := ps.zip us) hr.depth (KX _ _ lk) rfl lim (PySem.W.codeRec_of KX hcode) rfl (hb) S.nocell (fun ⟨n, _⟩ hy => S.par n (List.of_mem_zip hy).1) (fun h₁ hns kp => ?_) S.co S.gen S.kind
  have I0 : Inv (ncx CX P w K mg base N F f A outer s H E) [] (startF N vs [some (V.ref C)]) H { s with heap := h₁, toks := s.toks + (ps.zip us).length } := inv_startN S hr.hd e0 hl r C0 hns kp
  have X1 : K.In h₁ := KX.keeps kp
  have hcx : ∀ e s', (ncx CX P w K mg base N F f A outer s H E).xe e s' = wpAny (model P w) (A.deeper (envF F f s.heap.objs.size)) (leaving (envF F f s.heap.objs.size) e) (fun _ s'' => CX outer H s E e s'') (fun e' s'' => CX outer H s E e' s'') s' := fun _ _ => rfl
  obtain ⟨t1, hx1⟩ := exo_at I0.hok hx
  subst hvx
  have hlen1 : 0 < ps.length := by
    rw [← hl]; simp
  obtain ⟨ux, ur, rfl, hux⟩ : ∃ ux ur, us = ux :: ur ∧ ux = .ref x := by
    cases r with
    | cons rv rn => exact ⟨_, _, rfl, rv⟩
  subst hux
  have hself : (ps.zip (Value.ref x :: ur)).reverse.lookup ar.arg = some (.ref x) := by
    have ndP : ps.Nodup := by
      have q := S.nd.sublist (List.take_sublist (ps.length + 1) N)
      have q2 := S.pre
      rw [show (["__class__"] : List Str).length = 1 from rfl] at q2
      rw [q2] at q
      exact (List.nodup_append.mp q).1
    exact zip_look (i := 0) ndP hps rfl
  obtain ⟨mb, hb1, hb2⟩ := e0.mod.blt
  have bk : ∀ b o, base.get? b = some o → h₁.get? b = some o := fun b o e => kp _ _ (e0.bs b o e).1
  obtain ⟨oD, hD1, hD2⟩ : ∃ oD, h₁.get? C = some oD ∧ oD.data = .cls cdD := by
    have hD := hcls
    unfold PySem.W.clsIn at hD
    split at hD
    · rename_i c d cd' sl ho
      cases hD
      exact ⟨_, X1 _ _ ho, rfl⟩
    · cases hD
  have hk : F.scope.kind = .function := S.kind
  have hkc : F.scope.names.lookup ("__class__" : Str) = some .free := S.frk _ (List.mem_singleton.mpr rfl)
  have hka : F.scope.names.lookup ar.arg = some .local := S.par _ (List.mem_of_getElem? hps)
  show PySem.wpAt (model P w) (A.deeper (envF F f s.heap.objs.size)) (.func F.body (envF F f s.heap.objs.size)) (execs F.body (envF F f s.heap.objs.size)) _ _ _
  rw [hbody]
  refine ks_wpAt_execs_cons (ks_wpAt_Expr_any (ks_wpAt_MethodCall (pl := pl) ?_ (hev _)) (hst _) (hsw _))
  refine ks_wpAt_super_base (env := envF F f s.heap.objs.size) hks hkc (by decide) rfl (X1 _ _ lk) rfl hp rfl (X1 _ _ hco) rfl hvs hfile htop ?_
  refine PySem.W.ks_loadName_global hk hks (Calls.loadGlobal_builtin (env := envF F f s.heap.objs.size) (e0.mod.glob.keeps bk) hsuper (hb1.keeps bk) ((hb2 _ (by decide +kernel)).trans hboot) ⟨rfl, ?_⟩)
  refine wpAny_loadName_free hk hkc (by show List.lookup _ F.cl = _; rw [hcl]; rfl) ⟨_, X1 _ _ hcell, rfl⟩ ?_
  refine wpAny_loadName_local hk hka hns hself ?_
  refine ks_wpAny_isType_cls hD1 hD2 ⟨rfl, ?_⟩
  have hI1 : PySem.W.Looks (model P w) h₁ (isSubtype (.ref C) (.ref C)) true := PySem.W.looks_mroIn X1 hsub
  refine ks_wpAny_call_super (h := h₁) hD1 hD2 hx1 rfl (fun c e => by cases e) hI1 (fun h2 e2 k2 => ?_)
  have X2 : K.In h2 := X1.keeps k2
  have hx2 := k2 _ _ hx1
  have hxC : x ≠ C := by
    rintro rfl
    rw [hx1] at hD1
    cases hD1
    cases hD2
  have IA : PySem.W.InstAt h2 x ({ cls := .ref C, dict := none, data := .fields #[.ref t1, .none, .none, .none, .bool false, .none] } : Obj) C none := ⟨hx2, rfl, rfl, trivial⟩
  have hI : PySem.W.Looks (model P w) h2 (isInstance (.ref x) (.type "ValueError")) true := IA.type.andThen (PySem.W.looks_subIn X2 hB)
  have hmro : PySem.W.Looks (model P w) h2 (mroOf (.ref C)) cdD.mro := fun A Q E s k q => wpAny_bind ((PySem.W.looks_clsIn X2 hcls) A _ E s k (wpAny_pure q))
  have hal : PySem.W.alongIn K "__init__" ((cdD.mro.dropWhile (· != .ref C)).drop 1) = some (some (.builtin "ValueError.__init__")) := by
    have q := hm
    unfold PySem.W.ks_superIn at q
    rw [hcls] at q
    exact q
  refine PySem.W.kxs_getMethod PySem.W.kxs_ValueError e2 (PySem.W.looks_opaque X2 ho) hmro rfl X2 hal hI hxC (by decide) ?_
  have hs1 : ∀ L, starEach [.Constant (.str txt) j p3] (envF F f L) = (false, eval (.Constant (.str txt) j p3) (envF F f L)) :: starEach [] (envF F f L) := fun _ => rfl
  have k3 : ∀ b o, h2.get? b = some o → (h2.push (PySem.W.kxs_mw "ValueError.__init__" x)).get? b = some o := fun b o e => Heap.get?_push_of_some _ e
  have hu : (h2.push (PySem.W.kxs_mw "ValueError.__init__" x)).get? h2.objs.size = some (PySem.W.kxs_mw "ValueError.__init__" x) := Heap.get?_push_at rfl rfl
  show wpAny _ _ (callWith p4 (.ref h2.objs.size) [] (backTo p4 (starEach [.Constant (.str txt) j p3] (envF F f s.heap.objs.size))) []) _ _ _
  rw [hs1]
  refine PySem.W.kxs_callWith (i := "ValueError.__init__") (x := x) rfl ?_
  refine Calls.evalArgs_plain ?_
  refine Calls.spliced_cons ?_
  show wpAny _ _ (eval (.Constant (.str txt) j p3) (envF F f s.heap.objs.size)) _ _ _
  refine Calls.Constant_str ?_
  refine Calls.spliced_nil ⟨hu, ?_⟩
  obtain ⟨nm, q, N', bs, bm, sn, sub, ab, col, dd, k0, kk1, kk2, kk3, kk5, hC, hbm⟩ := T.cls
  have X3 : K.In (h2.push (PySem.W.kxs_mw "ValueError.__init__" x)) := X2.keeps k3
  have hx3 := k3 _ _ hx2
  refine wpAny_call (codeAny_of_tree ?_)
  show wpAny _ (A.deeper (envF F f s.heap.objs.size)).in1 (callAny (.ref h2.objs.size) ⟨[.str txt _], []⟩) _ _ _
  simp only [callAny]
  refine wpAny_bind (wpAny_load hu ?_)
  simp only [PySem.W.kxs_mw, show (Value.type "method-wrapper" == Value.type "method" || Value.type "method-wrapper" == Value.type "builtin_function_or_method" || Value.type "method-wrapper" == Value.type "method-wrapper") = true by decide, if_true]
  refine PySem.W.KFB.if_so (by decide) ?_
  refine wpAny_bind (PySem.W.check_bound_init PySem.F.excBase_ValueError.toExcCallFacts (X3 _ _ hC) hx3 rfl ?_)
  refine wpAny_bind (wpAny_pure (wpAny_pure ?_))
  refine ⟨PySem.plainId_quiet PySem.F.excBase_ValueError.init.plain _, codeAny_builtin PySem.F.excBase_ValueError.initEntry ?_⟩
  refine PySem.W.exc_init_tree (cls := .ref C) (t0 := t1) (dv := none) (c2 := .none) (c3 := .none) (b4 := .bool false) hx3 (by show 1 ≤ sizeLine; decide) (fun h4 k4 e4 _ => ?_)
  show PySem.wpAt (model P w) (A.deeper (envF F f s.heap.objs.size)) (.func (sSup p0 p1 p2 p3 p4 p5 txt j :: rest) (envF F f s.heap.objs.size)) (execs rest (envF F f s.heap.objs.size)) _ _ _
  refine wpAt_of_wpAny ?_
  have I3 := I0.kept (h' := h2.push (PySem.W.kxs_mw "ValueError.__init__" x)) (t' := s.toks + (ps.zip (Value.ref x :: ur)).length + 1 + 1) (fun b o e => k3 _ _ (k2 _ _ e))
  have J := I3.write (h' := h4) (t' := s.toks + (ps.zip (Value.ref x :: ur)).length + 1 + 1) (x := x) (e := x) (o := exo x C none) (by rw [hx]; exact True.intro) (.inl rfl) k4 ⟨_, e4⟩ (exo_ok e4)
  have eu : upd H x (exo x C none) = H := by
    funext b
    by_cases hb : b = x
    · rw [hb, upd_same, hx]
    · rw [upd_ne hb]
  rw [eu] at J
  obtain ⟨t, ht, hq⟩ := hrest A outer s H (.ref x :: vr) [some (V.ref C)] Q E (hr.deeper _) rfl hsp
  refine wpAny_mono (ht.run [] _ _ H _ J hq) (fun fl s' hs => ?_) fun e s' hs => hs
  have fin : ∀ {σ' : L2.St} {H' : Hp} {v : V} {u : Value}, Inv (ncx CX P w K mg base N F f A outer s H E) [] σ' H' s' → L2.RelV v u → Q v H' → CE outer P w H s Q u s' :=
    fun {σ' H' v u} J rv q => ⟨v, H', J.os, J.bare, J.base, J.hok, rv, q⟩
  cases fl with
  | ret u =>
    obtain ⟨v, σ', H', J, rv, q⟩ := hs
    exact fin J rv q
  | next =>
    obtain ⟨σ', H', J, q⟩ := hs
    exact fin (v := V.non) (u := Value.none) J rfl q
  | brk =>
    obtain ⟨_, _, _, q⟩ := hs
    exact False.elim q
  | cont =>
    obtain ⟨_, _, _, q⟩ := hs
    exact False.elim q
end
end SupX
/-! part T27 -/
/-! The text by its places; what the top has written. -/
namespace TX
open PySem PySem.Spec PyProof.Rows L2 NT
def topS (i : Nat) : Stmt := PySem.Challenge.pw_nodetour_k27_deeds_as_texts.main.body.getD i (.Pass ⟨0, 0, 0, 0⟩)
abbrev s_copy_of : Stmt := topS 1
abbrev n_copy_of : List Str := ["value", "parts", "firsts", "inner", "k", "first"]
theorem sc_copy_of : FnScope n_copy_of ["value"] (defScope s_copy_of) := ⟨rfl, rfl, rfl, by decide +kernel, rfl, by decide +kernel, by decide +kernel⟩
abbrev s_parts_of : Stmt := topS 2
abbrev n_parts_of : List Str := ["value"]
theorem sc_parts_of : FnScope n_parts_of ["value"] (defScope s_parts_of) := ⟨rfl, rfl, rfl, by decide +kernel, rfl, by decide +kernel, by decide +kernel⟩
abbrev s_made_of : Stmt := topS 3
abbrev n_made_of : List Str := ["value", "parts", "key", "part"]
theorem sc_made_of : FnScope n_made_of ["value", "parts"] (defScope s_made_of) := ⟨rfl, rfl, rfl, by decide +kernel, rfl, by decide +kernel, by decide +kernel⟩
abbrev s_need_text : Stmt := topS 9
abbrev n_need_text : List Str := ["value"]
theorem sc_need_text : FnScope n_need_text ["value"] (defScope s_need_text) := ⟨rfl, rfl, rfl, by decide +kernel, rfl, by decide +kernel, by decide +kernel⟩
abbrev s_past : Stmt := topS 10
abbrev n_past : List Str := ["text", "at", "word", "sign"]
theorem sc_past : FnScope n_past ["text", "at", "word"] (defScope s_past) := ⟨rfl, rfl, rfl, by decide +kernel, rfl, by decide +kernel, by decide +kernel⟩
abbrev s_past_end : Stmt := topS 11
abbrev n_past_end : List Str := ["text", "at"]
theorem sc_past_end : FnScope n_past_end ["text", "at"] (defScope s_past_end) := ⟨rfl, rfl, rfl, by decide +kernel, rfl, by decide +kernel, by decide +kernel⟩
abbrev s_number_at : Stmt := topS 12
abbrev n_number_at : List Str := ["text", "at", "kind", "begin", "firsts", "end"]
theorem sc_number_at : FnScope n_number_at ["text", "at", "kind"] (defScope s_number_at) := ⟨rfl, rfl, rfl, by decide +kernel, rfl, by decide +kernel, by decide +kernel⟩
abbrev s_signs_among : Stmt := topS 13
abbrev n_signs_among : List Str := ["text", "signs", "many"]
theorem sc_signs_among : FnScope n_signs_among ["text", "signs"] (defScope s_signs_among) := ⟨rfl, rfl, rfl, by decide +kernel, rfl, by decide +kernel, by decide +kernel⟩
abbrev s_numbers_at : Stmt := topS 14
abbrev n_numbers_at : List Str := ["text", "at", "form", "numbers", "sign", "number"]
theorem sc_numbers_at : FnScope n_numbers_at ["text", "at", "form"] (defScope s_numbers_at) := ⟨rfl, rfl, rfl, by decide +kernel, rfl, by decide +kernel, by decide +kernel⟩
abbrev s_deed_text : Stmt := topS 17
abbrev n_deed_text : List Str := ["deed", "word", "x", "y"]
theorem sc_deed_text : FnScope n_deed_text ["deed"] (defScope s_deed_text) := ⟨rfl, rfl, rfl, by decide +kernel, rfl, by decide +kernel, by decide +kernel⟩
abbrev s_read_deed : Stmt := topS 18
abbrev n_read_deed : List Str := ["text", "deed", "at"]
theorem sc_read_deed : FnScope n_read_deed ["text"] (defScope s_read_deed) := ⟨rfl, rfl, rfl, by decide +kernel, rfl, by decide +kernel, by decide +kernel⟩
abbrev s_deed_at : Stmt := topS 19
abbrev n_deed_at : List Str := ["text", "at", "word", "x", "y", "end"]
theorem sc_deed_at : FnScope n_deed_at ["text", "at"] (defScope s_deed_at) := ⟨rfl, rfl, rfl, by decide +kernel, rfl, by decide +kernel, by decide +kernel⟩
abbrev s_log_text : Stmt := topS 20
abbrev n_log_text : List Str := ["deeds", "deed"]
theorem sc_log_text : FnScope n_log_text ["deeds"] (defScope s_log_text) := ⟨rfl, rfl, rfl, by decide +kernel, rfl, by decide +kernel, by decide +kernel⟩
abbrev s_read_log : Stmt := topS 21
abbrev n_read_log : List Str := ["text", "deed", "at", "deeds"]
theorem sc_read_log : FnScope n_read_log ["text"] (defScope s_read_log) := ⟨rfl, rfl, rfl, by decide +kernel, rfl, by decide +kernel, by decide +kernel⟩
abbrev s_L_snake : Stmt := topS 23
abbrev n_L_snake : List Str := ["source", "many", "cells", "way", "lap", "dx", "dy"]
theorem sc_L_snake : FnScope n_L_snake ["source", "many"] (defScope s_L_snake) := ⟨rfl, rfl, rfl, by decide +kernel, rfl, by decide +kernel, by decide +kernel⟩
abbrev s_L_bent_room : Stmt := topS 24
abbrev n_L_bent_room : List Str := ["source", "most", "is_snake", "many", "cells", "lap", "late", "about", "cell", "x", "y"]
theorem sc_L_bent_room : FnScope n_L_bent_room ["source", "most"] (defScope s_L_bent_room) := ⟨rfl, rfl, rfl, by decide +kernel, rfl, by decide +kernel, by decide +kernel⟩
abbrev s_L_open_cells : Stmt := topS 25
abbrev n_L_open_cells : List Str := ["script", "stirred", "cell", "cells"]
theorem sc_L_open_cells : FnScope n_L_open_cells ["script"] (defScope s_L_open_cells) := ⟨rfl, rfl, rfl, by decide +kernel, rfl, by decide +kernel, by decide +kernel⟩
abbrev s_L_pick : Stmt := topS 26
abbrev n_L_pick : List Str := ["source", "most", "cells", "others", "lap", "stirred"]
theorem sc_L_pick : FnScope n_L_pick ["source", "most"] (defScope s_L_pick) := ⟨rfl, rfl, rfl, by decide +kernel, rfl, by decide +kernel, by decide +kernel⟩
abbrev s_L_sides : Stmt := topS 27
abbrev n_L_sides : List Str := ["cell", "x", "y"]
theorem sc_L_sides : FnScope n_L_sides ["cell"] (defScope s_L_sides) := ⟨rfl, rfl, rfl, by decide +kernel, rfl, by decide +kernel, by decide +kernel⟩
abbrev s_L_near : Stmt := topS 28
abbrev n_L_near : List Str := ["cell", "x", "y", "found"]
theorem sc_L_near : FnScope n_L_near ["cell"] (defScope s_L_near) := ⟨rfl, rfl, rfl, by decide +kernel, rfl, by decide +kernel, by decide +kernel⟩
abbrev s_L_parts_by : Stmt := topS 29
abbrev n_L_parts_by : List Str := ["cells", "is_near", "cell", "left", "found", "some", "rest", "here", "late"]
theorem sc_L_parts_by : FnScope n_L_parts_by ["cells", "is_near"] (defScope s_L_parts_by) := ⟨rfl, rfl, rfl, by decide +kernel, rfl, by decide +kernel, by decide +kernel⟩
abbrev s_L_is_room : Stmt := topS 30
abbrev n_L_is_room : List Str := ["cells", "x", "xs", "ys", "frame", "here", "y", "cell"]
theorem sc_L_is_room : FnScope n_L_is_room ["cells"] (defScope s_L_is_room) := ⟨rfl, rfl, rfl, by decide +kernel, rfl, by decide +kernel, by decide +kernel⟩
abbrev s_L_draw_room : Stmt := topS 31
abbrev n_L_draw_room : List Str := ["source", "most", "cells", "many", "lap", "late"]
theorem sc_L_draw_room : FnScope n_L_draw_room ["source", "most"] (defScope s_L_draw_room) := ⟨rfl, rfl, rfl, by decide +kernel, rfl, by decide +kernel, by decide +kernel⟩
abbrev s_L_moved : Stmt := topS 32
abbrev n_L_moved : List Str := ["lot", "dx", "dy", "x", "y"]
theorem sc_L_moved : FnScope n_L_moved ["lot", "dx", "dy"] (defScope s_L_moved) := ⟨rfl, rfl, rfl, by decide +kernel, rfl, by decide +kernel, by decide +kernel⟩
abbrev s_L_how_far : Stmt := topS 33
abbrev n_L_how_far : List Str := ["grammar", "text", "first", "lots", "open_ones", "place", "ready", "rows", "way"]
theorem sc_L_how_far : FnScope n_L_how_far ["grammar", "text", "first"] (defScope s_L_how_far) := ⟨rfl, rfl, rfl, by decide +kernel, rfl, by decide +kernel, by decide +kernel⟩
abbrev s_L_near_texts : Stmt := topS 34
abbrev n_L_near_texts : List Str := ["source", "text", "signs", "found", "turn", "k", "sign", "some"]
theorem sc_L_near_texts : FnScope n_L_near_texts ["source", "text", "signs"] (defScope s_L_near_texts) := ⟨rfl, rfl, rfl, by decide +kernel, rfl, by decide +kernel, by decide +kernel⟩
abbrev s_L_deed_line : Stmt := topS 35
abbrev n_L_deed_line : List Str := ["deed"]
theorem sc_L_deed_line : FnScope n_L_deed_line ["deed"] (defScope s_L_deed_line) := ⟨rfl, rfl, rfl, by decide +kernel, rfl, by decide +kernel, by decide +kernel⟩
abbrev s_L_log_lines : Stmt := topS 36
abbrev n_L_log_lines : List Str := ["deeds", "deed"]
theorem sc_L_log_lines : FnScope n_L_log_lines ["deeds"] (defScope s_L_log_lines) := ⟨rfl, rfl, rfl, by decide +kernel, rfl, by decide +kernel, by decide +kernel⟩
abbrev s_L_text_rules : Stmt := topS 37
abbrev n_L_text_rules : List Str := ["found", "k", "word"]
theorem sc_L_text_rules : FnScope n_L_text_rules [] (defScope s_L_text_rules) := ⟨rfl, rfl, rfl, by decide +kernel, rfl, by decide +kernel, by decide +kernel⟩
abbrev s_L_draw_deed : Stmt := topS 38
abbrev n_L_draw_deed : List Str := ["source", "stand", "cells", "seats", "road", "cell"]
theorem sc_L_draw_deed : FnScope n_L_draw_deed ["source", "stand"] (defScope s_L_draw_deed) := ⟨rfl, rfl, rfl, by decide +kernel, rfl, by decide +kernel, by decide +kernel⟩
abbrev s_L_read_by : Stmt := topS 39
abbrev n_L_read_by : List Str := ["call", "e"]
theorem sc_L_read_by : FnScope n_L_read_by ["call"] (defScope s_L_read_by) := ⟨rfl, rfl, rfl, by decide +kernel, rfl, by decide +kernel, by decide +kernel⟩
abbrev s_L_near_right : Stmt := topS 40
abbrev n_L_near_right : List Str := ["source", "rules", "text", "place", "is_whole", "told", "near"]
theorem sc_L_near_right : FnScope n_L_near_right ["source", "rules", "text"] (defScope s_L_near_right) := ⟨rfl, rfl, rfl, by decide +kernel, rfl, by decide +kernel, by decide +kernel⟩
abbrev s_L_typed_right : Stmt := topS 41
abbrev n_L_typed_right : List Str := ["great", "rows", "due", "told", "text", "value"]
theorem sc_L_typed_right : FnScope n_L_typed_right ["great"] (defScope s_L_typed_right) := ⟨rfl, rfl, rfl, by decide +kernel, rfl, by decide +kernel, by decide +kernel⟩
abbrev s_law : Stmt := topS 42
abbrev n_law : List Str := ["script", "source", "rules", "lap", "room", "seats", "deeds", "deed", "line", "text", "turn"]
theorem sc_law : FnScope n_law ["script"] (defScope s_law) := ⟨rfl, rfl, rfl, by decide +kernel, rfl, by decide +kernel, by decide +kernel⟩
abbrev s_init : Stmt := inClass (topS 5) 0
/-- a def as it stands behind the top -/
structure DF (K : PySem.W.Frag) (mg : Str → Option Value) (x : Str) (st : Stmt) (ps : List Str) (f : Addr) (fd : FuncData) : Prop where
  F : Fun K x x st f fd
  g : mg x = some (.ref f)
  b : L2.Binds K fd ps []
abbrev clI (cc : Addr) : List (Str × Addr) := [("__class__", cc)]
/-- BadText and its __init__ -/
structure BadC (K : PySem.W.Frag) (mg : Str → Option Value) (C R fI cc : Addr) : Prop where
  gC : mg "BadText" = some (.ref C)
  gR : mg "RoomError" = some (.ref R)
  ox : OexC K C
  iC : PySem.W.findIn K (.ref C) "__init__" = some (some (.ref fI))
  tI : PySem.W.typeIn K (.ref fI) = some (.type "function")
  noP : PySem.W.findIn K (.ref C) "place" = some none
  sub : PySem.W.mroIn K C (.ref C) = some true
  cls : ∃ cd, PySem.W.clsIn K C = some cd
  sup : PySem.W.ks_superIn K C C "__init__" = some (some (.builtin "ValueError.__init__"))
  sVE : PySem.W.subIn K (.ref C) (.type "ValueError") = some true
  opq : PySem.W.nsIn K cStatics "thirdparty.any" = some none
  te : PySem.W.exmOne K (.ref C) (.ref C) = some true
  xf : XfC K C
  ex : ExcC K C
  kit : PySem.W.kitOne K (.ref C) (.ref R) = some true
  fn : ∃ (oc kV doc pm ct ccl cl' : Value) (od an cdd cld : Option Addr) (osl ccs csl : Array (Option Value)) (vs0 : Array Value) (tf : Tok) (cda : Addr) ,
    K.lookup fI = some ⟨oc, od, .func (PySem.W.fnX "__init__" "BadText.__init__" (defArgs s_init) (defBody s_init) (defScope s_init) (clI cc) .none kV doc pm an (.ref cda) ct), osl⟩ ∧
    PySem.W.codeIn K (.ref cda) "BadText.__init__" = true ∧ K.lookup cda = some ⟨ccl, cdd, .fields vs0, ccs⟩ ∧ vs0[2]? = some (.str "/claim/cut.py" tf) ∧ K.lookup cc = some ⟨cl', cld, .cell (some (.ref C)), csl⟩
/-- the dict of how many digits -/
structure MostAt (w : World) (K : PySem.W.Frag) (a : Addr) : Prop where
  kd : ∃ es n, KDict K w a es n
  yz : ∃ t, PySem.W.nsIn K a "z" = some (some (.int 9 t))
  yn : ∃ t, PySem.W.nsIn K a "n" = some (some (.int 9 t))
  yZ : ∃ t, PySem.W.nsIn K a "Z" = some (some (.int 60 t))
  no : ∀ x : Str, x ≠ "z" → x ≠ "n" → x ≠ "Z" → PySem.W.nsIn K a x = some none
theorem most_mk {w : World} {K : PySem.W.Frag} {a : Addr} {t1 t2 t3 u1 u2 u3 : Tok} {n : Nat}
    (l : K.lookup a = some ⟨.type "dict", none, .dict #[⟨PyData.keyHash w.params "z", .str "z" t1, .int 9 u1⟩, ⟨PyData.keyHash w.params "n", .str "n" t2, .int 9 u2⟩, ⟨PyData.keyHash w.params "Z", .str "Z" t3, .int 60 u3⟩] n, #[]⟩)
    (low : (a == sysModules) = false) : MostAt w K a := by
  refine ⟨⟨_, _, ⟨l, ⟨⟨_, _, rfl, rfl⟩, ⟨_, _, rfl, rfl⟩, ⟨_, _, rfl, rfl⟩, trivial⟩, low⟩⟩, ⟨u1, ?_⟩, ⟨u2, ?_⟩, ⟨u3, ?_⟩, fun x h1 h2 h3 => ?_⟩
  · unfold PySem.W.nsIn
    rw [l]
    rfl
  · unfold PySem.W.nsIn
    rw [l]
    rfl
  · unfold PySem.W.nsIn
    rw [l]
    rfl
  · unfold PySem.W.nsIn
    rw [l]
    have e : ∀ {k : Str} {t : Tok}, x ≠ k → (Value.str k t).isStr x = false := fun {k t} h => by
      rw [PySem.W.isStr_of]
      unfold Value.isStrOf
      exact beq_eq_false_iff_ne.mpr (Ne.symm h)
    simp only [List.find?_cons, e h1, e h2, e h3, List.find?_nil]
    rfl
structure Txt (w : World) (K : PySem.W.Frag) (mg : Str → Option Value) : Prop where
  d_copy_of : ∃ f fd, DF K mg "copy_of" s_copy_of ["value"] f fd
  d_parts_of : ∃ f fd, DF K mg "parts_of" s_parts_of ["value"] f fd
  d_made_of : ∃ f fd, DF K mg "made_of" s_made_of ["value", "parts"] f fd
  d_need_text : ∃ f fd, DF K mg "need_text" s_need_text ["value"] f fd
  d_past : ∃ f fd, DF K mg "past" s_past ["text", "at", "word"] f fd
  d_past_end : ∃ f fd, DF K mg "past_end" s_past_end ["text", "at"] f fd
  d_number_at : ∃ f fd, DF K mg "number_at" s_number_at ["text", "at", "kind"] f fd
  d_signs_among : ∃ f fd, DF K mg "signs_among" s_signs_among ["text", "signs"] f fd
  d_numbers_at : ∃ f fd, DF K mg "numbers_at" s_numbers_at ["text", "at", "form"] f fd
  d_deed_text : ∃ f fd, DF K mg "deed_text" s_deed_text ["deed"] f fd
  d_read_deed : ∃ f fd, DF K mg "read_deed" s_read_deed ["text"] f fd
  d_deed_at : ∃ f fd, DF K mg "deed_at" s_deed_at ["text", "at"] f fd
  d_log_text : ∃ f fd, DF K mg "log_text" s_log_text ["deeds"] f fd
  d_read_log : ∃ f fd, DF K mg "read_log" s_read_log ["text"] f fd
  d_L_snake : ∃ f fd, DF K mg "_law_snake" s_L_snake ["source", "many"] f fd
  d_L_bent_room : ∃ f fd, DF K mg "_law_bent_room" s_L_bent_room ["source", "most"] f fd
  d_L_open_cells : ∃ f fd, DF K mg "_law_open_cells" s_L_open_cells ["script"] f fd
  d_L_pick : ∃ f fd, DF K mg "_law_pick" s_L_pick ["source", "most"] f fd
  d_L_sides : ∃ f fd, DF K mg "_law_sides" s_L_sides ["cell"] f fd
  d_L_near : ∃ f fd, DF K mg "_law_near" s_L_near ["cell"] f fd
  d_L_parts_by : ∃ f fd, DF K mg "_law_parts_by" s_L_parts_by ["cells", "is_near"] f fd
  d_L_is_room : ∃ f fd, DF K mg "_law_is_room" s_L_is_room ["cells"] f fd
  d_L_draw_room : ∃ f fd, DF K mg "_law_draw_room" s_L_draw_room ["source", "most"] f fd
  d_L_moved : ∃ f fd, DF K mg "_law_moved" s_L_moved ["lot", "dx", "dy"] f fd
  d_L_how_far : ∃ f fd, DF K mg "_law_how_far" s_L_how_far ["grammar", "text", "first"] f fd
  d_L_near_texts : ∃ f fd, DF K mg "_law_near_texts" s_L_near_texts ["source", "text", "signs"] f fd
  d_L_deed_line : ∃ f fd, DF K mg "_law_deed_line" s_L_deed_line ["deed"] f fd
  d_L_log_lines : ∃ f fd, DF K mg "_law_log_lines" s_L_log_lines ["deeds"] f fd
  d_L_text_rules : ∃ f fd, DF K mg "_law_text_rules" s_L_text_rules [] f fd
  d_L_draw_deed : ∃ f fd, DF K mg "_law_draw_deed" s_L_draw_deed ["source", "stand"] f fd
  d_L_read_by : ∃ f fd, DF K mg "_law_read_by" s_L_read_by ["call"] f fd
  d_L_near_right : ∃ f fd, DF K mg "_law_near_right" s_L_near_right ["source", "rules", "text"] f fd
  d_L_typed_right : ∃ f fd, DF K mg "_law_typed_right" s_L_typed_right ["great"] f fd
  bad : ∃ C R fI cc, BadC K mg C R fI cc
  z_ValueError : mg "ValueError" = none
  z_abs : mg "abs" = none
  z_dict : mg "dict" = none
  z_int : mg "int" = none
  z_isinstance : mg "isinstance" = none
  z_len : mg "len" = none
  z_list : mg "list" = none
  z_max : mg "max" = none
  z_min : mg "min" = none
  z_range : mg "range" = none
  z_repr : mg "repr" = none
  z_reversed : mg "reversed" = none
  z_sorted : mg "sorted" = none
  z_str : mg "str" = none
  z_super : mg "super" = none
  z_tuple : mg "tuple" = none
  z_zip : mg "zip" = none
  digits : ∃ t, mg "DIGITS" = some (.str "0123456789" t)
  most : ∃ a, mg "MOST_DIGITS" = some (.ref a) ∧ MostAt w K a
  words : ∃ a, mg "WORDS" = some (.ref a) ∧ ∀ H, SqT K H a [.str "open", .str "wall", .str "set", .str "take"]
theorem df_mk {K : PySem.W.Frag} {mg : Str → Option Value} {h : Heap} {x : Str} {st : Stmt} {ps : List Str} {f : Addr} {oc : Value} {od an : Option Addr} {osl : Array (Option Value)} {kV doc pm cdv ct : Value} (X : K.In h) (G : h.Ns mainGlobals mg)
    (a : PySem.W.nsIn K mainGlobals x = some (some (.ref f)))
    (l : K.lookup f = some ⟨oc, od, .func (PySem.W.fnOf x x (defArgs st) (defBody st) (defScope st) .none kV doc pm an cdv ct), osl⟩)
    (c : PySem.W.codeIn K cdv x = true) (k : PySem.W.keepIn K (.ref f) = true)
    (hb : ∀ (kV doc pm : Value) (an : Option Addr) (cdv ct : Value) (us : List Value), us.length = ps.length → bindArgs (PySem.W.fnOf x x (defArgs st) (defBody st) (defScope st) .none kV doc pm an cdv ct) ⟨us, []⟩ = pure (ps.zip us)) :
    ∃ f fd, DF K mg x st ps f fd :=
  ⟨f, _, fun_mk l c k, PySem.W.mg_of X G a, (fun_mk l c k).binds hb⟩
theorem all_mk {P : Program} {w : World} {K : PySem.W.Frag} {h : Heap} {mg : Str → Option Value} {fa C R fI cc cda mA wA f0 f1 f2 f3 f4 f5 f6 f7 f8 f9 f10 f11 f12 f13 f14 f15 f16 f17 f18 f19 f20 f21 f22 f23 f24 f25 f26 f27 f28 f29 f30 f31 f32 f33 : Addr} (X : K.In h) (G : h.Ns mainGlobals mg) (hfa : mg "law" = some (.ref fa))
    {nm q : Str} {N : Addr} {bs : List Value} {sn : List Str} {sub : List Value} {ab : Bool} {col : Option Bool} {dd : Option Addr} {m0 m1 m2 m3 m5 : Option Value} {tD t1 t2 t3 u1 u2 u3 tf q1 q2 q3 q4 : Tok} {nM nW : Nat} {dW : Option Addr} {slW : Array (Option Value)}
    {ocI kVI docI pmI ctI ccl clc : Value} {odI anI cdd cld : Option Addr} {oslI ccs csl : Array (Option Value)} {vs0 : Array Value}
    {od0 an0 od1 an1 od2 an2 od3 an3 od4 an4 od5 an5 od6 an6 od7 an7 od8 an8 od9 an9 od10 an10 od11 an11 od12 an12 od13 an13 od14 an14 od15 an15 od16 an16 od17 an17 od18 an18 od19 an19 od20 an20 od21 an21 od22 an22 od23 an23 od24 an24 od25 an25 od26 an26 od27 an27 od28 an28 od29 an29 od30 an30 od31 an31 od32 an32 od33 an33 : Option Addr} {sl0 sl1 sl2 sl3 sl4 sl5 sl6 sl7 sl8 sl9 sl10 sl11 sl12 sl13 sl14 sl15 sl16 sl17 sl18 sl19 sl20 sl21 sl22 sl23 sl24 sl25 sl26 sl27 sl28 sl29 sl30 sl31 sl32 sl33 : Array (Option Value)} {oc0 kV0 dc0 pm0 cd0 ct0 oc1 kV1 dc1 pm1 cd1 ct1 oc2 kV2 dc2 pm2 cd2 ct2 oc3 kV3 dc3 pm3 cd3 ct3 oc4 kV4 dc4 pm4 cd4 ct4 oc5 kV5 dc5 pm5 cd5 ct5 oc6 kV6 dc6 pm6 cd6 ct6 oc7 kV7 dc7 pm7 cd7 ct7 oc8 kV8 dc8 pm8 cd8 ct8 oc9 kV9 dc9 pm9 cd9 ct9 oc10 kV10 dc10 pm10 cd10 ct10 oc11 kV11 dc11 pm11 cd11 ct11 oc12 kV12 dc12 pm12 cd12 ct12 oc13 kV13 dc13 pm13 cd13 ct13 oc14 kV14 dc14 pm14 cd14 ct14 oc15 kV15 dc15 pm15 cd15 ct15 oc16 kV16 dc16 pm16 cd16 ct16 oc17 kV17 dc17 pm17 cd17 ct17 oc18 kV18 dc18 pm18 cd18 ct18 oc19 kV19 dc19 pm19 cd19 ct19 oc20 kV20 dc20 pm20 cd20 ct20 oc21 kV21 dc21 pm21 cd21 ct21 oc22 kV22 dc22 pm22 cd22 ct22 oc23 kV23 dc23 pm23 cd23 ct23 oc24 kV24 dc24 pm24 cd24 ct24 oc25 kV25 dc25 pm25 cd25 ct25 oc26 kV26 dc26 pm26 cd26 ct26 oc27 kV27 dc27 pm27 cd27 ct27 oc28 kV28 dc28 pm28 cd28 ct28 oc29 kV29 dc29 pm29 cd29 ct29 oc30 kV30 dc30 pm30 cd30 ct30 oc31 kV31 dc31 pm31 cd31 ct31 oc32 kV32 dc32 pm32 cd32 ct32 oc33 kV33 dc33 pm33 cd33 ct33 : Value}
    (a0 : PySem.W.nsIn K mainGlobals "copy_of" = some (some (.ref f0))) (l0 : K.lookup f0 = some ⟨oc0, od0, .func (PySem.W.fnOf "copy_of" "copy_of" (defArgs s_copy_of) (defBody s_copy_of) (defScope s_copy_of) .none kV0 dc0 pm0 an0 cd0 ct0), sl0⟩) (c0 : PySem.W.codeIn K cd0 "copy_of" = true) (k0 : PySem.W.keepIn K (.ref f0) = true)
    (a1 : PySem.W.nsIn K mainGlobals "parts_of" = some (some (.ref f1))) (l1 : K.lookup f1 = some ⟨oc1, od1, .func (PySem.W.fnOf "parts_of" "parts_of" (defArgs s_parts_of) (defBody s_parts_of) (defScope s_parts_of) .none kV1 dc1 pm1 an1 cd1 ct1), sl1⟩) (c1 : PySem.W.codeIn K cd1 "parts_of" = true) (k1 : PySem.W.keepIn K (.ref f1) = true)
    (a2 : PySem.W.nsIn K mainGlobals "made_of" = some (some (.ref f2))) (l2 : K.lookup f2 = some ⟨oc2, od2, .func (PySem.W.fnOf "made_of" "made_of" (defArgs s_made_of) (defBody s_made_of) (defScope s_made_of) .none kV2 dc2 pm2 an2 cd2 ct2), sl2⟩) (c2 : PySem.W.codeIn K cd2 "made_of" = true) (k2 : PySem.W.keepIn K (.ref f2) = true)
    (a3 : PySem.W.nsIn K mainGlobals "need_text" = some (some (.ref f3))) (l3 : K.lookup f3 = some ⟨oc3, od3, .func (PySem.W.fnOf "need_text" "need_text" (defArgs s_need_text) (defBody s_need_text) (defScope s_need_text) .none kV3 dc3 pm3 an3 cd3 ct3), sl3⟩) (c3 : PySem.W.codeIn K cd3 "need_text" = true) (k3 : PySem.W.keepIn K (.ref f3) = true)
    (a4 : PySem.W.nsIn K mainGlobals "past" = some (some (.ref f4))) (l4 : K.lookup f4 = some ⟨oc4, od4, .func (PySem.W.fnOf "past" "past" (defArgs s_past) (defBody s_past) (defScope s_past) .none kV4 dc4 pm4 an4 cd4 ct4), sl4⟩) (c4 : PySem.W.codeIn K cd4 "past" = true) (k4 : PySem.W.keepIn K (.ref f4) = true)
    (a5 : PySem.W.nsIn K mainGlobals "past_end" = some (some (.ref f5))) (l5 : K.lookup f5 = some ⟨oc5, od5, .func (PySem.W.fnOf "past_end" "past_end" (defArgs s_past_end) (defBody s_past_end) (defScope s_past_end) .none kV5 dc5 pm5 an5 cd5 ct5), sl5⟩) (c5 : PySem.W.codeIn K cd5 "past_end" = true) (k5 : PySem.W.keepIn K (.ref f5) = true)
    (a6 : PySem.W.nsIn K mainGlobals "number_at" = some (some (.ref f6))) (l6 : K.lookup f6 = some ⟨oc6, od6, .func (PySem.W.fnOf "number_at" "number_at" (defArgs s_number_at) (defBody s_number_at) (defScope s_number_at) .none kV6 dc6 pm6 an6 cd6 ct6), sl6⟩) (c6 : PySem.W.codeIn K cd6 "number_at" = true) (k6 : PySem.W.keepIn K (.ref f6) = true)
    (a7 : PySem.W.nsIn K mainGlobals "signs_among" = some (some (.ref f7))) (l7 : K.lookup f7 = some ⟨oc7, od7, .func (PySem.W.fnOf "signs_among" "signs_among" (defArgs s_signs_among) (defBody s_signs_among) (defScope s_signs_among) .none kV7 dc7 pm7 an7 cd7 ct7), sl7⟩) (c7 : PySem.W.codeIn K cd7 "signs_among" = true) (k7 : PySem.W.keepIn K (.ref f7) = true)
    (a8 : PySem.W.nsIn K mainGlobals "numbers_at" = some (some (.ref f8))) (l8 : K.lookup f8 = some ⟨oc8, od8, .func (PySem.W.fnOf "numbers_at" "numbers_at" (defArgs s_numbers_at) (defBody s_numbers_at) (defScope s_numbers_at) .none kV8 dc8 pm8 an8 cd8 ct8), sl8⟩) (c8 : PySem.W.codeIn K cd8 "numbers_at" = true) (k8 : PySem.W.keepIn K (.ref f8) = true)
    (a9 : PySem.W.nsIn K mainGlobals "deed_text" = some (some (.ref f9))) (l9 : K.lookup f9 = some ⟨oc9, od9, .func (PySem.W.fnOf "deed_text" "deed_text" (defArgs s_deed_text) (defBody s_deed_text) (defScope s_deed_text) .none kV9 dc9 pm9 an9 cd9 ct9), sl9⟩) (c9 : PySem.W.codeIn K cd9 "deed_text" = true) (k9 : PySem.W.keepIn K (.ref f9) = true)
    (a10 : PySem.W.nsIn K mainGlobals "read_deed" = some (some (.ref f10))) (l10 : K.lookup f10 = some ⟨oc10, od10, .func (PySem.W.fnOf "read_deed" "read_deed" (defArgs s_read_deed) (defBody s_read_deed) (defScope s_read_deed) .none kV10 dc10 pm10 an10 cd10 ct10), sl10⟩) (c10 : PySem.W.codeIn K cd10 "read_deed" = true) (k10 : PySem.W.keepIn K (.ref f10) = true)
    (a11 : PySem.W.nsIn K mainGlobals "deed_at" = some (some (.ref f11))) (l11 : K.lookup f11 = some ⟨oc11, od11, .func (PySem.W.fnOf "deed_at" "deed_at" (defArgs s_deed_at) (defBody s_deed_at) (defScope s_deed_at) .none kV11 dc11 pm11 an11 cd11 ct11), sl11⟩) (c11 : PySem.W.codeIn K cd11 "deed_at" = true) (k11 : PySem.W.keepIn K (.ref f11) = true)
    (a12 : PySem.W.nsIn K mainGlobals "log_text" = some (some (.ref f12))) (l12 : K.lookup f12 = some ⟨oc12, od12, .func (PySem.W.fnOf "log_text" "log_text" (defArgs s_log_text) (defBody s_log_text) (defScope s_log_text) .none kV12 dc12 pm12 an12 cd12 ct12), sl12⟩) (c12 : PySem.W.codeIn K cd12 "log_text" = true) (k12 : PySem.W.keepIn K (.ref f12) = true)
    (a13 : PySem.W.nsIn K mainGlobals "read_log" = some (some (.ref f13))) (l13 : K.lookup f13 = some ⟨oc13, od13, .func (PySem.W.fnOf "read_log" "read_log" (defArgs s_read_log) (defBody s_read_log) (defScope s_read_log) .none kV13 dc13 pm13 an13 cd13 ct13), sl13⟩) (c13 : PySem.W.codeIn K cd13 "read_log" = true) (k13 : PySem.W.keepIn K (.ref f13) = true)
    (a14 : PySem.W.nsIn K mainGlobals "_law_snake" = some (some (.ref f14))) (l14 : K.lookup f14 = some ⟨oc14, od14, .func (PySem.W.fnOf "_law_snake" "_law_snake" (defArgs s_L_snake) (defBody s_L_snake) (defScope s_L_snake) .none kV14 dc14 pm14 an14 cd14 ct14), sl14⟩) (c14 : PySem.W.codeIn K cd14 "_law_snake" = true) (k14 : PySem.W.keepIn K (.ref f14) = true)
    (a15 : PySem.W.nsIn K mainGlobals "_law_bent_room" = some (some (.ref f15))) (l15 : K.lookup f15 = some ⟨oc15, od15, .func (PySem.W.fnOf "_law_bent_room" "_law_bent_room" (defArgs s_L_bent_room) (defBody s_L_bent_room) (defScope s_L_bent_room) .none kV15 dc15 pm15 an15 cd15 ct15), sl15⟩) (c15 : PySem.W.codeIn K cd15 "_law_bent_room" = true) (k15 : PySem.W.keepIn K (.ref f15) = true)
    (a16 : PySem.W.nsIn K mainGlobals "_law_open_cells" = some (some (.ref f16))) (l16 : K.lookup f16 = some ⟨oc16, od16, .func (PySem.W.fnOf "_law_open_cells" "_law_open_cells" (defArgs s_L_open_cells) (defBody s_L_open_cells) (defScope s_L_open_cells) .none kV16 dc16 pm16 an16 cd16 ct16), sl16⟩) (c16 : PySem.W.codeIn K cd16 "_law_open_cells" = true) (k16 : PySem.W.keepIn K (.ref f16) = true)
    (a17 : PySem.W.nsIn K mainGlobals "_law_pick" = some (some (.ref f17))) (l17 : K.lookup f17 = some ⟨oc17, od17, .func (PySem.W.fnOf "_law_pick" "_law_pick" (defArgs s_L_pick) (defBody s_L_pick) (defScope s_L_pick) .none kV17 dc17 pm17 an17 cd17 ct17), sl17⟩) (c17 : PySem.W.codeIn K cd17 "_law_pick" = true) (k17 : PySem.W.keepIn K (.ref f17) = true)
    (a18 : PySem.W.nsIn K mainGlobals "_law_sides" = some (some (.ref f18))) (l18 : K.lookup f18 = some ⟨oc18, od18, .func (PySem.W.fnOf "_law_sides" "_law_sides" (defArgs s_L_sides) (defBody s_L_sides) (defScope s_L_sides) .none kV18 dc18 pm18 an18 cd18 ct18), sl18⟩) (c18 : PySem.W.codeIn K cd18 "_law_sides" = true) (k18 : PySem.W.keepIn K (.ref f18) = true)
    (a19 : PySem.W.nsIn K mainGlobals "_law_near" = some (some (.ref f19))) (l19 : K.lookup f19 = some ⟨oc19, od19, .func (PySem.W.fnOf "_law_near" "_law_near" (defArgs s_L_near) (defBody s_L_near) (defScope s_L_near) .none kV19 dc19 pm19 an19 cd19 ct19), sl19⟩) (c19 : PySem.W.codeIn K cd19 "_law_near" = true) (k19 : PySem.W.keepIn K (.ref f19) = true)
    (a20 : PySem.W.nsIn K mainGlobals "_law_parts_by" = some (some (.ref f20))) (l20 : K.lookup f20 = some ⟨oc20, od20, .func (PySem.W.fnOf "_law_parts_by" "_law_parts_by" (defArgs s_L_parts_by) (defBody s_L_parts_by) (defScope s_L_parts_by) .none kV20 dc20 pm20 an20 cd20 ct20), sl20⟩) (c20 : PySem.W.codeIn K cd20 "_law_parts_by" = true) (k20 : PySem.W.keepIn K (.ref f20) = true)
    (a21 : PySem.W.nsIn K mainGlobals "_law_is_room" = some (some (.ref f21))) (l21 : K.lookup f21 = some ⟨oc21, od21, .func (PySem.W.fnOf "_law_is_room" "_law_is_room" (defArgs s_L_is_room) (defBody s_L_is_room) (defScope s_L_is_room) .none kV21 dc21 pm21 an21 cd21 ct21), sl21⟩) (c21 : PySem.W.codeIn K cd21 "_law_is_room" = true) (k21 : PySem.W.keepIn K (.ref f21) = true)
    (a22 : PySem.W.nsIn K mainGlobals "_law_draw_room" = some (some (.ref f22))) (l22 : K.lookup f22 = some ⟨oc22, od22, .func (PySem.W.fnOf "_law_draw_room" "_law_draw_room" (defArgs s_L_draw_room) (defBody s_L_draw_room) (defScope s_L_draw_room) .none kV22 dc22 pm22 an22 cd22 ct22), sl22⟩) (c22 : PySem.W.codeIn K cd22 "_law_draw_room" = true) (k22 : PySem.W.keepIn K (.ref f22) = true)
    (a23 : PySem.W.nsIn K mainGlobals "_law_moved" = some (some (.ref f23))) (l23 : K.lookup f23 = some ⟨oc23, od23, .func (PySem.W.fnOf "_law_moved" "_law_moved" (defArgs s_L_moved) (defBody s_L_moved) (defScope s_L_moved) .none kV23 dc23 pm23 an23 cd23 ct23), sl23⟩) (c23 : PySem.W.codeIn K cd23 "_law_moved" = true) (k23 : PySem.W.keepIn K (.ref f23) = true)
    (a24 : PySem.W.nsIn K mainGlobals "_law_how_far" = some (some (.ref f24))) (l24 : K.lookup f24 = some ⟨oc24, od24, .func (PySem.W.fnOf "_law_how_far" "_law_how_far" (defArgs s_L_how_far) (defBody s_L_how_far) (defScope s_L_how_far) .none kV24 dc24 pm24 an24 cd24 ct24), sl24⟩) (c24 : PySem.W.codeIn K cd24 "_law_how_far" = true) (k24 : PySem.W.keepIn K (.ref f24) = true)
    (a25 : PySem.W.nsIn K mainGlobals "_law_near_texts" = some (some (.ref f25))) (l25 : K.lookup f25 = some ⟨oc25, od25, .func (PySem.W.fnOf "_law_near_texts" "_law_near_texts" (defArgs s_L_near_texts) (defBody s_L_near_texts) (defScope s_L_near_texts) .none kV25 dc25 pm25 an25 cd25 ct25), sl25⟩) (c25 : PySem.W.codeIn K cd25 "_law_near_texts" = true) (k25 : PySem.W.keepIn K (.ref f25) = true)
    (a26 : PySem.W.nsIn K mainGlobals "_law_deed_line" = some (some (.ref f26))) (l26 : K.lookup f26 = some ⟨oc26, od26, .func (PySem.W.fnOf "_law_deed_line" "_law_deed_line" (defArgs s_L_deed_line) (defBody s_L_deed_line) (defScope s_L_deed_line) .none kV26 dc26 pm26 an26 cd26 ct26), sl26⟩) (c26 : PySem.W.codeIn K cd26 "_law_deed_line" = true) (k26 : PySem.W.keepIn K (.ref f26) = true)
    (a27 : PySem.W.nsIn K mainGlobals "_law_log_lines" = some (some (.ref f27))) (l27 : K.lookup f27 = some ⟨oc27, od27, .func (PySem.W.fnOf "_law_log_lines" "_law_log_lines" (defArgs s_L_log_lines) (defBody s_L_log_lines) (defScope s_L_log_lines) .none kV27 dc27 pm27 an27 cd27 ct27), sl27⟩) (c27 : PySem.W.codeIn K cd27 "_law_log_lines" = true) (k27 : PySem.W.keepIn K (.ref f27) = true)
    (a28 : PySem.W.nsIn K mainGlobals "_law_text_rules" = some (some (.ref f28))) (l28 : K.lookup f28 = some ⟨oc28, od28, .func (PySem.W.fnOf "_law_text_rules" "_law_text_rules" (defArgs s_L_text_rules) (defBody s_L_text_rules) (defScope s_L_text_rules) .none kV28 dc28 pm28 an28 cd28 ct28), sl28⟩) (c28 : PySem.W.codeIn K cd28 "_law_text_rules" = true) (k28 : PySem.W.keepIn K (.ref f28) = true)
    (a29 : PySem.W.nsIn K mainGlobals "_law_draw_deed" = some (some (.ref f29))) (l29 : K.lookup f29 = some ⟨oc29, od29, .func (PySem.W.fnOf "_law_draw_deed" "_law_draw_deed" (defArgs s_L_draw_deed) (defBody s_L_draw_deed) (defScope s_L_draw_deed) .none kV29 dc29 pm29 an29 cd29 ct29), sl29⟩) (c29 : PySem.W.codeIn K cd29 "_law_draw_deed" = true) (k29 : PySem.W.keepIn K (.ref f29) = true)
    (a30 : PySem.W.nsIn K mainGlobals "_law_read_by" = some (some (.ref f30))) (l30 : K.lookup f30 = some ⟨oc30, od30, .func (PySem.W.fnOf "_law_read_by" "_law_read_by" (defArgs s_L_read_by) (defBody s_L_read_by) (defScope s_L_read_by) .none kV30 dc30 pm30 an30 cd30 ct30), sl30⟩) (c30 : PySem.W.codeIn K cd30 "_law_read_by" = true) (k30 : PySem.W.keepIn K (.ref f30) = true)
    (a31 : PySem.W.nsIn K mainGlobals "_law_near_right" = some (some (.ref f31))) (l31 : K.lookup f31 = some ⟨oc31, od31, .func (PySem.W.fnOf "_law_near_right" "_law_near_right" (defArgs s_L_near_right) (defBody s_L_near_right) (defScope s_L_near_right) .none kV31 dc31 pm31 an31 cd31 ct31), sl31⟩) (c31 : PySem.W.codeIn K cd31 "_law_near_right" = true) (k31 : PySem.W.keepIn K (.ref f31) = true)
    (a32 : PySem.W.nsIn K mainGlobals "_law_typed_right" = some (some (.ref f32))) (l32 : K.lookup f32 = some ⟨oc32, od32, .func (PySem.W.fnOf "_law_typed_right" "_law_typed_right" (defArgs s_L_typed_right) (defBody s_L_typed_right) (defScope s_L_typed_right) .none kV32 dc32 pm32 an32 cd32 ct32), sl32⟩) (c32 : PySem.W.codeIn K cd32 "_law_typed_right" = true) (k32 : PySem.W.keepIn K (.ref f32) = true)
    (a33 : PySem.W.nsIn K mainGlobals "law" = some (some (.ref f33))) (l33 : K.lookup f33 = some ⟨oc33, od33, .func (PySem.W.fnOf "law" "law" (defArgs s_law) (defBody s_law) (defScope s_law) .none kV33 dc33 pm33 an33 cd33 ct33), sl33⟩) (c33 : PySem.W.codeIn K cd33 "law" = true) (k33 : PySem.W.keepIn K (.ref f33) = true)
    (zC : PySem.W.nsIn K mainGlobals "BadText" = some (some (.ref C))) (zR : PySem.W.nsIn K mainGlobals "RoomError" = some (some (.ref R)))
    (xL : K.lookup C = some (excClassObj nm q C N bs [.ref R, .type "ValueError", .type "Exception", .type "BaseException", .type "object"] true sn sub ab col dd m0 m1 m2 m3 m5 "ValueError.__new__"))
    (sa : PySem.W.findIn K (.ref C) "__setattr__" = some (some (.builtin "object.__setattr__")))
    (exC : PySem.W.subIn K (.ref C) (.type "BaseException") = some true)
    (tyC : PySem.W.typeIn K (.ref C) = some (.type "type"))
    (kC : PySem.W.keepIn K (.ref C) = true)
    (iC : PySem.W.findIn K (.ref C) "__init__" = some (some (.ref fI)))
    (tI : PySem.W.typeIn K (.ref fI) = some (.type "function"))
    (noP : PySem.W.findIn K (.ref C) "place" = some none)
    (sub1 : PySem.W.mroIn K C (.ref C) = some true)
    (sup : PySem.W.ks_superIn K C C "__init__" = some (some (.builtin "ValueError.__init__")))
    (sVE : PySem.W.subIn K (.ref C) (.type "ValueError") = some true)
    (opq : PySem.W.nsIn K cStatics "thirdparty.any" = some none)
    (te : PySem.W.exmOne K (.ref C) (.ref C) = some true)
    (ga : PySem.W.findIn K (.ref C) "__getattribute__" = some (some (.builtin "BaseException.__getattribute__")))
    (gg : PySem.W.findIn K (.ref C) "__getattr__" = some none)
    (hd : PySem.W.hasDictIn K C = true)
    (ec : PySem.W.findIn K (.ref C) "__class__" = some (some (.builtin "object.__class__")))
    (en : PySem.W.specialIn K (.builtin "object.__class__") "__get__" = some (some (.builtin "getset_descriptor.__get__")))
    (et : PySem.W.takesIn K (.builtin "object.__class__") = some true)
    (em : PySem.W.mroIn K C (.type "object") = some true)
    (kit : PySem.W.kitOne K (.ref C) (.ref R) = some true)
    (fI1 : K.lookup fI = some ⟨ocI, odI, .func (PySem.W.fnX "__init__" "BadText.__init__" (defArgs s_init) (defBody s_init) (defScope s_init) (clI cc) .none kVI docI pmI anI (.ref cda) ctI), oslI⟩)
    (fI2 : PySem.W.codeIn K (.ref cda) "BadText.__init__" = true)
    (fI3 : K.lookup cda = some ⟨ccl, cdd, .fields vs0, ccs⟩)
    (fI4 : vs0[2]? = some (.str "/claim/cut.py" tf))
    (fI5 : K.lookup cc = some ⟨clc, cld, .cell (some (.ref C)), csl⟩)
    (z_ValueError : PySem.W.nsIn K mainGlobals "ValueError" = some none)
    (z_abs : PySem.W.nsIn K mainGlobals "abs" = some none)
    (z_dict : PySem.W.nsIn K mainGlobals "dict" = some none)
    (z_int : PySem.W.nsIn K mainGlobals "int" = some none)
    (z_isinstance : PySem.W.nsIn K mainGlobals "isinstance" = some none)
    (z_len : PySem.W.nsIn K mainGlobals "len" = some none)
    (z_list : PySem.W.nsIn K mainGlobals "list" = some none)
    (z_max : PySem.W.nsIn K mainGlobals "max" = some none)
    (z_min : PySem.W.nsIn K mainGlobals "min" = some none)
    (z_range : PySem.W.nsIn K mainGlobals "range" = some none)
    (z_repr : PySem.W.nsIn K mainGlobals "repr" = some none)
    (z_reversed : PySem.W.nsIn K mainGlobals "reversed" = some none)
    (z_sorted : PySem.W.nsIn K mainGlobals "sorted" = some none)
    (z_str : PySem.W.nsIn K mainGlobals "str" = some none)
    (z_super : PySem.W.nsIn K mainGlobals "super" = some none)
    (z_tuple : PySem.W.nsIn K mainGlobals "tuple" = some none)
    (z_zip : PySem.W.nsIn K mainGlobals "zip" = some none)
    (yD : PySem.W.nsIn K mainGlobals "DIGITS" = some (some (.str "0123456789" tD))) (yM : PySem.W.nsIn K mainGlobals "MOST_DIGITS" = some (some (.ref mA))) (lM : K.lookup mA = some ⟨.type "dict", none, .dict #[⟨PyData.keyHash w.params "z", .str "z" t1, .int 9 u1⟩, ⟨PyData.keyHash w.params "n", .str "n" t2, .int 9 u2⟩, ⟨PyData.keyHash w.params "Z", .str "Z" t3, .int 60 u3⟩] nM, #[]⟩) (sM : (mA == sysModules) = false)
    (yW : PySem.W.nsIn K mainGlobals "WORDS" = some (some (.ref wA))) (lW : K.lookup wA = some ⟨.type "tuple", dW, .seq #[.str "open" q1, .str "wall" q2, .str "set" q3, .str "take" q4] nW, slW⟩) :
    Txt w K mg ∧ ∃ fd : FuncData, DF K mg "law" s_law ["script"] fa fd ∧ (∀ (s : Shared) (v : Value), BindsTo s fd ⟨[v], []⟩ [("script", v)]) := by
  have e := hfa.symm.trans (PySem.W.mg_of X G a33)
  cases e
  have OX : OexC K C := ⟨⟨nm, q, N, bs, _, sn, sub, ab, col, dd, m0, m1, m2, m3, m5, xL, by show PySem.HandSPX.refsVE [.type "ValueError", .type "Exception", .type "BaseException", .type "object"] = true; decide +kernel⟩, sa, exC, tyC, kC⟩
  have B : BadC K mg C R fI cc := ⟨PySem.W.mg_of X G zC, PySem.W.mg_of X G zR, OX, iC, tI, noP, sub1, ⟨_, by unfold PySem.W.clsIn; rw [xL] <;> rfl⟩, sup, sVE, opq, te, ⟨ga, gg, exC, hd⟩, ⟨ga, gg, exC, hd, ec, en, et, em⟩, kit,
    ⟨ocI, kVI, docI, pmI, ctI, ccl, clc, odI, anI, cdd, cld, oslI, ccs, csl, vs0, tf, cda, fI1, fI2, fI3, fI4, fI5⟩⟩
  refine ⟨⟨df_mk X G a0 l0 c0 k0 (fun _ _ _ _ _ _ us hl => match us, hl with | [_], _ => rfl),
    df_mk X G a1 l1 c1 k1 (fun _ _ _ _ _ _ us hl => match us, hl with | [_], _ => rfl),
    df_mk X G a2 l2 c2 k2 (fun _ _ _ _ _ _ us hl => match us, hl with | [_, _], _ => rfl),
    df_mk X G a3 l3 c3 k3 (fun _ _ _ _ _ _ us hl => match us, hl with | [_], _ => rfl),
    df_mk X G a4 l4 c4 k4 (fun _ _ _ _ _ _ us hl => match us, hl with | [_, _, _], _ => rfl),
    df_mk X G a5 l5 c5 k5 (fun _ _ _ _ _ _ us hl => match us, hl with | [_, _], _ => rfl),
    df_mk X G a6 l6 c6 k6 (fun _ _ _ _ _ _ us hl => match us, hl with | [_, _, _], _ => rfl),
    df_mk X G a7 l7 c7 k7 (fun _ _ _ _ _ _ us hl => match us, hl with | [_, _], _ => rfl),
    df_mk X G a8 l8 c8 k8 (fun _ _ _ _ _ _ us hl => match us, hl with | [_, _, _], _ => rfl),
    df_mk X G a9 l9 c9 k9 (fun _ _ _ _ _ _ us hl => match us, hl with | [_], _ => rfl),
    df_mk X G a10 l10 c10 k10 (fun _ _ _ _ _ _ us hl => match us, hl with | [_], _ => rfl),
    df_mk X G a11 l11 c11 k11 (fun _ _ _ _ _ _ us hl => match us, hl with | [_, _], _ => rfl),
    df_mk X G a12 l12 c12 k12 (fun _ _ _ _ _ _ us hl => match us, hl with | [_], _ => rfl),
    df_mk X G a13 l13 c13 k13 (fun _ _ _ _ _ _ us hl => match us, hl with | [_], _ => rfl),
    df_mk X G a14 l14 c14 k14 (fun _ _ _ _ _ _ us hl => match us, hl with | [_, _], _ => rfl),
    df_mk X G a15 l15 c15 k15 (fun _ _ _ _ _ _ us hl => match us, hl with | [_, _], _ => rfl),
    df_mk X G a16 l16 c16 k16 (fun _ _ _ _ _ _ us hl => match us, hl with | [_], _ => rfl),
    df_mk X G a17 l17 c17 k17 (fun _ _ _ _ _ _ us hl => match us, hl with | [_, _], _ => rfl),
    df_mk X G a18 l18 c18 k18 (fun _ _ _ _ _ _ us hl => match us, hl with | [_], _ => rfl),
    df_mk X G a19 l19 c19 k19 (fun _ _ _ _ _ _ us hl => match us, hl with | [_], _ => rfl),
    df_mk X G a20 l20 c20 k20 (fun _ _ _ _ _ _ us hl => match us, hl with | [_, _], _ => rfl),
    df_mk X G a21 l21 c21 k21 (fun _ _ _ _ _ _ us hl => match us, hl with | [_], _ => rfl),
    df_mk X G a22 l22 c22 k22 (fun _ _ _ _ _ _ us hl => match us, hl with | [_, _], _ => rfl),
    df_mk X G a23 l23 c23 k23 (fun _ _ _ _ _ _ us hl => match us, hl with | [_, _, _], _ => rfl),
    df_mk X G a24 l24 c24 k24 (fun _ _ _ _ _ _ us hl => match us, hl with | [_, _, _], _ => rfl),
    df_mk X G a25 l25 c25 k25 (fun _ _ _ _ _ _ us hl => match us, hl with | [_, _, _], _ => rfl),
    df_mk X G a26 l26 c26 k26 (fun _ _ _ _ _ _ us hl => match us, hl with | [_], _ => rfl),
    df_mk X G a27 l27 c27 k27 (fun _ _ _ _ _ _ us hl => match us, hl with | [_], _ => rfl),
    df_mk X G a28 l28 c28 k28 (fun _ _ _ _ _ _ us hl => match us, hl with | [], _ => rfl),
    df_mk X G a29 l29 c29 k29 (fun _ _ _ _ _ _ us hl => match us, hl with | [_, _], _ => rfl),
    df_mk X G a30 l30 c30 k30 (fun _ _ _ _ _ _ us hl => match us, hl with | [_], _ => rfl),
    df_mk X G a31 l31 c31 k31 (fun _ _ _ _ _ _ us hl => match us, hl with | [_, _, _], _ => rfl),
    df_mk X G a32 l32 c32 k32 (fun _ _ _ _ _ _ us hl => match us, hl with | [_], _ => rfl),
    ⟨C, R, fI, cc, B⟩, PySem.W.mg_none_of X G z_ValueError, PySem.W.mg_none_of X G z_abs, PySem.W.mg_none_of X G z_dict, PySem.W.mg_none_of X G z_int, PySem.W.mg_none_of X G z_isinstance, PySem.W.mg_none_of X G z_len, PySem.W.mg_none_of X G z_list, PySem.W.mg_none_of X G z_max, PySem.W.mg_none_of X G z_min, PySem.W.mg_none_of X G z_range, PySem.W.mg_none_of X G z_repr, PySem.W.mg_none_of X G z_reversed, PySem.W.mg_none_of X G z_sorted, PySem.W.mg_none_of X G z_str, PySem.W.mg_none_of X G z_super, PySem.W.mg_none_of X G z_tuple, PySem.W.mg_none_of X G z_zip, ⟨_, PySem.W.mg_of X G yD⟩, ⟨_, PySem.W.mg_of X G yM, most_mk lM sM⟩, ⟨_, PySem.W.mg_of X G yW, fun H => .inr ⟨_, _, _, lW, rfl, rfl, (show 4 ≤ sizeLine by decide), .cons ⟨q1, rfl⟩ (.cons ⟨q2, rfl⟩ (.cons ⟨q3, rfl⟩ (.cons ⟨q4, rfl⟩ .nil)))⟩⟩⟩, ?_⟩
  exact ⟨_, ⟨fun_mk l33 c33 k33, PySem.W.mg_of X G a33, (fun_mk l33 c33 k33).binds (fun _ _ _ _ _ _ us hl => match us, hl with | [_], _ => rfl)⟩, fun s v => .of_eq rfl⟩
end TX
/-! part S04 -/
/-! The drawn source: a dict with a list, and numbers that are taken from it. -/
namespace TX
open PySem PySem.Spec PyProof.Rows L2 NT
local macro_rules | `(tactic| walk_at "go") => `(tactic| simp only [L2.start, List.map_cons, List.map_nil, List.length_cons, List.length_nil, Nat.reduceSub, Nat.reduceAdd, List.replicate_succ, List.replicate_zero, List.cons_append, List.nil_append, List.append_nil,
  tSeq, tNext, tRet, tIfS, tTest, tAnd, tOr, tNot, tCB, tCall, tCons, tNil, tVar, tC, tOp, tUn, tAsg, gName, rI0, rI, CMul, CDiv, tDGet, sDPut, tBM0, tBM, tTup, tLst, tPar, gTup, gNil, gCons, tIf, tAug,
  List.getElem?_cons_zero, List.getElem?_cons_succ, List.set_cons_zero, List.set_cons_succ, Option.some.injEq, V.int.injEq, V.str.injEq, V.ref.injEq, V.bl.injEq, exists_eq_left, exists_eq_left', exists_eq_right, exists_eq_right', exists_eq', true_and, and_true, decide_eq_true_eq, List.cons.injEq, reduceCtorEq, false_and, false_or, or_false, exists_false, exists_and_left, exists_and_right])
structure Sr where
  cs : List Int
  l : Int
  m : Int
  t : Int
def kvS (c : Addr) (s : Sr) : List (Key × V) := [(.inr "cells", .ref c), (.inr "left", .int s.l), (.inr "mixed", .int s.m), (.inr "turn", .int s.t)]
/-- the source stands at d, its list at c -/
structure SrcAt (H : Hp) (d c : Addr) (s : Sr) : Prop where
  dd : H d = some (.dK (kvS c s))
  cc : H c = some (.lst (s.cs.map V.int))
theorem k_lc : ¬ ((Sum.inr "cells" : Key) = (Sum.inr "left" : Key)) := by decide +kernel
theorem k_mc : ¬ ((Sum.inr "cells" : Key) = (Sum.inr "mixed" : Key)) := by decide +kernel
theorem k_tc : ¬ ((Sum.inr "cells" : Key) = (Sum.inr "turn" : Key)) := by decide +kernel
theorem k_ml : ¬ ((Sum.inr "left" : Key) = (Sum.inr "mixed" : Key)) := by decide +kernel
theorem k_tl : ¬ ((Sum.inr "left" : Key) = (Sum.inr "turn" : Key)) := by decide +kernel
theorem k_tm : ¬ ((Sum.inr "mixed" : Key) = (Sum.inr "turn" : Key)) := by decide +kernel
theorem k_cl : ¬ ((Sum.inr "left" : Key) = (Sum.inr "cells" : Key)) := by decide +kernel
theorem vS_cells (c : Addr) (s : Sr) : valV (kvS c s) (Sum.inr "cells") = some (.ref c) := valV_pos rfl
theorem vS_left (c : Addr) (s : Sr) : valV (kvS c s) (Sum.inr "left") = some (.int s.l) := (valV_neg k_lc).trans (valV_pos rfl)
theorem vS_mixed (c : Addr) (s : Sr) : valV (kvS c s) (Sum.inr "mixed") = some (.int s.m) := (valV_neg k_mc).trans ((valV_neg k_ml).trans (valV_pos rfl))
theorem vS_turn (c : Addr) (s : Sr) : valV (kvS c s) (Sum.inr "turn") = some (.int s.t) := (valV_neg k_tc).trans ((valV_neg k_tl).trans ((valV_neg k_tm).trans (valV_pos rfl)))
theorem pS_left (c : Addr) (s : Sr) (z : Int) : putK (kvS c s) (Sum.inr "left") (.int z) = kvS c { s with l := z } := by
  unfold putK
  rw [if_pos (by rw [valV_any, vS_left]; rfl)]
  simp only [kvS, List.map_cons, List.map_nil]
  rw [if_neg k_lc, if_pos True.intro, if_neg (fun e => k_ml e.symm), if_neg (fun e => k_tl e.symm)]
theorem pS_turn (c : Addr) (s : Sr) (z : Int) : putK (kvS c s) (Sum.inr "turn") (.int z) = kvS c { s with t := z } := by
  unfold putK
  rw [if_pos (by rw [valV_any, vS_turn]; rfl)]
  simp only [kvS, List.map_cons, List.map_nil]
  rw [if_neg k_tc, if_neg k_tl, if_neg k_tm, if_pos True.intro]
section
variable {H : Hp} {d c : Addr} {s : Sr}
theorem SrcAt.ne (h : SrcAt H d c s) : c ≠ d := ne_of h.cc h.dd (by intro z; cases z)
theorem SrcAt.gc (h : SrcAt H d c s) : DGet H d (.str "cells") (some (.ref c)) := by
  have q := DGet.k (k := Sum.inr "cells") h.dd
  rw [vS_cells] at q
  exact q
theorem SrcAt.gl (h : SrcAt H d c s) : DGet H d (.str "left") (some (.int s.l)) := by
  have q := DGet.k (k := Sum.inr "left") h.dd
  rw [vS_left] at q
  exact q
theorem SrcAt.gm (h : SrcAt H d c s) : DGet H d (.str "mixed") (some (.int s.m)) := by
  have q := DGet.k (k := Sum.inr "mixed") h.dd
  rw [vS_mixed] at q
  exact q
theorem SrcAt.gt (h : SrcAt H d c s) : DGet H d (.str "turn") (some (.int s.t)) := by
  have q := DGet.k (k := Sum.inr "turn") h.dd
  rw [vS_turn] at q
  exact q
theorem SrcAt.pl (h : SrcAt H d c s) (z : Int) : DPut H d (.str "left") (.int z) (upd H d (.dK (kvS c { s with l := z }))) := by
  have q := DPut.k (k := Sum.inr "left") (v := .int z) h.dd (by show 4 < sizeLine; decide)
  rw [pS_left] at q
  exact q
theorem SrcAt.pt (h : SrcAt H d c s) (z : Int) : DPut H d (.str "turn") (.int z) (upd H d (.dK (kvS c { s with t := z }))) := by
  have q := DPut.k (k := Sum.inr "turn") (v := .int z) h.dd (by show 4 < sizeLine; decide)
  rw [pS_turn] at q
  exact q
theorem SrcAt.up (h : SrcAt H d c s) (s' : Sr) (e : s'.cs = s.cs) : SrcAt (upd H d (.dK (kvS c s'))) d c s' := ⟨upd_same, by rw [upd_ne h.ne, e]; exact h.cc⟩
end
abbrev DC (d c : Addr) : Addr → Prop := fun b => b = d ∨ b = c
def spPick : Sp := fun vs H Q _ => ∃ (d c : Addr) (s : Sr) (n : Int), vs = [.ref d, .int n] ∧ SrcAt H d c s ∧ s.cs.length ≤ 63 ∧ n < 1073741824 ∧
  ∀ (r : Int) (s' : Sr) (H' : Hp), 0 ≤ r → (r < n ∨ r = 0) → SrcAt H' d c s' → s'.cs.length ≤ s.cs.length → Kp (DC d c) H H' → Q (.int r) H'
section
variable {P : Program} {w : World} {K : PySem.W.Frag} {mg : Str → Option Value} {base : Heap}
theorem ok_pick (T : Txt w K mg) : Ok P w K mg base CX0 1 "_law_pick" ["source", "most"] spPick := by
  obtain ⟨f, fd, D⟩ := T.d_L_pick
  refine ⟨f, fd, D.F.ok sc_L_pick (fun vs H Q E h => ?_) (fun cdv A outer s H vs Q E hr h => ?_), D.g, D.F.kp, D.b⟩
  · obtain ⟨d, c, s, n, rfl, _⟩ := h
    rfl
  · obtain ⟨d, c, S, n, rfl, hS, hlen, hn, q⟩ := h
    have hu := hu_of hr
    have nd := sc_L_pick.nd
    refine ⟨_, pss_cons (ps_if (pt_cmpR op_lt (pv 1) pe_int (nomark _)) (pss_one (ps_ret pe_int)) pss_nil)
      (pss_cons (ps_set (i := 2) nd rfl (.inl rfl) (pe_dget hu (pv 0) pe_str (fun _ _ => rfl)))
      (pss_cons (ps_while PassesOwn.never (PW.pt (pw_and (pt_cmpR op_lt (pe_dget hu (pv 0) pe_str (fun _ _ => rfl)) pe_int (nomark _)) (pw_and1 (pt_cmpR op_gt (pe_callB call_len_seq (by rfl) T.z_len PySem.boot_len (pa_cons (pv 2) pa_nil)) pe_int (nomark _)))))
        (pss_one (ps_dput hu (pv 0) pe_str (pe_bm0 PySem.F.plainAttrs_list PySem.F.slot_list_pop PySem.F.type_list_pop mt_pop (pv 2)) rfl)))
      (pss_cons (ps_set (i := 3) nd rfl (.inl rfl) (pe_dget hu (pv 0) pe_str (fun _ _ => rfl)))
      (pss_cons (ps_if (pt_cmpR op_gt (pv 3) pe_int (nomark _))
          (pss_cons (ps_dput hu (pv 0) pe_str (pe_op op_fdiv (pv 3) (pv 1)) rfl)
          (pss_one (ps_ret (pe_op op_mod (pe_callTy call_int1 (by rfl) T.z_int (by decide +kernel) (pa_cons (pv 3) pa_nil)) (pv 1))))) pss_nil)
      (pss_cons (ps_dput hu (pv 0) pe_str (pe_op op_add (pe_dget hu (pv 0) pe_str (fun _ _ => rfl)) pe_int) rfl)
      (pss_cons (ps_set (i := 4) nd rfl (.inl rfl) (pe_dget hu (pv 0) pe_str (fun _ _ => rfl)))
      (pss_cons (ps_set (i := 5) nd rfl (.inl rfl) (pe_op op_mod (pe_callTy call_int1 (by rfl) T.z_int (by decide +kernel) (pa_cons (pe_op op_add (pe_dget hu (pv 0) pe_str (fun _ _ => rfl)) (pe_op op_mul (pv 4) pe_int)) pa_nil)) pe_int))
      (pss_cons (ps_set (i := 5) nd rfl (.inl rfl) (pe_op op_mod (pe_callTy call_int1 (by rfl) T.z_int (by decide +kernel) (pa_cons (pe_op op_add (pe_op op_mul (pv 5) (pv 5)) (pe_op op_mul (pv 4) pe_int)) pa_nil)) pe_int))
      (pss_one (ps_ret (pe_op op_mod (pe_callTy call_int1 (by rfl) T.z_int (by decide +kernel) (pa_cons (pe_op op_fdiv (pv 5) pe_int) pa_nil)) (pv 1)))))))))))), ?_⟩
    walk_at "go"
    split
    · exact q 0 S H (by decide) (.inr rfl) hS (Nat.le_refl _) (Kp.refl _ _)
    rename_i hn2
    have n0 : 0 < n := by omega
    let Pv : Nat → L2.St → Hp → Prop := fun m σ H' => ∃ s', σ = [some (.ref d), some (.int n), some (.ref c), none, none, none] ∧ SrcAt H' d c s' ∧ s'.cs.length = m ∧ s'.cs.length ≤ S.cs.length ∧ Kp (DC d c) H H'
    refine ⟨_, hS.gc, while_m Pv (fun σ H' => ∃ m, Pv m σ H') ⟨_, S, rfl, hS, rfl, Nat.le_refl _, Kp.refl _ _⟩ ?_ ?_⟩
    · rintro σ H1 ⟨m, s1, rfl, h1, -, l1, k1⟩
      walk_at "go"
      refine ⟨_, h1.gl, _, rfl, ite2 (fun _ => ?_) (fun _ => ?_)⟩
      · refine ⟨_, rfl, ⟨n0, hn⟩, _, h1.pl _, .inl ⟨_, rfl, n0, ?_⟩⟩
        exact q _ _ _ (Int.emod_nonneg _ (by omega)) (.inl (Int.emod_lt_of_pos _ n0)) (h1.up _ rfl) l1 (k1.trans (Kp.upd_in (.inl rfl)))
      · refine ⟨_, h1.gt, _, rfl, _, h1.pt _, ?_⟩
        have h2 := h1.up { s1 with t := s1.t + 1 } rfl
        refine ⟨_, h2.gt, _, h2.gm, _, rfl, .inr ⟨by decide, by decide⟩, _, rfl, by decide, .inl ⟨?_, ?_⟩, _, rfl, .inr ⟨by decide, by decide⟩, by decide, ⟨by decide, by decide⟩, n0, ?_⟩
        · have := Int.emod_nonneg (s1.m + (s1.t + 1) * 104729) (show (998244353 : Int) ≠ 0 by decide)
          omega
        · have := Int.emod_lt_of_pos (s1.m + (s1.t + 1) * 104729) (show (0 : Int) < 998244353 by decide)
          omega
        · exact q _ _ _ (Int.emod_nonneg _ (by omega)) (.inl (Int.emod_lt_of_pos _ n0)) h2 l1 (k1.trans (Kp.upd_in (.inl rfl)))
    · rintro nx hnx m σ H1 ⟨s1, rfl, h1, rfl, l1, k1⟩
      have out := hnx _ _ ⟨_, s1, rfl, h1, rfl, l1, k1⟩
      walk_at "go"
      refine ⟨_, h1.gl, _, rfl, ite2 (fun _ => ?_) (fun _ => out)⟩
      refine ⟨_, .inl (.inl (.inl h1.cc)), ?_⟩
      refine ite2 (fun h0 => ?_) (fun _ => out)
      rw [List.length_map] at h0
      refine ⟨fun σ' H' => ∃ m', m' < s1.cs.length ∧ Pv m' σ' H', fun _ _ z => z, .inl ⟨rfl, _, .inl (.inl h1.cc)⟩, ?_⟩
      obtain ⟨l, z, el⟩ : ∃ l z, s1.cs = l ++ [z] := by
        rcases List.eq_nil_or_concat s1.cs with e | ⟨l, z, e⟩
        · rw [e] at h0
          exact absurd h0 (by decide)
        · exact ⟨l, z, by rw [e, List.concat_eq_append]⟩
      have ll : s1.cs.length = l.length + 1 := by
        rw [el, List.length_append]
        rfl
      refine ⟨c, _, .int z, rfl, rfl, h1.cc, by rw [el, List.map_append]; simp, ?_⟩
      have h2 : SrcAt (upd H1 c (.lst ((s1.cs.map V.int).dropLast))) d c { s1 with cs := l } := ⟨by rw [upd_ne h1.ne.symm]; exact h1.dd, by rw [upd_same, el, List.map_append]; simp⟩
      refine ⟨_, h2.pl _, l.length, by omega, { s1 with cs := l, l := z }, rfl, h2.up _ rfl, rfl, by show l.length ≤ _; omega, ?_⟩
      exact k1.trans ((Kp.upd_in (.inr rfl)).trans (Kp.upd_in (.inl rfl)))
end
end TX
/-! part S2 -/
/-! The source opened; things in any order. -/
namespace TX
open PySem PySem.Spec PyProof.Rows L2 NT
local macro_rules | `(tactic| walk_at "go") => `(tactic| simp only [L2.start, List.map_cons, List.map_nil, List.length_cons, List.length_nil, Nat.reduceSub, Nat.reduceAdd, List.replicate_succ, List.replicate_zero, List.cons_append, List.nil_append, List.append_nil,
  tSeq, tNext, tRet, tIfS, tTest, tAnd, tOr, tNot, tCB, tCall, tCons, tNil, tVar, tC, tOp, tUn, tAsg, gName, rI0, rI, CMul, CDiv, tDGet, sDPut, tBM0, tBM, tTup, tLst, tPar, gTup, gNil, gCons, tIf, tAug, tRevL, tDisp, tPairs, tYes, wipe, tDrop, L2.tSl, tNotV, tAndV, tOrV, rEq, rNe, tFmt, ↓reduceIte, ↓reduceIte,
  List.getElem?_cons_zero, List.getElem?_cons_succ, List.set_cons_zero, List.set_cons_succ, Option.some.injEq, V.int.injEq, V.str.injEq, V.ref.injEq, V.bl.injEq, exists_eq_left, exists_eq_left', exists_eq_right, exists_eq_right', exists_eq', true_and, and_true, decide_eq_true_eq, List.cons.injEq, reduceCtorEq, false_and, false_or, or_false, exists_false, exists_and_left, exists_and_right])
def spOpen (K : PySem.W.Frag) : Sp := fun vs H Q _ => ∃ (a : Addr) (ns : List Int), vs = [.ref a] ∧ SqL K H a (ns.map V.int) ∧ ns.length ≤ 63 ∧
  ∀ (d c : Addr) (s : Sr) (H' : Hp), Same H H' → H d = none → H c = none → SrcAt H' d c s → s.cs.length ≤ 63 → Q (.ref d) H'
section
variable {P : Program} {w : World} {K : PySem.W.Frag} {mg : Str → Option Value} {base : Heap}
theorem ok_open (T : Txt w K mg) : Ok P w K mg base CX0 1 "_law_open_cells" ["script"] (spOpen K) := by
  obtain ⟨f, fd, D⟩ := T.d_L_open_cells
  refine ⟨f, fd, D.F.ok sc_L_open_cells (fun vs H Q E h => ?_) (fun cdv A outer s H vs Q E hr h => ?_), D.g, D.F.kp, D.b⟩
  · obtain ⟨a, ns, rfl, _⟩ := h
    rfl
  · obtain ⟨a, ns, rfl, hS, hlen, q⟩ := h
    have hu := hu_of hr
    have nd := sc_L_open_cells.nd
    refine ⟨_, pss_cons (ps_set (i := 1) nd rfl (.inl rfl) pe_int)
      (pss_cons (ps_for PassesOwn.never rfl (pi_list (pv 0)) (pg_name (i := 2) nd rfl (.inl rfl))
        (pss_one (ps_set (i := 1) nd rfl (.inl rfl) (pe_op op_mod (pe_callTy call_int1 (by rfl) T.z_int (by decide +kernel) (pa_cons (pe_op op_add (pe_op op_add (pe_op op_mul (pv 1) pe_int) (pe_op op_mul (pv 2) pe_int)) pe_int) pa_nil)) pe_int))))
      (pss_cons (ps_setLc (i := 3) (own := [("cell", 2)]) (g := gName 2) (tt := tYes) rfl nd rfl rfl (sw_true rfl rfl rfl (by decide +kernel)) (pi_list (pv 0)) (blkOk_by (N := n_L_open_cells) (sc := defScope s_L_open_cells) (by decide +kernel))
        (fun _ _ _ _ _ => pg_name (i := 2) nd rfl (.inl rfl)) (fun _ _ _ _ _ => pts_nil) (fun _ _ _ _ _ => pe_callB call_abs (by rfl) T.z_abs (by decide +kernel) (pa_cons (pv 2) pa_nil)))
      (pss_one (ps_ret (pe_disp (pps_cons pe_str (pe_revL (pv 3)) (pps_cons pe_str pe_int (pps_cons pe_str (pv 1) (pps_cons pe_str pe_int pps_nil)))) (by rfl) (by rfl) (fun z => by cases z) (by decide)))))), ?_⟩
    refine ⟨_, rfl, a, rfl, ⟨_, hS⟩, for_list (K := K) (a := a) (xs := ns.map V.int) (fun i σ H2 => ∃ z v, σ = [some (.ref a), some (.int z), v, none] ∧ H2 = H) ⟨11, none, rfl, rfl⟩ (fun i σ H2 _ ⟨_, _, _, e⟩ => e ▸ hS) ?_ ?_⟩
    · rintro i x σ H2 hx ⟨z, v, rfl, e⟩
      obtain ⟨k, _, rfl⟩ := map_get hx
      walk_at "go"
      exact ⟨.inr ⟨by decide, by decide⟩, .inr ⟨by decide, by decide⟩, by decide, e⟩
    · rintro σ H2 ⟨z, v, rfl, e⟩
      subst e
      walk_at "go"
      refine ⟨.ref a, rfl, a, rfl, ⟨_, hS⟩, fun D hD => lc_list (xs := ns.map V.int) (fun i H' => ∃ l : List Int, l.length = i ∧ Same H2 H' ∧ H' D = some (.lst (l.map V.int))) ⟨[], rfl, same_new hD, upd_same⟩ (fun i H' _ ⟨_, _, sm, _⟩ => sm.seq hS) ?_ ?_⟩
      · rintro i x H1 hx ⟨l, el, sm, eD⟩
        obtain ⟨k, hk, rfl⟩ := map_get hx
        have hi := get_lt hk
        walk_at "go"
        refine ⟨_, eD, by rw [List.length_map]; exact small_lt (m := 63) (by omega) (by decide), l ++ [if k < 0 then -k else k], by rw [List.length_append, el]; rfl, fun b o hb => ?_, ?_⟩
        · rw [upd_ne (ne_of_none hb hD)]
          exact sm b o hb
        · rw [upd_same, List.map_append]
          rfl
      · rintro H1 ⟨l, el, sm, eD⟩
        rw [List.length_map] at el
        walk_at "go"
        intro p hp
        refine ⟨_, .inl (.inl (by rw [upd_ne (ne_of_none eD hp)]; exact eD)), fun c hc => ?_⟩
        have cp : c ≠ p := fun z => by
          rw [z, upd_same] at hc
          cases hc
        rw [upd_ne cp] at hc
        refine ⟨by rw [upd_ne cp.symm, upd_same], kvS c ⟨l.reverse, 1, z, 0⟩, rfl, by show 4 ≤ 15; decide, ?_⟩
        refine q p c ⟨l.reverse, 1, z, 0⟩ _ (fun b o hb => ?_) (sm.free hp) (sm.free hc) ⟨?_, ?_⟩ (by show l.reverse.length ≤ 63; rw [List.length_reverse]; omega)
        · have h1 := sm b o hb
          rw [upd_ne (ne_of_none h1 hp), upd_ne (ne_of_none h1 hc), upd_ne (ne_of_none h1 hp)]
          exact h1
        · rw [upd_same]
          rfl
        · rw [upd_ne cp, upd_same, ← List.map_reverse]
end
end TX
/-! part E04 -/
/-! What an error keeps: a copy of an int. -/
namespace TX
open PySem PySem.Spec PyProof.Rows L2 NT
local macro_rules | `(tactic| walk_at "go") => `(tactic| simp only [L2.start, List.map_cons, List.map_nil, List.length_cons, List.length_nil, Nat.reduceSub, Nat.reduceAdd, List.replicate_succ, List.replicate_zero, List.cons_append, List.nil_append, List.append_nil,
  tSeq, tNext, tRet, tIfS, tTest, tAnd, tOr, tNot, tCB, tCall, tCons, tNil, tVar, tC, tOp, tUn, tAsg, gName, rI0, rI, CMul, CDiv, tDGet, sDPut, tBM0, tBM, tTup, tLst, tPar, gTup, gNil, gCons, tIf, tAug, tRevL, tDisp, tPairs, tYes, wipe, tDrop, L2.tSl, tNotV, tAndV, tOrV, tB, rIxL, rIxT, rIxS, rAppend, rExtend, rPop, rSlL, rSetL, tPart, rEq, rNe, tFmt, ↓reduceIte, L2.gSub, ↓reduceIte,
  List.getElem?_cons_zero, List.getElem?_cons_succ, List.set_cons_zero, List.set_cons_succ, Option.some.injEq, V.int.injEq, V.str.injEq, V.ref.injEq, V.bl.injEq, exists_eq_left, exists_eq_left', exists_eq_right, exists_eq_right', exists_eq', true_and, and_true, decide_eq_true_eq, List.cons.injEq, reduceCtorEq, false_and, false_or, or_false, exists_false, exists_and_left, exists_and_right, and_assoc])
section
variable {P : Program} {w : World} {K : PySem.W.Frag} {mg : Str → Option Value} {base : Heap}
theorem isi_int {K : PySem.W.Frag} {H : Hp} {n : Int} {T : String} {b : Bool} {Q : VK} (h : kitB "int" T = some b) (q : Q (.bl b) H) : rIsi K [.int n, .ty T] H Q :=
  ⟨_, _, _, _, b, rfl, .ty T, .base (.int n), kit_ty h, q⟩
def spPartsI : Sp := fun vs H Q _ => ∃ n : Int, vs = [.int n] ∧ ∀ p H', Same H H' → H p = none → H' p = some (.lst []) → Q (.ref p) H'
theorem ok_partsOf (T : Txt w K mg) : Ok P w K mg base CX0 1 "parts_of" ["value"] spPartsI := by
  obtain ⟨f, fd, D⟩ := T.d_parts_of
  refine ⟨f, fd, D.F.ok sc_parts_of (fun vs H Q E h => ?_) (fun cdv A outer s H vs Q E hr h => ?_), D.g, D.F.kp, D.b⟩
  · obtain ⟨n, rfl, _⟩ := h
    rfl
  · obtain ⟨n, rfl, q⟩ := h
    refine ⟨_, pss_cons (ps_if (pt_val (pe_callB call_isi (by rfl) T.z_isinstance (by decide +kernel) (pa_cons (pv 0) (pa_cons (pe_bltn (v := .ty "dict") (by rfl) T.z_dict (by decide +kernel) rfl) pa_nil)))) (pss_one ps_never) pss_nil)
      (pss_cons (ps_if (pt_val (pe_callB call_isiT (by rfl) T.z_isinstance (by decide +kernel) (pa_cons (pv 0) (pa_cons (pe_tup (pa_cons (pe_bltn (v := .ty "list") (by rfl) T.z_list (by decide +kernel) rfl) (pa_cons (pe_bltn (v := .ty "tuple") (by rfl) T.z_tuple (by decide +kernel) rfl) pa_nil))) pa_nil)))) (pss_one ps_never) pss_nil)
      (pss_one (ps_ret (pe_lst pa_nil)))), ?_⟩
    walk_at "go"
    refine isi_int (b := false) (by decide +kernel) ⟨_, rfl, iteF ⟨by decide, fun t nt => ?_⟩⟩
    refine ⟨_, t, [.ty "list", .ty "tuple"], .type "int", [.type "list", .type "tuple"], false, rfl, upd_same, .cons (.ty _) (.cons (.ty _) .nil), .base (.int n), kitAny_cons (b := false) (kit_ty (by decide +kernel)) (fun _ => kitAny_cons (b := false) (kit_ty (by decide +kernel)) (fun _ => kitAny_nil) (fun z => by cases z)) (fun z => by cases z), _, rfl, iteF ⟨Nat.zero_le _, fun p hp => ?_⟩⟩
    exact q _ _ ((same_new nt).trans (same_new hp)) ((same_new nt).free hp) upd_same
def spMadeI : Sp := fun vs H Q _ => ∃ (n : Int) (v : V), vs = [.int n, v] ∧ ∀ H', Same H H' → Q (.int n) H'
theorem ok_made (T : Txt w K mg) : Ok P w K mg base CX0 1 "made_of" ["value", "parts"] spMadeI := by
  obtain ⟨f, fd, D⟩ := T.d_made_of
  refine ⟨f, fd, D.F.ok sc_made_of (fun vs H Q E h => ?_) (fun cdv A outer s H vs Q E hr h => ?_), D.g, D.F.kp, D.b⟩
  · obtain ⟨n, v, rfl, _⟩ := h
    rfl
  · obtain ⟨n, v, rfl, q⟩ := h
    refine ⟨_, pss_cons (ps_if (pt_val (pe_callB call_isi (by rfl) T.z_isinstance (by decide +kernel) (pa_cons (pv 0) (pa_cons (pe_bltn (v := .ty "dict") (by rfl) T.z_dict (by decide +kernel) rfl) pa_nil)))) (pss_one ps_never) pss_nil)
      (pss_cons (ps_if (pt_val (pe_callB call_isi (by rfl) T.z_isinstance (by decide +kernel) (pa_cons (pv 0) (pa_cons (pe_bltn (v := .ty "tuple") (by rfl) T.z_tuple (by decide +kernel) rfl) pa_nil)))) (pss_one ps_never) pss_nil)
      (pss_cons (ps_if (pt_val (pe_callB call_isi (by rfl) T.z_isinstance (by decide +kernel) (pa_cons (pv 0) (pa_cons (pe_bltn (v := .ty "list") (by rfl) T.z_list (by decide +kernel) rfl) pa_nil)))) (pss_one ps_never) pss_nil)
      (pss_one (ps_ret (pv 0))))), ?_⟩
    walk_at "go"
    refine isi_int (b := false) (by decide +kernel) ⟨_, rfl, iteF (isi_int (b := false) (by decide +kernel) ⟨_, rfl, iteF (isi_int (b := false) (by decide +kernel) ⟨_, rfl, iteF (q _ (Same.refl H))⟩)⟩)⟩
def spCopyI : Sp := fun vs H Q _ => ∃ n : Int, vs = [.int n] ∧ ∀ H', Same H H' → Q (.int n) H'
theorem ok_copy (T : Txt w K mg) : Ok P w K mg base CX0 2 "copy_of" ["value"] spCopyI := by
  obtain ⟨f, fd, D⟩ := T.d_copy_of
  refine ⟨f, fd, D.F.ok sc_copy_of (fun vs H Q E h => ?_) (fun cdv A outer s H vs Q E hr h => ?_), D.g, D.F.kp, D.b⟩
  · obtain ⟨n, rfl, q⟩ := h
    rfl
  · obtain ⟨n, rfl, q⟩ := h
    have nd := sc_copy_of.nd
    refine ⟨_, pss_cons (ps_par (i := 1) (j := 2) rfl nd rfl rfl (by decide) rfl rfl (pa_cons (pe_lst (pa_cons (pv 0) pa_nil)) (pa_cons (pe_lst pa_nil) pa_nil)) (by rfl))
      (pss_cons (ps_while PassesOwn.never (pt_cmpR op_lt (pe_callB call_len_seq (by rfl) T.z_len PySem.boot_len (pa_cons (pv 2) pa_nil)) (pe_callB call_len_seq (by rfl) T.z_len PySem.boot_len (pa_cons (pv 1) pa_nil)) (nomark _))
        (pss_cons (ps_set (i := 3) nd rfl (.inl rfl) (pe_d (ok_partsOf T) hr pass0 (pa_cons (pe_ix ix_list (pv 1) (pe_callB call_len_seq (by rfl) T.z_len PySem.boot_len (pa_cons (pv 2) pa_nil)) (fun _ _ => rfl)) pa_nil)))
        (pss_cons (ps_expr (pe_bm PySem.F.plainAttrs_list PySem.F.slot_list_append PySem.F.type_list_append mt_append (pv 2) (pa_cons (pe_callB call_len_seq (by rfl) T.z_len PySem.boot_len (pa_cons (pv 1) pa_nil)) pa_nil)))
        (pss_one (ps_expr (pe_bm PySem.F.plainAttrs_list PySem.F.slot_list_extend PySem.F.type_list_extend mt_extend (pv 1) (pa_cons (pv 3) pa_nil)))))))
      (pss_cons (ps_for PassesOwn.never rfl (pi_revR (by rfl) T.z_reversed (prg_1 (by rfl) T.z_range (pe_callB call_len_seq (by rfl) T.z_len PySem.boot_len (pa_cons (pv 1) pa_nil)))) (pg_name (i := 4) nd rfl (.inl rfl))
        (pss_cons (ps_set (i := 5) nd rfl (.inl rfl) (pe_ix ix_list (pv 2) (pv 4) (fun _ _ => rfl)))
        (pss_one (ps_asg (pe_d (ok_made T) hr pass0 (pa_cons (pe_ix ix_list (pv 1) (pv 4) (fun _ _ => rfl)) (pa_cons (pe_slice sl_list (pv 1) (po_some (pv 5)) (po_some (pe_op op_add (pv 5) (pe_callB call_len_seq (by rfl) T.z_len PySem.boot_len (pa_cons (pe_d (ok_partsOf T) hr pass0 (pa_cons (pe_ix ix_list (pv 1) (pv 4) (fun _ _ => rfl)) pa_nil)) pa_nil))))) pa_nil))) (pg_sub (pv 1) (pv 4) set_list)))))
      (pss_one (ps_ret (pe_ix ix_list (pv 1) pe_int (fun _ _ => rfl)))))), ?_⟩
    walk_at "go"
    refine ⟨by decide, fun p hp => ⟨Nat.zero_le _, fun r hr1 => ?_⟩⟩
    have rp : r ≠ p := fun z => by
      rw [z, upd_same] at hr1
      cases hr1
    have hr0 : H r = none := by rwa [upd_ne rp] at hr1
    refine while_m (fun m σ H' => Same H H' ∧ ((m = 1 ∧ σ = [some (.int n), some (.ref p), some (.ref r), none, none, none] ∧ H' p = some (.lst [.int n]) ∧ H' r = some (.lst [])) ∨ (m = 0 ∧ ∃ v, σ = [some (.int n), some (.ref p), some (.ref r), v, none, none] ∧ H' p = some (.lst [.int n]) ∧ H' r = some (.lst [.int 1]))))
      (fun σ H' => Same H H' ∧ ∃ v, σ = [some (.int n), some (.ref p), some (.ref r), v, none, none] ∧ H' p = some (.lst [.int n]) ∧ H' r = some (.lst [.int 1]))
      ⟨1, (same_new hp).trans (same_new hr1), .inl ⟨rfl, rfl, by rw [upd_ne rp.symm, upd_same], upd_same⟩⟩ ?_ ?_
    · rintro σ H1 ⟨sm, v, rfl, h1, h2⟩
      walk_at "go"
      refine ⟨.ref p, rfl, p, rfl, [.int n], .inl (.inl (.inl h1)), 1, rfl, by decide, by decide, by decide, by decide, for_rangeC (lo := 0) (c := -1) (n := 1) (fun i σ' H' => Same H H' ∧ (∃ v4 v5, σ' = [some (.int n), some (.ref p), some (.ref r), v, v4, v5]) ∧ H' p = some (.lst [.int n]) ∧ H' r = some (.lst [.int 1])) ⟨sm, ⟨none, none, rfl⟩, h1, h2⟩ ?_ ?_⟩
      · rintro i σ' H2 hi ⟨sm2, ⟨v4, v5, rfl⟩, g1, g2⟩
        obtain rfl : i = 0 := by omega
        walk_at "go"
        refine ⟨[.int 1], .inl (.inl g2), .int 1, rfl, [.int n], .inl (.inl g1), .int n, rfl, 1, rfl, [.int n], .inl (.inl g1), .int n, rfl, n, rfl, fun b H3 sm3 hb0 hb => ?_⟩
        refine ⟨b, rfl, [], .inl (.inl (.inl hb)), 1, rfl, [.int n], .inl (.inl (sm3 _ _ g1)), fun sl hsl => ⟨n, _, rfl, fun H4 sm4 => ?_⟩⟩
        have g4 : H4 p = some (.lst [.int n]) := sm4 _ _ (same_new hsl _ _ (sm3 _ _ g1))
        have g5 : H4 r = some (.lst [.int 1]) := sm4 _ _ (same_new hsl _ _ (sm3 _ _ g2))
        refine ⟨[.int n], g4, 0, rfl, fun x o hx => ?_, ?_, ?_⟩
        · rw [upd_ne (ne_of_none hx hp)]
          exact sm4 _ _ (same_new hsl _ _ (sm3 _ _ (sm2 _ _ hx)))
        · rw [upd_same]
          rfl
        · rw [upd_ne rp]
          exact g5
      · rintro σ' H2 ⟨sm2, ⟨v4, v5, rfl⟩, g1, g2⟩
        walk_at "go"
        exact ⟨_, .inl (.inl g1), .int n, rfl, q _ sm2⟩
    · rintro nx hnx m σ H1 ⟨sm, ⟨rfl, rfl, h1, h2⟩ | ⟨rfl, v, rfl, h1, h2⟩⟩
      · walk_at "go"
        refine ⟨[], .inl (.inl (.inl h2)), [.int n], .inl (.inl (.inl h1)), ite2 (fun _ => ?_) (fun z => absurd (show ((0 : Nat) : Int) < ((1 : Nat) : Int) by decide) z)⟩
        refine ⟨fun σ' H' => Same H H' ∧ ∃ v, σ' = [some (.int n), some (.ref p), some (.ref r), v, none, none] ∧ H' p = some (.lst [.int n]) ∧ H' r = some (.lst [.int 1]), fun σ' H' ⟨sm', v, e, a, b⟩ => ⟨0, by decide, sm', .inr ⟨rfl, ⟨v, e⟩, a, b⟩⟩, ?_⟩
        refine ⟨[], .inl (.inl (.inl h2)), _, .inl (.inl h1), .int n, rfl, n, rfl, fun b H2 sm2 hb0 hb => ⟨.inl ⟨rfl, _, .inl (.inl (sm2 _ _ h2))⟩, [.int n], .inl (.inl (.inl (sm2 _ _ h1))), [], sm2 _ _ h2, by decide, .inl ⟨rfl, _, .inl (.inl (by rw [upd_ne rp.symm]; exact sm2 _ _ h1))⟩, ?_⟩⟩
        have bp : b ≠ p := (ne_of_none h1 hb0).symm
        have br : b ≠ r := (ne_of_none h2 hb0).symm
        refine ⟨b, rfl, [.int n], by rw [upd_ne rp.symm]; exact sm2 _ _ h1, [], by rw [upd_ne br]; exact hb, by show 1 ≤ sizeLine; decide, ?_⟩
        refine ⟨fun x o hx => ?_, _, rfl, upd_same, by rw [upd_ne rp, upd_same]; rfl⟩
        rw [upd_ne (ne_of_none hx hp), upd_ne (ne_of_none hx hr0)]
        exact sm2 _ _ (sm _ _ hx)
      · have out := hnx _ _ ⟨sm, v, rfl, h1, h2⟩
        walk_at "go"
        exact ⟨_, .inl (.inl (.inl h2)), _, .inl (.inl (.inl h1)), ite2 (fun z => absurd z (by show ¬ ((1 : Nat) : Int) < ((1 : Nat) : Int); decide)) (fun _ => out)⟩
end
end TX
/-! part E2 -/
/-! BadText made and raised. -/
namespace TX
open PySem PySem.Spec PyProof.Rows L2 NT
local macro_rules | `(tactic| walk_at "go") => `(tactic| simp only [L2.start, List.map_cons, List.map_nil, List.length_cons, List.length_nil, Nat.reduceSub, Nat.reduceAdd, List.replicate_succ, List.replicate_zero, List.cons_append, List.nil_append, List.append_nil,
  tSeq, tNext, tRet, tIfS, tTest, tAnd, tOr, tNot, tCB, tCall, tCons, tNil, tVar, tC, tOp, tUn, tAsg, gName, rI0, rI, CMul, CDiv, tDGet, sDPut, tBM0, tBM, tTup, tLst, tPar, gTup, gNil, gCons, tIf, tAug, tRevL, tDisp, tPairs, tYes, wipe, tDrop, L2.tSl, tNotV, tAndV, tOrV, tB, NdefX.startF, tOst, tMkO, rIxL, rIxT, rIxS, rAppend, rExtend, rPop, rSlL, rSetL, tPart, rEq, rNe, tFmt, ↓reduceIte, L2.gSub, ↓reduceIte,
  List.getElem?_cons_zero, List.getElem?_cons_succ, List.set_cons_zero, List.set_cons_succ, Option.some.injEq, V.int.injEq, V.str.injEq, V.ref.injEq, V.bl.injEq, exists_eq_left, exists_eq_left', exists_eq_right, exists_eq_right', exists_eq', true_and, and_true, decide_eq_true_eq, List.cons.injEq, reduceCtorEq, false_and, false_or, or_false, exists_false, exists_and_left, exists_and_right, and_assoc])
abbrev PW : Program := PySem.Challenge.pw_nodetour_k27_deeds_as_texts
def spInit (C : Addr) : Sp := fun vs H Q _ => ∃ (x : Addr) (n : Int), vs = [.ref x, .int n] ∧ H x = some (exo x C none) ∧
  ∀ (d : Addr) (H' : Hp), (∀ b o, H b = some o → b ≠ x → H' b = some o) → H d = none → d ≠ x → H' x = some (exo x C (some d)) → H' d = some (exd d [(("place" : Str), .int n)]) → Q .non H'
def nfI (cc cda : Addr) : NdefX.NF := ⟨"__init__", "BadText.__init__", defArgs s_init, defBody s_init, defScope s_init, clI cc, cda⟩
section
variable {w : World} {K : PySem.W.Frag} {mg : Str → Option Value} {base : Heap}
theorem ok_init (T : Txt w K mg) {C R fI cc : Addr} (B : BadC K mg C R fI cc) : ∃ fd, FnOk PW w K mg base CX0 3 fI fd ["self", "place"] (spInit C) ∧ L2.Binds K fd ["self", "place"] [] := by
  obtain ⟨oc, kV, doc, pm, ct, ccl, cl', od, an, cdd, cld, osl, ccs, csl, vs0, tf, cda, hl, hcode, hco, hvs, hcell⟩ := B.fn
  obtain ⟨cd, hcls⟩ := B.cls
  refine ⟨_, SupX.fn_super (F := nfI cc cda) (N := ["self", "place", "__class__"]) hl rfl (by rfl) hcode hco hvs (by decide +kernel) hcell B.ox hcls T.z_super (by decide +kernel) B.sub B.sup B.sVE B.opq (by decide +kernel) (NdefX.nscope_by (by show NdefX.nscB _ _ _ (defScope s_init) = true; decide +kernel)) (by rfl) (by rfl) (by show List.lookup _ (defScope s_init).names = _; decide +kernel) (fun L => by rfl) (fun L => by rfl) (fun L => by rfl) (fun vs H Q E h => ?_) (fun vs H Q E h => ?_) (fun A outer s H vs ws Q E hr hw h => ?_), .all fun us hu => ?_⟩
  · obtain ⟨x, n, rfl, _⟩ := h
    rfl
  · obtain ⟨x, n, rfl, hx, _⟩ := h
    exact ⟨x, _, rfl, hx⟩
  · obtain ⟨x, n, rfl, hx, q⟩ := h
    obtain ⟨cw, rfl⟩ : ∃ cw, ws = [cw] := by
      match ws, hw with
      | [cw], _ => exact ⟨cw, rfl⟩
    refine ⟨_, (pss_one (ps_ost (pv 0) (pe_d (ok_copy T) hr pass0 (pa_cons (pv 1) pa_nil)))), ?_⟩
    walk_at "go"
    refine ⟨n, rfl, fun H1 sm => ⟨C, B.ox, B.noP, .inl ⟨sm _ _ hx, fun dx hd dxn => ?_⟩⟩⟩
    refine q dx _ (fun b o hb bx => ?_) (sm.free hd) dxn upd_same (by rw [upd_ne dxn, upd_same])
    rw [upd_ne bx, upd_ne (ne_of_none (sm _ _ hb) hd)]
    exact sm _ _ hb
  · match us, hu with
    | [_, _], _ => rfl
/-- raise BadText(n): what must hold of the error's own dict -/
def Bad (C : Addr) (E : XK) (H : Hp) (n : Int) : Prop := ∀ d H', Same H H' → H d = none → H' d = some (.xd [(("place" : Str), .int n)]) → E (.ref C) (some d) H'
theorem Bad.imp {C : Addr} {E E' : XK} {H : Hp} {n : Int} (b : Bad C E H n) (h : ∀ c d H', E c d H' → E' c d H') : Bad C E' H n := fun d H' a b' c => h _ _ _ (b d H' a b' c)
theorem Bad.of {C : Addr} {E : XK} {H H' : Hp} {n : Int} (b : Bad C E H n) (s : Same H H') : Bad C E H' n := fun d H2 a b' c => b d H2 (s.trans a) (s.free b') c
theorem ps_bad {X : Cx} {W : WX} {e : Expr} {te : TE} {p pos pos' : Pos} {j : Nat} {C R fI cc : Addr} (hP : X.prog = PW) (T : Txt X.w X.K X.mg) (B : BadC X.K X.mg C R fI cc) (hr : Room j X.A) (hc : X.calm = true) (tk : Takes X W) (he : PE X e te) (hj : 4 ≤ j := by decide) (hg : Gl X "BadText" := by rfl)
    (hs : starEach [e] X.env = (false, eval e X.env) :: starEach [] X.env := by rfl) : PS X (.Raise (some (.Call (.Name "BadText" p) [e] [] pos)) none pos') (fun _ σ H => tMkO C (spInit C) [] (tCons te tNil) σ H fun cls d H' => W cls d σ H') := by
  obtain ⟨fd, F, b⟩ := ok_init (w := X.w) (base := X.base) T B
  rw [← hP] at F
  exact ps_raise hc tk (pmk_oex B.ox B.iC B.tI F (hr.mono hj) b .nil pass0 hg B.gC (pa_cons he pa_nil hs) (he := hs))
/-- what such a raise asks behind its argument -/
theorem mk_bad {C : Addr} {n : Int} {E : XK} {H1 : Hp} (b : Bad C E H1 n) : [V.int n].length ≤ 1000 ∧ ∀ a, H1 a = none → spInit C (.ref a :: ([V.int n] ++ [])) (upd H1 a (exo a C none))
    (fun v H2 => v = .non ∧ ∃ (d : Addr) (fs : List (Str × V)), H2 a = some (exo a C (some d)) ∧ H2 d = some (exd d fs) ∧ H1 d = none ∧ E (.ref C) (some d) (upd (del H2 a) d (.xd fs))) (fun _ _ _ => False) := by
  refine ⟨by show 1 ≤ 1000; decide, fun a ha => ⟨a, n, rfl, upd_same, fun d H' k hd da e1 e2 => ⟨rfl, d, _, e1, e2, ?_, ?_⟩⟩⟩
  · rwa [upd_ne da] at hd
  · have hd1 : H1 d = none := by rwa [upd_ne da] at hd
    refine b d _ (fun x o hx => ?_) hd1 upd_same
    have xa : x ≠ a := ne_of_none hx ha
    rw [upd_ne (ne_of_none hx hd1), del_ne xa]
    exact k x o (by rw [upd_ne xa]; exact hx) xa
end
end TX
/-! part M04 -/
/-! Rows of numbers in a text: the reading, and the automaton that follows it sign by sign. Plain lists of codes. -/
namespace RW4
/-! ### numbers and forms; z 122, n 110, Z 90 (longer) -/
def dg (c : Nat) : Bool := decide (48 ≤ c) && decide (c ≤ 57)
def d1 (c : Nat) : Bool := decide (49 ≤ c) && decide (c ≤ 57)
def lim (x : Nat) : Nat := if x = 90 then 60 else 9
theorem lim_pos (x : Nat) : 0 < lim x := by
  unfold lim
  split <;> decide
theorem lim_le (x : Nat) : lim x ≤ 60 := by
  unfold lim
  split <;> decide
def runL (x : Nat) (s : List Nat) : List Nat := (s.take (lim x)).takeWhile dg
def val (s : List Nat) : Int := ((PySem.NumText.digitsVal s : Nat) : Int)
/-- a number at the head of s: its value and how many signs; or how many signs are good -/
def numS (x : Nat) : List Nat → Except Nat (Int × Nat)
  | [] => .error 0
  | c :: r =>
    if x ≠ 110 ∧ c = 45 then
      match r with
      | [] => .error 1
      | e :: r' => if d1 e = true then .ok (-(val (runL x (e :: r'))), 1 + (runL x (e :: r')).length) else .error 1
    else if c = 48 then .ok (0, 1)
    else if d1 c = true then .ok (val (runL x (c :: r)), (runL x (c :: r)).length)
    else .error 0
def litS (ch : Nat) : List Nat → Except Nat Nat
  | [] => .error 0
  | c :: _ => if c = ch then .ok 1 else .error 0
def isN (x : Nat) : Prop := x = 122 ∨ x = 110 ∨ x = 90
instance (x : Nat) : Decidable (isN x) := inferInstanceAs (Decidable (_ ∨ _ ∨ _))
/-- numbers in a form -/
def formS : List Nat → List Nat → Except Nat (List Int × Nat)
  | [], _ => .ok ([], 0)
  | f :: fs, s =>
    if isN f then
      match numS f s with
      | .error k => .error k
      | .ok (n, k) => match formS fs (s.drop k) with
        | .error j => .error (k + j)
        | .ok (ns, j) => .ok (n :: ns, k + j)
    else
      match litS f s with
      | .error k => .error k
      | .ok k => match formS fs (s.drop k) with
        | .error j => .error (k + j)
        | .ok (ns, j) => .ok (ns, k + j)
/-- further items, each behind a blank -/
def restS (form : List Nat) : Nat → List Nat → Except Nat (List (List Int))
  | 0, _ => .error 0
  | _ + 1, [] => .ok []
  | m + 1, c :: r =>
    if c = 32 then
      match formS form r with
      | .error k => .error (1 + k)
      | .ok (ns, k) => match restS form m (r.drop k) with
        | .error j => .error (1 + k + j)
        | .ok l => .ok (ns :: l)
    else .error 0
def itemsS (form s : List Nat) : Except Nat (List (List Int)) :=
  if s = [45] then .ok []
  else match formS form s with
    | .error k => .error k
    | .ok (ns, k) => match restS form (s.length + 1) (s.drop k) with
      | .error j => .error (k + j)
      | .ok l => .ok (ns :: l)
/-! ### the automaton -/
inductive St4 where
  | own (n : Nat) | num (x : Nat) (f : List Nat) | minus (x : Nat) (f : List Nat) | digs (n : Nat) (f : List Nat) | lit (f : List Nat)
  deriving DecidableEq
/-- in front of a form -/
def at4 : List Nat → St4
  | [] => .lit []
  | f :: fs => if isN f then .num f fs else .lit (f :: fs)
/-- what goes ahead of the forms, and behind one -/
structure Au where
  st : Nat → Nat → Option St4
  fin : Nat → Option St4
def litD (A : Au) : List Nat → Nat → Option St4
  | [], c => A.fin c
  | ch :: fs, c => if c = ch then some (at4 fs) else none
def dl (A : Au) : St4 → Nat → Option St4
  | .own n, c => A.st n c
  | .num x f, c => if x ≠ 110 ∧ c = 45 then some (.minus x f) else if c = 48 then some (.lit f) else if d1 c = true then some (.digs (lim x - 1) f) else none
  | .minus x f, c => if d1 c = true then some (.digs (lim x - 1) f) else none
  | .digs n f, c => if dg c = true ∧ 0 < n then some (.digs (n - 1) f) else litD A f c
  | .lit f, c => litD A f c
def acc : St4 → Bool
  | .digs _ f => f.isEmpty
  | .lit f => f.isEmpty
  | _ => false
def run (A : Au) : St4 → List Nat → Nat × Bool
  | q, [] => (0, acc q)
  | q, c :: r => match dl A q c with
    | none => (0, false)
    | some q' => ((run A q' r).1 + 1, (run A q' r).2)
def sh (k : Nat) (x : Nat × Bool) : Nat × Bool := (x.1 + k, x.2)
theorem sh_sh (j k : Nat) (x : Nat × Bool) : sh j (sh k x) = sh (k + j) x := by
  unfold sh
  simp only [Nat.add_assoc]
theorem sh_0 (x : Nat × Bool) : sh 0 x = x := rfl
theorem run_cons {A : Au} {q q' : St4} {c : Nat} {r : List Nat} (h : dl A q c = some q') : run A q (c :: r) = sh 1 (run A q' r) := by
  show (match dl A q c with | none => (0, false) | some q' => ((run A q' r).1 + 1, (run A q' r).2)) = _
  rw [h]
  rfl
theorem run_none {A : Au} {q : St4} {c : Nat} {r : List Nat} (h : dl A q c = none) : run A q (c :: r) = (0, false) := by
  show (match dl A q c with | none => (0, false) | some q' => ((run A q' r).1 + 1, (run A q' r).2)) = _
  rw [h]
/-- behind digits that end: as in front of what comes -/
theorem run_digs (A : Au) (f : List Nat) : ∀ (n : Nat) (s : List Nat), (n = 0 ∨ ∀ c r, s = c :: r → dg c = false) → run A (.digs n f) s = run A (.lit f) s
  | n, [], _ => rfl
  | n, c :: r, h => by
    have e : dl A (.digs n f) c = dl A (.lit f) c := by
      show (if dg c = true ∧ 0 < n then some (St4.digs (n - 1) f) else litD A f c) = litD A f c
      rw [if_neg]
      rintro ⟨h1, h2⟩
      rcases h with h | h
      · omega
      · rw [h c r rfl] at h1
        cases h1
    show (match dl A (.digs n f) c with | none => (0, false) | some q' => ((run A q' r).1 + 1, (run A q' r).2)) = (match dl A (.lit f) c with | none => (0, false) | some q' => ((run A q' r).1 + 1, (run A q' r).2))
    rw [e]
theorem run_more (A : Au) (f : List Nat) : ∀ (n : Nat) (s : List Nat), run A (.digs n f) s = sh ((s.take n).takeWhile dg).length (run A (.lit f) (s.drop ((s.take n).takeWhile dg).length))
  | 0, s => by
    rw [run_digs A f 0 s (.inl rfl)]
    rfl
  | n + 1, [] => rfl
  | n + 1, c :: r => by
    by_cases h : dg c = true
    · have e : dl A (.digs (n + 1) f) c = some (.digs n f) := by
        show (if dg c = true ∧ 0 < n + 1 then some (St4.digs (n + 1 - 1) f) else litD A f c) = _
        rw [if_pos ⟨h, Nat.succ_pos n⟩]
        rfl
      rw [run_cons e, run_more A f n r]
      rw [List.take_succ_cons, List.takeWhile_cons, if_pos h, List.length_cons, List.drop_succ_cons, sh_sh]
    · have hf : dg c = false := by simpa using h
      rw [run_digs A f _ _ (.inr fun c' r' e => by cases e; exact hf)]
      rw [List.take_succ_cons, List.takeWhile_cons, if_neg h]
      rfl
theorem d1_dg {c : Nat} (h : d1 c = true) : dg c = true := by
  unfold d1 at h
  unfold dg
  simp only [Bool.and_eq_true, decide_eq_true_eq] at h ⊢
  omega
theorem runL_cons {x c : Nat} {r : List Nat} (h : dg c = true) : runL x (c :: r) = c :: (r.take (lim x - 1)).takeWhile dg := by
  unfold runL
  obtain ⟨m, e⟩ : ∃ m, lim x = m + 1 := ⟨lim x - 1, by have := lim_pos x; omega⟩
  rw [e, List.take_succ_cons, List.takeWhile_cons, if_pos h, Nat.add_sub_cancel]
/-- a number is read as the automaton goes -/
theorem run_num (A : Au) (f : List Nat) (x : Nat) (s : List Nat) : run A (.num x f) s = (match numS x s with
    | .error k => (k, false)
    | .ok (_, k) => sh k (run A (.lit f) (s.drop k))) := by
  cases s with
  | nil => rfl
  | cons c r =>
    unfold numS
    dsimp only
    by_cases h1 : x ≠ 110 ∧ c = 45
    · rw [if_pos h1]
      have e : dl A (.num x f) c = some (.minus x f) := by
        show (if x ≠ 110 ∧ c = 45 then some (St4.minus x f) else _) = _
        rw [if_pos h1]
      rw [run_cons e]
      cases r with
      | nil => rfl
      | cons y r' =>
        by_cases h2 : d1 y = true
        · rw [run_cons (show dl A (.minus x f) y = some (.digs (lim x - 1) f) from if_pos h2), run_more]
          dsimp only
          rw [if_pos h2]
          dsimp only
          rw [runL_cons (d1_dg h2), List.length_cons, sh_sh, sh_sh, show 1 + (((r'.take (lim x - 1)).takeWhile dg).length + 1) = ((r'.take (lim x - 1)).takeWhile dg).length + 1 + 1 by omega, List.drop_succ_cons, List.drop_succ_cons]
        · rw [run_none (show dl A (.minus x f) y = none from if_neg h2)]
          dsimp only
          rw [if_neg h2]
          rfl
    · rw [if_neg h1]
      by_cases h2 : c = 48
      · rw [if_pos h2]
        have e : dl A (.num x f) c = some (.lit f) := by
          show (if x ≠ 110 ∧ c = 45 then some (St4.minus x f) else if c = 48 then some (St4.lit f) else _) = _
          rw [if_neg h1, if_pos h2]
        rw [run_cons e]
        rfl
      · rw [if_neg h2]
        by_cases h3 : d1 c = true
        · rw [if_pos h3]
          have e : dl A (.num x f) c = some (.digs (lim x - 1) f) := by
            show (if x ≠ 110 ∧ c = 45 then some (St4.minus x f) else if c = 48 then some (St4.lit f) else if d1 c = true then some (St4.digs (lim x - 1) f) else none) = _
            rw [if_neg h1, if_neg h2, if_pos h3]
          rw [run_cons e, run_more]
          dsimp only
          rw [runL_cons (d1_dg h3), List.length_cons, sh_sh, List.drop_succ_cons]
        · rw [if_neg h3]
          have e : dl A (.num x f) c = none := by
            show (if x ≠ 110 ∧ c = 45 then some (St4.minus x f) else if c = 48 then some (St4.lit f) else if d1 c = true then some (St4.digs (lim x - 1) f) else none) = _
            rw [if_neg h1, if_neg h2, if_neg h3]
          rw [run_none e]
/-- no two numbers without a sign between -/
def okf : List Nat → Bool
  | x :: y :: fs => !(decide (isN x) && decide (isN y)) && okf (y :: fs)
  | _ => true
theorem okf_tail {x : Nat} {fs : List Nat} (h : okf (x :: fs) = true) : okf fs = true := by
  cases fs with
  | nil => rfl
  | cons y ys =>
    unfold okf at h
    exact (Bool.and_eq_true_iff.mp h).2
theorem at4_lit {x : Nat} {fs : List Nat} (h : ¬ isN x) : at4 (x :: fs) = .lit (x :: fs) := if_neg h
theorem at4_num {x : Nat} {fs : List Nat} (h : isN x) : at4 (x :: fs) = .num x fs := if_pos h
theorem okf_lit {x : Nat} {fs : List Nat} (h : okf (x :: fs) = true) (hx : isN x) : at4 fs = .lit fs := by
  cases fs with
  | nil => rfl
  | cons y ys =>
    refine at4_lit fun hy => ?_
    unfold okf at h
    have q := (Bool.and_eq_true_iff.mp h).1
    rw [decide_eq_true hx, decide_eq_true hy] at q
    cases q
/-- the automaton's word behind a form -/
theorem run_form (A : Au) : ∀ (f : List Nat) (s : List Nat), okf f = true → run A (at4 f) s = (match formS f s with
    | .error k => (k, false)
    | .ok (_, k) => sh k (run A (.lit []) (s.drop k)))
  | [], s, _ => rfl
  | x :: fs, s, h => by
    by_cases hx : isN x
    · rw [at4_num hx, run_num, ← okf_lit h hx]
      unfold formS
      rw [if_pos hx]
      cases e : numS x s with
      | error k => rfl
      | ok p =>
        obtain ⟨n, k⟩ := p
        dsimp only
        rw [run_form A fs (s.drop k) (okf_tail h)]
        cases e2 : formS fs (s.drop k) with
        | error j =>
          dsimp only [sh]
          rw [Nat.add_comm]
        | ok p =>
          obtain ⟨ns, j⟩ := p
          dsimp only
          rw [sh_sh, List.drop_drop, Nat.add_comm j k]
    · rw [at4_lit hx]
      unfold formS
      rw [if_neg hx]
      cases s with
      | nil => rfl
      | cons c r =>
        unfold litS
        by_cases hc : c = x
        · rw [run_cons (show dl A (.lit (x :: fs)) c = some (at4 fs) from if_pos hc), run_form A fs r (okf_tail h)]
          dsimp only
          rw [if_pos hc]
          dsimp only
          rw [List.drop_succ_cons, List.drop_zero]
          cases e2 : formS fs r with
          | error j =>
            dsimp only [sh]
            rw [Nat.add_comm]
          | ok p =>
            obtain ⟨ns, j⟩ := p
            dsimp only
            rw [sh_sh, Nat.add_comm 1 j, List.drop_succ_cons]
        · rw [run_none (show dl A (.lit (x :: fs)) c = none from if_neg hc)]
          dsimp only
          rw [if_neg hc]
theorem takeWhile_le {α : Type} (p : α → Bool) (l : List α) (n : Nat) : ((l.take n).takeWhile p).length ≤ l.length := by
  have h1 := (List.takeWhile_sublist p (l := l.take n)).length_le
  have h2 := List.length_take_le n l
  have h3 : (l.take n).length ≤ l.length := by
    rw [List.length_take]
    omega
  omega
theorem runL_le (x : Nat) (s : List Nat) : (runL x s).length ≤ s.length := takeWhile_le dg s (lim x)
theorem runL_lim (x : Nat) (s : List Nat) : (runL x s).length ≤ lim x := by
  have h1 := (List.takeWhile_sublist dg (l := s.take (lim x))).length_le
  rw [List.length_take] at h1
  unfold runL
  omega
theorem numS_le {x : Nat} {s : List Nat} {n : Int} {k : Nat} (h : numS x s = .ok (n, k)) : k ≤ s.length := by
  cases s with
  | nil => cases h
  | cons c r =>
    unfold numS at h
    dsimp only at h
    split at h
    · cases r with
      | nil => cases h
      | cons e r' =>
        dsimp only at h
        split at h
        · cases h
          have := runL_le x (e :: r')
          rw [List.length_cons]
          omega
        · cases h
    · split at h
      · cases h
        rw [List.length_cons]
        omega
      · split at h
        · cases h
          exact runL_le _ _
        · cases h
theorem formS_le : ∀ {f s : List Nat} {ns : List Int} {k : Nat}, formS f s = .ok (ns, k) → k ≤ s.length
  | [], s, ns, k, h => by
    cases h
    exact Nat.zero_le _
  | x :: fs, s, ns, k, h => by
    unfold formS at h
    split at h
    · cases e : numS x s with
      | error j =>
        rw [e] at h
        cases h
      | ok p =>
        obtain ⟨n, j⟩ := p
        rw [e] at h
        dsimp only at h
        have h1 := numS_le e
        cases e2 : formS fs (s.drop j) with
        | error i =>
          rw [e2] at h
          cases h
        | ok p =>
          obtain ⟨ms, i⟩ := p
          rw [e2] at h
          cases h
          have h2 := formS_le e2
          rw [List.length_drop] at h2
          omega
    · cases s with
      | nil => cases h
      | cons c r =>
        unfold litS at h
        dsimp only at h
        by_cases hc : c = x
        · rw [if_pos hc] at h
          dsimp only at h
          cases e2 : formS fs ((c :: r).drop 1) with
          | error i =>
            rw [e2] at h
            cases h
          | ok p =>
            obtain ⟨ms, i⟩ := p
            rw [e2] at h
            cases h
            have h2 := formS_le e2
            rw [List.length_drop] at h2
            rw [List.length_cons] at h2 ⊢
            omega
        · rw [if_neg hc] at h
          cases h
/-- how many signs a word and a text have in common ahead -/
def cp : List Nat → List Nat → Nat
  | a :: w, c :: r => if c = a then cp w r + 1 else 0
  | _, _ => 0
theorem cp_le : ∀ (w s : List Nat), cp w s ≤ s.length ∧ cp w s ≤ w.length
  | [], s => ⟨Nat.zero_le _, Nat.zero_le _⟩
  | a :: w, [] => ⟨Nat.zero_le _, Nat.zero_le _⟩
  | a :: w, c :: r => by
    have h := cp_le w r
    unfold cp
    rw [List.length_cons, List.length_cons]
    split <;> omega
/-- at the next place: alike, then further; unlike, then the end -/
theorem cp_at : ∀ {w s : List Nat} {i c d : Nat}, i ≤ cp w s → w[i]? = some c → s[i]? = some d → (d = c → i + 1 ≤ cp w s) ∧ (d ≠ c → cp w s = i)
  | [], s, i, c, d, _, h, _ => by simp at h
  | a :: w, [], i, c, d, _, _, h => by simp at h
  | a :: w, b :: r, 0, c, d, h, h1, h2 => by
    have e1 : a = c := by simpa using h1
    have e2 : b = d := by simpa using h2
    subst e1
    subst e2
    unfold cp
    exact ⟨fun z => by rw [if_pos z]; omega, fun z => if_neg z⟩
  | a :: w, b :: r, i + 1, c, d, h, h1, h2 => by
    unfold cp at h ⊢
    by_cases q : b = a
    · rw [if_pos q] at h ⊢
      have ih := cp_at (w := w) (s := r) (i := i) (c := c) (d := d) (by omega) (by simpa using h1) (by simpa using h2)
      exact ⟨fun z => by have := ih.1 z; omega, fun z => by have := ih.2 z; omega⟩
    · rw [if_neg q] at h
      omega
end RW4
/-! part M3 -/
/-! Rows of numbers written, and read again. -/
namespace RW4
open PySem PySem.NumText
/-! ### ints as texts -/
def intL (n : Int) : List Nat := if 0 ≤ n then TL.numL n.toNat else 45 :: TL.numL (-n).toNat
theorem neg_text (m : Nat) : Str.ofString (toString (Int.negSucc m)) = ⟨(45 :: (Nat.toDigits 10 (m + 1)).map Char.toNat).toArray⟩ := by
  show Str.ofString ("-" ++ Nat.repr (m + 1)) = _
  rw [Str.ofString_eq_toList]
  unfold Nat.repr
  simp
theorem intS (n : Int) : Str.ofString (toString n) = SX.S (intL n) := by
  cases n with
  | ofNat m =>
    unfold intL
    rw [if_pos (show (0 : Int) ≤ Int.ofNat m from Int.natCast_nonneg m)]
    exact SX.num_S m
  | negSucc m =>
    unfold intL
    rw [if_neg (by omega), neg_text]
    rfl
theorem dg_all {l : List Nat} (h : ∀ c ∈ l, dg c = true) : AllDigits l := fun c hc => by
  have q := h c hc
  unfold dg at q
  simpa using q
theorem runL_dg (x : Nat) (s : List Nat) : ∀ c ∈ runL x s, dg c = true := fun c hc => by
  unfold runL at hc
  exact List.all_eq_true.mp List.all_takeWhile c hc
theorem digs_back {c : Nat} {r : List Nat} (h1 : d1 c = true) (h : ∀ x ∈ c :: r, dg x = true) : TL.numL (digitsVal (c :: r)) = c :: r := by
  have h49 : 49 ≤ c := by
    unfold d1 at h1
    simp only [Bool.and_eq_true, decide_eq_true_eq] at h1
    exact h1.1
  have e := toDigits_digitsVal r.length (c :: r) rfl (dg_all h) (.inr ⟨c, r, rfl, h49⟩)
  unfold TL.numL
  rw [e, List.map_map]
  have : ∀ l : List Nat, (∀ x ∈ l, dg x = true) → l.map (Char.toNat ∘ Char.ofNat) = l := fun l => by
    induction l with
    | nil => intro _; rfl
    | cons x l ih =>
      intro hl
      have hx := hl x List.mem_cons_self
      unfold dg at hx
      simp only [Bool.and_eq_true, decide_eq_true_eq] at hx
      rw [List.map_cons, ih fun y hy => hl y (List.mem_cons_of_mem _ hy)]
      congr 1
      have : x = 48 ∨ x = 49 ∨ x = 50 ∨ x = 51 ∨ x = 52 ∨ x = 53 ∨ x = 54 ∨ x = 55 ∨ x = 56 ∨ x = 57 := by omega
      rcases this with rfl | rfl | rfl | rfl | rfl | rfl | rfl | rfl | rfl | rfl <;> rfl
  exact this _ h
theorem val_pos {c : Nat} {r : List Nat} (h1 : d1 c = true) : 0 < val (c :: r) := by
  have h49 : 49 ≤ c := by
    unfold d1 at h1
    simp only [Bool.and_eq_true, decide_eq_true_eq] at h1
    exact h1.1
  have := digitsVal_pos (cs := r) h49
  unfold val
  omega
theorem intL_pos {c : Nat} {r : List Nat} (h1 : d1 c = true) (h : ∀ x ∈ c :: r, dg x = true) : intL (val (c :: r)) = c :: r := by
  have hp := val_pos (r := r) h1
  unfold intL
  rw [if_pos (by omega)]
  unfold val
  rw [Int.toNat_natCast, digs_back h1 h]
theorem intL_neg {c : Nat} {r : List Nat} (h1 : d1 c = true) (h : ∀ x ∈ c :: r, dg x = true) : intL (-(val (c :: r))) = 45 :: c :: r := by
  have hp := val_pos (r := r) h1
  unfold intL
  rw [if_neg (by omega), Int.neg_neg]
  unfold val
  rw [Int.toNat_natCast, digs_back h1 h]
theorem runL_take (x : Nat) (s : List Nat) : runL x s = s.take (runL x s).length := by
  unfold runL
  have e : (s.take (lim x)).takeWhile dg = (s.take (lim x)).take ((s.take (lim x)).takeWhile dg).length := by
    have := List.takeWhile_prefix dg (l := s.take (lim x))
    exact (List.prefix_iff_eq_take.mp this)
  have hl : ((s.take (lim x)).takeWhile dg).length ≤ lim x := runL_lim x s
  have e2 : (s.take (lim x)).take ((s.take (lim x)).takeWhile dg).length = s.take ((s.take (lim x)).takeWhile dg).length := by
    rw [List.take_take, Nat.min_eq_left hl]
  rw [← e2]
  exact e
/-- a number read is the number written -/
theorem num_back {x : Nat} {s : List Nat} {n : Int} {k : Nat} (h : numS x s = .ok (n, k)) : intL n = s.take k ∧ (x = 110 → 0 ≤ n) ∧ 0 < k := by
  cases s with
  | nil => cases h
  | cons c r =>
    unfold numS at h
    dsimp only at h
    split at h
    · rename_i hc
      cases r with
      | nil => cases h
      | cons e r' =>
        dsimp only at h
        split at h
        · rename_i he
          cases h
          refine ⟨?_, fun z => absurd z hc.1, by omega⟩
          have q := runL_take x (e :: r')
          have q2 := runL_cons (x := x) (r := r') (d1_dg he)
          rw [Nat.add_comm, List.take_succ_cons, ← q, q2, hc.2]
          rw [intL_neg he]
          intro y hx
          rw [← q2] at hx
          exact runL_dg x _ y hx
        · cases h
    · split at h
      · rename_i h0
        cases h
        rw [h0]
        exact ⟨rfl, fun _ => Int.le_refl _, by decide⟩
      · split at h
        · rename_i h9
          cases h
          have q := runL_take x (c :: r)
          have q2 := runL_cons (x := x) (r := r) (d1_dg h9)
          have hp : ∀ y ∈ c :: (r.take (lim x - 1)).takeWhile dg, dg y = true := fun y hx => by
            rw [← q2] at hx
            exact runL_dg x _ y hx
          refine ⟨?_, fun _ => ?_, by rw [q2, List.length_cons]; omega⟩
          · rw [← q, q2, intL_pos h9 hp]
          · rw [q2]
            exact Int.le_of_lt (val_pos h9)
        · cases h
/-! ### rows written -/
def wF : List Nat → List Int → List Nat
  | [], _ => []
  | x :: fs, ns => if isN x then (match ns with | [] => [] | n :: r => intL n ++ wF fs r) else x :: wF fs ns
def wR (form : List Nat) : List (List Int) → List Nat
  | [] => []
  | a :: r => 32 :: (wF form a ++ wR form r)
def wRow (form : List Nat) : List (List Int) → List Nat
  | [] => [45]
  | a :: r => wF form a ++ wR form r
theorem form_back : ∀ {f s : List Nat} {ns : List Int} {k : Nat}, formS f s = .ok (ns, k) → wF f ns = s.take k
  | [], s, ns, k, h => by
    cases h
    rfl
  | x :: fs, s, ns, k, h => by
    unfold formS at h
    by_cases hx : isN x
    · rw [if_pos hx] at h
      cases e : numS x s with
      | error j =>
        rw [e] at h
        cases h
      | ok p =>
        obtain ⟨n, j⟩ := p
        rw [e] at h
        dsimp only at h
        cases e2 : formS fs (s.drop j) with
        | error i =>
          rw [e2] at h
          cases h
        | ok p =>
          obtain ⟨ms, i⟩ := p
          rw [e2] at h
          cases h
          have h1 := (num_back e).1
          have h2 := form_back e2
          have hj := numS_le e
          unfold wF
          rw [if_pos hx]
          dsimp only
          rw [h1, h2]
          rw [List.take_add]
    · rw [if_neg hx] at h
      cases s with
      | nil => cases h
      | cons c r =>
        unfold litS at h
        dsimp only at h
        by_cases hc : c = x
        · rw [if_pos hc] at h
          dsimp only at h
          cases e2 : formS fs ((c :: r).drop 1) with
          | error i =>
            rw [e2] at h
            cases h
          | ok p =>
            obtain ⟨ms, i⟩ := p
            rw [e2] at h
            cases h
            have h2 := form_back e2
            unfold wF
            rw [if_neg hx, h2, hc, Nat.add_comm, List.take_succ_cons]
            rfl
        · rw [if_neg hc] at h
          cases h
theorem rest_back {form : List Nat} : ∀ {m : Nat} {s : List Nat} {l : List (List Int)}, restS form m s = .ok l → wR form l = s
  | 0, s, l, h => by cases h
  | m + 1, [], l, h => by
    cases h
    rfl
  | m + 1, c :: r, l, h => by
    unfold restS at h
    by_cases hc : c = 32
    · rw [if_pos hc] at h
      cases e : formS form r with
      | error j =>
        rw [e] at h
        cases h
      | ok p =>
        obtain ⟨ns, k⟩ := p
        rw [e] at h
        dsimp only at h
        cases e2 : restS form m (r.drop k) with
        | error i =>
          rw [e2] at h
          cases h
        | ok l' =>
          rw [e2] at h
          cases h
          unfold wR
          rw [form_back e, rest_back e2, List.take_append_drop, hc]
    · rw [if_neg hc] at h
      cases h
/-- what is read is written again the same -/
theorem items_back {form s : List Nat} {l : List (List Int)} (h : itemsS form s = .ok l) : wRow form l = s := by
  unfold itemsS at h
  by_cases h1 : s = [45]
  · rw [if_pos h1] at h
    cases h
    exact h1.symm
  · rw [if_neg h1] at h
    cases e : formS form s with
    | error j =>
      rw [e] at h
      cases h
    | ok p =>
      obtain ⟨ns, k⟩ := p
      rw [e] at h
      dsimp only at h
      cases e2 : restS form (s.length + 1) (s.drop k) with
      | error i =>
        rw [e2] at h
        cases h
      | ok l' =>
        rw [e2] at h
        cases h
        unfold wRow
        dsimp only
        rw [form_back e, rest_back e2, List.take_append_drop]
/-! ### what is written is read -/
/-- a number that may stand: so many digits at most; behind n none below 0 -/
def okN (x : Nat) (n : Int) : Prop := n.natAbs < 10 ^ lim x ∧ (x = 110 → 0 ≤ n)
def okI : List Nat → List Int → Prop
  | [], ns => ns = []
  | x :: fs, ns => if isN x then (∃ n r, ns = n :: r ∧ okN x n ∧ okI fs r) else okI fs ns
def noDg (s : List Nat) : Prop := ∀ c r, s = c :: r → dg c = false
theorem takeWhile_app (l s : List Nat) (h : ∀ c ∈ l, dg c = true) (hs : noDg s) : (l ++ s).takeWhile dg = l := by
  induction l with
  | nil =>
    cases s with
    | nil => rfl
    | cons c r =>
      rw [List.nil_append, List.takeWhile_cons, hs c r rfl]
      rfl
  | cons a l ih =>
    rw [List.cons_append, List.takeWhile_cons, h a List.mem_cons_self, if_pos rfl, ih fun c hc => h c (List.mem_cons_of_mem _ hc)]
theorem runL_app {x : Nat} (l s : List Nat) (h : ∀ c ∈ l, dg c = true) (hl : l.length ≤ lim x) (hs : noDg s) : runL x (l ++ s) = l := by
  unfold runL
  rw [List.take_append, List.take_of_length_le hl]
  refine takeWhile_app l _ h fun c r e => ?_
  cases s with
  | nil => simp at e
  | cons y t =>
    cases hk : lim x - l.length with
    | zero =>
      rw [hk] at e
      cases e
    | succ m =>
      rw [hk, List.take_succ_cons] at e
      cases e
      exact hs _ _ rfl
theorem numL_dg (n : Nat) : ∀ c ∈ TL.numL n, dg c = true := fun c hc => by
  have q := TL.numL_digits n c hc
  unfold dg
  simpa using q
theorem numL_head : ∀ n : Nat, 0 < n → ∃ c r, TL.numL n = c :: r ∧ d1 c = true := by
  intro n
  induction n using Nat.strongRecOn with
  | _ n ih =>
    intro hn
    by_cases h : n < 10
    · refine ⟨48 + n, [], TL.numL_lt h, ?_⟩
      unfold d1
      simp only [Bool.and_eq_true, decide_eq_true_eq]
      omega
    · obtain ⟨c, r, e, hc⟩ := ih (n / 10) (by omega) (by omega)
      refine ⟨c, r ++ [48 + n % 10], ?_, hc⟩
      rw [TL.numL_step (by omega), e]
      rfl
theorem num_fwd {x : Nat} {n : Int} {s : List Nat} (hn : n.natAbs < 10 ^ lim x) (h0 : x = 110 → 0 ≤ n) (hs : noDg s) : numS x (intL n ++ s) = .ok (n, (intL n).length) := by
  by_cases hz : n = 0
  · subst hz
    show numS x (48 :: s) = _
    unfold numS
    dsimp only
    rw [if_neg (by rintro ⟨_, h⟩; cases h), if_pos rfl]
    rfl
  · by_cases hp : 0 ≤ n
    · have e : intL n = TL.numL n.toNat := if_pos hp
      obtain ⟨c, r, ec, hc⟩ := numL_head n.toNat (by omega)
      have hl : (TL.numL n.toNat).length ≤ lim x := TL.numL_len (lim_pos x) (by omega)
      have r9 := runL_app (x := x) (TL.numL n.toNat) s (numL_dg _) hl hs
      have ev : val (TL.numL n.toNat) = n := by
        unfold val
        rw [TL.numL_val]
        omega
      rw [e]
      rw [ec] at r9 ev ⊢
      show numS x (c :: (r ++ s)) = _
      unfold numS
      dsimp only
      have c49 : 49 ≤ c := by
        unfold d1 at hc
        simp only [Bool.and_eq_true, decide_eq_true_eq] at hc
        exact hc.1
      have q : runL x (c :: (r ++ s)) = c :: r := r9
      rw [if_neg (by rintro ⟨_, h⟩; omega), if_neg (by omega), if_pos hc, q, ev]
    · have hneg : x ≠ 110 := fun z => absurd (h0 z) hp
      have e : intL n = 45 :: TL.numL (-n).toNat := if_neg hp
      obtain ⟨c, r, ec, hc⟩ := numL_head (-n).toNat (by omega)
      have hl : (TL.numL (-n).toNat).length ≤ lim x := TL.numL_len (lim_pos x) (by omega)
      have r9 := runL_app (x := x) (TL.numL (-n).toNat) s (numL_dg _) hl hs
      have ev : val (TL.numL (-n).toNat) = -n := by
        unfold val
        rw [TL.numL_val]
        omega
      rw [e]
      rw [ec] at r9 ev ⊢
      show numS x (45 :: c :: (r ++ s)) = _
      unfold numS
      dsimp only
      have q : runL x (c :: (r ++ s)) = c :: r := r9
      rw [if_pos ⟨hneg, rfl⟩]
      rw [if_pos hc, q, ev, Int.neg_neg, List.length_cons, Nat.add_comm]
      rfl
theorem form_fwd : ∀ {f : List Nat} {ns : List Int} {s : List Nat}, okf f = true → (∀ x ∈ f, ¬ isN x → dg x = false) → okI f ns → noDg s → formS f (wF f ns ++ s) = .ok (ns, (wF f ns).length)
  | [], ns, s, _, _, h, _ => by
    unfold okI at h
    subst h
    rfl
  | x :: fs, ns, s, hf, hx, h, hs => by
    have hx' : ∀ y ∈ fs, ¬ isN y → dg y = false := fun y hy => hx y (List.mem_cons_of_mem _ hy)
    unfold okI at h
    by_cases hn : isN x
    · rw [if_pos hn] at h
      obtain ⟨n, r, rfl, ⟨h1, h2⟩, h3⟩ := h
      have ih := form_fwd (s := s) (okf_tail hf) hx' h3 hs
      have nd : noDg (wF fs r ++ s) := fun c t e => by
        cases fs with
        | nil => exact hs c t e
        | cons y ys =>
          have hy : ¬ isN y := fun hy => by
            unfold okf at hf
            have q := (Bool.and_eq_true_iff.mp hf).1
            rw [decide_eq_true hn, decide_eq_true hy] at q
            cases q
          unfold wF at e
          rw [if_neg hy] at e
          cases e
          exact hx _ (List.mem_cons_of_mem _ List.mem_cons_self) hy
      have q := num_fwd (x := x) (n := n) (s := wF fs r ++ s) h1 h2 nd
      have ew : wF (x :: fs) (n :: r) = intL n ++ wF fs r := by
        show (if isN x then intL n ++ wF fs r else _) = _
        rw [if_pos hn]
      rw [ew, List.append_assoc]
      unfold formS
      rw [if_pos hn, q]
      dsimp only
      rw [List.drop_left, ih]
      dsimp only
      rw [List.length_append]
    · rw [if_neg hn] at h
      have ih := form_fwd (s := s) (okf_tail hf) hx' h hs
      have ew : wF (x :: fs) ns = x :: wF fs ns := by
        show (if isN x then _ else x :: wF fs ns) = _
        rw [if_neg hn]
      rw [ew, List.cons_append]
      unfold formS
      rw [if_neg hn]
      unfold litS
      dsimp only
      rw [if_pos rfl]
      dsimp only
      rw [List.drop_succ_cons, List.drop_zero, ih]
      dsimp only
      rw [List.length_cons, Nat.add_comm]
theorem wR_noDg (form : List Nat) (l : List (List Int)) : noDg (wR form l) := fun c r e => by
  cases l with
  | nil => cases e
  | cons a l =>
    cases e
    rfl
theorem rest_fwd {form : List Nat} (hf : okf form = true) (hx : ∀ x ∈ form, ¬ isN x → dg x = false) : ∀ {l : List (List Int)} {m : Nat}, (∀ a ∈ l, okI form a) → (wR form l).length < m → restS form m (wR form l) = .ok l
  | [], m + 1, _, _ => rfl
  | a :: l, m + 1, h, hm => by
    have q := form_fwd (s := wR form l) hf hx (h a List.mem_cons_self) (wR_noDg form l)
    show restS form (m + 1) (32 :: (wF form a ++ wR form l)) = _
    unfold restS
    rw [if_pos rfl, q]
    dsimp only
    rw [List.drop_left, rest_fwd hf hx (fun b hb => h b (List.mem_cons_of_mem _ hb)) (by
      unfold wR at hm
      rw [List.length_cons, List.length_append] at hm
      omega)]
theorem items_fwd {form fs : List Nat} (h122 : form = 122 :: 44 :: fs) (hf : okf form = true) (hx : ∀ x ∈ form, ¬ isN x → dg x = false) {l : List (List Int)} (h : ∀ a ∈ l, okI form a) : itemsS form (wRow form l) = .ok l := by
  cases l with
  | nil => rfl
  | cons a l =>
    have q := form_fwd (s := wR form l) hf hx (h a List.mem_cons_self) (wR_noDg form l)
    have ne : ¬ wF form a ++ wR form l = [45] := fun e => by
      have ha := h a List.mem_cons_self
      rw [h122] at ha e
      unfold okI at ha
      rw [if_pos (.inl rfl)] at ha
      obtain ⟨n, r, rfl, _, _⟩ := ha
      have ew : wF (122 :: 44 :: fs) (n :: r) = intL n ++ (44 :: wF fs r) := by
        show (if isN 122 then intL n ++ wF (44 :: fs) r else _) = _
        rw [if_pos (.inl rfl)]
        rfl
      rw [ew] at e
      have : (44 : Nat) ∈ ([45] : List Nat) := by
        rw [← e]
        simp
      simp at this
    show itemsS form (wF form a ++ wR form l) = _
    unfold itemsS
    rw [if_neg ne, q]
    dsimp only
    rw [List.drop_left, rest_fwd hf hx (fun b hb => h b (List.mem_cons_of_mem _ hb)) (by
      rw [List.length_append]
      omega)]
end RW4
/-! part W1 -/
/-! The reader of rows: what it hands back, what it raises. -/
namespace TX
open PySem PySem.Spec PyProof.Rows L2 NT RW4
local macro_rules | `(tactic| walk_at "go") => `(tactic| simp only [L2.start, List.map_cons, List.map_nil, List.length_cons, List.length_nil, Nat.reduceSub, Nat.reduceAdd, List.replicate_succ, List.replicate_zero, List.cons_append, List.nil_append, List.append_nil,
  tSeq, tNext, tRet, tIfS, tTest, tAnd, tOr, tNot, tCB, tCall, tCons, tNil, tVar, tC, tOp, tUn, tAsg, gName, rI0, rI, CMul, CDiv, tDGet, sDPut, tBM0, tBM, tTup, tLst, tPar, gTup, gNil, gCons, tIf, tAug, tRevL, tDisp, tPairs, tYes, wipe, tDrop, L2.tSl, tNotV, tAndV, tOrV, tB, NdefX.startF, tOst, tMkO, rIxL, rIxT, rIxS, rAppend, rExtend, rPop, rSlL, rSetL, tPart, rEq, rNe, tFmt, ↓reduceIte, L2.gSub, ↓reduceIte,
  List.getElem?_cons_zero, List.getElem?_cons_succ, List.set_cons_zero, List.set_cons_succ, Option.some.injEq, V.int.injEq, V.str.injEq, V.ref.injEq, V.bl.injEq, exists_eq_left, exists_eq_left', exists_eq_right, exists_eq_right', exists_eq', true_and, and_true, decide_eq_true_eq, List.cons.injEq, reduceCtorEq, false_and, false_or, or_false, exists_false, exists_and_left, exists_and_right, and_assoc])
theorem tw_in {p : Nat → Bool} : ∀ {l : List Nat} {k x : Nat}, l[k]? = some x → k < (l.takeWhile p).length → p x = true
  | [], _, _, h, _ => by simp at h
  | a :: l, k, x, h, hk => by
    rw [List.takeWhile_cons] at hk
    by_cases ha : p a = true
    · rw [if_pos ha] at hk
      cases k with
      | zero =>
        have e : a = x := by simpa using h
        rw [← e]
        exact ha
      | succ k => exact tw_in (l := l) (k := k) (by simpa using h) (by simpa using hk)
    · rw [if_neg ha] at hk
      exact absurd hk (Nat.not_lt_zero _)
theorem tw_end {p : Nat → Bool} : ∀ {l : List Nat} {x : Nat}, l[(l.takeWhile p).length]? = some x → p x = false
  | [], _, h => by simp at h
  | a :: l, x, h => by
    rw [List.takeWhile_cons] at h
    by_cases ha : p a = true
    · rw [if_pos ha] at h
      exact tw_end (l := l) (by simpa using h)
    · rw [if_neg ha] at h
      have e : a = x := by simpa using h
      rw [← e]
      simpa using ha
section
variable {w : World} {K : PySem.W.Frag} {mg : Str → Option Value} {base : Heap}
theorem mk_bad2 {C : Addr} {n : Int} {E : XK} {H1 : Hp} (b : Bad C E H1 n) : 1 ≤ 1000 ∧ ∀ a, H1 a = none → spInit C [.ref a, .int n] (upd H1 a (exo a C none))
    (fun v H2 => v = .non ∧ ∃ (d : Addr), H2 a = some (exo a C (some d)) ∧ ∃ (fs : List (Str × V)), H2 d = some (exd d fs) ∧ H1 d = none ∧ E (.ref C) (some d) (upd (del H2 a) d (.xd fs))) (fun _ _ _ => False) := by
  refine ⟨by decide, fun a ha => ?_⟩
  obtain ⟨x, m, e, h1, h2⟩ := (mk_bad b).2 a ha
  refine ⟨x, m, e, h1, fun d H' k hd da e1 e2 => ?_⟩
  obtain ⟨e0, d', fs, g1, g2, g3, g4⟩ := h2 d H' k hd da e1 e2
  exact ⟨e0, d', g1, fs, g2, g3, g4⟩
/-- a value of a built-in kind, and whether it is a text -/
def IsTx (K : PySem.W.Frag) (H : Hp) (v : V) (b : Bool) : Prop := ∃ t, TyX K H v (.type t) ∧ kitB t "str" = some b
def spNeed (K : PySem.W.Frag) (C : Addr) : Sp := fun vs H Q E => ∃ v b, vs = [v] ∧ IsTx K H v b ∧ (b = true → Q .non H) ∧ (b = false → Bad C E H 0)
theorem ok_need (T : Txt w K mg) {C R fI cc : Addr} (B : BadC K mg C R fI cc) : Ok PW w K mg base (L2.CX PW w) 5 "need_text" ["value"] (spNeed K C) := by
  obtain ⟨f, fd, D⟩ := T.d_need_text
  refine ⟨f, fd, D.F.okX sc_need_text (fun vs H Q E h => ?_) (fun cdv A outer s H vs Q E hr h => ?_), D.g, D.F.kp, D.b⟩
  · obtain ⟨v, b, rfl, _⟩ := h
    rfl
  · obtain ⟨v, b, rfl, ⟨t, ht, hk⟩, h1, h2⟩ := h
    refine ⟨_, pss_one (ps_if (pt_not (pt_val (pe_callB call_isi (by rfl) T.z_isinstance (by decide +kernel) (pa_cons (pv 0) (pa_cons (pe_bltn (v := .ty "str") (by rfl) T.z_str (by decide +kernel) rfl) pa_nil)))))
      (pss_one (ps_bad (W := fun c d _ H => E c d H) rfl T B hr rfl (takes_of rfl rfl rfl rfl) pe_int)) pss_nil), ?_⟩
    walk_at "go"
    refine ⟨v, .ty "str", .type t, .type "str", b, rfl, .ty _, ht, kit_ty hk, b, rfl, ?_⟩
    cases b with
    | true => exact iteF (h1 rfl)
    | false => exact iteT (mk_bad2 (h2 rfl))
def spSigns : Sp := fun vs H Q _ => ∃ (T W : List Nat), vs = [.str (SX.S T), .str (SX.S W)] ∧ T.length ≤ 100000 ∧ Q (.int ((T.takeWhile fun c => decide (c ∈ W)).length : Nat)) H
theorem ok_signs (T : Txt w K mg) : Ok PW w K mg base CX0 1 "signs_among" ["text", "signs"] spSigns := by
  obtain ⟨f, fd, D⟩ := T.d_signs_among
  refine ⟨f, fd, D.F.ok sc_signs_among (fun vs H Q E h => ?_) (fun cdv A outer s H vs Q E hr h => ?_), D.g, D.F.kp, D.b⟩
  · obtain ⟨T', W, rfl, _⟩ := h
    rfl
  · obtain ⟨X, W, rfl, hl, q⟩ := h
    have nd := sc_signs_among.nd
    refine ⟨_, pss_cons (ps_set (i := 2) nd rfl (.inl rfl) pe_int)
      (pss_cons (ps_while PassesOwn.never (PW.pt (pw_and (pt_cmpR op_lt (pv 2) (pe_callB call_len_str (by rfl) T.z_len PySem.boot_len (pa_cons (pv 0) pa_nil)) (nomark _)) (pw_and1 (pt_cmpR op_in_sign (pe_ix ix_str (pv 0) (pv 2) (fun _ _ => rfl)) (pv 1) rfl))))
        (pss_one (ps_aug (i := 2) nd rfl (.inl rfl) pe_int ip_add)))
      (pss_one (ps_ret (pv 2)))), ?_⟩
    walk_at "go"
    have hX : X.length ≤ sizeLine := small_sz hl (by decide)
    have hXl : (SX.S X).length = X.length := by simp [Str.length]
    let tw := X.takeWhile fun c => decide (c ∈ W)
    have tl : tw.length ≤ X.length := (List.takeWhile_sublist _).length_le
    let st : Nat → L2.St := fun k => [some (.str (SX.S X)), some (.str (SX.S W)), some (.int (k : Nat))]
    refine while_m (fun m σ H' => H' = H ∧ ∃ k, k + m = tw.length ∧ σ = st k) (fun σ H' => H' = H ∧ σ = st tw.length) ⟨tw.length, rfl, 0, Nat.zero_add _, rfl⟩ ?_ ?_
    · rintro σ H' ⟨rfl, rfl⟩
      simp only [st]
      walk_at "go"
      exact q
    · rintro nx hnx m σ H' ⟨rfl, k, hk, rfl⟩
      simp only [st]
      walk_at "go"
      have out : k = tw.length → nx [some (V.str (SX.S X)), some (V.str (SX.S W)), some (V.int (k : Nat))] H' := fun e => hnx _ _ ⟨rfl, by rw [e]⟩
      rw [hXl]
      refine ⟨hX, ite2 (fun h => ⟨hX, ?_⟩) (fun h => out ?_)⟩
      · have hkX : k < X.length := by omega
        refine ⟨X[k], atI_nat (List.getElem?_eq_getElem hkX), X[k], rfl, ite2 (fun hm => ?_) (fun hm => out ?_)⟩
        · have hkt : k < tw.length := by
            rcases Nat.lt_or_ge k tw.length with h | h
            · exact h
            · have e : tw.length = k := by omega
              have q := tw_end (p := fun c => decide (c ∈ W)) (l := X) (x := X[k]) (by
                show X[tw.length]? = _
                rw [e]
                exact List.getElem?_eq_getElem hkX)
              simp [hm] at q
          refine ⟨fun σ' H1 => ∃ m', m' < m ∧ H1 = H' ∧ ∃ k, k + m' = tw.length ∧ σ' = [some (V.str (SX.S X)), some (V.str (SX.S W)), some (V.int (k : Nat))], fun _ _ z => z, k, 1, rfl, rfl, m - 1, by omega, rfl, k + 1, by omega, ?_⟩
          rfl
        · rcases Nat.lt_or_ge k tw.length with h1 | h1
          · have q := tw_in (p := fun c => decide (c ∈ W)) (List.getElem?_eq_getElem hkX) h1
            exact absurd (of_decide_eq_true q) hm
          · omega
      · omega
end
end TX
/-! part W2 -/
/-! A word's sign, the end, a number, numbers in a form. -/
namespace TX
open PySem PySem.Spec PyProof.Rows L2 NT RW4
local macro_rules | `(tactic| walk_at "go") => `(tactic| simp only [L2.start, List.map_cons, List.map_nil, List.length_cons, List.length_nil, Nat.reduceSub, Nat.reduceAdd, List.replicate_succ, List.replicate_zero, List.cons_append, List.nil_append, List.append_nil,
  tSeq, tNext, tRet, tIfS, tTest, tAnd, tOr, tNot, tCB, tCall, tCons, tNil, tVar, tC, tOp, tUn, tAsg, gName, rI0, rI, CMul, CDiv, tDGet, sDPut, tBM0, tBM, tTup, tLst, tPar, gTup, gNil, gCons, tIf, tAug, tRevL, tDisp, tPairs, tYes, wipe, tDrop, L2.tSl, tNotV, tAndV, tOrV, tB, rSlS, ipI, NdefX.startF, tOst, tMkO, rIxL, rIxT, rIxS, rAppend, rExtend, rPop, rSlL, rSetL, tPart, rEq, rNe, tFmt, ↓reduceIte, L2.gSub, ↓reduceIte,
  List.getElem?_cons_zero, List.getElem?_cons_succ, List.set_cons_zero, List.set_cons_succ, Option.some.injEq, V.int.injEq, V.str.injEq, V.ref.injEq, V.bl.injEq, exists_eq_left, exists_eq_left', exists_eq_right, exists_eq_right', exists_eq', true_and, and_true, decide_eq_true_eq, List.cons.injEq, reduceCtorEq, false_and, false_or, or_false, exists_false, exists_and_left, exists_and_right, and_assoc])
section
variable {w : World} {K : PySem.W.Frag} {mg : Str → Option Value} {base : Heap}
theorem S_len (X : List Nat) : (SX.S X).length = X.length := by simp [Str.length]
theorem sg_ne {a b : Nat} (h : a ≠ b) : ¬ (({ cps := #[a] } : Str) = { cps := #[b] }) := fun e => h (by
  have q : (#[a] : Array Nat) = #[b] := congrArg Str.cps e
  simpa using q)
def spPastEnd (C : Addr) : Sp := fun vs H Q E => ∃ (X : List Nat) (at' : Nat), vs = [.str (SX.S X), .int (at' : Nat)] ∧ X.length ≤ 100000 ∧ (X.length ≤ at' → Q .non H) ∧ (at' < X.length → Bad C E H at')
theorem ok_pastEnd (T : Txt w K mg) {C R fI cc : Addr} (B : BadC K mg C R fI cc) : Ok PW w K mg base (L2.CX PW w) 5 "past_end" ["text", "at"] (spPastEnd C) := by
  obtain ⟨f, fd, D⟩ := T.d_past_end
  refine ⟨f, fd, D.F.okX sc_past_end (fun vs H Q E h => ?_) (fun cdv A outer s H vs Q E hr h => ?_), D.g, D.F.kp, D.b⟩
  · obtain ⟨v, b, rfl, _⟩ := h
    rfl
  · obtain ⟨X, k, rfl, hl, h1, h2⟩ := h
    refine ⟨_, pss_one (ps_if (pt_cmpR op_lt (pv 1) (pe_callB call_len_str (by rfl) T.z_len PySem.boot_len (pa_cons (pv 0) pa_nil)) (nomark _))
      (pss_one (ps_bad (W := fun c d _ H => E c d H) rfl T B hr rfl (takes_of rfl rfl rfl rfl) (pv 1))) pss_nil), ?_⟩
    walk_at "go"
    refine ⟨by rw [S_len]; exact small_sz hl (by decide), ite2 (fun h => mk_bad2 (h2 ?_)) (fun h => h1 ?_)⟩
    · rw [S_len] at h
      omega
    · rw [S_len] at h
      omega
def spPastW (C : Addr) : Sp := fun vs H Q E => ∃ (X W : List Nat) (k : Nat), vs = [.str (SX.S X), .int (k : Nat), .str (SX.S W)] ∧ X.length ≤ 100000 ∧ k ≤ X.length ∧
  (cp W (X.drop k) = W.length → Q (.int ((k + W.length : Nat) : Int)) H) ∧ (cp W (X.drop k) < W.length → Bad C E H ((k + cp W (X.drop k) : Nat) : Int))
theorem ok_pastW (T : Txt w K mg) {C R fI cc : Addr} (B : BadC K mg C R fI cc) : Ok PW w K mg base (L2.CX PW w) 5 "past" ["text", "at", "word"] (spPastW C) := by
  obtain ⟨f, fd, D⟩ := T.d_past
  refine ⟨f, fd, D.F.okX sc_past (fun vs H Q E h => ?_) (fun cdv A outer s H vs Q E hr h => ?_), D.g, D.F.kp, D.b⟩
  · obtain ⟨X, W, k, rfl, _⟩ := h
    rfl
  · obtain ⟨X, W, k, rfl, hl, hk, h1, h2⟩ := h
    have nd := sc_past.nd
    refine ⟨_, pss_cons (ps_for (passes_of rfl) rfl (pi_str (pv 2)) (pg_name (i := 3) nd rfl (.inl rfl))
      (pss_cons (ps_if (PW.pt (pw_or (pt_cmpR op_eq (pv 1) (pe_callB call_len_str (by rfl) T.z_len PySem.boot_len (pa_cons (pv 0) pa_nil)) (nomark _)) (pw_or1 (pt_cmpR op_ne (pe_ix ix_str (pv 0) (pv 1) (fun _ _ => rfl)) (pv 3) (nomark _)))))
          (pss_one (ps_bad (W := fun c d _ H => E c d H) rfl T B hr rfl (takes_of rfl rfl rfl rfl) (pv 1))) pss_nil)
        (pss_one (ps_aug (i := 1) nd rfl (.inl rfl) pe_int ip_add))))
      (pss_one (ps_ret (pv 1))), ?_⟩
    walk_at "go"
    have hX : X.length ≤ sizeLine := small_sz hl (by decide)
    refine ⟨_, rfl, SX.S W, rfl, for_it walk_str (fun i σ H' => H' = H ∧ i ≤ cp W (X.drop k) ∧ ∃ v, σ = [some (.str (SX.S X)), some (.int ((k + i : Nat) : Int)), some (.str (SX.S W)), v])
      ⟨rfl, Nat.zero_le _, none, rfl⟩ (fun _ _ _ _ _ => trivial) ?_ ?_⟩
    · rintro i x σ H1 H2 hi ⟨rfl, hc, v, rfl⟩ ⟨rfl, c, hcx, rfl⟩
      have hx : W[i]? = some c := by simpa using hcx
      have hiW := get_lt hx
      have hle := (cp_le W (X.drop k)).1
      rw [List.length_drop] at hle
      walk_at "go"
      rw [S_len]
      refine ⟨hX, rfl, ?_⟩
      by_cases he : k + i = X.length
      · have ec : cp W (X.drop k) = i := by omega
        have b := h2 (by omega)
        rw [ec] at b
        refine ite2 (fun _ => mk_bad2 b) (fun z => absurd (by rw [he]) z)
      · have hkX : k + i < X.length := by omega
        refine ite2 (fun z => absurd (Int.ofNat.inj z) he) (fun _ => ⟨hX, X[k + i], atI_nat (List.getElem?_eq_getElem hkX), rfl, ?_⟩)
        have hs : (X.drop k)[i]? = some X[k + i] := by
          rw [List.getElem?_drop, List.getElem?_eq_getElem hkX]
        have ca := cp_at hc hx hs
        by_cases hq : X[k + i] = c
        · rw [hq]
          walk_at "go"
          rw [if_neg (by simp)]
          exact ⟨ca.1 hq, by omega⟩
        · have b := h2 (by rw [ca.2 hq]; exact hiW)
          rw [ca.2 hq] at b
          rw [if_pos (by rw [decide_eq_false (sg_ne hq)]; rfl)]
          exact mk_bad2 b
    · rintro σ H1 ⟨rfl, hc, v, rfl⟩
      walk_at "go"
      have hc' : W.length ≤ cp W (X.drop k) := hc
      have := (cp_le W (X.drop k)).2
      exact h1 (by omega)
theorem lit_cp (ch : Nat) (s : List Nat) : litS ch s = if cp [ch] s = 1 then .ok 1 else .error 0 := by
  cases s with
  | nil => rfl
  | cons c r =>
    unfold litS cp
    dsimp only
    by_cases h : c = ch
    · rw [if_pos h, if_pos h]
      cases r <;> rfl
    · rw [if_neg h, if_neg h]
      rfl
def spPast (C : Addr) : Sp := fun vs H Q E => ∃ (X : List Nat) (k ch : Nat), vs = [.str (SX.S X), .int (k : Nat), .str (SX.S [ch])] ∧ X.length ≤ 100000 ∧ k ≤ X.length ∧
  (∀ j, litS ch (X.drop k) = .ok j → Q (.int ((k + j : Nat) : Int)) H) ∧ (∀ j, litS ch (X.drop k) = .error j → Bad C E H ((k + j : Nat) : Int))
theorem ok_past (T : Txt w K mg) {C R fI cc : Addr} (B : BadC K mg C R fI cc) : Ok PW w K mg base (L2.CX PW w) 5 "past" ["text", "at", "word"] (spPast C) := by
  refine (ok_pastW T B).imp ?_
  rintro vs H Q E ⟨X, k, ch, rfl, hl, hk, h1, h2⟩
  refine ⟨X, [ch], k, rfl, hl, hk, fun h => h1 1 ?_, fun h => ?_⟩
  · rw [lit_cp]
    exact if_pos h
  · have h0 : cp [ch] (X.drop k) = 0 := by
      have : cp [ch] (X.drop k) < 1 := h
      omega
    rw [h0]
    exact h2 0 (by rw [lit_cp, h0]; rfl)
end
end TX
/-! part W3 -/
/-! A number in a text. -/
namespace TX
open PySem PySem.Spec PyProof.Rows L2 NT RW4
local macro_rules | `(tactic| walk_at "go") => `(tactic| simp only [L2.start, List.map_cons, List.map_nil, List.length_cons, List.length_nil, Nat.reduceSub, Nat.reduceAdd, List.replicate_succ, List.replicate_zero, List.cons_append, List.nil_append, List.append_nil,
  tSeq, tNext, tRet, tIfS, tTest, tAnd, tOr, tNot, tCB, tCall, tCons, tNil, tVar, tC, tOp, tUn, tAsg, gName, rI0, rI, CMul, CDiv, tDGet, sDPut, tBM0, tBM, tTup, tLst, tPar, gTup, gNil, gCons, tIf, tAug, tRevL, tDisp, tPairs, tYes, wipe, tDrop, L2.tSl, tNotV, tAndV, tOrV, tB, rSlS, ipI, tNoPart, NdefX.startF, tOst, tMkO, rIxL, rIxT, rIxS, rAppend, rExtend, rPop, rSlL, rSetL, tPart, rEq, rNe, tFmt, ↓reduceIte, L2.gSub, ↓reduceIte,
  List.getElem?_cons_zero, List.getElem?_cons_succ, List.set_cons_zero, List.set_cons_succ, Option.some.injEq, V.int.injEq, V.str.injEq, V.ref.injEq, V.bl.injEq, exists_eq_left, exists_eq_left', exists_eq_right, exists_eq_right', exists_eq', true_and, and_true, decide_eq_true_eq, List.cons.injEq, reduceCtorEq, false_and, false_or, or_false, exists_false, exists_and_left, exists_and_right, and_assoc])
theorem cut_S {X : List Nat} {i j : Nat} (hij : i ≤ j) : cutS (SX.S X) (some (i : Nat)) (some ((j : Nat) : Int)) = SX.S ((X.drop i).take (j - i)) := by
  unfold cutS
  rw [HT.sIx_nat, HT.sIx_nat]
  show (⟨((X.drop (min i (SX.S X).length)).take (min j (SX.S X).length - min i (SX.S X).length)).toArray⟩ : Str) = _
  rw [S_len]
  by_cases h : i ≤ X.length
  · rw [Nat.min_eq_left h]
    by_cases h2 : j ≤ X.length
    · rw [Nat.min_eq_left h2]
    · rw [Nat.min_eq_right (by omega)]
      rw [List.take_of_length_le (by rw [List.length_drop]; omega), List.take_of_length_le (by rw [List.length_drop]; omega)]
  · rw [Nat.min_eq_right (by omega), Nat.min_eq_right (by omega), Nat.sub_self, List.take_zero, List.drop_of_length_le (by omega), List.take_nil]
theorem cut_S0 {X : List Nat} {i : Nat} : cutS (SX.S X) (some (i : Nat)) none = SX.S (X.drop i) := by
  unfold cutS
  rw [HT.sIx_nat, HT.sIx_none]
  show (⟨((X.drop (min i (SX.S X).length)).take ((SX.S X).length - min i (SX.S X).length)).toArray⟩ : Str) = _
  rw [S_len]
  by_cases h : i ≤ X.length
  · rw [Nat.min_eq_left h, List.take_of_length_le (by rw [List.length_drop]; omega)]
  · rw [Nat.min_eq_right (by omega), Nat.sub_self, List.take_zero, List.drop_of_length_le (by omega)]
section
variable {w : World} {K : PySem.W.Frag} {mg : Str → Option Value} {base : Heap}
def spNumb (C : Addr) : Sp := fun vs H Q E => ∃ (X : List Nat) (k z : Nat), vs = [.str (SX.S X), .int (k : Nat), .str (SX.S [z])] ∧ isN z ∧ X.length ≤ 100000 ∧ k ≤ X.length ∧
  (∀ n j, numS z (X.drop k) = .ok (n, j) → ∀ p H', Same H H' → H p = none → H' p = some (.tup [.int n, .int ((k + j : Nat) : Int)]) → Q (.ref p) H') ∧ (∀ j, numS z (X.drop k) = .error j → Bad C E H ((k + j : Nat) : Int))
theorem digS : (("0123456789" : Str)) = SX.S [48, 49, 50, 51, 52, 53, 54, 55, 56, 57] := by decide +kernel
theorem dig1S : cutS ("0123456789" : Str) (some 1) none = SX.S [49, 50, 51, 52, 53, 54, 55, 56, 57] := by decide +kernel
theorem mem10 (c : Nat) : decide (c ∈ [48, 49, 50, 51, 52, 53, 54, 55, 56, 57]) = dg c := by
  unfold dg
  by_cases h : 48 ≤ c ∧ c ≤ 57
  · rw [decide_eq_true h.1, decide_eq_true h.2]
    refine decide_eq_true ?_
    have : c = 48 ∨ c = 49 ∨ c = 50 ∨ c = 51 ∨ c = 52 ∨ c = 53 ∨ c = 54 ∨ c = 55 ∨ c = 56 ∨ c = 57 := by omega
    rcases this with rfl | rfl | rfl | rfl | rfl | rfl | rfl | rfl | rfl | rfl <;> decide
  · have e : (decide (48 ≤ c) && decide (c ≤ 57)) = false := by
      rw [← Bool.decide_and]
      exact decide_eq_false h
    rw [e]
    refine decide_eq_false fun hm => h ?_
    simp only [List.mem_cons, List.mem_nil_iff, or_false] at hm
    omega
theorem mem9 (c : Nat) : decide (c ∈ [49, 50, 51, 52, 53, 54, 55, 56, 57]) = d1 c := by
  unfold d1
  by_cases h : 49 ≤ c ∧ c ≤ 57
  · rw [decide_eq_true h.1, decide_eq_true h.2]
    refine decide_eq_true ?_
    have : c = 49 ∨ c = 50 ∨ c = 51 ∨ c = 52 ∨ c = 53 ∨ c = 54 ∨ c = 55 ∨ c = 56 ∨ c = 57 := by omega
    rcases this with rfl | rfl | rfl | rfl | rfl | rfl | rfl | rfl | rfl <;> decide
  · have e : (decide (49 ≤ c) && decide (c ≤ 57)) = false := by
      rw [← Bool.decide_and]
      exact decide_eq_false h
    rw [e]
    refine decide_eq_false fun hm => h ?_
    simp only [List.mem_cons, List.mem_nil_iff, or_false] at hm
    omega
theorem d1_of {c : Nat} (h : dg c = true) (h0 : c ≠ 48) : d1 c = true := by
  unfold dg at h
  unfold d1
  simp only [Bool.and_eq_true, decide_eq_true_eq] at h ⊢
  omega
def plainN (z : Nat) : List Nat → Except Nat (Int × Nat)
  | [] => .error 0
  | c :: r => if c = 48 then .ok (0, 1) else if d1 c = true then .ok (val (runL z (c :: r)), (runL z (c :: r)).length) else .error 0
def minusN (z : Nat) : List Nat → Except Nat (Int × Nat)
  | [] => .error 1
  | e :: r' => if d1 e = true then .ok (-(val (runL z (e :: r'))), 1 + (runL z (e :: r')).length) else .error 1
theorem plainN_cons (z c : Nat) (r : List Nat) : plainN z (c :: r) = if c = 48 then .ok (0, 1) else if d1 c = true then .ok (val (runL z (c :: r)), (runL z (c :: r)).length) else .error 0 := rfl
theorem minusN_cons (z e : Nat) (r : List Nat) : minusN z (e :: r) = if d1 e = true then .ok (-(val (runL z (e :: r))), 1 + (runL z (e :: r)).length) else .error 1 := rfl
/-- where no sign - stands ahead -/
theorem numS_plain {z : Nat} {s : List Nat} (h : ∀ r, ¬ (z ≠ 110 ∧ s = 45 :: r)) : numS z s = plainN z s := by
  cases s with
  | nil => rfl
  | cons c r =>
    unfold numS
    dsimp only
    rw [if_neg (fun q => h r ⟨q.1, by rw [q.2]⟩)]
    rfl
theorem numS_minus {z : Nat} (hz : z ≠ 110) {r : List Nat} : numS z (45 :: r) = minusN z r := by
  unfold numS
  dsimp only
  rw [if_pos ⟨hz, rfl⟩]
  cases r <;> rfl
theorem runL_all {z : Nat} {s : List Nat} : NumText.AllDigits (runL z s) := dg_all (runL_dg z s)
theorem int_run {z c : Nat} {r : List Nat} (h : d1 c = true) : intText? (SX.S (runL z (c :: r))) = some (val (runL z (c :: r))) := by
  have e := runL_cons (x := z) (r := r) (d1_dg h)
  exact intText_digits (x := SX.S (runL z (c :: r))) runL_all (by rw [show (SX.S (runL z (c :: r))).cps.toList = runL z (c :: r) from rfl, e]; simp) (by rw [S_len]; have := runL_lim z (c :: r); have := lim_le z; omega)
theorem int_runN {z c : Nat} {r : List Nat} (h : d1 c = true) : intText? (SX.S (45 :: runL z (c :: r))) = some (-(val (runL z (c :: r)))) := by
  have e := runL_cons (x := z) (r := r) (d1_dg h)
  exact intText_neg (x := SX.S (45 :: runL z (c :: r))) rfl runL_all (by rw [e]; simp) (by rw [S_len]; have := runL_lim z (c :: r); have := lim_le z; rw [List.length_cons]; omega)
theorem drop_at {X : List Nat} {k : Nat} (h : k < X.length) : X.drop k = X[k] :: X.drop (k + 1) := List.drop_eq_getElem_cons h
theorem ok_numb (T : Txt w K mg) {C R fI cc : Addr} (B : BadC K mg C R fI cc) : Ok PW w K mg base (L2.CX PW w) 5 "number_at" ["text", "at", "kind"] (spNumb C) := by
  obtain ⟨f, fd, D⟩ := T.d_number_at
  obtain ⟨tD, hD⟩ := T.digits
  obtain ⟨mA, hM, MA⟩ := T.most
  obtain ⟨es, nM, KD⟩ := MA.kd
  refine ⟨f, fd, D.F.okX sc_number_at (fun vs H Q E h => ?_) (fun cdv A outer s H vs Q E hr h => ?_), D.g, D.F.kp, D.b⟩
  · obtain ⟨X, k, z, rfl, _⟩ := h
    rfl
  · obtain ⟨X, k, z, rfl, hz, hl, hk, h1, h2⟩ := h
    have hMz : ∃ u, PySem.W.nsIn K mA (SX.S [z]) = some (some (.int (lim z : Nat) u)) := by
      rcases hz with rfl | rfl | rfl
      · exact MA.yz
      · exact MA.yn
      · exact MA.yZ
    obtain ⟨uM, hMz⟩ := hMz
    have hlim := lim_le z
    have nd := sc_number_at.nd
    have hX : (SX.S X).length ≤ sizeLine := by rw [S_len]; exact small_sz hl (by decide)
    -- the rest, behind the sign: a the place, F the signs that may stand there
    obtain ⟨tt, hT, hQ⟩ : ∃ tt, PSs (cxOf (L2.CX PW w) PW w K mg base n_number_at "number_at" (defScope s_number_at) f cdv A outer s H E) ((defBody s_number_at).drop 3) tt ∧
        ∀ (a : Nat) (F : List Nat) (D : Ends), k ≤ a → D.rt = Q → (a = X.length ∨ (∃ h : a < X.length, X[a] ∉ F) → Bad C E H (a : Nat)) →
          (∀ h : a < X.length, X[a] ∈ F → X[a] = 48 → ∀ p H', Same H H' → H p = none → H' p = some (.tup [.int 0, .int ((a + 1 : Nat) : Int)]) → Q (.ref p) H') →
          (∀ h : a < X.length, X[a] ∈ F → X[a] ≠ 48 → ∃ n : Int, intText? (SX.S ((X.drop k).take (a + (runL z (X.drop a)).length - k))) = some n ∧ a - k ≤ 1 ∧ ∀ p H', Same H H' → H p = none → H' p = some (.tup [.int n, .int ((a + (runL z (X.drop a)).length : Nat) : Int)]) → Q (.ref p) H') →
          a ≤ X.length → tt D [some (.str (SX.S X)), some (.int (a : Nat)), some (.str (SX.S [z])), some (.int (k : Nat)), some (.str (SX.S F)), none] H := by
      refine ⟨_, pss_cons (ps_if (PW.pt (pw_or (pt_cmpR op_eq (pv 1) (pe_callB call_len_str (by rfl) T.z_len PySem.boot_len (pa_cons (pv 0) pa_nil)) (nomark _)) (pw_or1 (pt_cmpR op_notIn_sign (pe_ix ix_str (pv 0) (pv 1) (fun _ _ => rfl)) (pv 4) rfl))))
          (pss_one (ps_bad (W := fun c d _ H => E c d H) rfl T B hr rfl (takes_of rfl rfl rfl rfl) (pv 1))) pss_nil)
        (pss_cons (ps_if (pt_cmpR op_eq (pe_ix ix_str (pv 0) (pv 1) (fun _ _ => rfl)) pe_str (nomark _)) (pss_one (ps_ret (pe_tup (pa_cons pe_int (pa_cons (pe_op op_add (pv 1) pe_int) pa_nil))))) pss_nil)
        (pss_cons (ps_set (i := 5) nd rfl (.inl rfl) (pe_op op_add (pv 1) (pe_d (ok_signs T) hr pass0 (pa_cons (pe_slice sl_str (pv 0) (po_some (pv 1)) (po_some (pe_op op_add (pv 1) (pe_ix ix_kdict (pe_glob (v := .ref mA) rfl hM rfl) (pv 2) (fun _ _ => rfl))))) (pa_cons (pe_glob (v := .str "0123456789") rfl hD ⟨_, rfl⟩) pa_nil)))))
        (pss_one (ps_ret (pe_tup (pa_cons (pe_callTy call_int_str (by rfl) T.z_int (by decide +kernel) (pa_cons (pe_slice sl_str (pv 0) (po_some (pv 3)) (po_some (pv 5))) pa_nil)) (pa_cons (pv 5) pa_nil))))))), fun a F D hka hrt g1 g2 g3 haX => ?_⟩
      obtain ⟨Dnx, Drt, Dbk, Dct⟩ := D
      replace hrt : Drt = Q := hrt
      subst hrt
      walk_at "go"
      refine ⟨hX, rfl, ?_⟩
      rw [S_len] at hX ⊢
      by_cases he : a = X.length
      · rw [if_pos (by rw [he])]
        exact mk_bad2 (g1 (.inl he))
      · rw [if_neg (show ¬ ((a : Int) = (X.length : Int)) by omega)]
        have hlt : a < X.length := by omega
        refine ⟨hX, X[a], atI_nat (List.getElem?_eq_getElem hlt), X[a], rfl, ?_⟩
        by_cases hm : X[a] ∈ F
        · rw [if_neg (by simp [hm])]
          refine ⟨hX, X[a], atI_nat (List.getElem?_eq_getElem hlt), rfl, ?_⟩
          by_cases h0 : X[a] = 48
          · rw [if_pos (by rw [h0]; decide +kernel)]
            exact ⟨by decide, fun p hp => g2 hlt hm h0 p _ (same_new hp) hp upd_same⟩
          · rw [if_neg (fun e => h0 (by
              have e2 : (({ cps := #[X[a]] } : Str) = { cps := #[48] }) := e.trans (by decide +kernel)
              exact Classical.byContradiction fun z => sg_ne z e2))]
            obtain ⟨n, e1, e3, e2⟩ := g3 hlt hm h0
            have ec : cutS (SX.S X) (some (a : Nat)) (some ((a : Nat) + (lim z : Nat) : Int)) = SX.S ((X.drop a).take (lim z)) := by
              have q := cut_S (X := X) (i := a) (j := a + lim z) (by omega)
              rw [show a + lim z - a = lim z by omega] at q
              exact q
            have er : ((X.drop a).take (lim z)).takeWhile (fun c => decide (c ∈ [48, 49, 50, 51, 52, 53, 54, 55, 56, 57])) = runL z (X.drop a) := by
              unfold runL
              congr 1
              funext c
              exact mem10 c
            refine ⟨mA, SX.S [z], .int (lim z : Nat), rfl, rfl, ⟨es, nM, _, KD.at_, KD.lit, hMz, ⟨uM, rfl⟩⟩, _, rfl, ?_⟩
            refine ⟨hX, (X.drop a).take (lim z), [48, 49, 50, 51, 52, 53, 54, 55, 56, 57], by rw [ec, digS], by rw [List.length_take]; omega, ?_⟩
            rw [er]
            have e9 := runL_lim z (X.drop a)
            have ec2 := cut_S (X := X) (i := k) (j := a + (runL z (X.drop a)).length) (by omega)
            refine ⟨_, rfl, hX, n, ?_, ?_, by decide, fun p hp => ?_⟩
            · rw [← e1, ← ec2]
              rfl
            · have q : (cutS (SX.S X) (some (k : Nat)) (some ((a + (runL z (X.drop a)).length : Nat) : Int))).length ≤ 640 := by
                rw [ec2, S_len, List.length_take]
                omega
              exact q
            · exact e2 p _ (same_new hp) hp upd_same
        · rw [if_pos (by simp [hm])]
          exact mk_bad2 (g1 (.inr ⟨hlt, hm⟩))
    refine ⟨_, pss_cons (ps_set (i := 3) nd rfl (.inl rfl) (pv 1))
      (pss_cons (ps_set (i := 4) nd rfl (.inl rfl) (pe_glob (v := .str "0123456789") rfl hD ⟨_, rfl⟩))
      (pss_cons (ps_if (PW.pt (pw_and (pt_cmpR op_ne (pv 2) pe_str (nomark _)) (pw_and1 (pt_cmpR op_eq (pe_slice sl_str (pv 0) (po_some (pv 1)) (po_some (pe_op op_add (pv 1) pe_int))) pe_str (nomark _)))))
        (pss_cons (ps_aug (i := 1) nd rfl (.inl rfl) pe_int ip_add) (pss_one (ps_set (i := 4) nd rfl (.inl rfl) (pe_slice sl_str (pe_glob (v := .str "0123456789") rfl hD ⟨_, rfl⟩) (po_some pe_int) po_none)))) pss_nil) hT)), ?_⟩
    walk_at "go"
    have sB : ("0123456789" : Str) = SX.S [48, 49, 50, 51, 52, 53, 54, 55, 56, 57] := digS
    have plain : ∀ D : Ends, D.rt = Q → (∀ r, ¬ (z ≠ 110 ∧ X.drop k = 45 :: r)) → tt D [some (.str (SX.S X)), some (.int (k : Nat)), some (.str (SX.S [z])), some (.int (k : Nat)), some (.str ("0123456789" : Str)), none] H := fun D hrt hp => by
      have en := numS_plain hp
      rw [sB]
      refine hQ k _ D (Nat.le_refl _) hrt (fun h => ?_) (fun h hm h0 => ?_) (fun h hm h0 => ?_) hk
      · have e0 : numS z (X.drop k) = .error 0 := by
          rw [en]
          rcases h with h | ⟨h, hm⟩
          · rw [h, List.drop_length]
            rfl
          · rw [drop_at h, plainN_cons]
            have nd : dg X[k] = false := by
              rw [← mem10]
              exact decide_eq_false hm
            have n48 : X[k] ≠ 48 := fun e => by
              rw [e] at nd
              cases nd
            rw [if_neg n48, if_neg (fun z => by
              rw [d1_dg z] at nd
              cases nd)]
        exact h2 0 e0
      · refine h1 0 1 ?_
        rw [en, drop_at h, plainN_cons, if_pos h0]
      · have hd : d1 X[k] = true := d1_of (by rw [← mem10]; exact decide_eq_true hm) h0
        refine ⟨val (runL z (X.drop k)), ?_, by omega, h1 _ _ ?_⟩
        · rw [Nat.add_sub_cancel_left, ← runL_take, drop_at h]
          exact int_run hd
        · rw [en, drop_at h, plainN_cons, if_neg h0, if_pos hd]
    have c1 := cut_S (X := X) (i := k) (j := k + 1) (by omega)
    rw [Nat.add_sub_cancel_left] at c1
    have c1' : cutS (SX.S X) (some (k : Int)) (some ((k : Int) + 1)) = SX.S ((X.drop k).take 1) := c1
    refine ⟨rfl, ?_⟩
    by_cases hn : z = 110
    · rw [if_neg (by subst hn; decide +kernel)]
      exact plain _ rfl fun r q => q.1 hn
    · rw [if_pos (by
        rw [decide_eq_false]
        · rfl
        · intro q
          refine hn (Classical.byContradiction fun q2 => sg_ne q2 (q.trans (by decide +kernel))))]
      refine ⟨hX, rfl, ?_⟩
      by_cases hq : ∃ r, X.drop k = 45 :: r
      · obtain ⟨r, er⟩ := hq
        have hkX : k < X.length := by
          rcases Nat.lt_or_ge k X.length with h | h
          · exact h
          · rw [List.drop_of_length_le h] at er
            cases er
        have er1 : X.drop (k + 1) = r := by
          rw [drop_at hkX] at er
          exact (List.cons.inj er).2
        rw [if_pos (by rw [c1', er, List.take_succ_cons, List.take_zero]; decide +kernel)]
        refine ⟨by decide +kernel, ?_⟩
        rw [dig1S]
        refine hQ (k + 1) _ _ (by omega) rfl (fun h => ?_) (fun h hm h0 => ?_) (fun h hm h0 => ?_) (by omega)
        · have e0 : numS z (X.drop k) = .error 1 := by
            rw [er, numS_minus hn, ← er1]
            rcases h with h | ⟨h, hm⟩
            · rw [h, List.drop_length]
              rfl
            · rw [drop_at h, minusN_cons, if_neg (fun z => hm (by
                rw [← mem9] at z
                exact of_decide_eq_true z))]
          exact h2 1 e0
        · rw [h0] at hm
          exact absurd hm (by decide)
        · have hd : d1 X[k + 1] = true := by
            rw [← mem9]
            exact decide_eq_true hm
          refine ⟨-(val (runL z (X.drop (k + 1)))), ?_, by omega, ?_⟩
          · rw [er, show k + 1 + (runL z (X.drop (k + 1))).length - k = (runL z (X.drop (k + 1))).length + 1 by omega, List.take_succ_cons, ← er1, ← runL_take, drop_at h]
            exact int_runN hd
          · have e1 : numS z (X.drop k) = .ok (-(val (runL z (X.drop (k + 1)))), 1 + (runL z (X.drop (k + 1))).length) := by
              rw [er, numS_minus hn, ← er1, drop_at h, minusN_cons, if_pos hd]
            have g := h1 _ _ e1
            rw [← Nat.add_assoc] at g
            exact g
      · rw [if_neg (fun z => hq (by
          rw [c1'] at z
          have z2 : SX.S ((X.drop k).take 1) = SX.S [45] := z.trans (by decide +kernel)
          have z3 : (X.drop k).take 1 = [45] := by simpa using z2
          cases ed : X.drop k with
          | nil =>
            rw [ed] at z3
            cases z3
          | cons x y =>
            rw [ed, List.take_succ_cons] at z3
            cases z3
            exact ⟨y, rfl⟩))]
        exact plain _ rfl fun r q => hq ⟨r, q.2⟩
end
end TX
/-! part W4 -/
/-! Numbers in a form. -/
namespace TX
open PySem PySem.Spec PyProof.Rows L2 NT RW4
local macro_rules | `(tactic| walk_at "go") => `(tactic| simp only [L2.start, List.map_cons, List.map_nil, List.length_cons, List.length_nil, Nat.reduceSub, Nat.reduceAdd, List.replicate_succ, List.replicate_zero, List.cons_append, List.nil_append, List.append_nil,
  tSeq, tNext, tRet, tIfS, tTest, tAnd, tOr, tNot, tCB, tCall, tCons, tNil, tVar, tC, tOp, tUn, tAsg, gName, rI0, rI, CMul, CDiv, tDGet, sDPut, tBM0, tBM, tTup, tLst, tPar, gTup, gNil, gCons, tIf, tAug, tRevL, tDisp, tPairs, tYes, wipe, tDrop, L2.tSl, tNotV, tAndV, tOrV, tB, rSlS, ipI, tNoPart, NdefX.startF, tOst, tMkO, rIxL, rIxT, rIxS, rAppend, rExtend, rPop, rSlL, rSetL, tPart, rEq, rNe, tFmt, ↓reduceIte, L2.gSub, ↓reduceIte,
  List.getElem?_cons_zero, List.getElem?_cons_succ, List.set_cons_zero, List.set_cons_succ, Option.some.injEq, V.int.injEq, V.str.injEq, V.ref.injEq, V.bl.injEq, exists_eq_left, exists_eq_left', exists_eq_right, exists_eq_right', exists_eq', true_and, and_true, decide_eq_true_eq, List.cons.injEq, reduceCtorEq, false_and, false_or, or_false, exists_false, exists_and_left, exists_and_right, and_assoc])
section
variable {w : World} {K : PySem.W.Frag} {mg : Str → Option Value} {base : Heap}
theorem sg_beq (a b : Nat) : (({ cps := #[a] } : Str) == { cps := #[b] }) = decide (b = a) := by
  by_cases h : b = a
  · subst h
    rw [decide_eq_true rfl, beq_self_eq_true]
  · rw [decide_eq_false h]
    exact beq_eq_false_iff_ne.mpr (sg_ne (Ne.symm h))
theorem sg_dec (a b : Nat) : decide (({ cps := #[a] } : Str) = { cps := #[b] }) = decide (a = b) := by
  by_cases h : a = b
  · subst h
    rw [decide_eq_true rfl, decide_eq_true rfl]
  · rw [decide_eq_false h, decide_eq_false (sg_ne h)]
def spNums (C : Addr) : Sp := fun vs H Q E => ∃ (X F : List Nat) (k : Nat), vs = [.str (SX.S X), .int (k : Nat), .str (SX.S F)] ∧ X.length ≤ 100000 ∧ k ≤ X.length ∧ F.length ≤ 100 ∧
  (∀ ns j, formS F (X.drop k) = .ok (ns, j) → ∀ p q H', Same H H' → H p = none → H q = none → p ≠ q → H' q = some (.lst (ns.map V.int)) → H' p = some (.tup [.ref q, .int ((k + j : Nat) : Int)]) → Q (.ref p) H') ∧ (∀ j, formS F (X.drop k) = .error j → Bad C E H ((k + j : Nat) : Int))
/-- behind i signs of the form: the numbers so far, how far -/
def Cont (F s : List Nat) (i : Nat) (ns : List Int) (j : Nat) : Prop := j ≤ s.length ∧ (match formS (F.drop i) (s.drop j) with
  | .ok (ms, j') => formS F s = .ok (ns ++ ms, j + j')
  | .error j' => formS F s = .error (j + j'))
theorem cont0 (F s : List Nat) : Cont F s 0 [] 0 := by
  refine ⟨Nat.zero_le _, ?_⟩
  rw [List.drop_zero, List.drop_zero]
  cases e : formS F s with
  | error j =>
    dsimp only
    rw [Nat.zero_add]
  | ok p =>
    obtain ⟨ms, j⟩ := p
    dsimp only
    rw [Nat.zero_add, List.nil_append]
theorem cont_end {F s : List Nat} {ns : List Int} {j : Nat} (h : Cont F s F.length ns j) : formS F s = .ok (ns, j) := by
  have q := h.2
  rw [List.drop_length] at q
  have e : formS [] (s.drop j) = .ok ([], 0) := rfl
  rw [e] at q
  dsimp only at q
  rw [q, List.append_nil, Nat.add_zero]
theorem cont_num {F s : List Nat} {i x : Nat} {ns : List Int} {j : Nat} (hx : F[i]? = some x) (hn : isN x) (h : Cont F s i ns j) :
    (∀ n j', numS x (s.drop j) = .ok (n, j') → Cont F s (i + 1) (ns ++ [n]) (j + j')) ∧ (∀ j', numS x (s.drop j) = .error j' → formS F s = .error (j + j')) := by
  have hi := get_lt hx
  have ed : F.drop i = x :: F.drop (i + 1) := by
    rw [List.drop_eq_getElem_cons hi]
    rw [List.getElem?_eq_getElem hi] at hx
    rw [Option.some.inj hx]
  obtain ⟨h0, h⟩ := h
  rw [ed] at h
  have eu : formS (x :: F.drop (i + 1)) (s.drop j) = (match numS x (s.drop j) with
        | .error k => .error k
        | .ok (n, k) => match formS (F.drop (i + 1)) ((s.drop j).drop k) with
          | .error j => .error (k + j)
          | .ok (ns, j) => .ok (n :: ns, k + j)) := by
    conv => lhs; unfold formS
    rw [if_pos hn]
    first | done | rfl
  rw [eu] at h
  constructor
  · intro n j' e
    have hle := numS_le e
    rw [List.length_drop] at hle
    rw [e] at h
    dsimp only at h
    rw [List.drop_drop] at h
    refine ⟨by omega, ?_⟩
    cases e2 : formS (F.drop (i + 1)) (s.drop (j + j')) with
    | error m =>
      rw [e2] at h
      dsimp only at h ⊢
      rw [h, Nat.add_assoc]
    | ok p =>
      obtain ⟨ms, m⟩ := p
      rw [e2] at h
      dsimp only at h ⊢
      rw [h, List.append_assoc, Nat.add_assoc]
      rfl
  · intro j' e
    rw [e] at h
    exact h
theorem cont_lit {F s : List Nat} {i x : Nat} {ns : List Int} {j : Nat} (hx : F[i]? = some x) (hn : ¬ isN x) (h : Cont F s i ns j) :
    (∀ j', litS x (s.drop j) = .ok j' → Cont F s (i + 1) ns (j + j')) ∧ (∀ j', litS x (s.drop j) = .error j' → formS F s = .error (j + j')) := by
  have hi := get_lt hx
  have ed : F.drop i = x :: F.drop (i + 1) := by
    rw [List.drop_eq_getElem_cons hi]
    rw [List.getElem?_eq_getElem hi] at hx
    rw [Option.some.inj hx]
  obtain ⟨h0, h⟩ := h
  rw [ed] at h
  have eu : formS (x :: F.drop (i + 1)) (s.drop j) = (match litS x (s.drop j) with
        | .error k => .error k
        | .ok k => match formS (F.drop (i + 1)) ((s.drop j).drop k) with
          | .error j => .error (k + j)
          | .ok (ns, j) => .ok (ns, k + j)) := by
    conv => lhs; unfold formS
    rw [if_neg hn]
    first | done | rfl
  rw [eu] at h
  constructor
  · intro j' e
    have hle : j' ≤ (s.drop j).length := by
      cases es : s.drop j with
      | nil =>
        rw [es] at e
        cases e
      | cons c r =>
        rw [es] at e
        unfold litS at e
        dsimp only at e
        split at e
        · cases e
          rw [List.length_cons]
          omega
        · cases e
    rw [List.length_drop] at hle
    rw [e] at h
    dsimp only at h
    rw [List.drop_drop] at h
    refine ⟨by omega, ?_⟩
    cases e2 : formS (F.drop (i + 1)) (s.drop (j + j')) with
    | error m =>
      rw [e2] at h
      dsimp only at h ⊢
      rw [h, Nat.add_assoc]
    | ok p =>
      obtain ⟨ms, m⟩ := p
      rw [e2] at h
      dsimp only at h ⊢
      rw [h, Nat.add_assoc]
  · intro j' e
    rw [e] at h
    exact h
theorem ok_nums (T : Txt w K mg) {C R fI cc : Addr} (B : BadC K mg C R fI cc) : Ok PW w K mg base (L2.CX PW w) 6 "numbers_at" ["text", "at", "form"] (spNums C) := by
  obtain ⟨f, fd, D⟩ := T.d_numbers_at
  obtain ⟨mA, hM, MA⟩ := T.most
  obtain ⟨es, nM, KD⟩ := MA.kd
  refine ⟨f, fd, D.F.okX sc_numbers_at (fun vs H Q E h => ?_) (fun cdv A outer s H vs Q E hr h => ?_), D.g, D.F.kp, D.b⟩
  · obtain ⟨X, F, k, rfl, _⟩ := h
    rfl
  · obtain ⟨X, F, k, rfl, hl, hk, hF, h1, h2⟩ := h
    have nd := sc_numbers_at.nd
    refine ⟨_, pss_cons (ps_set (i := 3) nd rfl (.inl rfl) (pe_lst pa_nil))
      (pss_cons (ps_for (passes_of rfl) rfl (pi_str (pv 2)) (pg_name (i := 4) nd rfl (.inl rfl))
        (pss_one (ps_if (pt_cmpR (op_in_kd KD) (pv 4) (pe_glob (v := .ref mA) rfl hM rfl) (by rfl))
          (pss_cons (ps_asg (pe_d (E := E) (ok_numb T B) hr (passes_call (takes_of rfl rfl rfl rfl) (fun _ _ _ _ z => z)) (pa_cons (pv 0) (pa_cons (pv 1) (pa_cons (pv 4) pa_nil))))
              (pg_tup (by rfl) (pgs_cons (pg_name (i := 5) nd rfl (.inl rfl)) (pgs_cons (pg_name (i := 1) nd rfl (.inl rfl)) pgs_nil))))
            (pss_one (ps_expr (pe_bm PySem.F.plainAttrs_list PySem.F.slot_list_append PySem.F.type_list_append mt_append (pv 3) (pa_cons (pv 5) pa_nil)))))
          (pss_one (ps_set (i := 1) nd rfl (.inl rfl) (pe_d (E := E) (ok_past T B) hr (passes_call (takes_of rfl rfl rfl rfl) (fun _ _ _ _ z => z)) (pa_cons (pv 0) (pa_cons (pv 1) (pa_cons (pv 4) pa_nil)))))))))
      (pss_one (ps_ret (pe_tup (pa_cons (pv 3) (pa_cons (pv 1) pa_nil)))))), ?_⟩
    walk_at "go"
    refine ⟨by decide, fun q hq => ⟨_, rfl, SX.S F, rfl, for_it walk_str (fun i σ H' => Same H H' ∧ ∃ ns j v4 v5, Cont F (X.drop k) i ns j ∧ ns.length ≤ i ∧ H' q = some (.lst (ns.map V.int)) ∧ σ = [some (.str (SX.S X)), some (.int ((k + j : Nat) : Int)), some (.str (SX.S F)), some (.ref q), v4, v5])
      ⟨same_new hq, [], 0, none, none, cont0 F _, Nat.le_refl _, upd_same, rfl⟩ (fun _ _ _ _ _ => trivial) ?_ ?_⟩⟩
    · rintro i x σ H1 H2 hi ⟨sm, ns, j, v4, v5, hc, hn, eq, rfl⟩ ⟨rfl, c, hcx, rfl⟩
      have hx : F[i]? = some c := by simpa using hcx
      have hiF := get_lt hx
      walk_at "go"
      have kj : k + j ≤ X.length := by
        have := hc.1
        rw [List.length_drop] at this
        omega
      have eK : ∃ r, PySem.W.nsIn K mA { cps := #[c] } = some r ∧ r.isSome = decide (isN c) := by
        by_cases hN : isN c
        · rw [decide_eq_true hN]
          rcases hN with rfl | rfl | rfl
          · obtain ⟨u, e⟩ := MA.yz
            exact ⟨_, e, rfl⟩
          · obtain ⟨u, e⟩ := MA.yn
            exact ⟨_, e, rfl⟩
          · obtain ⟨u, e⟩ := MA.yZ
            exact ⟨_, e, rfl⟩
        · rw [decide_eq_false hN]
          have ne : ∀ {x : Nat}, c ≠ x → ({ cps := #[c] } : Str) ≠ { cps := #[x] } := fun h => sg_ne h
          exact ⟨none, MA.no _ (ne fun z => hN (.inl z)) (ne fun z => hN (.inr (.inl z))) (ne fun z => hN (.inr (.inr z))), rfl⟩
      obtain ⟨r, eK, er⟩ := eK
      refine ⟨r, eK, ?_⟩
      rw [er]
      by_cases hN : isN c
      · rw [decide_eq_true hN]
        have cn := cont_num hx hN hc
        rw [List.drop_drop] at cn
        refine iteT ⟨X, k + j, c, rfl, hN, hl, kj, fun n j' e p2 H3 s3 np2 e2 => ?_, fun j' e => ?_⟩
        · have eqp : H3 q = some (.lst (ns.map V.int)) := s3 _ _ eq
          refine ⟨p2, rfl, _, .inl (.inl e2), rfl, _, _, rfl, _, _, rfl, rfl, .inl ⟨rfl, _, .inl (.inl eqp)⟩, _, eqp, by rw [List.length_map]; exact small_lt (m := 100) (by omega) (by decide), fun x o hx' => ?_, ns ++ [n], j + j', cn.1 n j' e, by rw [List.length_append]; exact Nat.succ_le_succ hn, by rw [upd_same, List.map_append]; rfl, by rw [Nat.add_assoc]⟩
          rw [upd_ne (ne_of_none hx' hq)]
          exact s3 _ _ (sm _ _ hx')
        · have b := (h2 _ (cn.2 j' e)).of sm
          rw [← Nat.add_assoc] at b
          exact b
      · rw [decide_eq_false hN]
        have cl := cont_lit hx hN hc
        rw [List.drop_drop] at cl
        refine iteF ⟨X, k + j, c, rfl, hl, kj, fun j' e => ?_, fun j' e => ?_⟩
        · exact ⟨sm, ns, j + j', cl.1 j' e, by omega, eq, by rw [Nat.add_assoc]⟩
        · have b := (h2 _ (cl.2 j' e)).of sm
          rw [← Nat.add_assoc] at b
          exact b
    · rintro σ H1 ⟨sm, ns, j, v4, v5, hc, hn, eq, rfl⟩
      walk_at "go"
      have hc' : Cont F (X.drop k) F.length ns j := hc
      refine ⟨by decide, fun p hp => h1 ns j (cont_end hc') p q _ (sm.trans (same_new hp)) (sm.free hp) hq (ne_of_none eq hp).symm ?_ upd_same⟩
      rw [upd_ne (ne_of_none eq hp)]
      exact eq
end
end TX
/-! part M5 -/
/-! What is read keeps the bounds. -/
namespace RW4
open PySem PySem.NumText L2
theorem dv_app (a : List Nat) (c : Nat) : digitsVal (a ++ [c]) = digitsVal a * 10 + (c - 48) := by
  unfold digitsVal
  rw [List.foldl_append]
  rfl
theorem dv_lt : ∀ (k : Nat) (l : List Nat), l.length = k → (∀ c ∈ l, dg c = true) → digitsVal l < 10 ^ k := by
  intro k
  induction k with
  | zero =>
    intro l hl _
    rw [List.length_eq_zero_iff.mp hl]
    decide
  | succ k ih =>
    intro l hl h
    have hne : l ≠ [] := by
      intro z
      rw [z] at hl
      cases hl
    have e := List.dropLast_concat_getLast hne
    have h1 := ih l.dropLast (by rw [List.length_dropLast, hl]; rfl) fun c hc => h c (List.dropLast_subset l hc)
    have h2 := h _ (List.getLast_mem hne)
    unfold dg at h2
    simp only [Bool.and_eq_true, decide_eq_true_eq] at h2
    rw [← e, dv_app, Nat.pow_succ]
    omega
theorem valL (x : Nat) (s : List Nat) : (val (runL x s)).natAbs < 10 ^ lim x := by
  have h := dv_lt _ (runL x s) rfl (runL_dg x s)
  have h2 := runL_lim x s
  unfold val
  rw [Int.natAbs_natCast]
  exact Nat.lt_of_lt_of_le h (Nat.pow_le_pow_right (by decide) h2)
theorem num_ok {x : Nat} {s : List Nat} {n : Int} {k : Nat} (h : numS x s = .ok (n, k)) : n.natAbs < 10 ^ lim x := by
  cases s with
  | nil => cases h
  | cons c r =>
    unfold numS at h
    dsimp only at h
    split at h
    · cases r with
      | nil => cases h
      | cons e r' =>
        dsimp only at h
        split at h
        · cases h
          rw [Int.natAbs_neg]
          exact valL x _
        · cases h
    · split at h
      · cases h
        exact Nat.pow_pos (by decide)
      · split at h
        · cases h
          exact valL x _
        · cases h
theorem form_ok : ∀ {f s : List Nat} {ns : List Int} {k : Nat}, formS f s = .ok (ns, k) → okI f ns
  | [], s, ns, k, h => by
    unfold formS at h
    cases h
    rfl
  | x :: fs, s, ns, k, h => by
    unfold formS at h
    unfold okI
    by_cases hx : isN x
    · rw [if_pos hx] at h ⊢
      cases e : numS x s with
      | error j =>
        rw [e] at h
        cases h
      | ok p =>
        obtain ⟨n, j⟩ := p
        rw [e] at h
        dsimp only at h
        cases e2 : formS fs (s.drop j) with
        | error i =>
          rw [e2] at h
          cases h
        | ok q =>
          obtain ⟨ms, i⟩ := q
          rw [e2] at h
          cases h
          exact ⟨n, ms, rfl, ⟨num_ok e, (num_back e).2.1⟩, form_ok e2⟩
    · rw [if_neg hx] at h ⊢
      cases e : litS x s with
      | error j =>
        rw [e] at h
        cases h
      | ok j =>
        rw [e] at h
        dsimp only at h
        cases e2 : formS fs (s.drop j) with
        | error i =>
          rw [e2] at h
          cases h
        | ok q =>
          obtain ⟨ms, i⟩ := q
          rw [e2] at h
          cases h
          exact form_ok e2
theorem rest_ok {form : List Nat} : ∀ {m : Nat} {s : List Nat} {l : List (List Int)}, restS form m s = .ok l → ∀ a ∈ l, okI form a
  | 0, s, l, h => by cases h
  | m + 1, [], l, h => by
    unfold restS at h
    cases h
    intro a ha
    cases ha
  | m + 1, c :: r, l, h => by
    unfold restS at h
    split at h
    · cases e : formS form r with
      | error j =>
        rw [e] at h
        cases h
      | ok p =>
        obtain ⟨ns, j⟩ := p
        rw [e] at h
        dsimp only at h
        cases e2 : restS form m (r.drop j) with
        | error i =>
          rw [e2] at h
          cases h
        | ok q =>
          rw [e2] at h
          cases h
          intro a ha
          rcases List.mem_cons.mp ha with rfl | ha
          · exact form_ok e
          · exact rest_ok e2 a ha
    · cases h
theorem items_ok {form s : List Nat} {l : List (List Int)} (h : itemsS form s = .ok l) : ∀ a ∈ l, okI form a := by
  unfold itemsS at h
  split at h
  · cases h
    intro a ha
    cases ha
  · cases e : formS form s with
    | error j =>
      rw [e] at h
      cases h
    | ok p =>
      obtain ⟨ns, j⟩ := p
      rw [e] at h
      dsimp only at h
      cases e2 : restS form (s.length + 1) (s.drop j) with
      | error i =>
        rw [e2] at h
        cases h
      | ok q =>
        rw [e2] at h
        cases h
        intro a ha
        rcases List.mem_cons.mp ha with rfl | ha
        · exact form_ok e
        · exact rest_ok e2 a ha
end RW4
/-! part M27 -/
/-! Deeds in a text: the reading; the machine of deeds and logs, what it holds after each sign. -/
namespace RW4
open PySem
/-! ### the reading -/
def wd : Nat → List Nat
  | 0 => [111, 112, 101, 110]
  | 1 => [119, 97, 108, 108]
  | 2 => [115, 101, 116]
  | _ => [116, 97, 107, 101]
abbrev fZ : List Nat := [32, 90, 44, 90]
def wI (c : Nat) : Option Nat := if c = 111 then some 0 else if c = 119 then some 1 else if c = 115 then some 2 else if c = 116 then some 3 else none
/-- a word, then the form -/
def rdW (W s : List Nat) : Except Nat (List Int × Nat) :=
  if cp W s = W.length then
    match formS fZ (s.drop W.length) with
    | .error j => .error (W.length + j)
    | .ok (ns, k) => .ok (ns, W.length + k)
  else .error (cp W s)
def deedS (s : List Nat) : Except Nat ((Nat × List Int) × Nat) :=
  match s with
  | [] => .error 0
  | c :: _ => match wI c with
    | none => .error 0
    | some i => match rdW (wd i) s with
      | .error j => .error j
      | .ok (ns, k) => .ok ((i, ns), k)
def restD : Nat → List Nat → Except Nat (List (Nat × List Int))
  | 0, _ => .error 0
  | _ + 1, [] => .ok []
  | m + 1, c :: r =>
    if c = 10 then
      match deedS r with
      | .error k => .error (1 + k)
      | .ok (d, k) => match restD m (r.drop k) with
        | .error j => .error (1 + k + j)
        | .ok l => .ok (d :: l)
    else .error 0
def logS (s : List Nat) : Except Nat (List (Nat × List Int)) :=
  match deedS s with
  | .error k => .error k
  | .ok (d, k) => match restD (s.length + 1) (s.drop k) with
    | .error j => .error (k + j)
    | .ok l => .ok (d :: l)
/-! ### the automaton -/
def wat (i j : Nat) : Option Nat := (wd i)[j]?
/-- behind j signs of word i -/
def nxW (i j : Nat) : St4 := if (wat i j).isNone then .lit fZ else .own (10 * i + j)
/-- where a deed alone stands, or a log -/
def auD (lg : Bool) : Au where
  st := fun n c => if n = 0 then (match wI c with
      | none => none
      | some i => some (nxW i 1))
    else match wat (n / 10) (n % 10) with
      | none => none
      | some x => if c = x then some (nxW (n / 10) (n % 10 + 1)) else none
  fin := fun c => if lg = true ∧ c = 10 then some (.own 0) else none
theorem acc_own (n : Nat) : acc (.own n) = false := rfl
theorem run_step {A : Au} {n x : Nat} {q : St4} (h : ∀ c, A.st n c = if c = x then some q else none) (s : List Nat) :
    run A (.own n) s = (match s with | [] => (0, false) | c :: r => if c = x then sh 1 (run A q r) else (0, false)) := by
  cases s with
  | nil => rfl
  | cons c r =>
    dsimp only
    by_cases hc : c = x
    · rw [if_pos hc, run_cons (show dl A (.own n) c = some q from (h c).trans (if_pos hc))]
    · rw [if_neg hc, run_none (show dl A (.own n) c = none from (h c).trans (if_neg hc))]
/-- the rest of a word -/
theorem run_word (lg : Bool) (i : Nat) (hi : i < 4) (s : List Nat) : run (auD lg) (nxW i 1) s = if cp ((wd i).drop 1) s = ((wd i).drop 1).length then sh ((wd i).drop 1).length (run (auD lg) (.lit fZ) (s.drop ((wd i).drop 1).length)) else (cp ((wd i).drop 1) s, false) := by
  have go : ∀ (W : List Nat) (j : Nat), 0 < j → (wd i).drop j = W → j + W.length = (wd i).length → ∀ s, run (auD lg) (nxW i j) s = if cp W s = W.length then sh W.length (run (auD lg) (.lit fZ) (s.drop W.length)) else (cp W s, false) := by
    intro W
    induction W with
    | nil =>
      intro j hj e hl s
      have e1 : nxW i j = .lit fZ := by
        unfold nxW wat
        rw [List.getElem?_eq_none (by rw [List.length_nil] at hl; omega)]
        rfl
      rw [e1]
      have : cp [] s = 0 := by cases s <;> rfl
      rw [this, if_pos (show 0 = ([] : List Nat).length from rfl)]
      rfl
    | cons x W ih =>
      intro j hj e hl s
      have hlt : j < (wd i).length := by
        rw [List.length_cons] at hl
        omega
      have hx : (wd i)[j]? = some x := by
        have := congrArg (fun l => l[0]?) e
        simp only [List.getElem?_drop, Nat.add_zero] at this
        simpa using this
      have h4 : (wd i).length ≤ 4 := by
        have : ∀ i, i < 4 → (wd i).length ≤ 4 := by decide
        exact this i hi
      have e1 : nxW i j = .own (10 * i + j) := by
        unfold nxW wat
        rw [hx]
        rfl
      have e2 : (wd i).drop (j + 1) = W := by
        have := congrArg (List.drop 1) e
        rw [List.drop_drop] at this
        exact this
      have hst : ∀ c, (auD lg).st (10 * i + j) c = if c = x then some (nxW i (j + 1)) else none := fun c => by
        show (if 10 * i + j = 0 then _ else match wat ((10 * i + j) / 10) ((10 * i + j) % 10) with
          | none => none
          | some x => if c = x then some (nxW ((10 * i + j) / 10) ((10 * i + j) % 10 + 1)) else none) = _
        rw [if_neg (by omega), show (10 * i + j) / 10 = i by omega, show (10 * i + j) % 10 = j by omega]
        unfold wat
        rw [hx]
      rw [e1, run_step hst s]
      cases s with
      | nil => rfl
      | cons c r =>
        dsimp only
        unfold cp
        by_cases hc : c = x
        · rw [if_pos hc, if_pos hc, ih (j + 1) (by omega) e2 (by rw [List.length_cons] at hl; omega) r]
          rw [List.length_cons]
          by_cases h : cp W r = W.length
          · rw [if_pos h, if_pos (by omega), sh_sh, List.drop_succ_cons]
          · rw [if_neg h, if_neg (by omega)]
            rfl
        · rw [if_neg hc, if_neg hc, if_neg (by rw [List.length_cons]; omega)]
  have h1 : 1 ≤ (wd i).length := by
    have : ∀ i, i < 4 → 1 ≤ (wd i).length := by decide
    exact this i hi
  exact go _ 1 (by decide) rfl (by rw [List.length_drop]; omega) s
theorem wI_lt {c i : Nat} (h : wI c = some i) : i < 4 ∧ (wd i).length = ((wd i).drop 1).length + 1 ∧ wd i = c :: (wd i).drop 1 := by
  unfold wI at h
  split at h
  · cases h
    subst c
    decide
  · split at h
    · cases h
      subst c
      decide
    · split at h
      · cases h
        subst c
        decide
      · split at h
        · cases h
          subst c
          decide
        · cases h
theorem st0 {lg : Bool} {c : Nat} (e : wI c = none) : (auD lg).st 0 c = none := by
  unfold auD
  dsimp only
  rw [if_pos rfl, e]
theorem st1 {lg : Bool} {c i : Nat} (e : wI c = some i) : (auD lg).st 0 c = some (nxW i 1) := by
  unfold auD
  dsimp only
  rw [if_pos rfl, e]
/-- a deed is read as the automaton goes -/
theorem run_deed (lg : Bool) (s : List Nat) : run (auD lg) (.own 0) s = (match deedS s with
    | .error k => (k, false)
    | .ok (_, k) => sh k (run (auD lg) (.lit []) (s.drop k))) := by
  cases s with
  | nil => rfl
  | cons c r =>
    unfold deedS
    dsimp only
    cases e : wI c with
    | none =>
      rw [run_none (show dl (auD lg) (.own 0) c = none from st0 e)]
    | some i =>
      obtain ⟨hi, hl, hw⟩ := wI_lt e
      rw [run_cons (show dl (auD lg) (.own 0) c = some (nxW i 1) from st1 e), run_word lg i hi r]
      dsimp only
      unfold rdW
      have ec : cp (wd i) (c :: r) = cp ((wd i).drop 1) r + 1 := by
        conv => lhs; rw [hw]
        exact if_pos rfl
      rw [ec, hl]
      by_cases h : cp ((wd i).drop 1) r = ((wd i).drop 1).length
      · rw [if_pos h, if_pos (by omega), List.drop_succ_cons]
        have h4 : at4 fZ = .lit fZ := rfl
        rw [← h4, run_form (auD lg) fZ _ rfl]
        cases e2 : formS fZ (r.drop ((wd i).drop 1).length) with
        | error j =>
          dsimp only [sh]
          rw [show j + ((wd i).drop 1).length + 1 = ((wd i).drop 1).length + 1 + j by omega]
        | ok p =>
          obtain ⟨ns, k⟩ := p
          dsimp only
          rw [sh_sh, sh_sh, List.drop_drop, show k + (((wd i).drop 1).length + 1) = ((wd i).drop 1).length + 1 + k by omega]
          rw [show (c :: r).drop (((wd i).drop 1).length + 1 + k) = r.drop (((wd i).drop 1).length + k) by
            rw [show ((wd i).drop 1).length + 1 + k = (((wd i).drop 1).length + k) + 1 by omega, List.drop_succ_cons]]
      · rw [if_neg h, if_neg (by omega)]
        rfl
theorem deedS_le {s : List Nat} {d : Nat × List Int} {k : Nat} (h : deedS s = .ok (d, k)) : k ≤ s.length ∧ 0 < k := by
  cases s with
  | nil => cases h
  | cons c r =>
    unfold deedS at h
    dsimp only at h
    cases e : wI c with
    | none =>
      rw [e] at h
      cases h
    | some i =>
      rw [e] at h
      dsimp only at h
      obtain ⟨hi, hl, hw⟩ := wI_lt e
      unfold rdW at h
      by_cases hc : cp (wd i) (c :: r) = (wd i).length
      · rw [if_pos hc] at h
        have hle := (cp_le (wd i) (c :: r)).1
        cases e2 : formS fZ ((c :: r).drop (wd i).length) with
        | error j =>
          rw [e2] at h
          cases h
        | ok p =>
          obtain ⟨ns, j⟩ := p
          rw [e2] at h
          cases h
          have := formS_le e2
          rw [List.length_drop] at this
          omega
      · rw [if_neg hc] at h
        cases h
theorem run_restD : ∀ (m : Nat) (s : List Nat), s.length < m → run (auD true) (.lit []) s = (match restD m s with
    | .error k => (k, false)
    | .ok _ => (s.length, true))
  | 0, s, h => absurd h (Nat.not_lt_zero _)
  | m + 1, [], _ => rfl
  | m + 1, c :: r, h => by
    unfold restD
    by_cases hc : c = 10
    · rw [run_cons (show dl (auD true) (.lit []) c = some (.own 0) from if_pos ⟨rfl, hc⟩), run_deed true r]
      rw [if_pos hc]
      cases e : deedS r with
      | error k =>
        dsimp only [sh]
        rw [Nat.add_comm]
      | ok p =>
        obtain ⟨d, k⟩ := p
        have hk := deedS_le e
        have hl : (r.drop k).length < m := by
          rw [List.length_drop]
          rw [List.length_cons] at h
          omega
        dsimp only
        rw [run_restD m (r.drop k) hl]
        cases e2 : restD m (r.drop k) with
        | error j =>
          dsimp only [sh]
          rw [show j + k + 1 = 1 + k + j by omega]
        | ok l =>
          dsimp only [sh]
          rw [List.length_drop, List.length_cons, show r.length - k + k + 1 = r.length + 1 by omega]
    · rw [run_none (show dl (auD true) (.lit []) c = none from if_neg fun z => hc z.2)]
      rw [if_neg hc]
/-- a log -/
theorem run_log (s : List Nat) : run (auD true) (.own 0) s = (match logS s with
    | .error k => (k, false)
    | .ok _ => (s.length, true)) := by
  rw [run_deed true s]
  unfold logS
  cases e : deedS s with
  | error k => rfl
  | ok p =>
    obtain ⟨d, k⟩ := p
    have hk := deedS_le e
    dsimp only
    rw [run_restD (s.length + 1) (s.drop k) (by rw [List.length_drop]; omega)]
    cases e2 : restD (s.length + 1) (s.drop k) with
    | error j =>
      dsimp only [sh]
      rw [Nat.add_comm]
    | ok l =>
      dsimp only [sh]
      rw [List.length_drop, show s.length - k + k = s.length by omega]
/-- a deed alone: what is read, or how far -/
def oneS (s : List Nat) : Except Nat (Nat × List Int) :=
  match deedS s with
  | .error k => .error k
  | .ok (d, k) => if k = s.length then .ok d else .error k
theorem run_one (s : List Nat) : run (auD false) (.own 0) s = (match oneS s with
    | .error k => (k, false)
    | .ok _ => (s.length, true)) := by
  rw [run_deed false s]
  unfold oneS
  cases e : deedS s with
  | error k => rfl
  | ok p =>
    obtain ⟨d, k⟩ := p
    have hk := deedS_le e
    dsimp only
    by_cases h : k = s.length
    · rw [if_pos h, h, List.drop_length]
      show sh s.length (0, true) = _
      unfold sh
      rw [Nat.zero_add]
    · rw [if_neg h]
      cases e2 : s.drop k with
      | nil =>
        have := congrArg List.length e2
        rw [List.length_drop, List.length_nil] at this
        omega
      | cons c r =>
        have e3 : dl (auD false) (.lit []) c = none := by
          show (if false = true ∧ c = 10 then some (St4.own 0) else none) = none
          rw [if_neg fun z => Bool.noConfusion z.1]
        rw [run_none e3]
        unfold sh
        rw [Nat.zero_add]
end RW4
/-! part V1 -/
/-! Texts, rows of data. -/
namespace TX
open PySem PySem.Spec PyProof.Rows L2 NT RW4
/-- an f-string's parts, as one reading -/
def tJn (ts : List TE) : TE := fun σ H Q => tJs ts Str.empty σ H fun out H1 => Q (.str out) H1
theorem pe_jn {X : Cx} {v1 v2 : Expr} {rest : List Expr} {ts : List TE} {pos : Pos} (h : PJ X (v1 :: v2 :: rest) ts) : PE X (.JoinedStr (v1 :: v2 :: rest) pos) (tJn ts) := pe_joined h
/-- {x}: an int -/
def tFi (te : TE) : TE := fun σ H Q => te σ H fun x H1 => ∃ i : Int, x = .int i ∧ i.natAbs < 10 ^ 60 ∧ Q (.str (SX.S (intL i))) H1
/-- {x}: a text -/
def tFs (te : TE) : TE := fun σ H Q => te σ H fun x H1 => ∃ y : List Nat, x = .str (SX.S y) ∧ y.length ≤ 100000 ∧ Q (.str (SX.S y)) H1
theorem log_ok {n : Int} (h1 : n.natAbs < 10 ^ 60) : n.natAbs.log2 < 1920 := by
  by_cases hz : n.natAbs = 0
  · rw [hz]
    decide
  · have : n.natAbs.log2 < 200 := (Nat.log2_lt hz).mpr (Nat.lt_of_lt_of_le h1 (by decide))
    omega
theorem pe_fi {X : Cx} {e : Expr} {te : TE} {pos : Pos} (he : PE X e te) : PE X (.FormattedValue e (-1) none pos) (tFi te) := by
  refine ⟨fun pins s σ H Q I h => ?_⟩
  refine wpAny_FormattedValue_plain (thn (he.run pins s σ H _ I h) fun v s1 hv => ?_)
  obtain ⟨x, H1, I1, r1, q⟩ := hv
  obtain ⟨i, rfl, hz, q⟩ := q
  obtain ⟨t, rfl⟩ := r1
  rw [← intS] at q
  exact wpAny_formatField_int (log_ok hz) ⟨.str (toString i), H1, I1.tok _, ⟨_, rfl⟩, q⟩
theorem pe_fs {X : Cx} {e : Expr} {te : TE} {pos : Pos} (he : PE X e te) : PE X (.FormattedValue e (-1) none pos) (tFs te) := by
  refine ⟨fun pins s σ H Q I h => ?_⟩
  refine wpAny_FormattedValue_plain (thn (he.run pins s σ H _ I h) fun v s1 hv => ?_)
  obtain ⟨x, H1, I1, r1, q⟩ := hv
  obtain ⟨y, rfl, hz, q⟩ := q
  obtain ⟨t, rfl⟩ := r1
  exact wpAny_formatField_str ⟨.str (SX.S y), H1, I1, ⟨t, rfl⟩, q⟩ ⟨.str (SX.S y), H1, I1.tok _, ⟨_, rfl⟩, q⟩ (by rw [S_len]; exact small_sz hz (by decide))
theorem strs_canLay : ∀ {ys : List (List Nat)}, (∀ y ∈ ys, ∀ c ∈ y, c < 0x110000) → PyData.canLayAll0 (ys.map fun y => PyData.str (SX.S y)) = true
  | [], _ => rfl
  | y :: ys, h => by
    have h1 : PyData.strOk (SX.S y) = true := by
      unfold PyData.strOk
      simp only [SX.S, List.all_toArray, List.all_eq_true, decide_eq_true_eq]
      exact h y List.mem_cons_self
    simp only [List.map_cons, PyData.canLayAll0, PyData.canLay0, h1, Bool.true_and]
    exact strs_canLay fun z hz => h z (List.mem_cons_of_mem _ hz)
theorem strs_depth : ∀ ys : List (List Nat), PyData.depthAll (ys.map fun y => PyData.str (SX.S y)) = 0
  | [] => rfl
  | y :: ys => by
    simp only [List.map_cons, PyData.depthAll, PyData.depth, strs_depth ys]
    rfl
theorem strs_shaped {ys : List (List Nat)} (h : ∀ y ∈ ys, ∀ c ∈ y, c < 0x110000) : SeqAt.shaped (.list (ys.map fun y => PyData.str (SX.S y))) = true := by
  unfold SeqAt.shaped
  simp only [PyData.canLay0, PyData.depth, strs_canLay h, strs_depth, Bool.true_and]
  rfl
theorem strs_dp {K : PySem.W.Frag} {H : Hp} : ∀ ys : List (List Nat), DpAll K H (ys.map fun y => V.str (SX.S y)) (ys.map fun y => PyData.str (SX.S y))
  | [] => .nil
  | y :: ys => .cons (.str _) (strs_dp ys)
theorem strs_eqv (ys : List (List Nat)) : PyData.eqv (.list (ys.map fun y => PyData.str (SX.S y))) (.list []) = decide (ys = []) := by
  cases ys with
  | nil => rfl
  | cons y ys => simp [PyData.eqv, PyData.eqvAll]
section
variable {X : Cx} {tg : Expr}
/-- over a list or a tuple -/
def iSeq (K : PySem.W.Frag) (tl : TE) : TI := fun σ H R => tl σ H fun x H1 => ∃ a, x = .ref a ∧ (((∃ xs, SqL K H1 a xs) ∧ R (Itl K a) H1) ∨ ((∃ xs, SqT K H1 a xs) ∧ R (Itt K a) H1))
theorem pi_seq {l : Expr} {tl : TE} (hl : PE X l tl) : PI X tg l (iSeq X.K tl) := by
  refine ⟨fun pins s σ H R I h => ?_⟩
  refine thn (hl.run pins s σ H _ I h) fun v s1 ⟨x, H1, I1, r1, q1⟩ => ?_
  obtain ⟨a, e, q1⟩ := q1
  subst e
  cases r1
  rcases q1 with ⟨⟨xs, hq⟩, q⟩ | ⟨⟨xs, hq⟩, q⟩
  · obtain ⟨its, rv, p, hz⟩ := I1.list hq
    refine wpAny_pyIter_list p.isList ?_
    refine ⟨s1.heap.objs.size, [s1.heap.objs.size], _, _, H1, rfl, I1.kept (t' := s1.toks) fun b o e => Heap.get?_push_of_some _ e, turn_list a _, ⟨_, Heap.get?_push_size _ rfl, rfl, rfl⟩, fun b hb => ?_, q⟩
    have e : b = s1.heap.objs.size := by simpa using hb
    subst e
    exact I1.fpOk (Nat.le_refl _) (I1.hok.fresh (Nat.le_refl _))
  · obtain ⟨its, rv, p, hz⟩ := I1.tuple hq
    refine wpAny_pyIter_tuple (show s1.heap.IsTuple a its.toArray from p) ?_
    refine ⟨s1.heap.objs.size, [s1.heap.objs.size], _, _, H1, rfl, I1.kept (t' := s1.toks) fun b o e => Heap.get?_push_of_some _ e, turn_tuple a _, ⟨_, Heap.get?_push_size _ rfl, rfl, rfl⟩, fun b hb => ?_, q⟩
    have e : b = s1.heap.objs.size := by simpa using hb
    subst e
    exact I1.fpOk (Nat.le_refl _) (I1.hok.fresh (Nat.le_refl _))
def cRi : List V → Hp → VK → Prop := fun xs H Q => ∃ i : Int, xs = [.int i] ∧ i.natAbs < 10 ^ 60 ∧ Q (.str (SX.S (intL i))) H
theorem call_ri : CallR X (.builtin "repr") cRi := by
  intro pins s σ H xs us Q I r h
  obtain ⟨i, rfl, hz, q⟩ := h
  rw [← intS] at q
  exact SkE.call_repr_int pins s σ H _ us Q I r ⟨i, rfl, log_ok hz, q⟩
def rS : R2 := fun x y H Q => ∃ a b : List Nat, x = .str (SX.S a) ∧ y = .str (SX.S b) ∧ a.length + b.length ≤ 1000000 ∧ Q (.str (SX.S (a ++ b))) H
theorem op_S : OpR X (binaryOp .Add) rS := by
  intro pins s σ H x y v u Q I rx ry h
  obtain ⟨a, b, rfl, rfl, hz, q⟩ := h
  rw [← SX.S_cat] at q
  exact op_add_str pins s σ H _ _ v u Q I rx ry ⟨_, _, rfl, rfl, by rw [S_len, S_len]; exact small_sz hz (by decide), q⟩
theorem lc_sq {K : PySem.W.Frag} {σ : L2.St} {H : Hp} {Q : VK} {a : Addr} {xs : List V} {g : TG} {tt : TT} {te tl : TE} {vs : List Nat} (hv : ∀ R : V → Hp → Prop, R (.ref a) H → tl σ H R) (ea : H a = some (.tup xs) ∨ H a = some (.lst xs))
    (Pv : Addr → Nat → Hp → Prop) (h0 : ∀ D, H D = none → Pv D 0 (upd H D (.lst []))) (hG : ∀ D i H', Pv D i H' → Same H H')
    (hs : ∀ D, H D = none → ∀ i x H', i < xs.length → xs[i]? = some x → Pv D i H' → g x (wipe σ vs) H' fun σ2 H2 => wipe σ2 vs = wipe σ vs ∧ tt σ2 H2 fun b H3 =>
      if b = true then te σ2 H3 fun y H4 => ∃ acc, H4 D = some (.lst acc) ∧ acc.length < sizeLine ∧ Pv D (i + 1) (upd H4 D (.lst (acc ++ [y]))) else Pv D (i + 1) H3)
    (hd : ∀ D H', H D = none → Pv D xs.length H' → Q (.ref D) H') : tLc (iSeq K tl) g tt te vs σ H Q := by
  refine hv _ ⟨a, rfl, ?_⟩
  rcases ea with ea | ea
  · refine .inr ⟨⟨xs, .inl (.inl ea)⟩, fun D hD => lc_it walk_tup (Pv D) (h0 D hD) (fun i H' _ p => .inl (.inl (hG D i H' p _ _ ea))) ?_ (fun H' p => hd D H' hD p)⟩
    rintro i x H1 H2 hi p ⟨rfl, hx⟩
    exact hs D hD i x _ hi hx p
  · refine .inl ⟨⟨xs, .inl (.inl ea)⟩, fun D hD => lc_it walk_list (Pv D) (h0 D hD) (fun i H' _ p => .inl (.inl (hG D i H' p _ _ ea))) ?_ (fun H' p => hd D H' hD p)⟩
    rintro i x H1 H2 hi p ⟨rfl, hx⟩
    exact hs D hD i x _ hi hx p
end
/-- a list or a tuple of these -/
def Sq (S : Addr → Prop) (H : Hp) (ds : List PyData) (v : V) : Prop := At S H (.tuple ds) v ∨ At S H (.list ds) v
theorem Sq.take {S : Addr → Prop} {H : Hp} {ds : List PyData} {v : V} (h : Sq S H ds v) : ∃ p xs, v = .ref p ∧ ¬ S p ∧ (H p = some (.tup xs) ∨ H p = some (.lst xs)) ∧ AtL S H ds xs := by
  rcases h with h | h
  · obtain ⟨p, xs, e, n, hp, ha⟩ := h.tup
    exact ⟨p, xs, e, n, .inl hp, ha⟩
  · obtain ⟨p, xs, e, n, hp, ha⟩ := h.lst
    exact ⟨p, xs, e, n, .inr hp, ha⟩
theorem intL_lenL {x : Nat} {n : Int} (h : okN x n) : (intL n).length ≤ lim x + 1 := by
  have h1 := h.1
  unfold intL
  split
  · have hl : (TL.numL n.toNat).length ≤ lim x := TL.numL_len (lim_pos x) (by omega)
    omega
  · have hl : (TL.numL (-n).toNat).length ≤ lim x := TL.numL_len (lim_pos x) (by omega)
    rw [List.length_cons]
    omega
theorem intL_len {x : Nat} {n : Int} (h : okN x n) (hz : lim x = 9 := by rfl) : (intL n).length ≤ 10 := by
  have := intL_lenL h
  omega
theorem intL_lt (n : Int) : ∀ c ∈ intL n, c < 0x110000 := by
  have q : ∀ m : Nat, ∀ c ∈ TL.numL m, c < 0x110000 := fun m c hc => by
    have z := numL_dg m c hc
    unfold dg at z
    simp only [Bool.and_eq_true, decide_eq_true_eq] at z
    omega
  intro c hc
  unfold intL at hc
  split at hc
  · exact q _ c hc
  · rcases List.mem_cons.mp hc with rfl | hc
    · decide
    · exact q _ c hc
theorem wF_lt : ∀ {f : List Nat} {ns : List Int}, (∀ c ∈ f, c < 0x110000) → ∀ c ∈ wF f ns, c < 0x110000
  | [], ns, _, c, hc => by
    unfold wF at hc
    cases hc
  | x :: fs, ns, hf, c, hc => by
    unfold wF at hc
    split at hc
    · cases ns with
      | nil => cases hc
      | cons n r =>
        rcases List.mem_append.mp hc with hc | hc
        · exact intL_lt n c hc
        · exact wF_lt (fun c hc => hf c (List.mem_cons_of_mem _ hc)) c hc
    · rcases List.mem_cons.mp hc with rfl | hc
      · exact hf _ List.mem_cons_self
      · exact wF_lt (fun c hc => hf c (List.mem_cons_of_mem _ hc)) c hc
theorem take_snoc {α β : Type} {l : List α} {i : Nat} {a : α} (h : l[i]? = some a) (g : α → β) : (l.take (i + 1)).map g = (l.take i).map g ++ [g a] := by
  rw [List.take_succ, h, List.map_append]
  rfl
theorem small_S {X : List Nat} (h : X.length ≤ 1000) : (SX.S X).length ≤ sizeLine := by
  rw [S_len]
  exact small_sz h (by decide)
abbrev dI (ns : List Int) : PyData := .list (ns.map .int)
theorem atl_ints {S : Addr → Prop} {H : Hp} : ∀ ns : List Int, AtL S H (ns.map .int) (ns.map V.int)
  | [] => atl_nil
  | n :: ns => atl_cons at_int (atl_ints ns)
theorem istx_str {K : PySem.W.Frag} {H : Hp} {x : Str} : IsTx K H (.str x) true := ⟨"str", .base (.str x), by decide +kernel⟩
def rLn (K : PySem.W.Frag) : List V → Hp → VK → Prop := fun xs H Q => ∃ p ys, xs = [.ref p] ∧ (SqL K H p ys ∨ SqT K H p ys) ∧ Q (.int ys.length) H
theorem call_ln {X : Cx} : CallR X (.builtin "len") (rLn X.K) := call_len_seq
def rIS : R2 := fun x y H Q => ∃ (c : Nat) (z : Str), x = .str ⟨#[c]⟩ ∧ y = .str z ∧ Q (.bl (decide (c ∈ z.cps.toList))) H
theorem op_IS {X : Cx} : OpR X (compareOp .In) rIS := op_in_sign
/-! ### deeds as data -/
theorem okI_Z {ns : List Int} (h : okI fZ ns) : ∃ x y, ns = [x, y] ∧ okN 90 x ∧ okN 90 y := by
  unfold okI at h
  rw [if_neg (by unfold isN; decide)] at h
  unfold okI at h
  rw [if_pos (.inr (.inr rfl))] at h
  obtain ⟨x, r, rfl, hx, h⟩ := h
  unfold okI at h
  rw [if_neg (by unfold isN; decide)] at h
  unfold okI at h
  rw [if_pos (.inr (.inr rfl))] at h
  obtain ⟨y, r, rfl, hy, h⟩ := h
  unfold okI at h
  subst h
  exact ⟨x, y, rfl, hx, hy⟩
theorem okZ_mk {x y : Int} (hx : x.natAbs < 10 ^ 60) (hy : y.natAbs < 10 ^ 60) : okI fZ [x, y] := by
  unfold okI
  rw [if_neg (by unfold isN; decide)]
  unfold okI
  rw [if_pos (.inr (.inr rfl))]
  refine ⟨x, _, rfl, ⟨hx, fun z => absurd z (by decide)⟩, ?_⟩
  unfold okI
  rw [if_neg (by unfold isN; decide)]
  unfold okI
  rw [if_pos (.inr (.inr rfl))]
  exact ⟨y, _, rfl, ⟨hy, fun z => absurd z (by decide)⟩, rfl⟩
theorem wF_Z (x y : Int) : wF fZ [x, y] = 32 :: (intL x ++ (44 :: intL y)) := by
  simp [wF, isN]
abbrev Dd := Nat × List Int
def okD (d : Dd) : Prop := d.1 < 4 ∧ okI fZ d.2
def dD (d : Dd) : PyData := .tuple [.str (SX.S (wd d.1)), .tuple (d.2.map .int)]
/-- a deed's text -/
def wD (d : Dd) : List Nat := wd d.1 ++ wF fZ d.2
theorem wd_len (i : Nat) : (wd i).length ≤ 4 := by
  unfold wd
  split <;> decide
theorem wd_lt (i : Nat) : ∀ c ∈ wd i, c < 0x110000 := by
  unfold wd
  split <;> decide
theorem wD_len {d : Dd} (h : okD d) : (wD d).length ≤ 130 := by
  obtain ⟨x, y, e, hx, hy⟩ := okI_Z h.2
  have l1 : (intL x).length ≤ 61 := intL_lenL hx
  have l2 : (intL y).length ≤ 61 := intL_lenL hy
  have l3 := wd_len d.1
  unfold wD
  rw [e, wF_Z]
  simp only [List.length_append, List.length_cons]
  omega
theorem wD_lt (d : Dd) : ∀ c ∈ wD d, c < 0x110000 := fun c hc => by
  unfold wD at hc
  rcases List.mem_append.mp hc with hc | hc
  · exact wd_lt _ c hc
  · exact wF_lt (by decide) c hc
end TX
/-! part V2 -/
/-! A deed written. -/
namespace TX
open PySem PySem.Spec PyProof.Rows L2 NT RW4
local macro_rules | `(tactic| walk_at "go") => `(tactic| simp only [L2.start, List.map_cons, List.map_nil, List.length_cons, List.length_nil, Nat.reduceSub, Nat.reduceAdd, List.replicate_succ, List.replicate_zero, List.cons_append, List.nil_append, List.append_nil,
  tSeq, tNext, tRet, tIfS, tTest, tAnd, tOr, tNot, tCB, tCall, tCons, tNil, tVar, tC, tOp, tUn, tAsg, gName, rI0, rI, CMul, CDiv, tDGet, sDPut, tBM0, tBM, tTup, tLst, tPar, tPar3, gTup, gNil, gCons, tIf, tAug, tRevL, tDisp, tPairs, tYes, wipe, tDrop, L2.tSl, tNotV, tAndV, tOrV, tB, rSlS, ipI, tNoPart, NdefX.startF, tOst, tMkO, rIxL, rIxT, rIxS, rAppend, rExtend, rPop, rSlL, rSetL, tPart, rEq, rNe, tFmt, tJn, tJs, tFi, tFs, gLst, tThen, tIf, rS, rRep, tThenZ, rIS, cRi, rSortedP, rLn, rPopAt, tCallS, ↓reduceIte, L2.gSub, ↓reduceIte,
  List.getElem?_cons_zero, List.getElem?_cons_succ, List.set_cons_zero, List.set_cons_succ, Option.some.injEq, V.int.injEq, V.str.injEq, V.ref.injEq, V.bl.injEq, exists_eq_left, exists_eq_left', exists_eq_right, exists_eq_right', exists_eq', true_and, and_true, decide_eq_true_eq, List.cons.injEq, reduceCtorEq, false_and, false_or, or_false, exists_false, exists_and_left, exists_and_right, and_assoc])
section
variable {w : World} {K : PySem.W.Frag} {mg : Str → Option Value} {base : Heap}
def spDT : Sp := fun vs H Q E => ∃ (v : V) (d : Dd), vs = [v] ∧ At No H (dD d) v ∧ okD d ∧ (∀ H', Same H H' → Q (.str (SX.S (wD d))) H')
theorem ok_dtext (T : Txt w K mg) : Ok PW w K mg base CX0 1 "deed_text" ["deed"] spDT := by
  obtain ⟨f, fd, D⟩ := T.d_deed_text
  refine ⟨f, fd, D.F.ok sc_deed_text (fun vs H Q E h => ?_) (fun cdv A outer s H vs Q E hr h => ?_), D.g, D.F.kp, D.b⟩
  · obtain ⟨v, d, rfl, _⟩ := h
    rfl
  · obtain ⟨v, ⟨i, ns⟩, rfl, hv, ho, h⟩ := h
    obtain ⟨x, y, rfl, hx, hy⟩ := okI_Z ho.2
    obtain ⟨p, xs, rfl, _, ep, h2⟩ := hv.tup
    obtain ⟨v1, r1, rfl, a1, h2⟩ := h2.cons
    obtain ⟨v2, r2, rfl, a2, h2⟩ := h2.cons
    obtain rfl := h2.nil
    obtain rfl := a1.str
    obtain ⟨q, xs, rfl, _, eq, h2⟩ := a2.tup
    obtain ⟨v1, r1, rfl, a1, h2⟩ := h2.cons
    obtain ⟨v2, r2, rfl, a2, h2⟩ := h2.cons
    obtain rfl := h2.nil
    obtain rfl := a1.int
    obtain rfl := a2.int
    have nd := sc_deed_text.nd
    refine ⟨_, pss_cons (ps_asg (pv 0) (pg_tup (by rfl) (pgs_cons (pg_name (i := 1) nd rfl (.inl rfl)) (pgs_cons (pg_tup (by rfl) (pgs_cons (pg_name (i := 2) nd rfl (.inl rfl)) (pgs_cons (pg_name (i := 3) nd rfl (.inl rfl)) pgs_nil))) pgs_nil))))
      (pss_one (ps_ret (pe_jn (PJ.cons (pe_fs (pv 1)) (PJ.cons pe_str (PJ.cons (pe_fi (pv 2)) (PJ.cons pe_str (PJ.cons (pe_fi (pv 3)) PJ.nil)))))))), ?_⟩
    walk_at "go"
    refine ⟨_, .inl (.inl ep), rfl, _, _, rfl, _, _, rfl, q, rfl, _, .inl (.inl eq), rfl, _, _, rfl, _, _, rfl, rfl, rfl, ?_⟩
    walk_at "go"
    have e0 : Str.empty = SX.S [] := rfl
    have e32 : (Str.ofString " ") = SX.S [32] := by decide +kernel
    have e44 : (Str.ofString ",") = SX.S [44] := by decide +kernel
    have l1 : (intL x).length ≤ 61 := intL_lenL hx
    have l2 : (intL y).length ≤ 61 := intL_lenL hy
    have l3 := wd_len i
    rw [e0, e32, e44]
    refine ⟨wd i, rfl, by omega, ?_⟩
    simp only [SX.S_cat]
    refine ⟨small_S ?_, small_S ?_, hx.1, small_S ?_, small_S ?_, hy.1, small_S ?_, ?_⟩
    case refine_6 =>
      have hh := h _ (fun _ _ z => z)
      unfold wD at hh
      rw [wF_Z] at hh
      simpa using hh
    all_goals (simp only [List.length_append, List.length_cons, List.length_nil]; omega)
end
end TX
/-! part V3 -/
/-! A deed at its place in a text. -/
namespace TX
open PySem PySem.Spec PyProof.Rows L2 NT RW4
local macro_rules | `(tactic| walk_at "go") => `(tactic| simp only [L2.start, List.map_cons, List.map_nil, List.length_cons, List.length_nil, Nat.reduceSub, Nat.reduceAdd, List.replicate_succ, List.replicate_zero, List.cons_append, List.nil_append, List.append_nil,
  tSeq, tNext, tRet, tIfS, tTest, tAnd, tOr, tNot, tCB, tCall, tCons, tNil, tVar, tC, tOp, tUn, tAsg, gName, rI0, rI, CMul, CDiv, tDGet, sDPut, tBM0, tBM, tTup, tLst, tPar, tPar3, gTup, gNil, gCons, tIf, tAug, tRevL, tDisp, tPairs, tYes, wipe, tDrop, L2.tSl, tNotV, tAndV, tOrV, tB, rSlS, ipI, tNoPart, NdefX.startF, tOst, tMkO, rIxL, rIxT, rIxS, rAppend, rExtend, rPop, rSlL, rSetL, tPart, rEq, rNe, tFmt, tJn, tJs, tFi, tFs, gLst, tThen, tIf, rS, rRep, tThenZ, rIS, cRi, rSortedP, rLn, rPopAt, tCallS, ↓reduceIte, L2.gSub, ↓reduceIte,
  List.getElem?_cons_zero, List.getElem?_cons_succ, List.set_cons_zero, List.set_cons_succ, Option.some.injEq, V.int.injEq, V.str.injEq, V.ref.injEq, V.bl.injEq, exists_eq_left, exists_eq_left', exists_eq_right, exists_eq_right', exists_eq', true_and, and_true, decide_eq_true_eq, List.cons.injEq, reduceCtorEq, false_and, false_or, or_false, exists_false, exists_and_left, exists_and_right, and_assoc])
section
variable {w : World} {K : PySem.W.Frag} {mg : Str → Option Value} {base : Heap}
theorem formZ_ok {s : List Nat} {ns : List Int} {k : Nat} (h : formS fZ s = .ok (ns, k)) : okI fZ ns := form_ok h
theorem deedS_ok {s : List Nat} {d : Dd} {k : Nat} (h : deedS s = .ok (d, k)) : okD d := by
  cases s with
  | nil => cases h
  | cons c r =>
    unfold deedS at h
    dsimp only at h
    cases e : wI c with
    | none =>
      rw [e] at h
      cases h
    | some i =>
      rw [e] at h
      dsimp only at h
      obtain ⟨hi, hl, hw⟩ := wI_lt e
      unfold rdW at h
      by_cases hc : cp (wd i) (c :: r) = (wd i).length
      · rw [if_pos hc] at h
        cases e2 : formS fZ ((c :: r).drop (wd i).length) with
        | error j =>
          rw [e2] at h
          cases h
        | ok p =>
          obtain ⟨ns, j⟩ := p
          rw [e2] at h
          cases h
          exact ⟨hi, form_ok e2⟩
      · rw [if_neg hc] at h
        cases h
/-- the first sign of a word -/
def w0 (i : Nat) : Nat := ((wd i)[0]?).getD 0
theorem wI_w0 {i : Nat} (hi : i < 4) : wI (w0 i) = some i := by
  have : ∀ i, i < 4 → wI (w0 i) = some i := by decide
  exact this i hi
theorem wI_of {c : Nat} (h : ∀ i, i < 4 → c ≠ w0 i) : wI c = none := by
  unfold wI
  rw [if_neg (show ¬ c = 111 from h 0 (by decide)), if_neg (show ¬ c = 119 from h 1 (by decide)), if_neg (show ¬ c = 115 from h 2 (by decide)), if_neg (show ¬ c = 116 from h 3 (by decide))]
theorem deedS_at {s : List Nat} {i : Nat} (hi : i < 4) (h : ∃ r, s = w0 i :: r) : deedS s = (match rdW (wd i) s with | .error j => .error j | .ok (ns, k) => .ok ((i, ns), k)) := by
  obtain ⟨r, rfl⟩ := h
  unfold deedS
  dsimp only
  rw [wI_w0 hi]
  first | done | (dsimp only; first | done | (cases rdW (wd i) (w0 i :: r) <;> rfl))
def spDA (C : Addr) : Sp := fun vs H Q E => ∃ (X : List Nat) (k : Nat), vs = [.str (SX.S X), .int (k : Nat)] ∧ X.length ≤ 100000 ∧ k ≤ X.length ∧
  (∀ d j, deedS (X.drop k) = .ok (d, j) → okD d → ∀ v H', Same H H' → At (fun b => H b ≠ none) H' (.tuple [dD d, .int ((k + j : Nat) : Int)]) v → Q v H') ∧ (∀ j, deedS (X.drop k) = .error j → Bad C E H ((k + j : Nat) : Int))
theorem ok_dat (T : Txt w K mg) {C R fI cc : Addr} (B : BadC K mg C R fI cc) : Ok PW w K mg base (L2.CX PW w) 7 "deed_at" ["text", "at"] (spDA C) := by
  obtain ⟨f, fd, D⟩ := T.d_deed_at
  obtain ⟨wA, hW, hWs⟩ := T.words
  refine ⟨f, fd, D.F.okX sc_deed_at (fun vs H Q E h => ?_) (fun cdv A outer s H vs Q E hr h => ?_), D.g, D.F.kp, D.b⟩
  · obtain ⟨X, k, rfl, _⟩ := h
    rfl
  · obtain ⟨X, k, rfl, hl, hk, h1, h2⟩ := h
    have nd := sc_deed_at.nd
    refine ⟨_, pss_cons (ps_for (passes_of rfl) rfl (pi_tup (pe_glob (v := .ref wA) rfl hW rfl)) (pg_name (i := 2) nd rfl (.inl rfl))
      (pss_one (ps_if (pt_cmpR op_eq (pe_slice sl_str (pv 0) (po_some (pv 1)) (po_some (pe_op op_add (pv 1) pe_int))) (pe_ix ix_str (pv 2) pe_int (fun _ _ => rfl)) (nomark _))
        (pss_cons (ps_asg (pe_d (E := E) (ok_nums T B) hr (passes_call (takes_of rfl rfl rfl rfl) (fun _ _ _ _ z => z)) (pa_cons (pv 0) (pa_cons (pe_d (E := E) (ok_pastW T B) hr (passes_call (takes_of rfl rfl rfl rfl) (fun _ _ _ _ z => z)) (pa_cons (pv 0) (pa_cons (pv 1) (pa_cons (pv 2) pa_nil)))) (pa_cons pe_str pa_nil))))
            (pg_tup (by rfl) (pgs_cons (pg_lst (by rfl) (pgs_cons (pg_name (i := 3) nd rfl (.inl rfl)) (pgs_cons (pg_name (i := 4) nd rfl (.inl rfl)) pgs_nil))) (pgs_cons (pg_name (i := 5) nd rfl (.inl rfl)) pgs_nil))))
          (pss_one (ps_ret (pe_tup (pa_cons (pe_tup (pa_cons (pv 2) (pa_cons (pe_tup (pa_cons (pv 3) (pa_cons (pv 4) pa_nil))) pa_nil))) (pa_cons (pv 5) pa_nil))))))
        pss_nil)))
      (pss_one (ps_bad (W := fun c d _ H => E c d H) rfl T B hr rfl (takes_of rfl rfl rfl rfl) (pv 1))), ?_⟩
    walk_at "go"
    have hX : X.length ≤ sizeLine := small_sz hl (by decide)
    have eW : ([.str "open", .str "wall", .str "set", .str "take"] : List V) = (List.range 4).map fun i => V.str (SX.S (wd i)) := by
      show ([.str "open", .str "wall", .str "set", .str "take"] : List V) = [V.str (SX.S (wd 0)), V.str (SX.S (wd 1)), V.str (SX.S (wd 2)), V.str (SX.S (wd 3))]
      rw [show (Str.ofString "open") = SX.S (wd 0) by decide +kernel, show (Str.ofString "wall") = SX.S (wd 1) by decide +kernel, show (Str.ofString "set") = SX.S (wd 2) by decide +kernel, show (Str.ofString "take") = SX.S (wd 3) by decide +kernel]
    rw [eW] at hWs
    refine ⟨_, rfl, ⟨_, hWs H⟩, for_it walk_tup (fun i σ H' => H' = H ∧ (∀ j, j < i → ∀ r, X.drop k ≠ w0 j :: r) ∧ ∃ v2, σ = [some (.str (SX.S X)), some (.int (k : Nat)), v2, none, none, none])
      ⟨rfl, fun j hj => absurd hj (Nat.not_lt_zero _), none, rfl⟩ (fun i σ H' _ p => by rw [p.1]; exact hWs H) ?_ ?_⟩
    · rintro i x σ H1 H2 hi ⟨rfl, hne, v2, rfl⟩ ⟨rfl, hx⟩
      have hi4 : i < 4 := by simpa using hi
      have ex : x = .str (SX.S (wd i)) := by
        rw [List.getElem?_map, List.getElem?_range hi4] at hx
        exact (Option.some.inj hx).symm
      subst ex
      walk_at "go"
      have c1 := cut_S (X := X) (i := k) (j := k + 1) (by omega)
      rw [Nat.add_sub_cancel_left] at c1
      have c1' : cutS (SX.S X) (some (k : Int)) (some ((k : Int) + 1)) = SX.S ((X.drop k).take 1) := c1
      have hw0 : atI (wd i) 0 = some (w0 i) := by
        have : ∀ i, i < 4 → atI (wd i) 0 = some (w0 i) := by decide +kernel
        exact this i hi4
      refine ⟨by rw [S_len]; exact hX, by rw [S_len]; have := wd_len i; exact small_sz (m := 4) this (by decide), w0 i, hw0, rfl, ?_⟩
      rw [c1']
      by_cases hq : ∃ r, X.drop k = w0 i :: r
      · have hd := deedS_at hi4 hq
        obtain ⟨r, er⟩ := hq
        rw [if_pos (by rw [er, List.take_succ_cons, List.take_zero])]
        have e90 : (Str.ofString " Z,Z") = SX.S fZ := by decide +kernel
        have hle := cp_le (wd i) (X.drop k)
        rw [List.length_drop] at hle
        refine ⟨X, wd i, k, rfl, hl, hk, fun hc => ?_, fun hc => ?_⟩
        · have hkw : k + (wd i).length ≤ X.length := by omega
          refine ⟨X, fZ, k + (wd i).length, by rw [e90], hl, hkw, by decide, fun ns j e p q H1 s1 np nq pq eq ep => ?_, fun j e => ?_⟩
          · have ed : deedS (X.drop k) = .ok ((i, ns), (wd i).length + j) := by
              rw [hd]
              unfold rdW
              rw [if_pos hc, List.drop_drop, e]
            have hok := deedS_ok ed
            obtain ⟨x, y, exy, hx, hy⟩ := okI_Z hok.2
            dsimp only at exy
            subst exy
            refine ⟨p, rfl, _, .inl (.inl ep), rfl, _, _, rfl, q, rfl, _, .inl (.inl eq), rfl, _, _, rfl, _, _, rfl, rfl, _, _, rfl, rfl, ?_⟩
            refine ⟨by decide, fun p1 hp1 => ⟨by decide, fun p2 hp2 => ⟨by decide, fun p3 hp3 => ?_⟩⟩⟩
            have sA := s1.trans (same_new (o := .tup [V.int x, V.int y]) hp1)
            have sB := sA.trans (same_new (o := .tup [V.str (SX.S (wd i)), V.ref p1]) hp2)
            have sC := sB.trans (same_new (o := .tup [V.ref p2, V.int ((k + (wd i).length + j : Nat) : Int)]) hp3)
            refine h1 _ _ ed hok _ _ sC ?_
            have e1 := same_new (o := .tup [V.ref p2, V.int ((k + (wd i).length + j : Nat) : Int)]) hp3 _ _ (same_new (o := .tup [V.str (SX.S (wd i)), V.ref p1]) hp2 _ _ (upd_same (H := H1) (a := p1) (o := .tup [V.int x, V.int y])))
            have e2 := same_new (o := .tup [V.ref p2, V.int ((k + (wd i).length + j : Nat) : Int)]) hp3 _ _ (upd_same (H := upd H1 p1 (.tup [V.int x, V.int y])) (a := p2) (o := .tup [V.str (SX.S (wd i)), V.ref p1]))
            have z1 : ¬ H2 p1 ≠ none := fun z => z (s1.free hp1)
            have z2 : ¬ H2 p2 ≠ none := fun z => z (sA.free hp2)
            have z3 : ¬ H2 p3 ≠ none := fun z => z (sB.free hp3)
            have ei : ((k + ((wd i).length + j) : Nat) : Int) = ((k + (wd i).length + j : Nat) : Int) := by rw [Nat.add_assoc]
            rw [ei]
            exact at_tup z3 upd_same (atl_cons (at_tup z2 e2 (atl_cons at_str (atl_cons (at_tup z1 e1 (atl_cons at_int (atl_cons at_int atl_nil))) atl_nil))) (atl_cons at_int atl_nil))
          · have ed : deedS (X.drop k) = .error ((wd i).length + j) := by
              rw [hd]
              unfold rdW
              rw [if_pos hc, List.drop_drop, e]
            have b := h2 _ ed
            rw [← Nat.add_assoc] at b
            exact b
        · have ed : deedS (X.drop k) = .error (cp (wd i) (X.drop k)) := by
            rw [hd]
            unfold rdW
            rw [if_neg (by omega)]
          exact h2 _ ed
      · rw [if_neg (fun z => hq (by
          have z3 : (X.drop k).take 1 = [w0 i] := by
            have := congrArg Str.cps z
            simpa using this
          cases ed : X.drop k with
          | nil =>
            rw [ed] at z3
            cases z3
          | cons x y =>
            rw [ed, List.take_succ_cons] at z3
            cases z3
            exact ⟨y, rfl⟩))]
        intro j hj r
        by_cases e : j = i
        · subst e
          exact fun z => hq ⟨r, z⟩
        · exact hne j (by omega) r
    · rintro σ H1 ⟨rfl, hne, v2, rfl⟩
      walk_at "go"
      have e0 : deedS (X.drop k) = .error 0 := by
        cases e : X.drop k with
        | nil => rfl
        | cons c r =>
          unfold deedS
          dsimp only
          rw [wI_of fun i hi z => hne i (by simpa using hi) r (by rw [e, z])]
      exact mk_bad2 (h2 0 e0)
end
end TX
/-! part V4 -/
/-! Deeds and logs read. -/
namespace TX
open PySem PySem.Spec PyProof.Rows L2 NT RW4
local macro_rules | `(tactic| walk_at "go") => `(tactic| simp only [L2.start, List.map_cons, List.map_nil, List.length_cons, List.length_nil, Nat.reduceSub, Nat.reduceAdd, List.replicate_succ, List.replicate_zero, List.cons_append, List.nil_append, List.append_nil,
  tSeq, tNext, tRet, tIfS, tTest, tAnd, tOr, tNot, tCB, tCall, tCons, tNil, tVar, tC, tOp, tUn, tAsg, gName, rI0, rI, CMul, CDiv, tDGet, sDPut, tBM0, tBM, tTup, tLst, tPar, tPar3, gTup, gNil, gCons, tIf, tAug, tRevL, tDisp, tPairs, tYes, wipe, tDrop, L2.tSl, tNotV, tAndV, tOrV, tB, rSlS, ipI, tNoPart, NdefX.startF, tOst, tMkO, rIxL, rIxT, rIxS, rAppend, rExtend, rPop, rSlL, rSetL, tPart, rEq, rNe, tFmt, tJn, tJs, tFi, tFs, gLst, tThen, tIf, rS, rRep, tThenZ, rIS, cRi, rSortedP, rLn, rPopAt, tCallS, ↓reduceIte, L2.gSub, ↓reduceIte,
  List.getElem?_cons_zero, List.getElem?_cons_succ, List.set_cons_zero, List.set_cons_succ, Option.some.injEq, V.int.injEq, V.str.injEq, V.ref.injEq, V.bl.injEq, exists_eq_left, exists_eq_left', exists_eq_right, exists_eq_right', exists_eq', true_and, and_true, decide_eq_true_eq, List.cons.injEq, reduceCtorEq, false_and, false_or, or_false, exists_false, exists_and_left, exists_and_right, and_assoc])
theorem restD_fuel : ∀ {m n : Nat} {s : List Nat}, s.length < m → s.length < n → restD m s = restD n s
  | 0, _, _, h, _ => absurd h (Nat.not_lt_zero _)
  | _, 0, _, _, h => absurd h (Nat.not_lt_zero _)
  | m + 1, n + 1, [], _, _ => rfl
  | m + 1, n + 1, c :: r, h1, h2 => by
    unfold restD
    split
    · cases e : deedS r with
      | error k => rfl
      | ok p =>
        obtain ⟨ns, k⟩ := p
        dsimp only
        rw [List.length_cons] at h1 h2
        rw [restD_fuel (m := m) (n := n) (s := r.drop k) (by rw [List.length_drop]; omega) (by rw [List.length_drop]; omega)]
    · rfl
/-- behind some items: these, how far -/
def ContD (X : List Nat) (l : List Dd) (k : Nat) : Prop := k ≤ X.length ∧ (match restD ((X.drop k).length + 1) (X.drop k) with
  | .ok ms => logS X = .ok (l ++ ms)
  | .error j => logS X = .error (k + j))
theorem contD_end {X : List Nat} {l : List Dd} {k : Nat} (h : ContD X l k) (hk : X.length ≤ k) : logS X = .ok l := by
  have q := h.2
  rw [List.drop_of_length_le hk] at q
  have e : restD (([] : List Nat).length + 1) [] = .ok [] := rfl
  rw [e] at q
  dsimp only at q
  rw [q, List.append_nil]
theorem contD_go {X : List Nat} {l : List Dd} {k : Nat} (h : ContD X l k) (hk : k < X.length) :
    (litS 10 (X.drop k) = .error 0 ∧ logS X = .error k) ∨ (litS 10 (X.drop k) = .ok 1 ∧ (∀ j, deedS (X.drop (k + 1)) = .error j → logS X = .error (k + 1 + j)) ∧ ∀ ns j, deedS (X.drop (k + 1)) = .ok (ns, j) → ContD X (l ++ [ns]) (k + 1 + j)) := by
  have q := h.2
  have ed := drop_at hk
  rw [ed] at q
  have eu : restD ((X[k] :: X.drop (k + 1)).length + 1) (X[k] :: X.drop (k + 1)) = (if X[k] = 10 then
      match deedS (X.drop (k + 1)) with
      | .error k => .error (1 + k)
      | .ok (ns, j) => match restD ((X[k] :: X.drop (k + 1)).length) ((X.drop (k + 1)).drop j) with
        | .error i => .error (1 + j + i)
        | .ok l => .ok (ns :: l)
    else .error 0) := by
    conv => lhs; unfold restD
    first | done | rfl
  rw [eu] at q
  by_cases hc : X[k] = 10
  · rw [if_pos hc] at q
    refine .inr ⟨by rw [ed]; exact if_pos hc, fun j e => ?_, fun ns j e => ?_⟩
    · rw [e] at q
      dsimp only at q
      rw [q, Nat.add_assoc]
    · have hle := (deedS_le e).1
      rw [List.length_drop] at hle
      rw [e] at q
      dsimp only at q
      rw [List.drop_drop] at q
      refine ⟨by omega, ?_⟩
      rw [restD_fuel (n := (X[k] :: X.drop (k + 1)).length) (Nat.lt_succ_self _) (by rw [List.length_cons, List.length_drop, List.length_drop]; omega)]
      cases e2 : restD ((X[k] :: X.drop (k + 1)).length) (X.drop (k + 1 + j)) with
      | error i =>
        rw [e2] at q
        dsimp only at q ⊢
        rw [q]
        congr 1
        omega
      | ok ms =>
        rw [e2] at q
        dsimp only at q ⊢
        rw [q, List.append_assoc]
        rfl
  · rw [if_neg hc] at q
    dsimp only at q
    exact .inl ⟨by rw [ed]; exact if_neg hc, by rw [q]; rfl⟩
theorem log_start {X : List Nat} : (∀ j, deedS X = .error j → logS X = .error j) ∧ ∀ ns k, deedS X = .ok (ns, k) → ContD X [ns] k := by
  have eu : logS X = (match deedS X with
      | .error k => .error k
      | .ok (ns, k) => match restD (X.length + 1) (X.drop k) with
        | .error j => .error (k + j)
        | .ok l => .ok (ns :: l)) := by
    conv => lhs; unfold logS
    first | done | rfl
  constructor
  · intro j e
    rw [eu, e]
  · intro ns k e
    have hle := (deedS_le e).1
    refine ⟨hle, ?_⟩
    rw [eu, e]
    dsimp only
    rw [restD_fuel (n := X.length + 1) (Nat.lt_succ_self _) (by rw [List.length_drop]; omega)]
    cases e2 : restD (X.length + 1) (X.drop k) with
    | error i => rfl
    | ok ms => rfl
theorem logS_ok {s : List Nat} {l : List Dd} (h : logS s = .ok l) : (∀ d ∈ l, okD d) ∧ l.length ≤ s.length + 2 := by
  have go : ∀ (m : Nat) (s : List Nat) (l : List Dd), restD m s = .ok l → (∀ d ∈ l, okD d) ∧ l.length ≤ s.length := by
    intro m
    induction m with
    | zero =>
      intro s l h
      cases h
    | succ m ih =>
      intro s l h
      cases s with
      | nil =>
        cases h
        exact ⟨(fun d hd => nomatch hd), Nat.le_refl _⟩
      | cons c r =>
        unfold restD at h
        by_cases hc : c = 10
        · rw [if_pos hc] at h
          cases e : deedS r with
          | error j =>
            rw [e] at h
            cases h
          | ok p =>
            obtain ⟨d, k⟩ := p
            rw [e] at h
            dsimp only at h
            have hk := deedS_le e
            cases e2 : restD m (r.drop k) with
            | error j =>
              rw [e2] at h
              cases h
            | ok l2 =>
              rw [e2] at h
              cases h
              have ih2 := ih _ _ e2
              rw [List.length_drop] at ih2
              refine ⟨fun x hx => ?_, by rw [List.length_cons, List.length_cons]; omega⟩
              rcases List.mem_cons.mp hx with rfl | hx
              · exact deedS_ok e
              · exact ih2.1 x hx
        · rw [if_neg hc] at h
          cases h
  unfold logS at h
  cases e : deedS s with
  | error j =>
    rw [e] at h
    cases h
  | ok p =>
    obtain ⟨d, k⟩ := p
    rw [e] at h
    dsimp only at h
    cases e2 : restD (s.length + 1) (s.drop k) with
    | error j =>
      rw [e2] at h
      cases h
    | ok l2 =>
      rw [e2] at h
      cases h
      have ih2 := go _ _ _ e2
      rw [List.length_drop] at ih2
      refine ⟨fun x hx => ?_, by rw [List.length_cons]; omega⟩
      rcases List.mem_cons.mp hx with rfl | hx
      · exact deedS_ok e
      · exact ih2.1 x hx
section
variable {w : World} {K : PySem.W.Frag} {mg : Str → Option Value} {base : Heap}
def spRD (K : PySem.W.Frag) (C : Addr) : Sp := fun vs H Q E => ∃ (v : V), vs = [v] ∧
  ((IsTx K H v false ∧ Bad C E H 0) ∨ ∃ X : List Nat, v = .str (SX.S X) ∧ X.length ≤ 100000 ∧
    (∀ d, oneS X = .ok d → okD d → ∀ a H', Same H H' → At (fun b => H b ≠ none) H' (dD d) a → Q a H') ∧ (∀ j, oneS X = .error j → Bad C E H (j : Nat)))
theorem ok_rdeed (T : Txt w K mg) {C R fI cc : Addr} (B : BadC K mg C R fI cc) : Ok PW w K mg base (L2.CX PW w) 8 "read_deed" ["text"] (spRD K C) := by
  obtain ⟨f, fd, D⟩ := T.d_read_deed
  refine ⟨f, fd, D.F.okX sc_read_deed (fun vs H Q E h => ?_) (fun cdv A outer s H vs Q E hr h => ?_), D.g, D.F.kp, D.b⟩
  · obtain ⟨v, rfl, _⟩ := h
    rfl
  · obtain ⟨v, rfl, h⟩ := h
    have nd := sc_read_deed.nd
    refine ⟨_, pss_cons (ps_expr (pe_d (E := E) (ok_need T B) hr (passes_call (takes_of rfl rfl rfl rfl) (fun _ _ _ _ z => z)) (pa_cons (pv 0) pa_nil)))
      (pss_cons (ps_asg (pe_d (E := E) (ok_dat T B) hr (passes_call (takes_of rfl rfl rfl rfl) (fun _ _ _ _ z => z)) (pa_cons (pv 0) (pa_cons pe_int pa_nil)))
              (pg_tup (by rfl) (pgs_cons (pg_name (i := 1) nd rfl (.inl rfl)) (pgs_cons (pg_name (i := 2) nd rfl (.inl rfl)) pgs_nil))))
      (pss_cons (ps_expr (pe_d (E := E) (ok_pastEnd T B) hr (passes_call (takes_of rfl rfl rfl rfl) (fun _ _ _ _ z => z)) (pa_cons (pv 0) (pa_cons (pv 2) pa_nil))))
      (pss_one (ps_ret (pv 1))))), ?_⟩
    walk_at "go"
    rcases h with ⟨h1, h2⟩ | ⟨X, rfl, hl, h1, h2⟩
    · exact ⟨v, false, rfl, h1, (fun z => Bool.noConfusion z), fun _ => h2⟩
    · refine ⟨_, true, rfl, istx_str, fun _ => ⟨X, 0, rfl, hl, Nat.zero_le _, fun d j e ok v H1 s1 ha => ?_, fun j e => ?_⟩, (fun z => Bool.noConfusion z)⟩
      · rw [List.drop_zero] at e
        obtain ⟨p, xs, rfl, _, ep, h3⟩ := ha.tup
        obtain ⟨v1, r1, rfl, a1, h3⟩ := h3.cons
        obtain ⟨v2, r2, rfl, a2, h3⟩ := h3.cons
        obtain rfl := h3.nil
        obtain rfl := a2.int
        have hj := (deedS_le e).1
        refine ⟨p, rfl, _, .inl (.inl ep), rfl, _, _, rfl, _, _, rfl, rfl, X, j, by rw [Nat.zero_add], hl, fun hle => ?_, fun hlt => ?_⟩
        · exact h1 d (by unfold oneS; rw [e]; dsimp only; rw [if_pos (by omega)]) ok _ _ s1 a1
        · exact (h2 j (by unfold oneS; rw [e]; dsimp only; rw [if_neg (by omega)])).of s1
      · rw [List.drop_zero] at e
        rw [Nat.zero_add]
        exact h2 j (by unfold oneS; rw [e])
def spRL (K : PySem.W.Frag) (C : Addr) : Sp := fun vs H Q E => ∃ (v : V), vs = [v] ∧
  ((IsTx K H v false ∧ Bad C E H 0) ∨ ∃ X : List Nat, v = .str (SX.S X) ∧ X.length ≤ 100000 ∧
    (∀ l, (if X = [] then .ok [] else logS X) = .ok l → (∀ d ∈ l, okD d) → l.length ≤ X.length + 2 → ∀ a H', Same H H' → At (fun b => H b ≠ none) H' (.tuple (l.map dD)) a → Q a H') ∧ (∀ j, X ≠ [] → logS X = .error j → Bad C E H (j : Nat)))
theorem ok_rlog (T : Txt w K mg) {C R fI cc : Addr} (B : BadC K mg C R fI cc) : Ok PW w K mg base (L2.CX PW w) 8 "read_log" ["text"] (spRL K C) := by
  obtain ⟨f, fd, D⟩ := T.d_read_log
  refine ⟨f, fd, D.F.okX sc_read_log (fun vs H Q E h => ?_) (fun cdv A outer s H vs Q E hr h => ?_), D.g, D.F.kp, D.b⟩
  · obtain ⟨v, rfl, _⟩ := h
    rfl
  · obtain ⟨v, rfl, h⟩ := h
    have nd := sc_read_log.nd
    refine ⟨_, pss_cons (ps_expr (pe_d (E := E) (ok_need T B) hr (passes_call (takes_of rfl rfl rfl rfl) (fun _ _ _ _ z => z)) (pa_cons (pv 0) pa_nil)))
      (pss_cons (ps_if (pt_cmpR op_eq (pv 0) pe_str (nomark _)) (pss_one (ps_ret (pe_tup pa_nil))) pss_nil)
      (pss_cons (ps_asg (pe_d (E := E) (ok_dat T B) hr (passes_call (takes_of rfl rfl rfl rfl) (fun _ _ _ _ z => z)) (pa_cons (pv 0) (pa_cons pe_int pa_nil)))
              (pg_tup (by rfl) (pgs_cons (pg_name (i := 1) nd rfl (.inl rfl)) (pgs_cons (pg_name (i := 2) nd rfl (.inl rfl)) pgs_nil))))
      (pss_cons (ps_set (i := 3) nd rfl (.inl rfl) (pe_lst (pa_cons (pv 1) pa_nil)))
      (pss_cons (ps_while (passes_of rfl) (pt_cmpR op_lt (pv 2) (pe_callB call_len_str (by rfl) T.z_len PySem.boot_len (pa_cons (pv 0) pa_nil)) (nomark _))
        (pss_cons (ps_asg (pe_d (E := E) (ok_dat T B) hr (passes_call (takes_of rfl rfl rfl rfl) (fun _ _ _ _ z => z)) (pa_cons (pv 0) (pa_cons (pe_d (E := E) (ok_past T B) hr (passes_call (takes_of rfl rfl rfl rfl) (fun _ _ _ _ z => z)) (pa_cons (pv 0) (pa_cons (pv 2) (pa_cons pe_str pa_nil)))) pa_nil)))
              (pg_tup (by rfl) (pgs_cons (pg_name (i := 1) nd rfl (.inl rfl)) (pgs_cons (pg_name (i := 2) nd rfl (.inl rfl)) pgs_nil))))
          (pss_one (ps_expr (pe_bm PySem.F.plainAttrs_list PySem.F.slot_list_append PySem.F.type_list_append mt_append (pv 3) (pa_cons (pv 1) pa_nil))))))
      (pss_one (ps_ret (pe_tupleOf (by rfl) T.z_tuple (pv 3)))))))), ?_⟩
    walk_at "go"
    rcases h with ⟨h1, h2⟩ | ⟨X, rfl, hl, h1, h2⟩
    · exact ⟨v, false, rfl, h1, (fun z => Bool.noConfusion z), fun _ => h2⟩
    · refine ⟨_, true, rfl, istx_str, fun _ => ⟨rfl, ?_⟩, (fun z => Bool.noConfusion z)⟩
      by_cases hq : X = []
      · rw [if_pos (by rw [hq]; decide +kernel)]
        refine ⟨by decide, fun p hp => h1 [] (if_pos hq) (fun d hd => nomatch hd) (Nat.zero_le _) _ _ (same_new hp) (at_tup (fun z => z hp) upd_same atl_nil)⟩
      · rw [if_neg (fun z => hq (by
          have z1 : SX.S X = SX.S [] := (V.str.inj z).trans (by decide +kernel)
          have z2 : (X.toArray : Array Nat) = [].toArray := congrArg Str.cps z1
          simpa using z2))]
        have st := log_start (X := X)
        have h1' : ∀ l, logS X = .ok l → ∀ a H', Same H H' → At (fun b => H b ≠ none) H' (.tuple (l.map dD)) a → Q a H' := fun l e => h1 l ((if_neg hq).trans e) (logS_ok e).1 (logS_ok e).2
        have h2' := fun j => h2 j hq
        refine ⟨X, 0, rfl, hl, Nat.zero_le _, fun d j e ok v H1 s1 ha => ?_, fun j e => ?_⟩
        · rw [List.drop_zero] at e
          obtain ⟨p, xs, rfl, np, ep, h3⟩ := ha.tup
          obtain ⟨v1, r1, rfl, a1, h3⟩ := h3.cons
          obtain ⟨v2, r2, rfl, a2, h3⟩ := h3.cons
          obtain rfl := h3.nil
          obtain rfl := a2.int
          refine ⟨p, rfl, _, .inl (.inl ep), rfl, _, _, rfl, _, _, rfl, rfl, by decide, fun p4 hp4 => ?_⟩
          have hH4 : H p4 = none := s1.free hp4
          refine while_m (fun m σ H' => ∃ l k vs v2, m = X.length - k ∧ Same H H' ∧ ContD X l k ∧ l.length ≤ k + 1 ∧ H' p4 = some (.lst vs) ∧ AtL (fun b => H b ≠ none ∨ b = p4) H' (l.map dD) vs ∧ σ = [some (.str (SX.S X)), v2, some (.int (k : Nat)), some (.ref p4)])
            (fun σ H' => ∃ l vs v2 k, Same H H' ∧ logS X = .ok l ∧ H' p4 = some (.lst vs) ∧ AtL (fun b => H b ≠ none ∨ b = p4) H' (l.map dD) vs ∧ σ = [some (.str (SX.S X)), v2, some (.int (k : Nat)), some (.ref p4)]) ?_ ?_ ?_
          · refine ⟨_, [d], j, _, _, rfl, s1.trans (same_new hp4), st.2 _ _ e, Nat.le_add_left 1 j, upd_same, atl_cons ((a1.off fun b o hb z => z.elim id fun z => by rw [z, hp4] at hb; cases hb).kp (Kp.upd_new hp4)) atl_nil, by rw [Nat.zero_add]⟩
          · rintro σ H2 ⟨l, vs, v2, k, s2, hk, e4, hv, rfl⟩
            walk_at "go"
            refine .inl ⟨p4, vs, rfl, .inl (.inl e4), fun q hq2 => ?_⟩
            exact h1' l hk _ _ (s2.trans (same_new hq2)) (at_tup (fun z => z (s2.free hq2)) upd_same ((hv.off fun b o _ z => .inl z).kp (Kp.upd_new hq2)))
          · rintro nx hnx m σ H2 ⟨l, k, vs, v2, rfl, s2, hk, hll, e4, hv, rfl⟩
            walk_at "go"
            refine ⟨(by rw [S_len]; exact small_sz hl (by decide)), ?_⟩
            rw [S_len]
            by_cases hlt : k < X.length
            · rw [if_pos (by omega)]
              refine ⟨_, fun _ _ z => z, X, k, 10, by rw [show (Str.ofString "\n") = SX.S [10] by decide +kernel], hl, hk.1, fun j1 ej => ?_, fun j1 ej => ?_⟩
              · rcases contD_go hk hlt with ⟨g, _⟩ | ⟨g, g1, g2⟩
                · rw [g] at ej
                  cases ej
                · rw [g] at ej
                  cases ej
                  refine ⟨X, k + 1, rfl, hl, hlt, fun d j e ok v H3 s3 ha3 => ?_, fun j e => (h2' _ (g1 j e)).of s2⟩
                  have c2 := g2 d j e
                  obtain ⟨p5, xs, rfl, np5, ep5, h3⟩ := ha3.tup
                  obtain ⟨v1, r1, rfl, a1, h3⟩ := h3.cons
                  obtain ⟨v2, r2, rfl, a2, h3⟩ := h3.cons
                  obtain rfl := h3.nil
                  obtain rfl := a2.int
                  have e43 : H3 p4 = some (.lst vs) := s3 _ _ e4
                  refine ⟨p5, rfl, _, .inl (.inl ep5), rfl, _, _, rfl, _, _, rfl, rfl, .inl ⟨rfl, _, .inl (.inl e43)⟩, _, e43, ?_, X.length - (k + 1 + j), by omega, l ++ [d], k + 1 + j, rfl, fun b o hb => ?_, c2, ?_, _, upd_same, ?_, _, rfl⟩
                  · rw [hv.length, List.length_map]
                    exact small_lt (m := 100001) (by omega) (by decide)
                  · rw [upd_ne (ne_of_none hb hH4)]
                    exact s3 _ _ (s2 _ _ hb)
                  · rw [List.length_append]
                    exact Nat.le_trans (Nat.add_le_add_right hll 1) (by omega)
                  · rw [List.map_append]
                    exact (hv.kp ((Kp.of_same s3).trans (Kp.upd_in (.inr rfl)))).snoc ((a1.off fun b o hb z => z.elim (fun z q => z (s2.free q)) (fun z => by rw [z]; exact fun z2 => by rw [e4] at z2; cases z2)).kp (Kp.upd_in (.inr rfl)))
              · rcases contD_go hk hlt with ⟨g, g1⟩ | ⟨g, _⟩
                · rw [g] at ej
                  cases ej
                  exact (h2' _ g1).of s2
                · rw [g] at ej
                  cases ej
            · rw [if_neg (by omega)]
              exact hnx _ _ ⟨l, vs, v2, k, s2, contD_end hk (by omega), e4, hv, rfl⟩
        · rw [List.drop_zero] at e
          rw [Nat.zero_add]
          exact h2' _ (st.1 j e)
end
end TX
/-! part V5 -/
/-! Logs written. -/
namespace TX
open PySem PySem.Spec PyProof.Rows L2 NT RW4
local macro_rules | `(tactic| walk_at "go") => `(tactic| simp only [L2.start, List.map_cons, List.map_nil, List.length_cons, List.length_nil, Nat.reduceSub, Nat.reduceAdd, List.replicate_succ, List.replicate_zero, List.cons_append, List.nil_append, List.append_nil,
  tSeq, tNext, tRet, tIfS, tTest, tAnd, tOr, tNot, tCB, tCall, tCons, tNil, tVar, tC, tOp, tUn, tAsg, gName, rI0, rI, CMul, CDiv, tDGet, sDPut, tBM0, tBM, tTup, tLst, tPar, tPar3, gTup, gNil, gCons, tIf, tAug, tRevL, tDisp, tPairs, tYes, wipe, tDrop, L2.tSl, tNotV, tAndV, tOrV, tB, rSlS, ipI, tNoPart, NdefX.startF, tOst, tMkO, rIxL, rIxT, rIxS, rAppend, rExtend, rPop, rSlL, rSetL, tPart, rEq, rNe, tFmt, tJn, tJs, tFi, tFs, gLst, tThen, tIf, rS, rRep, tThenZ, rIS, cRi, rSortedP, rLn, rPopAt, tCallS, ↓reduceIte, L2.gSub, ↓reduceIte,
  List.getElem?_cons_zero, List.getElem?_cons_succ, List.set_cons_zero, List.set_cons_succ, Option.some.injEq, V.int.injEq, V.str.injEq, V.ref.injEq, V.bl.injEq, exists_eq_left, exists_eq_left', exists_eq_right, exists_eq_right', exists_eq', true_and, and_true, decide_eq_true_eq, List.cons.injEq, reduceCtorEq, false_and, false_or, or_false, exists_false, exists_and_left, exists_and_right, and_assoc])
section
variable {w : World} {K : PySem.W.Frag} {mg : Str → Option Value} {base : Heap}
abbrev vS (y : List Nat) : V := .str (SX.S y)
def wL (l : List Dd) : List Nat := TL.joinL [10] (l.map wD)
theorem sumD {l : List Dd} (h : ∀ d ∈ l, okD d) : (l.map fun d => (wD d).length).sum ≤ 130 * l.length := by
  induction l with
  | nil => exact Nat.le_refl _
  | cons d l ih =>
    have a := wD_len (h d List.mem_cons_self)
    have b := ih fun z hz => h z (List.mem_cons_of_mem _ hz)
    rw [List.map_cons, List.sum_cons, List.length_cons]
    omega
theorem joinD {H H1 : Hp} {Q : VK} {l : List Dd} {D : Addr} (hz : ∀ d ∈ l, okD d) (hl : l.length ≤ 100002) (sm : Same H H1)
    (eD : H1 D = some (.lst (l.map fun d => vS (wD d)))) (h : ∀ H', Same H H' → Q (.str (SX.S (wL l))) H') :
    ∃ x, (SqL K H1 D (List.map V.str x) ∨ SqT K H1 D (List.map V.str x)) ∧ (List.map (fun x => x.length) x).sum + x.length * (Str.ofString "\n").length ≤ 16777216 ∧ Q (.str (Txt.join (Str.ofString "\n") x)) H1 := by
  have e10 : (Str.ofString "\n") = SX.S [10] := by decide +kernel
  refine ⟨(l.map wD).map SX.S, .inl (.inl (.inl ?_)), ?_, ?_⟩
  · rw [eD, List.map_map, List.map_map]
    rfl
  · have q := sumD hz
    rw [List.map_map, e10, List.length_map, List.length_map, S_len, List.map_map]
    show (List.map (fun d => (SX.S (wD d)).length) l).sum + l.length * 1 ≤ 16777216
    simp only [S_len]
    omega
  · rw [e10, SX.join_S]
    exact h _ sm
theorem lineD_step {H H2 : Hp} {l : List Dd} {i : Nat} {d : Dd} {D : Addr} {z : Str} (hz : z = SX.S (wD d)) (hl : l.length ≤ 100002) (hli : l[i]? = some d) (sm : Same H H2) (hD : H D = none)
    (eD : H2 D = some (.lst ((l.take i).map fun d => vS (wD d)))) :
    ∃ acc, H2 D = some (.lst acc) ∧ acc.length < sizeLine ∧ Same H (upd H2 D (.lst (acc ++ [.str z]))) ∧ upd H2 D (.lst (acc ++ [.str z])) D = some (.lst ((l.take (i + 1)).map fun d => vS (wD d))) := by
  refine ⟨_, eD, ?_, fun b o hb => ?_, ?_⟩
  · rw [List.length_map, List.length_take]
    exact small_lt (m := 100002) (by omega) (by decide)
  · rw [upd_ne (ne_of_none hb hD)]
    exact sm _ _ hb
  · rw [upd_same, take_snoc hli, hz]
def spLT : Sp := fun vs H Q E => ∃ (v : V) (l : List Dd), vs = [v] ∧ At No H (.tuple (l.map dD)) v ∧ l.length ≤ 100002 ∧ (∀ d ∈ l, okD d) ∧ (∀ H', Same H H' → Q (.str (SX.S (wL l))) H')
theorem ok_ltext (T : Txt w K mg) : Ok PW w K mg base CX0 2 "log_text" ["deeds"] spLT := by
  obtain ⟨f, fd, D⟩ := T.d_log_text
  refine ⟨f, fd, D.F.ok sc_log_text (fun vs H Q E h => ?_) (fun cdv A outer s H vs Q E hr h => ?_), D.g, D.F.kp, D.b⟩
  · obtain ⟨v, l, rfl, _⟩ := h
    rfl
  · obtain ⟨v, l, rfl, hv, hl, hok, h⟩ := h
    obtain ⟨a, xs, rfl, _, ea, hxs⟩ := hv.tup
    have nd := sc_log_text.nd
    refine ⟨_, pss_one (ps_ret (pe_bm PySem.F.plainAttrs_str PySem.F.slot_str_join PySem.F.type_str_join mt_join pe_str (pa_cons
        (pe_lc (own := [("deed", 1)]) (g := gName 1) (tt := tYes) rfl nd (pi_tup (pv 0)) (blkOk_by (N := n_log_text) (sc := defScope s_log_text) (by decide +kernel))
          (fun _ _ _ _ _ => pg_name (i := 1) nd rfl (.inl rfl)) (fun _ _ _ _ _ => pts_nil)
          (fun _ _ _ _ _ => pe_d (ok_dtext T) hr pass0 (pa_cons (pv 1) pa_nil))) pa_nil))), ?_⟩
    walk_at "go"
    refine ⟨rfl, _, rfl, a, rfl, ⟨xs, .inl (.inl ea)⟩, fun D hD => lc_it walk_tup (fun i H' => Same H H' ∧ H' D = some (.lst ((l.take i).map fun d => vS (wD d)))) ⟨same_new hD, upd_same⟩ (fun i H' _ ⟨sm, _⟩ => .inl (.inl (sm _ _ ea))) ?_ ?_⟩
    · rintro i x H1 H2 hi ⟨sm, eD⟩ ⟨rfl, hx⟩
      have hil : i < l.length := by
        have := hxs.length
        rw [List.length_map] at this
        omega
      obtain ⟨v, hv2, hat⟩ := hxs.get (i := i) (d := dD l[i]) (by rw [List.getElem?_map, List.getElem?_eq_getElem hil]; rfl)
      rw [hv2] at hx
      cases hx
      walk_at "go"
      exact ⟨_, l[i], rfl, hat.kp (Kp.of_same sm), hok _ (List.getElem_mem hil), fun H3 s3 => lineD_step rfl hl (List.getElem?_eq_getElem hil) (sm.trans s3) hD (s3 _ _ eD)⟩
    · rintro H1 ⟨sm, eD⟩
      rw [hxs.length, List.length_map, List.take_length] at eD
      exact ⟨D, rfl, joinD hok hl sm eD h⟩
theorem ok_dline (T : Txt w K mg) : Ok PW w K mg base CX0 1 "_law_deed_line" ["deed"] spDT := by
  obtain ⟨f, fd, D⟩ := T.d_L_deed_line
  refine ⟨f, fd, D.F.ok sc_L_deed_line (fun vs H Q E h => ?_) (fun cdv A outer s H vs Q E hr h => ?_), D.g, D.F.kp, D.b⟩
  · obtain ⟨v, d, rfl, _⟩ := h
    rfl
  · obtain ⟨v, ⟨i, ns⟩, rfl, hv, ho, h⟩ := h
    obtain ⟨x, y, rfl, hx, hy⟩ := okI_Z ho.2
    obtain ⟨p, xs, rfl, _, ep, h2⟩ := hv.tup
    obtain ⟨v1, r1, rfl, a1, h2⟩ := h2.cons
    obtain ⟨v2, r2, rfl, a2, h2⟩ := h2.cons
    obtain rfl := h2.nil
    obtain rfl := a1.str
    obtain ⟨q, xs, rfl, _, eq, h2⟩ := a2.tup
    obtain ⟨v1, r1, rfl, a1, h2⟩ := h2.cons
    obtain ⟨v2, r2, rfl, a2, h2⟩ := h2.cons
    obtain rfl := h2.nil
    obtain rfl := a1.int
    obtain rfl := a2.int
    have nd := sc_L_deed_line.nd
    refine ⟨_, pss_one (ps_ret (pe_op op_S (pe_op op_S (pe_op op_S (pe_op op_S (pe_ix ix_tup (pv 0) pe_int (fun _ _ => rfl)) pe_str)
      (pe_callB call_ri (by rfl) T.z_repr (by decide +kernel) (pa_cons (pe_ix ix_tup (pe_ix ix_tup (pv 0) pe_int (fun _ _ => rfl)) pe_int (fun _ _ => rfl)) pa_nil))) pe_str)
      (pe_callB call_ri (by rfl) T.z_repr (by decide +kernel) (pa_cons (pe_ix ix_tup (pe_ix ix_tup (pv 0) pe_int (fun _ _ => rfl)) pe_int (fun _ _ => rfl)) pa_nil)))), ?_⟩
    walk_at "go"
    have e32 : (Str.ofString " ") = SX.S [32] := by decide +kernel
    have e44 : (Str.ofString ",") = SX.S [44] := by decide +kernel
    have l1 : (intL x).length ≤ 61 := intL_lenL hx
    have l2 : (intL y).length ≤ 61 := intL_lenL hy
    have l3 := wd_len i
    have ep' : SqT K H p [.str (SX.S (wd i)), .ref q] := .inl (.inl ep)
    have eq' : SqT K H q [.int x, .int y] := .inl (.inl eq)
    have hh := h _ (fun _ _ z => z)
    have ew : wD (i, [x, y]) = wd i ++ [32] ++ intL x ++ [44] ++ intL y := by
      unfold wD
      rw [wF_Z]
      simp
    rw [ew] at hh
    refine ⟨_, ep', _, atI_nat (j := 0) rfl, _, rfl, [32], e32, ?_, _, ep', _, atI_nat (j := 1) rfl, q, rfl, _, eq', _, atI_nat (j := 0) rfl, _, rfl, hx.1, _, rfl, _, rfl, ?_, _, rfl, [44], e44, ?_, _, ep', _, atI_nat (j := 1) rfl, q, rfl, _, eq', _, atI_nat (j := 1) rfl, _, rfl, hy.1, _, rfl, _, rfl, ?_, hh⟩
    all_goals (simp only [List.length_append, List.length_cons, List.length_nil]; omega)
def spLL : Sp := spLT
theorem ok_llines (T : Txt w K mg) : Ok PW w K mg base CX0 2 "_law_log_lines" ["deeds"] spLT := by
  obtain ⟨f, fd, D⟩ := T.d_L_log_lines
  refine ⟨f, fd, D.F.ok sc_L_log_lines (fun vs H Q E h => ?_) (fun cdv A outer s H vs Q E hr h => ?_), D.g, D.F.kp, D.b⟩
  · obtain ⟨v, l, rfl, _⟩ := h
    rfl
  · obtain ⟨v, l, rfl, hv, hl, hok, h⟩ := h
    obtain ⟨a, xs, rfl, _, ea, hxs⟩ := hv.tup
    have nd := sc_L_log_lines.nd
    refine ⟨_, pss_one (ps_ret (pe_bm PySem.F.plainAttrs_str PySem.F.slot_str_join PySem.F.type_str_join mt_join pe_str (pa_cons
        (pe_lc (own := [("deed", 1)]) (g := gName 1) (tt := tYes) rfl nd (pi_tup (pv 0)) (blkOk_by (N := n_L_log_lines) (sc := defScope s_L_log_lines) (by decide +kernel))
          (fun _ _ _ _ _ => pg_name (i := 1) nd rfl (.inl rfl)) (fun _ _ _ _ _ => pts_nil)
          (fun _ _ _ _ _ => pe_d (ok_dline T) hr pass0 (pa_cons (pv 1) pa_nil))) pa_nil))), ?_⟩
    walk_at "go"
    refine ⟨rfl, _, rfl, a, rfl, ⟨xs, .inl (.inl ea)⟩, fun D hD => lc_it walk_tup (fun i H' => Same H H' ∧ H' D = some (.lst ((l.take i).map fun d => vS (wD d)))) ⟨same_new hD, upd_same⟩ (fun i H' _ ⟨sm, _⟩ => .inl (.inl (sm _ _ ea))) ?_ ?_⟩
    · rintro i x H1 H2 hi ⟨sm, eD⟩ ⟨rfl, hx⟩
      have hil : i < l.length := by
        have := hxs.length
        rw [List.length_map] at this
        omega
      obtain ⟨v, hv2, hat⟩ := hxs.get (i := i) (d := dD l[i]) (by rw [List.getElem?_map, List.getElem?_eq_getElem hil]; rfl)
      rw [hv2] at hx
      cases hx
      walk_at "go"
      exact ⟨_, l[i], rfl, hat.kp (Kp.of_same sm), hok _ (List.getElem_mem hil), fun H3 s3 => lineD_step rfl hl (List.getElem?_eq_getElem hil) (sm.trans s3) hD (s3 _ _ eD)⟩
    · rintro H1 ⟨sm, eD⟩
      rw [hxs.length, List.length_map, List.take_length] at eD
      exact ⟨D, rfl, joinD hok hl sm eD h⟩
end
end TX
/-! part V6 -/
/-! What is written is read; told deeds may be shown. -/
namespace TX
open PySem PySem.Spec PyProof.Rows L2 NT RW4
theorem cp_self : ∀ (W s : List Nat), cp W (W ++ s) = W.length
  | [], s => by cases s <;> rfl
  | a :: W, s => by
    show (if a = a then cp W (W ++ s) + 1 else 0) = _
    rw [if_pos rfl, cp_self W s]
    rfl
theorem cp_all : ∀ (W s : List Nat), cp W s = W.length → s = W ++ s.drop W.length
  | [], s, _ => rfl
  | a :: W, [], h => by
    have h' : 0 = W.length + 1 := h
    omega
  | a :: W, c :: r, h => by
    unfold cp at h
    by_cases e : c = a
    · rw [if_pos e, List.length_cons] at h
      have ih := cp_all W r (by omega)
      rw [e, List.length_cons, List.drop_succ_cons, List.cons_append, ← ih]
    · rw [if_neg e, List.length_cons] at h
      omega
/-- a deed read is the deed written -/
theorem deed_back {s : List Nat} {d : Dd} {k : Nat} (h : deedS s = .ok (d, k)) : wD d = s.take k := by
  cases s with
  | nil => cases h
  | cons c r =>
    unfold deedS at h
    dsimp only at h
    cases e : wI c with
    | none =>
      rw [e] at h
      cases h
    | some i =>
      rw [e] at h
      dsimp only at h
      unfold rdW at h
      by_cases hc : cp (wd i) (c :: r) = (wd i).length
      · rw [if_pos hc] at h
        cases e2 : formS fZ ((c :: r).drop (wd i).length) with
        | error j =>
          rw [e2] at h
          cases h
        | ok p =>
          obtain ⟨ns, j⟩ := p
          rw [e2] at h
          cases h
          have h1 := form_back e2
          have h2 := cp_all _ _ hc
          unfold wD
          dsimp only
          rw [h1]
          conv => rhs; rw [h2]
          rw [List.take_append, List.take_of_length_le (l := wd i) (by omega), Nat.add_sub_cancel_left]
      · rw [if_neg hc] at h
        cases h
theorem deed_fwd {d : Dd} {s : List Nat} (h : okD d) (hs : noDg s) : deedS (wD d ++ s) = .ok (d, (wD d).length) := by
  obtain ⟨i, ns⟩ := d
  obtain ⟨hi, ho⟩ := h
  dsimp only at hi ho
  have hw : ∃ r, wd i = w0 i :: r := by
    have : ∀ i, i < 4 → wd i = w0 i :: (wd i).drop 1 := by decide
    exact ⟨_, this i hi⟩
  obtain ⟨r, er⟩ := hw
  have e0 : wD (i, ns) ++ s = wd i ++ (wF fZ ns ++ s) := by
    unfold wD
    rw [List.append_assoc]
  rw [deedS_at hi ⟨r ++ (wF fZ ns ++ s), by rw [e0, er]; rfl⟩, e0]
  unfold rdW
  rw [if_pos (cp_self _ _), List.drop_left]
  rw [form_fwd rfl (by decide) ho hs]
  dsimp only
  unfold wD
  rw [List.length_append]
theorem one_fwd {d : Dd} (h : okD d) : oneS (wD d) = .ok d := by
  have e := deed_fwd (s := []) h (fun c r z => nomatch z)
  rw [List.append_nil] at e
  unfold oneS
  rw [e]
  dsimp only
  rw [if_pos rfl]
theorem one_back {s : List Nat} {d : Dd} (h : oneS s = .ok d) : wD d = s := by
  unfold oneS at h
  cases e : deedS s with
  | error j =>
    rw [e] at h
    cases h
  | ok p =>
    obtain ⟨d2, k⟩ := p
    rw [e] at h
    dsimp only at h
    by_cases hk : k = s.length
    · rw [if_pos hk] at h
      cases h
      rw [deed_back e, hk, List.take_length]
    · rw [if_neg hk] at h
      cases h
/-- lines behind the first one -/
def wN : List Dd → List Nat
  | [] => []
  | d :: l => 10 :: (wD d ++ wN l)
theorem wL_cons (d : Dd) : ∀ l : List Dd, wL (d :: l) = wD d ++ wN l
  | [] => by
    unfold wL wN
    simp [TL.joinL]
  | b :: l => by
    have ih := wL_cons b l
    unfold wL at ih ⊢
    simp only [List.map_cons] at ih ⊢
    unfold TL.joinL
    rw [ih]
    rfl
theorem wN_noDg (l : List Dd) : noDg (wN l) := fun c r e => by
  cases l with
  | nil => cases e
  | cons d l =>
    cases e
    rfl
theorem restD_fwd : ∀ {l : List Dd} {m : Nat}, (∀ d ∈ l, okD d) → (wN l).length < m → restD m (wN l) = .ok l
  | [], 0, _, h => absurd h (Nat.not_lt_zero _)
  | [], m + 1, _, _ => rfl
  | d :: l, 0, _, h => absurd h (Nat.not_lt_zero _)
  | d :: l, m + 1, hok, h => by
    have e := deed_fwd (s := wN l) (hok d List.mem_cons_self) (wN_noDg l)
    have hl : (wN l).length < m := by
      unfold wN at h
      rw [List.length_cons, List.length_append] at h
      omega
    show (if (10 : Nat) = 10 then _ else _) = _
    rw [if_pos rfl, e]
    dsimp only
    rw [List.drop_left, restD_fwd (fun x hx => hok x (List.mem_cons_of_mem _ hx)) hl]
theorem log_fwd {d : Dd} {l : List Dd} (h : ∀ x ∈ d :: l, okD x) : logS (wL (d :: l)) = .ok (d :: l) := by
  rw [wL_cons]
  unfold logS
  rw [deed_fwd (h d List.mem_cons_self) (wN_noDg l)]
  dsimp only
  rw [List.drop_left, restD_fwd (fun x hx => h x (List.mem_cons_of_mem _ hx)) (by rw [List.length_append]; omega)]
theorem restD_back : ∀ {m : Nat} {s : List Nat} {l : List Dd}, restD m s = .ok l → wN l = s
  | 0, s, l, h => by cases h
  | m + 1, [], l, h => by
    cases h
    rfl
  | m + 1, c :: r, l, h => by
    unfold restD at h
    by_cases hc : c = 10
    · rw [if_pos hc] at h
      cases e : deedS r with
      | error j =>
        rw [e] at h
        cases h
      | ok p =>
        obtain ⟨d, k⟩ := p
        rw [e] at h
        dsimp only at h
        cases e2 : restD m (r.drop k) with
        | error j =>
          rw [e2] at h
          cases h
        | ok l2 =>
          rw [e2] at h
          cases h
          unfold wN
          rw [restD_back e2, deed_back e, List.take_append_drop, hc]
    · rw [if_neg hc] at h
      cases h
theorem log_back {s : List Nat} {l : List Dd} (h : logS s = .ok l) : wL l = s := by
  unfold logS at h
  cases e : deedS s with
  | error j =>
    rw [e] at h
    cases h
  | ok p =>
    obtain ⟨d, k⟩ := p
    rw [e] at h
    dsimp only at h
    cases e2 : restD (s.length + 1) (s.drop k) with
    | error j =>
      rw [e2] at h
      cases h
    | ok l2 =>
      rw [e2] at h
      cases h
      rw [wL_cons, restD_back e2, deed_back e, List.take_append_drop]
theorem wL_len : ∀ {l : List Dd}, (∀ d ∈ l, okD d) → (wL l).length ≤ 131 * l.length
  | [], _ => Nat.le_refl _
  | d :: l, h => by
    have go : ∀ l : List Dd, (∀ d ∈ l, okD d) → (wN l).length ≤ 131 * l.length := fun l => by
      induction l with
      | nil => exact fun _ => Nat.le_refl _
      | cons d l ih =>
        intro h
        have h1 := wD_len (h d List.mem_cons_self)
        have h2 := ih fun b hb => h b (List.mem_cons_of_mem _ hb)
        unfold wN
        rw [List.length_cons, List.length_append, List.length_cons]
        omega
    have h1 := wD_len (h d List.mem_cons_self)
    have h2 := go l fun b hb => h b (List.mem_cons_of_mem _ hb)
    rw [wL_cons, List.length_append, List.length_cons]
    omega
theorem str_app (a b : Str) : (a ++ b).length = a.length + b.length := by
  show (a.cps ++ b.cps).size = _
  rw [Array.size_append]
  rfl
theorem listText_le (ts : List Str) : (listText ts).length ≤ piled ts + 2 := by
  have h : ∀ (ts : List Str), (textFrom 0 "[" ts).length ≤ 1 + piled ts := fun ts => by
    cases ts with
    | nil => decide
    | cons t ts =>
      show (textFrom 1 (("[" : Str) ++ ("" : Str) ++ t) ts).length ≤ _
      rw [textFrom_length_pos _ _ _ (by decide), str_app, piled_cons, show (("[" : Str) ++ ("" : Str)).length = 1 by decide +kernel]
      omega
  have q := h ts
  unfold listText
  rw [str_app, show (("]" : Str)).length = 1 by decide +kernel]
  omega
theorem tupleText_le (ts : List Str) : (tupleText ts).length ≤ piled ts + 3 := by
  have hj : (Str.join ", " ts).length ≤ piled ts := by
    by_cases h : ts = []
    · rw [h]
      decide
    · have := join_length_add ts h
      omega
  unfold tupleText
  rw [str_app, str_app, show (("(" : Str)).length = 1 by decide +kernel]
  split
  · rw [show ((",)" : Str)).length = 2 by decide +kernel]
    omega
  · rw [show ((")" : Str)).length = 1 by decide +kernel]
    omega
/-- data of so many signs at most -/
structure Sml (d : PyData) (n m : Nat) : Prop where
  sh : d.showable = true
  nd : d.hasDict = false
  dp : d.depth ≤ m
  ln : d.shown.length ≤ n
theorem sml_int {i : Int} (h : i.natAbs < 10 ^ 60) : Sml (.int i) 61 0 := by
  refine ⟨?_, rfl, Nat.le_refl _, ?_⟩
  · unfold PyData.showable
    exact decide_eq_true (log_ok h)
  · show (Str.ofString (toString i)).length ≤ 61
    rw [intS, S_len]
    exact intL_lenL (x := 90) ⟨h, fun z => absurd z (by decide)⟩
inductive SmlA : List PyData → Nat → Nat → Prop where
  | nil {m : Nat} : SmlA [] 0 m
  | cons {d : PyData} {ds : List PyData} {n k m : Nat} (h : Sml d n m) (r : SmlA ds k m) : SmlA (d :: ds) (n + 2 + k) m
theorem SmlA.all {ds : List PyData} {n m : Nat} (h : SmlA ds n m) : PyData.showableAll ds = true ∧ PyData.hasDictAll ds = false ∧ PyData.depthAll ds ≤ m ∧ piled (PyData.shownAll ds) ≤ n := by
  induction h with
  | nil => exact ⟨rfl, rfl, Nat.zero_le _, Nat.le_refl _⟩
  | cons h _ ih =>
    obtain ⟨a, b, c, d⟩ := ih
    refine ⟨?_, ?_, ?_, ?_⟩
    · simp only [PyData.showableAll, h.sh, a, Bool.and_self]
    · simp only [PyData.hasDictAll, h.nd, b, Bool.or_self]
    · simp only [PyData.depthAll]
      exact Nat.max_le.mpr ⟨h.dp, c⟩
    · simp only [PyData.shownAll]
      rw [piled_cons]
      have := h.ln
      omega
theorem sml_tup {ds : List PyData} {n m : Nat} (h : SmlA ds n m) : Sml (.tuple ds) (n + 3) (m + 1) := by
  obtain ⟨a, b, c, d⟩ := h.all
  refine ⟨?_, ?_, ?_, ?_⟩
  · simp only [PyData.showable, a]
  · simp only [PyData.hasDict, b]
  · simp only [PyData.depth]
    omega
  · simp only [PyData.shown]
    exact Nat.le_trans (tupleText_le _) (by omega)
theorem sml_lst {ds : List PyData} {n m : Nat} (h : SmlA ds n m) : Sml (.list ds) (n + 2) (m + 1) := by
  obtain ⟨a, b, c, d⟩ := h.all
  refine ⟨?_, ?_, ?_, ?_⟩
  · simp only [PyData.showable, a]
  · simp only [PyData.hasDict, b]
  · simp only [PyData.depth]
    omega
  · simp only [PyData.shown]
    exact Nat.le_trans (listText_le _) (by omega)
theorem Sml.mono {d : PyData} {n m n' m' : Nat} (h : Sml d n m) (hn : n ≤ n') (hm : m ≤ m') : Sml d n' m' := ⟨h.sh, h.nd, Nat.le_trans h.dp hm, Nat.le_trans h.ln hn⟩
theorem smla_map {α : Type} {f : α → PyData} {n m : Nat} : ∀ {l : List α}, (∀ a ∈ l, Sml (f a) n m) → SmlA (l.map f) ((n + 2) * l.length) m
  | [], _ => by
    rw [List.length_nil, Nat.mul_zero]
    exact .nil
  | a :: l, h => by
    rw [List.length_cons, show (n + 2) * (l.length + 1) = n + 2 + (n + 2) * l.length by rw [Nat.mul_succ]; omega]
    exact .cons (h a List.mem_cons_self) (smla_map fun b hb => h b (List.mem_cons_of_mem _ hb))
theorem sml_str {X : List Nat} (h : ∀ c ∈ X, c < 16 ^ 8) : Sml (.str (SX.S X)) (10 * X.length + 2) 0 := by
  refine ⟨by simp only [PyData.showable], by simp only [PyData.hasDict], by simp only [PyData.depth]; exact Nat.le_refl _, ?_⟩
  show (reprText (SX.S X)).length ≤ _
  have := StrLaws.reprText_len (SX.S X) h
  rw [S_len] at this
  exact this
theorem sml_D {d : Dd} (h : okD d) : Sml (dD d) 182 2 := by
  obtain ⟨i, ns⟩ := d
  obtain ⟨x, y, e, hx, hy⟩ := okI_Z h.2
  dsimp only at e
  subst e
  have h4 := wd_len i
  have hs : Sml (.str (SX.S (wd i))) 42 1 := (sml_str fun c hc => Nat.lt_trans (wd_lt i c hc) (by decide)).mono (by omega) (by decide)
  have hp : Sml (.tuple [.int x, .int y]) 129 1 := sml_tup (.cons (sml_int hx.1) (.cons (sml_int hy.1) .nil))
  exact (sml_tup (.cons hs (.cons hp .nil))).mono (by decide) (by decide)
theorem rp_deed {d : Dd} (h : okD d) : Rp (.list [dD d]) := by
  have q := sml_lst (.cons (sml_D h) .nil)
  exact ⟨q.sh, q.nd, Nat.le_trans q.dp (by decide), Nat.le_trans q.ln (by decide)⟩
theorem rp_log {l : List Dd} (h : ∀ a ∈ l, okD a) (hl : l.length ≤ 1000) : Rp (.list [.tuple (l.map dD)]) := by
  have q := sml_lst (.cons (sml_tup (smla_map (f := dD) fun a ha => sml_D (h a ha))) .nil)
  exact ⟨q.sh, q.nd, Nat.le_trans q.dp (by decide), Nat.le_trans q.ln (small_sz (m := 200000) (by omega) (by decide))⟩
theorem rp_int {i : Int} (h : i.natAbs < 10 ^ 60) : Rp (.int i) := by
  have q := sml_int h
  exact ⟨q.sh, q.nd, Nat.le_trans q.dp (by decide), Nat.le_trans q.ln (by decide)⟩
end TX
/-! part R1 -/
/-! Dicts whose keys are tuples: d.pop(k), dict(pairs). -/
namespace TX
open PySem PySem.Spec PyProof.Rows L2 NT
/-- d.pop(k), k there -/
def rTake : V → List V → Hp → VK → Prop := fun x xs H Q => ∃ (a b : Addr) (kvs : List (List L2.Key × V)) (k : List L2.Key) (v : V), x = .ref a ∧ xs = [.ref b] ∧ H a = some (.dT kvs) ∧ H b = some (.tup (k.map kV)) ∧ valV kvs k = some v ∧ Q v (upd H a (.dT (dropK kvs k)))
theorem mt_take {X : Cx} (hu : X.A.units + 1 < cLine) : MtR X "dict.pop" rTake := by
  intro pins s σ H x xs u us Q I rx rxs h
  obtain ⟨a, b, kvs, k, v, rfl, rfl, ea, eb, ev, q⟩ := h
  obtain ⟨ub, rfl, rb⟩ := vals1 rxs
  obtain rfl : u = Value.ref a := rx
  obtain rfl : ub = Value.ref b := rb
  obtain ⟨sz, na, ws, rel, D⟩ := dt_of I.hok ea
  have rv := rel.val k
  rw [ev] at rv
  obtain ⟨p, hp, rp⟩ : ∃ p, atKey ws k = some p ∧ RelV v p.2 := by
    cases e : atKey ws k with
    | none =>
      rw [e] at rv
      exact (show False from rv).elim
    | some p =>
      rw [e] at rv
      exact ⟨p, rfl, rv⟩
  refine call_meetsIn PySem.F.slot_dict_pop D.typeIs PySem.F.entry_dict_pop (PySem.F.args_dict_pop_2 _ _) (meetsH_dict_pop (tupleKind (mixKind X.prog X.w)) a b na [] (.inl rfl))
    ⟨tupleKind_room_in1 hu, k, ws, key_of I.hok eb, D, by rw [← Paired.length rel]; exact sz, fun p' hp' g D' but => ?_, fun hn => ?_⟩
  · rw [hp] at hp'
    cases hp'
    obtain ⟨o, es, ep, h1, h2, h3, h4, _, h5⟩ := D'
    have J : Inv X pins σ (upd H a (.dT (dropK kvs k))) { s with heap := g, toks := s.toks + (tupleKind (mixKind X.prog X.w)).draws k } :=
      d_write I (by rw [ea]; exact True.intro) but ⟨o, h1⟩ ⟨Nat.le_trans (dropK_le kvs k) sz, na, _, (L2.DX.KT_drop k rel).keeps fun c ys ec => by rw [upd_ne (ne_of ec ea fun z => nomatch z)]; exact ec, o, es, ep, h1, h2, h3, h4, h5⟩
    exact ⟨v, _, J, rp, q⟩
  · rw [hp] at hn
    cases hn
/-- a pair (key tuple, value) as it lies in a list -/
structure PrT where
  pr : Addr
  ka : Addr
  k : List L2.Key
  v : V
def PrT.At (K : PySem.W.Frag) (H : Hp) (e : PrT) : Prop := SqT K H e.pr [.ref e.ka, e.v] ∧ H e.ka = some (.tup (e.k.map kV))
def mergeT (L : List PrT) (acc : List (List L2.Key × V)) : List (List L2.Key × V) := L.foldl (fun m e => putK m e.k e.v) acc
/-- dict(pairs), the keys tuples -/
def rDictT (K : PySem.W.Frag) : List V → Hp → VK → Prop := fun xs H Q => ∃ (a : Addr) (L : List PrT), xs = [.ref a] ∧ SqL K H a (L.map fun e => V.ref e.pr) ∧ (∀ e ∈ L, e.At K H) ∧ ∀ p, H p = none → Q (.ref p) (upd H p (.dT (mergeT L [])))
theorem put_le {kvs : List (List L2.Key × V)} {k : List L2.Key} {v : V} : (putK kvs k v).length ≤ kvs.length + 1 := by
  unfold putK
  split
  · rw [List.length_map]
    exact Nat.le_succ _
  · rw [List.length_append]
    exact Nat.le_refl _
theorem mergeT_le : ∀ (L : List PrT) (acc : List (List L2.Key × V)), (mergeT L acc).length ≤ acc.length + L.length
  | [], _ => Nat.le_refl _
  | e :: L, acc => by
    have h := mergeT_le L (putK acc e.k e.v)
    have p := put_le (kvs := acc) (k := e.k) (v := e.v)
    show (mergeT L (putK acc e.k e.v)).length ≤ _
    rw [List.length_cons]
    omega
theorem merge_kt {H : Hp} : ∀ {L : List PrT} {us : List Value} {acc : List (List L2.Key × V)} {ws : List (List L2.Key × Addr × Value)}, Vals (L.map fun e => e.v) us → (∀ e ∈ L, H e.ka = some (.tup (e.k.map kV))) → KT H acc ws →
    KT H (mergeT L acc) (storedAllH ws (L.zip us |>.map fun z => (z.1.k, z.1.ka, z.2)))
  | [], _, _, _, r, _, h => by
    cases r
    exact h
  | e :: L, _, acc, ws, r, hk, h => by
    cases r with
    | @cons _ u _ us r1 r2 =>
      show KT H (mergeT L (putK acc e.k e.v)) (storedAllH (storedH ws e.k e.ka u) ((L.zip us).map fun z => (z.1.k, z.1.ka, z.2)))
      exact merge_kt (L := L) r2 (fun x hx => hk x (List.mem_cons_of_mem _ hx)) (h.put e.k (hk e List.mem_cons_self) r1)
theorem vals_each {X : Cx} {pins : List (Addr × Obj)} {σ : L2.St} {H : Hp} {s : Shared} (I : Inv X pins σ H s) : ∀ (L : List PrT), (∀ e ∈ L, e.At X.K H) → ∃ us : List Value, Vals (L.map fun e => e.v) us ∧ ∀ (j : Nat) (e : PrT) (u : Value), L[j]? = some e → us[j]? = some u → s.heap.IsTuple e.pr #[.ref e.ka, u]
  | [], _ => ⟨[], .nil, fun j e u h => by simp at h⟩
  | e :: L, h => by
    obtain ⟨us, r, q⟩ := vals_each I L fun x hx => h x (List.mem_cons_of_mem _ hx)
    obtain ⟨its, rv, tp, _⟩ := I.tuple (h e List.mem_cons_self).1
    obtain ⟨w1, r1, rfl, a1, rv⟩ : ∃ w1 r1, its = w1 :: r1 ∧ RelV (V.ref e.ka) w1 ∧ Vals [e.v] r1 := by cases rv with | cons x y => exact ⟨_, _, rfl, x, y⟩
    obtain ⟨u, rfl, ru⟩ := vals1 rv
    obtain rfl : w1 = Value.ref e.ka := a1
    refine ⟨u :: us, .cons ru r, fun j e' u' h1 h2 => ?_⟩
    cases j with
    | zero =>
      cases h1
      cases h2
      exact tp
    | succ j => exact q j e' u' (by simpa using h1) (by simpa using h2)
theorem call_dictT {X : Cx} (hc : X.calm = true) (hu : X.A.units + 64 < cLine) : CallR X (.type "dict") (rDictT X.K) := by
  intro pins s σ H xs us Q I r h
  obtain ⟨a, L, rfl, hq, hL, q⟩ := h
  obtain ⟨ua, rfl, ra⟩ := vals1 r
  obtain rfl : ua = Value.ref a := ra
  obtain ⟨its, rv, pl, hz⟩ := I.list hq
  have ei : its = (L.map fun e => e.pr).map Value.ref := refs_at (by rw [List.map_map]; exact rv)
  obtain ⟨ws, rw1, tp⟩ := vals_each I L hL
  have lw := rw1.length
  rw [List.length_map] at lw hz
  let ps : List (Value × Value) := (L.zip ws).map fun z => (Value.ref z.1.ka, z.2)
  let ph : List (List L2.Key × Addr × Value) := (L.zip ws).map fun z => (z.1.k, z.1.ka, z.2)
  have lps : ps.length = L.length := by
    show (List.map _ _).length = _
    rw [List.length_map, List.length_zip, ← lw, Nat.min_self]
  have at_j : ∀ (j : Nat), j < L.length → ∃ (e : PrT) (u : Value), L[j]? = some e ∧ ws[j]? = some u ∧ ps[j]? = some (Value.ref e.ka, u) ∧ ph[j]? = some (e.k, e.ka, u) := fun j hj => by
    have e1 : L[j]? = some L[j] := List.getElem?_eq_getElem hj
    have e2 : ws[j]? = some (ws[j]'(by omega)) := List.getElem?_eq_getElem (by omega)
    have e3 : (L.zip ws)[j]? = some (L[j], ws[j]'(by omega)) := by rw [List.getElem?_zip_eq_some]; exact ⟨e1, e2⟩
    exact ⟨_, _, e1, e2, by show (List.map _ _)[j]? = _; rw [List.getElem?_map, e3]; rfl, by show (List.map _ _)[j]? = _; rw [List.getElem?_map, e3]; rfl⟩
  let Ts : Nat → Addr := fun j => ((L[j]?).map fun e => e.pr).getD 0
  have P := PairArg.list (prog := X.prog) (w := X.w) a its.toArray Ts ps
  have ok : PlainSeq "list" s.heap a its.toArray ∧ PairItems s.heap its.toArray Ts ps := by
    refine ⟨let ⟨o, n, h1, h2, h3, h4⟩ := pl; ⟨o, n, h1, h2, h3, h4⟩, by rw [List.size_toArray, ei, List.length_map, List.length_map, lps], fun j k v hj => ?_⟩
    have hjl : j < L.length := by
      have := (List.getElem?_eq_some_iff.mp hj).1
      omega
    obtain ⟨e, u, e1, e2, e3, _⟩ := at_j j hjl
    rw [e3] at hj
    cases hj
    have ts : Ts j = e.pr := by
      show ((L[j]?).map fun e => e.pr).getD 0 = _
      rw [e1]
      rfl
    rw [ts]
    refine ⟨?_, .inl (tp j e _ e1 e2)⟩
    rw [List.getElem?_toArray, ei, List.getElem?_map, List.getElem?_map, e1]
    rfl
  refine call_dict_pairsH (knd := tupleKind (mixKind X.prog X.w)) (ps := ph) P (I.ok.hd hc) (tupleKind_room_in1 (by show X.A.units + 1 + 1 < cLine; omega)) ok ⟨?_, fun i key v hr => ?_⟩ (fun h' keep x hx => ?_) (by rw [lps]; exact hz) fun h' tk D keep => ?_
  · show (List.map _ _).length = ps.length
    rw [List.length_map, List.length_map]
  · have hil : i < L.length := by
      have := (List.getElem?_eq_some_iff.mp hr).1
      omega
    obtain ⟨e, u, e1, e2, e3, e4⟩ := at_j i hil
    have z := e3.symm.trans hr
    cases z
    exact ⟨e.k, e.ka, e4, rfl⟩
  · obtain ⟨y, hy, rfl⟩ := List.mem_map.mp hx
    obtain ⟨e, u⟩ := y
    have he := (List.of_mem_zip hy).1
    obtain ⟨o, it, n, h1, r⟩ := key_of I.hok (hL e he).2
    exact ⟨o, it, n, keep _ _ (Nat.ne_of_lt (Heap.lt_size h1)) (fun z => nomatch z) h1, r⟩
  · obtain ⟨o, es, ep, h1, h2, h3, h4, _, h5⟩ := D
    have rel := merge_kt (acc := []) (ws := []) rw1 (fun e he => (hL e he).2) .nil
    have sz : (mergeT L []).length ≤ sizeLine := Nat.le_trans (mergeT_le L []) (by rw [List.length_nil, Nat.zero_add]; exact hz)
    have hn : H s.heap.objs.size = none := I.hok.fresh (Nat.le_refl _)
    have rel2 := rel.keeps (H' := upd H s.heap.objs.size (.dT (mergeT L []))) fun c ys ec => by rw [upd_ne (ne_of_none ec hn)]; exact ec
    have new : ObjOk X.prog X.w (upd H s.heap.objs.size (.dT (mergeT L []))) h' s.heap.objs.size (.dT (mergeT L [])) :=
      ⟨sz, beq_eq_false_iff_ne.mpr (Nat.ne_of_gt I.big), _, rel2, o, es, ep, h1, h2, h3, h4, h5⟩
    exact ⟨V.ref s.heap.objs.size, _, I.laid (t' := tk) (fun b o e => keep b o (fun z => nomatch z) e) (Nat.le_refl _) new, rfl, q _ hn⟩
end TX
/-! part D0 -/
/-! The source, cells. -/
namespace TX
open PySem PySem.Spec PyProof.Rows L2 NT
/-- the source stands, whatever is left in it -/
def Src (H : Hp) (d c : Addr) : Prop := ∃ s, SrcAt H d c s ∧ s.cs.length ≤ 63
theorem pick_src {d c : Addr} {n : Int} {H : Hp} {Q : VK} {E : XK} (S : Src H d c) (hn : n < 1073741824) (h : ∀ r H', 0 ≤ r → (r < n ∨ r = 0) → Src H' d c → Kp (DC d c) H H' → Q (.int r) H') : spPick [.ref d, .int n] H Q E := by
  obtain ⟨s, hs, hl⟩ := S
  exact ⟨d, c, s, n, rfl, hs, hl, hn, fun r s' H' h0 h1 h2 h3 h4 => h r H' h0 h1 ⟨s', h2, Nat.le_trans h3 hl⟩ h4⟩
/-- the same promise, not looked into -/
@[irreducible] def spPickI : Sp := spPick
theorem pick_srcI {d c : Addr} {n : Int} {H : Hp} {Q : VK} {E : XK} (S : Src H d c) (hn : n < 1073741824) (h : ∀ r H', 0 ≤ r → (r < n ∨ r = 0) → Src H' d c → Kp (DC d c) H H' → Q (.int r) H') : spPickI [.ref d, .int n] H Q E := by
  unfold spPickI
  exact pick_src S hn h
theorem ok_pickI {P : Program} {w : World} {K : PySem.W.Frag} {mg : Str → Option Value} {base : Heap} (T : Txt w K mg) : Ok P w K mg base CX0 1 "_law_pick" ["source", "most"] spPickI := (ok_pick T).imp fun vs H Q E h => by
  unfold spPickI at h
  exact h
theorem Src.kp {H H' : Hp} {d c : Addr} (S : Src H d c) (k : Kp (fun _ => False) H H') : Src H' d c := by
  obtain ⟨s, hs, hl⟩ := S
  exact ⟨s, ⟨k _ _ hs.dd id, k _ _ hs.cc id⟩, hl⟩
theorem Src.same {H H' : Hp} {d c : Addr} (S : Src H d c) (k : Same H H') : Src H' d c := S.kp (Kp.of_same k)
theorem Src.hd {H : Hp} {d c : Addr} (S : Src H d c) : ∃ o, H d = some o := by
  obtain ⟨s, hs, _⟩ := S
  exact ⟨_, hs.dd⟩
theorem Src.hc {H : Hp} {d c : Addr} (S : Src H d c) : ∃ o, H c = some o := by
  obtain ⟨s, hs, _⟩ := S
  exact ⟨_, hs.cc⟩
theorem Src.upd {H : Hp} {d c p : Addr} {o : HO} (S : Src H d c) (n : ¬ DC d c p) : Src (upd H p o) d c := by
  obtain ⟨s, hs, hl⟩ := S
  have h1 : d ≠ p := fun z => n (.inl z.symm)
  have h2 : c ≠ p := fun z => n (.inr z.symm)
  exact ⟨s, ⟨by rw [upd_ne h1]; exact hs.dd, by rw [upd_ne h2]; exact hs.cc⟩, hl⟩
/-- what is new is none of the source -/
theorem Src.off {H : Hp} {d c p : Addr} (S : Src H d c) (h : H p = none) : ¬ DC d c p := by
  obtain ⟨o, ho⟩ := S.hd
  obtain ⟨u, hu⟩ := S.hc
  rintro (z | z)
  · rw [z, ho] at h
    cases h
  · rw [z, hu] at h
    cases h
/-- a cell as data -/
def cD (c : Int × Int) : PyData := .tuple [.int c.1, .int c.2]
theorem At.cell {S : Addr → Prop} {H : Hp} {c : Int × Int} {v : V} (h : At S H (cD c) v) : ∃ t, v = .ref t ∧ ¬ S t ∧ H t = some (.tup [.int c.1, .int c.2]) := by
  obtain ⟨t, ts, rfl, n, et, hts⟩ := At.tup h
  obtain ⟨v1, r1, rfl, b1, hts⟩ := hts.cons
  obtain ⟨v2, r2, rfl, b2, hts⟩ := hts.cons
  obtain rfl := hts.nil
  obtain rfl := b1.int
  obtain rfl := b2.int
  exact ⟨t, rfl, n, et⟩
theorem cell_at {S : Addr → Prop} {H : Hp} {c : Int × Int} {t : Addr} (n : ¬ S t) (et : H t = some (.tup [.int c.1, .int c.2])) : At S H (cD c) (.ref t) := at_tup n et (atl_cons at_int (atl_cons at_int atl_nil))
/-- a cell's key -/
def kC (c : Int × Int) : List L2.Key := [.inl c.1, .inl c.2]
theorem kC_inj {a b : Int × Int} (h : kC a = kC b) : a = b := by
  obtain ⟨a1, a2⟩ := a
  obtain ⟨b1, b2⟩ := b
  unfold kC at h
  simp only [List.cons.injEq, Sum.inl.injEq, and_true] at h
  obtain ⟨rfl, rfl⟩ := h
  rfl
theorem kC_v (c : Int × Int) : (kC c).map kV = [.int c.1, .int c.2] := rfl
def sidesL (c : Int × Int) : List (Int × Int) := [(c.1 + 1, c.2), (c.1, c.2 + 1), (c.1 - 1, c.2), (c.1, c.2 - 1)]
def nearL (c : Int × Int) : List (Int × Int) := [(c.1 + 1, c.2), (c.1 + 1, c.2 + 1), (c.1, c.2 + 1), (c.1 - 1, c.2 + 1), (c.1 - 1, c.2), (c.1 - 1, c.2 - 1), (c.1, c.2 - 1), (c.1 + 1, c.2 - 1)]
local macro_rules | `(tactic| walk_at "go") => `(tactic| simp only [L2.start, List.map_cons, List.map_nil, List.length_cons, List.length_nil, Nat.reduceSub, Nat.reduceAdd, List.replicate_succ, List.replicate_zero, List.cons_append, List.nil_append, List.append_nil,
  tSeq, tNext, tRet, tIfS, tTest, tAnd, tOr, tNot, tCB, tCall, tCons, tNil, tVar, tC, tOp, tUn, tAsg, gName, rI0, rI, CMul, CDiv, tDGet, sDPut, tBM0, tBM, tTup, tLst, tPar, tPar3, gTup, gNil, gCons, tIf, tAug, tRevL, tDisp, tPairs, tYes, wipe, tDrop, L2.tSl, tNotV, tAndV, tOrV, tB, rSlS, ipI, tNoPart, NdefX.startF, tOst, tMkO, rIxL, rIxT, rIxS, rAppend, rExtend, rPop, rSlL, rSetL, tPart, rEq, rNe, tFmt,  tJs,  gLst, tThen, tIf, rRep, tThenZ,    rSortedP,  rPopAt, tCallS, ↓reduceIte, L2.gSub, ↓reduceIte,
  List.getElem?_cons_zero, List.getElem?_cons_succ, List.set_cons_zero, List.set_cons_succ, Option.some.injEq, V.int.injEq, V.str.injEq, V.ref.injEq, V.bl.injEq, exists_eq_left, exists_eq_left', exists_eq_right, exists_eq_right', exists_eq', true_and, and_true, decide_eq_true_eq, List.cons.injEq, reduceCtorEq, false_and, false_or, or_false, exists_false, exists_and_left, exists_and_right, and_assoc])
section
variable {P : Program} {w : World} {K : PySem.W.Frag} {mg : Str → Option Value} {base : Heap}
/-- hands back new cells -/
def spNb (f : Int × Int → List (Int × Int)) : Sp := fun vs H Q E => ∃ (t : Addr) (c : Int × Int), vs = [.ref t] ∧ H t = some (.tup [.int c.1, .int c.2]) ∧ ∀ p H', Same H H' → At (fun b => H b ≠ none) H' (.list ((f c).map cD)) (.ref p) → Q (.ref p) H'
theorem ok_sides (T : Txt w K mg) : Ok P w K mg base CX0 1 "_law_sides" ["cell"] (spNb sidesL) := by
  obtain ⟨f, fd, D⟩ := T.d_L_sides
  refine ⟨f, fd, D.F.ok sc_L_sides (fun vs H Q E h => ?_) (fun cdv A outer s H vs Q E hr h => ?_), D.g, D.F.kp, D.b⟩
  · obtain ⟨t, c, rfl, _⟩ := h
    rfl
  · obtain ⟨t, c, rfl, et, h⟩ := h
    have nd := sc_L_sides.nd
    refine ⟨_, pss_cons (ps_asg (pv 0) (pg_tup (by rfl) (pgs_cons (pg_name (i := 1) nd rfl (.inl rfl)) (pgs_cons (pg_name (i := 2) nd rfl (.inl rfl)) pgs_nil))))
      (pss_one (ps_ret (pe_lst (pa_cons (pe_tup (pa_cons (pe_op op_add (pv 1) pe_int) (pa_cons (pv 2) pa_nil))) (pa_cons (pe_tup (pa_cons (pv 1) (pa_cons (pe_op op_add (pv 2) pe_int) pa_nil)))
        (pa_cons (pe_tup (pa_cons (pe_op op_sub (pv 1) pe_int) (pa_cons (pv 2) pa_nil))) (pa_cons (pe_tup (pa_cons (pv 1) (pa_cons (pe_op op_sub (pv 2) pe_int) pa_nil))) pa_nil))))))), ?_⟩
    walk_at "go"
    refine ⟨_, .inl (.inl et), rfl, _, _, rfl, _, _, rfl, rfl, c.1, rfl, by decide, fun a1 n1 => ⟨c.2, rfl, by decide, fun a2 n2 => ⟨c.1, rfl, by decide, fun a3 n3 => ⟨c.2, rfl, by decide, fun a4 n4 => ⟨by decide, fun p np => ?_⟩⟩⟩⟩⟩
    have s1 := same_new (o := .tup [V.int (c.1 + 1), V.int c.2]) n1
    have s2 := same_new (o := .tup [V.int c.1, V.int (c.2 + 1)]) n2
    have s3 := same_new (o := .tup [V.int (c.1 - 1), V.int c.2]) n3
    have s4 := same_new (o := .tup [V.int c.1, V.int (c.2 - 1)]) n4
    have s5 := same_new (o := .lst [V.ref a1, V.ref a2, V.ref a3, V.ref a4]) np
    have e1 := s5 _ _ (s4 _ _ (s3 _ _ (s2 a1 _ upd_same)))
    have e2 := s5 _ _ (s4 _ _ (s3 a2 _ upd_same))
    have e3 := s5 _ _ (s4 a3 _ upd_same)
    have e4 := s5 a4 _ upd_same
    have fr : ∀ {b : Addr}, H b = none → ¬ (H b ≠ none) := fun e z => z e
    refine h p _ ((((s1.trans s2).trans s3).trans s4).trans s5) (at_lst (fr ((((s1.trans s2).trans s3).trans s4).free np)) upd_same ?_)
    exact atl_cons (cell_at (c := (c.1 + 1, c.2)) (fr n1) e1) (atl_cons (cell_at (c := (c.1, c.2 + 1)) (fr (s1.free n2)) e2) (atl_cons (cell_at (c := (c.1 - 1, c.2)) (fr ((s1.trans s2).free n3)) e3) (atl_cons (cell_at (c := (c.1, c.2 - 1)) (fr (((s1.trans s2).trans s3).free n4)) e4) atl_nil)))
end
end TX
/-! part D1 -/
/-! The eight near cells. -/
namespace TX
open PySem PySem.Spec PyProof.Rows L2 NT
local macro_rules | `(tactic| walk_at "go") => `(tactic| simp only [L2.start, List.map_cons, List.map_nil, List.length_cons, List.length_nil, Nat.reduceSub, Nat.reduceAdd, List.replicate_succ, List.replicate_zero, List.cons_append, List.nil_append, List.append_nil,
  tSeq, tNext, tRet, tIfS, tTest, tAnd, tOr, tNot, tCB, tCall, tCons, tNil, tVar, tC, tOp, tUn, tAsg, gName, rI0, rI, CMul, CDiv, tDGet, sDPut, tBM0, tBM, tTup, tLst, tPar, tPar3, gTup, gNil, gCons, tIf, tAug, tRevL, tDisp, tPairs, tYes, wipe, tDrop, L2.tSl, tNotV, tAndV, tOrV, tB, rSlS, ipI, tNoPart, NdefX.startF, tOst, tMkO, rIxL, rIxT, rIxS, rAppend, rExtend, rPop, rSlL, rSetL, tPart, rEq, rNe, tFmt,  tJs,  gLst, tThen, tIf, rRep, tThenZ,    rSortedP,  rPopAt, tCallS, ↓reduceIte, L2.gSub, ↓reduceIte,
  List.getElem?_cons_zero, List.getElem?_cons_succ, List.set_cons_zero, List.set_cons_succ, Option.some.injEq, V.int.injEq, V.str.injEq, V.ref.injEq, V.bl.injEq, exists_eq_left, exists_eq_left', exists_eq_right, exists_eq_right', exists_eq', true_and, and_true, decide_eq_true_eq, List.cons.injEq, reduceCtorEq, false_and, false_or, or_false, exists_false, exists_and_left, exists_and_right, and_assoc])
theorem four {H : Hp} {b1 b2 b3 b4 : Int × Int} {a1 a2 a3 a4 p : Addr} (n1 : H a1 = none) (n2 : (upd H a1 (.tup [V.int b1.1, V.int b1.2])) a2 = none) (n3 : (upd (upd H a1 (.tup [V.int b1.1, V.int b1.2])) a2 (.tup [V.int b2.1, V.int b2.2])) a3 = none)
    (n4 : (upd (upd (upd H a1 (.tup [V.int b1.1, V.int b1.2])) a2 (.tup [V.int b2.1, V.int b2.2])) a3 (.tup [V.int b3.1, V.int b3.2])) a4 = none)
    (np : (upd (upd (upd (upd H a1 (.tup [V.int b1.1, V.int b1.2])) a2 (.tup [V.int b2.1, V.int b2.2])) a3 (.tup [V.int b3.1, V.int b3.2])) a4 (.tup [V.int b4.1, V.int b4.2])) p = none) :
    Same H (upd (upd (upd (upd (upd H a1 (.tup [V.int b1.1, V.int b1.2])) a2 (.tup [V.int b2.1, V.int b2.2])) a3 (.tup [V.int b3.1, V.int b3.2])) a4 (.tup [V.int b4.1, V.int b4.2])) p (.lst [V.ref a1, V.ref a2, V.ref a3, V.ref a4])) ∧
    At (fun b => H b ≠ none) (upd (upd (upd (upd (upd H a1 (.tup [V.int b1.1, V.int b1.2])) a2 (.tup [V.int b2.1, V.int b2.2])) a3 (.tup [V.int b3.1, V.int b3.2])) a4 (.tup [V.int b4.1, V.int b4.2])) p (.lst [V.ref a1, V.ref a2, V.ref a3, V.ref a4])) (.list ([b1, b2, b3, b4].map cD)) (.ref p) := by
  have s1 := same_new (o := .tup [V.int b1.1, V.int b1.2]) n1
  have s2 := same_new (o := .tup [V.int b2.1, V.int b2.2]) n2
  have s3 := same_new (o := .tup [V.int b3.1, V.int b3.2]) n3
  have s4 := same_new (o := .tup [V.int b4.1, V.int b4.2]) n4
  have s5 := same_new (o := .lst [V.ref a1, V.ref a2, V.ref a3, V.ref a4]) np
  have e1 := s5 _ _ (s4 _ _ (s3 _ _ (s2 a1 _ upd_same)))
  have e2 := s5 _ _ (s4 _ _ (s3 a2 _ upd_same))
  have e3 := s5 _ _ (s4 a3 _ upd_same)
  have e4 := s5 a4 _ upd_same
  have fr : ∀ {b : Addr}, H b = none → ¬ (H b ≠ none) := fun e z => z e
  refine ⟨(((s1.trans s2).trans s3).trans s4).trans s5, at_lst (fr ((((s1.trans s2).trans s3).trans s4).free np)) upd_same ?_⟩
  exact atl_cons (cell_at (c := b1) (fr n1) e1) (atl_cons (cell_at (c := b2) (fr (s1.free n2)) e2) (atl_cons (cell_at (c := b3) (fr ((s1.trans s2).free n3)) e3) (atl_cons (cell_at (c := b4) (fr (((s1.trans s2).trans s3).free n4)) e4) atl_nil)))
section
variable {P : Program} {w : World} {K : PySem.W.Frag} {mg : Str → Option Value} {base : Heap}
theorem ok_near8 (T : Txt w K mg) : Ok P w K mg base CX0 1 "_law_near" ["cell"] (spNb nearL) := by
  obtain ⟨f, fd, D⟩ := T.d_L_near
  refine ⟨f, fd, D.F.ok sc_L_near (fun vs H Q E h => ?_) (fun cdv A outer s H vs Q E hr h => ?_), D.g, D.F.kp, D.b⟩
  · obtain ⟨t, c, rfl, _⟩ := h
    rfl
  · obtain ⟨t, c, rfl, et, h⟩ := h
    have nd := sc_L_near.nd
    refine ⟨_, pss_cons (ps_asg (pv 0) (pg_tup (by rfl) (pgs_cons (pg_name (i := 1) nd rfl (.inl rfl)) (pgs_cons (pg_name (i := 2) nd rfl (.inl rfl)) pgs_nil))))
      (pss_cons (ps_set (i := 3) nd rfl (.inl rfl) (pe_lst (pa_cons (pe_tup (pa_cons (pe_op op_add (pv 1) pe_int) (pa_cons (pv 2) pa_nil))) (pa_cons (pe_tup (pa_cons (pe_op op_add (pv 1) pe_int) (pa_cons (pe_op op_add (pv 2) pe_int) pa_nil)))
        (pa_cons (pe_tup (pa_cons (pv 1) (pa_cons (pe_op op_add (pv 2) pe_int) pa_nil))) (pa_cons (pe_tup (pa_cons (pe_op op_sub (pv 1) pe_int) (pa_cons (pe_op op_add (pv 2) pe_int) pa_nil))) pa_nil))))))
      (pss_one (ps_ret (pe_op op_cat (pv 3) (pe_lst (pa_cons (pe_tup (pa_cons (pe_op op_sub (pv 1) pe_int) (pa_cons (pv 2) pa_nil))) (pa_cons (pe_tup (pa_cons (pe_op op_sub (pv 1) pe_int) (pa_cons (pe_op op_sub (pv 2) pe_int) pa_nil)))
        (pa_cons (pe_tup (pa_cons (pv 1) (pa_cons (pe_op op_sub (pv 2) pe_int) pa_nil))) (pa_cons (pe_tup (pa_cons (pe_op op_add (pv 1) pe_int) (pa_cons (pe_op op_sub (pv 2) pe_int) pa_nil))) pa_nil))))))))), ?_⟩
    walk_at "go"
    refine ⟨_, .inl (.inl et), rfl, _, _, rfl, _, _, rfl, rfl, c.1, rfl, by decide, fun a1 n1 => ⟨c.1, rfl, c.2, rfl, by decide, fun a2 n2 => ⟨c.2, rfl, by decide, fun a3 n3 => ⟨c.1, rfl, c.2, rfl, by decide, fun a4 n4 => ⟨by decide, fun p np => ?_⟩⟩⟩⟩⟩
    obtain ⟨s1, A1⟩ := four (b1 := (c.1 + 1, c.2)) (b2 := (c.1 + 1, c.2 + 1)) (b3 := (c.1, c.2 + 1)) (b4 := (c.1 - 1, c.2 + 1)) n1 n2 n3 n4 np
    generalize upd (upd (upd (upd (upd H a1 (.tup [V.int (c.1 + 1), V.int c.2])) a2 (.tup [V.int (c.1 + 1), V.int (c.2 + 1)])) a3 (.tup [V.int c.1, V.int (c.2 + 1)])) a4 (.tup [V.int (c.1 - 1), V.int (c.2 + 1)])) p (.lst [V.ref a1, V.ref a2, V.ref a3, V.ref a4]) = H1 at *
    refine ⟨c.1, rfl, by decide, fun a5 n5 => ⟨c.1, rfl, c.2, rfl, by decide, fun a6 n6 => ⟨c.2, rfl, by decide, fun a7 n7 => ⟨c.1, rfl, c.2, rfl, by decide, fun a8 n8 => ⟨by decide, fun r nr => ?_⟩⟩⟩⟩⟩
    obtain ⟨s2, A2⟩ := four (b1 := (c.1 - 1, c.2)) (b2 := (c.1 - 1, c.2 - 1)) (b3 := (c.1, c.2 - 1)) (b4 := (c.1 + 1, c.2 - 1)) n5 n6 n7 n8 nr
    generalize upd (upd (upd (upd (upd H1 a5 (.tup [V.int (c.1 - 1), V.int c.2])) a6 (.tup [V.int (c.1 - 1), V.int (c.2 - 1)])) a7 (.tup [V.int c.1, V.int (c.2 - 1)])) a8 (.tup [V.int (c.1 + 1), V.int (c.2 - 1)])) r (.lst [V.ref a5, V.ref a6, V.ref a7, V.ref a8]) = H2 at *
    obtain ⟨p1, xs, e1, m1, hp, hx⟩ := (A1.kp (Kp.of_same s2)).lst
    cases e1
    obtain ⟨p2, ys, e2, m2, hr2, hy⟩ := A2.lst
    cases e2
    have lx := hx.length
    have ly := hy.length
    refine ⟨p, r, xs, ys, rfl, rfl, hp, hr2, by rw [lx, ly]; show 8 ≤ sizeLine; decide, fun z nz => ?_⟩
    have s3 : Same H2 (upd H2 z (.lst (xs ++ ys))) := same_new nz
    refine h z _ ((s1.trans s2).trans s3) (at_lst (fun q => q ((s1.trans s2).free nz)) upd_same ?_)
    exact (hx.append (hy.off fun b o _ q => by
      cases e : H1 b with
      | none =>
        exfalso
        exact q (s1.free e)
      | some u => exact fun q => nomatch q)).kp (Kp.of_same s3)
end
end TX
/-! part DM -/
/-! Floods: parts that hang together. -/
namespace CM
abbrev Cl := Int × Int
/-- one comes from a to c by steps of nb within A -/
inductive Reach (nb : Cl → List Cl) (A : List Cl) (a : Cl) : Cl → Prop where
  | refl : Reach nb A a a
  | step {b c : Cl} (h : Reach nb A a b) (n : c ∈ nb b) (m : c ∈ A) : Reach nb A a c
theorem Reach.mono {nb : Cl → List Cl} {A B : List Cl} {a c : Cl} (h : Reach nb A a c) (s : ∀ x ∈ A, x ∈ B) : Reach nb B a c := by
  induction h with
  | refl => exact .refl
  | step _ n m ih => exact .step ih n (s _ m)
theorem Reach.within {nb : Cl → List Cl} {A p : List Cl} {a c : Cl} (h : Reach nb A a c) (ha : a ∈ p) (cl : ∀ x ∈ p, ∀ y ∈ nb x, y ∈ A → y ∈ p) : Reach nb p a c ∧ c ∈ p := by
  induction h with
  | refl => exact ⟨.refl, ha⟩
  | step _ n m ih => exact ⟨.step ih.1 n (cl _ ih.2 _ n m), cl _ ih.2 _ n m⟩
/-- hangs together -/
def Conn (nb : Cl → List Cl) (p : List Cl) : Prop := ∃ s ∈ p, ∀ c ∈ p, Reach nb p s c
theorem Conn.perm {nb : Cl → List Cl} {p q : List Cl} (h : Conn nb p) (s : p.Perm q) : Conn nb q := by
  obtain ⟨a, ha, hc⟩ := h
  exact ⟨a, s.mem_iff.mp ha, fun c hc' => (hc c (s.mem_iff.mpr hc')).mono fun x hx => s.mem_iff.mp hx⟩
/-- a flood from s0 in L0: some done, rest to be looked at, ls not met -/
structure Flood (nb : Cl → List Cl) (L0 : List Cl) (s0 : Cl) (some rest ls : List Cl) : Prop where
  perm : (some ++ rest ++ ls).Perm L0
  rch : ∀ c ∈ some ++ rest, Reach nb L0 s0 c
  cl : ∀ a ∈ some, ∀ b ∈ nb a, b ∉ ls
/-- h is being looked at, j of those next to it done -/
structure FloodJ (nb : Cl → List Cl) (L0 : List Cl) (s0 h : Cl) (j : Nat) (some rest ls : List Cl) : Prop where
  perm : (some ++ [h] ++ rest ++ ls).Perm L0
  rch : ∀ c ∈ some ++ [h] ++ rest, Reach nb L0 s0 c
  cl : ∀ a ∈ some, ∀ b ∈ nb a, b ∉ ls
  here : ∀ b ∈ (nb h).take j, b ∉ ls
/-- taken out -/
def out (ls : List Cl) (b : Cl) : List Cl := ls.filter fun x => decide (x ≠ b)
theorem out_sub {ls : List Cl} {b x : Cl} (h : x ∈ out ls b) : x ∈ ls := (List.mem_filter.mp h).1
theorem out_not {ls : List Cl} {b : Cl} : b ∉ out ls b := fun h => of_decide_eq_true (List.mem_filter.mp h).2 rfl
theorem out_perm : ∀ {ls : List Cl} {b : Cl}, ls.Nodup → b ∈ ls → ls.Perm (b :: out ls b)
  | [], _, _, h => by cases h
  | a :: ls, b, hn, h => by
    rw [List.nodup_cons] at hn
    by_cases e : a = b
    · subst e
      have z : out (a :: ls) a = ls := by
        unfold out
        rw [List.filter_cons_of_neg (by simp)]
        exact List.filter_eq_self.mpr fun x hx => decide_eq_true fun q => hn.1 (q ▸ hx)
      rw [z]
    · have hb : b ∈ ls := (List.mem_cons.mp h).resolve_left (Ne.symm e)
      have z : out (a :: ls) b = a :: out ls b := by
        unfold out
        rw [List.filter_cons_of_pos (by simp [e])]
      rw [z]
      exact ((out_perm hn.2 hb).cons a).trans (List.Perm.swap b a _)
theorem out_nodup {ls : List Cl} {b : Cl} (h : ls.Nodup) : (out ls b).Nodup := h.sublist (List.filter_sublist)
theorem Flood.start {nb : Cl → List Cl} {L0 : List Cl} {s0 : Cl} (hn : L0.Nodup) (h : s0 ∈ L0) : Flood nb L0 s0 [] [s0] (out L0 s0) :=
  ⟨(out_perm hn h).symm, fun c hc => by
    rw [List.nil_append, List.mem_singleton] at hc
    rw [hc]
    exact .refl, fun a ha => nomatch ha⟩
theorem Flood.pop {nb : Cl → List Cl} {L0 : List Cl} {s0 h : Cl} {some r ls : List Cl} (F : Flood nb L0 s0 some (r ++ [h]) ls) : FloodJ nb L0 s0 h 0 some r ls := by
  have e : (some ++ [h] ++ r).Perm (some ++ (r ++ [h])) := by
    rw [List.append_assoc]
    exact (List.perm_append_comm).append_left some
  exact ⟨(e.append_right ls).trans F.perm, fun c hc => F.rch c (e.mem_iff.mp hc), F.cl, fun b hb => by simp at hb⟩
theorem FloodJ.skip {nb : Cl → List Cl} {L0 : List Cl} {s0 h b : Cl} {j : Nat} {some rest ls : List Cl} (F : FloodJ nb L0 s0 h j some rest ls) (e : (nb h)[j]? = Option.some b) (n : b ∉ ls) : FloodJ nb L0 s0 h (j + 1) some rest ls :=
  ⟨F.perm, F.rch, F.cl, fun x hx => by
    rw [List.take_succ, e] at hx
    rcases List.mem_append.mp hx with hx | hx
    · exact F.here x hx
    · rw [Option.toList_some, List.mem_singleton] at hx
      rw [hx]
      exact n⟩
theorem FloodJ.push {nb : Cl → List Cl} {L0 : List Cl} {s0 h b : Cl} {j : Nat} {some rest ls : List Cl} (F : FloodJ nb L0 s0 h j some rest ls) (e : (nb h)[j]? = Option.some b) (hn : L0.Nodup) (m : b ∈ ls) : FloodJ nb L0 s0 h (j + 1) some (rest ++ [b]) (out ls b) := by
  have nl : ls.Nodup := ((F.perm.nodup_iff.mpr hn).sublist (List.sublist_append_right _ _))
  have bL : b ∈ L0 := F.perm.mem_iff.mp (List.mem_append.mpr (.inr m))
  have bn : b ∈ nb h := List.mem_of_getElem? e
  refine ⟨?_, fun c hc => ?_, fun a ha x hx z => F.cl a ha x hx (out_sub z), fun x hx z => ?_⟩
  · refine List.Perm.trans ?_ F.perm
    rw [← List.append_assoc, List.append_assoc _ [b]]
    exact ((out_perm nl m).symm).append_left _
  · rw [← List.append_assoc] at hc
    rcases List.mem_append.mp hc with hc | hc
    · exact F.rch c hc
    · rw [List.mem_singleton.mp hc]
      exact .step (F.rch h (by simp)) bn bL
  · rw [List.take_succ, e] at hx
    rcases List.mem_append.mp hx with hx | hx
    · exact F.here x hx (out_sub z)
    · rw [Option.toList_some, List.mem_singleton] at hx
      rw [hx] at z
      exact out_not z
theorem FloodJ.fin {nb : Cl → List Cl} {L0 : List Cl} {s0 h : Cl} {some rest ls : List Cl} (F : FloodJ nb L0 s0 h (nb h).length some rest ls) : Flood nb L0 s0 (some ++ [h]) rest ls :=
  ⟨F.perm, F.rch, fun a ha b hb => by
    rcases List.mem_append.mp ha with ha | ha
    · exact F.cl a ha b hb
    · rw [List.mem_singleton.mp ha] at hb
      exact F.here b (by rw [List.take_length]; exact hb)⟩
/-- parts found so far, ls not met -/
structure Parts (nb : Cl → List Cl) (cs : List Cl) (fs : List (List Cl)) (ls : List Cl) : Prop where
  perm : (fs.flatten ++ ls).Perm cs
  conn : ∀ p ∈ fs, Conn nb p
  cl : ∀ p ∈ fs, ∀ a ∈ p, ∀ b ∈ nb a, b ∈ cs → b ∈ p
theorem Parts.start {nb : Cl → List Cl} {cs : List Cl} : Parts nb cs [] cs := ⟨List.Perm.refl _, fun _ h => (nomatch h), fun _ h => (nomatch h)⟩
theorem Parts.found {nb : Cl → List Cl} {cs : List Cl} {fs : List (List Cl)} {L0 some ls p : List Cl} {s0 : Cl} (P : Parts nb cs fs L0) (sym : ∀ a b, b ∈ nb a → a ∈ nb b) (hn : cs.Nodup) (m0 : s0 ∈ L0) (F : Flood nb L0 s0 some [] ls) (hp : p.Perm some) (ms : s0 ∈ some) : Parts nb cs (fs ++ [p]) ls := by
  have nd : (fs.flatten ++ L0).Nodup := P.perm.nodup_iff.mpr hn
  have Fp := F.perm
  rw [List.append_nil] at Fp
  have nd2 : (some ++ ls).Nodup := Fp.nodup_iff.mpr (nd.sublist (List.sublist_append_right _ _))
  have sub : ∀ c ∈ some, c ∈ L0 := fun c hc => Fp.mem_iff.mp (List.mem_append.mpr (.inl hc))
  have clL : ∀ a ∈ some, ∀ b ∈ nb a, b ∈ L0 → b ∈ some := fun a ha b hb hL => by
    rcases List.mem_append.mp (Fp.mem_iff.mpr hL) with h | h
    · exact h
    · exact absurd h (F.cl a ha b hb)
  refine ⟨?_, fun q hq => ?_, fun q hq a ha b hb hc => ?_⟩
  · rw [List.flatten_append, List.flatten_cons, List.flatten_nil, List.append_nil, List.append_assoc]
    exact (((hp.append_right ls).trans Fp).append_left fs.flatten).trans P.perm
  · rcases List.mem_append.mp hq with hq | hq
    · exact P.conn q hq
    · rw [List.mem_singleton.mp hq]
      refine Conn.perm ⟨s0, ms, fun c hc => ?_⟩ hp.symm
      exact ((F.rch c (by rw [List.append_nil]; exact hc)).within ms clL).1
  · rcases List.mem_append.mp hq with hq | hq
    · exact P.cl q hq a ha b hb hc
    · rw [List.mem_singleton.mp hq] at ha ⊢
      have ha' := hp.mem_iff.mp ha
      refine hp.mem_iff.mpr ?_
      rcases List.mem_append.mp (P.perm.mem_iff.mpr hc) with h | h
      · exfalso
        obtain ⟨q', hq', hb'⟩ := List.mem_flatten.mp h
        have z := P.cl q' hq' b hb' a (sym a b hb) (P.perm.mem_iff.mp (List.mem_append.mpr (.inr (sub a ha'))))
        exact (List.nodup_append.mp nd).2.2 a (List.mem_flatten.mpr ⟨q', hq', z⟩) a (sub a ha') rfl
      · exact clL a ha' b hb h
end CM
/-! part D2a -/
/-! Cells in dicts and lists. -/
namespace TX
open PySem PySem.Spec PyProof.Rows L2 NT
/-- a cell's entry -/
def dl (c : Int × Int) : List L2.Key × V := (kC c, .int 0)
theorem dl_drop (ls : List (Int × Int)) (c : Int × Int) : dropK (ls.map dl) (kC c) = (CM.out ls c).map dl := by
  unfold dropK CM.out
  rw [List.filter_map]
  congr 1
  refine List.filter_congr fun x _ => ?_
  show decide (kC x ≠ kC c) = decide (x ≠ c)
  by_cases e : x = c
  · rw [e]
    simp
  · have : kC x ≠ kC c := fun z => e (kC_inj z)
    simp [e, this]
theorem dl_val_in {ls : List (Int × Int)} {c : Int × Int} (h : c ∈ ls) : valV (ls.map dl) (kC c) = some (.int 0) := by
  induction ls with
  | nil => cases h
  | cons a ls ih =>
    unfold valV
    rw [List.map_cons, List.find?_cons]
    by_cases e : a = c
    · subst e
      show Option.map _ (match decide (kC a = kC a) with | true => some (dl a) | false => _) = _
      rw [decide_eq_true rfl]
      rfl
    · have n : kC a ≠ kC c := fun z => e (kC_inj z)
      show Option.map _ (match decide (kC a = kC c) with | true => some (dl a) | false => _) = _
      rw [decide_eq_false n]
      exact ih ((List.mem_cons.mp h).resolve_left (Ne.symm e))
theorem dl_val_out {ls : List (Int × Int)} {c : Int × Int} (h : c ∉ ls) : valV (ls.map dl) (kC c) = none := by
  induction ls with
  | nil => rfl
  | cons a ls ih =>
    rw [List.mem_cons, not_or] at h
    have n : kC a ≠ kC c := fun z => h.1 (kC_inj z).symm
    unfold valV
    rw [List.map_cons, List.find?_cons]
    show Option.map _ (match decide (kC a = kC c) with | true => some (dl a) | false => _) = _
    rw [decide_eq_false n]
    exact ih h.2
theorem put_new {kvs : List (List L2.Key × V)} {k : List L2.Key} {v : V} (h : ∀ kv ∈ kvs, kv.1 ≠ k) : putK kvs k v = kvs ++ [(k, v)] := by
  unfold putK
  rw [if_neg]
  intro z
  obtain ⟨kv, hm, hk⟩ := List.any_eq_true.mp z
  exact h kv hm (of_decide_eq_true hk)
theorem merge_new : ∀ (L : List PrT) (acc : List (List L2.Key × V)), (L.map fun e => e.k).Nodup → (∀ kv ∈ acc, ∀ e ∈ L, kv.1 ≠ e.k) → mergeT L acc = acc ++ L.map fun e => (e.k, e.v)
  | [], acc, _, _ => (List.append_nil _).symm
  | e :: L, acc, hn, h => by
    rw [List.map_cons, List.nodup_cons] at hn
    show mergeT L (putK acc e.k e.v) = _
    rw [put_new fun kv hk => h kv hk e List.mem_cons_self, merge_new L _ hn.2 fun kv hk x hx => ?_, List.append_assoc]
    · rfl
    · rcases List.mem_append.mp hk with hk | hk
      · exact h kv hk x (List.mem_cons_of_mem _ hx)
      · rw [List.mem_singleton.mp hk]
        exact fun z => hn.1 (List.mem_map.mpr ⟨x, hx, z.symm⟩)
/-- v is the cell c -/
def CellAt (H : Hp) (c : Int × Int) (v : V) : Prop := ∃ t, v = .ref t ∧ H t = some (.tup [.int c.1, .int c.2])
/-- cells in their turn -/
inductive Cells (H : Hp) : List (Int × Int) → List V → Prop where
  | nil : Cells H [] []
  | cons {c v cs vs} (a : CellAt H c v) (b : Cells H cs vs) : Cells H (c :: cs) (v :: vs)
/-- tuples stay -/
def Tk2 (H H' : Hp) : Prop := ∀ t xs, H t = some (.tup xs) → H' t = some (.tup xs)
theorem Tk2.refl {H : Hp} : Tk2 H H := fun _ _ h => h
theorem Tk2.trans {A B C : Hp} (a : Tk2 A B) (b : Tk2 B C) : Tk2 A C := fun t xs h => b t xs (a t xs h)
theorem Tk2.same {H H' : Hp} (s : Same H H') : Tk2 H H' := fun t _ h => s t _ h
theorem Tk2.new {H : Hp} {p : Addr} {o : HO} (h : H p = none) : Tk2 H (upd H p o) := .same (same_new h)
theorem Tk2.lst {H : Hp} {p : Addr} {o : HO} {ys : List V} (h : H p = some (.lst ys)) : Tk2 H (upd H p o) := fun t xs e => by
  have : t ≠ p := fun z => by
    rw [z, h] at e
    cases e
  rw [upd_ne this]
  exact e
theorem Tk2.dT {H : Hp} {p : Addr} {o : HO} {kvs : List (List L2.Key × V)} (h : H p = some (.dT kvs)) : Tk2 H (upd H p o) := fun t xs e => by
  have : t ≠ p := fun z => by
    rw [z, h] at e
    cases e
  rw [upd_ne this]
  exact e
theorem CellAt.tk {H H' : Hp} {c : Int × Int} {v : V} (h : CellAt H c v) (k : Tk2 H H') : CellAt H' c v := let ⟨t, e, ht⟩ := h; ⟨t, e, k _ _ ht⟩
theorem Cells.tk {H H' : Hp} {cs : List (Int × Int)} {vs : List V} (h : Cells H cs vs) (k : Tk2 H H') : Cells H' cs vs := by
  induction h with
  | nil => exact .nil
  | cons a _ ih => exact .cons (a.tk k) ih
theorem Cells.length {H : Hp} {cs : List (Int × Int)} {vs : List V} (h : Cells H cs vs) : vs.length = cs.length := by
  induction h with
  | nil => rfl
  | cons _ _ ih => rw [List.length_cons, List.length_cons, ih]
theorem Cells.append {H : Hp} {cs ds : List (Int × Int)} {vs ws : List V} (h : Cells H cs vs) (g : Cells H ds ws) : Cells H (cs ++ ds) (vs ++ ws) := by
  induction h with
  | nil => exact g
  | cons a _ ih => exact .cons a ih
theorem Cells.get {H : Hp} {cs : List (Int × Int)} {vs : List V} (h : Cells H cs vs) : ∀ {i : Nat} {v : V}, vs[i]? = some v → ∃ c, cs[i]? = some c ∧ CellAt H c v := by
  induction h with
  | nil =>
    intro i v h
    cases h
  | cons a _ ih =>
    intro i v h
    cases i with
    | zero =>
      cases h
      exact ⟨_, rfl, a⟩
    | succ i => exact ih h
theorem Cells.get2 {H : Hp} {cs : List (Int × Int)} {vs : List V} (h : Cells H cs vs) : ∀ {i : Nat} {c : Int × Int}, cs[i]? = some c → ∃ v, vs[i]? = some v ∧ CellAt H c v := by
  induction h with
  | nil =>
    intro i v h
    cases h
  | cons a _ ih =>
    intro i v h
    cases i with
    | zero =>
      cases h
      exact ⟨_, rfl, a⟩
    | succ i => exact ih h
theorem Cells.mem {H : Hp} {cs : List (Int × Int)} {vs : List V} (h : Cells H cs vs) {v : V} (m : v ∈ vs) : ∃ c ∈ cs, CellAt H c v := by
  obtain ⟨i, hi⟩ := List.mem_iff_getElem?.mp m
  obtain ⟨c, hc, a⟩ := h.get hi
  exact ⟨c, List.mem_of_getElem? hc, a⟩
theorem Cells.perm {H : Hp} {cs : List (Int × Int)} {vs ws : List V} (h : Cells H cs vs) (p : ws.Perm vs) : ∃ ds, ds.Perm cs ∧ Cells H ds ws := by
  have q := p.symm
  clear p
  induction q generalizing cs with
  | nil => exact ⟨cs, .refl _, h⟩
  | cons x _ ih =>
    cases h with
    | cons a b =>
      obtain ⟨ds, p, c⟩ := ih b
      exact ⟨_, p.cons _, .cons a c⟩
  | swap x y l =>
    cases h with
    | cons a b =>
      cases b with
      | cons b c => exact ⟨_, .swap _ _ _, .cons b (.cons a c)⟩
  | trans _ _ i1 i2 =>
    obtain ⟨ds, p, c⟩ := i1 h
    obtain ⟨es, p2, c2⟩ := i2 c
    exact ⟨es, p2.trans p, c2⟩
theorem Cells.last {H : Hp} {cs : List (Int × Int)} {vs : List V} (h : Cells H cs vs) (n : cs ≠ []) : ∃ r c w v, cs = r ++ [c] ∧ vs = w ++ [v] ∧ Cells H r w ∧ CellAt H c v := by
  induction h with
  | nil => exact absurd rfl n
  | @cons c v cs vs a b ih =>
    cases b with
    | nil => exact ⟨[], c, [], v, rfl, rfl, .nil, a⟩
    | cons x y =>
      obtain ⟨r, c', w, v', e1, e2, h1, h2⟩ := ih (by simp)
      exact ⟨c :: r, c', v :: w, v', by rw [e1]; rfl, by rw [e2]; rfl, .cons a h1, h2⟩
theorem Cells.of_at {S : Addr → Prop} {H : Hp} : ∀ {cs : List (Int × Int)} {vs : List V}, AtL S H (cs.map cD) vs → Cells H cs vs
  | [], _, h => by
    obtain rfl := h.nil
    exact .nil
  | c :: cs, _, h => by
    obtain ⟨v, r, rfl, a, b⟩ := h.cons
    obtain ⟨t, e, _, ht⟩ := TX.At.cell a
    exact .cons ⟨t, e, ht⟩ (Cells.of_at b)
theorem Cells.dp {K : PySem.W.Frag} {H : Hp} {cs : List (Int × Int)} {vs : List V} (h : Cells H cs vs) : DpAll K H vs (cs.map cD) := by
  induction h with
  | nil => exact .nil
  | cons a _ ih =>
    obtain ⟨t, rfl, ht⟩ := a
    exact .cons (.tup (SqT.of ht) (.cons (.int _) (.cons (.int _) .nil))) ih
theorem cell_neq {cs : List (Int × Int)} : (PyData.list (cs.map cD)).eqv (.list []) = cs.isEmpty := by
  cases cs <;> rfl
theorem cells_can (cs : List (Int × Int)) : PyData.canLayAll0 (cs.map cD) = true := by
  induction cs with
  | nil => rfl
  | cons c cs ih =>
    simp only [List.map_cons, PyData.canLayAll0, cD, PyData.canLay0, Bool.true_and]
    exact ih
theorem cells_depth (cs : List (Int × Int)) : PyData.depthAll (cs.map cD) ≤ 1 := by
  induction cs with
  | nil => exact Nat.zero_le _
  | cons c cs ih =>
    simp only [List.map_cons, PyData.depthAll, cD, PyData.depth]
    exact Nat.max_le.mpr ⟨by decide, ih⟩
theorem cells_shaped (cs : List (Int × Int)) : SeqAt.shaped (.list (cs.map cD)) = true := by
  unfold SeqAt.shaped
  simp only [PyData.canLay0, PyData.depth, cells_can, Bool.true_and]
  have := cells_depth cs
  exact decide_eq_true (by omega)
end TX
/-! part D2b -/
/-! What stands while parts are found. -/
namespace TX
open PySem PySem.Spec PyProof.Rows L2 NT
/-- cells in floods: neighbours by the flag -/
def nbB (b : Bool) : Int × Int → List (Int × Int) := if b then nearL else sidesL
theorem nbB_sym (b : Bool) (x y : Int × Int) (h : y ∈ nbB b x) : x ∈ nbB b y := by
  obtain ⟨x1, x2⟩ := x
  obtain ⟨y1, y2⟩ := y
  cases b <;> simp [nbB, nearL, sidesL] at h ⊢ <;> omega
/-- tuples of cells, in a list -/
inductive Tups (H : Hp) : List (List (Int × Int)) → List V → Prop where
  | nil : Tups H [] []
  | cons {p ps v vs} (a : ∃ t us, v = V.ref t ∧ H t = some (.tup us) ∧ Cells H p us) (b : Tups H ps vs) : Tups H (p :: ps) (v :: vs)
theorem Tups.tk {H H' : Hp} {ps : List (List (Int × Int))} {vs : List V} (h : Tups H ps vs) (k : Tk2 H H') : Tups H' ps vs := by
  induction h with
  | nil => exact .nil
  | cons a _ ih =>
    obtain ⟨t, us, e, ht, c⟩ := a
    exact .cons ⟨t, us, e, k _ _ ht, c.tk k⟩ ih
theorem Tups.length {H : Hp} {ps : List (List (Int × Int))} {vs : List V} (h : Tups H ps vs) : vs.length = ps.length := by
  induction h with
  | nil => rfl
  | cons _ _ ih => rw [List.length_cons, List.length_cons, ih]
theorem Tups.snoc {H : Hp} {ps : List (List (Int × Int))} {vs : List V} {p : List (Int × Int)} {t : Addr} {us : List V} (h : Tups H ps vs) (ht : H t = some (.tup us)) (c : Cells H p us) : Tups H (ps ++ [p]) (vs ++ [.ref t]) := by
  induction h with
  | nil => exact .cons ⟨t, us, rfl, ht, c⟩ .nil
  | cons a _ ih => exact .cons a ih
theorem ne_by {H : Hp} {a b : Addr} {o u : HO} (ha : H a = some o) (hb : H b = some u) (n : o ≠ u) : a ≠ b := fun z => by
  rw [z, hb] at ha
  exact n (Option.some.inj ha).symm
theorem same_in {H H1 : Hp} {p : Addr} {o : HO} (s : Same H H1) (h : H p = none) : Same H (upd H1 p o) := fun b u hb => by
  rw [upd_ne (ne_of_none hb h)]
  exact s b u hb
structure PO (H : Hp) (D F S : Addr) (ys : List V) (fs : List (List (Int × Int))) (ls : List (Int × Int)) (H1 : Hp) : Prop where
  sm : Same H H1
  hD : H D = none
  hF : H F = none
  hS : H S = none
  fs' : F ≠ S
  eD : H1 D = some (.dT (ls.map dl))
  eF : ∃ ws, H1 F = some (.lst ws) ∧ Tups H1 fs ws
  eS : H1 S = some (.lst ys)
section
variable {H H1 H2 : Hp} {D F S M R : Addr} {ys : List V} {fs : List (List (Int × Int))} {ls so re : List (Int × Int)}
theorem PO.same (W : PO H D F S ys fs ls H1) (s : Same H1 H2) : PO H D F S ys fs ls H2 :=
  ⟨W.sm.trans s, W.hD, W.hF, W.hS, W.fs', s _ _ W.eD, let ⟨ws, e, t⟩ := W.eF; ⟨ws, s _ _ e, t.tk (.same s)⟩, s _ _ W.eS⟩
theorem PO.lst {p : Addr} {xs zs : List V} (W : PO H D F S ys fs ls H1) (e : H1 p = some (.lst xs)) (hp : H p = none) (nf : p ≠ F) (ns : p ≠ S) : PO H D F S ys fs ls (upd H1 p (.lst zs)) := by
  have nD : D ≠ p := ne_by W.eD e (fun z => nomatch z)
  obtain ⟨ws, ew, t⟩ := W.eF
  exact ⟨same_in W.sm hp, W.hD, W.hF, W.hS, W.fs', by rw [upd_ne nD]; exact W.eD, ⟨ws, by rw [upd_ne nf.symm]; exact ew, t.tk (Tk2.lst e)⟩, by rw [upd_ne ns.symm]; exact W.eS⟩
theorem PO.setD (W : PO H D F S ys fs ls H1) (ls' : List (Int × Int)) : PO H D F S ys fs ls' (upd H1 D (.dT (ls'.map dl))) := by
  obtain ⟨ws, ew, t⟩ := W.eF
  have nF : F ≠ D := ne_by ew W.eD (fun z => nomatch z)
  have nS : S ≠ D := ne_by W.eS W.eD (fun z => nomatch z)
  exact ⟨same_in W.sm W.hD, W.hD, W.hF, W.hS, W.fs', upd_same, ⟨ws, by rw [upd_ne nF]; exact ew, t.tk (Tk2.dT W.eD)⟩, by rw [upd_ne nS]; exact W.eS⟩
theorem PO.setF {fs' : List (List (Int × Int))} {ws : List V} (W : PO H D F S ys fs ls H1) (t : Tups H1 fs' ws) : PO H D F S ys fs' ls (upd H1 F (.lst ws)) := by
  obtain ⟨vs, ew, _⟩ := W.eF
  have nD : D ≠ F := ne_by W.eD ew (fun z => nomatch z)
  exact ⟨same_in W.sm W.hF, W.hD, W.hF, W.hS, W.fs', by rw [upd_ne nD]; exact W.eD, ⟨ws, upd_same, t.tk (Tk2.lst ew)⟩, by rw [upd_ne W.fs'.symm]; exact W.eS⟩
end
structure Wk (H : Hp) (D F S M R : Addr) (ys : List V) (fs : List (List (Int × Int))) (ls so re : List (Int × Int)) (H1 : Hp) : Prop where
  O : PO H D F S ys fs ls H1
  hM : H M = none
  hR : H R = none
  mr : M ≠ R
  mf : M ≠ F
  ms : M ≠ S
  rf : R ≠ F
  rs : R ≠ S
  eM : ∃ xs, H1 M = some (.lst xs) ∧ Cells H1 so xs
  eR : ∃ xs, H1 R = some (.lst xs) ∧ Cells H1 re xs
section
variable {H H1 H2 : Hp} {D F S M R : Addr} {ys : List V} {fs : List (List (Int × Int))} {ls so re : List (Int × Int)}
theorem Wk.same (W : Wk H D F S M R ys fs ls so re H1) (s : Same H1 H2) : Wk H D F S M R ys fs ls so re H2 :=
  ⟨W.O.same s, W.hM, W.hR, W.mr, W.mf, W.ms, W.rf, W.rs, let ⟨xs, e, c⟩ := W.eM; ⟨xs, s _ _ e, c.tk (.same s)⟩, let ⟨xs, e, c⟩ := W.eR; ⟨xs, s _ _ e, c.tk (.same s)⟩⟩
theorem Wk.setR {re' : List (Int × Int)} {zs : List V} (W : Wk H D F S M R ys fs ls so re H1) (c : Cells H1 re' zs) : Wk H D F S M R ys fs ls so re' (upd H1 R (.lst zs)) := by
  obtain ⟨xs, e, _⟩ := W.eR
  obtain ⟨ms, e2, c2⟩ := W.eM
  exact ⟨W.O.lst e W.hR W.rf W.rs, W.hM, W.hR, W.mr, W.mf, W.ms, W.rf, W.rs, ⟨ms, by rw [upd_ne W.mr]; exact e2, c2.tk (Tk2.lst e)⟩, ⟨zs, upd_same, c.tk (Tk2.lst e)⟩⟩
theorem Wk.setM {so' : List (Int × Int)} {zs : List V} (W : Wk H D F S M R ys fs ls so re H1) (c : Cells H1 so' zs) : Wk H D F S M R ys fs ls so' re (upd H1 M (.lst zs)) := by
  obtain ⟨xs, e, _⟩ := W.eM
  obtain ⟨ms, e2, c2⟩ := W.eR
  exact ⟨W.O.lst e W.hM W.mf W.ms, W.hM, W.hR, W.mr, W.mf, W.ms, W.rf, W.rs, ⟨zs, upd_same, c.tk (Tk2.lst e)⟩, ⟨ms, by rw [upd_ne W.mr.symm]; exact e2, c2.tk (Tk2.lst e)⟩⟩
theorem Wk.setD (W : Wk H D F S M R ys fs ls so re H1) (ls' : List (Int × Int)) : Wk H D F S M R ys fs ls' so re (upd H1 D (.dT (ls'.map dl))) := by
  obtain ⟨xs, e, c⟩ := W.eM
  obtain ⟨zs, e2, c2⟩ := W.eR
  have nM : M ≠ D := ne_by e W.O.eD (fun z => nomatch z)
  have nR : R ≠ D := ne_by e2 W.O.eD (fun z => nomatch z)
  exact ⟨W.O.setD ls', W.hM, W.hR, W.mr, W.mf, W.ms, W.rf, W.rs, ⟨xs, by rw [upd_ne nM]; exact e, c.tk (Tk2.dT W.O.eD)⟩, ⟨zs, by rw [upd_ne nR]; exact e2, c2.tk (Tk2.dT W.O.eD)⟩⟩
end
end TX
/-! part D2 -/
/-! _law_parts_by. -/
namespace TX
open PySem PySem.Spec PyProof.Rows L2 NT
local macro_rules | `(tactic| walk_at "go") => `(tactic| simp only [L2.start, List.map_cons, List.map_nil, List.length_cons, List.length_nil, Nat.reduceSub, Nat.reduceAdd, List.replicate_succ, List.replicate_zero, List.cons_append, List.nil_append, List.append_nil,
  tSeq, tNext, tRet, tIfS, tTest, tAnd, tOr, tNot, tCB, tCall, tCons, tNil, tVar, tC, tOp, tUn, tAsg, gName, rI0, rI, CMul, CDiv, tDGet, sDPut, tBM0, tBM, tTup, tLst, tPar, tPar3, gTup, gNil, gCons, tIf, tAug, tRevL, tDisp, tPairs, tYes, wipe, tDrop, L2.tSl, tNotV, tAndV, tOrV, tB, rSlS, ipI, tNoPart, NdefX.startF, tOst, tMkO, rIxL, rIxT, rIxS, rAppend, rExtend, rPop, rSlL, rSetL, tPart, rEq, rNe, tFmt,  tJs,  gLst, tThen, tIf, rRep, tThenZ,    rSortedP,  rPopAt, tCallS, ↓reduceIte, L2.gSub, ↓reduceIte,
  List.getElem?_cons_zero, List.getElem?_cons_succ, List.set_cons_zero, List.set_cons_succ, Option.some.injEq, V.int.injEq, V.str.injEq, V.ref.injEq, V.bl.injEq, exists_eq_left, exists_eq_left', exists_eq_right, exists_eq_right', exists_eq', true_and, and_true, decide_eq_true_eq, List.cons.injEq, reduceCtorEq, false_and, false_or, or_false, exists_false, exists_and_left, exists_and_right, and_assoc])
def spParts (K : PySem.W.Frag) : Sp := fun vs H Q _ => ∃ (a : Addr) (b : Bool) (cs : List (Int × Int)) (us : List V), vs = [.ref a, .bl b] ∧ H a = some (.lst us) ∧ Cells H cs us ∧ cs.Nodup ∧ cs.length ≤ 100000 ∧
  ∀ p H' ps ws, Same H H' → H p = none → H' p = some (.lst ws) → Tups H' ps ws → CM.Parts (nbB b) cs ps [] → Q (.ref p) H'
theorem if_nb {b : Bool} {σ : L2.St} {H : Hp} {E : XK} {Qc : VK} {i : Nat} {t : Addr} {g : Int × Int} (hσ : σ[i]? = some (some (.ref t))) (et : H t = some (.tup [.int g.1, .int g.2]))
    (h : ∀ p H', Same H H' → At (fun b => H b ≠ none) H' (.list ((nbB b g).map cD)) (.ref p) → Qc (.ref p) H') :
    if b = true then tCall (spNb nearL) [] E (tCons (tVar i) tNil) σ H Qc else tCall (spNb sidesL) [] E (tCons (tVar i) tNil) σ H Qc := by
  cases b
  · rw [if_neg (by decide)]
    exact ⟨_, hσ, t, g, rfl, et, h⟩
  · rw [if_pos rfl]
    exact ⟨_, hσ, t, g, rfl, et, h⟩
theorem parts_le {nb : Int × Int → List (Int × Int)} {cs ls : List (Int × Int)} {fs : List (List (Int × Int))} (P : CM.Parts nb cs fs ls) : fs.length ≤ cs.length := by
  have z : ∀ fs : List (List (Int × Int)), (∀ p ∈ fs, CM.Conn nb p) → fs.length ≤ fs.flatten.length := fun fs => by
    induction fs with
    | nil => exact fun _ => Nat.le_refl _
    | cons p fs ih =>
      intro h
      have i := ih fun q hq => h q (List.mem_cons_of_mem _ hq)
      obtain ⟨s, hs, _⟩ := h p List.mem_cons_self
      have := List.length_pos_of_mem hs
      rw [List.length_cons, List.flatten_cons, List.length_append]
      omega
  have := P.perm.length_eq
  have h := z fs P.conn
  rw [List.length_append] at this
  omega
section
variable {P : Program} {w : World} {K : PySem.W.Frag} {mg : Str → Option Value} {base : Heap}
theorem ok_parts (T : Txt w K mg) : Ok P w K mg base CX0 2 "_law_parts_by" ["cells", "is_near"] (spParts K) := by
  obtain ⟨f, fd, D⟩ := T.d_L_parts_by
  refine ⟨f, fd, D.F.ok sc_L_parts_by (fun vs H Q E h => ?_) (fun cdv A outer s H vs Q E hr h => ?_), D.g, D.F.kp, D.b⟩
  · obtain ⟨a, b, cs, us, rfl, _⟩ := h
    rfl
  · obtain ⟨a, b, cs, us, rfl, ea, hcs, hnd, hlen, h⟩ := h
    have nd := sc_L_parts_by.nd
    have hu := hu_of hr
    refine ⟨_, pss_cons (ps_par (i := 3) (j := 4) (by rfl) nd rfl rfl (by decide) rfl rfl
        (pa_cons (pe_callTy (call_dictT rfl hr.units) (by rfl) T.z_dict (by decide +kernel) (pa_cons (pe_lc (own := [("cell", 2)]) (g := gName 2) (tt := tYes) (te := tTup (tCons (tVar 2) (tCons (tC (.int 0)) tNil))) rfl nd (pi_list (pv 0)) (blkOk_by (N := n_L_parts_by) (sc := defScope s_L_parts_by) (by decide +kernel))
          (fun _ _ _ _ _ => pg_name (i := 2) nd rfl (.inl rfl)) (fun _ _ _ _ _ => pts_nil) (fun _ _ _ _ _ => by exact (pe_tup (pa_cons (pv 2) (pa_cons pe_int pa_nil))))) pa_nil)) (pa_cons (pe_lst pa_nil) pa_nil)) (by rfl))
      (pss_cons (ps_for PassesOwn.never rfl (pi_list (pe_callB cr_sortedP (by rfl) T.z_sorted (by decide +kernel) (pa_cons (pv 0) pa_nil))) (pg_name (i := 2) nd rfl (.inl rfl))
        (pss_one (ps_if (pt_cmp (pc_din hu (pv 2) (pv 3)))
          (pss_cons (ps_par (i := 5) (j := 6) (by rfl) nd rfl rfl (by decide) rfl rfl (pa_cons (pe_lst pa_nil) (pa_cons (pe_lst (pa_cons (pv 2) pa_nil)) pa_nil)) (by rfl))
          (pss_cons (ps_expr (pe_bm PySem.F.plainAttrs_dict PySem.F.slot_dict_pop PySem.F.type_dict_pop (mt_take hu) (pv 3) (pa_cons (pv 2) pa_nil)))
          (pss_cons (ps_while PassesOwn.never (pt_cmpR (op_neD hr.units) (pv 6) (pe_lst pa_nil) (nomark _))
            (pss_cons (ps_set (i := 7) nd rfl (.inl rfl) (pe_bm0 PySem.F.plainAttrs_list PySem.F.slot_list_pop PySem.F.type_list_pop mt_pop (pv 6)))
            (pss_cons (ps_expr (pe_bm PySem.F.plainAttrs_list PySem.F.slot_list_append PySem.F.type_list_append mt_append (pv 5) (pa_cons (pv 7) pa_nil)))
            (pss_one (ps_for PassesOwn.never rfl (pi_list (pe_ifExp (pt_truth (pv 1) (by intro _; rfl)) (pe_d (ok_near8 T) hr pass0 (pa_cons (pv 7) pa_nil)) (pe_d (ok_sides T) hr pass0 (pa_cons (pv 7) pa_nil)))) (pg_name (i := 8) nd rfl (.inl rfl))
              (pss_one (ps_if (pt_cmp (pc_din hu (pv 8) (pv 3)))
                (pss_cons (ps_expr (pe_bm PySem.F.plainAttrs_dict PySem.F.slot_dict_pop PySem.F.type_dict_pop (mt_take hu) (pv 3) (pa_cons (pv 8) pa_nil)))
                (pss_one (ps_expr (pe_bm PySem.F.plainAttrs_list PySem.F.slot_list_append PySem.F.type_list_append mt_append (pv 6) (pa_cons (pv 8) pa_nil)))))
                pss_nil)))))))
          (pss_one (ps_expr (pe_bm PySem.F.plainAttrs_list PySem.F.slot_list_append PySem.F.type_list_append mt_append (pv 4) (pa_cons (pe_tupleOf (by rfl) T.z_tuple (pe_callB cr_sortedP (by rfl) T.z_sorted (by decide +kernel) (pa_cons (pv 5) pa_nil))) pa_nil)))))))
          pss_nil)))
      (pss_one (ps_ret (pv 4)))), ?_⟩
    walk_at "go"
    refine ⟨.ref a, rfl, a, rfl, ⟨us, SqL.of ea⟩, fun G hG => lc_list (xs := us) (fun i H' => ∃ L : List PrT, H' G = some (.lst (L.map fun e => V.ref e.pr)) ∧ L.map (fun e => e.k) = (cs.take i).map kC ∧ (∀ e ∈ L, e.v = .int 0 ∧ H' e.pr = some (.tup [.ref e.ka, e.v]) ∧ H' e.ka = some (.tup (e.k.map kV))) ∧ Same H H') ⟨[], upd_same, rfl, fun _ z => (nomatch z), same_new hG⟩ (fun i H' _ ⟨_, _, _, _, sm⟩ => SqL.of (sm _ _ ea)) ?_ ?_⟩
    · rintro i x H1 hx ⟨L, eL, ek, hL, sm⟩
      obtain ⟨c, hc, t, rfl, et⟩ := hcs.get hx
      have hi := get_lt hc
      walk_at "go"
      refine ⟨by decide, fun p hp => ⟨_, by rw [upd_ne (ne_of_none eL hp)]; exact eL, ?_, L ++ [⟨p, t, kC c, .int 0⟩], ?_, ?_, fun e he => ?_, ?_⟩⟩
      · have hl := congrArg List.length ek
        rw [List.length_map, List.length_map, List.length_take] at hl
        rw [List.length_map, hl]
        exact small_lt (m := 100000) (by omega) (by decide)
      · rw [upd_same, List.map_append]
        rfl
      · rw [List.map_append, ek, List.take_succ, hc, List.map_append]
        rfl
      · have k1 : Tk2 H1 (upd H1 p (.tup [V.ref t, V.int 0])) := .new hp
        have k2 : Tk2 (upd H1 p (.tup [V.ref t, V.int 0])) (upd (upd H1 p (.tup [V.ref t, V.int 0])) G (.lst ((L.map fun e => V.ref e.pr) ++ [V.ref p]))) := Tk2.lst (ys := L.map fun e => V.ref e.pr) (by rw [upd_ne (ne_of_none eL hp)]; exact eL)
        have k := k1.trans k2
        rcases List.mem_append.mp he with he | he
        · obtain ⟨e1, e2, e3⟩ := hL e he
          exact ⟨e1, k _ _ e2, k _ _ e3⟩
        · rw [List.mem_singleton.mp he]
          exact ⟨rfl, k2 _ _ upd_same, k _ _ (sm _ _ et)⟩
      · exact same_in (sm.trans (same_new hp)) hG
    · rintro H1 ⟨L, eL, ek, hL, sm⟩
      rw [hcs.length, List.take_length] at ek
      have eL2 : (L.map fun e => (e.k, e.v)) = cs.map dl := by
        have e1 : (L.map fun e => (e.k, e.v)) = (L.map fun e => e.k).map fun k => (k, V.int 0) := by
          rw [List.map_map]
          exact List.map_congr_left fun e he => by show (e.k, e.v) = _; rw [(hL e he).1]; rfl
        rw [e1, ek, List.map_map]
        rfl
      have nk : (L.map fun e => e.k).Nodup := by
        rw [ek]
        exact List.Pairwise.map kC (fun x y n z => n (kC_inj z)) hnd
      have eM : mergeT L [] = cs.map dl := by
        rw [merge_new L [] nk (fun _ z => nomatch z), List.nil_append, eL2]
      refine ⟨G, L, rfl, SqL.of eL, fun e he => ⟨SqT.of (hL e he).2.1, (hL e he).2.2⟩, fun D hD => ?_⟩
      rw [eM]
      refine ⟨Nat.zero_le _, fun F hF => ?_⟩
      have sD : Same H (upd H1 D (.dT (cs.map dl))) := sm.trans (same_new hD)
      have sF := sD.trans (same_new (o := .lst []) hF)
      refine ⟨.ref a, rfl, a, us, rfl, SqL.of (sF _ _ ea), fun x hx => ?_, fun ys S hp hS => ?_⟩
      · obtain ⟨c, _, t, e, ht⟩ := hcs.mem hx
        exact ⟨t, c.1, c.2, e, sF _ _ ht⟩
      obtain ⟨ds, pd, hds⟩ := hcs.perm hp
      have eD1 : upd (upd (upd H1 D (.dT (cs.map dl))) F (.lst [])) S (.lst ys) D = some (.dT (cs.map dl)) := same_new hS _ _ (same_new hF _ _ upd_same)
      have eF1 : upd (upd (upd H1 D (.dT (cs.map dl))) F (.lst [])) S (.lst ys) F = some (.lst []) := same_new hS _ _ upd_same
      have W0 : PO H D F S ys [] cs (upd (upd (upd H1 D (.dT (cs.map dl))) F (.lst [])) S (.lst ys)) :=
        ⟨sF.trans (same_new hS), sm.free hD, sD.free hF, sF.free hS, ne_of_none (upd_same (H := upd H1 D (.dT (cs.map dl))) (a := F) (o := .lst [])) hS, eD1, ⟨[], eF1, .nil⟩, upd_same⟩
      refine ⟨S, rfl, ⟨_, SqL.of W0.eS⟩, for_list (xs := ys) (fun i σ H2 => ∃ fs ls v2 v5 v6 v7 v8, σ = [some (.ref a), some (.bl b), v2, some (.ref D), some (.ref F), v5, v6, v7, v8] ∧ PO H D F S ys fs ls H2 ∧ CM.Parts (nbB b) cs fs ls ∧ ∀ c ∈ ds.take i, c ∉ ls) ⟨[], cs, _, _, _, _, _, rfl, W0, .start, fun c z => by simp at z⟩ (fun i σ H2 _ ⟨_, _, _, _, _, _, _, _, W, _⟩ => SqL.of W.eS) ?_ ?_⟩
      · rintro i x σ H2 hx ⟨fs, ls, v2, v5, v6, v7, v8, rfl, W, PP, hno⟩
        obtain ⟨c, hc, t, rfl, et⟩ := hds.get hx
        have hi := get_lt hc
        have tk := ds.take_succ (i := i)
        rw [hc] at tk
        walk_at "go"
        refine ⟨_, rfl, _, rfl, D, _, rfl, DGet.t (k := kC c) W.eD (W.sm _ _ et), _, rfl, ?_⟩
        have et2 := W.sm _ _ et
        by_cases mc : c ∈ ls
        · rw [dl_val_in mc, if_pos Option.isSome_some]
          refine ⟨Nat.zero_le _, fun M hM => ⟨by decide, fun R hR => ?_⟩⟩
          have s1 := same_new (o := .lst []) hM
          have s2 := s1.trans (same_new (o := .lst [V.ref t]) hR)
          have W1 := W.same s2
          have eM1 : upd (upd H2 M (.lst [])) R (.lst [V.ref t]) M = some (.lst []) := same_new hR _ _ upd_same
          have hM0 : H M = none := W.sm.free hM
          have hR0 : H R = none := (W.sm.trans s1).free hR
          obtain ⟨wsF, eF, tF⟩ := W.eF
          have K1 : Wk H D F S M R ys fs ls [] [c] (upd (upd H2 M (.lst [])) R (.lst [V.ref t])) :=
            ⟨W1, hM0, hR0, ne_of_none (upd_same (H := H2) (a := M) (o := .lst [])) hR, (ne_of_none eF hM).symm, (ne_of_none W.eS hM).symm, (ne_of_none (s1 _ _ eF) hR).symm, (ne_of_none (s1 _ _ W.eS) hR).symm, ⟨[], eM1, .nil⟩, ⟨_, upd_same, .cons ⟨t, rfl, s2 _ _ et2⟩ .nil⟩⟩
          refine ⟨.inr (.inr (.inl ⟨rfl, .inr ⟨_, W1.eD⟩⟩)), D, t, _, kC c, .int 0, rfl, rfl, W1.eD, s2 _ _ et2, dl_val_in mc, ?_⟩
          rw [dl_drop]
          have K2 := K1.setD (CM.out ls c)
          have ndl : ls.Nodup := ((PP.perm.nodup_iff.mpr hnd).sublist (List.sublist_append_right _ _))
          have lls : ls.length ≤ 100000 := by
            have := PP.perm.length_eq
            rw [List.length_append] at this
            omega
          generalize upd (upd (upd H2 M (.lst [])) R (.lst [V.ref t])) D (.dT ((CM.out ls c).map dl)) = H3 at K2
          refine while_m (fun m σ H4 => ∃ so re ls' v7 v8, m = re.length + ls'.length ∧ σ = [some (.ref a), some (.bl b), some (.ref t), some (.ref D), some (.ref F), some (.ref M), some (.ref R), v7, v8] ∧ Wk H D F S M R ys fs ls' so re H4 ∧ CM.Flood (nbB b) ls c so re ls' ∧ c ∈ so ++ re)
            (fun σ H4 => ∃ so ls' v7 v8, σ = [some (.ref a), some (.bl b), some (.ref t), some (.ref D), some (.ref F), some (.ref M), some (.ref R), v7, v8] ∧ Wk H D F S M R ys fs ls' so [] H4 ∧ CM.Flood (nbB b) ls c so [] ls' ∧ c ∈ so) ⟨_, [], [c], CM.out ls c, _, _, rfl, rfl, K2, CM.Flood.start ndl mc, by simp⟩ ?_ ?_
          · rintro σ H4 ⟨so, ls', v7, v8, rfl, K3, FL, mso⟩
            walk_at "go"
            obtain ⟨ms, eM, cM⟩ := K3.eM
            obtain ⟨wsF4, eF4, tF4⟩ := K3.O.eF
            refine ⟨.inl ⟨rfl, _, SqL.of eF4⟩, ms, SqL.of eM, fun x hx => ?_, fun zs p hzs hp => ?_⟩
            · obtain ⟨c', _, t', e', ht'⟩ := cM.mem hx
              exact ⟨t', e', c'.1, c'.2, ht'⟩
            obtain ⟨dz, pz, cz⟩ := cM.perm hzs
            have sp := same_new (o := .lst zs) hp
            refine .inl ⟨p, zs, rfl, SqL.of upd_same, fun q hq => ?_⟩
            have sq := sp.trans (same_new (o := .tup zs) hq)
            have O5 := K3.O.same sq
            obtain ⟨ws5, eF5, tF5⟩ := O5.eF
            have fl := parts_le PP
            have pF := FL.perm
            rw [List.append_nil] at pF
            refine ⟨ws5, eF5, by rw [tF5.length]; exact small_lt (m := 100000) (by omega) (by decide), fs ++ [dz], ls', O5.setF (tF5.snoc upd_same (cz.tk (.same sq))), PP.found (nbB_sym b) hnd mc FL pz mso, fun x hx => ?_⟩
            rw [tk] at hx
            rcases List.mem_append.mp hx with hx | hx
            · exact fun z => hno x hx (pF.mem_iff.mp (List.mem_append.mpr (.inr z)))
            · rw [Option.toList_some, List.mem_singleton] at hx
              rw [hx]
              exact fun z => (List.nodup_append.mp (pF.nodup_iff.mpr ndl)).2.2 c mso c z rfl
          · rintro nx hnx m σ H4 ⟨so, re, ls', v7, v8, rfl, rfl, K3, FL, mso⟩
            walk_at "go"
            refine ⟨Nat.zero_le _, fun p hp => ?_⟩
            have sp := same_new (o := .lst []) hp
            have K4 := K3.same sp
            obtain ⟨rs, eR, cR⟩ := K4.eR
            refine ⟨_, _, .lst (SqL.of eR) cR.dp, .lst (SqL.of upd_same) .nil, cells_shaped re, by decide, _, rfl, ?_⟩
            rw [cell_neq]
            by_cases er : re = []
            · subst er
              rw [if_neg (by decide)]
              exact hnx _ _ ⟨so, ls', v7, v8, rfl, K4, FL, by simpa using mso⟩
            rw [if_pos (by cases re with | nil => exact absurd rfl er | cons _ _ => rfl)]
            refine ⟨_, fun _ _ z => z, ?_⟩
            have fp := FL.perm.length_eq
            rw [List.length_append, List.length_append] at fp
            obtain ⟨r, g, w, gv, e1, e2, cr, gt, rfl, egt⟩ := cR.last er
            subst e1
            subst e2
            refine ⟨.inl ⟨rfl, _, SqL.of eR⟩, _, eR, .ref gt, by simp, ?_⟩
            rw [List.dropLast_concat]
            have K5 := K4.setR cr
            have egt5 := (Tk2.lst (o := .lst w) eR) _ _ egt
            generalize upd (upd H4 p (.lst [])) R (.lst w) = H5 at K5 egt5
            obtain ⟨ms, eM, cM⟩ := K5.eM
            rw [List.length_append, List.length_singleton] at fp
            refine ⟨.inl ⟨rfl, _, SqL.of eM⟩, ms, eM, by rw [cM.length]; exact small_lt (m := 100000) (by omega) (by decide), ?_⟩
            have K6 := K5.setM (cM.append (.cons ⟨gt, rfl, egt5⟩ .nil))
            have egt6 := (Tk2.lst (o := .lst (ms ++ [V.ref gt])) eM) _ _ egt5
            generalize upd H5 M (.lst (ms ++ [V.ref gt])) = H6 at K6 egt6
            refine ⟨_, rfl, b, rfl, if_nb (g := g) rfl egt6 fun p7 H7 s7 at7 => ?_⟩
            obtain ⟨_, xs, e7, n7, h7, x7⟩ := at7.lst
            cases e7
            have c7 := Cells.of_at x7
            have K7 := K6.same s7
            have n7' : H6 p7 = none := by
              cases e : H6 p7 with
              | none => rfl
              | some o => exact absurd (by rw [e]; exact fun z => nomatch z) n7
            have p7R : p7 ≠ R := by
              obtain ⟨_, e, _⟩ := K6.eR
              exact (ne_of_none e n7').symm
            refine ⟨p7, rfl, ⟨_, SqL.of h7⟩, for_list (xs := xs) (fun j σ H' => ∃ re' ls'' v8, σ = [some (.ref a), some (.bl b), some (.ref t), some (.ref D), some (.ref F), some (.ref M), some (.ref R), some (.ref gt), v8] ∧ Wk H D F S M R ys fs ls'' (so ++ [g]) re' H' ∧ CM.FloodJ (nbB b) ls c g j so re' ls'' ∧ re'.length + ls''.length = r.length + ls'.length ∧ c ∈ so ++ [g] ++ re' ∧ H' p7 = some (.lst xs) ∧ Cells H' (nbB b g) xs)
              ⟨r, ls', _, rfl, K7, FL.pop, rfl, by
                rcases List.mem_append.mp mso with z | z
                · exact List.mem_append.mpr (.inl (List.mem_append.mpr (.inl z)))
                · rcases List.mem_append.mp z with z | z
                  · exact List.mem_append.mpr (.inr z)
                  · exact List.mem_append.mpr (.inl (List.mem_append.mpr (.inr z))), h7, c7⟩ (fun j σ H' _ ⟨_, _, _, _, _, _, _, _, e, _⟩ => SqL.of e) ?_ ?_⟩
            · rintro j x σ H8 hx ⟨re', ls'', v8', rfl, K8, FJ, len8, m8, h8, c8⟩
              obtain ⟨c2, hc2, t2, rfl, et8⟩ := c8.get hx
              walk_at "go"
              refine ⟨_, rfl, _, rfl, D, _, rfl, DGet.t (k := kC c2) K8.O.eD et8, _, rfl, ?_⟩
              by_cases m2 : c2 ∈ ls''
              · rw [dl_val_in m2, if_pos Option.isSome_some]
                refine ⟨.inr (.inr (.inl ⟨rfl, .inr ⟨_, K8.O.eD⟩⟩)), D, t2, _, kC c2, .int 0, rfl, rfl, K8.O.eD, et8, dl_val_in m2, ?_⟩
                rw [dl_drop]
                have K9 := K8.setD (CM.out ls'' c2)
                have k9 : Tk2 H8 (upd H8 D (.dT ((CM.out ls'' c2).map dl))) := Tk2.dT K8.O.eD
                have et9 := k9 _ _ et8
                have h9 : upd H8 D (.dT ((CM.out ls'' c2).map dl)) p7 = some (.lst xs) := by
                  rw [upd_ne (ne_by h8 K8.O.eD (fun z => nomatch z))]
                  exact h8
                have c9 := c8.tk k9
                generalize upd H8 D (.dT ((CM.out ls'' c2).map dl)) = H9 at K9 et9 h9 c9
                obtain ⟨rs9, eR9, cR9⟩ := K9.eR
                have pl := FJ.perm.length_eq
                simp only [List.length_append] at pl
                have np : ls''.Nodup := (FJ.perm.nodup_iff.mpr ndl).sublist (List.sublist_append_right _ _)
                have lo := (CM.out_perm np m2).length_eq
                rw [List.length_cons] at lo
                refine ⟨.inl ⟨rfl, _, SqL.of eR9⟩, rs9, eR9, by rw [cR9.length]; exact small_lt (m := 100000) (by omega) (by decide), re' ++ [c2], CM.out ls'' c2, K9.setR (cR9.append (.cons ⟨t2, rfl, et9⟩ .nil)), FJ.push hc2 ndl m2, ?_, ?_, ?_, c9.tk (Tk2.lst eR9)⟩
                · rw [List.length_append, List.length_singleton]
                  omega
                · rw [← List.append_assoc]
                  exact List.mem_append.mpr (.inl m8)
                · rw [upd_ne p7R]
                  exact h9
              · rw [dl_val_out m2, if_neg (by decide)]
                exact ⟨re', ls'', K8, FJ.skip hc2 m2, len8, m8, h8, c8⟩
            · rintro σ H8 ⟨re', ls'', v8', rfl, K8, FJ, len8, m8, h8, c8⟩
              rw [c8.length] at FJ
              walk_at "go"
              exact ⟨re'.length + ls''.length, by rw [List.length_append, List.length_singleton]; omega, so ++ [g], re', ls'', rfl, K8, FJ.fin, m8⟩
        · rw [dl_val_out mc, if_neg (by decide)]
          refine ⟨fs, ls, W, PP, fun x hx => ?_⟩
          rw [tk] at hx
          rcases List.mem_append.mp hx with hx | hx
          · exact hno x hx
          · rw [Option.toList_some, List.mem_singleton] at hx
            rw [hx]
            exact mc
      · rintro σ H2 ⟨fs, ls, v2, v5, v6, v7, v8, rfl, W, PP, hno⟩
        walk_at "go"
        obtain ⟨ws, eF, tF⟩ := W.eF
        have el : ls = [] := by
          rw [List.eq_nil_iff_forall_not_mem]
          intro c hc
          refine hno c ?_ hc
          rw [hds.length, List.take_length]
          exact pd.mem_iff.mpr (PP.perm.mem_iff.mp (List.mem_append.mpr (.inr hc)))
        subst el
        exact h F _ fs ws W.sm W.hF eF tF PP
end
end TX
/-! part D3 -/
/-! _law_is_room. -/
namespace TX
open PySem PySem.Spec PyProof.Rows L2 NT
/-- a column of cells -/
def colL (x y : Int) (n : Nat) : List (Int × Int) := (List.range n).map fun (j : Nat) => (x, y + (j : Int))
/-- the cells of a box -/
def boxL (x y : Int) (m n : Nat) : List (Int × Int) := (List.range m).flatMap fun (i : Nat) => colL (x + (i : Int)) y n
theorem mem_col {x y : Int} {n : Nat} {c : Int × Int} : c ∈ colL x y n ↔ c.1 = x ∧ y ≤ c.2 ∧ c.2 < y + n := by
  unfold colL
  rw [List.mem_map]
  constructor
  · rintro ⟨j, hj, rfl⟩
    have := List.mem_range.mp hj
    refine ⟨rfl, ?_, ?_⟩ <;> dsimp only <;> omega
  · rintro ⟨h1, h2, h3⟩
    refine ⟨(c.2 - y).toNat, List.mem_range.mpr (by omega), ?_⟩
    obtain ⟨c1, c2⟩ := c
    dsimp only at h1 h2 h3 ⊢
    rw [h1, show y + ((c2 - y).toNat : Int) = c2 by omega]
theorem mem_box {x y : Int} {m n : Nat} {c : Int × Int} : c ∈ boxL x y m n ↔ (x ≤ c.1 ∧ c.1 < x + m) ∧ y ≤ c.2 ∧ c.2 < y + n := by
  unfold boxL
  rw [List.mem_flatMap]
  constructor
  · rintro ⟨i, hi, hc⟩
    have := List.mem_range.mp hi
    obtain ⟨h1, h2⟩ := mem_col.mp hc
    exact ⟨by omega, h2⟩
  · rintro ⟨h1, h2⟩
    exact ⟨(c.1 - x).toNat, List.mem_range.mpr (by omega), mem_col.mpr ⟨by omega, h2⟩⟩
theorem col_nodup (x y : Int) (n : Nat) : (colL x y n).Nodup := by
  unfold colL
  refine List.Pairwise.map _ (fun a b h z => h ?_) List.nodup_range
  have := congrArg Prod.snd z
  dsimp only at this
  omega
theorem box_succ (x y : Int) (m n : Nat) : boxL x y (m + 1) n = boxL x y m n ++ colL (x + m) y n := by
  unfold boxL
  rw [List.range_succ, List.flatMap_append, List.flatMap_cons, List.flatMap_nil, List.append_nil]
theorem box_nodup (x y : Int) (m n : Nat) : (boxL x y m n).Nodup := by
  induction m with
  | zero => exact .nil
  | succ m ih =>
    rw [box_succ]
    refine List.nodup_append.mpr ⟨ih, col_nodup _ _ _, fun a ha b hb z => ?_⟩
    subst z
    have h1 := (mem_box.mp ha).1
    have h2 := (mem_col.mp hb).1
    omega
theorem col_len (x y : Int) (n : Nat) : (colL x y n).length = n := by
  unfold colL
  rw [List.length_map, List.length_range]
theorem box_len (x y : Int) (m n : Nat) : (boxL x y m n).length = m * n := by
  induction m with
  | zero =>
    rw [Nat.zero_mul]
    rfl
  | succ m ih => rw [box_succ, List.length_append, ih, col_len, Nat.succ_mul]
/-- a room: in one piece by sides, what is about it in one piece by near steps -/
def RoomP (cs : List (Int × Int)) : Prop := (∃ p, CM.Parts (nbB false) cs [p] []) ∧ ∃ (x y : Int) (m n : Nat) (q : List (Int × Int)),
  (∀ c ∈ cs, (x + 1 ≤ c.1 ∧ c.1 + 1 < x + m) ∧ y + 1 ≤ c.2 ∧ c.2 + 1 < y + n) ∧ CM.Parts (nbB true) ((boxL x y m n).filter fun c => decide (c ∉ cs)) [q] []
theorem ex_min : ∀ {l : List Int}, l ≠ [] → ∃ m ∈ l, ∀ y ∈ l, m ≤ y
  | [], h => absurd rfl h
  | [a], _ => ⟨a, List.mem_singleton.mpr rfl, fun y hy => by rw [List.mem_singleton.mp hy]; exact Int.le_refl _⟩
  | a :: b :: l, _ => by
    obtain ⟨m, hm, h⟩ := ex_min (l := b :: l) (by simp)
    by_cases c : a ≤ m
    · exact ⟨a, List.mem_cons_self, fun y hy => by
        rcases List.mem_cons.mp hy with e | e
        · rw [e]
          exact Int.le_refl _
        · exact Int.le_trans c (h y e)⟩
    · exact ⟨m, List.mem_cons_of_mem _ hm, fun y hy => by
        rcases List.mem_cons.mp hy with e | e
        · rw [e]
          omega
        · exact h y e⟩
theorem ex_max : ∀ {l : List Int}, l ≠ [] → ∃ m ∈ l, ∀ y ∈ l, y ≤ m
  | [], h => absurd rfl h
  | [a], _ => ⟨a, List.mem_singleton.mpr rfl, fun y hy => by rw [List.mem_singleton.mp hy]; exact Int.le_refl _⟩
  | a :: b :: l, _ => by
    obtain ⟨m, hm, h⟩ := ex_max (l := b :: l) (by simp)
    by_cases c : m ≤ a
    · exact ⟨a, List.mem_cons_self, fun y hy => by
        rcases List.mem_cons.mp hy with e | e
        · rw [e]
          exact Int.le_refl _
        · exact Int.le_trans (h y e) c⟩
    · exact ⟨m, List.mem_cons_of_mem _ hm, fun y hy => by
        rcases List.mem_cons.mp hy with e | e
        · rw [e]
          omega
        · exact h y e⟩
def spRoom : Sp := fun vs H Q _ => ∃ (a : Addr) (cs : List (Int × Int)) (us : List V), vs = [.ref a] ∧ H a = some (.lst us) ∧ Cells H cs us ∧ cs.Nodup ∧ cs.length ≤ 1000 ∧ cs ≠ [] ∧ (∀ c ∈ cs, (-100 ≤ c.1 ∧ c.1 ≤ 100) ∧ -100 ≤ c.2 ∧ c.2 ≤ 100) ∧
  ∀ (r : Bool) H', Same H H' → (r = true → RoomP cs) → Q (.bl r) H'
local macro_rules | `(tactic| walk_at "go") => `(tactic| simp only [L2.start, List.map_cons, List.map_nil, List.length_cons, List.length_nil, Nat.reduceSub, Nat.reduceAdd, List.replicate_succ, List.replicate_zero, List.cons_append, List.nil_append, List.append_nil,
  tSeq, tNext, tRet, tIfS, tTest, tAnd, tOr, tNot, tCB, tCall, tCons, tNil, tVar, tC, tOp, tUn, tAsg, gName, rI0, rI, CMul, CDiv, tDGet, sDPut, tBM0, tBM, tTup, tLst, tPar, tPar3, gTup, gNil, gCons, tIf, tAug, tRevL, tDisp, tPairs, tYes, wipe, tDrop, L2.tSl, tNotV, tAndV, tOrV, tB, rSlS, ipI, tNoPart, NdefX.startF, tOst, tMkO, rIxL, rIxT, rIxS, rAppend, rExtend, rPop, rSlL, rSetL, tPart, rEq, rNe, tFmt,  tJs,  gLst, tThen, tIf, rRep, tThenZ,    rSortedP,  rPopAt, tCallS, ↓reduceIte, L2.gSub, ↓reduceIte,
  List.getElem?_cons_zero, List.getElem?_cons_succ, List.set_cons_zero, List.set_cons_succ, Option.some.injEq, V.int.injEq, V.str.injEq, V.ref.injEq, V.bl.injEq, exists_eq_left, exists_eq_left', exists_eq_right, exists_eq_right', exists_eq', true_and, and_true, decide_eq_true_eq, List.cons.injEq, reduceCtorEq, false_and, false_or, or_false, exists_false, exists_and_left, exists_and_right, and_assoc])
section
variable {P : Program} {w : World} {K : PySem.W.Frag} {mg : Str → Option Value} {base : Heap}
theorem ok_isroom (T : Txt w K mg) : Ok P w K mg base CX0 3 "_law_is_room" ["cells"] spRoom := by
  obtain ⟨f, fd, D⟩ := T.d_L_is_room
  refine ⟨f, fd, D.F.ok sc_L_is_room (fun vs H Q E h => ?_) (fun cdv A outer s H vs Q E hr h => ?_), D.g, D.F.kp, D.b⟩
  · obtain ⟨a, cs, us, rfl, _⟩ := h
    rfl
  · obtain ⟨a, cs, us, rfl, ea, hcs, hnd, hlen, hne, hB, h⟩ := h
    have nd := sc_L_is_room.nd
    have hu := hu_of hr
    refine ⟨_, pss_cons (ps_if (pt_cmpR op_ne (pe_callB call_len_seq (by rfl) T.z_len PySem.boot_len (pa_cons (pe_d (ok_parts T) hr pass0 (pa_cons (pv 0) (pa_cons pe_bl pa_nil))) pa_nil)) pe_int (nomark _)) (pss_one (ps_ret pe_bl)) pss_nil)
      (pss_cons (ps_par (i := 2) (j := 3) (by rfl) nd rfl rfl (by decide) rfl rfl
        (pa_cons (pe_lc (own := [("x", 1), ("y", 6)]) (g := gTup K 2 (gCons (gName 1) (gCons (gName 6) gNil))) (tt := tYes) (te := tVar 1) rfl nd (pi_list (pv 0)) (blkOk_by (N := n_L_is_room) (sc := defScope s_L_is_room) (by decide +kernel))
            (fun _ _ _ _ _ => by exact pg_tup (by rfl) (pgs_cons (pg_name (i := 1) nd rfl (.inl rfl)) (pgs_cons (pg_name (i := 6) nd rfl (.inl rfl)) pgs_nil))) (fun _ _ _ _ _ => pts_nil) (fun _ _ _ _ _ => by exact (pv 1)))
        (pa_cons (pe_lc (own := [("x", 1), ("y", 6)]) (g := gTup K 2 (gCons (gName 1) (gCons (gName 6) gNil))) (tt := tYes) (te := tVar 6) rfl nd (pi_list (pv 0)) (blkOk_by (N := n_L_is_room) (sc := defScope s_L_is_room) (by decide +kernel))
            (fun _ _ _ _ _ => by exact pg_tup (by rfl) (pgs_cons (pg_name (i := 1) nd rfl (.inl rfl)) (pgs_cons (pg_name (i := 6) nd rfl (.inl rfl)) pgs_nil))) (fun _ _ _ _ _ => pts_nil) (fun _ _ _ _ _ => by exact (pv 6))) pa_nil)) (by rfl))
      (pss_cons (ps_set (i := 4) nd rfl (.inl rfl) (pe_lst pa_nil))
      (pss_cons (ps_for PassesOwn.never rfl (pi_range2 (by rfl) T.z_range (pa_cons (pe_op op_sub (pe_callB (cr_min rfl) (by rfl) T.z_min (by decide +kernel) (pa_cons (pv 2) pa_nil)) pe_int) (pa_cons (pe_op op_add (pe_callB (cr_max rfl) (by rfl) T.z_max (by decide +kernel) (pa_cons (pv 2) pa_nil)) pe_int) pa_nil))) (pg_name (i := 1) nd rfl (.inr rfl))
        (pss_one (ps_set (i := 4) nd rfl (.inl rfl) (pe_op op_cat (pv 4)
          (pe_lc (own := [("y", 6)]) (g := gName 6) (tt := tYes) (te := tTup (tCons (tVar 1) (tCons (tVar 6) tNil))) rfl nd (pi_range2 (by rfl) T.z_range (pa_cons (pe_op op_sub (pe_callB (cr_min rfl) (by rfl) T.z_min (by decide +kernel) (pa_cons (pv 3) pa_nil)) pe_int) (pa_cons (pe_op op_add (pe_callB (cr_max rfl) (by rfl) T.z_max (by decide +kernel) (pa_cons (pv 3) pa_nil)) pe_int) pa_nil)))
            (blkOk_by (N := n_L_is_room) (sc := defScope s_L_is_room) (by decide +kernel)) (fun _ _ _ _ _ => pg_name (i := 6) nd rfl (.inl rfl)) (fun _ _ _ _ _ => pts_nil) (fun _ _ _ _ _ => by exact (pe_tup (pa_cons (pv 1) (pa_cons (pv 6) pa_nil)))))))))
      (pss_cons (ps_set (i := 5) nd rfl (.inr rfl) (pe_callTy (call_dictT rfl hr.units) (by rfl) T.z_dict (by decide +kernel) (pa_cons (pe_lc (own := [("cell", 7)]) (g := gName 7) (tt := tYes) (te := tTup (tCons (tVar 7) (tCons (tC (.int 0)) tNil))) rfl nd (pi_list (pv 0)) (blkOk_by (N := n_L_is_room) (sc := defScope s_L_is_room) (by decide +kernel))
          (fun _ _ _ _ _ => pg_name (i := 7) nd rfl (.inl rfl)) (fun _ _ _ _ _ => pts_nil) (fun _ _ _ _ _ => by exact (pe_tup (pa_cons (pv 7) (pa_cons pe_int pa_nil))))) pa_nil)))
      (pss_one (ps_ret (pe_cmpR op_eq (pe_callB call_len_seq (by rfl) T.z_len PySem.boot_len (pa_cons (pe_d (ok_parts T) hr pass0 (pa_cons
          (pe_lc (own := [("cell", 7)]) (g := gName 7) (tt := tB (tDNotIn (tVar 7) (tVar 5))) (te := tVar 7) rfl nd (pi_list (pv 4)) (blkOk_by (N := n_L_is_room) (sc := defScope s_L_is_room) (by decide +kernel))
            (fun _ _ _ _ _ => pg_name (i := 7) nd rfl (.inl rfl)) (fun _ _ _ _ _ => by exact (pts_one (pt_cmp (pc_dnotin hu (pv 7) (pv 5))))) (fun _ _ _ _ _ => by exact (pv 7)))
          (pa_cons pe_bl pa_nil))) pa_nil)) pe_int (nomark _)))))))), ?_⟩
    walk_at "go"
    refine ⟨a, false, cs, us, rfl, ea, hcs, hnd, by omega, fun p1 H1 ps ws s1 hp1 e1 t1 P1 => ⟨p1, rfl, ws, .inl (SqL.of e1), rfl, ?_⟩⟩
    by_cases hw : ws.length = 1
    case neg =>
      rw [if_pos (by rw [decide_eq_false (by omega)]; rfl)]
      exact h false H1 s1 (fun z => nomatch z)
    rw [if_neg (by rw [decide_eq_true (by omega)]; decide)]
    have ea1 := s1 _ _ ea
    refine ⟨.ref a, rfl, a, rfl, ⟨us, SqL.of ea1⟩, fun X hX => lc_list (xs := us) (fun i H' => Same H1 H' ∧ H' X = some (.lst ((cs.take i).map fun c => V.int c.1))) ⟨same_new hX, upd_same⟩ (fun i H' _ ⟨sm, _⟩ => SqL.of (sm _ _ ea1)) ?_ ?_⟩
    · rintro i x H2 hx ⟨sm, eX⟩
      obtain ⟨c, hc, t, rfl, et⟩ := hcs.get hx
      have hi := get_lt hc
      walk_at "go"
      refine ⟨_, .inl (.inl (sm _ _ (s1 _ _ et))), rfl, _, _, rfl, _, _, rfl, rfl, ?_⟩
      refine ⟨_, eX, by rw [List.length_map, List.length_take]; exact small_lt (m := 1000) (by omega) (by decide), same_in sm hX, ?_⟩
      rw [upd_same, List.take_succ, hc, List.map_append]
      rfl
    rintro H2 ⟨s2, eX⟩
    have ea2 := s2 _ _ ea1
    rw [hcs.length, List.take_length] at eX
    refine ⟨.ref a, rfl, a, rfl, ⟨us, SqL.of ea2⟩, fun Y hY => lc_list (xs := us) (fun i H' => Same H2 H' ∧ H' Y = some (.lst ((cs.take i).map fun c => V.int c.2))) ⟨same_new hY, upd_same⟩ (fun i H' _ ⟨sm, _⟩ => SqL.of (sm _ _ ea2)) ?_ ?_⟩
    · rintro i x H2 hx ⟨sm, eY⟩
      obtain ⟨c, hc, t, rfl, et⟩ := hcs.get hx
      have hi := get_lt hc
      walk_at "go"
      refine ⟨_, .inl (.inl (sm _ _ (s2 _ _ (s1 _ _ et)))), rfl, _, _, rfl, _, _, rfl, rfl, ?_⟩
      refine ⟨_, eY, by rw [List.length_map, List.length_take]; exact small_lt (m := 1000) (by omega) (by decide), same_in sm hY, ?_⟩
      rw [upd_same, List.take_succ, hc, List.map_append]
      rfl
    rintro H3 ⟨s3, eY⟩
    rw [hcs.length, List.take_length] at eY
    have eX3 := s3 _ _ eX
    have lpos : 0 < cs.length := List.length_pos_iff.mpr hne
    refine ⟨Nat.zero_le _, fun F hF => ?_⟩
    have s4 := same_new (o := .lst []) hF
    have eX4 := s4 _ _ eX3
    have eY4 := s4 _ _ eY
    have eXi : (cs.map fun c => V.int c.1) = (cs.map fun c => c.1).map V.int := by rw [List.map_map]; rfl
    have eYi : (cs.map fun c => V.int c.2) = (cs.map fun c => c.2).map V.int := by rw [List.map_map]; rfl
    rw [eXi] at eX4
    rw [eYi] at eY4
    refine ⟨_, rfl, X, _, rfl, SqL.of eX4, by rw [List.length_map]; exact lpos, fun x0 mx0 hx0 => ?_⟩
    refine ⟨_, _, rfl, rfl, _, rfl, X, _, rfl, SqL.of eX4, by rw [List.length_map]; exact lpos, fun x1 mx1 hx1 => ?_⟩
    refine ⟨_, _, rfl, rfl, _, _, rfl, ?_⟩
    obtain ⟨cx0, hc0, rfl⟩ := List.mem_map.mp mx0
    obtain ⟨cx1, hc1, rfl⟩ := List.mem_map.mp mx1
    have nys : (cs.map fun c => c.2) ≠ [] := by
      intro z
      exact hne (List.map_eq_nil_iff.mp z)
    obtain ⟨y0, my0, hy0⟩ := ex_min nys
    obtain ⟨y1, my1, hy1⟩ := ex_max nys
    have b0 := hB _ hc0
    have b1 := hB _ hc1
    have b2 : -100 ≤ y0 ∧ y0 ≤ 100 := by
      obtain ⟨c, hc, rfl⟩ := List.mem_map.mp my0
      exact (hB c hc).2
    have b3 : -100 ≤ y1 ∧ y1 ≤ 100 := by
      obtain ⟨c, hc, rfl⟩ := List.mem_map.mp my1
      exact (hB c hc).2
    have s04 : Same H (upd H3 F (.lst [])) := ((s1.trans s2).trans s3).trans s4
    have hxx := hx1 _ mx0
    have hyy := hy1 _ my0
    refine ⟨⟨by omega, by omega, by omega, by omega⟩, for_range (lo := cx0.1 - 1) (n := (cx1.1 + 2 - (cx0.1 - 1)).toNat) (fun i σ H5 => ∃ v1 F' vs, σ = [some (.ref a), v1, some (.ref X), some (.ref Y), some (.ref F'), none, none, none] ∧ Same (upd H3 F (.lst [])) H5 ∧ H5 F' = some (.lst vs) ∧ Cells H5 (boxL (cx0.1 - 1) (y0 - 1) i (y1 + 2 - (y0 - 1)).toNat) vs) ⟨_, F, [], rfl, fun _ _ z => z, upd_same, .nil⟩ ?_ ?_⟩
    · rintro i σ H5 hi ⟨v1, F', vs, rfl, s5, eF, cF⟩
      have eY5 := s5 _ _ eY4
      walk_at "go"
      have ny : 0 < (cs.map fun c => c.2).length := by rw [List.length_map]; exact lpos
      refine ⟨_, rfl, Y, _, rfl, SqL.of eY5, ny, fun y0' my0' hy0' => ?_⟩
      refine ⟨_, _, rfl, rfl, _, rfl, Y, _, rfl, SqL.of eY5, ny, fun y1' my1' hy1' => ?_⟩
      obtain rfl : y0' = y0 := Int.le_antisymm (hy0' _ my0) (hy0 _ my0')
      obtain rfl : y1' = y1 := Int.le_antisymm (hy1 _ my1') (hy1' _ my1)
      refine ⟨_, _, rfl, rfl, _, _, rfl, ⟨by omega, by omega, by omega, by omega⟩, fun G hG => ?_⟩
      refine lc_it walk_range (fun j H' => Same H5 H' ∧ ∃ gs, H' G = some (.lst gs) ∧ Cells H' (colL (cx0.1 - 1 + i) (y0' - 1) j) gs) ⟨same_new hG, [], upd_same, .nil⟩ (fun _ _ _ _ => trivial) ?_ ?_
      · rintro j x H6 H6' hj ⟨s6, gs, eG, cG⟩ ⟨rfl, rfl⟩
        walk_at "go"
        refine ⟨by decide, fun p hp => ⟨gs, by rw [upd_ne (ne_of_none eG hp)]; exact eG, ?_, same_in (s6.trans (same_new hp)) hG, gs ++ [.ref p], upd_same, ?_⟩⟩
        · rw [cG.length, col_len]
          exact small_lt (m := 1000) (by omega) (by decide)
        · have e : colL (cx0.1 - 1 + i) (y0' - 1) (j + 1) = colL (cx0.1 - 1 + i) (y0' - 1) j ++ [(cx0.1 - 1 + (i : Int), y0' - 1 + (j : Int))] := by
            unfold colL
            rw [List.range_succ, List.map_append]
            rfl
          rw [e]
          have k1 := same_new (o := .tup [V.int (cx0.1 - 1 + i), V.int (y0' - 1 + j)]) hp
          exact ((cG.tk (.same k1)).append (.cons ⟨p, rfl, upd_same⟩ .nil)).tk (Tk2.lst (k1 _ _ eG))
      · rintro H6 ⟨s6, gs, eG, cG⟩
        have cF6 := cF.tk (.same s6)
        refine ⟨F', G, vs, gs, rfl, rfl, s6 _ _ eF, eG, ?_, fun z hz => ⟨z, rfl, (s5.trans s6).trans (same_new hz), _, upd_same, ?_⟩⟩
        · rw [cF.length, cG.length, box_len, col_len]
          have m1 : i * (y1' + 2 - (y0' - 1)).toNat ≤ 203 * 203 := Nat.mul_le_mul (by omega) (by omega)
          exact small_sz (m := 100000) (by omega) (by decide)
        · rw [box_succ]
          exact (cF6.append cG).tk (.new hz)
    · rintro σ H5 ⟨v1, F', vs, rfl, s5, eF, cF⟩
      have s05 := s04.trans s5
      have ea5 := s05 _ _ ea
      have hcs5 := hcs.tk (.same s05)
      refine ⟨.ref a, rfl, a, rfl, ⟨us, SqL.of ea5⟩, fun G hG => lc_list (xs := us) (fun i H' => ∃ L : List PrT, H' G = some (.lst (L.map fun e => V.ref e.pr)) ∧ L.map (fun e => e.k) = (cs.take i).map kC ∧ (∀ e ∈ L, e.v = .int 0 ∧ H' e.pr = some (.tup [.ref e.ka, e.v]) ∧ H' e.ka = some (.tup (e.k.map kV))) ∧ Same H5 H') ⟨[], upd_same, rfl, fun _ z => (nomatch z), same_new hG⟩ (fun i H' _ ⟨_, _, _, _, sm⟩ => SqL.of (sm _ _ ea5)) ?_ ?_⟩
      · rintro i x H6 hx ⟨L, eL, ek, hL, sm⟩
        obtain ⟨c, hc, t, rfl, et⟩ := hcs5.get hx
        have hi := get_lt hc
        walk_at "go"
        refine ⟨by decide, fun p hp => ⟨_, by rw [upd_ne (ne_of_none eL hp)]; exact eL, ?_, L ++ [⟨p, t, kC c, .int 0⟩], ?_, ?_, fun e he => ?_, ?_⟩⟩
        · have hl := congrArg List.length ek
          rw [List.length_map, List.length_map, List.length_take] at hl
          rw [List.length_map, hl]
          exact small_lt (m := 100000) (by omega) (by decide)
        · rw [upd_same, List.map_append]
          rfl
        · rw [List.map_append, ek, List.take_succ, hc, List.map_append]
          rfl
        · have k1 : Tk2 H6 (upd H6 p (.tup [V.ref t, V.int 0])) := .new hp
          have k2 : Tk2 (upd H6 p (.tup [V.ref t, V.int 0])) (upd (upd H6 p (.tup [V.ref t, V.int 0])) G (.lst ((L.map fun e => V.ref e.pr) ++ [V.ref p]))) := Tk2.lst (ys := L.map fun e => V.ref e.pr) (by rw [upd_ne (ne_of_none eL hp)]; exact eL)
          have k := k1.trans k2
          rcases List.mem_append.mp he with he | he
          · obtain ⟨e1, e2, e3⟩ := hL e he
            exact ⟨e1, k _ _ e2, k _ _ e3⟩
          · rw [List.mem_singleton.mp he]
            exact ⟨rfl, k2 _ _ upd_same, k _ _ (sm _ _ et)⟩
        · exact same_in (sm.trans (same_new hp)) hG
      · rintro H6 ⟨L, eL, ek, hL, sm⟩
        rw [hcs5.length, List.take_length] at ek
        have eL2 : (L.map fun e => (e.k, e.v)) = cs.map dl := by
          have e1 : (L.map fun e => (e.k, e.v)) = (L.map fun e => e.k).map fun k => (k, V.int 0) := by
            rw [List.map_map]
            exact List.map_congr_left fun e he => by show (e.k, e.v) = _; rw [(hL e he).1]; rfl
          rw [e1, ek, List.map_map]
          rfl
        have nk : (L.map fun e => e.k).Nodup := by
          rw [ek]
          exact List.Pairwise.map kC (fun x y n z => n (kC_inj z)) hnd
        have eM : mergeT L [] = cs.map dl := by
          rw [merge_new L [] nk (fun _ z => nomatch z), List.nil_append, eL2]
        refine ⟨G, L, rfl, SqL.of eL, fun e he => ⟨SqT.of (hL e he).2.1, (hL e he).2.2⟩, fun D hD => ?_⟩
        rw [eM]
        have s7 : Same H5 (upd H6 D (.dT (cs.map dl))) := sm.trans (same_new hD)
        have eF7 := s7 _ _ eF
        have cF7 := cF.tk (.same s7)
        generalize hfr : boxL (cx0.1 - 1) (y0 - 1) (cx1.1 + 2 - (cx0.1 - 1)).toNat (y1 + 2 - (y0 - 1)).toNat = fr at cF7
        have lfr : fr.length ≤ 100000 := by
          rw [← hfr, box_len]
          have m1 : (cx1.1 + 2 - (cx0.1 - 1)).toNat * (y1 + 2 - (y0 - 1)).toNat ≤ 203 * 203 := Nat.mul_le_mul (by omega) (by omega)
          omega
        have eD7 : upd H6 D (.dT (cs.map dl)) D = some (.dT (cs.map dl)) := upd_same
        generalize upd H6 D (.dT (cs.map dl)) = H7 at s7 eF7 cF7 eD7
        walk_at "go"
        refine ⟨.ref F', rfl, F', rfl, ⟨_, SqL.of eF7⟩, fun G2 hG2 => lc_list (xs := vs) (fun i H' => Same H7 H' ∧ ∃ gs, H' G2 = some (.lst gs) ∧ Cells H' ((fr.take i).filter fun c => decide (c ∉ cs)) gs) ⟨same_new hG2, [], upd_same, .nil⟩ (fun i H' _ ⟨sm, _⟩ => SqL.of (sm _ _ eF7)) ?_ ?_⟩
        · rintro i x H8 hx ⟨s8, gs, eG, cG⟩
          obtain ⟨c, hc, t, rfl, et⟩ := cF7.get hx
          have et8 := s8 _ _ et
          walk_at "go"
          refine ⟨_, rfl, _, rfl, D, _, rfl, DGet.t (k := kC c) (s8 _ _ eD7) et8, _, rfl, ?_⟩
          by_cases mc : c ∈ cs
          · rw [dl_val_in mc, if_neg (by decide)]
            refine ⟨s8, gs, eG, ?_⟩
            rw [List.take_succ, hc, List.filter_append]
            have : List.filter (fun c => decide (c ∉ cs)) (some c).toList = [] := by simp [mc]
            rw [this, List.append_nil]
            exact cG
          · rw [dl_val_out mc, if_pos (by decide)]
            refine ⟨gs, eG, ?_, same_in s8 hG2, gs ++ [.ref t], upd_same, ?_⟩
            · rw [cG.length]
              have l1 := List.length_filter_le (fun c => decide (c ∉ cs)) (fr.take i)
              rw [List.length_take] at l1
              exact small_lt (m := 100000) (by omega) (by decide)
            · rw [List.take_succ, hc, List.filter_append]
              have : List.filter (fun c => decide (c ∉ cs)) (some c).toList = [c] := by simp [mc]
              rw [this]
              exact (cG.append (.cons ⟨t, rfl, et8⟩ .nil)).tk (Tk2.lst eG)
        · rintro H8 ⟨s8, gs, eG, cG⟩
          rw [cF7.length, List.take_length] at cG
          refine ⟨G2, true, _, gs, rfl, eG, cG, ?_, Nat.le_trans (List.length_filter_le _ _) lfr, fun p9 H9 qs zs s9 hp9 e9 t9 P9 => ⟨p9, rfl, zs, .inl (SqL.of e9), rfl, ?_⟩⟩
          · rw [← hfr]
            exact (box_nodup _ _ _ _).sublist List.filter_sublist
          · refine h _ H9 (((s05.trans s7).trans s8).trans s9) fun hz => ?_
            have hz := of_decide_eq_true hz
            have l1 := t1.length
            have l9 := t9.length
            obtain ⟨p, rfl⟩ : ∃ p, ps = [p] := List.length_eq_one_iff.mp (by omega)
            obtain ⟨q, rfl⟩ : ∃ q, qs = [q] := List.length_eq_one_iff.mp (by omega)
            refine ⟨⟨p, P1⟩, cx0.1 - 1, y0 - 1, _, _, q, fun c hc => ?_, by rw [hfr]; exact P9⟩
            have z1 := hx0 _ (List.mem_map.mpr ⟨c, hc, rfl⟩)
            have z2 := hx1 _ (List.mem_map.mpr ⟨c, hc, rfl⟩)
            have z3 := hy0 _ (List.mem_map.mpr ⟨c, hc, rfl⟩)
            have z4 := hy1 _ (List.mem_map.mpr ⟨c, hc, rfl⟩)
            omega
end
end TX
/-! part D4m -/
/-! A snake's cells. -/
namespace CM
/-- l is ahead of all, going v -/
def Front (cs : List Cl) (l : Cl) (v : Int) : Prop := ∀ c ∈ cs, c.2 < l.2 ∨ (c.2 = l.2 ∧ ((v = 1 ∧ c.1 ≤ l.1) ∨ (v = -1 ∧ l.1 ≤ c.1)))
def Top (cs : List Cl) (l : Cl) : Prop := ∀ c ∈ cs, c.2 < l.2 ∨ c = l
theorem Top.front {cs : List Cl} {l : Cl} {v : Int} (h : Top cs l) (hv : v = 1 ∨ v = -1) : Front cs l v := fun c hc => by
  rcases h c hc with z | z
  · exact .inl z
  · subst z
    rcases hv with e | e
    · exact .inr ⟨rfl, .inl ⟨e, Int.le_refl _⟩⟩
    · exact .inr ⟨rfl, .inr ⟨e, Int.le_refl _⟩⟩
/-- cells about the origin -/
structure Sk (cs : List Cl) (l : Cl) : Prop where
  last : ∃ r, cs = r ++ [l]
  nd : cs.Nodup
  b : ∀ c ∈ cs, (-(cs.length : Int) ≤ c.1 ∧ c.1 ≤ cs.length) ∧ -(cs.length : Int) ≤ c.2 ∧ c.2 ≤ cs.length
theorem Sk.mem {cs : List Cl} {l : Cl} (h : Sk cs l) : l ∈ cs := by
  obtain ⟨r, e⟩ := h.last
  rw [e]
  exact List.mem_append.mpr (.inr (List.mem_singleton.mpr rfl))
theorem Sk.one : Sk [((0, 0) : Cl)] (0, 0) := ⟨⟨[], rfl⟩, by simp, fun c hc => by
  rw [List.mem_singleton.mp hc]
  decide⟩
theorem Sk.add {cs : List Cl} {l x : Cl} (h : Sk cs l) (hx : x ∉ cs) (n : ∃ c ∈ cs, (c.1 - 1 ≤ x.1 ∧ x.1 ≤ c.1 + 1) ∧ c.2 - 1 ≤ x.2 ∧ x.2 ≤ c.2 + 1) : Sk (cs ++ [x]) x := by
  refine ⟨⟨cs, rfl⟩, List.nodup_append.mpr ⟨h.nd, by simp, fun a ha b hb z => ?_⟩, fun c hc => ?_⟩
  · rw [List.mem_singleton] at hb
    rw [z, hb] at ha
    exact hx ha
  · rw [List.length_append, List.length_singleton]
    rcases List.mem_append.mp hc with hc | hc
    · have := h.b c hc
      omega
    · rw [List.mem_singleton.mp hc]
      obtain ⟨a, ha, z⟩ := n
      have := h.b a ha
      omega
theorem Front.off {cs : List Cl} {l : Cl} {v : Int} (h : Front cs l v) (hv : v = 1 ∨ v = -1) : (l.1 + v, l.2) ∉ cs := fun z => by
  have := h _ z
  dsimp only at this
  omega
theorem Front.side {cs : List Cl} {l : Cl} {v : Int} (h : Front cs l v) (hv : v = 1 ∨ v = -1) : Front (cs ++ [(l.1 + v, l.2)]) (l.1 + v, l.2) v := fun c hc => by
  rcases List.mem_append.mp hc with hc | hc
  · have := h c hc
    dsimp only
    omega
  · rw [List.mem_singleton.mp hc]
    refine .inr ⟨rfl, ?_⟩
    rcases hv with e | e
    · exact .inl ⟨e, Int.le_refl _⟩
    · exact .inr ⟨e, Int.le_refl _⟩
theorem Front.up_off {cs : List Cl} {l : Cl} {v : Int} (h : Front cs l v) : (l.1, l.2 + 1) ∉ cs := fun z => by
  have := h _ z
  dsimp only at this
  omega
theorem Front.up {cs : List Cl} {l : Cl} {v : Int} (h : Front cs l v) : Top (cs ++ [(l.1, l.2 + 1)]) (l.1, l.2 + 1) := fun c hc => by
  rcases List.mem_append.mp hc with hc | hc
  · have := h c hc
    dsimp only
    omega
  · exact .inr (List.mem_singleton.mp hc)
end CM
/-! part D4 -/
/-! _law_snake. -/
namespace TX
open PySem PySem.Spec PyProof.Rows L2 NT
theorem Src.tk {H H' : Hp} {d c : Addr} (S : Src H d c) (k : Kp (DC d c) H H') : Tk2 H H' := fun t xs e => by
  obtain ⟨s, hs, _⟩ := S
  refine k _ _ e fun z => ?_
  rcases z with z | z
  · rw [z, hs.dd] at e
    cases e
  · rw [z, hs.cc] at e
    cases e
theorem kp_in {S : Addr → Prop} {H H1 : Hp} {p : Addr} {o : HO} (s : Kp S H H1) (h : H p = none) : Kp S H (upd H1 p o) := fun b u hb n => by
  rw [upd_ne (ne_of_none hb h)]
  exact s b u hb n
/-- some cells about the origin, in a new list -/
structure CellsOk (B : Nat) (cs : List (Int × Int)) : Prop where
  nd : cs.Nodup
  ne : cs ≠ []
  len : cs.length ≤ B
  b : ∀ c ∈ cs, (-(cs.length : Int) ≤ c.1 ∧ c.1 ≤ cs.length) ∧ -(cs.length : Int) ≤ c.2 ∧ c.2 ≤ cs.length
def spSnake : Sp := fun vs H Q _ => ∃ (d c : Addr) (m : Int), vs = [.ref d, .int m] ∧ Src H d c ∧ -100 ≤ m ∧ m ≤ 60 ∧
  ∀ p H' cs us, Kp (DC d c) H H' → Src H' d c → H p = none → H' p = some (.lst us) → Cells H' cs us → CellsOk 60 cs → Q (.ref p) H'
/-- a lap's moves -/
def mvs (k : Nat) (v : Int) : List (Int × Int) := List.replicate k (v, 0) ++ [(0, 1), (0, 1)]
theorem mvs_get {k : Nat} {v : Int} {j : Nat} {x : Int × Int} (h : (mvs k v)[j]? = some x) : (j < k ∧ x = (v, 0)) ∨ (k ≤ j ∧ x = (0, 1)) := by
  unfold mvs at h
  by_cases hj : j < k
  · rw [List.getElem?_append_left (by rw [List.length_replicate]; exact hj), List.getElem?_replicate, if_pos hj] at h
    exact .inl ⟨hj, (Option.some.inj h).symm⟩
  · rw [List.getElem?_append_right (by rw [List.length_replicate]; omega), List.length_replicate] at h
    refine .inr ⟨by omega, ?_⟩
    have hl := (List.getElem?_eq_some_iff.mp h).1
    simp only [List.length_cons, List.length_nil] at hl
    rcases (show j - k = 0 ∨ j - k = 1 by omega) with e | e <;> rw [e] at h <;> exact (Option.some.inj h).symm
theorem ite_v {p : Prop} {_i : Decidable p} {X : Int → Prop} (h : ∀ v, (v = 1 ∨ v = -1) → X v) : ∀ v, (v = 1 ∨ v = -1) → ∀ u, (u = 1 ∨ u = -1) → if p then X u else X v := by
  intro v hv u hu
  split
  · exact h u hu
  · exact h v hv
local macro_rules | `(tactic| walk_at "go") => `(tactic| simp only [L2.start, List.map_cons, List.map_nil, List.length_cons, List.length_nil, Nat.reduceSub, Nat.reduceAdd, List.replicate_succ, List.replicate_zero, List.cons_append, List.nil_append, List.append_nil,
  tSeq, tNext, tRet, tIfS, tTest, tAnd, tOr, tNot, tCB, tCall, tCons, tNil, tVar, tC, tOp, tUn, tAsg, gName, rI0, rI, CMul, CDiv, tDGet, sDPut, tBM0, tBM, tTup, tLst, tPar, tPar3, gTup, gNil, gCons, tIf, tAug, tRevL, tDisp, tPairs, tYes, wipe, tDrop, L2.tSl, tNotV, tAndV, tOrV, tB, rSlS, ipI, tNoPart, NdefX.startF, tOst, tMkO, rIxL, rIxT, rIxS, rAppend, rExtend, rPop, rSlL, rSetL, tPart, rEq, rNe, tFmt,  tJs,  gLst, tThen, tIf, rRep, tThenZ,    rSortedP,  rPopAt, tCallS, ↓reduceIte, L2.gSub, ↓reduceIte,
  List.getElem?_cons_zero, List.getElem?_cons_succ, List.set_cons_zero, List.set_cons_succ, Option.some.injEq, V.int.injEq, V.str.injEq, V.ref.injEq, V.bl.injEq, exists_eq_left, exists_eq_left', exists_eq_right, exists_eq_right', exists_eq', true_and, and_true, decide_eq_true_eq, List.cons.injEq, reduceCtorEq, false_and, false_or, or_false, exists_false, exists_and_left, exists_and_right, and_assoc])
section
variable {P : Program} {w : World} {K : PySem.W.Frag} {mg : Str → Option Value} {base : Heap}
theorem ok_snake (T : Txt w K mg) : Ok P w K mg base CX0 2 "_law_snake" ["source", "many"] spSnake := by
  obtain ⟨f, fd, D⟩ := T.d_L_snake
  refine ⟨f, fd, D.F.ok sc_L_snake (fun vs H Q E h => ?_) (fun cdv A outer s H vs Q E hr h => ?_), D.g, D.F.kp, D.b⟩
  · obtain ⟨d, c, m, rfl, _⟩ := h
    rfl
  · obtain ⟨d, c, m, rfl, S0, hm0, hm, h⟩ := h
    have nd := sc_L_snake.nd
    have hu := hu_of hr
    refine ⟨_, pss_cons (ps_par (i := 2) (j := 3) (by rfl) nd rfl rfl (by decide) rfl rfl (pa_cons (pe_lst (pa_cons (pe_tup (pa_cons pe_int (pa_cons pe_int pa_nil))) pa_nil)) (pa_cons pe_int pa_nil)) (by rfl))
      (pss_cons (ps_for PassesOwn.never rfl (pi_range1 (by rfl) T.z_range (pa_cons (pv 1) pa_nil)) (pg_name (i := 4) nd rfl (.inl rfl))
        (pss_cons (ps_set (i := 3) nd rfl (.inl rfl) (pe_ifExp (pt_cmpR op_gt (pe_d (ok_pickI T) hr pass0 (pa_cons (pv 0) (pa_cons pe_int pa_nil))) pe_int (nomark _)) (pe_op op_sub pe_int (pv 3)) (pv 3)))
        (pss_one (ps_for PassesOwn.never rfl (pi_list (pe_op op_cat (pe_op op_rep (pe_lst (pa_cons (pe_tup (pa_cons (pv 3) (pa_cons pe_int pa_nil))) pa_nil)) (pe_op op_add pe_int (pe_callTy call_int1 (by rfl) T.z_int (by decide +kernel) (pa_cons (pe_cmpR op_eq (pe_d (ok_pickI T) hr pass0 (pa_cons (pv 0) (pa_cons pe_int pa_nil))) pe_int (nomark _)) pa_nil)))) (pe_lst (pa_cons (pe_tup (pa_cons pe_int (pa_cons pe_int pa_nil))) (pa_cons (pe_tup (pa_cons pe_int (pa_cons pe_int pa_nil))) pa_nil)))))
          (pg_tup (by rfl) (pgs_cons (pg_name (i := 5) nd rfl (.inl rfl)) (pgs_cons (pg_name (i := 6) nd rfl (.inl rfl)) pgs_nil)))
          (pss_one (ps_if (pt_cmpR op_lt (pe_callB call_len_seq (by rfl) T.z_len PySem.boot_len (pa_cons (pv 2) pa_nil)) (pv 1) (nomark _))
            (pss_one (ps_expr (pe_bm PySem.F.plainAttrs_list PySem.F.slot_list_append PySem.F.type_list_append mt_append (pv 2) (pa_cons (pe_tup (pa_cons (pe_op op_add (pe_ix ix_tup (pe_ix ix_list (pv 2) (pe_un un_neg pe_int) (fun _ _ => rfl)) pe_int (fun _ _ => rfl)) (pv 5)) (pa_cons (pe_op op_add (pe_ix ix_tup (pe_ix ix_list (pv 2) (pe_un un_neg pe_int) (fun _ _ => rfl)) pe_int (fun _ _ => rfl)) (pv 6)) pa_nil))) pa_nil))))
            pss_nil))))))
      (pss_one (ps_ret (pv 2)))), ?_⟩
    walk_at "go"
    refine ⟨by decide, fun t0 ht0 => ⟨by decide, fun C hC => ?_⟩⟩
    have s1 := same_new (o := .tup [V.int 0, V.int 0]) ht0
    have hC0 : H C = none := s1.free hC
    have s2 := s1.trans (same_new (o := .lst [V.ref t0]) hC)
    have S2 := S0.same s2
    have nC := S0.off hC0
    have et0 := same_new (o := .lst [V.ref t0]) hC t0 _ upd_same
    have st : Cells (upd (upd H t0 (.tup [V.int 0, V.int 0])) C (.lst [V.ref t0])) [(0, 0)] [V.ref t0] := .cons ⟨t0, rfl, et0⟩ .nil
    refine ⟨.int m, rfl, m, rfl, by omega, by omega, for_range (lo := 0) (n := m.toNat) (fun i σ H1 => ∃ cs us l v v4 v5 v6, σ = [some (.ref d), some (.int m), some (.ref C), some (.int v), v4, v5, v6] ∧ Kp (DC d c) H H1 ∧ Src H1 d c ∧ H1 C = some (.lst us) ∧ Cells H1 cs us ∧ CM.Sk cs l ∧ ((cs.length : Int) ≤ m ∨ cs.length = 1) ∧ (v = 1 ∨ v = -1) ∧ ((cs.length : Int) < m → CM.Top cs l)) ⟨[(0, 0)], _, (0, 0), 1, _, _, _, rfl, Kp.of_same s2, S2, upd_same, st, CM.Sk.one, .inr rfl, .inl rfl, fun _ c hc => .inr (List.mem_singleton.mp hc)⟩ ?_ ?_⟩
    · rintro i σ H1 hi ⟨cs, us, l, v, v4, v5, v6, rfl, k1, S1, eC, cC, sk, hl, hv, htop⟩
      walk_at "go"
      refine pick_srcI S1 (by decide) fun r1 H2 _ _ S2 k2 => ⟨r1, rfl, ?_⟩
      obtain ⟨u, hu1, eu⟩ : ∃ u, (u = 1 ∨ u = -1) ∧ 0 - v = u := ⟨0 - v, by omega, rfl⟩
      rw [eu]
      clear eu
      revert u v
      refine ite_v fun v' hv1 => ?_
      have nCd : ¬ DC d c C := nC
      have eC2 := k2 _ _ eC nCd
      have cC2 := cC.tk (S1.tk k2)
      refine ⟨_, rfl, by show 2 ≤ sizeLine; decide, fun p1 hp1 => ⟨by show 1 ≤ sizeLine; decide, fun p2 hp2 => ⟨.ref d, rfl, ?_⟩⟩⟩
      have t1 := same_new (o := .tup [V.int v', V.int 0]) hp1
      have t2 := t1.trans (same_new (o := .lst [V.ref p1]) hp2)
      have n2 := S2.off (t1.free hp2)
      change spPickI [V.ref d, V.int 5] _ _ _
      refine pick_srcI (n := 5) (S2.same t2) (by decide) fun r2 H3 _ _ S3 k3 => ?_
      have e2 := k3 _ _ (upd_same (H := upd H2 p1 (.tup [V.int v', V.int 0])) (a := p2) (o := .lst [V.ref p1])) n2
      have et1 := (S2.same t2).tk k3 _ _ ((same_new (o := .lst [V.ref p1]) hp2) p1 _ upd_same)
      have eC3 := k3 _ _ (t2 _ _ eC2) nCd
      have cC3 := cC2.tk ((Tk2.same t2).trans ((S2.same t2).tk k3))
      have kk3 : Kp (DC d c) H H3 := (k1.trans k2).trans ((Kp.of_same t2).trans k3)
      refine ⟨rfl, .inr ⟨_, rfl, ?_⟩⟩
      generalize hI : (if decide (V.int r2 = V.int 0) = true then (1 : Int) else 0) = I
      have hI1 : I = 0 ∨ I = 1 := by
        split at hI <;> omega
      clear hI k3 t2 n2
      obtain ⟨k, hk0, hk⟩ : ∃ k : Nat, 1 + I = (k : Int) ∧ (k = 1 ∨ k = 2) := ⟨(1 + I).toNat, by omega, by omega⟩
      refine ⟨1, I, rfl, rfl, p2, 1 + I, _, rfl, rfl, e2, by omega, by omega, ?_, fun p3 hp3 => ⟨by decide, fun p4 hp4 => ⟨by decide, fun p5 hp5 => ⟨by show 2 ≤ sizeLine; decide, fun p6 hp6 => ?_⟩⟩⟩⟩
      · rw [hk0, Int.toNat_natCast]
        exact small_sz (m := 2) (by show 1 * k ≤ 2; omega) (by decide)
      have fl : ∀ k : Nat, (List.replicate k [V.ref p1]).flatten = List.replicate k (V.ref p1) := fun k => by
        induction k with
        | zero => rfl
        | succ k ih => rw [List.replicate_succ, List.flatten_cons, ih, List.replicate_succ]; rfl
      rw [hk0, Int.toNat_natCast, fl] at hp4 hp5 hp6 ⊢
      have u1 := same_new (o := .lst (List.replicate k (V.ref p1))) hp3
      have u2 := same_new (o := .tup [V.int 0, V.int 1]) hp4
      have u3 := same_new (o := .tup [V.int 0, V.int 1]) hp5
      have u4 := same_new (o := .lst [V.ref p4, V.ref p5]) hp6
      refine ⟨p3, p6, _, _, rfl, rfl, u4 _ _ (u3 _ _ (u2 _ _ upd_same)), upd_same, ?_, fun p7 hp7 => ?_⟩
      · rw [List.length_replicate]
        exact small_sz (m := 4) (by show k + 2 ≤ 4; omega) (by decide)
      have u5 := same_new (o := .lst (List.replicate k (V.ref p1) ++ [V.ref p4, V.ref p5])) hp7
      have uu := (((u1.trans u2).trans u3).trans u4).trans u5
      have et4 := u5 _ _ (u4 _ _ (u3 p4 _ upd_same))
      have et5 := u5 _ _ (u4 p5 _ upd_same)
      have hp7C : C ≠ p7 := ne_of_none ((((u1.trans u2).trans u3).trans u4) _ _ eC3) hp7
      have e7 : upd _ p7 (.lst (List.replicate k (V.ref p1) ++ [V.ref p4, V.ref p5])) p7 = _ := upd_same (H := upd (upd (upd (upd H3 p3 (.lst (List.replicate k (V.ref p1)))) p4 (.tup [V.int 0, V.int 1])) p5 (.tup [V.int 0, V.int 1])) p6 (.lst [V.ref p4, V.ref p5]))
      have S4 := S3.same uu
      have k4 := kk3.trans (Kp.of_same uu)
      have eC4 := uu _ _ eC3
      have cC4 := cC3.tk (.same uu)
      have et14 := uu _ _ et1
      have hp7H : H p7 = none := by
        cases eh : H p7 with
        | none => rfl
        | some o =>
          exfalso
          by_cases z : DC d c p7
          · rcases z with z | z
            · obtain ⟨o2, ho⟩ := S3.hd
              have := (((u1.trans u2).trans u3).trans u4) _ _ ho
              rw [← z, hp7] at this
              cases this
            · obtain ⟨o2, ho⟩ := S3.hc
              have := (((u1.trans u2).trans u3).trans u4) _ _ ho
              rw [← z, hp7] at this
              cases this
          · have := (((u1.trans u2).trans u3).trans u4) _ _ (kk3 _ _ eh z)
            rw [hp7] at this
            cases this
      generalize upd (upd (upd (upd (upd H3 p3 (.lst (List.replicate k (V.ref p1)))) p4 (.tup [V.int 0, V.int 1])) p5 (.tup [V.int 0, V.int 1])) p6 (.lst [V.ref p4, V.ref p5])) p7 (.lst (List.replicate k (V.ref p1) ++ [V.ref p4, V.ref p5])) = H4 at e7 S4 k4 eC4 cC4 et14 et4 et5
      have cm : Cells H4 (mvs k v') (List.replicate k (V.ref p1) ++ [V.ref p4, V.ref p5]) := by
        refine Cells.append ?_ (.cons ⟨p4, rfl, et4⟩ (.cons ⟨p5, rfl, et5⟩ .nil))
        clear e7 fl u5 u4 u3 u2 u1 hp7 hp6 hp5 hp4 uu hk hI1 hk0
        induction k with
        | zero => exact .nil
        | succ k ih => exact .cons ⟨p1, rfl, et14⟩ ih
      refine ⟨p7, rfl, ⟨_, SqL.of e7⟩, for_list (xs := List.replicate k (V.ref p1) ++ [V.ref p4, V.ref p5]) (fun j σ H5 => ∃ cs us l v4 v5 v6, σ = [some (.ref d), some (.int m), some (.ref C), some (.int v'), v4, v5, v6] ∧ Kp (DC d c) H H5 ∧ Src H5 d c ∧ H5 C = some (.lst us) ∧ Cells H5 cs us ∧ CM.Sk cs l ∧ ((cs.length : Int) ≤ m ∨ cs.length = 1) ∧ ((cs.length : Int) < m → CM.Front cs l v' ∧ (k < j → CM.Top cs l)) ∧ H5 p7 = some (.lst (List.replicate k (V.ref p1) ++ [V.ref p4, V.ref p5])) ∧ Cells H5 (mvs k v') (List.replicate k (V.ref p1) ++ [V.ref p4, V.ref p5])) ⟨cs, us, l, _, _, _, rfl, k4, S4, eC4, cC4, sk, hl, fun z => ⟨(htop z).front hv1, fun z => absurd z (by omega)⟩, e7, cm⟩ (fun j σ H5 _ ⟨_, _, _, _, _, _, _, _, _, _, _, _, _, _, e, _⟩ => SqL.of e) ?_ ?_⟩
      · rintro j x σ H5 hx ⟨cs, us, l, v4, v5, v6, rfl, k5, S5, eC5, cC5, sk, hl, htop, e75, cm5⟩
        obtain ⟨mv, hmv, t, rfl, et⟩ := cm5.get hx
        have ncs : cs ≠ [] := fun z => by
          have := sk.mem
          rw [z] at this
          cases this
        obtain ⟨r0, l0, w0, lv, e1, e2', cr0, lt, rfl, elt⟩ := cC5.last ncs
        obtain ⟨r9, e9⟩ := sk.last
        obtain rfl : l0 = l := by
          have := e1.symm.trans e9
          have := congrArg List.getLast? this
          simpa using this
        have hat : atI us (-1) = some (V.ref lt) := by
          rw [e2']
          exact atI_last _ _
        walk_at "go"
        refine ⟨_, SqT.of et, rfl, _, _, rfl, _, _, rfl, rfl, us, .inl (SqL.of eC5), ?_⟩
        by_cases hlt : (us.length : Int) < m
        · rw [if_pos hlt]
          rw [cC5.length] at hlt
          refine ⟨.inl ⟨rfl, _, SqL.of eC5⟩, 1, rfl, us, _, rfl, SqL.of eC5, _, hat, lt, rfl, _, SqT.of elt, ?_⟩
          refine ⟨.int l0.1, rfl, l0.1, rfl, mv.1, rfl, 1, rfl, us, _, rfl, SqL.of eC5, _, hat, lt, rfl, _, SqT.of elt, .int l0.2, rfl, l0.2, rfl, mv.2, rfl, by decide, fun p hp => ?_⟩
          have sp := same_new (o := .tup [V.int (l0.1 + mv.1), V.int (l0.2 + mv.2)]) hp
          have eC6 := sp _ _ eC5
          have hF := htop hlt
          have add : ∀ x : Int × Int, x = (l0.1 + mv.1, l0.2 + mv.2) → CM.Sk (cs ++ [x]) x ∧ CM.Front (cs ++ [x]) x v' ∧ (k < j + 1 → CM.Top (cs ++ [x]) x) := by
            intro x hx
            rcases mvs_get hmv with ⟨hj, em⟩ | ⟨hj, em⟩
            · rw [em] at hx
              have ex : x = (l0.1 + v', l0.2) := by rw [hx]; simp
              subst ex
              exact ⟨sk.add (hF.1.off hv1) ⟨l0, sk.mem, by dsimp only; omega⟩, hF.1.side hv1, fun z => absurd z (by omega)⟩
            · rw [em] at hx
              have ex : x = (l0.1, l0.2 + 1) := by rw [hx]; simp
              subst ex
              exact ⟨sk.add hF.1.up_off ⟨l0, sk.mem, by dsimp only; omega⟩, hF.1.up.front hv1, fun _ => hF.1.up⟩
          obtain ⟨a1, a2, a3⟩ := add _ rfl
          refine ⟨us, eC6, by rw [cC5.length]; exact small_lt (m := 100) (by omega) (by decide), kp_in (k5.trans (Kp.of_same sp)) hC0, (S5.same sp).upd nC, cs ++ [(l0.1 + mv.1, l0.2 + mv.2)], us ++ [V.ref p], upd_same, ((cC5.tk (.same sp)).append (.cons ⟨p, rfl, upd_same⟩ .nil)).tk (Tk2.lst eC6), _, a1, ?_, fun _ => ⟨a2, a3⟩, ?_, (cm5.tk (.same sp)).tk (Tk2.lst eC6)⟩
          · rw [List.length_append, List.length_singleton]
            omega
          · rw [upd_ne hp7C.symm]
            exact sp _ _ e75
        · rw [if_neg hlt]
          rw [cC5.length] at hlt
          exact ⟨k5, S5, cs, us, eC5, cC5, l0, sk, hl, fun z => absurd z hlt, e75, cm5⟩
      · rintro σ H5 ⟨cs, us, l, v4, v5, v6, rfl, k5, S5, eC5, cC5, sk, hl, htop, e75, cm5⟩
        refine ⟨cs, us, l, v', ⟨_, _, _, rfl⟩, k5, S5, eC5, cC5, sk, hl, hv1, fun z => (htop z).2 ?_⟩
        rw [List.length_append, List.length_replicate]
        exact Nat.lt_add_of_pos_right (by show 0 < 2; decide)
    · rintro σ H1 ⟨cs, us, l, v, v4, v5, v6, rfl, k1, S1, eC, cC, sk, hl, hv, htop⟩
      have hb : CellsOk 60 cs := by
        refine ⟨sk.nd, fun z => ?_, by omega, sk.b⟩
        have := sk.mem
        rw [z] at this
        cases this
      exact ⟨_, rfl, h C H1 cs us k1 S1 hC0 eC cC hb⟩
end
end TX
/-! part D5a -/
/-! Rooms drawn: cells in their order. -/
namespace TX
open PySem PySem.Spec PyProof.Rows L2 NT
theorem CellsOk.one {B : Nat} (h : 1 ≤ B) : CellsOk B [((0, 0) : Int × Int)] := ⟨by simp, by simp, h, fun c hc => by
  rw [List.mem_singleton.mp hc]
  decide⟩
theorem CellsOk.mono {A B : Nat} {cs : List (Int × Int)} (h : CellsOk A cs) (k : cs.length ≤ B) : CellsOk B cs := ⟨h.nd, h.ne, k, h.b⟩
theorem CellsOk.add {B : Nat} {cs : List (Int × Int)} {x l : Int × Int} (h : CellsOk B cs) (k : cs.length < B) (hx : x ∉ cs) (hl : l ∈ cs) (n : x ∈ sidesL l) : CellsOk B (cs ++ [x]) := by
  refine ⟨List.nodup_append.mpr ⟨h.nd, by simp, fun a ha b hb z => ?_⟩, by simp, by rw [List.length_append, List.length_singleton]; omega, fun c hc => ?_⟩
  · rw [List.mem_singleton] at hb
    rw [z, hb] at ha
    exact hx ha
  · rw [List.length_append, List.length_singleton]
    rcases List.mem_append.mp hc with hc | hc
    · have := h.b c hc
      omega
    · rw [List.mem_singleton.mp hc]
      have := h.b l hl
      simp only [sidesL, List.mem_cons, List.not_mem_nil, or_false] at n
      rcases n with e | e | e | e <;> subst e <;> dsimp only <;> omega
theorem CellsOk.perm {B : Nat} {cs ds : List (Int × Int)} (h : CellsOk B cs) (p : ds.Perm cs) : CellsOk B ds := by
  have l := p.length_eq
  refine ⟨p.nodup_iff.mpr h.nd, fun z => h.ne ?_, by rw [l]; exact h.len, fun c hc => ?_⟩
  · rw [z] at p
    exact p.symm.eq_nil
  · rw [l]
    exact h.b c (p.mem_iff.mp hc)
theorem CellsOk.swap {B : Nat} {cs : List (Int × Int)} (h : CellsOk B cs) : CellsOk B (cs.map fun c => (c.2, c.1)) := by
  have nd : (cs.map fun c => ((c.2, c.1) : Int × Int)).Nodup := by
    refine List.Pairwise.map _ (fun a b n z => n ?_) h.nd
    rw [Prod.mk.injEq] at z
    exact Prod.ext z.2 z.1
  refine ⟨nd, fun z => h.ne (List.map_eq_nil_iff.mp z), by rw [List.length_map]; exact h.len, fun c hc => ?_⟩
  obtain ⟨a, ha, rfl⟩ := List.mem_map.mp hc
  rw [List.length_map]
  have := h.b a ha
  dsimp only
  omega
/-- cells ascending -/
def SrtC (cs : List (Int × Int)) : Prop := cs.Pairwise fun x y => SrtO.lexB y x = false
def keyOf (H : Hp) (v : V) : Int × Int := match v with
  | .ref t => (match H t with
    | some (.tup [.int a, .int b]) => (a, b)
    | _ => (0, 0))
  | _ => (0, 0)
theorem keyOf_at {H : Hp} {c : Int × Int} {v : V} (h : CellAt H c v) : keyOf H v = c := by
  obtain ⟨t, rfl, e⟩ := h
  unfold keyOf
  simp only [e]
theorem Cells.keys {H : Hp} {cs : List (Int × Int)} {vs : List V} (h : Cells H cs vs) : vs.map (keyOf H) = cs := by
  induction h with
  | nil => rfl
  | cons a _ ih => rw [List.map_cons, ih, keyOf_at a]
theorem sort_cells {H : Hp} {cs : List (Int × Int)} {us ys : List V} (h : Cells H cs us) (s : SrtO.Srtd (ltP (keyOf H)) ys) (t : SrtO.Stb (ltP (keyOf H)) ys us) : ∃ ds, ds.Perm cs ∧ Cells H ds ys ∧ SrtC ds := by
  obtain ⟨ds, p, c⟩ := h.perm t.perm
  refine ⟨ds, p, c, ?_⟩
  have k := c.keys
  unfold SrtC
  rw [← k, List.pairwise_map]
  exact s
/-- a drawn room, a new tuple -/
def spDraw (B : Nat) (lo : Int) : Sp := fun vs H Q _ => ∃ (d c : Addr) (m : Nat), vs = [.ref d, .int m] ∧ Src H d c ∧ lo ≤ m ∧ m ≤ B ∧
  ∀ p H' cs us, Kp (DC d c) H H' → Src H' d c → H p = none → H' p = some (.tup us) → Cells H' cs us → CellsOk B cs → SrtC cs → Q (.ref p) H'
end TX
/-! part D5 -/
/-! _law_bent_room. -/
namespace TX
open PySem PySem.Spec PyProof.Rows L2 NT
theorem cell_eqv (a b : Int × Int) : PyData.eqv (cD a) (cD b) = decide (a = b) := by
  obtain ⟨a1, a2⟩ := a
  obtain ⟨b1, b2⟩ := b
  simp only [cD, PyData.eqv, PyData.eqvAll, Prod.mk.injEq, Bool.and_true, Bool.decide_and]
  rfl
theorem cells_any (cs : List (Int × Int)) (x : Int × Int) : ((cs.map cD).any fun z => PyData.eqv z (cD x)) = decide (x ∈ cs) := by
  induction cs with
  | nil => rfl
  | cons c cs ih =>
    rw [List.map_cons, List.any_cons, ih, cell_eqv]
    by_cases e : c = x
    · subst e
      simp
    · have : x ≠ c := fun z => e z.symm
      simp [e, this]
theorem cell_dp {K : PySem.W.Frag} {H : Hp} {c : Int × Int} {t : Addr} (h : H t = some (.tup [.int c.1, .int c.2])) : Dp K H (.ref t) (cD c) := .tup (SqT.of h) (.cons (.int _) (.cons (.int _) .nil))
theorem cell_shaped (c : Int × Int) : SeqAt.shaped (cD c) = true := rfl
theorem src_free {H H1 : Hp} {d c p : Addr} (S : Src H1 d c) (k : Kp (DC d c) H H1) (n : H1 p = none) : H p = none := by
  have o := S.off n
  cases e : H p with
  | none => rfl
  | some u =>
    have := k _ _ e o
    rw [n] at this
    cases this
local macro_rules | `(tactic| walk_at "go") => `(tactic| simp only [L2.start, List.map_cons, List.map_nil, List.length_cons, List.length_nil, Nat.reduceSub, Nat.reduceAdd, List.replicate_succ, List.replicate_zero, List.cons_append, List.nil_append, List.append_nil,
  tSeq, tNext, tRet, tIfS, tTest, tAnd, tOr, tNot, tCB, tCall, tCons, tNil, tVar, tC, tOp, tUn, tAsg, gName, rI0, rI, CMul, CDiv, tDGet, sDPut, tBM0, tBM, tTup, tLst, tPar, tPar3, gTup, gNil, gCons, tIf, tAug, tRevL, tDisp, tPairs, tYes, wipe, tDrop, L2.tSl, tNotV, tAndV, tOrV, tB, rSlS, ipI, tNoPart, NdefX.startF, tOst, tMkO, rIxL, rIxT, rIxS, rAppend, rExtend, rPop, rSlL, rSetL, tPart, rEq, rNe, tFmt,  tJs,  gLst, tThen, tIf, rRep, tThenZ,    rSortedP,  rPopAt, tCallS, ↓reduceIte, L2.gSub, ↓reduceIte,
  List.getElem?_cons_zero, List.getElem?_cons_succ, List.set_cons_zero, List.set_cons_succ, Option.some.injEq, V.int.injEq, V.str.injEq, V.ref.injEq, V.bl.injEq, exists_eq_left, exists_eq_left', exists_eq_right, exists_eq_right', exists_eq', true_and, and_true, decide_eq_true_eq, List.cons.injEq, reduceCtorEq, false_and, false_or, or_false, exists_false, exists_and_left, exists_and_right, and_assoc])
theorem sort_tup {K : PySem.W.Frag} {H : Hp} {cs : List (Int × Int)} {us : List V} {a : Addr} {Q : VK} (e : H a = some (.lst us)) (c : Cells H cs us)
    (h : ∀ q H' ds ys, Same H H' → H q = none → H' q = some (.tup ys) → Cells H' ds ys → ds.Perm cs → SrtC ds → Q (.ref q) H') : rSortedPO K [.ref a] H fun x H1 => kTup K x H1 Q := by
  refine ⟨a, us, keyOf H, rfl, SqL.of e, fun x hx => ?_, fun ys p st sb hp => .inl ⟨p, ys, rfl, SqL.of upd_same, fun q hq => ?_⟩⟩
  · obtain ⟨cc, _, ca⟩ := c.mem hx
    have k := keyOf_at ca
    obtain ⟨t, e, ht⟩ := ca
    exact ⟨t, e, by rw [k]; exact ht⟩
  · obtain ⟨ds, pm, cd, sc⟩ := sort_cells c st sb
    have s1 := same_new (o := .lst ys) hp
    have s2 := s1.trans (same_new (o := .tup ys) hq)
    exact h q _ ds ys s2 (s1.free hq) upd_same (cd.tk (.same s2)) pm sc
set_option hygiene false in
local macro_rules | `(tactic| walk_at "bent_loop") => `(tactic| (
  have oC : ¬ DC d c C := S0.off hC0
  refine ⟨.int m, rfl, 8, m, rfl, rfl, .inl ⟨by decide, by decide⟩, 8 * m, rfl, by omega, by omega, for_range (lo := 0) (n := (8 * (m : Int)).toNat) (fun i σ H1 => ∃ cs us v5 v6 v7, σ = [some (.ref d), some (.int m), some (.bl b), some (.int mv), some (.ref C), v5, v6, v7, none, none, none] ∧ Kp (DC d c) H H1 ∧ Src H1 d c ∧ H1 C = some (.lst us) ∧ Cells H1 cs us ∧ CellsOk 60 cs) ⟨cs, us, _, _, _, rfl, kk, S4, eC, cC, ok⟩ ?_ ?_⟩
  · rintro i σ H5 hi ⟨cs, us, v5, v6, v7, rfl, k5, S5, eC, cC, ok⟩
    walk_at "go"
    refine ⟨us, .inl (SqL.of eC), ?_⟩
    by_cases hlt : (us.length : Int) < mv
    case neg =>
      rw [if_neg hlt]
      exact ⟨k5, S5, cs, us, eC, cC, ok⟩
    rw [if_pos hlt]
    have lcu := cC.length
    have lpos : 0 < cs.length := List.length_pos_iff.mpr ok.ne
    refine ⟨us, .inl (SqL.of eC), us, .inl (SqL.of eC), pick_srcI S5 (by split <;> omega) fun r5 H6 g0 g1 S6 k6 => ?_⟩
    have eC6 := k6 _ _ eC oC
    have cC6 := cC.tk (S5.tk k6)
    have r5l : r5 < us.length := by
      split at g1 <;> omega
    obtain ⟨n5, hn5⟩ : ∃ n5 : Nat, (us.length : Int) - 1 - r5 = (n5 : Int) := ⟨((us.length : Int) - 1 - r5).toNat, by omega⟩
    have hv5 : us[n5]? = some (us[n5]'(by omega)) := List.getElem?_eq_getElem (by omega)
    obtain ⟨l, hl, t, et, et6⟩ := cC6.get hv5
    have ml := List.mem_of_getElem? hl
    refine ⟨r5, rfl, us, SqL.of eC6, _, by rw [hn5]; exact atI_nat hv5, t, l, by rw [et], et6, fun p7 H7 s7 at7 => ?_⟩
    obtain ⟨_, xs7, e7, n7, h7, x7⟩ := at7.lst
    cases e7
    have c7 := Cells.of_at x7
    have n7' : H6 p7 = none := by
      cases e : H6 p7 with
      | none => rfl
      | some o => exact absurd (by rw [e]; exact fun z => nomatch z) n7
    have o7 := S6.off n7'
    refine pick_srcI (S6.same s7) (by decide) fun r8 H8 j0 j1 S8 k8 => ?_
    have c8 := c7.tk ((S6.same s7).tk k8)
    have cC8 := (cC6.tk (.same s7)).tk ((S6.same s7).tk k8)
    have eC8 := k8 _ _ (s7 _ _ eC6) oC
    have l7 := c7.length
    have l7' : xs7.length = 4 := l7
    obtain ⟨n8, rfl⟩ : ∃ n8 : Nat, r8 = (n8 : Int) := ⟨r8.toNat, by omega⟩
    have hv8 : xs7[n8]? = some (xs7[n8]'(by omega)) := List.getElem?_eq_getElem (by omega)
    obtain ⟨x, hx, t8, et8, ett8⟩ := c8.get hv8
    have mx := List.mem_of_getElem? hx
    rw [et8] at hv8
    refine ⟨p7, rfl, xs7, n8, rfl, SqL.of (k8 _ _ h7 o7), _, atI_nat hv8, ?_⟩
    refine ⟨.ref t8, rfl, t8, x, rfl, ett8, fun p9 H9 s9 at9 => ?_⟩
    obtain ⟨_, xs9, e9, n9, h9, x9⟩ := at9.lst
    cases e9
    have c9 := Cells.of_at x9
    have eC9 := s9 _ _ eC8
    have cC9 := cC8.tk (.same s9)
    refine ⟨p9, rfl, ⟨_, SqL.of h9⟩, fun G hG => lc_list (xs := xs9) (fun j H' => Same H9 H' ∧ ∃ gs, H' G = some (.lst gs) ∧ gs.length ≤ j) ⟨same_new hG, [], upd_same, Nat.le_refl _⟩ (fun j H' _ ⟨sm, _⟩ => SqL.of (sm _ _ h9)) ?_ ?_⟩
    · rintro j y H10 hy ⟨sm, gs, eG, lg⟩
      obtain ⟨cy, hcy, ty, rfl, ety⟩ := c9.get hy
      have hj := get_lt hcy
      have hj8 : j < 8 := hj
      walk_at "go"
      refine ⟨cD cy, cs.map cD, cell_dp (sm _ _ ety), .lst (SqL.of (sm _ _ eC9)) (cC9.tk (.same sm)).dp, cell_shaped _, cells_shaped _, _, rfl, ?_⟩
      generalize ((cs.map cD).any fun z => PyData.eqv z (cD cy)) = bb
      cases bb
      · rw [if_neg (by decide)]
        exact ⟨sm, gs, eG, by omega⟩
      · rw [if_pos rfl]
        exact ⟨gs, eG, small_lt (m := 100) (by omega) (by decide), same_in sm hG, _, upd_same, by rw [List.length_append, List.length_singleton]; omega⟩
    rintro H10 ⟨s10, gs, eG, lg⟩
    have eC10 := s10 _ _ eC9
    have cC10 := cC9.tk (.same s10)
    have s810 := s9.trans s10
    have k10 : Kp (DC d c) H H10 := ((k5.trans k6).trans (Kp.of_same s7)).trans (k8.trans (Kp.of_same s810))
    have S10 := S8.same s810
    have ett10 := s810 _ _ ett8
    refine ⟨G, rfl, gs, .inl (SqL.of eG), cD x, cs.map cD, cell_dp ett10, .lst (SqL.of eC10) cC10.dp, cell_shaped _, cells_shaped _, _, rfl, ?_⟩
    rw [cells_any]
    by_cases hxc : x ∈ cs
    · rw [if_neg (by rw [decide_eq_true hxc]; decide)]
      exact ⟨k10, S10, cs, us, eC10, cC10, ok⟩
    rw [if_pos (by rw [decide_eq_false hxc]; decide)]
    by_cases hg4 : (gs.length : Int) < 4
    case neg =>
      rw [if_neg hg4]
      exact ⟨k10, S10, cs, us, eC10, cC10, ok⟩
    rw [if_pos hg4]
    have ok2 := ok.add (by omega) hxc ml mx
    have l2 := ok2.len
    refine ⟨by decide, fun p11 hp11 => ⟨C, p11, us, [V.ref t8], rfl, rfl, by rw [upd_ne (ne_of_none eC10 hp11)]; exact eC10, upd_same, small_sz (m := 100) (by show us.length + 1 ≤ 100; omega) (by decide), fun p12 hp12 => ?_⟩⟩
    have s11 := same_new (o := .lst [V.ref t8]) hp11
    have s12 := s11.trans (same_new (o := .lst (us ++ [V.ref t8])) hp12)
    have cc12 : Cells (upd (upd H10 p11 (.lst [V.ref t8])) p12 (.lst (us ++ [V.ref t8]))) (cs ++ [x]) (us ++ [V.ref t8]) := (cC10.tk (.same s12)).append (.cons ⟨t8, rfl, s12 _ _ ett10⟩ .nil)
    refine ⟨p12, cs ++ [x], us ++ [V.ref t8], rfl, upd_same, cc12, ok2.nd, by omega, ok2.ne, fun z hz => ?_, fun r H13 s13 _ => ⟨r, rfl, ?_⟩⟩
    · have := ok2.b z hz
      omega
    have s14 := s12.trans s13
    have k14 := k10.trans (Kp.of_same s14)
    have S14 := S10.same s14
    have eC14 := s14 _ _ eC10
    have cC14 := cC10.tk (.same s14)
    cases r
    · rw [if_neg (by decide)]
      exact ⟨k14, S14, cs, us, eC14, cC14, ok⟩
    · rw [if_pos rfl]
      exact ⟨.inl ⟨rfl, _, SqL.of eC14⟩, us, eC14, small_lt (m := 100) (by omega) (by decide), kp_in k14 hC0, S14.upd oC, cs ++ [x], us ++ [V.ref t8], upd_same, (cC14.append (.cons ⟨t8, rfl, s14 _ _ ett10⟩ .nil)).tk (Tk2.lst eC14), ok2⟩
  · rintro σ H5 ⟨cs, us, v5, v6, v7, rfl, k5, S5, eC, cC, ok⟩
    walk_at "go"
    refine pick_srcI S5 (by decide) fun r6 H6 _ _ S6 k6 => ⟨rfl, ?_⟩
    have eC6 := k6 _ _ eC oC
    have cC6 := cC.tk (S5.tk k6)
    have kk6 := k5.trans k6
    have done : ∀ (q : Addr) (H' H7 : Hp) (es ds : List (Int × Int)) (ys : List V), Same H6 H7 → CellsOk 60 es → Same H7 H' → H7 q = none → H' q = some (.tup ys) → Cells H' ds ys → ds.Perm es → SrtC ds → Q (.ref q) H' := fun q H' H7 es ds ys sa okE sb nq eq cq pq sq =>
      h q H' ds ys (kk6.trans (Kp.of_same (sa.trans sb))) (S6.same (sa.trans sb)) (src_free S6 kk6 (sa.free nq)) eq cq (okE.perm pq) sq
    split
    · refine ⟨.ref C, rfl, C, rfl, ⟨_, SqL.of eC6⟩, fun G hG => lc_list (xs := us) (fun i H' => Same H6 H' ∧ ∃ gs, H' G = some (.lst gs) ∧ Cells H' ((cs.take i).map fun c => (c.2, c.1)) gs) ⟨same_new hG, [], upd_same, .nil⟩ (fun i H' _ ⟨sm, _⟩ => SqL.of (sm _ _ eC6)) ?_ ?_⟩
      · rintro i x H7 hx ⟨sm, gs, eG, cG⟩
        obtain ⟨cx, hcx, t, rfl, et⟩ := cC6.get hx
        have hi := get_lt hcx
        have l60 := ok.len
        walk_at "go"
        refine ⟨_, .inl (.inl (sm _ _ et)), rfl, _, _, rfl, _, _, rfl, rfl, by decide, fun p hp => ?_⟩
        have sp := same_new (o := .tup [V.int cx.2, V.int cx.1]) hp
        refine ⟨gs, sp _ _ eG, ?_, same_in (sm.trans sp) hG, gs ++ [.ref p], upd_same, ?_⟩
        · have lg := cG.length
          rw [List.length_map, List.length_take] at lg
          exact small_lt (m := 100) (by omega) (by decide)
        · rw [List.take_succ, hcx, List.map_append]
          exact ((cG.tk (.same sp)).append (.cons ⟨p, rfl, upd_same⟩ .nil)).tk (Tk2.lst (sp _ _ eG))
      · rintro H7 ⟨sm, gs, eG, cG⟩
        rw [cC6.length, List.take_length] at cG
        exact sort_tup eG cG fun q H' ds ys s1 n1 e1 c1 p1 z1 => done q H' H7 _ ds ys sm ok.swap s1 n1 e1 c1 p1 z1
    · exact sort_tup eC6 cC6 fun q H' ds ys s1 n1 e1 c1 p1 z1 => done q H' H6 _ ds ys (fun _ _ z => z) ok s1 n1 e1 c1 p1 z1))
section
variable {P : Program} {w : World} {K : PySem.W.Frag} {mg : Str → Option Value} {base : Heap}
theorem ok_bent (T : Txt w K mg) : Ok P w K mg base CX0 4 "_law_bent_room" ["source", "most"] (spDraw 60 2) := by
  obtain ⟨f, fd, D⟩ := T.d_L_bent_room
  refine ⟨f, fd, D.F.ok sc_L_bent_room (fun vs H Q E h => ?_) (fun cdv A outer s H vs Q E hr h => ?_), D.g, D.F.kp, D.b⟩
  · obtain ⟨d, c, m, rfl, _⟩ := h
    rfl
  · obtain ⟨d, c, m, rfl, S0, hm0, hm, h⟩ := h
    have nd := sc_L_bent_room.nd
    have hu := hu_of hr
    have h65 : (A.deeper (envOfC "_law_bent_room" (defScope s_L_bent_room) s.heap.objs.size f cdv)).units + 65 < cLine := by
      have := hr.un
      omega
    refine ⟨_, pss_cons (ps_set (i := 2) nd rfl (.inl rfl) (pe_and (pe_cmpR op_gt (pv 1) pe_int (nomark _)) (pe_one (pe_cmpR op_gt (pe_d (ok_pickI T) hr pass0 (pa_cons (pv 0) (pa_cons pe_int pa_nil))) pe_int (nomark _)))))
      (pss_cons (ps_set (i := 3) nd rfl (.inl rfl) (pe_ifExp (pt_truth (pv 2) (by intro _; rfl)) (pe_op op_sub (pv 1) (pe_d (ok_pickI T) hr pass0 (pa_cons (pv 0) (pa_cons pe_int pa_nil)))) (pe_op op_add pe_int (pe_d (ok_pickI T) hr pass0 (pa_cons (pv 0) (pa_cons (pe_op op_sub (pv 1) pe_int) pa_nil))))))
      (pss_cons (ps_set (i := 4) nd rfl (.inr rfl) (pe_ifExp (pt_truth (pv 2) (by intro _; rfl)) (pe_d (ok_snake T) hr pass0 (pa_cons (pv 0) (pa_cons (pe_op op_sub (pv 3) (pe_d (ok_pickI T) hr pass0 (pa_cons (pv 0) (pa_cons pe_int pa_nil)))) pa_nil))) (pe_lst (pa_cons (pe_tup (pa_cons pe_int (pa_cons pe_int pa_nil))) pa_nil))))
      (pss_cons (ps_for PassesOwn.never rfl (pi_range1 (by rfl) T.z_range (pa_cons (pe_op op_mul pe_int (pv 1)) pa_nil)) (pg_name (i := 5) nd rfl (.inl rfl))
        (pss_one (ps_if (pt_cmpR op_lt (pe_callB call_len_seq (by rfl) T.z_len PySem.boot_len (pa_cons (pv 4) pa_nil)) (pv 3) (nomark _))
          (pss_cons (ps_set (i := 6) nd rfl (.inl rfl) (pe_ix ix_list (pe_d (ok_sides T) hr pass0 (pa_cons (pe_ix ix_list (pv 4) (pe_op op_sub (pe_op op_sub (pe_callB call_len_seq (by rfl) T.z_len PySem.boot_len (pa_cons (pv 4) pa_nil)) pe_int) (pe_d (ok_pickI T) hr pass0 (pa_cons (pv 0) (pa_cons (pe_callB (call_min2 rfl) (by rfl) T.z_min (by decide +kernel) (pa_cons pe_int (pa_cons (pe_callB call_len_seq (by rfl) T.z_len PySem.boot_len (pa_cons (pv 4) pa_nil)) pa_nil))) pa_nil)))) (fun _ _ => rfl)) pa_nil)) (pe_d (ok_pickI T) hr pass0 (pa_cons (pv 0) (pa_cons pe_int pa_nil))) (fun _ _ => rfl)))
          (pss_cons (ps_set (i := 7) nd rfl (.inl rfl) (pe_callB call_len_seq (by rfl) T.z_len PySem.boot_len (pa_cons
              (pe_lc (own := [("cell", 8)]) (g := gName 8) (tt := tTest (tOp (rInD K) (tVar 8) (tVar 4))) (te := tVar 8) rfl nd (pi_list (pe_d (ok_near8 T) hr pass0 (pa_cons (pv 6) pa_nil))) (blkOk_by (N := n_L_bent_room) (sc := defScope s_L_bent_room) (by decide +kernel))
                (fun _ _ _ _ _ => pg_name (i := 8) nd rfl (.inl rfl)) (fun _ _ _ _ _ => by exact (pts_one (pt_cmpR (op_inD h65) (pv 8) (pv 4) rfl))) (fun _ _ _ _ _ => by exact (pv 8))) pa_nil)))
          (pss_one (ps_if (PW.pt (pw_and (pt_cmpR (op_notInD h65) (pv 6) (pv 4) rfl) (pw_and (pt_cmpR op_lt (pv 7) pe_int (nomark _)) (pw_and1 (pt_truth (pe_d (ok_isroom T) hr pass0 (pa_cons (pe_op op_cat (pv 4) (pe_lst (pa_cons (pv 6) pa_nil))) pa_nil)) (by intro _; rfl))))))
            (pss_one (ps_expr (pe_bm PySem.F.plainAttrs_list PySem.F.slot_list_append PySem.F.type_list_append mt_append (pv 4) (pa_cons (pv 6) pa_nil))))
            pss_nil)))) pss_nil)))
      (pss_one (ps_ret (pe_tupleOf (by rfl) T.z_tuple (pe_callB cr_sortedPO (by rfl) T.z_sorted (by decide +kernel) (pa_cons
          (pe_ifExp (pt_cmpR op_eq (pe_d (ok_pickI T) hr pass0 (pa_cons (pv 0) (pa_cons pe_int pa_nil))) pe_int (nomark _))
            (pe_lc (own := [("x", 9), ("y", 10)]) (g := gTup K 2 (gCons (gName 9) (gCons (gName 10) gNil))) (tt := tYes) (te := tTup (tCons (tVar 10) (tCons (tVar 9) tNil))) rfl nd (pi_list (pv 4)) (blkOk_by (N := n_L_bent_room) (sc := defScope s_L_bent_room) (by decide +kernel))
              (fun _ _ _ _ _ => by exact pg_tup (by rfl) (pgs_cons (pg_name (i := 9) nd rfl (.inl rfl)) (pgs_cons (pg_name (i := 10) nd rfl (.inl rfl)) pgs_nil))) (fun _ _ _ _ _ => pts_nil) (fun _ _ _ _ _ => by exact (pe_tup (pa_cons (pv 10) (pa_cons (pv 9) pa_nil)))))
            (pv 4)) pa_nil)))))))), ?_⟩
    walk_at "go"
    by_cases h3 : (3 : Int) < m
    · rw [if_pos h3]
      refine pick_srcI S0 (by decide) fun r1 H1 _ _ S1 k1 => ⟨r1, rfl, decide (0 < r1), rfl, ?_⟩
      by_cases hr1 : 0 < r1
      · rw [if_pos (decide_eq_true hr1)]
        refine pick_srcI S1 (by decide) fun r2 H2 g20 g2 S2 k2 => ⟨r2, rfl, decide (0 < r1), rfl, ?_⟩
        rw [if_pos (decide_eq_true hr1)]
        refine pick_srcI S2 (by decide) fun r3 H3 g30 g3 S3 k3 => ⟨r3, rfl, d, c, m - r2 - r3, rfl, S3, by omega, by omega, fun C H4 cs us k4 S4 nC eC cC ok => ?_⟩
        have kk : Kp (DC d c) H H4 := ((k1.trans k2).trans k3).trans k4
        have hC0 : H C = none := src_free S3 ((k1.trans k2).trans k3) nC
        obtain ⟨mv, hmv, emv⟩ : ∃ mv : Int, mv ≤ 60 ∧ m - r2 = mv := ⟨_, by omega, rfl⟩
        rw [emv]
        generalize decide (0 < r1) = b
        walk_at "bent_loop"
      · rw [if_neg (by rw [decide_eq_false hr1]; decide)]
        refine pick_srcI S1 (by omega) fun r2 H2 g20 g2 S2 k2 => ⟨r2, rfl, decide (0 < r1), rfl, ?_⟩
        rw [if_neg (by rw [decide_eq_false hr1]; decide)]
        refine ⟨by decide, fun p1 hp1 => ⟨by decide, fun C hC => ?_⟩⟩
        have t1 := same_new (o := .tup [V.int 0, V.int 0]) hp1
        have t2 := t1.trans (same_new (o := .lst [V.ref p1]) hC)
        have k02 : Kp (DC d c) H H2 := k1.trans k2
        have kk : Kp (DC d c) H (upd (upd H2 p1 (.tup [V.int 0, V.int 0])) C (.lst [V.ref p1])) := k02.trans (Kp.of_same t2)
        have hC0 : H C = none := src_free S2 k02 (t1.free hC)
        have S4 := S2.same t2
        have eC : upd (upd H2 p1 (.tup [V.int 0, V.int 0])) C (.lst [V.ref p1]) C = _ := upd_same
        have cC : Cells (upd (upd H2 p1 (.tup [V.int 0, V.int 0])) C (.lst [V.ref p1])) [(0, 0)] [V.ref p1] := .cons ⟨p1, rfl, same_new (o := .lst [V.ref p1]) hC p1 _ upd_same⟩ .nil
        have ok : CellsOk 60 [((0, 0) : Int × Int)] := CellsOk.one (by decide)
        generalize upd (upd H2 p1 (.tup [V.int 0, V.int 0])) C (.lst [V.ref p1]) = H4 at kk S4 eC cC
        generalize [V.ref p1] = us at eC cC
        generalize [((0, 0) : Int × Int)] = cs at cC ok
        obtain ⟨mv, hmv, emv⟩ : ∃ mv : Int, mv ≤ 60 ∧ 2 + r2 = mv := ⟨_, by omega, rfl⟩
        rw [emv]
        generalize decide (0 < r1) = b
        walk_at "bent_loop"
    · rw [if_neg h3]
      refine ⟨false, rfl, ?_⟩
      rw [if_neg (by decide)]
      refine pick_srcI S0 (by omega) fun r2 H2 g20 g2 S2 k2 => ⟨r2, rfl, false, rfl, ?_⟩
      rw [if_neg (by decide)]
      refine ⟨by decide, fun p1 hp1 => ⟨by decide, fun C hC => ?_⟩⟩
      have t1 := same_new (o := .tup [V.int 0, V.int 0]) hp1
      have t2 := t1.trans (same_new (o := .lst [V.ref p1]) hC)
      have k02 : Kp (DC d c) H H2 := k2
      have kk : Kp (DC d c) H (upd (upd H2 p1 (.tup [V.int 0, V.int 0])) C (.lst [V.ref p1])) := k02.trans (Kp.of_same t2)
      have hC0 : H C = none := src_free S2 k02 (t1.free hC)
      have S4 := S2.same t2
      have eC : upd (upd H2 p1 (.tup [V.int 0, V.int 0])) C (.lst [V.ref p1]) C = _ := upd_same
      have cC : Cells (upd (upd H2 p1 (.tup [V.int 0, V.int 0])) C (.lst [V.ref p1])) [(0, 0)] [V.ref p1] := .cons ⟨p1, rfl, same_new (o := .lst [V.ref p1]) hC p1 _ upd_same⟩ .nil
      have ok : CellsOk 60 [((0, 0) : Int × Int)] := CellsOk.one (by decide)
      generalize upd (upd H2 p1 (.tup [V.int 0, V.int 0])) C (.lst [V.ref p1]) = H4 at kk S4 eC cC
      generalize [V.ref p1] = us at eC cC
      generalize [((0, 0) : Int × Int)] = cs at cC ok
      obtain ⟨mv, hmv, emv⟩ : ∃ mv : Int, mv ≤ 60 ∧ 2 + r2 = mv := ⟨_, by omega, rfl⟩
      rw [emv]
      generalize false = b
      walk_at "bent_loop"
end
end TX
/-! part D6 -/
/-! _law_draw_room. -/
namespace TX
open PySem PySem.Spec PyProof.Rows L2 NT
local macro_rules | `(tactic| walk_at "go") => `(tactic| simp only [L2.start, List.map_cons, List.map_nil, List.length_cons, List.length_nil, Nat.reduceSub, Nat.reduceAdd, List.replicate_succ, List.replicate_zero, List.cons_append, List.nil_append, List.append_nil,
  tSeq, tNext, tRet, tIfS, tTest, tAnd, tOr, tNot, tCB, tCall, tCons, tNil, tVar, tC, tOp, tUn, tAsg, gName, rI0, rI, CMul, CDiv, tDGet, sDPut, tBM0, tBM, tTup, tLst, tPar, tPar3, gTup, gNil, gCons, tIf, tAug, tRevL, tDisp, tPairs, tYes, wipe, tDrop, L2.tSl, tNotV, tAndV, tOrV, tB, rSlS, ipI, tNoPart, NdefX.startF, tOst, tMkO, rIxL, rIxT, rIxS, rAppend, rExtend, rPop, rSlL, rSetL, tPart, rEq, rNe, tFmt,  tJs,  gLst, tThen, tIf, rRep, tThenZ,    rSortedP,  rPopAt, tCallS, ↓reduceIte, L2.gSub, ↓reduceIte,
  List.getElem?_cons_zero, List.getElem?_cons_succ, List.set_cons_zero, List.set_cons_succ, Option.some.injEq, V.int.injEq, V.str.injEq, V.ref.injEq, V.bl.injEq, exists_eq_left, exists_eq_left', exists_eq_right, exists_eq_right', exists_eq', true_and, and_true, decide_eq_true_eq, List.cons.injEq, reduceCtorEq, false_and, false_or, or_false, exists_false, exists_and_left, exists_and_right, and_assoc])
set_option hygiene false in
local macro_rules | `(tactic| walk_at "room_loop") => `(tactic| (
  refine ⟨by decide, fun p1 hp1 => ⟨by decide, fun C hC => ?_⟩⟩
  have t1 := same_new (o := .tup [V.int 0, V.int 0]) hp1
  have t2 := t1.trans (same_new (o := .lst [V.ref p1]) hC)
  have hC0 : H C = none := src_free S1 k1 (t1.free hC)
  have oC : ¬ DC d c C := S0.off hC0
  have S2 := S1.same t2
  have eC2 := upd_same (H := upd HA p1 (.tup [V.int 0, V.int 0])) (a := C) (o := .lst [V.ref p1])
  have cC2 : Cells (upd (upd HA p1 (.tup [V.int 0, V.int 0])) C (.lst [V.ref p1])) [(0, 0)] [V.ref p1] := .cons ⟨p1, rfl, same_new (o := .lst [V.ref p1]) hC p1 _ upd_same⟩ .nil
  have ok : CellsOk 60 [((0, 0) : Int × Int)] := CellsOk.one (by decide)
  refine pick_srcI S2 (by omega) fun r2 H4 g20 g2 S4 k4 => ⟨r2, rfl, ?_⟩
  have kk : Kp (DC d c) H H4 := (k1.trans (Kp.of_same t2)).trans k4
  have eC := k4 _ _ eC2 oC
  have cC := cC2.tk (S2.tk k4)
  obtain ⟨mv, hmv, emv⟩ : ∃ mv : Int, mv ≤ 60 ∧ 1 + r2 = mv := ⟨_, by omega, rfl⟩
  rw [emv]
  refine ⟨.int m, rfl, 4, m, rfl, rfl, .inl ⟨by decide, by decide⟩, 4 * m, rfl, by omega, by omega, for_range (lo := 0) (n := (4 * (m : Int)).toNat) (fun i σ H1 => ∃ cs us v4 v5, σ = [some (.ref d), some (.int m), some (.ref C), some (.int mv), v4, v5] ∧ Kp (DC d c) H H1 ∧ Src H1 d c ∧ H1 C = some (.lst us) ∧ Cells H1 cs us ∧ CellsOk 60 cs) ⟨_, _, _, _, rfl, kk, S4, eC, cC, ok⟩ ?_ ?_⟩
  · clear ok cC eC
    rintro i σ H5 hi ⟨cs, us, v4, v5, rfl, k5, S5, eC, cC, ok⟩
    walk_at "go"
    refine ⟨us, .inl (SqL.of eC), ?_⟩
    by_cases hlt : (us.length : Int) < mv
    case neg =>
      rw [if_neg hlt]
      exact ⟨k5, S5, cs, us, eC, cC, ok⟩
    rw [if_pos hlt]
    have lcu := cC.length
    have lpos : 0 < cs.length := List.length_pos_iff.mpr ok.ne
    refine ⟨us, .inl (SqL.of eC), pick_srcI S5 (by omega) fun r5 H6 g0 g1 S6 k6 => ?_⟩
    have eC6 := k6 _ _ eC oC
    have cC6 := cC.tk (S5.tk k6)
    obtain ⟨n5, rfl⟩ : ∃ n5 : Nat, r5 = (n5 : Int) := ⟨r5.toNat, by omega⟩
    have hv5 : us[n5]? = some (us[n5]'(by omega)) := List.getElem?_eq_getElem (by omega)
    obtain ⟨l, hl, t, et, et6⟩ := cC6.get hv5
    have ml := List.mem_of_getElem? hl
    refine ⟨us, n5, rfl, SqL.of eC6, _, atI_nat hv5, t, l, by rw [et], et6, fun p7 H7 s7 at7 => ?_⟩
    obtain ⟨_, xs7, e7, n7, h7, x7⟩ := at7.lst
    cases e7
    have c7 := Cells.of_at x7
    have n7' : H6 p7 = none := by
      cases e : H6 p7 with
      | none => rfl
      | some o => exact absurd (by rw [e]; exact fun z => nomatch z) n7
    have o7 := S6.off n7'
    refine pick_srcI (S6.same s7) (by decide) fun r8 H8 j0 j1 S8 k8 => ?_
    have c8 := c7.tk ((S6.same s7).tk k8)
    have cC8 := (cC6.tk (.same s7)).tk ((S6.same s7).tk k8)
    have eC8 := k8 _ _ (s7 _ _ eC6) oC
    have l7 := c7.length
    have l7' : xs7.length = 4 := l7
    obtain ⟨n8, rfl⟩ : ∃ n8 : Nat, r8 = (n8 : Int) := ⟨r8.toNat, by omega⟩
    have hv8 : xs7[n8]? = some (xs7[n8]'(by omega)) := List.getElem?_eq_getElem (by omega)
    obtain ⟨x, hx, t8, et8, ett8⟩ := c8.get hv8
    have mx := List.mem_of_getElem? hx
    rw [et8] at hv8
    refine ⟨p7, rfl, xs7, n8, rfl, SqL.of (k8 _ _ h7 o7), _, atI_nat hv8, ?_⟩
    have k10 : Kp (DC d c) H H8 := ((k5.trans k6).trans (Kp.of_same s7)).trans k8
    have S10 := S8
    have ett10 := ett8
    have eC10 := eC8
    have cC10 := cC8
    refine ⟨cD x, cs.map cD, cell_dp ett10, .lst (SqL.of eC10) cC10.dp, cell_shaped _, cells_shaped _, _, rfl, ?_⟩
    rw [cells_any]
    by_cases hxc : x ∈ cs
    · rw [if_neg (by rw [decide_eq_true hxc]; decide)]
      exact ⟨k10, S10, cs, us, eC10, cC10, ok⟩
    rw [if_pos (by rw [decide_eq_false hxc]; decide)]
    have ok2 := ok.add (by omega) hxc ml mx
    have l2 := ok2.len
    refine ⟨by decide, fun p11 hp11 => ⟨C, p11, us, [V.ref t8], rfl, rfl, by rw [upd_ne (ne_of_none eC10 hp11)]; exact eC10, upd_same, small_sz (m := 100) (by show us.length + 1 ≤ 100; omega) (by decide), fun p12 hp12 => ?_⟩⟩
    have s11 := same_new (o := .lst [V.ref t8]) hp11
    have s12 := s11.trans (same_new (o := .lst (us ++ [V.ref t8])) hp12)
    have cc12 : Cells (upd (upd H8 p11 (.lst [V.ref t8])) p12 (.lst (us ++ [V.ref t8]))) (cs ++ [x]) (us ++ [V.ref t8]) := (cC10.tk (.same s12)).append (.cons ⟨t8, rfl, s12 _ _ ett10⟩ .nil)
    refine ⟨p12, cs ++ [x], us ++ [V.ref t8], rfl, upd_same, cc12, ok2.nd, by omega, ok2.ne, fun z hz => ?_, fun r H13 s13 _ => ⟨r, rfl, ?_⟩⟩
    · have := ok2.b z hz
      omega
    have s14 := s12.trans s13
    have k14 := k10.trans (Kp.of_same s14)
    have S14 := S10.same s14
    have eC14 := s14 _ _ eC10
    have cC14 := cC10.tk (.same s14)
    cases r
    · rw [if_neg (by decide)]
      exact ⟨k14, S14, cs, us, eC14, cC14, ok⟩
    · rw [if_pos rfl]
      exact ⟨.inl ⟨rfl, _, SqL.of eC14⟩, us, eC14, small_lt (m := 100) (by omega) (by decide), kp_in k14 hC0, S14.upd oC, cs ++ [x], us ++ [V.ref t8], upd_same, (cC14.append (.cons ⟨t8, rfl, s14 _ _ ett10⟩ .nil)).tk (Tk2.lst eC14), ok2⟩
  · clear ok cC eC
    rintro σ H5 ⟨cs, us, v4, v5, rfl, k5, S5, eC, cC, ok⟩
    walk_at "go"
    exact sort_tup eC cC fun q H' ds ys s1 n1 e1 c1 p1 z1 => h q H' ds ys (k5.trans (Kp.of_same s1)) (S5.same s1) (src_free S5 k5 n1) e1 c1 (ok.perm p1) z1))
section
variable {P : Program} {w : World} {K : PySem.W.Frag} {mg : Str → Option Value} {base : Heap}
theorem ok_drawroom (T : Txt w K mg) : Ok P w K mg base CX0 5 "_law_draw_room" ["source", "most"] (spDraw 60 1) := by
  obtain ⟨f, fd, D⟩ := T.d_L_draw_room
  refine ⟨f, fd, D.F.ok sc_L_draw_room (fun vs H Q E h => ?_) (fun cdv A outer s H vs Q E hr h => ?_), D.g, D.F.kp, D.b⟩
  · obtain ⟨d, c, m, rfl, _⟩ := h
    rfl
  · obtain ⟨d, c, m, rfl, S0, hm0, hm, h⟩ := h
    have nd := sc_L_draw_room.nd
    have hu := hu_of hr
    have h65 : (A.deeper (envOfC "_law_draw_room" (defScope s_L_draw_room) s.heap.objs.size f cdv)).units + 65 < cLine := by
      have := hr.un
      omega
    refine ⟨_, pss_cons (ps_if (PW.pt (pw_and (pt_cmpR op_gt (pv 1) pe_int (nomark _)) (pw_and1 (pt_cmpR op_eq (pe_d (ok_pickI T) hr pass0 (pa_cons (pv 0) (pa_cons pe_int pa_nil))) pe_int (nomark _))))) (pss_one (ps_ret (pe_d (ok_bent T) hr pass0 (pa_cons (pv 0) (pa_cons (pv 1) pa_nil))))) pss_nil)
      (pss_cons (ps_set (i := 2) nd rfl (.inl rfl) (pe_lst (pa_cons (pe_tup (pa_cons pe_int (pa_cons pe_int pa_nil))) pa_nil)))
      (pss_cons (ps_set (i := 3) nd rfl (.inl rfl) (pe_op op_add pe_int (pe_d (ok_pickI T) hr pass0 (pa_cons (pv 0) (pa_cons (pv 1) pa_nil)))))
      (pss_cons (ps_for PassesOwn.never rfl (pi_range1 (by rfl) T.z_range (pa_cons (pe_op op_mul pe_int (pv 1)) pa_nil)) (pg_name (i := 4) nd rfl (.inl rfl))
        (pss_one (ps_if (pt_cmpR op_lt (pe_callB call_len_seq (by rfl) T.z_len PySem.boot_len (pa_cons (pv 2) pa_nil)) (pv 3) (nomark _))
          (pss_cons (ps_set (i := 5) nd rfl (.inl rfl) (pe_ix ix_list (pe_d (ok_sides T) hr pass0 (pa_cons (pe_ix ix_list (pv 2) (pe_d (ok_pickI T) hr pass0 (pa_cons (pv 0) (pa_cons (pe_callB call_len_seq (by rfl) T.z_len PySem.boot_len (pa_cons (pv 2) pa_nil)) pa_nil))) (fun _ _ => rfl)) pa_nil)) (pe_d (ok_pickI T) hr pass0 (pa_cons (pv 0) (pa_cons pe_int pa_nil))) (fun _ _ => rfl)))
          (pss_one (ps_if (PW.pt (pw_and (pt_cmpR (op_notInD h65) (pv 5) (pv 2) rfl) (pw_and1 (pt_truth (pe_d (ok_isroom T) hr pass0 (pa_cons (pe_op op_cat (pv 2) (pe_lst (pa_cons (pv 5) pa_nil))) pa_nil)) (by intro _; rfl)))))
            (pss_one (ps_expr (pe_bm PySem.F.plainAttrs_list PySem.F.slot_list_append PySem.F.type_list_append mt_append (pv 2) (pa_cons (pv 5) pa_nil))))
            pss_nil))) pss_nil)))
      (pss_one (ps_ret (pe_tupleOf (by rfl) T.z_tuple (pe_callB cr_sortedPO (by rfl) T.z_sorted (by decide +kernel) (pa_cons (pv 2) pa_nil)))))))), ?_⟩
    walk_at "go"
    by_cases h5 : (5 : Int) < m
    · rw [if_pos h5]
      refine pick_srcI S0 (by decide) fun r1 HA _ _ S1 k1 => ⟨rfl, ?_⟩
      split
      · exact ⟨d, c, m, rfl, S1, by omega, hm, fun p H' cs us k2 S2 n2 e2 c2 o2 z2 => h p H' cs us (k1.trans k2) S2 (src_free S1 k1 n2) e2 c2 o2 z2⟩
      · walk_at "room_loop"
    · rw [if_neg h5]
      have S1 := S0
      have k1 : Kp (DC d c) H H := Kp.refl _ _
      generalize hHA : H = HA at S1
      have k1 : Kp (DC d c) H HA := hHA ▸ k1
      walk_at "room_loop"
end
end TX
/-! part V7 -/
/-! Near texts. -/
namespace TX
open PySem PySem.Spec PyProof.Rows L2 NT RW4
theorem cut_pre {X : List Nat} {j : Nat} : cutS (SX.S X) none (some ((j : Nat) : Int)) = SX.S (X.take j) := by
  unfold cutS
  rw [HT.sIx_nat, HT.sIx_none]
  show (⟨((X.drop (min 0 (SX.S X).length)).take (min j (SX.S X).length - min 0 (SX.S X).length)).toArray⟩ : Str) = _
  rw [S_len, Nat.min_eq_left (Nat.zero_le _), List.drop_zero, Nat.sub_zero]
  by_cases h : j ≤ X.length
  · rw [Nat.min_eq_left h]
  · rw [Nat.min_eq_right (by omega), List.take_of_length_le (Nat.le_refl _), List.take_of_length_le (by omega)]
local macro_rules | `(tactic| walk_at "go") => `(tactic| simp only [L2.start, List.map_cons, List.map_nil, List.length_cons, List.length_nil, Nat.reduceSub, Nat.reduceAdd, List.replicate_succ, List.replicate_zero, List.cons_append, List.nil_append, List.append_nil,
  tSeq, tNext, tRet, tIfS, tTest, tAnd, tOr, tNot, tCB, tCall, tCons, tNil, tVar, tC, tOp, tUn, tAsg, gName, rI0, rI, CMul, CDiv, tDGet, sDPut, tBM0, tBM, tTup, tLst, tPar, tPar3, gTup, gNil, gCons, tIf, tAug, tRevL, tDisp, tPairs, tYes, wipe, tDrop, L2.tSl, tNotV, tAndV, tOrV, tB, rSlS, ipI, tNoPart, NdefX.startF, tOst, tMkO, rIxL, rIxT, rIxS, rAppend, rExtend, rPop, rSlL, rSetL, tPart, rEq, rNe, tFmt, tJn, tJs, tFi, tFs, gLst, tThen, tIf, rS, rRep, tThenZ, rIS, cRi, rSortedP, rLn, rPopAt, tCallS, ↓reduceIte, L2.gSub, ↓reduceIte,
  List.getElem?_cons_zero, List.getElem?_cons_succ, List.set_cons_zero, List.set_cons_succ, Option.some.injEq, V.int.injEq, V.str.injEq, V.ref.injEq, V.bl.injEq, exists_eq_left, exists_eq_left', exists_eq_right, exists_eq_right', exists_eq', true_and, and_true, decide_eq_true_eq, List.cons.injEq, reduceCtorEq, false_and, false_or, or_false, exists_false, exists_and_left, exists_and_right, and_assoc])
section
variable {w : World} {K : PySem.W.Frag} {mg : Str → Option Value} {base : Heap}
def spNear : Sp := fun vs H Q E => ∃ (d c : Addr) (X G : List Nat), vs = [.ref d, .str (SX.S X), .str (SX.S G)] ∧ Src H d c ∧ X.length ≤ 50000 ∧ 0 < G.length ∧ G.length ≤ 100 ∧
  ∀ (D : Addr) (ys : List (List Nat)) (H' : Hp), Kp (DC d c) H H' → Src H' d c → H D = none → H' D = some (.lst (ys.map vS)) → ys.length ≤ 5 → (∀ y ∈ ys, y.length ≤ X.length + 1) → Q (.ref D) H'
theorem ok_near (T : Txt w K mg) : Ok PW w K mg base CX0 2 "_law_near_texts" ["source", "text", "signs"] spNear := by
  obtain ⟨f, fd, D⟩ := T.d_L_near_texts
  refine ⟨f, fd, D.F.ok sc_L_near_texts (fun vs H Q E h => ?_) (fun cdv A outer s H vs Q E hr h => ?_), D.g, D.F.kp, D.b⟩
  · obtain ⟨d, c, X, G, rfl, _⟩ := h
    rfl
  · obtain ⟨d, c, X, G, rfl, S, hX, hG0, hG, h⟩ := h
    have nd := sc_L_near_texts.nd
    refine ⟨_, pss_cons (ps_set (i := 3) nd rfl (.inl rfl) (pe_lst pa_nil))
      (pss_cons (ps_for PassesOwn.never rfl (pi_range1 (by rfl) T.z_range (pa_cons pe_int pa_nil)) (pg_name (i := 4) nd rfl (.inl rfl))
        (pss_cons (ps_par (i := 5) (j := 6) (by rfl) nd rfl rfl (by decide) rfl rfl (pa_cons (pe_d (ok_pick T) hr pass0 (pa_cons (pv 0) (pa_cons (pe_op op_add (pe_callB call_len_str (by rfl) T.z_len PySem.boot_len (pa_cons (pv 1) pa_nil)) pe_int) pa_nil)))
            (pa_cons (pe_ix ix_str (pv 2) (pe_d (ok_pick T) hr pass0 (pa_cons (pv 0) (pa_cons (pe_callB call_len_str (by rfl) T.z_len PySem.boot_len (pa_cons (pv 2) pa_nil)) pa_nil))) (fun _ _ => rfl)) pa_nil)) (by rfl))
        (pss_cons (ps_set (i := 7) nd rfl (.inl rfl) (pe_lst (pa_cons (pe_op op_S (pe_op op_S (pe_slice sl_str (pv 1) po_none (po_some (pv 5))) (pv 6)) (pe_slice sl_str (pv 1) (po_some (pv 5)) po_none))
            (pa_cons (pe_op op_S (pe_slice sl_str (pv 1) po_none (po_some (pv 5))) (pe_slice sl_str (pv 1) (po_some (pe_op op_add (pv 5) pe_int)) po_none))
            (pa_cons (pe_op op_S (pe_op op_S (pe_slice sl_str (pv 1) po_none (po_some (pv 5))) (pv 6)) (pe_slice sl_str (pv 1) (po_some (pe_op op_add (pv 5) pe_int)) po_none))
            (pa_cons (pe_slice sl_str (pv 1) po_none (po_some (pv 5))) pa_nil))))))
        (pss_one (ps_expr (pe_bm PySem.F.plainAttrs_list PySem.F.slot_list_append PySem.F.type_list_append mt_append (pv 3) (pa_cons
          (pe_ix ix_list (pe_op op_cat (pv 7) (pe_lst (pa_cons (pe_op op_S (pv 1) (pv 6)) pa_nil))) (pe_d (ok_pick T) hr pass0 (pa_cons (pv 0) (pa_cons pe_int pa_nil))) (fun _ _ => rfl)) pa_nil)))))))
      (pss_one (ps_ret (pv 3)))), ?_⟩
    walk_at "go"
    refine ⟨by decide, fun D hD => ⟨5, rfl, by decide, by decide, for_it (n := 5) walk_range (fun i σ H' => ∃ (ys : List (List Nat)) (v4 v5 v6 v7 : Option V), Kp (DC d c) H H' ∧ Src H' d c ∧ H' D = some (.lst (ys.map vS)) ∧ ys.length = i ∧ (∀ y ∈ ys, y.length ≤ X.length + 1) ∧ σ = [some (.ref d), some (.str (SX.S X)), some (.str (SX.S G)), some (.ref D), v4, v5, v6, v7])
      ⟨[], none, none, none, none, Kp.of_same (same_new hD), S.same (same_new hD), upd_same, rfl, (fun _ z => nomatch z), rfl⟩ (fun _ _ _ _ _ => trivial) ?_ ?_⟩⟩
    · rintro i x σ H1 H2 hi ⟨ys, v4, v5, v6, v7, k1, S1, eD, ly, my, rfl⟩ ⟨rfl, rfl⟩
      have dD : ¬ DC d c D := S.off hD
      walk_at "go"
      refine ⟨by rw [S_len]; exact small_sz hX (by decide), pick_src S1 (by rw [S_len]; omega) fun r H3 r0 r1 S3 k3 => ?_⟩
      walk_at "go"
      refine ⟨by rw [S_len]; exact small_sz hG (by decide), pick_src S3 (by rw [S_len]; omega) fun q H4 q0 q1 S4 k4 => ?_⟩
      walk_at "go"
      obtain ⟨k, rfl⟩ := Int.eq_ofNat_of_zero_le r0
      obtain ⟨q, rfl⟩ := Int.eq_ofNat_of_zero_le q0
      rw [S_len] at q1
      have hq : q < G.length := by omega
      have lX : (SX.S X).length ≤ sizeLine := by rw [S_len]; exact small_sz hX (by decide)
      have lG : (SX.S G).length ≤ sizeLine := by rw [S_len]; exact small_sz hG (by decide)
      have l1 : (X.take k).length ≤ X.length := by rw [List.length_take]; omega
      have l2 : (X.take k).length + (X.drop k).length = X.length := by rw [List.length_take, List.length_drop]; omega
      have l3 : (X.take k).length + (X.drop (k + 1)).length ≤ X.length := by rw [List.length_take, List.length_drop]; omega
      refine ⟨lG, G[q], atI_nat (List.getElem?_eq_getElem hq), lX, _, cut_pre, [G[q]], rfl, ?_, lX, _, rfl, _, cut_S0, ?_, lX, lX, _, cut_pre, _, cut_S0 (i := k + 1), ?_, lX, _, cut_pre, [G[q]], rfl, ?_, lX, _, rfl, _, cut_S0 (i := k + 1), ?_, lX, by decide, fun p hp => ?_⟩
      · simp only [List.length_cons, List.length_nil]
        omega
      · simp only [List.length_append, List.length_cons, List.length_nil]
        omega
      · omega
      · simp only [List.length_cons, List.length_nil]
        omega
      · simp only [List.length_append, List.length_cons, List.length_nil]
        omega
      · rw [cut_pre]
        have e4 := k4 _ _ (k3 _ _ eD dD) dD
        have Dp : D ≠ p := ne_of_none e4 hp
        have hHp : H p = none := k1.none (k3.none (k4.none hp (S4.off hp)) (S3.off (k4.none hp (S4.off hp)))) (S1.off (k3.none (k4.none hp (S4.off hp)) (S3.off (k4.none hp (S4.off hp)))))
        refine ⟨.inl ⟨rfl, _, .inl (.inl (by rw [upd_ne Dp]; exact e4))⟩, X, rfl, [G[q]], rfl, ?_, by decide, fun p2 hp2 => ?_⟩
        · simp only [List.length_cons, List.length_nil]
          omega
        have pp2 : p ≠ p2 := ne_of_none upd_same hp2
        have hp2' : H4 p2 = none := by rw [upd_ne pp2.symm] at hp2; exact hp2
        have Dp2 : D ≠ p2 := ne_of_none e4 hp2'
        refine ⟨p, p2, [vS (X.take k ++ [G[q]] ++ X.drop k), vS (X.take k ++ X.drop (k + 1)), vS (X.take k ++ [G[q]] ++ X.drop (k + 1)), vS (X.take k)], [vS (X ++ [G[q]])], rfl, rfl, by rw [upd_ne pp2]; exact upd_same, upd_same, (show 5 ≤ sizeLine by decide), fun p3 hp3 => ?_⟩
        have s5 : Same H4 (upd H4 p (.lst [vS (X.take k ++ [G[q]] ++ X.drop k), vS (X.take k ++ X.drop (k + 1)), vS (X.take k ++ [G[q]] ++ X.drop (k + 1)), vS (X.take k)])) := same_new hp
        have s6 := s5.trans (same_new (o := .lst [vS (X ++ [G[q]])]) hp2)
        have s7 := s6.trans (same_new (o := .lst [vS (X.take k ++ [G[q]] ++ X.drop k), vS (X.take k ++ X.drop (k + 1)), vS (X.take k ++ [G[q]] ++ X.drop (k + 1)), vS (X.take k), vS (X ++ [G[q]])]) hp3)
        have hp3' : H4 p3 = none := s6.free hp3
        have Dp3 : D ≠ p3 := ne_of_none e4 hp3'
        refine pick_src (S4.same s7) (by decide) fun r H6 r0 r1 S6 k6 => ?_
        obtain ⟨r, rfl⟩ := Int.eq_ofNat_of_zero_le r0
        have hr5 : r < 5 := by omega
        let zs : List (List Nat) := [X.take k ++ [G[q]] ++ X.drop k, X.take k ++ X.drop (k + 1), X.take k ++ [G[q]] ++ X.drop (k + 1), X.take k, X ++ [G[q]]]
        have hzl : r < zs.length := hr5
        have hz : ∀ y ∈ zs, y.length ≤ X.length + 1 := by
          intro y hy
          simp only [zs, List.mem_cons, List.not_mem_nil, or_false] at hy
          rcases hy with rfl | rfl | rfl | rfl | rfl <;> first | omega | (simp only [List.length_append, List.length_cons, List.length_nil]; omega)
        have e6 := k6 _ _ (s7 _ _ e4) dD
        have e3 := k6 p3 _ upd_same (S4.off hp3')
        refine ⟨p3, rfl, _, r, rfl, .inl (.inl e3), _, atI_nat (v := vS zs[r]) (by rw [show ([vS (X.take k ++ [G[q]] ++ X.drop k), vS (X.take k ++ X.drop (k + 1)), vS (X.take k ++ [G[q]] ++ X.drop (k + 1)), vS (X.take k)] ++ [vS (X ++ [G[q]])]) = zs.map vS from rfl, List.getElem?_map, List.getElem?_eq_getElem hzl]; rfl), _, e6, ?_, ?_, ?_, ys ++ [zs[r]], ?_, ?_, ?_⟩
        · rw [List.length_map]
          exact small_lt (m := 100) (by omega) (by decide)
        · intro b o hb nb
          rw [upd_ne (ne_of_none hb hD)]
          exact k6 _ _ (s7 _ _ (k4 _ _ (k3 _ _ (k1 _ _ hb nb) nb) nb)) nb
        · exact S6.upd dD
        · rw [upd_same, List.map_append]
          rfl
        · rw [List.length_append, ly]
          rfl
        · intro y hy
          rcases List.mem_append.mp hy with hy | hy
          · exact my y hy
          · rw [List.mem_singleton.mp hy]
            exact hz _ (List.getElem_mem hzl)
    · rintro σ H1 ⟨ys, v4, v5, v6, v7, k1, S1, eD, ly, my, rfl⟩
      walk_at "go"
      exact h D ys H1 k1 S1 hD eD (by omega) my
end
end TX
/-! part N27 -/
/-! The machine of deeds and logs: what it holds after each sign, and that it is the automaton. -/
namespace RW4
open PySem
abbrev Stk := List Str
/-- the ways of a part -/
abbrev Gr := List (Str × List (List Str))
def ways (g : Gr) (x : Str) : Option (List (List Str)) := (g.find? fun p => decide (p.1 = x)).map (·.2)
def addR (ready : List Stk) (r : Stk) : List Stk := if r ∈ ready then ready else ready ++ [r]
/-- the parts told out, from the last one -/
def clo (g : Gr) : Nat → List Stk → List Stk → Option (List Stk)
  | 0, _, _ => none
  | n + 1, opn, ready => match opn.getLast? with
    | none => some ready
    | some [] => clo g n opn.dropLast (addR ready [])
    | some (h :: t) => match ways g h with
      | none => clo g n opn.dropLast (addR ready (h :: t))
      | some ws => clo g n (opn.dropLast ++ ws.map (· ++ t)) ready
/-- whether a sign may stand for a part -/
def fits (c : Nat) (x : Str) : Bool := decide (c ∈ (if x = "digit" then ("0123456789" : Str) else if x = "1-9" then ("123456789" : Str) else x).cps.toList)
def stp (c : Nat) : List Stk → List Stk
  | [] => []
  | [] :: rs => stp c rs
  | (h :: t) :: rs => if fits c h = true then t :: stp c rs else stp c rs
def farM (g : Gr) (fuel : Nat) : List Stk → List Nat → Option (Nat × Bool)
  | opn, s => match clo g fuel opn [] with
    | none => none
    | some ready => match s with
      | [] => some (0, decide ([] ∈ ready))
      | c :: r => if stp c ready = [] then some (0, false) else (farM g fuel (stp c ready) r).map fun x => (x.1 + 1, x.2)
termination_by _ s => s.length
/-! ### the grammar of deeds and logs -/
def gD0 : Gr := [("deed", [["o", "p", "e", "n", " ", "place"], ["w", "a", "l", "l", " ", "place"], ["s", "e", "t", " ", "place"], ["t", "a", "k", "e", " ", "place"]]), ("log", [["deed", "logs"]])]
def gD1 : Gr := [("logs", [[], ["\n", "deed", "logs"]]), ("place", [["great", ",", "great"]]), ("great", [["0"], ["1-9", "digit59"], ["-", "1-9", "digit59"]]), ("digit0", [[]])]
def gD2 : Gr := [("digit1", [[], ["digit", "digit0"]]), ("digit2", [[], ["digit", "digit1"]]), ("digit3", [[], ["digit", "digit2"]]), ("digit4", [[], ["digit", "digit3"]]), ("digit5", [[], ["digit", "digit4"]]), ("digit6", [[], ["digit", "digit5"]]), ("digit7", [[], ["digit", "digit6"]]), ("digit8", [[], ["digit", "digit7"]]), ("digit9", [[], ["digit", "digit8"]])]
def gD3 : Gr := [("digit10", [[], ["digit", "digit9"]]), ("digit11", [[], ["digit", "digit10"]]), ("digit12", [[], ["digit", "digit11"]]), ("digit13", [[], ["digit", "digit12"]]), ("digit14", [[], ["digit", "digit13"]]), ("digit15", [[], ["digit", "digit14"]]), ("digit16", [[], ["digit", "digit15"]]), ("digit17", [[], ["digit", "digit16"]]), ("digit18", [[], ["digit", "digit17"]]), ("digit19", [[], ["digit", "digit18"]])]
def gD4 : Gr := [("digit20", [[], ["digit", "digit19"]]), ("digit21", [[], ["digit", "digit20"]]), ("digit22", [[], ["digit", "digit21"]]), ("digit23", [[], ["digit", "digit22"]]), ("digit24", [[], ["digit", "digit23"]]), ("digit25", [[], ["digit", "digit24"]]), ("digit26", [[], ["digit", "digit25"]]), ("digit27", [[], ["digit", "digit26"]]), ("digit28", [[], ["digit", "digit27"]]), ("digit29", [[], ["digit", "digit28"]])]
def gD5 : Gr := [("digit30", [[], ["digit", "digit29"]]), ("digit31", [[], ["digit", "digit30"]]), ("digit32", [[], ["digit", "digit31"]]), ("digit33", [[], ["digit", "digit32"]]), ("digit34", [[], ["digit", "digit33"]]), ("digit35", [[], ["digit", "digit34"]]), ("digit36", [[], ["digit", "digit35"]]), ("digit37", [[], ["digit", "digit36"]]), ("digit38", [[], ["digit", "digit37"]]), ("digit39", [[], ["digit", "digit38"]])]
def gD6 : Gr := [("digit40", [[], ["digit", "digit39"]]), ("digit41", [[], ["digit", "digit40"]]), ("digit42", [[], ["digit", "digit41"]]), ("digit43", [[], ["digit", "digit42"]]), ("digit44", [[], ["digit", "digit43"]]), ("digit45", [[], ["digit", "digit44"]]), ("digit46", [[], ["digit", "digit45"]]), ("digit47", [[], ["digit", "digit46"]]), ("digit48", [[], ["digit", "digit47"]]), ("digit49", [[], ["digit", "digit48"]])]
def gD7 : Gr := [("digit50", [[], ["digit", "digit49"]]), ("digit51", [[], ["digit", "digit50"]]), ("digit52", [[], ["digit", "digit51"]]), ("digit53", [[], ["digit", "digit52"]]), ("digit54", [[], ["digit", "digit53"]]), ("digit55", [[], ["digit", "digit54"]]), ("digit56", [[], ["digit", "digit55"]]), ("digit57", [[], ["digit", "digit56"]]), ("digit58", [[], ["digit", "digit57"]]), ("digit59", [[], ["digit", "digit58"]])]
def gD : Gr := gD0 ++ gD1 ++ gD2 ++ gD3 ++ gD4 ++ gD5 ++ gD6 ++ gD7
def dgN (k : Nat) : Str := SX.S ([100, 105, 103, 105, 116] ++ intL (k : Nat))
/-- what is left of a form -/
def tlF : List Nat → Stk
  | [] => []
  | x :: r => if x :: r = [90, 44, 90] then ["place"] else (if x = 90 then "great" else ⟨#[x]⟩) :: tlF r
/-- what stands behind a deed -/
def tlL (lg : Bool) : Stk := if lg = true then ["logs"] else []
def opn4 (lg : Bool) : St4 → List Stk
  | .own n => if n = 0 then [("deed" : Str) :: tlL lg] else [((wd (n / 10)).drop (n % 10)).map (fun c => (⟨#[c]⟩ : Str)) ++ tlF fZ ++ tlL lg]
  | .num _ f => [("great" : Str) :: tlF f ++ tlL lg]
  | .minus _ f => [("1-9" : Str) :: "digit59" :: tlF f ++ tlL lg]
  | .digs n f => [dgN n :: tlF f ++ tlL lg]
  | .lit f => [tlF f ++ tlL lg]
def rdy (lg : Bool) (q : St4) : List Stk := (clo gD 40 (opn4 lg q) []).getD []
/-- the states that come -/
def all4 : List St4 := [.own 0, .own 1, .own 2, .own 3, .own 11, .own 12, .own 13, .own 21, .own 22, .own 31, .own 32, .own 33, .lit fZ, .num 90 [44, 90], .minus 90 [44, 90], .num 90 [], .minus 90 [], .lit [44, 90], .lit []] ++
  ((List.range 60).map fun n => .digs n [44, 90]) ++ ((List.range 60).map fun n => .digs n [])
def abc4 : List Nat := [48, 49, 50, 51, 52, 53, 54, 55, 56, 57, 45, 44, 32, 10, 111, 112, 101, 110, 119, 97, 108, 115, 116, 107]
def ok1 (lg : Bool) (q : St4) : Bool := decide (clo gD 40 (opn4 lg q) [] = some (rdy lg q)) && decide (decide ([] ∈ rdy lg q) = acc q) && (rdy lg q).all (fun r => match r with | [] => true | h :: _ => (ways gD h).isNone) &&
  abc4.all fun c => match dl (auD lg) q c with
    | none => decide (stp c (rdy lg q) = [])
    | some q' => decide (q' ∈ all4) && decide (stp c (rdy lg q) ≠ []) && decide (clo gD 40 (stp c (rdy lg q)) [] = some (rdy lg q'))
theorem okF : all4.all (ok1 false) = true := by decide +kernel
theorem okT : all4.all (ok1 true) = true := by decide +kernel
theorem ok_all (lg : Bool) : ∀ q ∈ all4, ok1 lg q = true := fun q hq => by
  cases lg
  · exact List.all_eq_true.mp okF q hq
  · exact List.all_eq_true.mp okT q hq
/-- no further sign fits -/
def terms : List Str := ["digit", "1-9", "0", "-", ",", " ", "\n", "o", "p", "e", "n", "w", "a", "l", "s", "t", "k"]
theorem fits_off {c : Nat} (hc : c ∉ abc4) : ∀ h ∈ terms, fits c h = false := by
  intro h hh
  have key : ∀ x ∈ terms, ∀ y ∈ (if x = "digit" then ("0123456789" : Str) else if x = "1-9" then ("123456789" : Str) else x).cps.toList, y ∈ abc4 := by decide +kernel
  unfold fits
  exact decide_eq_false fun hm => hc (key h hh c hm)
theorem tms (lg : Bool) : ∀ q ∈ all4, ∀ r ∈ rdy lg q, ∀ h t, r = h :: t → h ∈ terms := by
  have key : ∀ lg ∈ [true, false], all4.all (fun q => (rdy lg q).all fun r => match r with | [] => true | h :: _ => decide (h ∈ terms)) = true := by decide +kernel
  intro q hq r hr h t e
  have h1 := key lg (by cases lg <;> simp)
  have h2 := List.all_eq_true.mp (List.all_eq_true.mp h1 q hq) r hr
  subst e
  simpa using h2
theorem stp_off {c : Nat} (hc : c ∉ abc4) : ∀ {rs : List Stk}, (∀ r ∈ rs, ∀ h t, r = h :: t → h ∈ terms) → stp c rs = []
  | [], _ => rfl
  | [] :: rs, h => stp_off hc (rs := rs) fun r hr => h r (List.mem_cons_of_mem _ hr)
  | (x :: t) :: rs, h => by
    unfold stp
    rw [if_neg (by rw [fits_off hc x (h _ List.mem_cons_self x t rfl)]; exact Bool.false_ne_true)]
    exact stp_off hc (rs := rs) fun r hr => h r (List.mem_cons_of_mem _ hr)
def lh : St4 → Nat
  | .digs _ (ch :: _) => ch
  | .lit (ch :: _) => ch
  | .own n => if n = 0 then 48 else (wat (n / 10) (n % 10)).getD 48
  | _ => 48
theorem lhs : ∀ q ∈ all4, lh q ∈ abc4 := by
  have key : all4.all (fun q => decide (lh q ∈ abc4)) = true := by decide +kernel
  intro q hq
  simpa using List.all_eq_true.mp key q hq
theorem dl_off {lg : Bool} {c : Nat} (hc : c ∉ abc4) (q : St4) (hq : lh q ∈ abc4) : dl (auD lg) q c = none := by
  have n48 : c ≠ 48 := fun e => hc (by rw [e]; decide)
  have n45 : c ≠ 45 := fun e => hc (by rw [e]; decide)
  have n10 : c ≠ 10 := fun e => hc (by rw [e]; decide)
  have nd : ¬ dg c = true := fun e => hc (by
    unfold dg at e
    simp only [Bool.and_eq_true, decide_eq_true_eq] at e
    have : c = 48 ∨ c = 49 ∨ c = 50 ∨ c = 51 ∨ c = 52 ∨ c = 53 ∨ c = 54 ∨ c = 55 ∨ c = 56 ∨ c = 57 := by omega
    rcases this with rfl | rfl | rfl | rfl | rfl | rfl | rfl | rfl | rfl | rfl <;> decide)
  have n1 : ¬ d1 c = true := fun e => nd (d1_dg e)
  have lit : ∀ f : List Nat, (∀ ch r, f = ch :: r → ch ∈ abc4) → litD (auD lg) f c = none := fun f hf => by
    cases f with
    | nil => exact if_neg fun z => n10 z.2
    | cons ch r => exact if_neg fun e => hc (by rw [e]; exact hf ch r rfl)
  cases q with
  | own n =>
    show (auD lg).st n c = none
    by_cases h0 : n = 0
    · subst h0
      refine st0 ?_
      unfold wI
      rw [if_neg fun e => hc (by rw [e]; decide), if_neg fun e => hc (by rw [e]; decide), if_neg fun e => hc (by rw [e]; decide), if_neg fun e => hc (by rw [e]; decide)]
    · unfold auD
      dsimp only
      rw [if_neg h0]
      replace hq : (if n = 0 then 48 else (wat (n / 10) (n % 10)).getD 48) ∈ abc4 := hq
      rw [if_neg h0] at hq
      cases e : wat (n / 10) (n % 10) with
      | none => rfl
      | some x =>
        rw [e] at hq
        dsimp only
        exact if_neg fun z => hc (by rw [z]; exact hq)
  | num x f =>
    unfold dl
    dsimp only
    rw [if_neg fun z => n45 z.2, if_neg n48, if_neg n1]
  | minus x f => exact if_neg n1
  | digs n f =>
    unfold dl
    dsimp only
    rw [if_neg fun z => nd z.1]
    exact lit f fun ch r e => by
      subst e
      exact hq
  | lit f =>
    exact lit f fun ch r e => by
      subst e
      exact hq
/-- the machine goes as the automaton -/
theorem far_run (lg : Bool) : ∀ (s : List Nat) (q : St4) (o : List Stk), q ∈ all4 → clo gD 40 o [] = some (rdy lg q) → farM gD 40 o s = some (run (auD lg) q s) := by
  intro s
  induction s with
  | nil =>
    intro q o hq ho
    have h := ok_all lg q hq
    unfold ok1 at h
    simp only [Bool.and_eq_true, decide_eq_true_eq] at h
    unfold farM
    rw [ho]
    dsimp only
    rw [h.1.1.2]
    rfl
  | cons c r ih =>
    intro q o hq ho
    have h := ok_all lg q hq
    unfold ok1 at h
    simp only [Bool.and_eq_true, List.all_eq_true] at h
    unfold farM
    rw [ho]
    dsimp only
    by_cases hc : c ∈ abc4
    · have h2 := h.2 c hc
      cases e : dl (auD lg) q c with
      | none =>
        rw [e] at h2
        dsimp only at h2
        rw [if_pos (of_decide_eq_true h2), run_none e]
      | some q' =>
        rw [e] at h2
        simp only [Bool.and_eq_true, decide_eq_true_eq] at h2
        rw [if_neg h2.1.2, ih q' _ h2.1.1 h2.2, run_cons e]
        rfl
    · rw [stp_off hc (tms lg q hq), if_pos rfl, run_none (dl_off hc q (lhs q hq))]
theorem far_log (s : List Nat) : farM gD 40 [["log"]] s = some (match logS s with | .error j => (j, false) | .ok _ => (s.length, true)) := by
  rw [far_run true s (.own 0) [["log"]] (by decide) (by decide +kernel)]
  exact congrArg some (run_log s)
theorem far_one (s : List Nat) : farM gD 40 [["deed"]] s = some (match oneS s with | .error j => (j, false) | .ok _ => (s.length, true)) := by
  rw [far_run false s (.own 0) [["deed"]] (by decide) (by decide +kernel)]
  exact congrArg some (run_one s)
end RW4
/-! part V8 -/
/-! The machine's stacks in the heap. -/
namespace TX
open PySem PySem.Spec PyProof.Rows L2 NT RW4
theorem same_2 {H H' : Hp} {p : Addr} {o o' : HO} (s : Same H H') (hp : H' p = none) : Same H (upd (upd H' p o) p o') := fun b u hb => by
  have q := s _ _ hb
  rw [upd_ne (ne_of_none q hp), upd_ne (ne_of_none q hp)]
  exact q
def dWay (ws : List Str) : PyData := .list (ws.map .str)
def dStk (s : Stk) : PyData := .tuple (s.map .str)
def symB (x : Str) : Bool := (ways gD x).isSome || decide (x ∈ terms)
theorem sym_cl0 : gD.all (fun p => p.2.all fun w => w.all symB) = true := by decide +kernel
theorem sym_len0 : gD.all (fun p => decide (p.2.length ≤ 4) && p.2.all fun w => decide (w.length ≤ 6)) = true := by decide +kernel
theorem sym_ok0 : (gD.map (·.1) ++ terms).all PyData.strOk = true := by decide +kernel
theorem term_ways0 : terms.all (fun x => (ways gD x).isNone) = true := by decide +kernel
theorem ways_mem {g : Gr} {x : Str} {ws : List (List Str)} (h : ways g x = some ws) : ∃ p ∈ g, p.1 = x ∧ p.2 = ws := by
  unfold ways at h
  cases e : g.find? fun p => decide (p.1 = x) with
  | none =>
    rw [e] at h
    cases h
  | some p =>
    rw [e] at h
    cases h
    have q := List.find?_some (p := fun p : Str × List (List Str) => decide (p.1 = x)) e
    exact ⟨p, List.mem_of_find?_eq_some e, of_decide_eq_true q, rfl⟩
theorem sym_cl {x : Str} {ws : List (List Str)} (h : ways gD x = some ws) : ∀ w ∈ ws, ∀ y ∈ w, symB y = true := by
  obtain ⟨p, hp, _, rfl⟩ := ways_mem h
  exact fun w hw y hy => List.all_eq_true.mp (List.all_eq_true.mp (List.all_eq_true.mp sym_cl0 p hp) w hw) y hy
theorem sym_len {x : Str} {ws : List (List Str)} (h : ways gD x = some ws) : ws.length ≤ 4 ∧ ∀ w ∈ ws, w.length ≤ 6 := by
  obtain ⟨p, hp, _, rfl⟩ := ways_mem h
  have q := List.all_eq_true.mp sym_len0 p hp
  rw [Bool.and_eq_true] at q
  exact ⟨of_decide_eq_true q.1, fun w hw => of_decide_eq_true (List.all_eq_true.mp q.2 w hw)⟩
theorem sym_ok {x : Str} (h : symB x = true) : PyData.strOk x = true := by
  refine List.all_eq_true.mp sym_ok0 x ?_
  unfold symB at h
  rcases Bool.or_eq_true _ _ ▸ h with h | h
  · cases e : ways gD x with
    | none =>
      rw [e] at h
      cases h
    | some ws =>
      obtain ⟨p, hp, e1, _⟩ := ways_mem e
      exact List.mem_append_left _ (List.mem_map.mpr ⟨p, hp, e1⟩)
  · exact List.mem_append_right _ (of_decide_eq_true h)
theorem sym_term {x : Str} (h : symB x = true) (hn : ways gD x = none) : x ∈ terms := by
  unfold symB at h
  rw [hn] at h
  simpa using h
/-- the grammar's dict, as far as the machine asks -/
def GrAt (H : Hp) (g : Addr) : Prop := ∃ kvs : List (Key × V), H g = some (.dK kvs) ∧ (∀ x ws, ways gD x = some ws → ∃ v, valV kvs (.inr x) = some v ∧ At No H (.list (ws.map dWay)) v) ∧ ∀ x, x ∈ terms → valV kvs (.inr x) = none
theorem GrAt.same {H H' : Hp} {g : Addr} (h : GrAt H g) (s : Same H H') : GrAt H' g := by
  obtain ⟨kvs, e, h1, h2⟩ := h
  refine ⟨kvs, s _ _ e, fun x ws hx => ?_, h2⟩
  obtain ⟨v, a, b⟩ := h1 x ws hx
  exact ⟨v, a, b.kp (Kp.of_same s)⟩
/-- tuples stand -/
def Tk (H H' : Hp) : Prop := ∀ b xs, H b = some (.tup xs) → H' b = some (.tup xs)
theorem Tk.trans {H H1 H2 : Hp} (a : Tk H H1) (b : Tk H1 H2) : Tk H H2 := fun c xs h => b c xs (a c xs h)
theorem Tk.of {H H' : Hp} (s : Same H H') : Tk H H' := fun b xs h => s _ _ h
theorem Tk.new {H : Hp} {p : Addr} {o : HO} (h : H p = none) : Tk H (upd H p o) := Tk.of (same_new h)
theorem Tk.lst {H : Hp} {p : Addr} {ys : List V} {o : HO} (h : H p = some (.lst ys)) : Tk H (upd H p o) := fun b xs e => by
  have : b ≠ p := fun z => by
    rw [z, h] at e
    cases e
  rw [upd_ne this]
  exact e
theorem Tk.dT {H : Hp} {p : Addr} {kvs : List (List Key × V)} {o : HO} (h : H p = some (.dT kvs)) : Tk H (upd H p o) := fun b xs e => by
  have : b ≠ p := fun z => by
    rw [z, h] at e
    cases e
  rw [upd_ne this]
  exact e
theorem Tk.frz {H : Hp} {p : Addr} {u : Obj} {v : HO} {o : HO} (h : H p = some (.frz u v)) : Tk H (upd H p o) := fun b xs e => by
  have : b ≠ p := fun z => by
    rw [z, h] at e
    cases e
  rw [upd_ne this]
  exact e
theorem strs_at {S : Addr → Prop} {H H' : Hp} : ∀ {s : List Str} {vs : List V}, AtL S H (s.map PyData.str) vs → vs = s.map V.str
  | [], vs, h => h.nil
  | x :: s, vs, h => by
    obtain ⟨v, r, rfl, h1, h2⟩ := h.cons
    rw [h1.str, strs_at (H' := H') h2]
    rfl
theorem at_strs {S : Addr → Prop} {H : Hp} : ∀ s : List Str, AtL S H (s.map PyData.str) (s.map V.str)
  | [] => atl_nil
  | x :: s => atl_cons at_str (at_strs s)
/-- a stack at a value -/
def Sk (H : Hp) (s : Stk) (v : V) : Prop := ∃ p, v = .ref p ∧ H p = some (.tup (s.map V.str))
inductive SkL (H : Hp) : List Stk → List V → Prop where
  | nil : SkL H [] []
  | cons {s : Stk} {ss : List Stk} {v : V} {vs : List V} (h : Sk H s v) (r : SkL H ss vs) : SkL H (s :: ss) (v :: vs)
theorem Sk.tk {H H' : Hp} {s : Stk} {v : V} (h : Sk H s v) (t : Tk H H') : Sk H' s v := by
  obtain ⟨p, e, hp⟩ := h
  exact ⟨p, e, t _ _ hp⟩
theorem SkL.tk {H H' : Hp} {ss : List Stk} {vs : List V} (h : SkL H ss vs) (t : Tk H H') : SkL H' ss vs := by
  induction h with
  | nil => exact .nil
  | cons h _ ih => exact .cons (h.tk t) ih
theorem SkL.length {H : Hp} {ss : List Stk} {vs : List V} (h : SkL H ss vs) : vs.length = ss.length := by
  induction h with
  | nil => rfl
  | cons _ _ ih => rw [List.length_cons, List.length_cons, ih]
theorem SkL.append {H : Hp} {ss tt : List Stk} {vs us : List V} (h : SkL H ss vs) (g : SkL H tt us) : SkL H (ss ++ tt) (vs ++ us) := by
  induction h with
  | nil => exact g
  | cons h _ ih => exact .cons h ih
theorem SkL.snoc {H : Hp} {ss : List Stk} {s : Stk} {vs : List V} {v : V} (h : SkL H ss vs) (g : Sk H s v) : SkL H (ss ++ [s]) (vs ++ [v]) := h.append (.cons g .nil)
theorem SkL.last {H : Hp} {ss : List Stk} {s : Stk} : ∀ {vs : List V}, SkL H (ss ++ [s]) vs → ∃ us v, vs = us ++ [v] ∧ SkL H ss us ∧ Sk H s v := by
  induction ss with
  | nil =>
    intro vs h
    cases h with
    | cons h r =>
      cases r
      exact ⟨[], _, rfl, .nil, h⟩
  | cons a ss ih =>
    intro vs h
    cases h with
    | cons h r =>
      obtain ⟨us, v, rfl, h1, h2⟩ := ih r
      exact ⟨_ :: us, v, rfl, .cons h h1, h2⟩
theorem SkL.dp {K : PySem.W.Frag} {H : Hp} {ss : List Stk} {vs : List V} (h : SkL H ss vs) : DpAll K H vs (ss.map dStk) := by
  have q : ∀ s : List Str, DpAll K H (s.map V.str) (s.map PyData.str) := fun s => by
    induction s with
    | nil => exact .nil
    | cons x s ih => exact .cons (.str x) ih
  induction h with
  | nil => exact .nil
  | @cons s ss v vs h _ ih =>
    obtain ⟨p, rfl, hp⟩ := h
    exact .cons (.tup (.inl (.inl hp)) (q s)) ih
theorem stk_dp {K : PySem.W.Frag} {H : Hp} (s : List Str) : DpAll K H (s.map V.str) (s.map PyData.str) := by
  induction s with
  | nil => exact .nil
  | cons x s ih => exact .cons (.str x) ih
theorem stk_can {s : Stk} (h : ∀ y ∈ s, symB y = true) : PyData.canLayAll0 (s.map PyData.str) = true := by
  induction s with
  | nil => rfl
  | cons x s ih =>
    simp only [List.map_cons, PyData.canLayAll0, PyData.canLay0, sym_ok (h x List.mem_cons_self), Bool.true_and]
    exact ih fun y hy => h y (List.mem_cons_of_mem _ hy)
theorem stk_depth (s : Stk) : PyData.depthAll (s.map PyData.str) = 0 := by
  induction s with
  | nil => rfl
  | cons x s ih =>
    simp only [List.map_cons, PyData.depthAll, PyData.depth, ih]
    rfl
theorem stk_shaped {s : Stk} (h : ∀ y ∈ s, symB y = true) : SeqAt.shaped (.tuple (s.map PyData.str)) = true := by
  unfold SeqAt.shaped
  simp only [PyData.canLay0, PyData.depth, stk_can h, stk_depth, Bool.true_and]
  rfl
theorem opn_can {ss : List Stk} (h : ∀ s ∈ ss, ∀ y ∈ s, symB y = true) : PyData.canLayAll0 (ss.map dStk) = true := by
  induction ss with
  | nil => rfl
  | cons s ss ih =>
    simp only [List.map_cons, PyData.canLayAll0, dStk, PyData.canLay0, stk_can (h s List.mem_cons_self), Bool.true_and]
    exact ih fun y hy => h y (List.mem_cons_of_mem _ hy)
theorem opn_depth (ss : List Stk) : PyData.depthAll (ss.map dStk) ≤ 1 := by
  induction ss with
  | nil => exact Nat.zero_le _
  | cons s ss ih =>
    simp only [List.map_cons, PyData.depthAll, dStk, PyData.depth, stk_depth]
    exact Nat.max_le.mpr ⟨Nat.le_refl _, ih⟩
theorem opn_shaped {ss : List Stk} (h : ∀ s ∈ ss, ∀ y ∈ s, symB y = true) : SeqAt.shaped (.list (ss.map dStk)) = true := by
  unfold SeqAt.shaped
  simp only [PyData.canLay0, PyData.depth, opn_can h, Bool.true_and]
  have := opn_depth ss
  exact decide_eq_true (by omega)
theorem opn_eqv (ss : List Stk) : PyData.eqv (.list (ss.map dStk)) (.list []) = decide (ss = []) := by
  cases ss with
  | nil => rfl
  | cons y ys => simp [PyData.eqv, PyData.eqvAll]
theorem stk_eqv (s : Stk) : PyData.eqv (.tuple (s.map PyData.str)) (.tuple []) = decide (s = []) := by
  cases s with
  | nil => rfl
  | cons y ys => simp [PyData.eqv, PyData.eqvAll]
/-- the ready ones as a dict's entries -/
def rdK (rs : List Stk) : List (List Key × V) := rs.map fun r => (r.map Sum.inr, V.bl true)
theorem key_str (s : Stk) : (s.map (Sum.inr : Str → Key)).map kV = s.map V.str := by
  rw [List.map_map]
  rfl
theorem key_inj {a b : Stk} (h : a.map (Sum.inr : Str → Key) = b.map Sum.inr) : a = b := by
  have := congrArg (List.map fun k : Key => match k with | .inr x => x | .inl _ => "") h
  rw [List.map_map, List.map_map] at this
  have e : ∀ l : Stk, List.map ((fun k : Key => match k with | .inr x => x | .inl _ => "") ∘ Sum.inr) l = l := fun l => by
    induction l with
    | nil => rfl
    | cons x l ih => rw [List.map_cons, ih]; rfl
  rw [e, e] at this
  exact this
theorem rdK_val (rs : List Stk) (r : Stk) : valV (rdK rs) (r.map Sum.inr) = if r ∈ rs then some (.bl true) else none := by
  induction rs with
  | nil => rfl
  | cons a rs ih =>
    unfold rdK at ih ⊢
    rw [List.map_cons]
    by_cases h : a = r
    · subst h
      rw [if_pos List.mem_cons_self]
      exact valV_pos rfl
    · rw [valV_neg (p := (a.map Sum.inr, V.bl true)) (fun z => h (key_inj z)), ih]
      by_cases h2 : r ∈ rs
      · rw [if_pos h2, if_pos (List.mem_cons_of_mem _ h2)]
      · rw [if_neg h2, if_neg (fun z => (List.mem_cons.mp z).elim (fun z => h z.symm) h2)]
theorem rdK_put (rs : List Stk) (r : Stk) : putK (rdK rs) (r.map Sum.inr) (.bl true) = rdK (addR rs r) := by
  unfold addR
  by_cases h : r ∈ rs
  · rw [if_pos h]
    unfold putK
    rw [if_pos (by rw [valV_any, rdK_val, if_pos h]; rfl)]
    unfold rdK
    rw [List.map_map]
    refine List.map_congr_left fun a _ => ?_
    show (if a.map Sum.inr = r.map Sum.inr then _ else _) = _
    split
    · rename_i z
      rw [key_inj z]
    · rfl
  · rw [if_neg h, putK_new _ (by rw [rdK_val, if_neg h])]
    unfold rdK
    rw [List.map_append]
    rfl
theorem stp_append (c : Nat) (a b : List Stk) : stp c (a ++ b) = stp c a ++ stp c b := by
  induction a with
  | nil => rfl
  | cons s a ih =>
    cases s with
    | nil => exact ih
    | cons h t =>
      rw [List.cons_append]
      show (if fits c h = true then t :: stp c (a ++ b) else stp c (a ++ b)) = (if fits c h = true then t :: stp c a else stp c a) ++ stp c b
      rw [ih]
      split <;> rfl
theorem addR_len (rs : List Stk) (r : Stk) : (addR rs r).length ≤ rs.length + 1 := by
  unfold addR
  split
  · omega
  · rw [List.length_append]
    exact Nat.le_refl _
theorem addR_mem {rs : List Stk} {r s : Stk} (h : s ∈ addR rs r) : s ∈ rs ∨ s = r := by
  unfold addR at h
  split at h
  · exact .inl h
  · rcases List.mem_append.mp h with h | h
    · exact .inl h
    · exact .inr (List.mem_singleton.mp h)
theorem stp_len (c : Nat) (a : List Stk) : (stp c a).length ≤ a.length := by
  induction a with
  | nil => exact Nat.le_refl _
  | cons s a ih =>
    cases s with
    | nil =>
      unfold stp
      rw [List.length_cons]
      omega
    | cons h t =>
      unfold stp
      split
      · rw [List.length_cons, List.length_cons]
        omega
      · rw [List.length_cons]
        omega
theorem stp_mem {c : Nat} {a : List Stk} {t : Stk} (h : t ∈ stp c a) : ∃ x, x :: t ∈ a := by
  induction a with
  | nil => cases h
  | cons s a ih =>
    cases s with
    | nil =>
      unfold stp at h
      obtain ⟨x, hx⟩ := ih h
      exact ⟨x, List.mem_cons_of_mem _ hx⟩
    | cons y u =>
      unfold stp at h
      split at h
      · rcases List.mem_cons.mp h with rfl | h
        · exact ⟨y, List.mem_cons_self⟩
        · obtain ⟨x, hx⟩ := ih h
          exact ⟨x, List.mem_cons_of_mem _ hx⟩
      · obtain ⟨x, hx⟩ := ih h
        exact ⟨x, List.mem_cons_of_mem _ hx⟩
end TX
/-! part V9 -/
/-! How far: the law's machine. -/
namespace TX
open PySem PySem.Spec PyProof.Rows L2 NT RW4
local macro_rules | `(tactic| walk_at "go") => `(tactic| simp only [L2.start, List.map_cons, List.map_nil, List.length_cons, List.length_nil, Nat.reduceSub, Nat.reduceAdd, List.replicate_succ, List.replicate_zero, List.cons_append, List.nil_append, List.append_nil,
  tSeq, tNext, tRet, tIfS, tTest, tAnd, tOr, tNot, tCB, tCall, tCons, tNil, tVar, tC, tOp, tUn, tAsg, gName, rI0, rI, CMul, CDiv, tDGet, sDPut, tBM0, tBM, tTup, tLst, tPar, tPar3, gTup, gNil, gCons, tIf, tAug, tRevL, tDisp, tPairs, tYes, wipe, tDrop, L2.tSl, tNotV, tAndV, tOrV, tB, rSlS, ipI, tNoPart, NdefX.startF, tOst, tMkO, rIxL, rIxT, rIxS, rAppend, rExtend, rPop, rSlL, rSetL, tPart, rEq, rNe, tFmt, tJn, tJs, tFi, tFs, gLst, tThen, tIf, rS, rRep, tThenZ, rIS, cRi, rSortedP, rLn, rPopAt, tCallS, ↓reduceIte, L2.gSub, ↓reduceIte,
  List.getElem?_cons_zero, List.getElem?_cons_succ, List.set_cons_zero, List.set_cons_succ, Option.some.injEq, V.int.injEq, V.str.injEq, V.ref.injEq, V.bl.injEq, exists_eq_left, exists_eq_left', exists_eq_right, exists_eq_right', exists_eq', true_and, and_true, decide_eq_true_eq, List.cons.injEq, reduceCtorEq, false_and, false_or, or_false, exists_false, exists_and_left, exists_and_right, and_assoc])
section
variable {w : World} {K : PySem.W.Frag} {mg : Str → Option Value} {base : Heap}
def kvL : List (Key × V) := [(.inr "digit", .str "0123456789"), (.inr "1-9", .str "123456789")]
theorem kvL_get (h : Str) : (valV kvL (Sum.inr h)).getD (.str h) = .str (if h = "digit" then ("0123456789" : Str) else if h = "1-9" then ("123456789" : Str) else h) := by
  by_cases h1 : h = "digit"
  · rw [if_pos h1, h1]
    rw [show valV kvL (Sum.inr ("digit" : Str)) = some (.str "0123456789") from valV_pos rfl]
    rfl
  · rw [if_neg h1]
    rw [show valV kvL (Sum.inr h) = valV [(.inr "1-9", .str "123456789")] (Sum.inr h) from valV_neg (fun z => h1 (Sum.inr.inj z).symm)]
    by_cases h2 : h = "1-9"
    · rw [if_pos h2, h2, valV_pos rfl]
      rfl
    · rw [if_neg h2, valV_neg (fun z => h2 (Sum.inr.inj z).symm)]
      rfl
def spFar : Sp := fun vs H Q E => ∃ (g : Addr) (X : List Nat) (x : Str) (j : Nat) (b : Bool), vs = [.ref g, .str (SX.S X), .str x] ∧ GrAt H g ∧ symB x = true ∧ X.length ≤ 20000 ∧ farM gD 40 [[x]] X = some (j, b) ∧
  ∀ p H', Same H H' → H p = none → H' p = some (.tup [.int (j : Nat), .bl b]) → Q (.ref p) H'
/-- what the loops keep: the grammar's place, the lots' dict, the open list -/
structure Fw (H H' : Hp) (L O : Addr) (opn : List Stk) : Prop where
  sm : Same H H'
  hL : H L = none
  eL : H' L = some (.dK kvL)
  hO : H O = none
  eO : ∃ vs, H' O = some (.lst vs) ∧ SkL H' opn vs
  sy : ∀ s ∈ opn, ∀ y ∈ s, symB y = true
/-- the for loop's turns -/
def FarI (H : Hp) (g L : Addr) (X : List Nat) (x : Str) (b : Bool) (j i : Nat) (σ : L2.St) (H' : Hp) : Prop := ∃ (O : Addr) (opn : List Stk) (j' : Nat) (v5 v6 v7 v8 : Option V), σ = [some (.ref g), some (.str (SX.S X)), some (.str x), some (.ref L), some (.ref O), v5, v6, v7, v8] ∧ Fw H H' L O opn ∧ i ≤ X.length ∧
      farM gD 40 opn (X.drop i) = some (j', b) ∧ i + j' = j ∧ opn.length ≤ 150 ∧ ∀ s ∈ opn, s.length ≤ 10 + 210 * i
/-- the while loop's turns -/
def WhI (H : Hp) (g L R : Addr) (X : List Nat) (x : Str) (rd : List Stk) (i m : Nat) (σ : L2.St) (H' : Hp) : Prop := ∃ (O : Addr) (opn ready : List Stk) (v7 v8 : Option V), σ = [some (.ref g), some (.str (SX.S X)), some (.str x), some (.ref L), some (.ref O), some (.int (0 + (i : Nat))), some (.ref R), v7, v8] ∧ Fw H H' L O opn ∧
          H' R = some (.dT (rdK ready)) ∧ clo gD m opn ready = some rd ∧ opn.length + 3 * m ≤ 270 ∧ ready.length + m ≤ 40 ∧ (∀ s ∈ opn, s.length + 5 * m ≤ 210 + 210 * i) ∧ ∀ s ∈ ready, s.length ≤ 210 + 210 * i ∧ ∀ y ∈ s, symB y = true
def WhE (H : Hp) (g L R : Addr) (X : List Nat) (x : Str) (rd : List Stk) (i : Nat) (σ : L2.St) (H' : Hp) : Prop := ∃ (O : Addr) (v7 v8 : Option V), σ = [some (.ref g), some (.str (SX.S X)), some (.str x), some (.ref L), some (.ref O), some (.int (0 + (i : Nat))), some (.ref R), v7, v8] ∧ Fw H H' L O [] ∧
          H' R = some (.dT (rdK rd)) ∧ rd.length ≤ 40 ∧ ∀ s ∈ rd, s.length ≤ 210 + 210 * i ∧ ∀ y ∈ s, symB y = true
theorem cutV1 {xs : List V} (h : 0 < xs.length) : cutV xs (some 1) none = xs.drop 1 := by
  unfold cutV
  rw [show (some (1 : Int)) = some ((1 : Nat) : Int) from rfl, HT.sIx_nat, HT.sIx_none]
  rw [Nat.min_eq_left (by omega)]
  exact List.take_of_length_le (by rw [List.length_drop]; exact Nat.le_refl _)
theorem clo_nil {g : Gr} {m : Nat} {ready : List Stk} : clo g (m + 1) [] ready = some ready := rfl
theorem clo_step {g : Gr} {m : Nat} {ini : List Stk} {last : Stk} {ready : List Stk} : clo g (m + 1) (ini ++ [last]) ready = (match last with
    | [] => clo g m ini (addR ready [])
    | h :: t => match ways g h with
      | none => clo g m ini (addR ready (h :: t))
      | some ws => clo g m (ini ++ ws.map (· ++ t)) ready) := by
  conv => lhs; unfold clo
  rw [List.getLast?_concat, List.dropLast_concat]
  cases last <;> rfl
theorem ok_far (T : Txt w K mg) : Ok PW w K mg base CX0 2 "_law_how_far" ["grammar", "text", "first"] spFar := by
  obtain ⟨f, fd, D⟩ := T.d_L_how_far
  refine ⟨f, fd, D.F.ok sc_L_how_far (fun vs H Q E h => ?_) (fun cdv A outer s H vs Q E hr h => ?_), D.g, D.F.kp, D.b⟩
  · obtain ⟨g, X, x, j, b, rfl, _⟩ := h
    rfl
  · obtain ⟨g, X, x, j, b, rfl, G, hx, hX, hf, h⟩ := h
    have nd := sc_L_how_far.nd
    have hu := hu_of hr
    refine ⟨_, pss_cons (ps_asg (pe_tup (pa_cons (pe_disp (pps_cons pe_str pe_str (pps_cons pe_str pe_str pps_nil)) (by rfl) (by rfl) (fun z => by cases z) (by decide)) (pa_cons (pe_lst (pa_cons (pe_tup (pa_cons (pv 2) pa_nil)) pa_nil)) pa_nil)))
          (pg_tup (by rfl) (pgs_cons (pg_name (i := 3) nd rfl (.inr rfl)) (pgs_cons (pg_name (i := 4) nd rfl (.inl rfl)) pgs_nil))))
      (pss_cons (ps_for PassesOwn.never rfl (pi_range1 (by rfl) T.z_range (pa_cons (pe_op op_add (pe_callB call_len_str (by rfl) T.z_len PySem.boot_len (pa_cons (pv 1) pa_nil)) pe_int) pa_nil)) (pg_name (i := 5) nd rfl (.inr rfl))
        (pss_cons (ps_set (i := 6) nd rfl (.inl rfl) pe_dnewT)
        (pss_cons (ps_while PassesOwn.never (pt_cmpR (op_neD hr.units) (pv 4) (pe_lst pa_nil) (nomark _))
          (pss_cons (ps_set (i := 7) nd rfl (.inr rfl) (pe_bm0 PySem.F.plainAttrs_list PySem.F.slot_list_pop PySem.F.type_list_pop mt_pop (pv 4)))
          (pss_one (ps_if (PW.pt (pw_and (pt_cmpR (op_neD hr.units) (pv 7) (pe_tup pa_nil) (nomark _)) (pw_and1 (pt_cmp (pc_din hu (pe_ix ix_tup (pv 7) pe_int (fun _ _ => rfl)) (pv 0))))))
            (pss_one (ps_set (i := 4) nd rfl (.inl rfl) (pe_op op_cat (pv 4)
              (pe_lc (own := [("way", 8)]) (g := gName 8) (tt := tYes) (te := tOp (rCatA K) (tThen (tVar 8) (kTup K)) (tSl (rSlT K) (tVar 7) (tPart (tC (.int 1))) tNoPart)) rfl nd (pi_list (pe_dget hu (pv 0) (pe_ix ix_tup (pv 7) pe_int (fun _ _ => rfl)) (fun _ _ => rfl))) (blkOk_by (N := n_L_how_far) (sc := defScope s_L_how_far) (by decide +kernel))
                (fun _ _ _ _ _ => pg_name (i := 8) nd rfl (.inl rfl)) (fun _ _ _ _ _ => pts_nil) (fun _ _ _ _ _ => by exact (pe_op op_catA (pe_tupleOf (by rfl) T.z_tuple (pv 8)) (pe_slice sl_tup (pv 7) (po_some pe_int) po_none)))))))
            (pss_one (ps_dput hu (pv 6) (pv 7) pe_bl rfl))))))
        (pss_cons (ps_if (pt_cmpR op_eq (pv 5) (pe_callB call_len_str (by rfl) T.z_len PySem.boot_len (pa_cons (pv 1) pa_nil)) (nomark _))
          (pss_one (ps_ret (pe_tup (pa_cons (pv 5) (pa_cons (pe_cmp (pc_din hu (pe_tup pa_nil) (pv 6))) pa_nil))))) pss_nil)
        (pss_cons (ps_lock (ps_setLc (i := 4) (own := [("rows", 7)]) (g := gName 7) (tt := tAnd (tTest (tOp (rNeD K) (tVar 7) (tTup tNil))) (tTest (tOp rIS (tOp rIxS (tVar 1) (tVar 5)) (tDGet2 (tVar 3) (tOp (rIxT K) (tVar 7) (tC (.int 0))) (tOp (rIxT K) (tVar 7) (tC (.int 0))))))) (te := tSl (rSlT K) (tVar 7) (tPart (tC (.int 1))) tNoPart) rfl nd rfl rfl (sw_true rfl rfl rfl (by decide +kernel)) (pi_keys (pv 6)) (blkOk_by (N := n_L_how_far) (sc := defScope s_L_how_far) (by decide +kernel))
            (fun _ _ _ _ _ => pg_name (i := 7) nd rfl (.inl rfl)) (fun _ _ _ _ _ => by exact (pts_one (PW.pt (pw_and (pt_cmpR (op_neD hr.units) (pv 7) (pe_tup pa_nil) (nomark _)) (pw_and1 (pt_cmpR op_IS (pe_ix ix_str (pv 1) (pv 5) (fun _ _ => rfl)) (pe_dget2 hu (pv 3) (pe_ix ix_tup (pv 7) pe_int (fun _ _ => rfl)) (pe_ix ix_tup (pv 7) pe_int (fun _ _ => rfl)) ⟨rfl, rfl, rfl, rfl⟩) rfl)))))) (fun _ _ _ _ _ => by exact (pe_slice sl_tup (pv 7) (po_some pe_int) po_none))))
        (pss_one (ps_if (pt_cmpR (op_eqD hr.units) (pv 4) (pe_lst pa_nil) (nomark _)) (pss_one (ps_ret (pe_tup (pa_cons (pv 5) (pa_cons pe_bl pa_nil))))) pss_nil)))))))
      (pss_one (ps_ret (pe_tup (pa_cons pe_int (pa_cons pe_bl pa_nil)))))), ?_⟩
    walk_at "go"
    intro L hL
    refine ⟨upd_same, kvL, rfl, by decide, by decide, fun p1 hp1 => ⟨by decide, fun O hO => ⟨by decide, fun p2 hp2 => ?_⟩⟩⟩
    have sL : Same H (upd (upd H L (.dK [])) L (.dK kvL)) := same_2 (fun _ _ z => z) hL
    have s1 := sL.trans (same_new (o := .tup [V.str x]) hp1)
    have s2 := s1.trans (same_new (o := .lst [V.ref p1]) hO)
    have s3 := s2.trans (same_new (o := .tup [V.ref L, V.ref O]) hp2)
    have eL1 : (upd (upd (upd H L (.dK [])) L (.dK kvL)) p1 (.tup [V.str x])) L = some (.dK kvL) := same_new hp1 _ _ upd_same
    have eL2 := same_new (o := .lst [V.ref p1]) hO _ _ eL1
    have eL3 := same_new (o := .tup [V.ref L, V.ref O]) hp2 _ _ eL2
    have hO0 : H O = none := s1.free hO
    have e1 := same_new (o := .tup [V.ref L, V.ref O]) hp2 _ _ (same_new (o := .lst [V.ref p1]) hO _ _ (upd_same (H := upd (upd H L (.dK [])) L (.dK kvL)) (a := p1) (o := .tup [V.str x])))
    have eO3 := same_new (o := .tup [V.ref L, V.ref O]) hp2 O _ upd_same
    refine ⟨_, .inl (.inl upd_same), rfl, _, _, rfl, _, _, rfl, rfl, ?_⟩
    have lX : (SX.S X).length ≤ sizeLine := by rw [S_len]; exact small_sz hX (by decide)
    refine ⟨_, rfl, _, rfl, lX, _, _, rfl, rfl, _, rfl, by rw [S_len]; omega, by rw [S_len]; omega, ?_⟩
    rw [S_len, show ((X.length : Int) + 1).toNat = X.length + 1 by omega]
    refine for_it walk_range (FarI H g L X x b j) ?_ (fun _ _ _ _ _ => trivial) ?_ ?_
    · refine ⟨O, [[x]], j, none, none, none, none, rfl, ⟨s3, hL, eL3, hO0, ⟨_, eO3, .cons ⟨p1, rfl, e1⟩ .nil⟩, ?_⟩, Nat.zero_le _, hf, Nat.zero_add _, by rw [List.length_singleton]; decide, ?_⟩
      · intro s hs y hy
        rw [List.mem_singleton.mp hs] at hy
        rw [List.mem_singleton.mp hy]
        exact hx
      · intro s hs
        rw [List.mem_singleton.mp hs, List.length_singleton]
        omega
    · rintro i xi σ H1 H2 hi ⟨O, opn, j', v5, v6, v7, v8, rfl, F, hiX, hfa, hij, hol, hos⟩ ⟨rfl, rfl⟩
      unfold farM at hfa
      cases ec : clo gD 40 opn [] with
      | none =>
        rw [ec] at hfa
        cases hfa
      | some rd =>
      rw [ec] at hfa
      dsimp only at hfa
      walk_at "go"
      intro R hR
      have hHR : H R = none := F.sm.free hR
      have sR := F.sm.trans (same_new (o := .dT []) hR)
      obtain ⟨vs, eO, hvs⟩ := F.eO
      have F1 : Fw H (upd H2 R (.dT [])) L O opn := ⟨sR, F.hL, same_new hR _ _ F.eL, F.hO, ⟨vs, same_new hR _ _ eO, hvs.tk (Tk.new hR)⟩, F.sy⟩
      have nRL : ∀ {H' : Hp} {kvs : List (List Key × V)}, H' R = some (.dT kvs) → H' L = some (.dK kvL) → R ≠ L := fun a b z => by
        rw [z, b] at a
        cases a
      refine while_m (WhI H g L R X x rd i) (WhE H g L R X x rd i) ?_ ?_ ?_
      · refine ⟨40, O, opn, [], v7, v8, rfl, F1, upd_same, ec, by omega, by decide, fun s hs => ?_, fun s hs => nomatch hs⟩
        have := hos s hs
        omega
      · rintro σ H1 ⟨O, v7, v8, rfl, F2, eR, hrl, hrs⟩
        walk_at "go"
        refine ⟨lX, rfl, ?_⟩
        rw [S_len]
        by_cases hi2 : i = X.length
        · rw [if_pos (by omega)]
          have ed : X.drop i = [] := List.drop_of_length_le (by omega)
          rw [ed] at hfa
          dsimp only at hfa
          cases hfa
          refine ⟨by decide, fun q hq => ⟨_, rfl, R, _, rfl, DGet.t (k := []) (same_new hq _ _ eR) upd_same, by decide, fun p hp => ?_⟩⟩
          refine h p _ ((F2.sm.trans (same_new hq)).trans (same_new hp)) (F2.sm.free ((same_new hq).free hp)) ?_
          rw [upd_same]
          have ev := rdK_val rd []
          rw [List.map_nil] at ev
          rw [ev]
          congr 4
          · congr 1
            omega
          · by_cases hm : ([] : Stk) ∈ rd
            · rw [if_pos hm, decide_eq_true hm]
              rfl
            · rw [if_neg hm, decide_eq_false hm]
              rfl
        · rw [if_neg (by omega)]
          have hlt : i < X.length := by omega
          have ed := drop_at hlt
          rw [ed] at hfa
          dsimp only at hfa
          have key : ∀ (od : Obj) (Qk : V → Hp → Prop), (∀ D us H', H D = none → Same H H' → H' L = some (.dK kvL) → H' R = some (.frz od (.dT (rdK rd))) → H' D = some (.lst us) → SkL H' (stp X[i] rd) us → Qk (.ref D) H') → tLc (iKeys (tVar 6)) (gName 7) (tAnd (tTest (tOp (rNeD K) (tVar 7) (tTup tNil))) (tTest (tOp rIS (tOp rIxS (tVar 1) (tVar 5)) (tDGet2 (tVar 3) (tOp (rIxT K) (tVar 7) (tC (V.int 0))) (tOp (rIxT K) (tVar 7) (tC (V.int 0)))))))
              (tSl (rSlT K) (tVar 7) (tPart (tC (V.int 1))) tNoPart) [7] [some (.ref g), some (.str (SX.S X)), some (.str x), some (.ref L), some (.ref O), some (.int (0 + (i : Nat))), some (.ref R), v7, v8] (upd H1 R (.frz od (.dT (rdK rd)))) Qk := by
            intro od Qk hQ
            have sHL : Same H (upd H1 R (.frz od (.dT (rdK rd)))) := fun b o hb => by
              rw [upd_ne (ne_of_none hb hHR)]
              exact F2.sm _ _ hb
            have eLL : (upd H1 R (.frz od (.dT (rdK rd)))) L = some (.dK kvL) := by
              rw [upd_ne (nRL eR F2.eL).symm]
              exact F2.eL
            refine ⟨_, rfl, R, od, rfl, .inr ⟨rdK rd, upd_same, fun D hD => lc_it walk_keysT (fun n H' => Same (upd H1 R (.frz od (.dT (rdK rd)))) H' ∧ ∃ us, H' D = some (.lst us) ∧ SkL H' (stp X[i] (rd.take n)) us) ⟨same_new hD, [], upd_same, .nil⟩ (fun n H' _ p => p.1 _ _ upd_same) ?_ ?_⟩⟩
            · rintro n xi Ha Hb hn ⟨sm, us, eD, hus⟩ ⟨rfl, k, v, q, hk, rfl, eq⟩
              obtain ⟨r, hr', e⟩ := map_get hk
              cases e
              rw [key_str] at eq
              have hs := hrs r (List.mem_of_getElem? hr')
              have et : rd.take (n + 1) = rd.take n ++ [r] := by rw [List.take_succ, hr']; rfl
              rw [et, stp_append]
              walk_at "go"
              refine ⟨by decide, fun q2 hq2 => ?_⟩
              have s2 : Same Hb (upd Hb q2 (.tup [])) := same_new hq2
              refine ⟨_, _, .tup (.inl (.inl (s2 _ _ eq))) (stk_dp r), .tup (.inl (.inl upd_same)) .nil, stk_shaped hs.2, by decide, _, rfl, ?_⟩
              rw [stk_eqv]
              cases r with
              | nil =>
                refine ⟨sm.trans s2, us, s2 _ _ eD, ?_⟩
                rw [show stp X[i] [[]] = [] from rfl, List.append_nil]
                exact hus.tk (Tk.of s2)
              | cons a r =>
                rw [decide_eq_false (by simp), if_pos (by decide)]
                have eq2 := s2 _ _ eq
                have eLb := s2 _ _ (sm _ _ eLL)
                have eD2 := s2 _ _ eD
                have hus2 := hus.tk (Tk.of s2)
                have sm2 := sm.trans s2
                refine ⟨lX, X[i], by rw [Int.zero_add]; exact atI_nat (List.getElem?_eq_getElem hlt), ?_⟩
                refine ⟨_, rfl, L, rfl, .inl ⟨kvL, .inl eLb⟩, _, rfl, q, _, 0, .str a, rfl, rfl, .inl (.inl eq2), atI_nat (j := 0) rfl, _, rfl, q, _, 0, .str a, rfl, rfl, .inl (.inl eq2), atI_nat (j := 0) rfl, _, DGet.k (k := Sum.inr a) eLb, ?_⟩
                rw [kvL_get]
                refine ⟨X[i], rfl, _, rfl, ?_⟩
                by_cases hf2 : X[i] ∈ (if a = "digit" then ("0123456789" : Str) else if a = "1-9" then ("123456789" : Str) else a).cps.toList
                · rw [if_pos hf2]
                  have es : stp X[i] [a :: r] = [r] := by
                    show (if fits X[i] a = true then r :: stp X[i] [] else stp X[i] []) = [r]
                    have hfit : fits X[i] a = true := decide_eq_true hf2
                    rw [if_pos hfit]
                    rfl
                  rw [es]
                  refine ⟨q, _, rfl, .inl (.inl eq2), ?_, fun p hp => ?_⟩
                  · rintro ⟨z, _⟩
                    rw [show (some (1 : Int)) = some ((1 : Nat) : Int) from rfl, HT.sIx_nat, List.length_map, List.length_cons] at z
                    omega
                  · rw [cutV1 (by rw [List.length_map, List.length_cons]; omega)]
                    have s3 : Same (upd Hb q2 (.tup [])) (upd (upd Hb q2 (.tup [])) p (.tup (((a :: r).map V.str).drop 1))) := same_new hp
                    have hDHL : (upd H1 R (.frz od (.dT (rdK rd)))) D = none := hD
                    refine ⟨us, s3 _ _ eD2, ?_, fun b o hb => ?_, _, upd_same, ?_⟩
                    · rw [hus.length]
                      have l1 := stp_len X[i] (rd.take n)
                      rw [List.length_take] at l1
                      exact small_lt (m := 100) (by omega) (by decide)
                    · rw [upd_ne (ne_of_none hb hDHL)]
                      exact s3 _ _ (sm2 _ _ hb)
                    · refine ((hus2.tk (Tk.of s3)).snoc ⟨p, rfl, upd_same⟩).tk (Tk.lst (s3 _ _ eD2))
                · rw [if_neg hf2]
                  have es : stp X[i] [a :: r] = [] := by
                    show (if fits X[i] a = true then r :: stp X[i] [] else stp X[i] []) = []
                    have hfit : ¬ fits X[i] a = true := fun z => hf2 (of_decide_eq_true z)
                    rw [if_neg hfit]
                    rfl
                  rw [es, List.append_nil]
                  exact ⟨sm2, us, eD2, hus2⟩
            · rintro Ha ⟨sm, us, eD, hus⟩
              rw [show (rdK rd).length = rd.length from List.length_map ..] at hus
              rw [List.take_length] at hus
              exact hQ D us _ (sHL.free hD) (sHL.trans sm) (sm _ _ eLL) (sm _ _ upd_same) eD hus
          refine ⟨R, .dT (rdK rd), eR, trivial, fun od => key od _ fun D us H3 hD0 s3 eL3 eR3 eD3 hus => ⟨eR3, ?_⟩⟩
          walk_at "go"
          have l1 := stp_len X[i] rd
          have hmem : ∀ s ∈ stp X[i] rd, s.length ≤ 10 + 210 * (i + 1) ∧ ∀ y ∈ s, symB y = true := fun s hs => by
            obtain ⟨a, ha⟩ := stp_mem hs
            have q := hrs _ ha
            rw [List.length_cons] at q
            exact ⟨by omega, fun y hy => q.2 y (List.mem_cons_of_mem _ hy)⟩
          have sR3 : Same H (upd H3 R (.dT (rdK rd))) := fun b o hb => by
            rw [upd_ne (ne_of_none hb hHR)]
            exact s3 _ _ hb
          have DR : D ≠ R := fun z => by
            rw [z, eR3] at eD3
            cases eD3
          have LR : L ≠ R := fun z => by
            rw [z, eR3] at eL3
            cases eL3
          refine ⟨by decide, fun p hp => ?_⟩
          have s4 : Same (upd H3 R (.dT (rdK rd))) (upd (upd H3 R (.dT (rdK rd))) p (.lst [])) := same_new hp
          have eD4 : (upd (upd H3 R (.dT (rdK rd))) p (.lst [])) D = some (.lst us) := s4 _ _ (by rw [upd_ne DR]; exact eD3)
          have eL4 : (upd (upd H3 R (.dT (rdK rd))) p (.lst [])) L = some (.dK kvL) := s4 _ _ (by rw [upd_ne LR]; exact eL3)
          have hus4 : SkL (upd (upd H3 R (.dT (rdK rd))) p (.lst [])) (stp X[i] rd) us := (hus.tk (Tk.frz eR3)).tk (Tk.of s4)
          refine ⟨_, _, .lst (.inl (.inl eD4)) hus4.dp, .lst (.inl (.inl upd_same)) .nil, opn_shaped (fun s hs => (hmem s hs).2), by decide, _, rfl, ?_⟩
          rw [opn_eqv]
          by_cases hn : stp X[i] rd = []
          · rw [decide_eq_true hn, if_pos rfl]
            rw [if_pos hn] at hfa
            cases hfa
            refine ⟨by decide, fun q hq => h q _ ((sR3.trans s4).trans (same_new hq)) ((sR3.trans s4).free hq) ?_⟩
            rw [upd_same]
            congr 4
            congr 1
            omega
          · rw [decide_eq_false hn, if_neg (by decide)]
            rw [if_neg hn] at hfa
            obtain ⟨⟨j2, b2⟩, e2, e3⟩ := Option.map_eq_some_iff.mp hfa
            cases e3
            exact ⟨D, _, j2, _, _, _, _, rfl, ⟨sR3.trans s4, hL, eL4, hD0, ⟨us, eD4, hus4⟩, fun s hs => (hmem s hs).2⟩, by omega, e2, by omega, by omega, fun s hs => (hmem s hs).1⟩
      · rintro nx hnx m σ H1 ⟨O, opn, ready, v7, v8, rfl, F2, eR, hclo, ho1, ho2, ho3, ho4⟩
        cases m with
        | zero => cases hclo
        | succ m =>
        walk_at "go"
        refine ⟨by decide, fun p hp => ?_⟩
        obtain ⟨vs, eO, hvs⟩ := F2.eO
        have sp : Same H1 (upd H1 p (.lst [])) := same_new hp
        have hvs1 := hvs.tk (Tk.of sp)
        have eO1 := sp _ _ eO
        have eL1 := sp _ _ F2.eL
        have eR1 := sp _ _ eR
        have sm1 := F2.sm.trans sp
        refine ⟨_, _, .lst (.inl (.inl eO1)) hvs1.dp, .lst (.inl (.inl upd_same)) .nil, opn_shaped F2.sy, by decide, _, rfl, ?_⟩
        rw [opn_eqv]
        rcases List.eq_nil_or_concat opn with rfl | ⟨ini, last, rfl⟩
        · refine iteF (hnx _ _ ⟨O, v7, v8, rfl, ⟨sm1, F2.hL, eL1, F2.hO, ⟨vs, eO1, hvs1⟩, F2.sy⟩, ?_, ?_, ?_⟩)
          · rw [clo_nil] at hclo
            rw [← Option.some.inj hclo]
            exact eR1
          · rw [clo_nil] at hclo
            rw [← Option.some.inj hclo]
            omega
          · rw [clo_nil] at hclo
            rw [← Option.some.inj hclo]
            exact ho4
        · rw [List.concat_eq_append] at *
          rw [decide_eq_false (by simp), if_pos (by decide)]
          rw [clo_step] at hclo
          obtain ⟨us, v, rfl, hus, q, rfl, eq⟩ := hvs1.last
          refine ⟨_, fun _ _ z => z, .inl ⟨rfl, _, .inl (.inl eO1)⟩, _, eO1, .ref q, by rw [List.length_append]; simp, by decide, fun p2 hp2 => ?_⟩
          rw [List.dropLast_concat] at hp2 ⊢
          have hsl : ∀ y ∈ last, symB y = true := F2.sy last (List.mem_append_right _ List.mem_cons_self)
          have hll := ho3 last (List.mem_append_right _ List.mem_cons_self)
          have tk3 : Tk (upd H1 p (.lst [])) (upd (upd (upd H1 p (.lst [])) O (.lst us)) p2 (.tup [])) := (Tk.lst eO1).trans (Tk.new hp2)
          have s23 : Same (upd (upd H1 p (.lst [])) O (.lst us)) (upd (upd (upd H1 p (.lst [])) O (.lst us)) p2 (.tup [])) := same_new hp2
          have ne1 : ∀ {z : Addr} {kvs : List (List Key × V)}, (upd H1 p (.lst [])) z = some (.dT kvs) → z ≠ O := fun a b => by
            rw [b, eO1] at a
            cases a
          have ne2 : ∀ {z : Addr} {kvs : List (Key × V)}, (upd H1 p (.lst [])) z = some (.dK kvs) → z ≠ O := fun a b => by
            rw [b, eO1] at a
            cases a
          have eR3 : (upd (upd (upd H1 p (.lst [])) O (.lst us)) p2 (.tup [])) R = some (.dT (rdK ready)) := s23 _ _ (by rw [upd_ne (ne1 eR1)]; exact eR1)
          have eL3 : (upd (upd (upd H1 p (.lst [])) O (.lst us)) p2 (.tup [])) L = some (.dK kvL) := s23 _ _ (by rw [upd_ne (ne2 eL1)]; exact eL1)
          have eO3 : (upd (upd (upd H1 p (.lst [])) O (.lst us)) p2 (.tup [])) O = some (.lst us) := s23 _ _ upd_same
          have sm3 : Same H (upd (upd (upd H1 p (.lst [])) O (.lst us)) p2 (.tup [])) := fun b o hb => s23 _ _ (by rw [upd_ne (ne_of_none hb F2.hO)]; exact sm1 _ _ hb)
          have eq3 := tk3 _ _ eq
          have hus3 := hus.tk tk3
          have em3 : (upd (upd (upd H1 p (.lst [])) O (.lst us)) p2 (.tup [])) p2 = some (.tup []) := upd_same
          generalize (upd (upd (upd H1 p (.lst [])) O (.lst us)) p2 (.tup [])) = H3 at *
          have hsi : ∀ s ∈ ini, ∀ y ∈ s, symB y = true := fun s hs => F2.sy s (List.mem_append_left _ hs)
          have hli : ini.length + 1 + 3 * (m + 1) ≤ 270 := by
            rw [List.length_append, List.length_singleton] at ho1
            exact ho1
          have put : clo gD m ini (addR ready last) = some rd → ∃ H4, DPut H3 R (.ref q) (.bl true) H4 ∧ ∃ m', m' < m + 1 ∧ WhI H g L R X x rd i m' [some (.ref g), some (.str (SX.S X)), some (.str x), some (.ref L), some (.ref O), some (.int (0 + (i : Nat))), some (.ref R), some (.ref q), v8] H4 := by
            intro hc
            have RL : L ≠ R := fun z => by
              rw [z, eR3] at eL3
              cases eL3
            have RO : O ≠ R := fun z => by
              rw [z, eR3] at eO3
              cases eO3
            refine ⟨_, DPut.t eR3 (by rw [key_str]; exact eq3) (by rw [show (rdK ready).length = ready.length from List.length_map ..]; exact small_lt (m := 100) (by omega) (by decide)), m, Nat.lt_succ_self m, O, ini, addR ready last, _, _, rfl, ⟨fun b o hb => ?_, F2.hL, ?_, F2.hO, ⟨us, ?_, hus3.tk (Tk.dT eR3)⟩, hsi⟩, ?_, hc, by omega, ?_, ?_, ?_⟩
            · rw [upd_ne (ne_of_none hb hHR)]
              exact sm3 _ _ hb
            · rw [upd_ne RL]
              exact eL3
            · rw [upd_ne RO]
              exact eO3
            · rw [upd_same, rdK_put]
            · have := addR_len ready last
              omega
            · intro s hs
              have := ho3 s (List.mem_append_left _ hs)
              omega
            · intro s hs
              rcases addR_mem hs with hs | rfl
              · exact ho4 s hs
              · exact ⟨by omega, hsl⟩
          refine ⟨_, _, .tup (.inl (.inl eq3)) (stk_dp last), .tup (.inl (.inl em3)) .nil, stk_shaped hsl, by decide, _, rfl, ?_⟩
          rw [stk_eqv]
          cases last with
          | nil => exact put hclo
          | cons hd t =>
            rw [decide_eq_false (by simp), if_pos (by decide)]
            dsimp only at hclo
            obtain ⟨kvs, eg, g1, g2⟩ := G.same sm3
            refine ⟨_, rfl, q, _, 0, .str hd, rfl, rfl, .inl (.inl eq3), atI_nat (j := 0) rfl, _, rfl, g, _, rfl, DGet.k (k := Sum.inr hd) eg, _, rfl, ?_⟩
            cases ew : ways gD hd with
            | none =>
              rw [ew] at hclo
              rw [g2 hd (sym_term (hsl hd List.mem_cons_self) ew)]
              exact iteF (put hclo)
            | some ws =>
              rw [ew] at hclo
              obtain ⟨vw, egw, hvw⟩ := g1 hd ws ew
              rw [egw]
              refine iteT ?_
              obtain ⟨aw, wvs, rfl, _, eaw, hwv⟩ := hvw.lst
              have dg : DGet H3 g (.str hd) (some (.ref aw)) := by
                have z := DGet.k (k := Sum.inr hd) eg
                rw [egw] at z
                exact z
              refine ⟨_, rfl, _, rfl, q, _, 0, .str hd, rfl, rfl, .inl (.inl eq3), atI_nat (j := 0) rfl, g, .ref aw, rfl, dg, aw, rfl, ⟨wvs, .inl (.inl eaw)⟩, fun D hD =>
                lc_it walk_list (fun n H' => Same H3 H' ∧ ∃ us2, H' D = some (.lst us2) ∧ SkL H' ((ws.take n).map (· ++ t)) us2) ⟨same_new hD, [], upd_same, .nil⟩ (fun n H' _ z => .inl (.inl (z.1 _ _ eaw))) ?_ ?_⟩
              · rintro n xw Ha Hb hn ⟨sm, us2, eD, hu2⟩ ⟨rfl, hxw⟩
                have hlen := hwv.length
                rw [List.length_map] at hlen
                have hnw : n < ws.length := by omega
                obtain ⟨v, hv2, hat⟩ := hwv.get (i := n) (d := dWay ws[n]) (by rw [List.getElem?_map, List.getElem?_eq_getElem hnw]; rfl)
                rw [hv2] at hxw
                cases hxw
                obtain ⟨pw, wss, rfl, _, epw, hws⟩ := hat.lst
                have e1 := strs_at (H' := Hb) hws
                subst e1
                have hwl := (sym_len ew).2 ws[n] (List.getElem_mem hnw)
                have et : (ws.take (n + 1)).map (· ++ t) = (ws.take n).map (· ++ t) ++ [ws[n] ++ t] := take_snoc (List.getElem?_eq_getElem hnw) (· ++ t)
                have fin : ∀ (z : Addr) (H' : Hp), Same Hb H' → H' z = some (.tup ((ws[n] ++ t).map V.str)) → ∃ acc, H' D = some (.lst acc) ∧ acc.length < sizeLine ∧ Same H3 (upd H' D (.lst (acc ++ [.ref z]))) ∧ ∃ us2, upd H' D (.lst (acc ++ [.ref z])) D = some (.lst us2) ∧
                    SkL (upd H' D (.lst (acc ++ [.ref z]))) ((ws.take (n + 1)).map (· ++ t)) us2 := by
                  intro z H' sz ez
                  refine ⟨us2, sz _ _ eD, ?_, fun b o hb => ?_, _, upd_same, ?_⟩
                  · rw [hu2.length, List.length_map, List.length_take]
                    exact small_lt (m := 100) (by have := (sym_len ew).1; omega) (by decide)
                  · rw [upd_ne (ne_of_none hb hD)]
                    exact sz _ _ (sm _ _ hb)
                  · rw [et]
                    exact ((hu2.tk (Tk.of sz)).snoc ⟨z, rfl, ez⟩).tk (Tk.lst (sz _ _ eD))
                walk_at "go"
                refine .inl ⟨pw, _, rfl, .inl (.inl (sm _ _ epw)), fun q1 hq1 => ?_⟩
                have s1 : Same Hb (upd Hb q1 (.tup (ws[n].map V.str))) := same_new hq1
                refine ⟨q, _, rfl, .inl (.inl (s1 _ _ (sm _ _ eq3))), ?_, fun q2 hq2 => ?_⟩
                · rintro ⟨z, _⟩
                  rw [show (some (1 : Int)) = some ((1 : Nat) : Int) from rfl, HT.sIx_nat, List.length_map, List.length_cons] at z
                  omega
                · rw [cutV1 (by rw [List.length_map, List.length_cons]; omega)]
                  have s2 : Same Hb (upd (upd Hb q1 (.tup (ws[n].map V.str))) q2 (.tup (((hd :: t).map V.str).drop 1))) := s1.trans (same_new hq2)
                  have eq1 := same_new (o := .tup (((hd :: t).map V.str).drop 1)) hq2 q1 _ upd_same
                  refine ⟨q1, q2, _, _, rfl, rfl, .inl (.inl eq1), .inl (.inl upd_same), ?_, fun h0 => ?_, fun h0 h1 => ?_, fun h0 h1 q3 hq3 => ?_⟩
                  · rw [List.length_map, List.length_drop, List.length_map, List.length_cons]
                    rw [List.length_cons] at hll
                    exact small_sz (m := 5000000) (by omega) (by decide)
                  · refine fin q2 _ s2 ?_
                    rw [upd_same, List.map_append, h0]
                    rfl
                  · refine fin q1 _ s2 ?_
                    rw [eq1, List.map_append, show t.map V.str = [] from h1, List.append_nil]
                  · refine fin q3 _ (s2.trans (same_new hq3)) ?_
                    rw [upd_same, List.map_append]
                    rfl
              · rintro H5 ⟨s5, us2, eD5, hus5⟩
                rw [hwv.length, List.length_map, List.take_length] at hus5
                have eO5 := s5 _ _ eO3
                have hus6 := hus3.tk (Tk.of s5)
                have hwl3 := (sym_len ew).1
                refine ⟨O, D, us, us2, rfl, rfl, eO5, eD5, ?_, fun O2 hO2 => ⟨m, Nat.lt_succ_self m, O2, ini ++ ws.map (· ++ t), ready, _, _, rfl, ⟨(sm3.trans s5).trans (same_new hO2), F2.hL, same_new hO2 _ _ (s5 _ _ eL3), (sm3.trans s5).free hO2, ⟨_, upd_same, (hus6.append hus5).tk (Tk.new hO2)⟩, ?_⟩, same_new hO2 _ _ (s5 _ _ eR3), hclo, ?_, by omega, ?_, ho4⟩⟩
                · rw [hus3.length, hus5.length, List.length_map]
                  exact small_sz (m := 1000) (by omega) (by decide)
                · intro s hs y hy
                  rcases List.mem_append.mp hs with hs | hs
                  · exact hsi s hs y hy
                  · obtain ⟨w', hw', rfl⟩ := List.mem_map.mp hs
                    rcases List.mem_append.mp hy with hy | hy
                    · exact sym_cl ew w' hw' y hy
                    · exact hsl y (List.mem_cons_of_mem _ hy)
                · rw [List.length_append, List.length_map]
                  omega
                · intro s hs
                  rcases List.mem_append.mp hs with hs | hs
                  · have := ho3 s (List.mem_append_left _ hs)
                    omega
                  · obtain ⟨w', hw', rfl⟩ := List.mem_map.mp hs
                    have := (sym_len ew).2 w' hw'
                    rw [List.length_append]
                    rw [List.length_cons] at hll
                    omega
    · rintro σ H1 ⟨O, opn, j', v5, v6, v7, v8, rfl, F, hiX, _⟩
      exact absurd hiX (by omega)
end
end TX
/-! part V10 -/
/-! d.update(e). -/
namespace TX
open PySem PySem.Spec PyProof.Rows L2 NT RW4
def rUpd : V → List V → Hp → VK → Prop := fun x xs H Q => ∃ (a b : Addr) (kvs more : List (Key × V)), x = .ref a ∧ xs = [.ref b] ∧ a ≠ b ∧ H a = some (.dK kvs) ∧ H b = some (.dK more) ∧ kvs.length + more.length ≤ 1000 ∧ Q .non (upd H a (.dK (mergeK kvs more)))
theorem KV.len {kvs : List (Key × V)} {vs : List (Key × Value)} (h : KV kvs vs) : kvs.length = vs.length := by
  unfold KV at h
  exact Paired.length h
theorem mt_upd {X : Cx} : MtR X "dict.update" rUpd := by
  intro pins s σ H x xs v us Q I rx rxs h
  obtain ⟨a, b, kvs, more, rfl, rfl, hab, ea, eb, hz, q⟩ := h
  cases rx
  cases rxs with
  | cons r1 rr =>
    cases rr
    cases r1
    obtain ⟨_, haS, vs, r1, d1⟩ := dk_of I.hok ea
    obtain ⟨_, hbS, ws, r2, d2⟩ := dk_of I.hok eb
    refine call_meetsIn PySem.F.slot_dict_update d1.typeIs PySem.F.entry_dict_update (PySem.F.args_dict_update_2 _ _) (meets_dict_update (mixKind X.prog X.w) a b hab hbS) ⟨vs, ws, d1, d2, by rw [← KV.len r1, ← KV.len r2]; exact small_sz hz (by decide), fun h' dd _ hs => ?_⟩
    have he : ∃ q, h'.get? a = some q := let ⟨q, _, _, hq, _⟩ := dd; ⟨q, hq⟩
    have hz2 : (mergeK kvs more).length ≤ sizeLine := Nat.le_trans (length_mergeK more kvs) (small_sz hz (by decide))
    exact ⟨.non, _, d_write (t' := s.toks) I (by rw [ea]; exact True.intro) hs he (dk_new hz2 haS (r2.merge r1) dd), rfl, q⟩
/-- list(x) of a text -/
def kLstS (x : V) (H : Hp) (Q : VK) : Prop := ∃ z : Str, x = .str z ∧ z.cps.size ≤ sizeLine ∧ ∀ q, H q = none → Q (.ref q) (upd H q (.lst (z.cps.toList.map fun c => .str ⟨#[c]⟩)))
theorem rl_listS {X : Cx} (hc : X.calm = true) (pins : List (Addr × Obj)) (s : Shared) (σ : L2.St) (H : Hp) (x : V) (v : Value) (Q : VK) (I : Inv X pins σ H s) (r : RelV x v) (h : kLstS x H Q) :
    wpAny (model X.prog X.w) X.A (call (.type "list") [v]) (EP X pins σ Q) X.xe s := by
  obtain ⟨z, rfl, hz, q⟩ := h
  obtain ⟨t, rfl⟩ := r
  refine call_list_str (hn := hz) (I.ok.hd hc) z t fun h' tk acc c' hk e hi => ?_
  refine ⟨.ref s.heap.objs.size, upd H s.heap.objs.size (.lst (z.cps.toList.map fun c => .str ⟨#[c]⟩)), I.laid hk (Nat.le_refl _) ⟨by rw [List.length_map, Array.length_toList]; exact hz, acc.toList, c', ?_, by rw [Array.toArray_toList]; exact e⟩, rfl, q _ (I.hok.fresh (Nat.le_refl _))⟩
  refine vals_of_idx _ _ (by rw [List.length_map, Array.length_toList, Array.length_toList]; exact hi.1) fun j u hj => ?_
  have hj2 : acc[j]? = some u := by rw [← Array.getElem?_toList]; exact hj
  obtain ⟨c, u', hc2, rfl⟩ := hi.2 j u hj2
  exact ⟨.str ⟨#[c]⟩, by rw [List.getElem?_map, Array.getElem?_toList, hc2]; rfl, ⟨u', rfl⟩⟩
theorem pe_listOfS {X : Cx} {a : Expr} {ta : TE} {p pos : Pos} (hc : X.calm = true) (hg : Gl X "list") (hm : X.mg "list" = none) (ha : PE X a ta) (na : starEach [a] X.env = (false, eval a X.env) :: starEach [] X.env := by rfl) :
    PE X (.Call (.Name "list" p) [a] [] pos) (tThenZ ta kLstS) := pe_callTy (call_r1 (rl_listS hc)) hg hm (by decide +kernel) (pa_cons ha pa_nil na) (he := na)
end TX
/-! The law's text rules. -/
namespace TX
open PySem PySem.Spec PyProof.Rows L2 NT RW4
def wsD (ws : List (List Str)) : PyData := .list (ws.map dWay)
/-- what an expression makes is new, and is this -/
def Nw (te : TE) (d : PyData) : Prop := ∀ σ H Q, (∀ v H', Same H H' → At (fun b => H b ≠ none) H' d v → Q v H') → te σ H Q
def NwA (ta : TA) (ds : List PyData) : Prop := ∀ σ H Q, (∀ vs H', Same H H' → AtL (fun b => H b ≠ none) H' ds vs → Q vs H') → ta σ H Q
theorem nw_str {x : Str} : Nw (tC (.str x)) (.str x) := fun σ H Q h => h _ _ (fun _ _ z => z) at_str
theorem nwa_nil : NwA tNil [] := fun σ H Q h => h _ _ (fun _ _ z => z) atl_nil
theorem later {H H' : Hp} (s : Same H H') : ∀ b, H b ≠ none → H' b ≠ none := fun b h => by
  cases e : H b with
  | none => exact absurd e h
  | some o => rw [s _ _ e]; exact fun z => nomatch z
theorem nwa_cons {te : TE} {ta : TA} {d : PyData} {ds : List PyData} (h1 : Nw te d) (h2 : NwA ta ds) : NwA (tCons te ta) (d :: ds) := fun σ H Q h =>
  h1 σ H _ fun v H1 s1 a1 => h2 σ H1 _ fun vs H2 s2 a2 => h _ _ (s1.trans s2) (atl_cons (a1.kp (Kp.of_same s2)) (a2.off fun b _ _ z => later s1 b z))
theorem nw_lst {ta : TA} {ds : List PyData} (h1 : NwA ta ds) (hl : ds.length ≤ 1000 := by decide) : Nw (tLst ta) (.list ds) := fun σ H Q h =>
  h1 σ H _ fun vs H1 s1 a1 => ⟨by rw [a1.length]; exact small_sz hl (by decide), fun p hp => h _ _ (s1.trans (same_new hp)) (at_lst (fun z => z (s1.free hp)) upd_same (a1.kp (Kp.of_same (same_new hp))))⟩
inductive KvA (S : Addr → Prop) (H : Hp) : Gr → List (Key × V) → Prop where
  | nil : KvA S H [] []
  | cons {x : Str} {ws : List (List Str)} {g : Gr} {v : V} {kvs : List (Key × V)} (h : At S H (wsD ws) v) (r : KvA S H g kvs) : KvA S H ((x, ws) :: g) ((.inr x, v) :: kvs)
theorem KvA.kp {S : Addr → Prop} {H H' : Hp} (k : Kp S H H') {g : Gr} {kvs : List (Key × V)} (h : KvA S H g kvs) : KvA S H' g kvs := by
  induction h with
  | nil => exact .nil
  | cons h _ ih => exact .cons (h.kp k) ih
theorem KvA.off {S T : Addr → Prop} {H : Hp} (st : ∀ b o, H b = some o → T b → S b) {g : Gr} {kvs : List (Key × V)} (h : KvA S H g kvs) : KvA T H g kvs := by
  induction h with
  | nil => exact .nil
  | cons h _ ih => exact .cons (h.off st) ih
theorem KvA.length {S : Addr → Prop} {H : Hp} {g : Gr} {kvs : List (Key × V)} (h : KvA S H g kvs) : kvs.length = g.length := by
  induction h with
  | nil => rfl
  | cons _ _ ih => rw [List.length_cons, List.length_cons, ih]
def NwP (trs : List (TE × TE)) (g : Gr) : Prop := ∀ σ H (Q : List (V × V) → Hp → Prop), (∀ (kvs : List (Key × V)) H', Same H H' → KvA (fun b => H b ≠ none) H' g kvs → Q (kvs.map fun kv => (kV kv.1, kv.2)) H') → tPairs trs σ H Q
theorem nwp_nil : NwP [] [] := fun σ H Q h => h [] _ (fun _ _ z => z) .nil
theorem nwp_cons {x : Str} {te : TE} {ws : List (List Str)} {trs : List (TE × TE)} {g : Gr} (h1 : Nw te (wsD ws)) (h2 : NwP trs g) : NwP ((tC (.str x), te) :: trs) ((x, ws) :: g) := fun σ H Q h =>
  h1 σ H _ fun v H1 s1 a1 => h2 σ H1 _ fun kvs H2 s2 a2 => h ((.inr x, v) :: kvs) _ (s1.trans s2) (.cons (a1.kp (Kp.of_same s2)) (a2.off fun b _ _ z => later s1 b z))
/-- the last word on x -/
def getG (g : Gr) (x : Str) : Option (List (List Str)) := g.foldl (fun a p => if x = p.1 then some p.2 else a) none
theorem getG_snoc (g : Gr) (p : Str × List (List Str)) (x : Str) : getG (g ++ [p]) x = if x = p.1 then some p.2 else getG g x := by
  unfold getG
  rw [List.foldl_append]
  rfl
/-- a dict at D that says these -/
def GD (S : Addr → Prop) (H : Hp) (D : Addr) (kvs : List (Key × V)) (g : Gr) : Prop := H D = some (.dK kvs) ∧ kvs.length ≤ g.length ∧ ∀ x, match getG g x with
  | some ws => ∃ v, valV kvs (.inr x) = some v ∧ At S H (wsD ws) v
  | none => valV kvs (.inr x) = none
theorem GD.put {S : Addr → Prop} {H : Hp} {D : Addr} {kvs : List (Key × V)} {g : Gr} {x : Str} {ws : List (List Str)} {v : V} (h : GD S H D kvs g) (hD : S D) (hv : At S H (wsD ws) v) :
    GD S (upd H D (.dK (putK kvs (.inr x) v))) D (putK kvs (.inr x) v) (g ++ [(x, ws)]) := by
  obtain ⟨h1, h2, h3⟩ := h
  have kp : Kp S H (upd H D (.dK (putK kvs (.inr x) v))) := Kp.upd_in hD
  refine ⟨upd_same, ?_, fun y => ?_⟩
  · have := length_putK kvs (.inr x) v
    rw [List.length_append, List.length_singleton]
    omega
  · rw [getG_snoc, valV_put]
    have q := h3 y
    by_cases e : y = x
    · rw [if_pos e, if_pos (congrArg Sum.inr e)]
      exact ⟨v, rfl, hv.kp kp⟩
    · rw [if_neg e, if_neg (fun z => e (Sum.inr.inj z))]
      cases eg : getG g y with
      | none =>
        rw [eg] at q
        exact q
      | some ws' =>
        rw [eg] at q
        obtain ⟨u, a, b⟩ := q
        exact ⟨u, a, b.kp kp⟩
theorem GD.same {S : Addr → Prop} {H H' : Hp} {D : Addr} {kvs : List (Key × V)} {g : Gr} (h : GD S H D kvs g) (s : Same H H') : GD S H' D kvs g := by
  obtain ⟨h1, h2, h3⟩ := h
  refine ⟨s _ _ h1, h2, fun x => ?_⟩
  have q := h3 x
  cases eg : getG g x with
  | none =>
    rw [eg] at q
    exact q
  | some ws' =>
    rw [eg] at q
    obtain ⟨u, a, b⟩ := q
    exact ⟨u, a, b.kp (Kp.of_same s)⟩
theorem GD.merge {S : Addr → Prop} {D : Addr} (hD : S D) {more : List (Key × V)} {g' : Gr} : ∀ {H : Hp} {kvs : List (Key × V)} {g : Gr}, GD S H D kvs g → KvA S H g' more → GD S (upd H D (.dK (mergeK kvs more))) D (mergeK kvs more) (g ++ g') := by
  induction more generalizing g' with
  | nil =>
    intro H kvs g h r
    cases r
    rw [List.append_nil]
    have e : upd H D (.dK (mergeK kvs [])) = H := by
      funext b
      by_cases z : b = D
      · rw [z, upd_same]
        exact h.1.symm
      · rw [upd_ne z]
    rw [e]
    exact h
  | cons p more ih =>
    intro H kvs g h r
    cases r with
    | @cons x ws g'' v kvs' h1 r =>
      have q := ih (h.put (x := x) hD h1) (r.kp (Kp.upd_in hD))
      have e : upd (upd H D (.dK (putK kvs (.inr x) v))) D (.dK (mergeK (putK kvs (.inr x) v) more)) = upd H D (.dK (mergeK kvs ((.inr x, v) :: more))) := by
        funext b
        by_cases z : b = D
        · rw [z, upd_same, upd_same]
          rfl
        · rw [upd_ne z, upd_ne z, upd_ne z]
      rw [e, List.append_assoc] at q
      exact q
theorem disp_nw {trs : List (TE × TE)} {g : Gr} (hp : NwP trs g) (hl : g.length ≤ 15 := by decide) {σ : L2.St} {H : Hp} {Q : VK} (h : ∀ p kvs H', Same H H' → H p = none → GD (fun b => H b ≠ none ∨ b = p) H' p kvs g → Q (.ref p) H') : tDisp trs σ H Q := by
  intro p hpn
  have s0 : Same H (upd H p (.dK [])) := same_new hpn
  refine hp σ _ _ fun kvs H1 s1 a1 => ?_
  have e1 := s1 _ _ (upd_same (H := H) (a := p) (o := .dK []))
  refine ⟨e1, kvs, rfl, by rw [a1.length]; exact hl, ?_⟩
  have a2 : KvA (fun b => H b ≠ none ∨ b = p) H1 g kvs := a1.off fun b o hb z => by
    rcases z with z | z
    · exact later s0 b z
    · rw [z, upd_same]
      exact fun z => nomatch z
  have q := GD.merge (S := fun b => H b ≠ none ∨ b = p) (D := p) (.inr rfl) (kvs := []) (g := []) (H := H1) ⟨e1, Nat.le_refl _, fun x => rfl⟩ a2
  exact h p _ _ (fun b o hb => by rw [upd_ne (ne_of_none hb hpn)]; exact s1 _ _ (s0 _ _ hb)) hpn q
end TX
/-! The law's grammar, as it is written. -/
namespace TX
open PySem PySem.Spec PyProof.Rows L2 NT RW4
def g0 : Gr := [("cells", [["-"], ["cell", "cells+"]]), ("cells+", [[], [" ", "cell", "cells+"]])]
def g1 : Gr := [("weights", [["-"], ["weight", "weights+"]]), ("weights+", [[], [" ", "weight", "weights+"]])]
def g2 : Gr := [("joins", [["-"], ["join", "joins+"]]), ("joins+", [[], [" ", "join", "joins+"]])]
def g3 : Gr := [("weight", [["cell", ":", "number"]]), ("join", [["cell", "+", "cell"]]), ("digit0", [[]])]
def g4 : Gr := [("cell", [["whole", ",", "whole"]]), ("number", [["0"], ["1-9", "digit8"]])]
def g5 : Gr := [("whole", [["0"], ["1-9", "digit8"], ["-", "1-9", "digit8"]]), ("place", [["great", ",", "great"]])]
def g6 : List (List Str) := [["0"], ["1-9", "digit59"], ["-", "1-9", "digit59"]]
def w4 : List Str := ["open", "wall", "set", "take"]
def deedOf (x : Str) : List Str := (x.cps.toList ++ [32]).map (fun c => (⟨#[c]⟩ : Str)) ++ [("place" : Str)]
def g7 : List (List Str) := w4.map deedOf
theorem w4_small : w4.all (fun x => decide (x.cps.toList.length ≤ 10)) = true := by decide +kernel
def g8 : Gr := [("log", [["deed", "logs"]]), ("logs", [[], ["\n", "deed", "logs"]])]
def g9 : Gr := (List.range 59).map fun k => (dgN (k + 1), [[], ["digit", dgN k]])
def gAll : Gr := g0 ++ g1 ++ g2 ++ g3 ++ g4 ++ g5 ++ ([("great", g6)] : Gr) ++ ([("deed", g7)] : Gr) ++ g8 ++ g9
theorem gAll_C : gD.all (fun p => decide (getG gAll p.1 = some p.2)) = true := by decide +kernel
theorem gAll_T : terms.all (fun x => decide (getG gAll x = none)) = true := by decide +kernel
theorem gD_nd : gD.all (fun p => decide (ways gD p.1 = some p.2)) = true := by decide +kernel
end TX
/-! part V11 -/
/-! The law's text rules, walked. -/
namespace TX
open PySem PySem.Spec PyProof.Rows L2 NT RW4
/-- all stands but what lies in S, and the tables of code -/
def KpT (S : Addr → Prop) (H H' : Hp) : Prop := ∀ b o, H b = some o → ¬ S b → (∀ ps, o ≠ .tbl ps) → H' b = some o
theorem KpT.of {S : Addr → Prop} {H H' : Hp} (k : Kp S H H') : KpT S H H' := fun b o h n _ => k b o h n
theorem KpT.same {S : Addr → Prop} {H H' : Hp} (k : Same H H') : KpT S H H' := fun b o h _ _ => k b o h
theorem KpT.ext {S : Addr → Prop} {H H' : Hp} (k : LamX.ExtN H H') : KpT S H H' := fun b o h _ z => k b o h z
theorem KpT.trans {S : Addr → Prop} {H H1 H2 : Hp} (a : KpT S H H1) (b : KpT S H1 H2) : KpT S H H2 := fun c o h n z => b c o (a c o h n z) n z
theorem KpT.mono {S T : Addr → Prop} {H H' : Hp} (a : KpT S H H') (st : ∀ b, S b → T b) : KpT T H H' := fun b o h n z => a b o h (fun q => n (st b q)) z
theorem KpT.upd_in {S : Addr → Prop} {H : Hp} {p : Addr} {o : HO} (h : S p) : KpT S H (upd H p o) := .of (.upd_in h)
theorem KpT.tup {S : Addr → Prop} {H H' : Hp} {p : Addr} {xs : List V} (k : KpT S H H') (n : ¬ S p) (e : H p = some (.tup xs)) : H' p = some (.tup xs) := k _ _ e n fun ps z => nomatch z
theorem KpT.lst {S : Addr → Prop} {H H' : Hp} {p : Addr} {xs : List V} (k : KpT S H H') (n : ¬ S p) (e : H p = some (.lst xs)) : H' p = some (.lst xs) := k _ _ e n fun ps z => nomatch z
mutual
theorem At.kpT {S : Addr → Prop} {H H' : Hp} (k : KpT S H H') : ∀ {d : PyData} {v : V}, At S H d v → At S H' d v
  | .none, _, h => h
  | .bool _, _, h => h
  | .int _, _, h => h
  | .str _, _, h => h
  | .list ds, v, h => by
    unfold At at h ⊢
    obtain ⟨p, xs, e, n, hp, ha⟩ := h
    exact ⟨p, xs, e, n, k.lst n hp, AtL.kpT k ha⟩
  | .tuple ds, v, h => by
    unfold At at h ⊢
    obtain ⟨p, xs, e, n, hp, ha⟩ := h
    exact ⟨p, xs, e, n, k.tup n hp, AtL.kpT k ha⟩
  | .dict _, _, h => h.elim
theorem AtL.kpT {S : Addr → Prop} {H H' : Hp} (k : KpT S H H') : ∀ {ds : List PyData} {vs : List V}, AtL S H ds vs → AtL S H' ds vs
  | [], _, h => h
  | d :: ds, vs, h => by
    unfold AtL at h ⊢
    obtain ⟨v, r, e, h1, h2⟩ := h
    exact ⟨v, r, e, At.kpT k h1, AtL.kpT k h2⟩
end
local macro_rules | `(tactic| walk_at "go") => `(tactic| simp only [L2.start, List.map_cons, List.map_nil, List.length_cons, List.length_nil, Nat.reduceSub, Nat.reduceAdd, List.replicate_succ, List.replicate_zero, List.cons_append, List.nil_append, List.append_nil,
  tSeq, tNext, tRet, tIfS, tTest, tAnd, tOr, tNot, tCB, tCall, tCons, tNil, tVar, tC, tOp, tUn, tAsg, gName, rI0, rI, CMul, CDiv, tDGet, sDPut, tBM0, tBM, tTup, tLst, tPar, tPar3, gTup, gNil, gCons, tIf, tAug, tRevL, tDisp, tPairs, tYes, wipe, tDrop, L2.tSl, tNotV, tAndV, tOrV, tB, rSlS, ipI, tNoPart, NdefX.startF, tOst, tMkO, rIxL, rIxT, rIxS, rAppend, rExtend, rPop, rSlL, rSetL, tPart, rEq, rNe, tFmt, tJn, tJs, tFi, tFs, gLst, tThen, tIf, rS, rRep, tThenZ, rIS, cRi, rSortedP, rLn, rPopAt, tCallS, ↓reduceIte, L2.gSub, ↓reduceIte,
  List.getElem?_cons_zero, List.getElem?_cons_succ, List.set_cons_zero, List.set_cons_succ, Option.some.injEq, V.int.injEq, V.str.injEq, V.ref.injEq, V.bl.injEq, exists_eq_left, exists_eq_left', exists_eq_right, exists_eq_right', exists_eq', true_and, and_true, decide_eq_true_eq, List.cons.injEq, reduceCtorEq, false_and, false_or, or_false, exists_false, exists_and_left, exists_and_right, and_assoc])
local macro_rules | `(tactic| walk_at "g2") => `(tactic| simp only [L2.start, List.map_cons, List.map_nil, List.length_cons, List.length_nil, Nat.reduceSub, Nat.reduceAdd, List.replicate_succ, List.replicate_zero, List.cons_append, List.nil_append, List.append_nil,
  tSeq, tNext, tRet, tIfS, tTest, tAnd, tOr, tNot, tCB, tCall, tCons, tNil, tVar, tC, tOp, tUn, tAsg, gName, rI0, rI, CMul, CDiv, tDGet, sDPut, tBM0, tBM, tTup, tPar, tPar3, gTup, gNil, gCons, tIf, tAug, tRevL, tYes, wipe, tDrop, L2.tSl, tNotV, tAndV, tOrV, tB, rSlS, ipI, tNoPart, NdefX.startF, tOst, tMkO, rIxL, rIxT, rIxS, rAppend, rExtend, rPop, rSlL, rSetL, tPart, rEq, rNe, tFmt, tJn, tJs, tFi, gLst, tThen, tIf, rS, rIS, cRi, rSortedP, rLn, rPopAt, tCallS, ↓reduceIte, L2.gSub, ↓reduceIte,
  List.getElem?_cons_zero, List.getElem?_cons_succ, List.set_cons_zero, List.set_cons_succ, Option.some.injEq, V.int.injEq, V.str.injEq, V.ref.injEq, V.bl.injEq, exists_eq_left, exists_eq_left', exists_eq_right, exists_eq_right', exists_eq', true_and, and_true, decide_eq_true_eq, List.cons.injEq, reduceCtorEq, false_and, false_or, or_false, exists_false, exists_and_left, exists_and_right, and_assoc])
section
variable {w : World} {K : PySem.W.Frag} {mg : Str → Option Value} {base : Heap}
def spRules : Sp := fun vs H Q E => vs = [] ∧ ∀ p H', Same H H' → H p = none → (∀ H'', KpT (fun b => H b ≠ none) H' H'' → GrAt H'' p) → Q (.ref p) H'
theorem gr_of {S : Addr → Prop} {H : Hp} {D : Addr} {kvs : List (Key × V)} (h : GD S H D kvs gAll) : GrAt H D := by
  refine ⟨kvs, h.1, fun x ws hx => ?_, fun x hx => ?_⟩
  · obtain ⟨p, hp, rfl, rfl⟩ := ways_mem hx
    have q := h.2.2 p.1
    rw [of_decide_eq_true (List.all_eq_true.mp gAll_C p hp)] at q
    obtain ⟨v, a, b⟩ := q
    exact ⟨v, a, b.no⟩
  · have q := h.2.2 x
    rw [of_decide_eq_true (List.all_eq_true.mp gAll_T x hx)] at q
    exact q
theorem KvA.keys {S : Addr → Prop} {H : Hp} {g : Gr} {kvs : List (Key × V)} (h : KvA S H g kvs) : kvs.map (·.1) = g.map fun p => (Sum.inr p.1 : Key) := by
  induction h with
  | nil => rfl
  | cons _ _ ih => rw [List.map_cons, List.map_cons, ih]
theorem mergeK_new : ∀ {more acc : List (Key × V)}, (more.map (·.1)).Nodup → (∀ k ∈ more.map (·.1), valV acc k = none) → mergeK acc more = acc ++ more
  | [], acc, _, _ => (List.append_nil acc).symm
  | p :: more, acc, hn, hd => by
    show mergeK (putK acc p.1 p.2) more = acc ++ p :: more
    rw [putK_new _ (hd p.1 List.mem_cons_self)]
    rw [List.map_cons, List.nodup_cons] at hn
    rw [mergeK_new hn.2 fun k hk => ?_, List.append_assoc]
    · rfl
    · have hne : ¬ k = p.1 := fun z => hn.1 (z ▸ hk)
      rw [valV_snoc p.1 k p.2 acc (hd p.1 List.mem_cons_self), if_neg hne]
      exact hd k (List.mem_cons_of_mem _ hk)
theorem KvA.merge0 {S : Addr → Prop} {H : Hp} {g : Gr} {kvs : List (Key × V)} (h : KvA S H g kvs) (hn : (g.map (·.1)).Nodup) : mergeK [] kvs = kvs := by
  rw [mergeK_new (acc := []), List.nil_append]
  · have e : g.map (fun p => (Sum.inr p.1 : Key)) = (g.map fun p => p.1).map Sum.inr := by rw [List.map_map]; rfl
    rw [h.keys, e]
    exact List.Pairwise.map _ (fun a b hab z => hab (Sum.inr.inj z)) hn
  · exact fun _ _ => rfl
theorem upd_step {H00 H : Hp} {D : Addr} {kvs : List (Key × V)} {g g' : Gr} {trs : List (TE × TE)} {σ : L2.St} {Qn : VK} (hD : H00 D = none) (s : Same H00 H) (h : GD (fun b => H00 b ≠ none ∨ b = D) H D kvs g) (hp : NwP trs g') (hl : g'.length ≤ 15) (hg : g.length + g'.length ≤ 1000) (hn : (g'.map (·.1)).Nodup)
    (q : ∀ kvs' H', Same H00 H' → GD (fun b => H00 b ≠ none ∨ b = D) H' D kvs' (g ++ g') → Qn .non H') : tyV K "dict" (.ref D) H ∧ tDisp trs σ H fun x H1 => rUpd (.ref D) [x] H1 Qn := by
  refine ⟨.inr (.inr (.inl ⟨rfl, .inl ⟨_, h.1⟩⟩)), fun p hpn => ?_⟩
  have s0 : Same H (upd H p (.dK [])) := same_new hpn
  refine hp σ _ _ fun kvs1 H1 s1 a1 => ?_
  have e1 := s1 _ _ (upd_same (H := H) (a := p) (o := .dK []))
  refine ⟨e1, kvs1, rfl, by rw [a1.length]; exact hl, ?_⟩
  have pD : D ≠ p := ne_of_none h.1 hpn
  have s01 : Same H (upd H1 p (.dK (mergeK [] kvs1))) := fun b o hb => by
    rw [upd_ne (ne_of_none hb hpn)]
    exact s1 _ _ (s0 _ _ hb)
  have h1 := h.same s01
  have a2 : KvA (fun b => H00 b ≠ none ∨ b = D) (upd H1 p (.dK (mergeK [] kvs1))) g' kvs1 := by
    have z : KvA (fun b => H b ≠ none ∨ b = p) H1 g' kvs1 := a1.off fun b o _ z => by
      rcases z with z | z
      · exact later s0 b z
      · rw [z, upd_same]
        exact fun z => nomatch z
    refine (z.kp (Kp.upd_in (.inr rfl))).off fun b o _ z => ?_
    rcases z with z | z
    · exact .inl (later s b z)
    · rw [z]
      exact .inl (by rw [h.1]; exact fun z => nomatch z)
  rw [a1.merge0 hn] at *
  refine ⟨D, p, kvs, kvs1, rfl, rfl, pD, h1.1, upd_same, by have := h.2.1; rw [a1.length]; omega, ?_⟩
  have m := GD.merge (S := fun b => H00 b ≠ none ∨ b = D) (D := D) (.inr rfl) h1 a2
  refine q _ _ (fun b o hb => ?_) m
  rw [upd_ne (ne_of_none hb hD)]
  exact s01 _ _ (s _ _ hb)
theorem nw0 : Nw (tLst tNil) (dWay []) := nw_lst nwa_nil
theorem nw1 {a : Str} : Nw (tLst (tCons (tC (.str a)) tNil)) (dWay [a]) := nw_lst (nwa_cons nw_str nwa_nil) (show 1 ≤ 1000 by decide)
theorem nw2 {a b : Str} : Nw (tLst (tCons (tC (.str a)) (tCons (tC (.str b)) tNil))) (dWay [a, b]) := nw_lst (nwa_cons nw_str (nwa_cons nw_str nwa_nil)) (show 2 ≤ 1000 by decide)
theorem nw3 {a b c : Str} : Nw (tLst (tCons (tC (.str a)) (tCons (tC (.str b)) (tCons (tC (.str c)) tNil)))) (dWay [a, b, c]) := nw_lst (nwa_cons nw_str (nwa_cons nw_str (nwa_cons nw_str nwa_nil))) (show 3 ≤ 1000 by decide)
theorem put_step {H00 H : Hp} {D : Addr} {kvs : List (Key × V)} {g : Gr} {x : Str} {ws : List (List Str)} {v : V} {N : Hp → Prop} (hD : H00 D = none) (s : Same H00 H) (h : GD (fun b => H00 b ≠ none ∨ b = D) H D kvs g) (hg : g.length ≤ 1000) (hv : At (fun b => H00 b ≠ none ∨ b = D) H (wsD ws) v)
    (q : ∀ kvs' H', Same H00 H' → GD (fun b => H00 b ≠ none ∨ b = D) H' D kvs' (g ++ [(x, ws)]) → N H') : ∃ H4, DPut H D (.str x) v H4 ∧ N H4 := by
  refine ⟨_, DPut.k (k := Sum.inr x) h.1 (small_lt (m := 1000) (Nat.le_trans h.2.1 hg) (by decide)), q _ _ (fun b o hb => ?_) (h.put (.inr rfl) hv)⟩
  rw [upd_ne (ne_of_none hb hD)]
  exact s _ _ hb
theorem ok_rules (T : Txt w K mg) : Ok PW w K mg base CX0 1 "_law_text_rules" [] spRules := by
  obtain ⟨f, fd, D⟩ := T.d_L_text_rules
  refine ⟨f, fd, D.F.ok sc_L_text_rules (fun vs H Q E h => ?_) (fun cdv A outer s H vs Q E hr h => ?_), D.g, D.F.kp, D.b⟩
  · obtain ⟨rfl, _⟩ := h
    rfl
  · obtain ⟨rfl, h⟩ := h
    have nd := sc_L_text_rules.nd
    have hu := hu_of hr
    refine ⟨_, pss_cons (ps_set (i := 0) nd rfl (.inl rfl) (pe_disp (pps_cons pe_str (pe_lst (pa_cons (pe_lst (pa_cons pe_str pa_nil)) (pa_cons (pe_lst (pa_cons pe_str (pa_cons pe_str pa_nil))) pa_nil))) (pps_cons pe_str (pe_lst (pa_cons (pe_lst pa_nil) (pa_cons (pe_lst (pa_cons pe_str (pa_cons pe_str (pa_cons pe_str pa_nil)))) pa_nil))) pps_nil)) (by rfl) (by rfl) (fun z => by cases z) (by decide)))
      (pss_cons (ps_expr (pe_bm PySem.F.plainAttrs_dict PySem.F.slot_dict_update PySem.F.type_dict_update mt_upd (pv 0) (pa_cons (pe_disp (pps_cons pe_str (pe_lst (pa_cons (pe_lst (pa_cons pe_str pa_nil)) (pa_cons (pe_lst (pa_cons pe_str (pa_cons pe_str pa_nil))) pa_nil))) (pps_cons pe_str (pe_lst (pa_cons (pe_lst pa_nil) (pa_cons (pe_lst (pa_cons pe_str (pa_cons pe_str (pa_cons pe_str pa_nil)))) pa_nil))) pps_nil)) (by rfl) (by rfl) (fun z => by cases z) (by decide)) pa_nil)))
      (pss_cons (ps_expr (pe_bm PySem.F.plainAttrs_dict PySem.F.slot_dict_update PySem.F.type_dict_update mt_upd (pv 0) (pa_cons (pe_disp (pps_cons pe_str (pe_lst (pa_cons (pe_lst (pa_cons pe_str pa_nil)) (pa_cons (pe_lst (pa_cons pe_str (pa_cons pe_str pa_nil))) pa_nil))) (pps_cons pe_str (pe_lst (pa_cons (pe_lst pa_nil) (pa_cons (pe_lst (pa_cons pe_str (pa_cons pe_str (pa_cons pe_str pa_nil)))) pa_nil))) pps_nil)) (by rfl) (by rfl) (fun z => by cases z) (by decide)) pa_nil)))
      (pss_cons (ps_expr (pe_bm PySem.F.plainAttrs_dict PySem.F.slot_dict_update PySem.F.type_dict_update mt_upd (pv 0) (pa_cons (pe_disp (pps_cons pe_str (pe_lst (pa_cons (pe_lst (pa_cons pe_str (pa_cons pe_str (pa_cons pe_str pa_nil)))) pa_nil)) (pps_cons pe_str (pe_lst (pa_cons (pe_lst (pa_cons pe_str (pa_cons pe_str (pa_cons pe_str pa_nil)))) pa_nil)) (pps_cons pe_str (pe_lst (pa_cons (pe_lst pa_nil) pa_nil)) pps_nil))) (by rfl) (by rfl) (fun z => by cases z) (by decide)) pa_nil)))
      (pss_cons (ps_expr (pe_bm PySem.F.plainAttrs_dict PySem.F.slot_dict_update PySem.F.type_dict_update mt_upd (pv 0) (pa_cons (pe_disp (pps_cons pe_str (pe_lst (pa_cons (pe_lst (pa_cons pe_str (pa_cons pe_str (pa_cons pe_str pa_nil)))) pa_nil)) (pps_cons pe_str (pe_lst (pa_cons (pe_lst (pa_cons pe_str pa_nil)) (pa_cons (pe_lst (pa_cons pe_str (pa_cons pe_str pa_nil))) pa_nil))) pps_nil)) (by rfl) (by rfl) (fun z => by cases z) (by decide)) pa_nil)))
      (pss_cons (ps_expr (pe_bm PySem.F.plainAttrs_dict PySem.F.slot_dict_update PySem.F.type_dict_update mt_upd (pv 0) (pa_cons (pe_disp (pps_cons pe_str (pe_lst (pa_cons (pe_lst (pa_cons pe_str pa_nil)) (pa_cons (pe_lst (pa_cons pe_str (pa_cons pe_str pa_nil))) (pa_cons (pe_lst (pa_cons pe_str (pa_cons pe_str (pa_cons pe_str pa_nil)))) pa_nil)))) (pps_cons pe_str (pe_lst (pa_cons (pe_lst (pa_cons pe_str (pa_cons pe_str (pa_cons pe_str pa_nil)))) pa_nil)) pps_nil)) (by rfl) (by rfl) (fun z => by cases z) (by decide)) pa_nil)))
      (pss_cons (ps_dput hu (pv 0) pe_str (pe_lst (pa_cons (pe_lst (pa_cons pe_str pa_nil)) (pa_cons (pe_lst (pa_cons pe_str (pa_cons pe_str pa_nil))) (pa_cons (pe_lst (pa_cons pe_str (pa_cons pe_str (pa_cons pe_str pa_nil)))) pa_nil)))) rfl)
      (pss_cons (ps_dput hu (pv 0) pe_str (pe_lc (own := [("word", 2)]) (g := gName 2) (tt := tYes) rfl nd (pi_tup (pe_tup (pa_cons pe_str (pa_cons pe_str (pa_cons pe_str (pa_cons pe_str pa_nil)))))) (blkOk_by (N := n_L_text_rules) (sc := defScope s_L_text_rules) (by decide +kernel))
          (fun _ _ _ _ _ => pg_name (i := 2) nd rfl (.inl rfl)) (fun _ _ _ _ _ => pts_nil) (fun _ _ _ _ _ => pe_op op_cat (pe_listOfS (by rfl) (by rfl) T.z_list (pe_op op_S (pv 2) pe_str)) (pe_lst (pa_cons pe_str pa_nil)))) rfl)
      (pss_cons (ps_expr (pe_bm PySem.F.plainAttrs_dict PySem.F.slot_dict_update PySem.F.type_dict_update mt_upd (pv 0) (pa_cons (pe_disp (pps_cons pe_str (pe_lst (pa_cons (pe_lst (pa_cons pe_str (pa_cons pe_str pa_nil))) pa_nil)) (pps_cons pe_str (pe_lst (pa_cons (pe_lst pa_nil) (pa_cons (pe_lst (pa_cons pe_str (pa_cons pe_str (pa_cons pe_str pa_nil)))) pa_nil))) pps_nil)) (by rfl) (by rfl) (fun z => by cases z) (by decide)) pa_nil)))
      (pss_cons (ps_for PassesOwn.never rfl (pi_range2 (by rfl) T.z_range (pa_cons pe_int (pa_cons pe_int pa_nil))) (pg_name (i := 1) nd rfl (.inl rfl))
        (pss_one (ps_dput hu (pv 0) (pe_op op_S pe_str (pe_callB call_ri (by rfl) T.z_repr (by decide +kernel) (pa_cons (pv 1) pa_nil))) (pe_lst (pa_cons (pe_lst pa_nil) (pa_cons (pe_lst (pa_cons pe_str (pa_cons (pe_op op_S pe_str (pe_callB call_ri (by rfl) T.z_repr (by decide +kernel) (pa_cons (pe_op op_sub (pv 1) pe_int) pa_nil))) pa_nil))) pa_nil))) rfl)))
      (pss_one (ps_ret (pv 0)))))))))))), ?_⟩
    walk_at "g2"
    refine disp_nw (g := g0) (nwp_cons (nw_lst (nwa_cons (nw_lst (nwa_cons nw_str nwa_nil)) (nwa_cons (nw_lst (nwa_cons nw_str (nwa_cons nw_str nwa_nil))) nwa_nil))) (nwp_cons (nw_lst (nwa_cons (nw_lst nwa_nil) (nwa_cons (nw_lst (nwa_cons nw_str (nwa_cons nw_str (nwa_cons nw_str nwa_nil)))) nwa_nil))) nwp_nil)) (by decide) fun D kvs0 H0 s0 hD d0 => ?_
    refine upd_step (g' := g1) hD s0 d0 (nwp_cons (nw_lst (nwa_cons nw1 (nwa_cons nw2 nwa_nil))) (nwp_cons (nw_lst (nwa_cons nw0 (nwa_cons nw3 nwa_nil))) nwp_nil)) (by decide) (by decide) (by decide +kernel) fun kvs1 H1 s1 d1 => ?_
    refine upd_step (g' := g2) hD s1 d1 (nwp_cons (nw_lst (nwa_cons nw1 (nwa_cons nw2 nwa_nil))) (nwp_cons (nw_lst (nwa_cons nw0 (nwa_cons nw3 nwa_nil))) nwp_nil)) (by decide) (by decide) (by decide +kernel) fun kvs2 H2 s2 d2 => ?_
    refine upd_step (g' := g3) hD s2 d2 (nwp_cons (nw_lst (nwa_cons nw3 nwa_nil)) (nwp_cons (nw_lst (nwa_cons nw3 nwa_nil)) (nwp_cons (nw_lst (nwa_cons nw0 nwa_nil)) nwp_nil))) (by decide) (by decide) (by decide +kernel) fun kvs3 H3 s3 d3 => ?_
    refine upd_step (g' := g4) hD s3 d3 (nwp_cons (nw_lst (nwa_cons nw3 nwa_nil)) (nwp_cons (nw_lst (nwa_cons nw1 (nwa_cons nw2 nwa_nil))) nwp_nil)) (by decide) (by decide) (by decide +kernel) fun kvs4 H4 s4 d4 => ?_
    refine upd_step (g' := g5) hD s4 d4 (nwp_cons (nw_lst (nwa_cons nw1 (nwa_cons nw2 (nwa_cons nw3 nwa_nil)))) (nwp_cons (nw_lst (nwa_cons nw3 nwa_nil)) nwp_nil)) (by decide) (by decide) (by decide +kernel) fun kvs5 H5 s5 d5 => ?_
    refine (nw_lst (nwa_cons nw1 (nwa_cons nw2 (nwa_cons nw3 nwa_nil))) : Nw _ (wsD g6)) _ _ _ fun v6 H6 t6 a6 => ⟨D, rfl, put_step hD (s5.trans t6) (d5.same t6) (by decide) (a6.off fun b o _ z => z.elim (fun z => later s5 b z) (fun z => by rw [z, d5.1]; exact fun z => nomatch z)) fun kvs6 H7 s7 d7 => ?_⟩
    refine ⟨by decide, fun pt hpt => ⟨pt, rfl, ⟨w4.map V.str, .inl (.inl upd_same)⟩, fun DL hDL => ?_⟩⟩
    have st : Same H7 (upd H7 pt (.tup (w4.map V.str))) := same_new hpt
    refine lc_it (walk_tup (xs := w4.map V.str)) (fun n H' => Same (upd H7 pt (.tup (w4.map V.str))) H' ∧ ∃ us, H' DL = some (.lst us) ∧ AtL (fun b => (upd H7 pt (.tup (w4.map V.str))) b ≠ none ∨ b = DL) H' ((g7.take n).map dWay) us) ⟨same_new hDL, [], upd_same, atl_nil⟩ (fun n H' _ z => .inl (.inl (z.1 _ _ upd_same))) ?_ ?_
    · rintro n xw Ha Hb hn ⟨sm, us, eD, hus⟩ ⟨rfl, hxw⟩
      obtain ⟨wd, hwd, rfl⟩ := map_get hxw
      have hsm := of_decide_eq_true (List.all_eq_true.mp w4_small wd (List.mem_of_getElem? hwd))
      have hn4 := get_lt hwd
      have hn4' : n < 4 := hn4
      have eg : g7[n]? = some (deedOf wd) := by
        show (w4.map deedOf)[n]? = _
        rw [List.getElem?_map, hwd]
        rfl
      have et : (g7.take (n + 1)).map dWay = (g7.take n).map dWay ++ [dWay (deedOf wd)] := take_snoc eg dWay
      walk_at "go"
      refine ⟨wd.cps.toList, by rw [SX.S_tl], [32], by decide +kernel, by rw [List.length_singleton]; omega, SX.S (wd.cps.toList ++ [32]), rfl, ?_, fun q1 hq1 => ⟨by decide, fun q2 hq2 => ?_⟩⟩
      · show (wd.cps.toList ++ [32]).toArray.size ≤ sizeLine
        rw [List.size_toArray, List.length_append, List.length_singleton]
        exact small_sz (m := 100) (by omega) (by decide)
      · have s1 : Same Hb (upd Hb q1 (.lst ((wd.cps.toList ++ [32]).map fun c => V.str ⟨#[c]⟩))) := same_new hq1
        have s2 := s1.trans (same_new (o := .lst [V.str "place"]) hq2)
        have q12 : q1 ≠ q2 := ne_of_none upd_same hq2
        refine ⟨q1, q2, (wd.cps.toList ++ [32]).map fun c => V.str ⟨#[c]⟩, [V.str "place"], rfl, rfl, by rw [upd_ne q12]; exact upd_same, upd_same, ?_, fun q3 hq3 => ?_⟩
        · rw [List.length_map, List.length_append, List.length_singleton, List.length_singleton]
          exact small_sz (m := 100) (by omega) (by decide)
        · have s3 := s2.trans (same_new (o := .lst (((wd.cps.toList ++ [32]).map fun c => V.str ⟨#[c]⟩) ++ [V.str "place"])) hq3)
          have q3D : q3 ≠ DL := (ne_of_none (s2 _ _ eD) hq3).symm
          have hq30 : Hb q3 = none := s2.free hq3
          have es : ((wd.cps.toList ++ [32]).map fun c => V.str ⟨#[c]⟩) ++ [V.str "place"] = (deedOf wd).map V.str := by
            unfold deedOf
            simp only [List.map_append, List.map_map]
            rfl
          refine ⟨us, s3 _ _ eD, ?_, fun b o hb => ?_, _, upd_same, ?_⟩
          · rw [hus.length, List.length_map, List.length_take]
            exact small_lt (m := 100) (by omega) (by decide)
          · rw [upd_ne (ne_of_none hb hDL)]
            exact s3 _ _ (sm _ _ hb)
          · rw [et]
            refine ((hus.kp (Kp.of_same s3)).kp (Kp.upd_in (.inr rfl))).snoc (at_lst (p := q3) (xs := (deedOf wd).map V.str) (fun z => z.elim (fun z => z (sm.free hq30)) q3D) ?_ (at_strs _))
            rw [upd_ne q3D, upd_same, es]
    · rintro Ha ⟨sm, us, eD, hus⟩
      walk_at "g2"
      have eg : g7.take w4.length = g7 := rfl
      rw [List.length_map, eg] at hus
      have s8 := (s7.trans st).trans sm
      have hDL7 : H7 DL = none := st.free hDL
      refine put_step (ws := g7) hD s8 ((d7.same st).same sm) (by decide) (at_lst (p := DL) ?_ eD (hus.off fun b o _ z => ?_)) fun kvs8 H8 s9 d8 => ?_
      · rintro (z | z)
        · exact z (s7.free hDL7)
        · rw [z, d7.1] at hDL7
          cases hDL7
      · rcases z with z | z
        · exact .inl (later (s7.trans st) b z)
        · refine .inl ?_
          rw [z, st _ _ d7.1]
          exact fun z => nomatch z
      refine upd_step (g' := g8) hD s9 d8 (nwp_cons (nw_lst (nwa_cons nw2 nwa_nil)) (nwp_cons (nw_lst (nwa_cons nw0 (nwa_cons nw3 nwa_nil))) nwp_nil)) (by decide) (by decide) (by decide +kernel) fun kvs9 H9 s10 d9 => ?_
      refine ⟨1, 60, rfl, by decide, for_it (n := 59) (walk_range (lo := 1)) (fun n σ H' => ∃ (kvs : List (Key × V)) (v1 : Option V), σ = [some (.ref D), v1, none] ∧ Same H H' ∧ GD (fun b => H b ≠ none ∨ b = D) H' D kvs (g0 ++ g1 ++ g2 ++ g3 ++ g4 ++ g5 ++ ([("great", g6)] : Gr) ++ ([("deed", g7)] : Gr) ++ g8 ++ g9.take n)) ⟨_, none, rfl, s10, by rw [List.take_zero, List.append_nil]; exact d9⟩ (fun _ _ _ _ _ => trivial) ?_ ?_⟩
      · rintro n xv σ Hb Hc hn ⟨kvs, v1, rfl, sb, db⟩ ⟨rfl, rfl⟩
        walk_at "go"
        have z1 : (1 + (n : Int) - 1) = ((n : Nat) : Int) := by omega
        have z2 : (1 + (n : Int)) = ((n + 1 : Nat) : Int) := by omega
        have edig : (Str.ofString "digit") = SX.S [100, 105, 103, 105, 116] := by decide +kernel
        have l1 : (intL ((n : Nat) : Int)).length ≤ 10 := intL_len (x := 122) ⟨(show _ < 10 ^ 9 by omega), fun z => absurd z (by decide)⟩
        have l2 : (intL ((n + 1 : Nat) : Int)).length ≤ 10 := intL_len (x := 122) ⟨(show _ < 10 ^ 9 by omega), fun z => absurd z (by decide)⟩
        rw [z1, z2]
        refine ⟨by decide, fun p1 hp1 => ⟨by omega, _, edig, _, rfl, by simp only [List.length_cons, List.length_nil]; omega, by decide, fun p2 hp2 => ⟨by decide, fun p3 hp3 => ⟨by omega, _, edig, _, rfl, by simp only [List.length_cons, List.length_nil]; omega, ?_⟩⟩⟩⟩
        have t1 : Same Hc (upd Hc p1 (.lst [])) := same_new hp1
        have t2 := same_new (o := .lst [V.str "digit", V.str (dgN n)]) hp2
        have t3 := same_new (o := .lst [V.ref p1, V.ref p2]) hp3
        have s3 := (t1.trans t2).trans t3
        have ep1 := t3 _ _ (t2 p1 _ upd_same)
        have ep2 := t3 p2 _ upd_same
        have nS : ∀ {p : Addr}, Hc p = none → ¬ (H p ≠ none ∨ p = D) := fun {p} hp z => z.elim (fun z => z (sb.free hp)) fun z => by
          rw [z, db.1] at hp
          cases hp
        have et : g9.take (n + 1) = g9.take n ++ ([(dgN (n + 1), [[], [("digit" : Str), dgN n]])] : Gr) := by
          have eg : g9[n]? = some (dgN (n + 1), ([[], [("digit" : Str), dgN n]] : List (List Str))) := by
            unfold g9
            rw [List.getElem?_map, List.getElem?_range hn]
            rfl
          rw [List.take_succ, eg]
          rfl
        have hc1 : (g0 ++ g1 ++ g2 ++ g3 ++ g4 ++ g5 ++ ([("great", g6)] : Gr) ++ ([("deed", g7)] : Gr) ++ g8).length ≤ 100 := by decide
        have hc2 : (g9.take n).length ≤ n := by rw [List.length_take]; omega
        refine put_step (x := dgN (n + 1)) (ws := [[], [("digit" : Str), dgN n]]) (N := fun x2 => Same H x2 ∧ ∃ x, GD (fun b => H b ≠ none ∨ b = D) x2 D x (g0 ++ g1 ++ g2 ++ g3 ++ g4 ++ g5 ++ ([("great", g6)] : Gr) ++ ([("deed", g7)] : Gr) ++ g8 ++ g9.take (n + 1))) hD (sb.trans s3) (db.same s3) (by rw [List.length_append]; omega)
          (at_lst (p := p3) (xs := [V.ref p1, V.ref p2]) (nS ((t1.trans t2).free hp3)) upd_same (atl_cons (at_lst (p := p1) (xs := []) (nS hp1) ep1 atl_nil) (atl_cons (at_lst (p := p2) (xs := [V.str "digit", V.str (dgN n)]) (nS (t1.free hp2)) ep2 (atl_cons at_str (atl_cons at_str atl_nil))) atl_nil))) fun kvs' H' s' d' => ⟨s', kvs', ?_⟩
        rw [et, ← List.append_assoc]
        exact d'
      · rintro σ Hb ⟨kvs, v1, rfl, sb, db⟩
        walk_at "go"
        refine h D Hb sb hD fun H'' k => gr_of (S := fun b => H b ≠ none ∨ b = D) (kvs := kvs) ⟨k _ _ db.1 (fun z => z hD) (fun _ z => nomatch z), db.2.1, fun x => ?_⟩
        have q := db.2.2 x
        cases eg : getG gAll x with
        | none =>
          rw [show g0 ++ g1 ++ g2 ++ g3 ++ g4 ++ g5 ++ ([("great", g6)] : Gr) ++ ([("deed", g7)] : Gr) ++ g8 ++ g9.take 59 = gAll from rfl, eg] at q
          exact q
        | some ws' =>
          rw [show g0 ++ g1 ++ g2 ++ g3 ++ g4 ++ g5 ++ ([("great", g6)] : Gr) ++ ([("deed", g7)] : Gr) ++ g8 ++ g9.take 59 = gAll from rfl, eg] at q
          obtain ⟨u, a, b⟩ := q
          exact ⟨u, a, At.kpT (k.mono fun b z => .inl z) b⟩
end
end TX
/-! part V12 -/
/-! What is kept where lambdas are made; a reading tried by the law. -/
namespace TX
open PySem PySem.Spec PyProof.Rows L2 NT RW4
theorem Src.kpT {H H' : Hp} {d c : Addr} (S : Src H d c) (k : KpT No H H') : Src H' d c := by
  obtain ⟨s, hs, hl⟩ := S
  exact ⟨s, ⟨k _ _ hs.dd id (fun _ z => nomatch z), k _ _ hs.cc id (fun _ z => nomatch z)⟩, hl⟩
theorem GrAt.kpT {S : Addr → Prop} {H H' : Hp} {g : Addr} (h : ∀ H2, Kp S H H2 → GrAt H2 g) (k : KpT No H H') : GrAt H' g := by
  obtain ⟨kvs, e, h1, h2⟩ := h H fun _ _ z _ => z
  refine ⟨kvs, k _ _ e id (fun _ z => nomatch z), fun x ws hx => ?_, h2⟩
  obtain ⟨v, a, b⟩ := h1 x ws hx
  exact ⟨v, a, At.kpT k b⟩
theorem GrAt.kT {H H' : Hp} {g : Addr} (h : GrAt H g) (k : KpT No H H') : GrAt H' g := by
  obtain ⟨kvs, e, h1, h2⟩ := h
  refine ⟨kvs, k _ _ e id (fun _ z => nomatch z), fun x ws hx => ?_, h2⟩
  obtain ⟨v, a, b⟩ := h1 x ws hx
  exact ⟨v, a, At.kpT k b⟩
/-- a def by its body, no repr under way, its code object known -/
theorem okGT {P : Program} {w : World} {K : PySem.W.Frag} {mg : Str → Option Value} {base : Heap} {x qual : Str} {st : Stmt} {f c : Addr} {fd : FuncData} {N ps : List Str} {k : Nat} {sp : Sp} (F : Fun K x qual st f fd) (hcd : fd.code = .ref c) (S : FnScope N ps (defScope st))
    (len : ∀ vs H Q E, sp vs H Q E → vs.length = ps.length)
    (hbody : ∀ (A : Around) (outer : List Env) (s : Shared) (H : Hp) (vs : List V) (Q : VK) (E : XK), (A.deeper (envOfC qual (defScope st) s.heap.objs.size f (.ref c))).guards = some [] → Room k (A.deeper (envOfC qual (defScope st) s.heap.objs.size f (.ref c))) → sp vs H Q E →
      ∃ t, PSs (cxOf CX0 P w K mg base N qual (defScope st) f (.ref c) A outer s H E).nox (defBody st) t ∧ t { nx := fun _ H' => Q .non H', rt := Q } (start N vs) H) : FnG P w K mg base CX0 (k + 1) f fd ps sp := by
  obtain ⟨oc, od, kV, doc, pm, an, cdv, ct, osl, rfl, lk, hcc⟩ := F.ex
  replace hcd : cdv = .ref c := hcd
  subst hcd
  refine ⟨len, fun A outer s H args us vs Q E hg hr e0 hb r hsp => ?_⟩
  have KX : K.In s.heap := e0.mod.kin.keeps fun b o e => (e0.bs b o e).1
  have lim : s.heap.NoLimit := e0.mod.nolimit.keeps fun b o e => (e0.bs b o e).1
  have pk : ∀ y ∈ ps.zip us, (defScope st).names.lookup y.1 = some .local ∨ ((defScope st).names.lookup y.1 = some .cell ∧ ((cellsFrom (s.heap.objs.size + 1) (defScope st).names []).lookup y.1).isSome = true) := by
    rintro ⟨n, v⟩ hy
    rcases S.par n (List.of_mem_zip hy).1 with z | z
    · exact .inl z
    · exact .inr ⟨z, PySem.W.cellsFrom_some _ _ _ (.inl z)⟩
  refine codeAny_call_function hr.depth (KX _ _ lk) rfl S.co S.gen rfl (PySem.W.codeRec_of KX hcc) (hb _ _ _ _ (wpAny_newFunctionEnv_cells S.kind pk fun env he s1 y => ?_))
  subst he
  refine ⟨lim.keeps y.toInCall.keep, codeAny_func ?_⟩
  obtain ⟨t, ht, hq⟩ := hbody A outer s H vs Q E hg (hr.deeper _) hsp
  have I : Inv (cxOf CX0 P w K mg base N qual (defScope st) f (.ref c) A outer s H E) [] (start N vs) H s1 := inv_start S hr.hd e0 (len _ _ _ _ hsp) r y
  refine wpAny_mono (ht.nox.run [] s1 (start N vs) H _ I hq) (fun fl s' hs => ?_) fun e s' hs => hs
  match fl, hs with
  | .ret u, ⟨v, σ', H', J, rv, q⟩ => exact ⟨v, H', J.os, J.bare, J.base, J.hok, rv, q⟩
  | .next, ⟨σ', H', J, q⟩ => exact ⟨V.non, H', J.os, J.bare, J.base, J.hok, rfl, q⟩
  | .brk, ⟨_, _, _, q⟩ => exact q.elim
  | .cont, ⟨_, _, _, q⟩ => exact q.elim
/-- isinstance(e, c), e the exception that the suite holds, with a dict of its own -/
def rIsD (K : PySem.W.Frag) (cls : Value) (d : Option Addr) (a : Addr) : List V → Hp → VK → Prop := fun xs H Q => ∃ (C : Addr) (c : V) (cv : Value) (b : Bool) (dd : Addr) (fs : List (Str × V)), cls = .ref C ∧ d = some dd ∧ H dd = some (.xd fs) ∧ xs = [.ref a, c] ∧ ExcC K C ∧ (∀ u, RelV c u → u = cv) ∧ PySem.W.kitOne K (.ref C) cv = some b ∧ Q (.bl b) H
theorem call_isD {X : Cx} {a : Addr} {cls : Value} {d : Option Addr} {oe : Obj} {pn : List (Addr × Obj)} (hz : Zc cls d oe) (hf : ∃ vs, oe.data = .fields vs) : CallR (X.suite a ((a, oe) :: pn)) (.builtin "isinstance") (rIsD X.K cls d a) := by
  intro pins s σ H xs us Q I r h
  obtain ⟨C, c, cv, b, dd, fs, rfl, rfl, ea, rfl, T, hcv, e, q⟩ := h
  cases r with
  | cons rx rr =>
    cases rr with
    | cons rt rr =>
      cases rr
      cases rx
      have ec := hcv _ rt
      subst ec
      obtain ⟨hget, _⟩ := I.pin (a, oe) (List.mem_append.mpr (.inl List.mem_cons_self))
      obtain ⟨vs, hv⟩ := hf
      have hx : ObjOk X.prog X.w H s.heap dd (.xd fs) := I.hok dd _ ea
      obtain ⟨mA, hns, hr⟩ := hx
      obtain ⟨od, ho, hl⟩ := lookIn_ns hns
      have J : PySem.W.InstAt s.heap a oe C (some od) := ⟨hget, hz.1, by unfold PySem.W.notCls; rw [hv] <;> rfl, by rw [hz.2]; exact ho⟩
      obtain ⟨cd, hcd, _⟩ := PySem.W.any_some T.hd
      exact PySem.W.kia_one (PySem.W.kitx_exc (by rw [hcd]; rfl) T.hg T.hk T.hs T.ha T.hn T.ht T.hm) I.kIn J e (fun z => nomatch z) fun tk => ⟨.bl b, H, I.kept (t' := tk) fun _ _ z => z, rfl, q⟩
theorem pass0x {X : Cx} : Passes (L2.CX X.prog X.w) X E0 := fun _ _ _ _ _ _ _ h => by
  obtain ⟨_, _, _, _, _, _, _, _, _, _, _, _, z⟩ := h
  exact z.elim
/-- the law's tables: where, the name of what is made there -/
structure Tb3 (base : Heap) (mg : Str → Option Value) (TT : List (Addr × Str)) (c P : Addr) (q : Str) : Prop where
  tb : LamX.TabB base mg c P
  mem : (P, q) ∈ TT
  uq : ∀ p ∈ TT, p.1 = P → p.2 = q
/-- an exception that tells a place -/
def Ech (C : Addr) (Q : VK) : XK := fun cls d H' => ∃ (dd : Addr) (n : Int), cls = .ref C ∧ d = some dd ∧ H' dd = some (.xd [(("place" : Str), .int n)]) ∧ ∀ H2, Same H' H2 → Q (.int n) H2
def TTR (C : Addr) : (XK → Hp → VK → Prop) → Hp → VK → Prop := fun tl H Q => tl (Ech C Q) H fun v H1 => 1 ≤ sizeLine ∧ ∀ p, H1 p = none → Q (.ref p) (upd H1 p (.lst [v]))
theorem bad_ech {C : Addr} {Q : VK} {H : Hp} {n : Int} (h : ∀ H', Same H H' → Q (.int n) H') : Bad C (Ech C Q) H n := fun d H' sm hd ed => ⟨d, n, rfl, rfl, ed, fun H2 s2 => h H2 (sm.trans s2)⟩
local macro_rules | `(tactic| walk_at "go") => `(tactic| simp only [L2.start, List.map_cons, List.map_nil, List.length_cons, List.length_nil, Nat.reduceSub, Nat.reduceAdd, List.replicate_succ, List.replicate_zero, List.cons_append, List.nil_append, List.append_nil,
  tSeq, tNext, tRet, tIfS, tTest, tAnd, tOr, tNot, tCB, tCall, tCons, tNil, tVar, tC, tOp, tUn, tAsg, gName, rI0, rI, CMul, CDiv, tDGet, sDPut, tBM0, tBM, tTup, tLst, tPar, tPar3, gTup, gNil, gCons, tIf, tAug, tRevL, tDisp, tPairs, tYes, wipe, tDrop, L2.tSl, tNotV, tAndV, tOrV, tB, rSlS, ipI, tNoPart, NdefX.startF, tOst, tMkO, rIxL, rIxT, rIxS, rAppend, rExtend, rPop, rSlL, rSetL, tPart, rEq, rNe, tFmt, tJn, tJs, tFi, tFs, gLst, tThen, tIf, rS, rRep, tThenZ, rIS, cRi, rSortedP, rLn, rPopAt, tCallS, ↓reduceIte, L2.gSub, ↓reduceIte,
  List.getElem?_cons_zero, List.getElem?_cons_succ, List.set_cons_zero, List.set_cons_succ, Option.some.injEq, V.int.injEq, V.str.injEq, V.ref.injEq, V.bl.injEq, exists_eq_left, exists_eq_left', exists_eq_right, exists_eq_right', exists_eq', true_and, and_true, decide_eq_true_eq, List.cons.injEq, reduceCtorEq, false_and, false_or, or_false, exists_false, exists_and_left, exists_and_right, and_assoc])
section
variable {X : Cx}
theorem rb_gives {C R fI cc : Addr} (T : Txt X.w X.K X.mg) (B : BadC X.K X.mg C R fI cc) {g : Addr} {cdg : Value} {q : Str} : LamX.GivesTo X n_L_read_by "_law_read_by" (defScope s_L_read_by) g cdg (defBody s_L_read_by) "call" q (TTR C) := by
  intro f c' s H Q tl act hc h
  have nd := sc_L_read_by.nd
  refine ⟨_, pss_one (ps_try_as (X := (cxOf C8.CX0 X.prog X.w X.K X.mg X.base n_L_read_by "_law_read_by" (defScope s_L_read_by) g cdg X.A X.stack s H C8.E0).nox) (i := 1) (Wout := fun _ _ _ _ => False)
      (tb := fun W D σ H => ∃ E : XK, (∀ cls d σ' H', E cls d H' → σ'.length = 2 → W cls d σ' H') ∧ σ[0]? = some (some (.ref f)) ∧ H c' = some (LamX.CodeO c' q) ∧ tl E H (fun v H1 => 1 ≤ sizeLine ∧ ∀ p, H1 p = none → D.rt (.ref p) (upd H1 p (.lst [v]))))
      rfl rfl nd rfl rfl ⟨rfl, by decide, .inl B.gC⟩ takes0 (fun W pn xe tk _ => ?_)
      (fun a oe cls d pn hz hf => pss_one (ps_ret (pe_ifExp (pt_val (pe_callB (call_isD hz hf) (by rfl) T.z_isinstance (by decide +kernel) (pa_cons (pv 1) (pa_cons (pe_glob (v := .ref R) rfl B.gR rfl) pa_nil)))) (pe_xf B.xf B.noP hz hf (pv 1)) pe_str)))), ?_⟩
  · refine ⟨fun pins s' σ H' D I h' => ?_⟩
    obtain ⟨E, hW, h1, h2, h3⟩ := h'
    have tk2 : Takes _ (fun cls d σ' H' => σ'.length = 2 → W cls d σ' H') := fun u s' ⟨a, B, sI, pins, σ, H, cls, d, e, I, nb, up, sky, na, os, ag, wv⟩ => tk u s' ⟨a, B, sI, pins, σ, H, cls, d, e, I, nb, up, sky, na, os, ag, wv I.len⟩
    refine (pss_one (ps_ret (pe_lst (pa_cons (act _ pn xe E _ _ tk2 hW) pa_nil)))).run pins s' σ H' D I ⟨h1, h2, h3⟩
  · refine ⟨Ech C Q, ?_, rfl, hc, h⟩
    rintro cls d σ' H' ⟨dd, n, rfl, rfl, ed, hq⟩ hl
    obtain ⟨x0, x1, rfl⟩ : ∃ x0 x1, σ' = [x0, x1] := by
      match σ', hl with
      | [a, b], _ => exact ⟨a, b, rfl⟩
    refine ⟨true, B.te, fun _ a ha => ?_, fun z => nomatch z⟩
    walk_at "go"
    refine ⟨C, .ref R, .ref R, true, dd, _, rfl, rfl, ed, rfl, B.ex, fun u hu => hu, B.kit, true, rfl, iteT ?_⟩
    exact ⟨_, rfl, rfl, rfl, dd, _, .int n, rfl, ed, rfl, hq _ (fun _ _ z => z)⟩
end
end TX
/-! part V13 -/
/-! Near texts are read as the machine goes. -/
namespace TX
open PySem PySem.Spec PyProof.Rows L2 NT RW4
local macro_rules | `(tactic| walk_at "go") => `(tactic| simp only [L2.start, List.map_cons, List.map_nil, List.length_cons, List.length_nil, Nat.reduceSub, Nat.reduceAdd, List.replicate_succ, List.replicate_zero, List.cons_append, List.nil_append, List.append_nil,
  tSeq, tNext, tRet, tIfS, tTest, tAnd, tOr, tNot, tCB, tCall, tCons, tNil, tVar, tC, tOp, tUn, tAsg, gName, rI0, rI, CMul, CDiv, tDGet, sDPut, tBM0, tBM, tTup, tLst, tPar, tPar3, gTup, gNil, gCons, tIf, tAug, tRevL, tDisp, tPairs, tYes, wipe, tDrop, L2.tSl, tNotV, tAndV, tOrV, tB, rSlS, ipI, tNoPart, NdefX.startF, tOst, tMkO, rIxL, rIxT, rIxS, rAppend, rExtend, rPop, rSlL, rSetL, tPart, rEq, rNe, tFmt, tJn, tJs, tFi, tFs, LamX.tLam, TTR, gLst, tThen, tIf, rS, rRep, tThenZ, rIS, cRi, rSortedP, rLn, rPopAt, tCallS, ↓reduceIte, L2.gSub, ↓reduceIte,
  List.getElem?_cons_zero, List.getElem?_cons_succ, List.set_cons_zero, List.set_cons_succ, Option.some.injEq, V.int.injEq, V.str.injEq, V.ref.injEq, V.bl.injEq, exists_eq_left, exists_eq_left', exists_eq_right, exists_eq_right', exists_eq', true_and, and_true, decide_eq_true_eq, List.cons.injEq, reduceCtorEq, false_and, false_or, or_false, exists_false, exists_and_left, exists_and_right, and_assoc])
def cRd : List V → Hp → VK → Prop := fun xs H Q => ∃ v d, xs = [v] ∧ At No H d v ∧ Rp d ∧ Q (.str d.shown) H
theorem call_rd {X : Cx} (hg : X.A.guards = some []) (hu : X.A.units + 64 < cLine) : CallR X (.builtin "repr") cRd := call_repr_data hg hu
theorem tabs_kp {TT : List (Addr × Str)} {H H' : Hp} {d c : Addr} (t : LamX.Tabs TT H) (S : Src H d c) (k : Kp (DC d c) H H') : LamX.Tabs TT H' := fun p hp => by
  obtain ⟨ps, h1, h2, h3⟩ := t p hp
  obtain ⟨s, hs, _⟩ := S
  have off : ∀ b o, H b = some o → (∀ kvs, o ≠ .dK kvs) → (∀ xs, o ≠ .lst xs) → ¬ DC d c b := fun b o e n1 n2 z => by
    rcases z with z | z
    · rw [z, hs.dd] at e
      exact n1 _ (Option.some.inj e).symm
    · rw [z, hs.cc] at e
      exact n2 _ (Option.some.inj e).symm
  refine ⟨ps, k _ _ h1 (off _ _ h1 (fun _ z => nomatch z) (fun _ z => nomatch z)), h2, fun pos cv hc => ?_⟩
  obtain ⟨c2, e1, e2⟩ := h3 pos cv hc
  exact ⟨c2, e1, k _ _ e2 (off _ _ e2 (fun _ z => nomatch z) (fun _ z => nomatch z))⟩
theorem tabs_same {TT : List (Addr × Str)} {H H' : Hp} (t : LamX.Tabs TT H) (k : Same H H') : LamX.Tabs TT H' := t.ext k
theorem farM_le {g : Gr} {n : Nat} : ∀ {s : List Nat} {o : List Stk} {j : Nat} {b : Bool}, farM g n o s = some (j, b) → j ≤ s.length := by
  intro s
  induction s with
  | nil =>
    intro o j b h
    unfold farM at h
    cases e : clo g n o [] with
    | none =>
      rw [e] at h
      cases h
    | some rd =>
      rw [e] at h
      cases h
      exact Nat.le_refl _
  | cons c s ih =>
    intro o j b h
    unfold farM at h
    cases e : clo g n o [] with
    | none =>
      rw [e] at h
      cases h
    | some rd =>
      rw [e] at h
      dsimp only at h
      split at h
      · cases h
        exact Nat.zero_le _
      · obtain ⟨⟨j2, b2⟩, e2, e3⟩ := Option.map_eq_some_iff.mp h
        cases e3
        exact Nat.succ_le_succ (ih e2)
theorem rp_nat {j n : Nat} (h : j ≤ n) (hn : n ≤ 1000000 := by decide) : Rp (.int ((j : Nat) : Int)) := rp_int (by
  rw [Int.natAbs_natCast]
  exact Nat.lt_of_le_of_lt (Nat.le_trans h hn) (by decide))
theorem S_empty {y : List Nat} (h : y ≠ []) : (!decide (SX.S y = Str.ofString "")) = true := by
  rw [decide_eq_false]
  · rfl
  · intro z
    have z1 : SX.S y = SX.S [] := z.trans (by decide +kernel)
    have z2 : (y.toArray : Array Nat) = [].toArray := congrArg Str.cps z1
    exact h (by simpa using z2)
def forB : List Stmt → List Stmt
  | (.For _ _ b _ _) :: _ => b
  | _ => []
/-- of a def's own list or tuple of data -/
theorem lst_one {S : Addr → Prop} {H : Hp} {d : PyData} {v : V} (h : At S H (.list [d]) v) : ∃ p u, v = .ref p ∧ H p = some (.lst [u]) ∧ At S H d u := by
  obtain ⟨p, xs, rfl, _, ep, hxs⟩ := h.lst
  obtain ⟨u, r, rfl, a, hr⟩ := hxs.cons
  obtain rfl := hr.nil
  exact ⟨p, u, rfl, ep, a⟩
section
variable {X : Cx}
/-- the law's try of a reading -/
theorem pe_rb {C R fI cc c P : Addr} {TT : List (Addr × Str)} {k : Nat} {params : Arguments} {body : Expr} {scope : Scope} {t : XK → TE} {p lpos pos : Pos} (T : Txt X.w X.K X.mg) (B : BadC X.K X.mg C R fI cc) (Z : Tb3 X.base X.mg TT c P (X.env.qual ++ "<lambda>")) (hcode : X.env.code = .ref c) (hr : Room (k + 2) X.A)
    (hbody : ∀ (A : Around) (outer : List Env) (s : Shared) (H : Hp) (E : XK) (f c' : Addr), Room k (A.deeper (LamX.lamEnv X scope s.heap.objs.size f c')) → PE (LamX.lamCx X A outer s H E scope f c') body (t E))
    (L : LamX.lamSB X.env.scope scope = true := by rfl) (hg : Gl X "_law_read_by" := by rfl) (hdef : defaultsOf params X.env = ([], []) := by rfl)
    (hbind : ∀ (q : Str) (cl : List (Str × Addr)) (pm cv ctv : Value), bindArgs (PySem.W.kla_fn "<lambda>" q params body scope cl pm cv ctv) ⟨[], []⟩ = pure [] := by intros; rfl) :
    PE X (.Call (.Name "_law_read_by" p) [.Lambda params body scope lpos] [] pos) (LamX.tLam TT (TTR C) t) := by
  obtain ⟨g, fd, D⟩ := T.d_L_read_by
  have hb := D.b
  have hk := D.F.kp
  obtain ⟨oc, od, kV, doc, pm, an, cdv, ct, osl, e, lk, hcg⟩ := D.F.ex
  rw [e] at lk hb
  exact LamX.pe_lamcall hg D.g hk lk hcg hb sc_L_read_by rfl (.inl rfl) (rb_gives T B) Z.tb hcode Z.mem Z.uq hr (LamX.lamS_by L) hdef hbind hbody
end
section
variable {w : World} {K : PySem.W.Frag} {mg : Str → Option Value} {base : Heap}
def spNR (TT : List (Addr × Str)) : Sp := fun vs H Q E => ∃ (d c g : Addr) (X : List Nat), vs = [.ref d, .ref g, .str (SX.S X)] ∧ Src H d c ∧ (∀ H', KpT (DC d c) H H' → GrAt H' g) ∧ LamX.Tabs TT H ∧ X.length ≤ 5000 ∧
  ∀ H', KpT (DC d c) H H' → Src H' d c → LamX.Tabs TT H' → Q (.bl true) H'
theorem ok_nearR (T : Txt w K mg) {C R fI cc : Addr} (B : BadC K mg C R fI cc) {c P : Addr} {TT : List (Addr × Str)} (Z : Tb3 base mg TT c P "_law_near_right.<locals>.<lambda>") (hD : ∃ f fd, DF K mg "_law_near_right" s_L_near_right ["source", "rules", "text"] f fd ∧ fd.code = .ref c) :
    OkG PW w K mg base CX0 13 "_law_near_right" ["source", "rules", "text"] (spNR TT) := by
  obtain ⟨f, fd, D, hcd⟩ := hD
  refine ⟨f, fd, okGT D.F hcd sc_L_near_right (fun vs H Q E h => ?_) (fun A outer s H vs Q E hgd hr h => ?_), D.g, D.F.kp, D.b⟩
  · obtain ⟨d, c, g, X, rfl, _⟩ := h
    rfl
  · obtain ⟨d, sc, g, X, rfl, S, G, hT, hX, h⟩ := h
    have nd := sc_L_near_right.nd
    have hu := hu_of hr
    obtain ⟨tt, hT2, hQ⟩ : ∃ tt, PSs (cxOf CX0 PW w K mg base n_L_near_right "_law_near_right" (defScope s_L_near_right) f (.ref c) A outer s H E).nox ((forB (defBody s_L_near_right)).drop 4) tt ∧
        ∀ (D : Ends) (y : List Nat) (v3 v4 v5 : Option V) (H6 : Hp), D.rt = Q → y.length ≤ 5001 → (∀ H', KpT No H6 H' → GrAt H' g) → LamX.Tabs TT H6 → (∀ v3 v4 v5 H', KpT No H6 H' → LamX.Tabs TT H' → D.nx [some (.ref d), some (.ref g), some (.str (SX.S X)), v3, v4, v5, some (vS y)] H') →
          tt D [some (.ref d), some (.ref g), some (.str (SX.S X)), v3, v4, v5, some (vS y)] H6 := by
      refine ⟨_, (pss_cons (ps_asg (pe_d (ok_far T) hr pass0 (pa_cons (pv 1) (pa_cons (pv 6) (pa_cons pe_str pa_nil)))) (pg_tup (by rfl) (pgs_cons (pg_name (i := 3) nd rfl (.inl rfl)) (pgs_cons (pg_name (i := 4) nd rfl (.inl rfl)) pgs_nil))))
        (pss_cons (ps_set (i := 5) nd rfl (.inl rfl) (pe_rb (k := 10) T B Z rfl hr (fun A outer s H E f c' hr2 => pe_d (ok_rdeed T B) hr2 (passes_call (takes_of rfl rfl rfl rfl) (fun _ _ _ _ z => z)) (pa_cons (pv 6) pa_nil))))
        (pss_cons (ps_if (PW.pt (pw_or (pt_cmpR op_ne (pe_callB call_isi (by rfl) T.z_isinstance (by decide +kernel) (pa_cons (pv 5) (pa_cons (pe_bltn (v := .ty "list") (by rfl) T.z_list (by decide +kernel) rfl) pa_nil))) (pv 4) (nomark _))
            (pw_or1 (PW.pt (pw_and (pt_not (pt_val (pv 4))) (pw_and1 (pt_cmpR op_ne (pe_callB (call_rd hgd hr.units) (by rfl) T.z_repr (by decide +kernel) (pa_cons (pv 5) pa_nil)) (pe_callB (call_rd hgd hr.units) (by rfl) T.z_repr (by decide +kernel) (pa_cons (pv 3) pa_nil)) (nomark _)))))))) (pss_one (ps_ret pe_bl)) pss_nil)
        (pss_one (ps_if (PW.pt (pw_and (pt_val (pv 4)) (pw_and1 (pt_cmpR op_ne (pe_d (ok_dtext T) hr pass0 (pa_cons (pe_ix ix_list (pv 5) pe_int (fun _ _ => rfl)) pa_nil)) (pv 6) (nomark _))))) (pss_one (ps_ret pe_bl)) pss_nil))))), fun D y v3 v4 v5 H6 hrt hy kG T6 hn => ?_⟩
      obtain ⟨Dnx, Drt, Dbk, Dct⟩ := D
      replace hrt : Drt = Q := hrt
      subst hrt
      have fo := far_one y
      have hsy : symB "deed" = true := by decide +kernel
      walk_at "go"
      cases ei : oneS y with
      | error j0 =>
        rw [ei] at fo
        dsimp only at fo
        have rpj : Rp (.int ((j0 : Nat) : Int)) := rp_nat (Nat.le_trans (farM_le fo) hy)
        refine ⟨g, y, "deed", j0, false, rfl, kG _ (.same (fun _ _ z => z)), hsy, by omega, fo, fun p H7 s7 hp ep => ?_⟩
        refine ⟨p, rfl, _, .inl (.inl ep), rfl, _, _, rfl, _, _, rfl, rfl, tabs_same T6 s7, fun H8 e8 T8 => ?_⟩
        refine ⟨_, rfl, .inr ⟨y, rfl, by omega, fun d' e' => ?_, fun j e' => ?_⟩⟩
        · rw [ei] at e'
          cases e'
        · rw [ei] at e'
          cases e'
          refine bad_ech fun H9 s9 => ?_
          refine isi_int (b := false) (by decide +kernel) ⟨rfl, ?_⟩
          rw [if_neg (by simp)]
          refine ⟨false, rfl, ?_⟩
          rw [if_pos (by decide)]
          refine ⟨_, _, rfl, at_int, rpj, _, _, rfl, at_int, rpj, rfl, ?_⟩
          rw [if_neg (by simp)]
          refine ⟨false, rfl, ?_⟩
          rw [if_neg (by decide)]
          exact hn _ _ _ _ (((KpT.same s7).trans (.ext e8)).trans (.same s9)) (tabs_same T8 s9)
      | ok d0 =>
        rw [ei] at fo
        dsimp only at fo
        have hb := one_back ei
        refine ⟨g, y, "deed", y.length, true, rfl, kG _ (.same (fun _ _ z => z)), hsy, by omega, fo, fun p H7 s7 hp ep => ?_⟩
        refine ⟨p, rfl, _, .inl (.inl ep), rfl, _, _, rfl, _, _, rfl, rfl, tabs_same T6 s7, fun H8 e8 T8 => ?_⟩
        refine ⟨_, rfl, .inr ⟨y, rfl, by omega, fun d' e' hok a H9 s9 ha => ?_, fun j e' => ?_⟩⟩
        · rw [ei] at e'
          cases e'
          refine ⟨by decide, fun p2 hp2 => ?_⟩
          have sp2 : Same H9 (upd H9 p2 (.lst [a])) := same_new hp2
          refine ⟨_, .ty "list", .type "list", .type "list", true, rfl, .ty _, .base (.lst upd_same), kit_ty (by decide +kernel), rfl, ?_⟩
          rw [if_neg (by simp)]
          refine ⟨true, rfl, ?_⟩
          rw [if_neg (by decide)]
          refine ⟨true, rfl, ?_⟩
          rw [if_pos rfl]
          refine ⟨_, .inl (.inl upd_same), a, rfl, a, d0, rfl, (ha.kp (Kp.of_same sp2)).no, hok, fun H10 s10 => ⟨rfl, ?_⟩⟩
          rw [hb, if_neg (by simp)]
          have sE := (s9.trans sp2).trans s10
          exact hn _ _ _ _ (((KpT.same s7).trans (.ext e8)).trans (.same sE)) (tabs_same T8 sE)
        · rw [ei] at e'
          cases e'
    refine ⟨_, pss_cons (ps_for PassesOwn.never rfl (pi_list (pe_d (ok_near T) hr pass0 (pa_cons (pv 0) (pa_cons (pv 2) (pa_cons pe_str pa_nil))))) (pg_name (i := 6) nd rfl (.inr rfl))
        (pss_cons (ps_asg (pe_d (ok_far T) hr pass0 (pa_cons (pv 1) (pa_cons (pv 6) (pa_cons pe_str pa_nil)))) (pg_tup (by rfl) (pgs_cons (pg_name (i := 3) nd rfl (.inl rfl)) (pgs_cons (pg_name (i := 4) nd rfl (.inl rfl)) pgs_nil))))
        (pss_cons (ps_set (i := 5) nd rfl (.inl rfl) (pe_rb (k := 10) T B Z rfl hr (fun A outer s H E f c' hr2 => pe_d (ok_rlog T B) hr2 (passes_call (takes_of rfl rfl rfl rfl) (fun _ _ _ _ z => z)) (pa_cons (pv 6) pa_nil))))
        (pss_cons (ps_if (PW.pt (pw_and (pt_cmpR op_ne (pv 6) pe_str (nomark _)) (pw_and (pt_not (pt_val (pv 4))) (pw_and1 (pt_cmpR op_ne (pe_callB (call_rd hgd hr.units) (by rfl) T.z_repr (by decide +kernel) (pa_cons (pv 5) pa_nil)) (pe_callB (call_rd hgd hr.units) (by rfl) T.z_repr (by decide +kernel) (pa_cons (pv 3) pa_nil)) (nomark _)))))) (pss_one (ps_ret pe_bl)) pss_nil)
        (pss_cons (ps_if (PW.pt (pw_and (pt_cmpR op_ne (pv 6) pe_str (nomark _)) (pw_and (pt_val (pv 4)) (pw_and1 (PW.pt (pw_or (pt_not (pt_val (pe_callB call_isi (by rfl) T.z_isinstance (by decide +kernel) (pa_cons (pv 5) (pa_cons (pe_bltn (v := .ty "list") (by rfl) T.z_list (by decide +kernel) rfl) pa_nil)))))
            (pw_or1 (pt_cmpR op_ne (pe_d (ok_llines T) hr pass0 (pa_cons (pe_ix ix_list (pv 5) pe_int (fun _ _ => rfl)) pa_nil)) (pv 6) (nomark _))))))))) (pss_one (ps_ret pe_bl)) pss_nil)
        hT2)))))
      (pss_one (ps_ret pe_bl)), ?_⟩
    refine ⟨_, rfl, _, rfl, d, sc, X, [32, 44, 45, 10, 48, 49, 50, 57, 97, 101, 107, 108, 110, 111, 112, 115, 116, 119, 9, 43, 95, 83], ?_, S, by omega, by decide, by decide, fun D ys H5 k5 S5 hD eD hyl hys => ?_⟩
    · rw [show (Str.ofString " ,-\n0129aeklnopstw\t+_S") = SX.S [32, 44, 45, 10, 48, 49, 50, 57, 97, 101, 107, 108, 110, 111, 112, 115, 116, 119, 9, 43, 95, 83] by decide +kernel]
      rfl
    have hT5 := tabs_kp hT S k5
    refine ⟨D, rfl, ⟨_, .inl (.inl eD)⟩, for_it walk_list (fun n σ H' => ∃ (v3 v4 v5 v6 : Option V), σ = [some (.ref d), some (.ref g), some (.str (SX.S X)), v3, v4, v5, v6] ∧ KpT No H5 H' ∧ LamX.Tabs TT H') ⟨none, none, none, none, rfl, .same (fun _ _ z => z), hT5⟩ (fun n σ H' _ z => by
        obtain ⟨_, _, _, _, _, z, _⟩ := z
        exact .inl (.inl (z.lst id eD))) ?_ ?_⟩
    · rintro n xv σ Ha Hb hn ⟨v3, v4, v5, v6, rfl, sa, Ta⟩ ⟨rfl, hx⟩
      obtain ⟨y, hy, rfl⟩ := map_get hx
      have hyl2 := hys y (List.mem_of_getElem? hy)
      have kG : ∀ H', KpT No Hb H' → GrAt H' g := fun H' z => G H' (((KpT.of k5).trans (sa.mono fun _ z => z.elim)).trans (z.mono fun _ z => z.elim))
      have fl := far_log y
      have hsy : symB "log" = true := by decide +kernel
      walk_at "go"
      by_cases hy0 : y = []
      · have fl0 : farM gD 40 [[("log" : Str)]] y = some (0, false) := by rw [fl, hy0]; rfl
        have hem : (!decide (SX.S y = Str.ofString "")) = false := by rw [hy0]; decide +kernel
        refine ⟨g, y, "log", 0, false, rfl, kG _ (.same (fun _ _ z => z)), hsy, by omega, fl0, fun p H7 s7 hp ep => ?_⟩
        refine ⟨p, rfl, _, .inl (.inl ep), rfl, _, _, rfl, _, _, rfl, rfl, tabs_same Ta s7, fun H8 e8 T8 => ?_⟩
        refine ⟨_, rfl, .inr ⟨y, rfl, by omega, fun l e' _ _ a H9 s9 ha => ?_, fun j hne => absurd hy0 hne⟩⟩
        refine ⟨by decide, fun p2 hp2 => ⟨rfl, ?_⟩⟩
        have sp2 : Same H9 (upd H9 p2 (.lst [a])) := same_new hp2
        rw [hem, if_neg (by decide)]
        refine ⟨rfl, ?_⟩
        rw [if_neg (by decide)]
        have kk : KpT No Hb (upd H9 p2 (.lst [a])) := ((KpT.same s7).trans (.ext e8)).trans (.same (s9.trans sp2))
        exact hQ _ y _ _ _ _ rfl (by omega) (fun H' z => kG H' (kk.trans z)) (tabs_same T8 (s9.trans sp2)) fun v3 v4 v5 H' z TZ => ⟨⟨v3, v4, v5, _, rfl⟩, (sa.trans kk).trans z, TZ⟩
      · have hem := S_empty hy0
        cases ei : logS y with
        | error j0 =>
          rw [ei] at fl
          dsimp only at fl
          have rpj : Rp (.int ((j0 : Nat) : Int)) := rp_nat (Nat.le_trans (farM_le fl) (show y.length ≤ 5001 by omega))
          refine ⟨g, y, "log", j0, false, rfl, kG _ (.same (fun _ _ z => z)), hsy, by omega, fl, fun p H7 s7 hp ep => ?_⟩
          refine ⟨p, rfl, _, .inl (.inl ep), rfl, _, _, rfl, _, _, rfl, rfl, tabs_same Ta s7, fun H8 e8 T8 => ?_⟩
          refine ⟨_, rfl, .inr ⟨y, rfl, by omega, fun l e' => ?_, fun j hne e' => ?_⟩⟩
          · rw [if_neg hy0, ei] at e'
            cases e'
          · rw [ei] at e'
            cases e'
            refine bad_ech fun H9 s9 => ⟨rfl, ?_⟩
            rw [hem, if_pos rfl]
            refine ⟨false, rfl, ?_⟩
            rw [if_pos (by decide)]
            refine ⟨_, _, rfl, at_int, rpj, _, _, rfl, at_int, rpj, rfl, ?_⟩
            rw [if_neg (by simp)]
            refine ⟨rfl, ?_⟩
            rw [if_pos rfl]
            refine ⟨false, rfl, ?_⟩
            rw [if_neg (by decide)]
            have kk : KpT No Hb H9 := ((KpT.same s7).trans (.ext e8)).trans (.same s9)
            exact hQ _ y _ _ _ _ rfl (by omega) (fun H' z => kG H' (kk.trans z)) (tabs_same T8 s9) fun v3 v4 v5 H' z TZ => ⟨⟨v3, v4, v5, _, rfl⟩, (sa.trans kk).trans z, TZ⟩
        | ok l0 =>
          rw [ei] at fl
          dsimp only at fl
          have hb := log_back ei
          refine ⟨g, y, "log", y.length, true, rfl, kG _ (.same (fun _ _ z => z)), hsy, by omega, fl, fun p H7 s7 hp ep => ?_⟩
          refine ⟨p, rfl, _, .inl (.inl ep), rfl, _, _, rfl, _, _, rfl, rfl, tabs_same Ta s7, fun H8 e8 T8 => ?_⟩
          refine ⟨_, rfl, .inr ⟨y, rfl, by omega, fun l e' hok hll a H9 s9 ha => ?_, fun j hne e' => ?_⟩⟩
          · rw [if_neg hy0, ei] at e'
            cases e'
            refine ⟨by decide, fun p2 hp2 => ⟨rfl, ?_⟩⟩
            have sp2 : Same H9 (upd H9 p2 (.lst [a])) := same_new hp2
            rw [hem, if_pos rfl]
            refine ⟨true, rfl, ?_⟩
            rw [if_neg (by decide)]
            refine ⟨rfl, ?_⟩
            rw [if_pos rfl]
            refine ⟨true, rfl, ?_⟩
            rw [if_pos rfl]
            refine ⟨_, .ty "list", .type "list", .type "list", true, rfl, .ty _, .base (.lst upd_same), kit_ty (by decide +kernel), true, rfl, ?_⟩
            rw [if_neg (by decide)]
            refine ⟨_, .inl (.inl upd_same), a, rfl, a, l0, rfl, (ha.kp (Kp.of_same sp2)).no, by omega, hok, fun H10 s10 => ⟨rfl, ?_⟩⟩
            rw [hb, if_neg (by simp)]
            have sE := (s9.trans sp2).trans s10
            have kk : KpT No Hb H10 := ((KpT.same s7).trans (.ext e8)).trans (.same sE)
            exact hQ _ y _ _ _ _ rfl (by omega) (fun H' z => kG H' (kk.trans z)) (tabs_same T8 sE) fun v3 v4 v5 H' z TZ => ⟨⟨v3, v4, v5, _, rfl⟩, (sa.trans kk).trans z, TZ⟩
          · rw [ei] at e'
            cases e'
    · rintro σ Ha ⟨v3, v4, v5, v6, rfl, sa, Ta⟩
      walk_at "go"
      exact h Ha ((KpT.of k5).trans (sa.mono fun _ z => z.elim)) (S5.kpT sa) Ta
end
end TX
/-! part V14 -/
/-! Rooms moved, drawn deeds. -/
namespace TX
open PySem PySem.Spec PyProof.Rows L2 NT RW4
local macro_rules | `(tactic| walk_at "go") => `(tactic| simp only [L2.start, List.map_cons, List.map_nil, List.length_cons, List.length_nil, Nat.reduceSub, Nat.reduceAdd, List.replicate_succ, List.replicate_zero, List.cons_append, List.nil_append, List.append_nil,
  tSeq, tNext, tRet, tIfS, tTest, tAnd, tOr, tNot, tCB, tCall, tCons, tNil, tVar, tC, tOp, tUn, tAsg, gName, rI0, rI, CMul, CDiv, tDGet, sDPut, tBM0, tBM, tTup, tLst, tPar, tPar3, gTup, gNil, gCons, tIf, tAug, tRevL, tDisp, tPairs, tYes, wipe, tDrop, L2.tSl, tNotV, tAndV, tOrV, tB, rSlS, ipI, tNoPart, NdefX.startF, tOst, tMkO, rIxL, rIxT, rIxS, rAppend, rExtend, rPop, rSlL, rSetL, tPart, rEq, rNe, tFmt, tJn, tJs, tFi, tFs, gLst, tThen, tIf, rS, rRep, tThenZ, rIS, cRi, rSortedP, rLn, rPopAt, tCallS, ↓reduceIte, L2.gSub, ↓reduceIte,
  List.getElem?_cons_zero, List.getElem?_cons_succ, List.set_cons_zero, List.set_cons_succ, Option.some.injEq, V.int.injEq, V.str.injEq, V.ref.injEq, V.bl.injEq, exists_eq_left, exists_eq_left', exists_eq_right, exists_eq_right', exists_eq', true_and, and_true, decide_eq_true_eq, List.cons.injEq, reduceCtorEq, false_and, false_or, or_false, exists_false, exists_and_left, exists_and_right, and_assoc])
def rSlQ : V → Option Int → Option Int → Hp → VK → Prop := fun x lo hi H Q => ∃ (a : Addr) (xs : List V), x = .ref a ∧ H a = some (.tup xs) ∧ ∀ p H', Same H H' → H' p = some (.tup (cutV xs lo hi)) → Q (.ref p) H'
theorem sl_tupQ {X : Cx} : SlR X rSlQ := by
  intro pins s σ H x v vl vu lo hi sl Q I rx hs pl pu h
  obtain ⟨a, xs, rfl, ha, q⟩ := h
  refine sl_tupA pins s σ H _ v vl vu lo hi sl Q I rx hs pl pu ⟨a, xs, rfl, .inl (.inl ha), fun hw => q a H (fun _ _ z => z) ?_, fun _ p hp => q p _ (same_new hp) upd_same⟩
  rw [ha]
  unfold cutV
  rw [hw.1, hw.2, List.drop_zero, Nat.sub_zero, List.take_length]
section
variable {w : World} {K : PySem.W.Frag} {mg : Str → Option Value} {base : Heap}
def mvd (dx dy : Int) (cs : List (Int × Int)) : List (Int × Int) := cs.map fun c => (c.1 + dx, c.2 + dy)
def spMoved : Sp := fun vs H Q E => ∃ (p : Addr) (dx dy : Int) (cs : List (Int × Int)) (us : List V), vs = [.ref p, .int dx, .int dy] ∧ H p = some (.tup us) ∧ Cells H cs us ∧ cs.length ≤ 100 ∧
  ∀ q H' ws, Same H H' → H q = none → H' q = some (.tup ws) → Cells H' (mvd dx dy cs) ws → Q (.ref q) H'
theorem ok_moved (T : Txt w K mg) : Ok PW w K mg base CX0 1 "_law_moved" ["lot", "dx", "dy"] spMoved := by
  obtain ⟨f, fd, D⟩ := T.d_L_moved
  refine ⟨f, fd, D.F.ok sc_L_moved (fun vs H Q E h => ?_) (fun cdv A outer s H vs Q E hr h => ?_), D.g, D.F.kp, D.b⟩
  · obtain ⟨p, dx, dy, cs, us, rfl, _⟩ := h
    rfl
  · obtain ⟨p, dx, dy, cs, us, rfl, ep, hc, hl, h⟩ := h
    have nd := sc_L_moved.nd
    refine ⟨_, pss_one (ps_ret (pe_tupleOf (by rfl) T.z_tuple
      (pe_lc (own := [("x", 3), ("y", 4)]) (g := gTup K 2 (gCons (gName 3) (gCons (gName 4) gNil))) (tt := tYes) rfl nd (pi_tup (pv 0)) (blkOk_by (N := n_L_moved) (sc := defScope s_L_moved) (by decide +kernel))
        (fun _ _ _ _ _ => pg_tup (by rfl) (pgs_cons (pg_name (i := 3) nd rfl (.inl rfl)) (pgs_cons (pg_name (i := 4) nd rfl (.inl rfl)) pgs_nil))) (fun _ _ _ _ _ => pts_nil)
        (fun _ _ _ _ _ => by exact pe_tup (pa_cons (pe_op op_add (pv 3) (pv 1)) (pa_cons (pe_op op_add (pv 4) (pv 2)) pa_nil)))))), ?_⟩
    refine ⟨_, rfl, p, rfl, ⟨us, .inl (.inl ep)⟩, fun D hD => lc_it walk_tup (fun i H' => Same H H' ∧ ∃ ws, H' D = some (.lst ws) ∧ Cells H' (mvd dx dy (cs.take i)) ws) ⟨same_new hD, [], upd_same, .nil⟩ (fun i H' _ ⟨sm, _⟩ => .inl (.inl (sm _ _ ep))) ?_ ?_⟩
    · rintro i x H1 H2 hi ⟨sm, ws, eD, hw⟩ ⟨rfl, hx⟩
      obtain ⟨a, ha, t, rfl, et⟩ := hc.get hx
      have et2 := sm _ _ et
      walk_at "go"
      refine ⟨_, .inl (.inl et2), rfl, _, _, rfl, _, _, rfl, rfl, ?_⟩
      walk_at "go"
      refine ⟨by decide, fun q hq => ?_⟩
      have sq : Same H2 (upd H2 q (.tup [.int (a.1 + dx), .int (a.2 + dy)])) := same_new hq
      have eDq := sq _ _ eD
      refine ⟨_, eDq, ?_, fun b o hb => ?_, _, upd_same, ?_⟩
      · have := hw.length
        unfold mvd at this
        rw [List.length_map, List.length_take] at this
        exact small_lt (m := 100) (by omega) (by decide)
      · rw [upd_ne (ne_of_none hb hD)]
        exact sq _ _ (sm _ _ hb)
      · have e : mvd dx dy (cs.take (i + 1)) = mvd dx dy (cs.take i) ++ [(a.1 + dx, a.2 + dy)] := by
          unfold mvd
          exact take_snoc ha _
        rw [e]
        exact ((hw.tk (Tk2.same sq)).append (.cons ⟨q, rfl, upd_same⟩ .nil)).tk (Tk2.lst eDq)
    · rintro H1 ⟨sm, ws, eD, hw⟩
      rw [hc.length, List.take_length] at hw
      refine .inl ⟨D, ws, rfl, .inl (.inl eD), fun q hq => ?_⟩
      exact h q _ ws (sm.trans (same_new hq)) (sm.free hq) upd_same (hw.tk (Tk2.new hq))
theorem cells_shapedT (cs : List (Int × Int)) : SeqAt.shaped (.tuple (cs.map cD)) = true := cells_shaped cs
theorem cells_eqvT (cs : List (Int × Int)) : PyData.eqv (.tuple (cs.map cD)) (.tuple []) = decide (cs = []) := by
  cases cs with
  | nil => simp [PyData.eqv, PyData.eqvAll]
  | cons c cs => simp [PyData.eqv, PyData.eqvAll]
/-- bounds of cells -/
def Bd (cs : List (Int × Int)) : Prop := ∀ c ∈ cs, c.1.natAbs ≤ 1000 ∧ c.2.natAbs ≤ 1000
theorem okD_mk {i : Nat} {c : Int × Int} (hi : i < 4) (h : c.1.natAbs ≤ 2000 ∧ c.2.natAbs ≤ 2000) : okD (i, [c.1, c.2]) := ⟨hi, okZ_mk (Nat.lt_of_le_of_lt h.1 (by decide)) (Nat.lt_of_le_of_lt h.2 (by decide))⟩
theorem at_cellD {d c : Addr} {H : Hp} {a : Int × Int} {v : V} (S : Src H d c) (h : CellAt H a v) : At (DC d c) H (.tuple ([a.1, a.2].map .int)) v := by
  obtain ⟨t, rfl, et⟩ := h
  refine at_tup (fun z => ?_) et (atl_cons at_int (atl_cons at_int atl_nil))
  obtain ⟨s, hs, _⟩ := S
  rcases z with z | z
  · rw [z, hs.dd] at et
    cases et
  · rw [z, hs.cc] at et
    cases et
theorem Cells.at_i {H : Hp} {cs : List (Int × Int)} {us : List V} (h : Cells H cs us) {r : Int} (h0 : 0 ≤ r) (h1 : r < cs.length) : ∃ (v : V) (a : Int × Int), atI us r = some v ∧ a ∈ cs ∧ CellAt H a v := by
  obtain ⟨n, rfl⟩ := Int.eq_ofNat_of_zero_le h0
  have hn : n < cs.length := by omega
  obtain ⟨v, hv, ha⟩ := h.get2 (List.getElem?_eq_getElem hn)
  exact ⟨v, _, atI_nat hv, List.getElem_mem hn, ha⟩
theorem Src.off_of {H H' : Hp} {d c p : Addr} (S : Src H' d c) (S0 : Src H d c) (n : ¬ (H p ≠ none)) : ¬ DC d c p := S0.off (Classical.byContradiction n)
set_option hygiene false in
local macro_rules | `(tactic| walk_at "take_part") => `(tactic| (
  refine ⟨by decide, fun p hp => ?_⟩
  have sp : Same H2 (upd H2 p (.tup [])) := same_new hp
  have ess := sp _ _ es2
  have hs3 := hs2.tk (Tk2.same sp)
  refine ⟨_, _, .tup (.inl (.inl ess)) hs3.dp, .tup (.inl (.inl upd_same)) .nil, cells_shapedT _, by decide, _, rfl, ?_⟩
  rw [cells_eqvT]
  by_cases c7 : ss = []
  · rw [decide_eq_true c7, if_neg (by decide)]
    exact dn 2 _ a v _ (by decide) (by decide +kernel) hab2 (kk2.trans (Kp.of_same sp)) (S2.same sp) (ca2.tk (Tk2.same sp))
  · rw [decide_eq_false c7, if_pos (by decide)]
    refine ⟨ws, .inr (.inl (.inl ess)), ?_⟩
    have hspos : 0 < ss.length := List.length_pos_iff.mpr c7
    refine pick_src (S2.same sp) (by omega) fun r2 H4 q0 q1 S4 k4 => ?_
    have tk4 := (S2.same sp).tk k4
    obtain ⟨u, b, hu, hb, hub⟩ := hs3.at_i (r := r2) q0 (by omega)
    have hbb := hsb b hb
    refine ⟨ws, r2, rfl, .inl (.inl (tk4 _ _ ess)), u, hu, ?_⟩
    exact dn 3 _ b u H4 (by decide) (by decide +kernel) ⟨by omega, by omega⟩ ((kk2.trans (Kp.of_same sp)).trans k4) S4 (hub.tk tk4)))
def spDD : Sp := fun vs H Q E => ∃ (d c st r s : Addr) (cs ss : List (Int × Int)) (us ws : List V), vs = [.ref d, .ref st] ∧ Src H d c ∧ H st = some (.tup [.ref r, .ref s]) ∧ H r = some (.tup us) ∧ Cells H cs us ∧ cs ≠ [] ∧ cs.length ≤ 100 ∧ Bd cs ∧ H s = some (.tup ws) ∧ Cells H ss ws ∧ ss.length ≤ 100 ∧ Bd ss ∧
  ∀ dd v H', Kp (DC d c) H H' → Src H' d c → okD dd → At (DC d c) H' (dD dd) v → Q v H'
theorem ok_dd (T : Txt w K mg) : Ok PW w K mg base CX0 2 "_law_draw_deed" ["source", "stand"] spDD := by
  obtain ⟨f, fd, D⟩ := T.d_L_draw_deed
  refine ⟨f, fd, D.F.ok sc_L_draw_deed (fun vs H Q E h => ?_) (fun cdv A outer s H vs Q E hr h => ?_), D.g, D.F.kp, D.b⟩
  · obtain ⟨d, c, st, r, s, cs, ss, us, ws, rfl, _⟩ := h
    rfl
  · obtain ⟨d, c, st, r, s, cs, ss, us, ws, rfl, S, est, er, hc, hne, hcl, hcb, es, hs, hsl, hsb, h⟩ := h
    have nd := sc_L_draw_deed.nd
    refine ⟨_, pss_cons (ps_asg (pv 1) (pg_tup (by rfl) (pgs_cons (pg_name (i := 2) nd rfl (.inl rfl)) (pgs_cons (pg_name (i := 3) nd rfl (.inl rfl)) pgs_nil))))
      (pss_cons (ps_par (i := 4) (j := 5) (by rfl) nd rfl rfl (by decide) rfl rfl (pa_cons (pe_d (ok_pick T) hr pass0 (pa_cons (pv 0) (pa_cons pe_int pa_nil)))
          (pa_cons (pe_ix ix_tup (pv 2) (pe_d (ok_pick T) hr pass0 (pa_cons (pv 0) (pa_cons (pe_callB call_ln (by rfl) T.z_len PySem.boot_len (pa_cons (pv 2) pa_nil)) pa_nil))) (fun _ _ => rfl)) pa_nil)) (by rfl))
      (pss_cons (ps_if (PW.pt (pw_and (pt_cmpR op_lt (pv 4) pe_int (nomark _)) (pw_and1 (pt_cmpR op_lt (pe_callB call_ln (by rfl) T.z_len PySem.boot_len (pa_cons (pv 2) pa_nil)) pe_int (nomark _)))))
        (pss_one (ps_ret (pe_tup (pa_cons pe_str (pa_cons (pe_ix ix_list (pe_d (ok_sides T) hr pass0 (pa_cons (pv 5) pa_nil)) (pe_d (ok_pick T) hr pass0 (pa_cons (pv 0) (pa_cons pe_int pa_nil))) (fun _ _ => rfl)) pa_nil))))) pss_nil)
      (pss_cons (ps_if (pt_cmpR op_lt (pv 4) pe_int (nomark _)) (pss_one (ps_ret (pe_tup (pa_cons pe_str (pa_cons (pv 5) pa_nil))))) pss_nil)
      (pss_cons (ps_if (PW.pt (pw_and (PW.pt (pw_or (pt_cmpR op_eq (pv 4) pe_int (nomark _)) (pw_or1 (pt_cmpR op_gt (pe_callB call_ln (by rfl) T.z_len PySem.boot_len (pa_cons (pv 3) pa_nil)) pe_int (nomark _))))) (pw_and1 (pt_cmpR (op_neD hr.units) (pv 3) (pe_tup pa_nil) (nomark _)))))
        (pss_one (ps_ret (pe_tup (pa_cons pe_str (pa_cons (pe_ix ix_tup (pv 3) (pe_d (ok_pick T) hr pass0 (pa_cons (pv 0) (pa_cons (pe_callB call_ln (by rfl) T.z_len PySem.boot_len (pa_cons (pv 3) pa_nil)) pa_nil))) (fun _ _ => rfl)) pa_nil))))) pss_nil)
      (pss_one (ps_ret (pe_tup (pa_cons pe_str (pa_cons (pv 5) pa_nil))))))))), ?_⟩
    walk_at "go"
    refine ⟨_, .inl (.inl est), rfl, _, _, rfl, _, _, rfl, rfl, ?_⟩
    refine pick_src S (by decide) fun r0 H1 h10 h11 S1 k1 => ?_
    walk_at "go"
    have tk1 := S.tk k1
    have hlen := hc.length
    have hpos : 0 < cs.length := List.length_pos_iff.mpr hne
    have dn : ∀ (i : Nat) (x : Str) (b : Int × Int) (u : V) (H3 : Hp), i < 4 → x = SX.S (wd i) → (b.1.natAbs ≤ 2000 ∧ b.2.natAbs ≤ 2000) → Kp (DC d c) H H3 → Src H3 d c → CellAt H3 b u → 2 ≤ sizeLine ∧ ∀ p, H3 p = none → Q (.ref p) (upd H3 p (.tup [.str x, u])) := by
      intro i x b u H3 hi hx hb k S3 hu
      refine ⟨by decide, fun p hp => h (i, [b.1, b.2]) _ _ (k.trans (Kp.of_same (same_new hp))) (S3.same (same_new hp)) (okD_mk hi hb) ?_⟩
      rw [hx]
      exact at_tup (S3.off hp) upd_same (atl_cons at_str (atl_cons ((at_cellD S3 hu).kp (Kp.upd_new hp)) atl_nil))
    refine ⟨us, .inr (.inl (.inl (tk1 _ _ er))), ?_⟩
    refine pick_src S1 (by omega) fun r1 H2 g0 g1 S2 k2 => ?_
    have tk2 := tk1.trans (S1.tk k2)
    have kk2 := k1.trans k2
    obtain ⟨v, a, hv, ha, hca⟩ := hc.at_i (r := r1) g0 (by omega)
    have hab := hcb a ha
    have hab2 : a.1.natAbs ≤ 2000 ∧ a.2.natAbs ≤ 2000 := ⟨by omega, by omega⟩
    have ca2 := hca.tk tk2
    refine ⟨us, r1, rfl, .inl (.inl (tk2 _ _ er)), v, hv, ?_⟩
    have es2 := tk2 _ _ es
    have hs2 := hs.tk tk2
    have hslen := hs.length
    by_cases c1 : r0 < 2
    · rw [if_pos c1]
      refine ⟨us, .inr (.inl (.inl (tk2 _ _ er))), ?_⟩
      by_cases c2 : (us.length : Int) < 13
      · rw [if_pos c2]
        obtain ⟨tv, rfl, etv⟩ := ca2
        refine ⟨tv, a, rfl, etv, fun p H3 s3 hat => ?_⟩
        obtain ⟨q, xs, eq, nq, ep, hxs⟩ := hat.lst
        cases eq
        have hcx := Cells.of_at hxs
        refine pick_src (S2.same s3) (by decide) fun r2 H4 q0 q1 S4 k4 => ?_
        obtain ⟨u, b, hu, hb, hub⟩ := hcx.at_i (r := r2) q0 (by show r2 < 4; omega)
        have hp4 := k4 _ _ ep (S2.off (Classical.byContradiction nq))
        refine ⟨p, rfl, xs, r2, rfl, .inl (.inl hp4), u, hu, ?_⟩
        have hbb : b.1.natAbs ≤ 2000 ∧ b.2.natAbs ≤ 2000 := by
          unfold sidesL at hb
          simp only [List.mem_cons, List.not_mem_nil, or_false] at hb
          rcases hb with rfl | rfl | rfl | rfl <;> (constructor <;> dsimp only <;> omega)
        exact dn 0 _ b u H4 (by decide) (by decide +kernel) hbb ((kk2.trans (Kp.of_same s3)).trans k4) S4 (hub.tk ((S2.same s3).tk k4))
      · rw [if_neg c2, if_pos (by omega)]
        exact dn 1 _ a v H2 (by decide) (by decide +kernel) hab2 kk2 S2 ca2
    · rw [if_neg c1]
      by_cases c4 : r0 < 4
      · rw [if_pos c4]
        exact dn 1 _ a v H2 (by decide) (by decide +kernel) hab2 kk2 S2 ca2
      · rw [if_neg c4]
        refine ⟨rfl, ?_⟩
        by_cases c5 : r0 = 4
        · rw [if_pos c5]
          walk_at "take_part"
        · rw [if_neg c5]
          refine ⟨ws, .inr (.inl (.inl es2)), ?_⟩
          by_cases c6 : (4 : Int) < ws.length
          · rw [if_pos c6]
            walk_at "take_part"
          · rw [if_neg c6]
            exact dn 2 _ a v H2 (by decide) (by decide +kernel) hab2 kk2 S2 ca2
end
end TX
/-! part V15 -/
/-! A sign repeated; rows that are written out. -/
namespace TX
open PySem PySem.Spec PyProof.Rows L2 NT RW4
theorem fold_rep (c : Nat) : ∀ (n : Nat) (acc : Array Nat), ((List.replicate n (#[c] : Array Nat)).foldl (· ++ ·) acc) = acc ++ (List.replicate n c).toArray
  | 0, acc => by simp
  | n + 1, acc => by
    rw [List.replicate_succ, List.foldl_cons, fold_rep c n, List.replicate_succ]
    apply Array.ext'
    simp
def rMS : R2 := fun x y H Q => ∃ (c n : Nat), x = .str (SX.S [c]) ∧ y = .int ((n : Nat) : Int) ∧ 1 ≤ n ∧ n ≤ 1000 ∧ Q (.str (SX.S (List.replicate n c))) H
theorem op_MS {X : Cx} : OpR X (binaryOp .Mult) rMS := by
  intro pins s σ H x y v u Q I rx ry h
  obtain ⟨c, n, rfl, rfl, h1, h2, q⟩ := h
  obtain ⟨t, rfl⟩ := rx
  obtain ⟨t', rfl⟩ := ry
  have hn : ¬ ((n : Int) < 1) := by omega
  refine PySem.P.mul_str ?_ ?_ ?_ ?_
  · rw [decide_eq_false (by omega), decide_eq_false (by omega)]
    rfl
  · intro _ _ z
    have h3 : (1 : Int) ≤ (2 ^ 63 - 1) / (n : Int) := by
      rw [Int.le_ediv_iff_mul_le (by omega)]
      omega
    have h4 : ((SX.S [c]).length : Int) = 1 := rfl
    omega
  · intro _ _
    refine decide_eq_false ?_
    have h4 : (SX.S [c]).length = 1 := rfl
    rw [h4, sizeLine_eq, Int.toNat_natCast]
    omega
  · rw [if_neg hn]
    by_cases e1 : n = 1
    · subst e1
      rw [if_pos (by rfl)]
      exact ⟨.str (SX.S [c]), H, I, ⟨t, rfl⟩, q⟩
    · rw [if_neg (by
        have h4 : (SX.S [c]).length = 1 := rfl
        rw [h4]
        simp
        omega)]
      have e : (⟨(List.replicate ((n : Int)).toNat (SX.S [c]).cps).foldl (· ++ ·) #[]⟩ : Str) = SX.S (List.replicate n c) := by
        rw [Int.toNat_natCast]
        show (⟨(List.replicate n (#[c] : Array Nat)).foldl (· ++ ·) #[]⟩ : Str) = _
        rw [fold_rep]
        simp
      rw [e]
      exact ⟨by rw [S_len, List.length_replicate]; exact small_sz h2 (by decide), .str (SX.S (List.replicate n c)), H, I.tok _, ⟨_, rfl⟩, q⟩
/-! ### data written out, at one state -/
def Nz (σ : L2.St) (te : TE) (d : PyData) : Prop := ∀ H Q, (∀ v H', Same H H' → At (fun b => H b ≠ none) H' d v → Q v H') → te σ H Q
def NzA (σ : L2.St) (ta : TA) (ds : List PyData) : Prop := ∀ H Q, (∀ vs H', Same H H' → AtL (fun b => H b ≠ none) H' ds vs → Q vs H') → ta σ H Q
section
variable {σ : L2.St} {te te' : TE} {ta : TA} {d : PyData} {ds : List PyData}
theorem nz_str {x : Str} : Nz σ (tC (.str x)) (.str x) := fun H Q h => h _ _ (fun _ _ z => z) at_str
theorem nz_non : Nz σ (tC .non) .none := fun H Q h => h _ _ (fun _ _ z => z) at_non
theorem nz_int {i : Int} : Nz σ (tC (.int i)) (.int i) := fun H Q h => h _ _ (fun _ _ z => z) at_int
theorem nz_S {x : Str} {X : List Nat} (e : x = SX.S X) : Nz σ (tC (.str x)) (.str (SX.S X)) := fun H Q h => h _ _ (fun _ _ z => z) (by rw [e]; exact at_str)
theorem nz_var {i : Nat} {X : List Nat} (e : σ[i]? = some (some (.str (SX.S X)))) : Nz σ (tVar i) (.str (SX.S X)) := fun H Q h => ⟨_, e, h _ _ (fun _ _ z => z) at_str⟩
theorem nz_cat {a b : List Nat} (h1 : Nz σ te (.str (SX.S a))) (h2 : Nz σ te' (.str (SX.S b))) (hl : a.length + b.length ≤ 1000000) : Nz σ (tOp rS te te') (.str (SX.S (a ++ b))) := fun H Q h =>
  h1 H _ fun v H1 s1 a1 => h2 H1 _ fun u H2 s2 a2 => by
    obtain rfl := a1.str
    obtain rfl := a2.str
    exact ⟨a, b, rfl, rfl, hl, h _ _ (s1.trans s2) at_str⟩
theorem nz_rep {x : Str} {c n : Nat} (e : x = SX.S [c]) (h1 : 1 ≤ n) (h2 : n ≤ 1000) : Nz σ (tOp rMS (tC (.str x)) (tC (.int ((n : Nat) : Int)))) (.str (SX.S (List.replicate n c))) := fun H Q h => ⟨c, n, by rw [e], rfl, h1, h2, h _ _ (fun _ _ z => z) at_str⟩
theorem nza_nil : NzA σ tNil [] := fun H Q h => h _ _ (fun _ _ z => z) atl_nil
theorem nza_cons (h1 : Nz σ te d) (h2 : NzA σ ta ds) : NzA σ (tCons te ta) (d :: ds) := fun H Q h =>
  h1 H _ fun v H1 s1 a1 => h2 H1 _ fun vs H2 s2 a2 => h _ _ (s1.trans s2) (atl_cons (a1.kp (Kp.of_same s2)) (a2.off fun b _ _ z => later s1 b z))
theorem nz_lst (h1 : NzA σ ta ds) (hl : ds.length ≤ 1000 := by decide) : Nz σ (tLst ta) (.list ds) := fun H Q h =>
  h1 H _ fun vs H1 s1 a1 => ⟨by rw [a1.length]; exact small_sz hl (by decide), fun p hp => h _ _ (s1.trans (same_new hp)) (at_lst (fun z => z (s1.free hp)) upd_same (a1.kp (Kp.of_same (same_new hp))))⟩
theorem nz_tup (h1 : NzA σ ta ds) (hl : ds.length ≤ 1000 := by decide) : Nz σ (tTup ta) (.tuple ds) := fun H Q h =>
  h1 H _ fun vs H1 s1 a1 => ⟨by rw [a1.length]; exact small_sz hl (by decide), fun p hp => h _ _ (s1.trans (same_new hp)) (at_tup (fun z => z (s1.free hp)) upd_same (a1.kp (Kp.of_same (same_new hp))))⟩
/-- a name set to what is written out -/
theorem tz_new {rest : TS} {En : Ends} {H : Hp} {i : Nat} (hn : Nz σ te d) (q : ∀ v H', Same H H' → At (fun b => H b ≠ none) H' d v → rest En (σ.set i (some v)) H') : tSeq (tAsg te (gName i)) rest En σ H := hn H _ fun v H1 s1 a1 => q v H1 s1 a1
/-- a list and what is written out behind it, a new list -/
theorem tz_cat {rest : TS} {En : Ends} {H : Hp} {i : Nat} {v : V} {es : List PyData} (ev : σ[i]? = some (some v)) (hv : At No H (.list es) v) (hn : NzA σ ta ds) (hl : es.length + ds.length ≤ 100) (hl2 : ds.length ≤ 1000 := by decide)
    (q : ∀ p H' us, Same H H' → H p = none → H' p = some (.lst us) → AtL (fun b => b = p) H' (es ++ ds) us → rest En (σ.set i (some (.ref p))) H') : tSeq (tAsg (tOp rCat (tVar i) (tLst ta)) (gName i)) rest En σ H := by
  obtain ⟨a, xs, rfl, _, ea, hx⟩ := hv.lst
  refine ⟨_, ev, (nz_lst hn hl2) H _ fun u H1 s1 a1 => ?_⟩
  obtain ⟨b, ys, rfl, _, eb, hy⟩ := a1.lst
  refine ⟨a, b, xs, ys, rfl, rfl, s1 _ _ ea, eb, by rw [hx.length, hy.length]; exact small_sz hl (by decide), fun p hp => ?_⟩
  have off : ∀ c o, H1 c = some o → c = p → False := fun c o e z => by
    rw [z, hp] at e
    cases e
  refine q p _ _ (s1.trans (same_new hp)) (s1.free hp) upd_same ?_
  have h1 : AtL (fun b => b = p) H1 es xs := (hx.kp (Kp.of_same s1)).off fun c o e z => (off c o e z).elim
  have h2 : AtL (fun b => b = p) H1 ds ys := hy.off fun c o e z => (off c o e z).elim
  exact (h1.append h2).kp (Kp.upd_new hp)
end
end TX
/-! part V16 -/
/-! Texts by hand. -/
namespace TX
open PySem PySem.Spec PyProof.Rows L2 NT RW4
local macro_rules | `(tactic| walk_at "go") => `(tactic| simp only [L2.start, List.map_cons, List.map_nil, List.length_cons, List.length_nil, Nat.reduceSub, Nat.reduceAdd, List.replicate_succ, List.replicate_zero, List.cons_append, List.nil_append, List.append_nil,
  tSeq, tNext, tRet, tIfS, tTest, tAnd, tOr, tNot, tCB, tCall, tCons, tNil, tVar, tC, tOp, tUn, tAsg, gName, rI0, rI, CMul, CDiv, tDGet, sDPut, tBM0, tBM, tTup, tLst, tPar, tPar3, gTup, gNil, gCons, tIf, tAug, tRevL, tDisp, tPairs, tYes, wipe, tDrop, L2.tSl, tNotV, tAndV, tOrV, tB, rSlS, ipI, tNoPart, NdefX.startF, tOst, tMkO, rIxL, rIxT, rIxS, rAppend, rExtend, rPop, rSlL, rSetL, tPart, rEq, rNe, tFmt, tJn, tJs, tFi, tFs, LamX.tLam, TTR, gLst, tThen, tIf, rS, rRep, tThenZ, rIS, cRi, rSortedP, rLn, rPopAt, tCallS, ↓reduceIte, L2.gSub, ↓reduceIte,
  List.getElem?_cons_zero, List.getElem?_cons_succ, List.set_cons_zero, List.set_cons_succ, Option.some.injEq, V.int.injEq, V.str.injEq, V.ref.injEq, V.bl.injEq, exists_eq_left, exists_eq_left', exists_eq_right, exists_eq_right', exists_eq', true_and, and_true, decide_eq_true_eq, List.cons.injEq, reduceCtorEq, false_and, false_or, or_false, exists_false, exists_and_left, exists_and_right, and_assoc])
abbrev Rw := PyData × Option Int
def dRw (r : Rw) : PyData := .list [r.1, match r.2 with | none => .none | some n => .int n]
def rsD (rs : List Rw) : List PyData := rs.map dRw
theorem nzr0 {σ : L2.St} {te : TE} {d : PyData} (h : Nz σ te d) : Nz σ (tLst (tCons te (tCons (tC .non) tNil))) (dRw (d, none)) := nz_lst (nza_cons h (nza_cons nz_non nza_nil)) (show 2 ≤ 1000 by decide)
theorem nzr1 {σ : L2.St} {te : TE} {d : PyData} {n : Int} (h : Nz σ te d) : Nz σ (tLst (tCons te (tCons (tC (.int n)) tNil))) (dRw (d, some n)) := nz_lst (nza_cons h (nza_cons nz_int nza_nil)) (show 2 ≤ 1000 by decide)
def c1 : List Rw := [(.str "open 0,0", none), (.str "open 0", some 6), (.str "open", some 4), (.str "opn 0,0", some 2), (.str "wall -1,-2", none), (.str "set 0 0", some 5)]
def c2 : List Rw := [(.str "set -0,0", some 5), (.str "set 01,0", some 5), (.str "take 0,0 ", some 8), (.str "Take 0,0", some 0), (.str "", some 0), (.str "take 0,0\n", some 8)]
def Gn (n : Nat) : List Nat := List.replicate n 55
def On : List Nat := List.replicate 61 49
abbrev sSet : List Nat := [115, 101, 116, 32]
def c3 (n : Nat) : List Rw := [(.str (SX.S (((sSet ++ Gn n) ++ [44, 45]) ++ Gn n)), none), (.str (SX.S ((sSet ++ On) ++ [44, 48])), some 64), (.str (SX.S ([119, 97, 108, 108, 32, 48, 44] ++ On)), some 67)]
def c4 : List Rw := [(.str (SX.S ([111, 112, 101, 110, 32, 48, 44, 45] ++ On)), some 68), (.none, some 0), (.tuple [.str "set", .tuple [.int 0, .int 0]], some 0), (.list [], some 0), (.str "set +1,0", some 4)]
def c5 : List Rw := [(.str "set 1,2,3", some 7)]
def okRw (r : Rw) : Bool := match r.1 with
  | .str x => decide (x.cps.toList.length ≤ 2000) && (match oneS x.cps.toList with | .ok _ => decide (r.2 = none) | .error j => decide (r.2 = some (j : Int)))
  | .none => decide (r.2 = some 0)
  | .tuple _ => decide (r.2 = some 0)
  | .list _ => decide (r.2 = some 0)
  | _ => false
theorem ok12 : (c1 ++ c2).all okRw = true := by decide +kernel
theorem ok45 : (c4 ++ c5).all okRw = true := by decide +kernel
theorem ok3r : ((c3 0).drop 1).all okRw = true := by decide +kernel
theorem great_one {n : Nat} (h1 : 1 ≤ n) (h2 : n ≤ 60) : ∃ d, okD d ∧ wD d = ((sSet ++ Gn n) ++ [44, 45]) ++ Gn n := by
  obtain ⟨m, rfl⟩ : ∃ m, n = m + 1 := ⟨n - 1, by omega⟩
  have hg : ∀ x ∈ Gn (m + 1), dg x = true := fun x hx => by
    rw [List.eq_of_mem_replicate hx]
    decide
  have e1 : Gn (m + 1) = 55 :: Gn m := rfl
  have hv : (val (Gn (m + 1))).natAbs < 10 ^ 60 := by
    have q := dv_lt _ (Gn (m + 1)) rfl hg
    unfold val
    rw [Int.natAbs_natCast]
    refine Nat.lt_of_lt_of_le q (Nat.pow_le_pow_right (by decide) ?_)
    unfold Gn
    rw [List.length_replicate]
    exact h2
  rw [e1] at hg hv ⊢
  refine ⟨(2, [val (55 :: Gn m), -(val (55 :: Gn m))]), ⟨(show 2 < 4 by decide), okZ_mk hv (by rw [Int.natAbs_neg]; exact hv)⟩, ?_⟩
  unfold wD
  rw [wF_Z, intL_pos (by decide) hg, intL_neg (by decide) hg]
  simp [wd]
theorem ok_rows {n : Nat} (h1 : 1 ≤ n) (h2 : n ≤ 60) : ∀ r ∈ ((c1 ++ c2) ++ c3 n) ++ (c4 ++ c5), okRw r = true := fun r hr => by
  rcases List.mem_append.mp hr with hr | hr
  · rcases List.mem_append.mp hr with hr | hr
    · exact List.all_eq_true.mp ok12 r hr
    · rcases List.mem_cons.mp hr with rfl | hr
      · obtain ⟨d, hd, e⟩ := great_one h1 h2
        unfold okRw
        dsimp only
        have e2 : oneS (SX.S (((sSet ++ Gn n) ++ [44, 45]) ++ Gn n)).cps.toList = .ok d := by
          show oneS (((sSet ++ Gn n) ++ [44, 45]) ++ Gn n) = .ok d
          rw [← e]
          exact one_fwd hd
        rw [e2]
        have hl : (SX.S (((sSet ++ Gn n) ++ [44, 45]) ++ Gn n)).cps.toList.length ≤ 2000 := by
          show (((sSet ++ Gn n) ++ [44, 45]) ++ Gn n).length ≤ 2000
          have := wD_len hd
          rw [e] at this
          omega
        rw [decide_eq_true hl]
        rfl
      · exact List.all_eq_true.mp ok3r r hr
  · exact List.all_eq_true.mp ok45 r hr
section
variable {w : World} {K : PySem.W.Frag} {mg : Str → Option Value} {base : Heap}
theorem istx_non {H : Hp} : IsTx K H .non false := ⟨_, .base .non, by decide +kernel⟩
theorem istx_lst {H : Hp} {p : Addr} {xs : List V} (h : H p = some (.lst xs)) : IsTx K H (.ref p) false := ⟨_, .base (.lst h), by decide +kernel⟩
theorem istx_tup {H : Hp} {p : Addr} {xs : List V} (h : H p = some (.tup xs)) : IsTx K H (.ref p) false := ⟨_, .base (.tup h), by decide +kernel⟩
theorem istx_dk {H : Hp} {p : Addr} (h : H p = some (.dK [])) : IsTx K H (.ref p) false := ⟨_, .base (.dK h), by decide +kernel⟩
set_option hygiene false in
local macro_rules | `(tactic| walk_at "err_part") => `(tactic| (
  refine bad_ech fun H9 s9 => ?_
  refine isi_int (b := false) (by decide +kernel) ⟨rfl, ?_⟩
  rw [if_neg (by simp), if_pos (by simp)]
  refine ⟨_, _, rfl, at_int, rpj, _, _, rfl, at_int, rpj, rfl, ?_⟩
  rw [if_neg (by simp), if_neg (by simp)]
  exact ⟨(sa.trans (.ext e8)).trans (.same s9), tabs_same T8 s9⟩))
def l2 : List (List Nat × Nat) := [([115, 101, 116, 32, 48, 44, 48, 10, 116, 97, 107, 101, 32, 49, 44] ++ On, 75), ([115, 101, 116, 32, 48, 44, 48, 10], 8), ([10], 0), ([115, 101, 116, 32, 48, 44, 48, 10, 10, 115, 101, 116, 32, 48, 44, 49], 8)]
def dR2 (r : List Nat × Nat) : PyData := .tuple [.str (SX.S r.1), .int ((r.2 : Nat) : Int)]
def okR2 (r : List Nat × Nat) : Bool := !r.1.isEmpty && decide (r.1.length ≤ 100) && match logS r.1 with | .ok _ => false | .error j => decide (j = r.2)
theorem ok_l2 : l2.all okR2 = true := by decide +kernel
theorem nzp {σ : L2.St} {te : TE} {X : List Nat} {j : Nat} (h : Nz σ te (.str (SX.S X))) : Nz σ (tTup (tCons te (tCons (tC (.int ((j : Nat) : Int))) tNil))) (dR2 (X, j)) := nz_tup (nza_cons h (nza_cons nz_int nza_nil)) (show 2 ≤ 1000 by decide)
theorem tz_forT {K : PySem.W.Frag} {te : TE} {ds : List PyData} {g : TG} {tb : TS} {En : Ends} {σ : L2.St} {H : Hp} (hn : Nz σ te (.tuple ds)) (h : ∀ p xs H1, Same H H1 → H1 p = some (.tup xs) → AtL (fun b => H b ≠ none) H1 ds xs → tFor (fun _ H R => R (Itt K p) H) g tb En σ H1) :
    tFor (iTup K te) g tb En σ H := hn H _ fun v H1 s1 a1 => by
  obtain ⟨p, xs, rfl, _, ep, hx⟩ := a1.tup
  exact ⟨p, rfl, ⟨xs, .inl (.inl ep)⟩, h p xs H1 s1 ep hx⟩
theorem lc_tupE {K : PySem.W.Frag} {t te : TE} {g : TG} {tt : TT} {vs : List Nat} {σ : L2.St} {H : Hp} {Q : VK} (h : t σ H fun x H1 => ∃ a, x = .ref a ∧ (∃ xs, SqT K H1 a xs) ∧ tLc (fun _ H R => R (Itt K a) H) g tt te vs σ H1 Q) : tLc (iTup K t) g tt te vs σ H Q := h
theorem tabs_lst {TT : List (Addr × Str)} {H : Hp} {D : Addr} {ws : List V} {o : HO} (t : LamX.Tabs TT H) (e : H D = some (.lst ws)) : LamX.Tabs TT (upd H D o) := fun p hp => by
  obtain ⟨ps, h1, h2, h3⟩ := t p hp
  have off : ∀ b u, H b = some u → (∀ xs, u ≠ .lst xs) → b ≠ D := fun b u eb n z => by
    rw [z, e] at eb
    exact n _ (Option.some.inj eb).symm
  refine ⟨ps, by rw [upd_ne (off _ _ h1 fun _ z => nomatch z)]; exact h1, h2, fun pos cv hc => ?_⟩
  obtain ⟨c2, e1, e2⟩ := h3 pos cv hc
  exact ⟨c2, e1, by rw [upd_ne (off _ _ e2 fun _ z => nomatch z)]; exact e2⟩
theorem acc_step {TT : List (Addr × Str)} {HD H9 : Hp} {D : Addr} {ws : List V} {y : V} {ds : List PyData} {d : PyData} (k : KpT No HD H9) (hDn : HD D = none) (T9 : LamX.Tabs TT H9) (eD : H9 D = some (.lst ws)) (hw : AtL (fun b => b = D) H9 ds ws) (hy : At (fun b => b = D) H9 d y) (hl : ds.length ≤ 100) :
    ∃ acc, H9 D = some (.lst acc) ∧ acc.length < sizeLine ∧ KpT No HD (upd H9 D (.lst (acc ++ [y]))) ∧ LamX.Tabs TT (upd H9 D (.lst (acc ++ [y]))) ∧ ∃ ws', upd H9 D (.lst (acc ++ [y])) D = some (.lst ws') ∧ AtL (fun b => b = D) (upd H9 D (.lst (acc ++ [y]))) (ds ++ [d]) ws' := by
  refine ⟨ws, eD, by rw [hw.length]; exact small_lt hl (by decide), fun b o hb n z => ?_, tabs_lst T9 eD, _, upd_same, (hw.kp (Kp.upd_in (S := fun b => b = D) rfl)).snoc (hy.kp (Kp.upd_in (S := fun b => b = D) rfl))⟩
  rw [upd_ne (ne_of_none hb hDn)]
  exact k b o hb n z
mutual
theorem At.dp {S : Addr → Prop} {K : PySem.W.Frag} {H : Hp} : ∀ {d : PyData} {v : V}, At S H d v → Dp K H v d
  | .none, v, h => by
    unfold At at h
    rw [h]
    exact .non
  | .bool b, v, h => by
    unfold At at h
    rw [h]
    exact .bl b
  | .int i, v, h => by
    unfold At at h
    rw [h]
    exact .int i
  | .str x, v, h => by
    unfold At at h
    rw [h]
    exact .str x
  | .list ds, v, h => by
    unfold At at h
    obtain ⟨p, xs, e, n, hp, ha⟩ := h
    rw [e]
    exact .lst (.inl (.inl hp)) (AtL.dp ha)
  | .tuple ds, v, h => by
    unfold At at h
    obtain ⟨p, xs, e, n, hp, ha⟩ := h
    rw [e]
    exact .tup (.inl (.inl hp)) (AtL.dp ha)
  | .dict _, _, h => by
    unfold At at h
    exact h.elim
theorem AtL.dp {S : Addr → Prop} {K : PySem.W.Frag} {H : Hp} : ∀ {ds : List PyData} {vs : List V}, AtL S H ds vs → DpAll K H vs ds
  | [], vs, h => by
    unfold AtL at h
    rw [h]
    exact .nil
  | d :: ds, vs, h => by
    unfold AtL at h
    obtain ⟨v, r, e, h1, h2⟩ := h
    rw [e]
    exact .cons (At.dp h1) (AtL.dp h2)
end
def res5 : List PyData := [.list [.tuple []], .int 0, .int 0, .int 0, .int 0]
def spTR (TT : List (Addr × Str)) : Sp := fun vs H Q E => ∃ n : Nat, vs = [.str (SX.S (List.replicate n 55))] ∧ 1 ≤ n ∧ n ≤ 60 ∧ LamX.Tabs TT H ∧ ∀ H', KpT No H H' → LamX.Tabs TT H' → Q (.bl true) H'
theorem ok_typedR (T : Txt w K mg) {C R fI cc : Addr} (B : BadC K mg C R fI cc) {c P : Addr} {TT : List (Addr × Str)} (Z : Tb3 base mg TT c P "_law_typed_right.<locals>.<lambda>") (hD : ∃ f fd, DF K mg "_law_typed_right" s_L_typed_right ["great"] f fd ∧ fd.code = .ref c) :
    OkG PW w K mg base CX0 13 "_law_typed_right" ["great"] (spTR TT) := by
  obtain ⟨f, fd, D, hcd⟩ := hD
  refine ⟨f, fd, okGT D.F hcd sc_L_typed_right (fun vs H Q E h => ?_) (fun A outer s H vs Q E hgd hr h => ?_), D.g, D.F.kp, D.b⟩
  · obtain ⟨n, rfl, _⟩ := h
    rfl
  · obtain ⟨n, rfl, hn1, hn2, hT, h⟩ := h
    have nd := sc_L_typed_right.nd
    have hu := hu_of hr
    refine ⟨_, (pss_cons (ps_set (i := 1) nd rfl (.inl rfl) (pe_lst (pa_cons (pe_lst (pa_cons pe_str (pa_cons pe_non pa_nil))) (pa_cons (pe_lst (pa_cons pe_str (pa_cons pe_int pa_nil))) (pa_cons (pe_lst (pa_cons pe_str (pa_cons pe_int pa_nil))) (pa_cons (pe_lst (pa_cons pe_str (pa_cons pe_int pa_nil))) (pa_cons (pe_lst (pa_cons pe_str (pa_cons pe_non pa_nil))) (pa_cons (pe_lst (pa_cons pe_str (pa_cons pe_int pa_nil))) pa_nil))))))))
      (pss_cons (ps_set (i := 1) nd rfl (.inl rfl) (pe_op op_cat (pv 1) (pe_lst (pa_cons (pe_lst (pa_cons pe_str (pa_cons pe_int pa_nil))) (pa_cons (pe_lst (pa_cons pe_str (pa_cons pe_int pa_nil))) (pa_cons (pe_lst (pa_cons pe_str (pa_cons pe_int pa_nil))) (pa_cons (pe_lst (pa_cons pe_str (pa_cons pe_int pa_nil))) (pa_cons (pe_lst (pa_cons pe_str (pa_cons pe_int pa_nil))) (pa_cons (pe_lst (pa_cons pe_str (pa_cons pe_int pa_nil))) pa_nil)))))))))
      (pss_cons (ps_set (i := 1) nd rfl (.inl rfl) (pe_op op_cat (pv 1) (pe_lst (pa_cons (pe_lst (pa_cons (pe_op op_S (pe_op op_S (pe_op op_S pe_str (pv 0)) pe_str) (pv 0)) (pa_cons pe_non pa_nil))) (pa_cons (pe_lst (pa_cons (pe_op op_S (pe_op op_S pe_str (pe_op op_MS pe_str pe_int)) pe_str) (pa_cons pe_int pa_nil))) (pa_cons (pe_lst (pa_cons (pe_op op_S pe_str (pe_op op_MS pe_str pe_int)) (pa_cons pe_int pa_nil))) pa_nil))))))
      (pss_cons (ps_set (i := 1) nd rfl (.inl rfl) (pe_op op_cat (pv 1) (pe_lst (pa_cons (pe_lst (pa_cons (pe_op op_S pe_str (pe_op op_MS pe_str pe_int)) (pa_cons pe_int pa_nil))) (pa_cons (pe_lst (pa_cons pe_non (pa_cons pe_int pa_nil))) (pa_cons (pe_lst (pa_cons (pe_tup (pa_cons pe_str (pa_cons (pe_tup (pa_cons pe_int (pa_cons pe_int pa_nil))) pa_nil))) (pa_cons pe_int pa_nil))) (pa_cons (pe_lst (pa_cons (pe_lst pa_nil) (pa_cons pe_int pa_nil))) (pa_cons (pe_lst (pa_cons pe_str (pa_cons pe_int pa_nil))) pa_nil))))))))
      (pss_cons (ps_expr (pe_bm PySem.F.plainAttrs_list PySem.F.slot_list_append PySem.F.type_list_append mt_append (pv 1) (pa_cons (pe_lst (pa_cons pe_str (pa_cons pe_int pa_nil))) pa_nil)))
      (pss_cons (ps_for PassesOwn.never rfl (pi_list (pv 1)) (pg_lst (by rfl) (pgs_cons (pg_name (i := 4) nd rfl (.inr rfl)) (pgs_cons (pg_name (i := 2) nd rfl (.inl rfl)) pgs_nil)))
        (pss_cons (ps_set (i := 3) nd rfl (.inl rfl) (pe_rb (k := 10) T B Z rfl hr (fun A outer s H E f c' hr2 => pe_d (ok_rdeed T B) hr2 (passes_call (takes_of rfl rfl rfl rfl) (fun _ _ _ _ z => z)) (pa_cons (pv 4) pa_nil))))
        (pss_cons (ps_if (PW.pt (pw_or (pt_cmpR op_ne (pe_callB call_isi (by rfl) T.z_isinstance (by decide +kernel) (pa_cons (pv 3) (pa_cons (pe_bltn (v := .ty "list") (by rfl) T.z_list (by decide +kernel) rfl) pa_nil))) (pe_cmpR op_isN (pv 2) pe_non (nomark _)) (nomark _)) (pw_or1 (PW.pt (pw_and (pt_cmpR op_notN (pv 2) pe_non (nomark _)) (pw_and1 (pt_cmpR op_ne (pe_callB (call_rd hgd hr.units) (by rfl) T.z_repr (by decide +kernel) (pa_cons (pv 3) pa_nil)) (pe_callB (call_rd hgd hr.units) (by rfl) T.z_repr (by decide +kernel) (pa_cons (pv 2) pa_nil)) (nomark _)))))))) (pss_one (ps_ret pe_bl)) pss_nil)
        (pss_one (ps_if (PW.pt (pw_and (pt_cmpR op_isN (pv 2) pe_non (nomark _)) (pw_and1 (pt_cmpR op_ne (pe_d (ok_dline T) hr pass0 (pa_cons (pe_ix ix_list (pv 3) pe_int (fun _ _ => rfl)) pa_nil)) (pv 4) (nomark _))))) (pss_one (ps_ret pe_bl)) pss_nil)))))
      (pss_cons (ps_for PassesOwn.never rfl (pi_tup (pe_tup (pa_cons (pe_tup (pa_cons (pe_op op_S pe_str (pe_op op_MS pe_str pe_int)) (pa_cons pe_int pa_nil))) (pa_cons (pe_tup (pa_cons pe_str (pa_cons pe_int pa_nil))) (pa_cons (pe_tup (pa_cons pe_str (pa_cons pe_int pa_nil))) (pa_cons (pe_tup (pa_cons pe_str (pa_cons pe_int pa_nil))) pa_nil)))))) (pg_tup (by rfl) (pgs_cons (pg_name (i := 4) nd rfl (.inr rfl)) (pgs_cons (pg_name (i := 2) nd rfl (.inl rfl)) pgs_nil)))
        (pss_one (ps_if (pt_cmpR op_ne (pe_rb (k := 10) T B Z rfl hr (fun A outer s H E f c' hr2 => pe_d (ok_rlog T B) hr2 (passes_call (takes_of rfl rfl rfl rfl) (fun _ _ _ _ z => z)) (pa_cons (pv 4) pa_nil))) (pv 2) (nomark _)) (pss_one (ps_ret pe_bl)) pss_nil)))
      (pss_cons (ps_setLc (i := 3) (own := [("value", 5)]) (g := gName 5) (tt := tYes) (te := LamX.tLam TT (TTR C) fun E => tCall (spRL K C) [] E (tCons (tVar 5) tNil)) rfl nd rfl rfl (sw_true rfl rfl rfl (by decide +kernel)) (pi_tup (pe_tup (pa_cons pe_str (pa_cons pe_non (pa_cons (pe_lst pa_nil) (pa_cons (pe_tup (pa_cons pe_str pa_nil)) (pa_cons pe_dnewK pa_nil))))))) (blkOk_by (N := n_L_typed_right) (sc := defScope s_L_typed_right) (by decide +kernel))
          (fun _ _ _ _ _ => pg_name (i := 5) nd rfl (.inr rfl)) (fun _ _ _ _ _ => pts_nil)
          (fun _ _ _ _ _ => by exact (pe_rb (k := 10) T B Z rfl hr (fun A outer s H E f c' hr2 => pe_d (ok_rlog T B) hr2 (passes_call (takes_of rfl rfl rfl rfl) (fun _ _ _ _ z => z)) (pa_cons (pv 5) pa_nil)))))
      (pss_one (ps_ret (pe_and (pe_cmpR (op_eqD hr.units) (pv 3) (pe_lst (pa_cons (pe_lst (pa_cons (pe_tup pa_nil) pa_nil)) (pa_cons pe_int (pa_cons pe_int (pa_cons pe_int (pa_cons pe_int pa_nil)))))) (nomark _)) (pe_one (pe_cmpR op_eq (pe_d (ok_ltext T) hr pass0 (pa_cons (pe_tup pa_nil) pa_nil)) pe_str (nomark _)))))))))))))), ?_⟩
    have D0 : start n_L_typed_right [.str (SX.S (List.replicate n 55))] = [some (.str (SX.S (List.replicate n 55))), none, none, none, none, none] := rfl
    rw [D0]
    refine tz_new (i := 1) (d := .list (rsD c1)) (nz_lst (nza_cons (nzr0 nz_str) (nza_cons (nzr1 nz_str) (nza_cons (nzr1 nz_str) (nza_cons (nzr1 nz_str) (nza_cons (nzr0 nz_str) (nza_cons (nzr1 nz_str) nza_nil)))))) (show 6 ≤ 1000 by decide)) fun v1 H1 s1 a1 => ?_
    refine tz_cat (i := 1) (v := v1) (es := rsD c1) (ds := rsD c2) rfl a1.no (nza_cons (nzr1 nz_str) (nza_cons (nzr1 nz_str) (nza_cons (nzr1 nz_str) (nza_cons (nzr1 nz_str) (nza_cons (nzr1 nz_str) (nza_cons (nzr1 nz_str) nza_nil)))))) (show 6 + 6 ≤ 100 by decide) (show 6 ≤ 1000 by decide) fun p2 H2 us2 s2 n2 e2 A2 => ?_
    have lG : (Gn n).length ≤ 60 := by
      unfold Gn
      rw [List.length_replicate]
      exact hn2
    have gv : Nz [some (.str (SX.S (Gn n))), some (.ref p2), none, none, none, none] (tVar 0) (.str (SX.S (Gn n))) := nz_var rfl
    have set4 : ∀ σ : L2.St, Nz σ (tC (.str "set ")) (.str (SX.S sSet)) := fun σ => nz_S (by decide +kernel)
    have rep : ∀ σ : L2.St, Nz σ (tOp rMS (tC (.str "1")) (tC (.int 61))) (.str (SX.S On)) := fun σ => nz_rep (n := 61) (c := 49) (by decide +kernel) (by decide) (by decide)
    have lO : On.length = 61 := rfl
    refine tz_cat (i := 1) (v := .ref p2) (es := rsD c1 ++ rsD c2) (ds := rsD (c3 n)) rfl (at_lst id e2 A2.no)
      (nza_cons (nzr0 (nz_cat (nz_cat (nz_cat (set4 _) gv (by simp only [List.length_cons, List.length_nil]; omega)) (nz_S (X := [44, 45]) (by decide +kernel)) (by simp only [List.length_append, List.length_cons, List.length_nil]; omega)) gv (by simp only [List.length_append, List.length_cons, List.length_nil]; omega)))
      (nza_cons (nzr1 (nz_cat (nz_cat (set4 _) (rep _) (by rw [lO]; decide)) (nz_S (X := [44, 48]) (by decide +kernel)) (by rw [List.length_append, lO]; decide)))
      (nza_cons (nzr1 (nz_cat (nz_S (X := [119, 97, 108, 108, 32, 48, 44]) (by decide +kernel)) (rep _) (by rw [lO]; decide))) nza_nil))) (show 12 + 3 ≤ 100 by decide) (show 3 ≤ 1000 by decide) fun p3 H3 us3 s3 n3 e3 A3 => ?_
    refine tz_cat (i := 1) (v := .ref p3) (es := (rsD c1 ++ rsD c2) ++ rsD (c3 n)) (ds := rsD c4) rfl (at_lst id e3 A3.no)
      (nza_cons (nzr1 (nz_cat (nz_S (X := [111, 112, 101, 110, 32, 48, 44, 45]) (by decide +kernel)) (rep _) (by rw [lO]; decide)))
      (nza_cons (nzr1 nz_non) (nza_cons (nzr1 (nz_tup (nza_cons nz_str (nza_cons (nz_tup (nza_cons nz_int (nza_cons nz_int nza_nil))) nza_nil)))) (nza_cons (nzr1 (nz_lst nza_nil)) (nza_cons (nzr1 nz_str) nza_nil))))) (show 15 + 5 ≤ 100 by decide) (show 5 ≤ 1000 by decide) fun p4 H4 us4 s4 n4 e4 A4 => ?_
    refine ⟨_, rfl, .inl ⟨rfl, _, .inl (.inl e4)⟩, ?_⟩
    refine (show Nz _ (tLst (tCons (tC (.str "set 1,2,3")) (tCons (tC (.int 7)) tNil))) (dRw (.str "set 1,2,3", some 7)) from nzr1 nz_str) H4 _ fun v5 H5 s5 a5 => ?_
    refine ⟨p4, us4, v5, rfl, rfl, s5 _ _ e4, by rw [A4.length]; exact small_lt (m := 100) (show 20 ≤ 100 by decide) (by decide), ?_⟩
    have s15 := (((s1.trans s2).trans s3).trans s4).trans s5
    have hHp4 : H p4 = none := ((s1.trans s2).trans s3).free n4
    have sR : Same H (upd H5 p4 (.lst (us4 ++ [v5]))) := fun b o hb => by
      rw [upd_ne (ne_of_none hb hHp4)]
      exact s15 _ _ hb
    have AR : AtL No (upd H5 p4 (.lst (us4 ++ [v5]))) (((c1 ++ c2) ++ c3 n ++ (c4 ++ c5)).map dRw) (us4 ++ [v5]) := by
      have b1 := (A4.kp (Kp.of_same s5)).append (atl_cons (a5.off fun b o hb z => by
        rw [show b = p4 from z, e4]
        exact fun q => nomatch q) atl_nil)
      have b2 := (b1.kp (Kp.upd_in (S := fun b => b = p4) (o := .lst (us4 ++ [v5])) rfl)).no
      have e : ((rsD c1 ++ rsD c2) ++ rsD (c3 n)) ++ rsD c4 ++ [dRw (.str "set 1,2,3", some 7)] = ((c1 ++ c2) ++ c3 n ++ (c4 ++ c5)).map dRw := by
        unfold rsD
        simp only [List.map_append, List.append_assoc]
        rfl
      rw [← e]
      exact b2
    have eR : (upd H5 p4 (.lst (us4 ++ [v5]))) p4 = some (.lst (us4 ++ [v5])) := upd_same
    have tR := tabs_same hT sR
    have okr := ok_rows hn1 hn2
    generalize upd H5 p4 (.lst (us4 ++ [v5])) = HR at *
    generalize us4 ++ [v5] = us at *
    refine ⟨_, rfl, p4, rfl, ⟨_, .inl (.inl eR)⟩, for_it walk_list (fun i σ H' => ∃ v2 v3 v4 : Option V, σ = [some (.str (SX.S (Gn n))), some (.ref p4), v2, v3, v4, none] ∧ KpT No HR H' ∧ LamX.Tabs TT H') ⟨none, none, none, rfl, .same (fun _ _ z => z), tR⟩ (fun i σ H' _ z => by
        obtain ⟨_, _, _, _, z, _⟩ := z
        exact .inl (.inl (z.lst id eR))) ?_ ?_⟩
    · rintro i xv σ Ha Hb hi ⟨v2, v3, v4, rfl, sa, Ta⟩ ⟨rfl, hx⟩
      have hil : i < (((c1 ++ c2) ++ c3 n) ++ (c4 ++ c5)).length := by
        have := AR.length
        rw [List.length_map] at this
        omega
      obtain ⟨v, hv2, hat⟩ := AR.get (i := i) (d := dRw ((((c1 ++ c2) ++ c3 n) ++ (c4 ++ c5))[i])) (by rw [List.getElem?_map, List.getElem?_eq_getElem hil]; rfl)
      rw [hv2] at hx
      cases hx
      have hok := okr _ (List.getElem_mem hil)
      generalize (((c1 ++ c2) ++ c3 n) ++ (c4 ++ c5))[i] = r at *
      obtain ⟨r1, r2⟩ := r
      obtain ⟨q, xs, rfl, _, eq, hxs⟩ := (At.kpT sa hat).lst
      obtain ⟨x1, t1, rfl, hx1, hr1⟩ := hxs.cons
      obtain ⟨y2, t2, rfl, hy2, hr2⟩ := hr1.cons
      obtain rfl := hr2.nil
      walk_at "go"
      refine ⟨_, .inl (.inl eq), rfl, _, _, rfl, _, _, rfl, rfl, Ta, fun H8 e8 T8 => ?_⟩
      have hx8 : At No H8 r1 x1 := At.kpT (KpT.ext (S := No) e8) hx1
      have rp0 : Rp (.int ((0 : Nat) : Int)) := rp_nat (Nat.le_refl 0)
      cases r1 with
      | str x =>
        obtain rfl := hx8.str
        have hok2 := Bool.and_eq_true_iff.mp (show (decide (x.cps.toList.length ≤ 2000) && (match oneS x.cps.toList with | .ok _ => decide (r2 = none) | .error j => decide (r2 = some (j : Int)))) = true from hok)
        have hxl : x.cps.toList.length ≤ 2000 := of_decide_eq_true hok2.1
        have hq := hok2.2
        cases ei : oneS x.cps.toList with
        | ok d =>
          rw [ei] at hq
          obtain rfl : r2 = none := of_decide_eq_true hq
          obtain rfl : y2 = .non := by simpa [At] using hy2
          refine ⟨_, rfl, .inr ⟨x.cps.toList, by rw [SX.S_tl], by omega, fun d' e' hok' a H9 s9 ha => ?_, fun j e' => ?_⟩⟩
          · rw [ei] at e'
            cases e'
            refine ⟨by decide, fun p2 hp2 => ?_⟩
            have sp2 : Same H9 (upd H9 p2 (.lst [a])) := same_new hp2
            refine ⟨_, .ty "list", .type "list", .type "list", true, rfl, .ty _, .base (.lst upd_same), kit_ty (by decide +kernel), rfl, ?_⟩
            rw [if_neg (by simp), if_neg (by simp), if_pos rfl]
            refine ⟨_, .inl (.inl upd_same), a, atI_nat (j := 0) rfl, a, d, rfl, (ha.kp (Kp.of_same sp2)).no, hok', fun H10 s10 => ⟨rfl, ?_⟩⟩
            rw [one_back ei, SX.S_tl, if_neg (by simp)]
            have sE := (s9.trans sp2).trans s10
            exact ⟨(sa.trans (.ext e8)).trans (.same sE), tabs_same T8 sE⟩
          · rw [ei] at e'
            cases e'
        | error j0 =>
          rw [ei] at hq
          obtain rfl : r2 = some (j0 : Int) := of_decide_eq_true hq
          obtain rfl := hy2.int
          have fo := far_one x.cps.toList
          rw [ei] at fo
          have rpj : Rp (.int ((j0 : Nat) : Int)) := rp_nat (Nat.le_trans (farM_le fo) hxl)
          refine ⟨_, rfl, .inr ⟨x.cps.toList, by rw [SX.S_tl], by omega, fun d' e' => ?_, fun j e' => ?_⟩⟩
          · rw [ei] at e'
            cases e'
          · rw [ei] at e'
            cases e'
            walk_at "err_part"
      | none =>
        obtain rfl : r2 = some 0 := of_decide_eq_true hok
        obtain rfl := hy2.int
        obtain rfl : x1 = .non := by simpa [At] using hx8
        have rpj : Rp (.int 0) := rp0
        refine ⟨_, rfl, .inl ⟨istx_non, ?_⟩⟩
        walk_at "err_part"
      | tuple ds =>
        obtain rfl : r2 = some 0 := of_decide_eq_true hok
        obtain rfl := hy2.int
        obtain ⟨p, xs, rfl, _, ep, _⟩ := hx8.tup
        have rpj : Rp (.int 0) := rp0
        refine ⟨_, rfl, .inl ⟨istx_tup ep, ?_⟩⟩
        walk_at "err_part"
      | list ds =>
        obtain rfl : r2 = some 0 := of_decide_eq_true hok
        obtain rfl := hy2.int
        obtain ⟨p, xs, rfl, _, ep, _⟩ := hx8.lst
        have rpj : Rp (.int 0) := rp0
        refine ⟨_, rfl, .inl ⟨istx_lst ep, ?_⟩⟩
        walk_at "err_part"
      | bool b => cases hok
      | int i => cases hok
      | dict kvs => cases hok
    · rintro σ Ha ⟨v2, v3, v4, rfl, sa, Ta⟩
      have rep2 : ∀ σ : L2.St, Nz σ (tOp rMS (tC (.str "1")) (tC (.int 61))) (.str (SX.S On)) := fun σ => nz_rep (n := 61) (c := 49) (by decide +kernel) (by decide) (by decide)
      dsimp only [tSeq]
      refine tz_forT (ds := l2.map dR2) (nz_tup (nza_cons (nzp (j := 75) (nz_cat (nz_S (X := [115, 101, 116, 32, 48, 44, 48, 10, 116, 97, 107, 101, 32, 49, 44]) (by decide +kernel)) (rep2 _) (by decide)))
          (nza_cons (nzp (j := 8) (nz_S (X := [115, 101, 116, 32, 48, 44, 48, 10]) (by decide +kernel))) (nza_cons (nzp (j := 0) (nz_S (X := [10]) (by decide +kernel))) (nza_cons (nzp (j := 8) (nz_S (X := [115, 101, 116, 32, 48, 44, 48, 10, 10, 115, 101, 116, 32, 48, 44, 49]) (by decide +kernel))) nza_nil)))) (show 4 ≤ 1000 by decide)) fun pT xsT H1 s1 eT hxT0 => ?_
      have hxT := hxT0.no
      refine for_it walk_tup (fun i σ H' => ∃ v2 v4 : Option V, σ = [some (.str (SX.S (Gn n))), some (.ref p4), v2, v3, v4, none] ∧ KpT No H1 H' ∧ LamX.Tabs TT H') ⟨_, _, rfl, .same (fun _ _ z => z), tabs_same Ta s1⟩ (fun i σ H' _ z => by
          obtain ⟨_, _, _, z, _⟩ := z
          exact .inl (.inl (z.tup id eT))) ?_ ?_
      · rintro i xv σ Hb Hc hi ⟨v2, v4, rfl, sb, Tb⟩ ⟨rfl, hx⟩
        have hil : i < l2.length := by
          have := hxT.length
          rw [List.length_map] at this
          omega
        obtain ⟨v, hv2, hat⟩ := hxT.get (i := i) (d := dR2 l2[i]) (by rw [List.getElem?_map, List.getElem?_eq_getElem hil]; rfl)
        rw [hv2] at hx
        cases hx
        have hok := List.all_eq_true.mp ok_l2 _ (List.getElem_mem hil)
        generalize l2[i] = r at *
        obtain ⟨X, j0⟩ := r
        obtain ⟨q, xs, rfl, _, eq, hxs⟩ := (At.kpT sb hat).tup
        obtain ⟨x1, t1, rfl, hx1, hr1⟩ := hxs.cons
        obtain ⟨y2, t2, rfl, hy2, hr2⟩ := hr1.cons
        obtain rfl := hr2.nil
        obtain rfl := hx1.str
        obtain rfl := hy2.int
        have hok2 := Bool.and_eq_true_iff.mp (show (!X.isEmpty && decide (X.length ≤ 100) && (match logS X with | .ok _ => false | .error j => decide (j = j0))) = true from hok)
        have hok3 := Bool.and_eq_true_iff.mp hok2.1
        have hne : X ≠ [] := fun z => by
          rw [z] at hok3
          exact Bool.noConfusion hok3.1
        have hXl : X.length ≤ 100 := of_decide_eq_true hok3.2
        have hq := hok2.2
        walk_at "go"
        refine ⟨_, .inl (.inl eq), rfl, _, _, rfl, _, _, rfl, rfl, Tb, fun H8 e8 T8 => ?_⟩
        cases ei : logS X with
        | ok l =>
          rw [ei] at hq
          cases hq
        | error j =>
          rw [ei] at hq
          obtain rfl : j = j0 := of_decide_eq_true hq
          refine ⟨_, rfl, .inr ⟨X, rfl, by omega, fun l e' => ?_, fun j' _ e' => ?_⟩⟩
          · rw [if_neg hne, ei] at e'
            cases e'
          · rw [ei] at e'
            cases e'
            refine bad_ech fun H9 s9 => ⟨rfl, ?_⟩
            rw [if_neg (by simp)]
            exact ⟨(sb.trans (.ext e8)).trans (.same s9), tabs_same T8 s9⟩
      · rintro σ Hb ⟨v2, v4, rfl, sb, Tb⟩
        dsimp only [tSeq, tAsg]
        refine lc_tupE ?_
        refine ⟨by decide, fun p1 hp1 => ⟨by decide, fun p2 hp2 => fun p3 hp3 => ⟨(show 5 ≤ sizeLine by decide), fun p5 hp5 => ⟨p5, rfl, ⟨_, .inl (.inl upd_same)⟩, fun D hD => ?_⟩⟩⟩⟩
        have t1 : Same Hb _ := same_new (o := .lst []) hp1
        have t2 := t1.trans (same_new (o := .tup [V.str "set 0,0"]) hp2)
        have t3 := t2.trans (same_new (o := .dK []) hp3)
        have t4 := t3.trans (same_new (o := .tup [V.str "", V.non, V.ref p1, V.ref p2, V.ref p3]) hp5)
        have u1 := same_new (o := .tup [V.str "", V.non, V.ref p1, V.ref p2, V.ref p3]) hp5 _ _ (same_new (o := .dK []) hp3 _ _ (same_new (o := .tup [V.str "set 0,0"]) hp2 _ _ (upd_same (H := Hb) (a := p1) (o := .lst []))))
        have u2 := same_new (o := .tup [V.str "", V.non, V.ref p1, V.ref p2, V.ref p3]) hp5 _ _ (same_new (o := .dK []) hp3 _ _ (upd_same (H := upd Hb p1 (.lst [])) (a := p2) (o := .tup [V.str "set 0,0"])))
        have u3 := same_new (o := .tup [V.str "", V.non, V.ref p1, V.ref p2, V.ref p3]) hp5 _ _ (upd_same (H := upd (upd Hb p1 (.lst [])) p2 (.tup [V.str "set 0,0"])) (a := p3) (o := .dK []))
        have T5 := tabs_same Tb t4
        have u5 : (upd (upd (upd (upd Hb p1 (.lst [])) p2 (.tup [V.str "set 0,0"])) p3 (.dK [])) p5 (.tup [V.str "", V.non, V.ref p1, V.ref p2, V.ref p3])) p5 = some (.tup [V.str "", V.non, V.ref p1, V.ref p2, V.ref p3]) := upd_same
        generalize upd (upd (upd (upd Hb p1 (.lst [])) p2 (.tup [V.str "set 0,0"])) p3 (.dK [])) p5 (.tup [V.str "", V.non, V.ref p1, V.ref p2, V.ref p3]) = HD at *
        refine lc_it walk_tup (fun i H' => KpT No HD H' ∧ LamX.Tabs TT H' ∧ ∃ ws, H' D = some (.lst ws) ∧ AtL (fun b => b = D) H' (res5.take i) ws) ⟨.same (same_new hD), tabs_same T5 (same_new hD), [], upd_same, atl_nil⟩ (fun i H' _ z => .inl (.inl (z.1.tup id u5))) ?_ ?_
        · rintro i xv Hc Hd hi ⟨sc, Tc, ws, eD, hw⟩ ⟨rfl, hx⟩
          walk_at "go"
          refine ⟨Tc, fun H8 e8 T8 => ?_⟩
          have k8 := sc.trans (KpT.ext (S := No) e8)
          have eD8 := (KpT.ext (S := No) e8).lst id eD
          have hw8 := AtL.kpT (KpT.ext (S := fun b => b = D) e8) hw
          have odd : ∀ (d : PyData) (i : Nat), i ≤ 5 → d = .int 0 → res5.take (i + 1) = res5.take i ++ [d] → AtL (fun b => b = D) H8 (res5.take i) ws → ∀ H9, Same H8 H9 → ∃ acc, H9 D = some (.lst acc) ∧ acc.length < sizeLine ∧ KpT No HD (upd H9 D (.lst (acc ++ [V.int 0]))) ∧ LamX.Tabs TT (upd H9 D (.lst (acc ++ [V.int 0]))) ∧ ∃ ws', upd H9 D (.lst (acc ++ [V.int 0])) D = some (.lst ws') ∧ AtL (fun b => b = D) (upd H9 D (.lst (acc ++ [V.int 0]))) (res5.take (i + 1)) ws' := by
            rintro d i hi5 rfl e hw8 H9 s9
            rw [e]
            exact acc_step (k8.trans (.same s9)) hD (tabs_same T8 s9) (s9 _ _ eD8) (hw8.kp (Kp.of_same s9)) at_int (by rw [List.length_take]; omega)
          have hi5 : i < 5 := hi
          rcases (show i = 0 ∨ i = 1 ∨ i = 2 ∨ i = 3 ∨ i = 4 by omega) with rfl | rfl | rfl | rfl | rfl
          · obtain rfl : xv = .str "" := (Option.some.inj hx).symm
            refine ⟨_, rfl, .inr ⟨[], rfl, by decide, fun l e' _ _ a H9 s9 ha => ?_, fun j hne => absurd rfl hne⟩⟩
            rw [if_pos rfl] at e'
            cases e'
            refine ⟨by decide, fun p hp => ?_⟩
            have sE := s9.trans (same_new (o := .lst [a]) hp)
            have Dp : D ≠ p := ne_of_none (s9 _ _ eD8) hp
            refine acc_step (d := .list [.tuple []]) (k8.trans (.same sE)) hD (tabs_same T8 sE) (sE _ _ eD8) (hw8.kp (Kp.of_same sE)) ?_ (by decide)
            exact at_lst (fun z => Dp z.symm) upd_same (atl_cons ((ha.off fun b o hb z => by rw [show b = D from z, eD8]; exact fun q => nomatch q).kp (Kp.upd_new hp)) atl_nil)
          · obtain rfl : xv = .non := (Option.some.inj hx).symm
            exact ⟨_, rfl, .inl ⟨istx_non, bad_ech fun H9 s9 => odd _ 1 (by decide) rfl rfl hw8 H9 s9⟩⟩
          · obtain rfl : xv = .ref p1 := (Option.some.inj hx).symm
            exact ⟨_, rfl, .inl ⟨istx_lst (k8.lst id u1), bad_ech fun H9 s9 => odd _ 2 (by decide) rfl rfl hw8 H9 s9⟩⟩
          · obtain rfl : xv = .ref p2 := (Option.some.inj hx).symm
            exact ⟨_, rfl, .inl ⟨istx_tup (k8.tup id u2), bad_ech fun H9 s9 => odd _ 3 (by decide) rfl rfl hw8 H9 s9⟩⟩
          · obtain rfl : xv = .ref p3 := (Option.some.inj hx).symm
            exact ⟨_, rfl, .inl ⟨istx_dk (k8 _ _ u3 id (fun _ z => nomatch z)), bad_ech fun H9 s9 => odd _ 4 (by decide) rfl rfl hw8 H9 s9⟩⟩
        · rintro Hc ⟨sc, Tc, ws, eD, hw⟩
          refine ⟨_, rfl, ?_⟩
          refine (show Nz _ (tLst (tCons (tLst (tCons (tTup tNil) tNil)) (tCons (tC (.int 0)) (tCons (tC (.int 0)) (tCons (tC (.int 0)) (tCons (tC (.int 0)) tNil)))))) (.list res5) from
            nz_lst (nza_cons (nz_lst (nza_cons (nz_tup nza_nil) nza_nil)) (nza_cons nz_int (nza_cons nz_int (nza_cons nz_int (nza_cons nz_int nza_nil))))) (show 5 ≤ 1000 by decide)) Hc _ fun u H1' s1' a1' => ?_
          have hwD : At No Hc (.list res5) (.ref D) := at_lst id eD (by
            have q : res5.take 5 = res5 := rfl
            rw [show ([V.str "", V.non, V.ref p1, V.ref p2, V.ref p3] : List V).length = 5 from rfl, q] at hw
            exact hw.no)
          refine ⟨.list res5, .list res5, At.dp (hwD.kp (Kp.of_same s1')), At.dp a1', by decide +kernel, by decide +kernel, ?_⟩
          rw [show PyData.eqv (.list res5) (.list res5) = true by decide +kernel]
          walk_at "go"
          refine ⟨by decide, fun p hp => ⟨.ref p, [], rfl, at_tup id upd_same atl_nil, by decide, (fun d hd => nomatch hd), fun H2 s2 => ?_⟩⟩
          refine ⟨rfl, ?_⟩
          have e0 : decide ((V.str (SX.S (wL []))) = V.str (Str.ofString "")) = true := by decide +kernel
          show Q (.bl (decide ((V.str (SX.S (wL []))) = V.str (Str.ofString "")))) H2
          rw [e0]
          have sE := (s1'.trans (same_new (o := .tup []) hp)).trans s2
          exact h _ ((((KpT.same (S := No) sR).trans sa).trans (.same s1)).trans (((sb.trans (.same t4)).trans sc).trans (.same sE))) (tabs_same Tc sE)
end
end TX
/-! part V17 -/
/-! The law. -/
namespace TX
open PySem PySem.Spec PyProof.Rows L2 NT RW4
local macro_rules | `(tactic| walk_at "go") => `(tactic| simp only [L2.start, List.map_cons, List.map_nil, List.length_cons, List.length_nil, Nat.reduceSub, Nat.reduceAdd, List.replicate_succ, List.replicate_zero, List.cons_append, List.nil_append, List.append_nil,
  tSeq, tNext, tRet, tIfS, tTest, tAnd, tOr, tNot, tCB, tCall, tCons, tNil, tVar, tC, tOp, tUn, tAsg, gName, rI0, rI, CMul, CDiv, tDGet, sDPut, tBM0, tBM, tTup, tLst, tPar, tPar3, gTup, gNil, gCons, tIf, tAug, tRevL, tDisp, tPairs, tYes, wipe, tDrop, L2.tSl, tNotV, tAndV, tOrV, tB, rSlS, ipI, tNoPart, NdefX.startF, tOst, tMkO, rIxL, rIxT, rIxS, rAppend, rExtend, rPop, rSlL, rSetL, tPart, rEq, rNe, tFmt, tJn, tJs, tFi, tFs, LamX.tLam, TTR, gLst, tThen, tIf, rS, rRep, tThenZ, rIS, cRi, rSortedP, rLn, rPopAt, tCallS, ↓reduceIte, L2.gSub, ↓reduceIte,
  List.getElem?_cons_zero, List.getElem?_cons_succ, List.set_cons_zero, List.set_cons_succ, Option.some.injEq, V.int.injEq, V.str.injEq, V.ref.injEq, V.bl.injEq, exists_eq_left, exists_eq_left', exists_eq_right, exists_eq_right', exists_eq', true_and, and_true, decide_eq_true_eq, List.cons.injEq, reduceCtorEq, false_and, false_or, or_false, exists_false, exists_and_left, exists_and_right, and_assoc])
theorem cut_to (xs : List V) (k : Nat) : cutV xs none (some (k : Int)) = xs.take k := by
  unfold cutV
  rw [HT.sIx_none, HT.sIx_nat, List.drop_zero, Nat.sub_zero]
  rcases Nat.le_total k xs.length with h | h
  · rw [Nat.min_eq_left h]
  · rw [Nat.min_eq_right h, List.take_length, List.take_of_length_le h]
theorem Cells.take {H : Hp} {cs : List (Int × Int)} {us : List V} (h : Cells H cs us) : ∀ k : Nat, Cells H (cs.take k) (us.take k) := by
  induction h with
  | nil => intro k; rw [List.take_nil, List.take_nil]; exact .nil
  | cons a _ ih =>
    intro k
    cases k with
    | zero => exact .nil
    | succ k => rw [List.take_succ_cons, List.take_succ_cons]; exact .cons a (ih k)
theorem lc_rng {ta : TA} {g : TG} {tt : TT} {te : TE} {vs : List Nat} {σ : L2.St} {H : Hp} {Q : VK} (h : ta σ H fun us H1 => ∃ j : Int, us = [.int j] ∧ -(2 ^ 62) ≤ j ∧ j < 2 ^ 62 ∧ tLc (fun _ H R => R (Itr 0 j.toNat) H) g tt te vs σ H1 Q) : tLc (iRng1 ta) g tt te vs σ H Q := h
theorem at_dD_tk {S : Addr → Prop} {H H' : Hp} {dd : Dd} {v : V} (hok : okD dd) (h : At S H (dD dd) v) (k : Tk2 H H') : At S H' (dD dd) v := by
  obtain ⟨i, ns⟩ := dd
  obtain ⟨x, y, e, _, _⟩ := okI_Z hok.2
  dsimp only at e
  subst e
  obtain ⟨p, xs, rfl, n, ep, hx⟩ := h.tup
  obtain ⟨v1, r1, rfl, a1, h2⟩ := hx.cons
  obtain ⟨v2, r2, rfl, a2, h2⟩ := h2.cons
  obtain rfl := h2.nil
  obtain rfl := a1.str
  obtain ⟨q, xs, rfl, nq, eq, h2⟩ := a2.tup
  obtain ⟨v1, r1, rfl, a1, h2⟩ := h2.cons
  obtain ⟨v2, r2, rfl, a2, h2⟩ := h2.cons
  obtain rfl := h2.nil
  obtain rfl := a1.int
  obtain rfl := a2.int
  exact at_tup n (k _ _ ep) (atl_cons at_str (atl_cons (at_tup nq (k _ _ eq) (atl_cons at_int (atl_cons at_int atl_nil))) atl_nil))
theorem atl_dD_tk {S : Addr → Prop} {H H' : Hp} (k : Tk2 H H') : ∀ {l : List Dd} {vs : List V}, (∀ x ∈ l, okD x) → AtL S H (l.map dD) vs → AtL S H' (l.map dD) vs
  | [], _, _, h => by
    unfold AtL at h ⊢
    exact h
  | d :: l, vs, ok, h => by
    obtain ⟨v, r, rfl, h1, h2⟩ := AtL.cons (show AtL S H (dD d :: l.map dD) vs from h)
    exact atl_cons (at_dD_tk (ok d List.mem_cons_self) h1 k) (atl_dD_tk k (fun x hx => ok x (List.mem_cons_of_mem _ hx)) h2)
theorem wL_ne {d : Dd} {l : List Dd} : wL (d :: l) ≠ [] := by
  rw [wL_cons]
  unfold wD
  intro z
  have := congrArg List.length z
  rw [List.length_append, List.length_append, List.length_nil] at this
  have h1 : 1 ≤ (wd d.1).length := by
    unfold wd
    split <;> decide
  omega
theorem bd_mvd {cs : List (Int × Int)} {dx dy : Int} (ok : CellsOk 60 cs) (hx : dx.natAbs ≤ 100) (hy : dy.natAbs ≤ 100) : Bd (mvd dx dy cs) := fun c hc => by
  unfold mvd at hc
  obtain ⟨a, ha, rfl⟩ := List.mem_map.mp hc
  have hb := ok.b a ha
  have hl := ok.len
  constructor <;> dsimp only <;> omega
section
variable {w : World} {K : PySem.W.Frag} {mg : Str → Option Value} {base : Heap}
def spLaw (K : PySem.W.Frag) (TT : List (Addr × Str)) : Sp := fun vs H Q _ => ∃ (a : Addr) (ns : List Int), vs = [.ref a] ∧ SqL K H a (ns.map V.int) ∧ ns.length ≤ 63 ∧ LamX.Tabs TT H ∧ ∀ H', Q (.bl true) H'
theorem ok_law0 (T : Txt w K mg) {C R fI cc : Addr} (B : BadC K mg C R fI cc) {c1 P1 c2 P2 c3 P3 : Addr} {TT : List (Addr × Str)} (Zl : Tb3 base mg TT c1 P1 "law.<locals>.<lambda>") (Zn : Tb3 base mg TT c2 P2 "_law_near_right.<locals>.<lambda>") (Zt : Tb3 base mg TT c3 P3 "_law_typed_right.<locals>.<lambda>")
    (hN : ∃ f fd, DF K mg "_law_near_right" s_L_near_right ["source", "rules", "text"] f fd ∧ fd.code = .ref c2) (hT : ∃ f fd, DF K mg "_law_typed_right" s_L_typed_right ["great"] f fd ∧ fd.code = .ref c3)
    {f : Addr} {fd : FuncData} (D : DF K mg "law" s_law ["script"] f fd) (hcd : fd.code = .ref c1) : FnG PW w K mg base CX0 30 f fd ["script"] (spLaw K TT) := by
  refine okGT D.F hcd sc_law (fun vs H Q E h => ?_) (fun A outer s H vs Q E hgd hr h => ?_)
  · obtain ⟨a, ns, rfl, _⟩ := h
    rfl
  · obtain ⟨a, ns, rfl, hS, hl, hTb, h⟩ := h
    have nd := sc_law.nd
    have hu := hu_of hr
    refine ⟨_, pss_cons (ps_asg (pe_tup (pa_cons (pe_d (ok_open T) hr pass0 (pa_cons (pv 0) pa_nil)) (pa_cons (pe_d0 (ok_rules T) hr pass0) pa_nil))) (pg_tup (by rfl) (pgs_cons (pg_name (i := 1) nd rfl (.inr rfl)) (pgs_cons (pg_name (i := 2) nd rfl (.inl rfl)) pgs_nil))))
      (pss_cons (ps_for PassesOwn.never rfl (pi_range1 (by rfl) T.z_range (pa_cons pe_int pa_nil)) (pg_name (i := 3) nd rfl (.inl rfl))
        (pss_cons (ps_set (i := 4) nd rfl (.inr rfl) (pe_d (ok_moved T) hr pass0 (pa_cons (pe_d (ok_drawroom T) hr pass0 (pa_cons (pv 1) (pa_cons pe_int pa_nil))) (pa_cons (pe_op op_sub (pe_d (ok_pick T) hr pass0 (pa_cons (pv 1) (pa_cons pe_int pa_nil))) pe_int) (pa_cons (pe_op op_sub pe_int (pe_d (ok_pick T) hr pass0 (pa_cons (pv 1) (pa_cons pe_int pa_nil)))) pa_nil)))))
        (pss_cons (ps_set (i := 5) nd rfl (.inr rfl) (pe_slice sl_tupQ (pv 4) po_none (po_some (pe_d (ok_pick T) hr pass0 (pa_cons (pv 1) (pa_cons pe_int pa_nil))))))
        (pss_cons (ps_set (i := 6) nd rfl (.inl rfl) (pe_tupleOf (by rfl) T.z_tuple
            (pe_lc (own := [("turn", 10)]) (g := gName 10) (tt := tYes) (te := tCall spDD [] E0 (tCons (tVar 1) (tCons (tTup (tCons (tVar 4) (tCons (tVar 5) tNil))) tNil))) rfl nd
              (pi_range1 (by rfl) T.z_range (pa_cons (pe_op op_add pe_int (pe_d (ok_pick T) hr pass0 (pa_cons (pv 1) (pa_cons pe_int pa_nil)))) pa_nil)) (blkOk_by (N := n_law) (sc := defScope s_law) (by decide +kernel))
              (fun _ _ _ _ _ => pg_name (i := 10) nd rfl (.inl rfl)) (fun _ _ _ _ _ => pts_nil) (fun _ _ _ _ _ => by exact (pe_d (ok_dd T) hr pass0 (by exact (pa_cons (pv 1) (pa_cons (pe_tup (pa_cons (pv 4) (pa_cons (pv 5) pa_nil))) pa_nil))))))))
        (pss_cons (ps_for PassesOwn.never rfl (pi_tup (pv 6)) (pg_name (i := 7) nd rfl (.inl rfl))
          (pss_cons (ps_set (i := 8) nd rfl (.inr rfl) (pe_d (ok_dline T) hr pass0 (pa_cons (pv 7) pa_nil)))
          (pss_one (ps_if (PW.pt (pw_or (pt_cmpR op_ne (pe_d (ok_dtext T) hr pass0 (pa_cons (pv 7) pa_nil)) (pv 8) (nomark _))
            (pw_or1 (pt_cmpR op_ne (pe_callB (call_rd hgd hr.units) (by rfl) T.z_repr (by decide +kernel) (pa_cons (pe_rb (k := 10) T B Zl rfl (hr.mono (by decide)) (fun A outer s H E f c' hr2 => pe_d (ok_rdeed T B) hr2 (passes_call (takes_of rfl rfl rfl rfl) (fun _ _ _ _ z => z)) (pa_cons (pv 8) pa_nil))) pa_nil)) (pe_callB (call_rd hgd hr.units) (by rfl) T.z_repr (by decide +kernel) (pa_cons (pe_lst (pa_cons (pv 7) pa_nil)) pa_nil)) (nomark _)))))
            (pss_one (ps_ret pe_bl)) pss_nil))))
        (pss_cons (ps_set (i := 9) nd rfl (.inr rfl) (pe_d (ok_llines T) hr pass0 (pa_cons (pv 6) pa_nil)))
        (pss_cons (ps_if (PW.pt (pw_or (pt_cmpR op_ne (pe_d (ok_ltext T) hr pass0 (pa_cons (pv 6) pa_nil)) (pv 9) (nomark _))
            (pw_or1 (pt_cmpR op_ne (pe_callB (call_rd hgd hr.units) (by rfl) T.z_repr (by decide +kernel) (pa_cons (pe_rb (k := 10) T B Zl rfl (hr.mono (by decide)) (fun A outer s H E f c' hr2 => pe_d (ok_rlog T B) hr2 (passes_call (takes_of rfl rfl rfl rfl) (fun _ _ _ _ z => z)) (pa_cons (pv 9) pa_nil))) pa_nil)) (pe_callB (call_rd hgd hr.units) (by rfl) T.z_repr (by decide +kernel) (pa_cons (pe_lst (pa_cons (pv 6) pa_nil)) pa_nil)) (nomark _)))))
            (pss_one (ps_ret pe_bl)) pss_nil)
        (pss_one (ps_if (pt_not (pt_val (pe_dG (ok_nearR T B Zn hN) hgd hr pass0 (pa_cons (pv 1) (pa_cons (pv 2) (pa_cons (pv 9) pa_nil)))))) (pss_one (ps_ret pe_bl)) pss_nil)))))))))
      (pss_one (ps_ret (pe_dG (ok_typedR T B Zt hT) hgd hr pass0 (pa_cons (pe_op op_MS pe_str (pe_op op_add pe_int (pe_d (ok_pick T) hr pass0 (pa_cons (pv 1) (pa_cons pe_int pa_nil))))) pa_nil))))), ?_⟩
    walk_at "go"
    refine ⟨a, ns, rfl, hS, hl, fun d c s0 H1 s1 hd hc S0 hlen => ⟨rfl, fun g H2 s2 hg hG => ⟨by decide, fun q hq => ?_⟩⟩⟩
    have Sr : Src H1 d c := ⟨s0, S0, hlen⟩
    have s3 : Same H2 (upd H2 q (.tup [.ref d, .ref g])) := same_new hq
    refine ⟨_, .inl (.inl upd_same), rfl, _, _, rfl, _, _, rfl, rfl, ?_⟩
    have S3 := (Sr.same s2).same s3
    have T3 := tabs_same hTb ((s1.trans s2).trans s3)
    have hG3 : ∀ H', KpT (DC d c) (upd H2 q (.tup [.ref d, .ref g])) H' → GrAt H' g := fun H' k => hG H' ((KpT.same s3).trans (k.mono fun b z => by
      rcases z with rfl | rfl
      · exact fun e => Sr.off e (.inl rfl)
      · exact fun e => Sr.off e (.inr rfl)))
    generalize upd H2 q (.tup [.ref d, .ref g]) = H3 at *
    clear s1 hd hc S0 hlen Sr s2 hg hG hq s3
    refine ⟨3, rfl, by decide, by decide, for_it (n := 3) walk_range (fun n σ H' => ∃ (v3 v4 v5 v6 v7 v8 v9 : Option V), σ = [some (.ref a), some (.ref d), some (.ref g), v3, v4, v5, v6, v7, v8, v9, none] ∧ KpT (DC d c) H3 H' ∧ Src H' d c ∧ LamX.Tabs TT H') ⟨none, none, none, none, none, none, none, rfl, .same (fun _ _ z => z), S3, T3⟩ (fun _ _ _ _ _ => trivial) ?_ ?_⟩
    · rintro n xv σ Ha Hb hn ⟨v3, v4, v5, v6, v7, v8, v9, rfl, ka, Sa, Ta⟩ ⟨rfl, rfl⟩
      walk_at "go"
      refine ⟨d, c, 9, rfl, Sa, by decide, by decide, fun p0 H4 cs us k4 S4 hp0 ep0 hcs hok hst => ?_⟩
      refine pick_src S4 (by decide) fun r1 H5 r10 r11 S5 k5 => ?_
      walk_at "go"
      refine pick_src S5 (by decide) fun r2 H6 r20 r21 S6 k6 => ?_
      walk_at "go"
      have tk46 := (S4.tk k5).trans (S5.tk k6)
      refine ⟨p0, _, _, cs, us, rfl, tk46 _ _ ep0, hcs.tk tk46, Nat.le_trans hok.len (by decide), fun q1 H7 ws s7 nq1 eq1 hw => ?_⟩
      walk_at "go"
      have Bm : Bd (mvd (r1 - 25) (4 - r2) cs) := bd_mvd hok (by omega) (by omega)
      have lm : (mvd (r1 - 25) (4 - r2) cs).length = cs.length := List.length_map ..
      have nm : mvd (r1 - 25) (4 - r2) cs ≠ [] := fun z => hok.ne (List.map_eq_nil_iff.mp z)
      have lcs := hok.len
      have S7 := S6.same s7
      generalize mvd (r1 - 25) (4 - r2) cs = rm at *
      refine pick_src S7 (by decide) fun r3 H8 r30 r31 S8 k8 => ?_
      obtain ⟨r3, rfl⟩ := Int.eq_ofNat_of_zero_le r30
      have tk8 := S7.tk k8
      refine ⟨_, rfl, q1, ws, rfl, tk8 _ _ eq1, fun q2 H9 s9 e9 => ?_⟩
      rw [cut_to] at e9
      have S9 := S8.same s9
      have hw9 := hw.tk (tk8.trans (Tk2.same s9))
      have e19 := s9 _ _ (tk8 _ _ eq1)
      have hs9 := hw9.take r3
      refine lc_rng ?_
      walk_at "go"
      refine pick_src (n := 9) S9 (by decide) fun r4 H10 r40 r41 S10 k10 => ?_
      have tk10 := S9.tk k10
      have hw10 := hw9.tk tk10
      have hs10 := hs9.tk tk10
      have e110 := tk10 _ _ e19
      have e210 := tk10 _ _ e9
      have kB : KpT (DC d c) Hb H10 := (((((((KpT.of k4).trans (.of k5)).trans (.of k6)).trans (.same s7)).trans (.of k8)).trans (.same s9)).trans (.of k10))
      have T10 : LamX.Tabs TT H10 := tabs_kp (tabs_same (tabs_kp (tabs_same (tabs_kp (tabs_kp (tabs_kp Ta Sa k4) S4 k5) S5 k6) s7) S7 k8) s9) S9 k10
      refine ⟨r4, rfl, by omega, by omega, fun D hD => ?_⟩
      have dDD : ¬ DC d c D := S10.off hD
      refine lc_it walk_range (fun i H' => Kp (DC d c) H10 H' ∧ Src H' d c ∧ ∃ vs l, H' D = some (.lst vs) ∧ AtL (DC d c) H' (l.map dD) vs ∧ l.length = i ∧ ∀ x ∈ l, okD x) ⟨.upd_new hD, S10.same (same_new hD), [], [], upd_same, atl_nil, rfl, fun _ z => nomatch z⟩ (fun _ _ _ _ => trivial) ?_ ?_
      · rintro i xv Hc Hd hi ⟨kc, Sc, vs, l, eD, hvs, hll, hlo⟩ ⟨rfl, rfl⟩
        walk_at "go"
        refine ⟨by decide, fun p hp => ?_⟩
        have sp : Same Hd (upd Hd p (.tup [.ref q1, .ref q2])) := same_new hp
        have tkc := (S10.tk kc).trans (Tk2.same sp)
        refine ⟨d, c, p, q1, q2, rm, rm.take r3, ws, ws.take r3, rfl, Sc.same sp, upd_same, tkc _ _ e110, hw10.tk tkc, nm, by omega, Bm, tkc _ _ e210, hs10.tk tkc, by rw [List.length_take]; omega, fun x hx => Bm x (List.mem_of_mem_take hx), fun dd v H4' k4' S4' ok4' at4' => ?_⟩
        have eD4 := k4' _ _ (sp _ _ eD) dDD
        have tkD : Tk2 H4' (upd H4' D (.lst (vs ++ [v]))) := Tk2.lst eD4
        refine ⟨vs, eD4, ?_, fun b o hb nb => ?_, S4'.upd dDD, _, upd_same, l ++ [dd], ?_, by rw [List.length_append, hll]; rfl, fun x hx => ?_⟩
        · rw [hvs.length, List.length_map, hll]
          exact small_lt (m := 100) (by omega) (by decide)
        · rw [upd_ne (ne_of_none hb hD)]
          exact k4' _ _ (sp _ _ (kc _ _ hb nb)) nb
        · rw [List.map_append]
          have h1 : AtL (DC d c) H4' (l.map dD) vs := (hvs.kp (Kp.of_same sp)).kp k4'
          exact (atl_dD_tk tkD hlo h1).append (atl_cons (at_dD_tk ok4' at4' tkD) atl_nil)
        · rcases List.mem_append.mp hx with hx | hx
          · exact hlo x hx
          · rw [List.mem_singleton.mp hx]
            exact ok4'
      · rintro Hc ⟨kc, Sc, vs, l, eD, hvs, hll, hlo⟩
        refine .inl ⟨D, vs, rfl, .inl (.inl eD), fun q3 hq3 => ?_⟩
        have s11 : Same Hc (upd Hc q3 (.tup vs)) := same_new hq3
        have S11 := Sc.same s11
        have kC := (kB.trans (.of kc)).trans (.same s11)
        have T11 := tabs_same (tabs_kp T10 S10 kc) s11
        have e11 : (upd Hc q3 (.tup vs)) q3 = some (.tup vs) := upd_same
        have h11 := (hvs.kp (Kp.of_same s11)).no
        generalize upd Hc q3 (.tup vs) = HD at *
        have hl9 : l.length ≤ 10 := by omega
        have hl1 : 1 ≤ l.length := by omega
        refine ⟨_, rfl, q3, rfl, ⟨_, .inl (.inl e11)⟩, for_it walk_tup (fun i σ H' => ∃ v7 v8 : Option V, σ = [some (.ref a), some (.ref d), some (.ref g), some (.int (0 + (n : Nat))), some (.ref q1), some (.ref q2), some (.ref q3), v7, v8, v9, none] ∧ KpT No HD H' ∧ LamX.Tabs TT H') ⟨_, _, rfl, .same (fun _ _ z => z), T11⟩ (fun i σ H' _ z => by
            obtain ⟨_, _, _, z, _⟩ := z
            exact .inl (.inl (z.tup id e11))) ?_ ?_⟩
        · rintro i xv σ He Hf hi ⟨v7, v8, rfl, se, Te⟩ ⟨rfl, hx⟩
          have hil : i < l.length := by
            have := h11.length
            rw [List.length_map] at this
            omega
          obtain ⟨v, hv2, hat⟩ := h11.get (i := i) (d := dD l[i]) (by rw [List.getElem?_map, List.getElem?_eq_getElem hil]; rfl)
          have exv : v = xv := Option.some.inj (hv2.symm.trans hx)
          subst exv
          have hok1 := hlo _ (List.getElem_mem hil)
          have hlen := wD_len hok1
          have hone := one_fwd hok1
          have hat1 := At.kpT se hat
          generalize l[i] = dd at *
          walk_at "go"
          refine ⟨v, dd, rfl, hat1, hok1, fun H5' s5' => ?_⟩
          walk_at "go"
          refine ⟨v, dd, rfl, hat1.kp (Kp.of_same s5'), hok1, fun H6' s6' => ⟨rfl, ?_⟩⟩
          rw [if_neg (by simp)]
          have s56 := s5'.trans s6'
          refine ⟨tabs_same Te s56, fun H8' e8 T8 => ⟨_, rfl, .inr ⟨wD dd, rfl, by omega, fun d' e' hok' u H9 s9 ha => ?_, fun j e' => ?_⟩⟩⟩
          · rw [hone] at e'
            cases e'
            refine ⟨by decide, fun p hp => ?_⟩
            have sp := same_new (o := .lst [u]) hp
            refine ⟨_, .list [dD dd], rfl, at_lst id upd_same (atl_cons (ha.kp (Kp.of_same sp)).no atl_nil), rp_deed hok1, by decide, fun p' hp' => ?_⟩
            have sp' := same_new (o := .lst [v]) hp'
            have kk : KpT No Hf (upd (upd H9 p (.lst [u])) p' (.lst [v])) := ((KpT.same s56).trans (.ext e8)).trans (.same ((s9.trans sp).trans sp'))
            refine ⟨_, .list [dD dd], rfl, at_lst id upd_same (atl_cons (At.kpT kk hat1) atl_nil), rp_deed hok1, rfl, ?_⟩
            rw [if_neg (by simp)]
            exact ⟨se.trans kk, tabs_same T8 ((s9.trans sp).trans sp')⟩
          · rw [hone] at e'
            cases e'
        · rintro σ He ⟨v7, v8, rfl, se, Te⟩
          walk_at "go"
          obtain ⟨d0, l', rfl⟩ : ∃ d0 l', l = d0 :: l' := by
            cases l with
            | nil => rw [List.length_nil] at hl1; omega
            | cons d0 l' => exact ⟨d0, l', rfl⟩
          have hlog := log_fwd (d := d0) (l := l') hlo
          have hwne := wL_ne (d := d0) (l := l')
          have hwl := wL_len hlo
          have hq3' : At No He (.tuple ((d0 :: l').map dD)) (.ref q3) := at_tup id (se.tup id e11) (AtL.kpT se h11)
          refine ⟨_, d0 :: l', rfl, hq3', by omega, hlo, fun H5' s5' => ?_⟩
          refine ⟨_, d0 :: l', rfl, hq3'.kp (Kp.of_same s5'), by omega, hlo, fun H6' s6' => ⟨rfl, ?_⟩⟩
          rw [if_neg (by simp)]
          have s56 := s5'.trans s6'
          refine ⟨tabs_same Te s56, fun H8' e8 T8 => ⟨_, rfl, .inr ⟨wL (d0 :: l'), rfl, by omega, fun l2 e' hok' hll2 u H9 s9 ha => ?_, fun j _ e' => ?_⟩⟩⟩
          · rw [if_neg hwne, hlog] at e'
            cases e'
            refine ⟨by decide, fun p hp => ?_⟩
            have sp := same_new (o := .lst [u]) hp
            refine ⟨_, .list [.tuple ((d0 :: l').map dD)], rfl, at_lst id upd_same (atl_cons (ha.kp (Kp.of_same sp)).no atl_nil), rp_log hlo (by omega), by decide, fun p' hp' => ?_⟩
            have sp' := same_new (o := .lst [V.ref q3]) hp'
            have kk : KpT No He (upd (upd H9 p (.lst [u])) p' (.lst [V.ref q3])) := ((KpT.same s56).trans (.ext e8)).trans (.same ((s9.trans sp).trans sp'))
            refine ⟨_, .list [.tuple ((d0 :: l').map dD)], rfl, at_lst id upd_same (atl_cons (At.kpT kk hq3') atl_nil), rp_log hlo (by omega), rfl, ?_⟩
            rw [if_neg (by simp)]
            have kz : KpT (DC d c) H3 (upd (upd H9 p (.lst [u])) p' (.lst [V.ref q3])) := (ka.trans kC).trans ((se.trans kk).mono fun _ z => z.elim)
            refine ⟨d, c, g, wL (d0 :: l'), rfl, S11.kpT (se.trans kk), fun H' z => hG3 H' (kz.trans z), tabs_same T8 ((s9.trans sp).trans sp'), by omega, fun H' k' S' T' => ⟨true, rfl, ?_⟩⟩
            rw [if_neg (by decide)]
            exact ⟨kz.trans k', S', T'⟩
          · rw [hlog] at e'
            cases e'
    · rintro σ Ha ⟨v3, v4, v5, v6, v7, v8, v9, rfl, ka, Sa, Ta⟩
      walk_at "go"
      refine pick_src Sa (by decide) fun r H5 r0 r1 S5 k5 => ?_
      obtain ⟨r, rfl⟩ := Int.eq_ofNat_of_zero_le r0
      refine ⟨_, rfl, 55, r + 1, by rw [show (Str.ofString "7") = SX.S [55] by decide +kernel], congrArg V.int (by omega), by omega, by omega, r + 1, rfl, by omega, by omega, tabs_kp Ta Sa k5, fun H' _ _ => h H'⟩
end
end TX
/-! part V18 -/
/-! The law's own call where it makes lambdas and no repr is under way. -/
namespace NT
open PySem PySem.Spec PyProof.Rows L2 LamX
/-- code objects with their tables, untouched -/
structure Fresh (cs : List (Addr × Addr)) (K : PySem.W.Frag) (h : Heap) : Prop where
  tab : ∀ p ∈ cs, h.get? p.2 = some (PySem.W.tabObj #[])
  off : ∀ p ∈ cs, K.lookup p.2 = none
  code : ∀ p ∈ cs, PySem.W.CodeHd h p.1 p.2
theorem law_callGT {P : Program} {w : World} {K : PySem.W.Frag} {mg mb : Str → Option Value} {k : Nat} {fa a : Addr} {cs : List (Addr × Addr)} {fd : FuncData} {x : Str} {sp : Sp} {s₁ : Shared} {vs : List Value} {ns : List Int}
    (KX : K.In s₁.heap) (hns : s₁.heap.Ns mainGlobals mg) (hb : s₁.heap.Ns builtinsNs mb) (hbb : ∀ x : Str, x ≠ "__name__" → mb x = bootBuiltins x) (hlim : s₁.heap.NoLimit) (hg : s₁.gens = #[]) (Z : Fresh cs K s₁.heap)
    (hbm : ∃ (bm : Addr) (ob : Obj), mg "__builtins__" = some (.ref bm) ∧ bm ≠ builtinsNs ∧ s₁.heap.get? bm = some ob ∧ ob.cls = .type "module" ∧ ob.dict = some builtinsNs ∧ ob.data = .plain)
    (ha : s₁.heap.get? a = some { cls := .type "list", data := .seq vs.toArray }) (hi : IntsAre vs ns) (hl : ns.length ≤ sizeLine) (hr : Room k callerA)
    (F : ∀ base : Heap, K.In base → base.Ns mainGlobals mg → (∀ p ∈ cs, TabB base mg p.1 p.2) → FnG P w K mg base CX0 k fa fd [x] sp) (hbind : ∀ (s : Shared) (u : Value), BindsTo s fd ⟨[u], []⟩ [(x, u)])
    (hsp : ∀ H : Hp, (∀ p ∈ cs, H p.2 = some (.tbl #[])) → SqL K H a (ns.map V.int) → sp [.ref a] H (fun v _ => v = .bl true) E0) :
    codeAny (model P w) callerA (.call (.ref fa) ⟨[.ref a], []⟩) (fun r s' => r = .ok (.ret (.bool true)) ∧ OldK s₁.heap s'.heap ∧ s'.os = s₁.os ∧ AllBare s'.gens) s₁ := by
  have rv : Vals (ns.map V.int) vs := vals_ints hi
  let isT (b : Addr) : Prop := ∃ p ∈ cs, p.2 = b
  have nat : ¬ isT a := fun ⟨p, hp, e⟩ => by
    have q := Z.tab p hp
    rw [e, ha] at q
    exact Data.noConfusion (congrArg Obj.data (Option.some.inj q))
  -- what is tracked: the tables, and the script where it is not the module's own
  have main : ∀ H : Hp, (∀ p ∈ cs, H p.2 = some (.tbl #[])) → SqL K H a (ns.map V.int) → HOk P w H s₁.heap → (∀ b, H b ≠ none → (b = a ∧ K.lookup a = none ∧ ∃ o xs, H b = some (.frz o (.lst xs))) ∨ isT b) →
      codeAny (model P w) callerA (.call (.ref fa) ⟨[.ref a], []⟩) (fun r s' => r = .ok (.ret (.bool true)) ∧ OldK s₁.heap s'.heap ∧ s'.os = s₁.os ∧ AllBare s'.gens) s₁ := fun H hH hS ok only => by
    have stay : ∀ {b : Addr} {o : Obj}, s₁.heap.get? b = some o → (∀ its n, o.data ≠ .seq its n) → o.data ≠ .fields #[] → (hidT s₁.heap H).get? b = some o := fun {b o} e n1 n2 => hidT_get e (by
      match q : H b with
      | none => rfl
      | some u =>
        rcases only b (by rw [q]; exact fun z => nomatch z) with ⟨z, _⟩ | ⟨p, hp, z⟩
        · rw [z, ha] at e
          obtain rfl := Option.some.inj e
          exact absurd rfl (n1 _ _)
        · rw [← z, Z.tab p hp] at e
          obtain rfl := Option.some.inj e
          exact absurd rfl n2)
    have dicts : ∀ {b : Addr} {m : Str → Option Value}, s₁.heap.Ns b m → (hidT s₁.heap H).Ns b m := fun {b m} ⟨o, es, ep, e, d, z⟩ => ⟨o, es, ep, stay e (fun its n q => by rw [d] at q; exact Data.noConfusion q) (fun q => by rw [d] at q; exact Data.noConfusion q), d, z⟩
    have KB : K.In (hidT s₁.heap H) := fun b o e => by
      refine hidT_get (KX b o e) ?_
      match q : H b with
      | none => rfl
      | some u =>
        rcases only b (by rw [q]; exact fun z => nomatch z) with ⟨z1, z2, _⟩ | ⟨p, hp, z⟩
        · rw [z1, z2] at e
          cases e
        · rw [← z, Z.off p hp] at e
          cases e
    obtain ⟨mc, l1, l2⟩ := hlim
    have M : Mod K mg (hidT s₁.heap H) := ⟨KB, dicts hns, ⟨mb, dicts hb, hbb⟩, mc, dicts l1, l2⟩
    have TB : ∀ p ∈ cs, TabB (hidT s₁.heap H) mg p.1 p.2 := fun p hp => by
      constructor
      · obtain ⟨o, us, g1, g2, g3, g4, g5, g6, g7, q1, q2, q3, q4, q5, q6, q7, q8, q9, q10⟩ := Z.code p hp
        refine ⟨o, us, g1, g2, g3, g4, g5, g6, g7, stay q1 (fun its n z => ?_) (fun z => ?_), q2, q3, q4, q5, q6, q7, q8, q9, q10⟩
        · rw [q3] at z
          exact Data.noConfusion z
        · rw [q3] at z
          injection z with z
          rw [z] at q4
          exact nomatch q4
      · obtain ⟨bm, ob, y1, y2, y3, y4, y5, y6⟩ := hbm
        refine ⟨bm, ob, y1, y2, fun z => ?_, fun z => ?_, stay y3 (fun its n z => ?_) (fun z => ?_), y4, y5, y6⟩
        · obtain ⟨o, es, ep, e, d, _⟩ := hns
          rw [z, e] at y3
          obtain rfl := Option.some.inj y3
          rw [d] at y6
          exact Data.noConfusion y6
        · rw [z, Z.tab p hp] at y3
          obtain rfl := Option.some.inj y3
          exact Data.noConfusion y6
        · rw [y6] at z
          exact Data.noConfusion z
        · rw [y6] at z
          exact Data.noConfusion z
      · intro z
        obtain ⟨o, es, ep, e, d, _⟩ := hns
        rw [z, Z.tab p hp] at e
        obtain rfl := Option.some.inj e
        exact Data.noConfusion d
    have nofr : ∀ b ∈ frs ([] : List Env), H b = none := fun b z => absurd z (by simp [frs])
    have e0 : Env0 P w K mg (hidT s₁.heap H) callerA [] s₁ H := ⟨rfl, M, fun _ _ e => of_hidT e, Nat.le_of_eq (hidT_size _ _), trivial, nofr, ok, .of_eq hg⟩
    refine codeAny_mono ((F _ KB (dicts hns) TB).run callerA [] s₁ H ⟨[.ref a], []⟩ [.ref a] [.ref a] _ _ rfl hr e0 (hbind s₁ (.ref a)) (.cons rfl .nil) (hsp H hH hS)) fun r s' h => ?_
    match r, h with
    | .error e, h => exact h.elim
    | .ok (.ret u), ⟨v, H', os, bare, un, ok', rr, q⟩ =>
      replace q : v = V.bl true := q
      subst q
      replace rr : u = Value.bool true := rr
      subst rr
      have same : ∀ b o, ¬ isT b → s₁.heap.get? b = some o → s'.heap.get? b = some o := fun b o nb e => by
        match q : H b with
        | none => exact un.keep b o e q (by simp [frs]) (by simp)
        | some u =>
          rcases only b (by rw [q]; exact fun z => nomatch z) with ⟨_, _, ob, xs, z⟩ | z
          · have now := (ok' b _ (un.frzs b ob _ z)).1
            have was := (ok b _ z).1
            rw [was] at e
            rw [now, ← e]
          · exact absurd z nb
      have more : ∀ p ∈ cs, ∃ m : Array Value, s'.heap.get? p.2 = some (PySem.W.tabObj m) := fun p hp => by
        obtain ⟨m, z⟩ := un.tbls p.2 #[] (hH p hp)
        exact ⟨_, ok' p.2 _ z⟩
      refine ⟨rfl, ⟨fun b o e => ?_, fun b o e => ?_⟩, os, bare⟩
      · by_cases hb : isT b
        · obtain ⟨p, hp, z⟩ := hb
          subst z
          rw [Z.tab p hp] at e
          obtain rfl := Option.some.inj e
          obtain ⟨m, hm⟩ := more p hp
          exact .inr (.inl ⟨((Z.code p hp).tab (Z.tab p hp)).isCodeTable, rfl, #[], m, rfl, by rw [Array.empty_append]; exact hm⟩)
        · exact .inl (same b o hb e)
      · by_cases hb : isT b
        · obtain ⟨p, hp, z⟩ := hb
          subst z
          obtain ⟨m, hm⟩ := more p hp
          exact ⟨_, hm⟩
        · exact ⟨o, same b o hb e⟩
  classical
  have tabs : ∀ b, isT b → s₁.heap.get? b = some (PySem.W.tabObj #[]) := fun b ⟨p, hp, e⟩ => by
    rw [← e]
    exact Z.tab p hp
  let H0 : Hp := fun b => if isT b then some (.tbl #[]) else none
  have at0 : ∀ {b : Addr} {u : HO}, H0 b = some u → isT b ∧ u = .tbl #[] := fun {b u} z => by
    by_cases hb : isT b
    · exact ⟨hb, (Option.some.inj ((if_pos hb).symm.trans z)).symm⟩
    · exact absurd ((if_neg hb).symm.trans z) (fun q => nomatch q)
  have in0 : ∀ p ∈ cs, H0 p.2 = some (.tbl #[]) := fun p hp => if_pos ⟨p, hp, rfl⟩
  match hk : K.lookup a with
  | some o =>
    have e := KX a o hk
    rw [ha] at e
    obtain rfl := Option.some.inj e
    refine main H0 in0 (.inr ⟨_, vs.toArray, _, hk, rfl, rfl, rfl, by rw [List.size_toArray, hi.length]; exact hl, by simpa using rv⟩) (fun b u z => ?_) (fun b z => ?_)
    · obtain ⟨hb, rfl⟩ := at0 z
      exact tabs b hb
    · obtain ⟨u, q⟩ := Option.ne_none_iff_exists'.mp z
      exact .inr (at0 q).1
  | none =>
    let o : Obj := { cls := .type "list", data := .seq vs.toArray }
    have at_a : upd H0 a (.frz o (.lst (ns.map V.int))) a = some (.frz o (.lst (ns.map V.int))) := upd_same
    have off : ∀ {b : Addr}, b ≠ a → upd H0 a (.frz o (.lst (ns.map V.int))) b = H0 b := fun hb => upd_ne hb
    refine main (upd H0 a (.frz o (.lst (ns.map V.int)))) (fun p hp => ?_) (.inl (.inr ⟨o, at_a⟩)) (fun b u z => ?_) (fun b z => ?_)
    · rw [off fun z => nat ⟨p, hp, z⟩]
      exact in0 p hp
    · by_cases hb : b = a
      · subst hb
        rw [at_a] at z
        obtain rfl := Option.some.inj z
        exact ⟨ha, by rw [List.length_map]; exact hl, vs, _, rv, ha⟩
      · rw [off hb] at z
        obtain ⟨hb, rfl⟩ := at0 z
        exact tabs b hb
    · by_cases hb : b = a
      · exact .inl ⟨hb, hk, o, _, by rw [hb]; exact at_a⟩
      · rw [off hb] at z
        obtain ⟨u, q⟩ := Option.ne_none_iff_exists'.mp z
        exact .inr (at0 q).1
/-- a def's code object and its table -/
theorem tabIn_of {K : PySem.W.Frag} {x : Str} {f c P : Addr} {oc : Value} {od : Option Addr} {osl : Array (Option Value)} {fd : FuncData} {cc : Value} {cd : Option Addr} {cs : Array (Option Value)} {vs : Array Value} (a : PySem.W.nsIn K mainGlobals x = some (some (.ref f))) (l : K.lookup f = some ⟨oc, od, .func fd, osl⟩) (hc : fd.code = .ref c)
    (q : K.lookup c = some ⟨cc, cd, .fields vs, cs⟩) (v : vs[11]? = some (.ref P)) : PySem.W.tabIn K x = some (c, P) := by
  unfold PySem.W.tabIn
  rw [a]
  dsimp only
  rw [l]
  dsimp only
  rw [hc]
  dsimp only
  rw [q]
  dsimp only
  rw [v]
/-- the law's row from its promise, with the tables that its defs have -/
theorem walkGT {l : PySem.W.OpenLaw} {n k : Nat} {q : Program} {loose : List Str} {XP : (Str → Option Value) → Heap → Prop} {YP : World → Heap → Prop} {d : DefRec} {K : Params → PySem.W.Frag} {x : Str}
    (hn : l.most = some n) (hn2 : n ≤ sizeLine) (hdf : d.params.defaults = []) (hr : Room k callerA) (hY : ∀ (w : World) (h : Heap), YP w h → (K w.params).In h)
    (F : ∀ (w : World) (mg : Str → Option Value) (fa : Addr) (h : Heap), (K w.params).In h → h.Ns mainGlobals mg → mg d.name = some (.ref fa) →
      (∀ (y : Str) (c P : Addr), ((recsOf q).find? (fun e => e.name == y)).isSome = true → PySem.W.tabIn (K w.params) y = some (c, P) → PySem.W.CodeHd h c P ∧ h.get? P = some (PySem.W.tabObj #[])) →
      ∃ (fd : FuncData) (cs : List (Addr × Addr)) (sp : Sp), Fresh cs (K w.params) h ∧ (∀ (s : Shared) (u : Value), BindsTo s fd ⟨[u], []⟩ [(x, u)]) ∧
        (∀ (H : Hp) (a : Addr) (ns : List Int), ns.length ≤ n → (∀ p ∈ cs, H p.2 = some (.tbl #[])) → SqL (K w.params) H a (ns.map V.int) → sp [.ref a] H (fun v _ => v = .bl true) E0) ∧
        ∀ base : Heap, (K w.params).In base → base.Ns mainGlobals mg → (∀ p ∈ cs, TabB base mg p.1 p.2) → FnG l.prog w (K w.params) mg base CX0 k fa fd [x] sp) :
    PySem.W.WalkO q loose XP YP l.row.toRowW d [] (fun f vs => PySem.call f vs) := by
  refine Att.attach_call hn hdf fun w s₀ s₁ mg mb fa o pm cd doc a vs ns G Y _ _ _ hmg hobj hints hlen hg => ?_
  have KX := hY w _ Y
  obtain ⟨fd, cs, sp, Z, hb, hsp, hF⟩ := F w mg fa _ KX G.T.g hmg fun y c P hy ht => by
    obtain ⟨e, he⟩ := Option.isSome_iff_exists.mp hy
    exact PySem.W.tab_of G.T KX he ht
  exact law_callGT KX G.T.g G.T.b G.T.builtins G.T.nolimit hg Z G.T.bmain hobj hints (Nat.le_trans hlen hn2) hr hF hb fun H hH hS => hsp H a ns hlen hH hS
end NT
namespace TX
open PySem PySem.Spec PyProof.Rows L2 NT RW4
theorem tb_mk {K : PySem.W.Frag} {mg : Str → Option Value} {h : Heap} {x : Str} {st : Stmt} {ps : List Str} {f cA P : Addr} {oc cc : Value} {od an cd : Option Addr} {osl cs : Array (Option Value)} {kV doc pm ct : Value} {vs : Array Value} (X : K.In h) (G : h.Ns mainGlobals mg)
    (hb : ∀ (kV doc pm : Value) (an : Option Addr) (cdv ct : Value) (us : List Value), us.length = ps.length → bindArgs (PySem.W.fnOf x x (defArgs st) (defBody st) (defScope st) .none kV doc pm an cdv ct) ⟨us, []⟩ = pure (ps.zip us))
    (a : PySem.W.nsIn K mainGlobals x = some (some (.ref f)))
    (l : K.lookup f = some ⟨oc, od, .func (PySem.W.fnOf x x (defArgs st) (defBody st) (defScope st) .none kV doc pm an (.ref cA) ct), osl⟩)
    (c : PySem.W.codeIn K (.ref cA) x = true) (k : PySem.W.keepIn K (.ref f) = true) (q : K.lookup cA = some ⟨cc, cd, .fields vs, cs⟩) (v : vs[11]? = some (.ref P)) :
    ∃ f fd, DF K mg x st ps f fd ∧ fd.code = .ref cA ∧ PySem.W.tabIn K x = some (cA, P) ∧ ∀ (s : Shared) (us : List Value), us.length = ps.length → BindsTo s fd ⟨us, []⟩ (ps.zip us) :=
  ⟨f, _, ⟨fun_mk l c k, PySem.W.mg_of X G a, (fun_mk l c k).binds hb⟩, rfl, tabIn_of a l rfl q v, fun s us e => .of_eq (hb _ _ _ _ _ _ us e)⟩
theorem tabs_in {TT : List (Addr × Str)} {H : Hp} (h : ∀ p ∈ TT, H p.1 = some (.tbl #[])) : LamX.Tabs TT H := fun p hp => LamX.TabS.nil (h p hp)
theorem fin27 {w : World} {K : PySem.W.Frag} {mg : Str → Option Value} {fa : Addr} {h : Heap} {q : Program} {c1 P1 c2 P2 c3 P3 : Addr} (hmg : mg "law" = some (.ref fa))
    (hT : ∀ (y : Str) (c P : Addr), ((recsOf q).find? (fun e => e.name == y)).isSome = true → PySem.W.tabIn K y = some (c, P) → PySem.W.CodeHd h c P ∧ h.get? P = some (PySem.W.tabObj #[]))
    (Y : Txt w K mg ∧ ∃ fd : FuncData, DF K mg "law" s_law ["script"] fa fd ∧ (∀ (s : Shared) (v : Value), BindsTo s fd ⟨[v], []⟩ [("script", v)]))
    (N : ∃ f fd, DF K mg "_law_near_right" s_L_near_right ["source", "rules", "text"] f fd ∧ fd.code = .ref c2 ∧ PySem.W.tabIn K "_law_near_right" = some (c2, P2) ∧ ∀ (s : Shared) (us : List Value), us.length = ["source", "rules", "text"].length → BindsTo s fd ⟨us, []⟩ ((["source", "rules", "text"] : List Str).zip us))
    (Ty : ∃ f fd, DF K mg "_law_typed_right" s_L_typed_right ["great"] f fd ∧ fd.code = .ref c3 ∧ PySem.W.tabIn K "_law_typed_right" = some (c3, P3) ∧ ∀ (s : Shared) (us : List Value), us.length = ["great"].length → BindsTo s fd ⟨us, []⟩ ((["great"] : List Str).zip us))
    (L : ∃ f fd, DF K mg "law" s_law ["script"] f fd ∧ fd.code = .ref c1 ∧ PySem.W.tabIn K "law" = some (c1, P1) ∧ ∀ (s : Shared) (us : List Value), us.length = ["script"].length → BindsTo s fd ⟨us, []⟩ ((["script"] : List Str).zip us))
    (o1 : K.lookup P1 = none) (o2 : K.lookup P2 = none) (o3 : K.lookup P3 = none) (d12 : P1 ≠ P2) (d13 : P1 ≠ P3) (d23 : P2 ≠ P3)
    (r1 : ((recsOf q).find? (fun e => e.name == ("law" : Str))).isSome = true) (r2 : ((recsOf q).find? (fun e => e.name == ("_law_near_right" : Str))).isSome = true) (r3 : ((recsOf q).find? (fun e => e.name == ("_law_typed_right" : Str))).isSome = true) :
    ∃ (fd : FuncData) (cs : List (Addr × Addr)) (sp : Sp), NT.Fresh cs K h ∧ (∀ (s : Shared) (u : Value), BindsTo s fd ⟨[u], []⟩ [("script", u)]) ∧
        (∀ (H : Hp) (a : Addr) (ns : List Int), ns.length ≤ 63 → (∀ p ∈ cs, H p.2 = some (.tbl #[])) → SqL K H a (ns.map V.int) → sp [.ref a] H (fun v _ => v = .bl true) E0) ∧
        ∀ base : Heap, K.In base → base.Ns mainGlobals mg → (∀ p ∈ cs, LamX.TabB base mg p.1 p.2) → FnG PySem.Challenge.rw_nodetour_k27_deeds_as_texts.prog w K mg base CX0 30 fa fd ["script"] sp := by
  obtain ⟨T, _⟩ := Y
  obtain ⟨fN, fdN, DN, hN, tN, _⟩ := N
  obtain ⟨fT, fdT, DT, hTy, tT, _⟩ := Ty
  obtain ⟨fL, fdL, DL, hL, tL, bL⟩ := L
  have e : fL = fa := by
    have q1 := DL.g.symm.trans hmg
    exact Value.ref.inj (Option.some.inj q1)
  subst e
  have g1 := hT _ _ _ r1 tL
  have g2 := hT _ _ _ r2 tN
  have g3 := hT _ _ _ r3 tT
  have each : ∀ {R : Addr × Addr → Prop}, R (c1, P1) → R (c2, P2) → R (c3, P3) → ∀ p ∈ [(c1, P1), (c2, P2), (c3, P3)], R p := fun h1 h2 h3 p hp => by
    simp only [List.mem_cons, List.not_mem_nil, or_false] at hp
    rcases hp with rfl | rfl | rfl
    · exact h1
    · exact h2
    · exact h3
  let TT : List (Addr × Str) := [(P1, "law.<locals>.<lambda>"), (P2, "_law_near_right.<locals>.<lambda>"), (P3, "_law_typed_right.<locals>.<lambda>")]
  have uq : ∀ (P : Addr) (s : Str), (P, s) ∈ TT → ∀ p ∈ TT, p.1 = P → p.2 = s := by
    intro P s hm p hp ep
    simp only [TT, List.mem_cons, List.not_mem_nil, or_false, Prod.mk.injEq] at hm hp
    rcases hm with ⟨rfl, rfl⟩ | ⟨rfl, rfl⟩ | ⟨rfl, rfl⟩ <;> rcases hp with rfl | rfl | rfl <;> first | rfl | exact absurd ep d12 | exact absurd ep.symm d12 | exact absurd ep d13 | exact absurd ep.symm d13 | exact absurd ep d23 | exact absurd ep.symm d23
  refine ⟨fdL, [(c1, P1), (c2, P2), (c3, P3)], spLaw K TT, ⟨each g1.2 g2.2 g3.2, each o1 o2 o3, each g1.1 g2.1 g3.1⟩, fun s u => bL s [u] rfl, fun H a ns hl hp hS => ⟨a, ns, rfl, hS, hl, tabs_in fun p hm => ?_, fun _ => rfl⟩, fun base _ _ hB => ?_⟩
  · simp only [TT, List.mem_cons, List.not_mem_nil, or_false] at hm
    rcases hm with rfl | rfl | rfl
    · exact hp (c1, P1) (by simp)
    · exact hp (c2, P2) (by simp)
    · exact hp (c3, P3) (by simp)
  · obtain ⟨C, R, fI, cc, B⟩ := T.bad
    have m1 : (P1, ("law.<locals>.<lambda>" : Str)) ∈ TT := by simp [TT]
    have m2 : (P2, ("_law_near_right.<locals>.<lambda>" : Str)) ∈ TT := by simp [TT]
    have m3 : (P3, ("_law_typed_right.<locals>.<lambda>" : Str)) ∈ TT := by simp [TT]
    exact ok_law0 T B ⟨hB (c1, P1) (by simp), m1, uq _ _ m1⟩ ⟨hB (c2, P2) (by simp), m2, uq _ _ m2⟩ ⟨hB (c3, P3) (by simp), m3, uq _ _ m3⟩ ⟨fN, fdN, DN, hN⟩ ⟨fT, fdT, DT, hTy⟩ DL hL
end TX
open PySem PySem.W PyProof.Rows
set_option maxHeartbeats 0 in
theorem PySem.Challenge.cw_nodetour_k27_deeds_as_texts_holds : PySem.Challenge.rw_nodetour_k27_deeds_as_texts.Holds := by
  w_on; o_law; k_head; (case hw => w_witness2)
  k_fill
  refine NT.walkGT (l := PySem.Challenge.rw_nodetour_k27_deeds_as_texts) (n := 63) (k := 30) (x := "script") rfl (by decide) rfl ⟨rfl, by decide, by decide⟩ (fun w h Y => PySem.W.km_in_of Y) ?F
  case F =>
    intro w mg fa h KX G hmg hT
    refine' TX.fin27 hmg hT (TX.all_mk (P := PySem.Challenge.pw_nodetour_k27_deeds_as_texts) (w := w) KX G hmg ?a0 ?l0 ?c0 ?k0 ?a1 ?l1 ?c1 ?k1 ?a2 ?l2 ?c2 ?k2 ?a3 ?l3 ?c3 ?k3 ?a4 ?l4 ?c4 ?k4 ?a5 ?l5 ?c5 ?k5 ?a6 ?l6 ?c6 ?k6 ?a7 ?l7 ?c7 ?k7 ?a8 ?l8 ?c8 ?k8 ?a9 ?l9 ?c9 ?k9 ?a10 ?l10 ?c10 ?k10 ?a11 ?l11 ?c11 ?k11 ?a12 ?l12 ?c12 ?k12 ?a13 ?l13 ?c13 ?k13 ?a14 ?l14 ?c14 ?k14 ?a15 ?l15 ?c15 ?k15 ?a16 ?l16 ?c16 ?k16 ?a17 ?l17 ?c17 ?k17 ?a18 ?l18 ?c18 ?k18 ?a19 ?l19 ?c19 ?k19 ?a20 ?l20 ?c20 ?k20 ?a21 ?l21 ?c21 ?k21 ?a22 ?l22 ?c22 ?k22 ?a23 ?l23 ?c23 ?k23 ?a24 ?l24 ?c24 ?k24 ?a25 ?l25 ?c25 ?k25 ?a26 ?l26 ?c26 ?k26 ?a27 ?l27 ?c27 ?k27 ?a28 ?l28 ?c28 ?k28 ?a29 ?l29 ?c29 ?k29 ?a30 ?l30 ?c30 ?k30 ?a31 ?l31 ?c31 ?k31 ?a32 ?l32 ?c32 ?k32 ?a33 ?l33 ?c33 ?k33 ?zC ?zR ?xL ?sa ?exC ?tyC ?kC ?iC ?tI ?noP ?sub1 ?sup ?sVE ?opq ?te ?ga ?gg ?hd ?ec ?en ?et ?em ?kit ?fI1 ?fI2 ?fI3 ?fI4 ?fI5 ?z_ValueError ?z_abs ?z_dict ?z_int ?z_isinstance ?z_len ?z_list ?z_max ?z_min ?z_range ?z_repr ?z_reversed ?z_sorted ?z_str ?z_super ?z_tuple ?z_zip ?yD ?yM ?lM ?sM ?yW ?lW) (TX.tb_mk (x := "_law_near_right") (st := TX.s_L_near_right) (ps := ["source", "rules", "text"]) KX G (fun _ _ _ _ _ _ us hl => match us, hl with | [_, _, _], _ => rfl) ?Nna ?Nnl ?Nnc ?Nnk ?Nnq ?Nnv) (TX.tb_mk (x := "_law_typed_right") (st := TX.s_L_typed_right) (ps := ["great"]) KX G (fun _ _ _ _ _ _ us hl => match us, hl with | [_], _ => rfl) ?Tna ?Tnl ?Tnc ?Tnk ?Tnq ?Tnv) (TX.tb_mk (x := "law") (st := TX.s_law) (ps := ["script"]) KX G (fun _ _ _ _ _ _ us hl => match us, hl with | [_], _ => rfl) ?Lna ?Lnl ?Lnc ?Lnk ?Lnq ?Lnv) ?o1 ?o2 ?o3 ?d12 ?d13 ?d23 ?r1 ?r2 ?r3
    (case a0 => first | k_is | rfl)
    (case l0 => first | k_is | rfl)
    (case c0 => first | k_is | rfl)
    (case k0 => first | k_is | rfl)
    (case a1 => first | k_is | rfl)
    (case l1 => first | k_is | rfl)
    (case c1 => first | k_is | rfl)
    (case k1 => first | k_is | rfl)
    (case a2 => first | k_is | rfl)
    (case l2 => first | k_is | rfl)
    (case c2 => first | k_is | rfl)
    (case k2 => first | k_is | rfl)
    (case a3 => first | k_is | rfl)
    (case l3 => first | k_is | rfl)
    (case c3 => first | k_is | rfl)
    (case k3 => first | k_is | rfl)
    (case a4 => first | k_is | rfl)
    (case l4 => first | k_is | rfl)
    (case c4 => first | k_is | rfl)
    (case k4 => first | k_is | rfl)
    (case a5 => first | k_is | rfl)
    (case l5 => first | k_is | rfl)
    (case c5 => first | k_is | rfl)
    (case k5 => first | k_is | rfl)
    (case a6 => first | k_is | rfl)
    (case l6 => first | k_is | rfl)
    (case c6 => first | k_is | rfl)
    (case k6 => first | k_is | rfl)
    (case a7 => first | k_is | rfl)
    (case l7 => first | k_is | rfl)
    (case c7 => first | k_is | rfl)
    (case k7 => first | k_is | rfl)
    (case a8 => first | k_is | rfl)
    (case l8 => first | k_is | rfl)
    (case c8 => first | k_is | rfl)
    (case k8 => first | k_is | rfl)
    (case a9 => first | k_is | rfl)
    (case l9 => first | k_is | rfl)
    (case c9 => first | k_is | rfl)
    (case k9 => first | k_is | rfl)
    (case a10 => first | k_is | rfl)
    (case l10 => first | k_is | rfl)
    (case c10 => first | k_is | rfl)
    (case k10 => first | k_is | rfl)
    (case a11 => first | k_is | rfl)
    (case l11 => first | k_is | rfl)
    (case c11 => first | k_is | rfl)
    (case k11 => first | k_is | rfl)
    (case a12 => first | k_is | rfl)
    (case l12 => first | k_is | rfl)
    (case c12 => first | k_is | rfl)
    (case k12 => first | k_is | rfl)
    (case a13 => first | k_is | rfl)
    (case l13 => first | k_is | rfl)
    (case c13 => first | k_is | rfl)
    (case k13 => first | k_is | rfl)
    (case a14 => first | k_is | rfl)
    (case l14 => first | k_is | rfl)
    (case c14 => first | k_is | rfl)
    (case k14 => first | k_is | rfl)
    (case a15 => first | k_is | rfl)
    (case l15 => first | k_is | rfl)
    (case c15 => first | k_is | rfl)
    (case k15 => first | k_is | rfl)
    (case a16 => first | k_is | rfl)
    (case l16 => first | k_is | rfl)
    (case c16 => first | k_is | rfl)
    (case k16 => first | k_is | rfl)
    (case a17 => first | k_is | rfl)
    (case l17 => first | k_is | rfl)
    (case c17 => first | k_is | rfl)
    (case k17 => first | k_is | rfl)
    (case a18 => first | k_is | rfl)
    (case l18 => first | k_is | rfl)
    (case c18 => first | k_is | rfl)
    (case k18 => first | k_is | rfl)
    (case a19 => first | k_is | rfl)
    (case l19 => first | k_is | rfl)
    (case c19 => first | k_is | rfl)
    (case k19 => first | k_is | rfl)
    (case a20 => first | k_is | rfl)
    (case l20 => first | k_is | rfl)
    (case c20 => first | k_is | rfl)
    (case k20 => first | k_is | rfl)
    (case a21 => first | k_is | rfl)
    (case l21 => first | k_is | rfl)
    (case c21 => first | k_is | rfl)
    (case k21 => first | k_is | rfl)
    (case a22 => first | k_is | rfl)
    (case l22 => first | k_is | rfl)
    (case c22 => first | k_is | rfl)
    (case k22 => first | k_is | rfl)
    (case a23 => first | k_is | rfl)
    (case l23 => first | k_is | rfl)
    (case c23 => first | k_is | rfl)
    (case k23 => first | k_is | rfl)
    (case a24 => first | k_is | rfl)
    (case l24 => first | k_is | rfl)
    (case c24 => first | k_is | rfl)
    (case k24 => first | k_is | rfl)
    (case a25 => first | k_is | rfl)
    (case l25 => first | k_is | rfl)
    (case c25 => first | k_is | rfl)
    (case k25 => first | k_is | rfl)
    (case a26 => first | k_is | rfl)
    (case l26 => first | k_is | rfl)
    (case c26 => first | k_is | rfl)
    (case k26 => first | k_is | rfl)
    (case a27 => first | k_is | rfl)
    (case l27 => first | k_is | rfl)
    (case c27 => first | k_is | rfl)
    (case k27 => first | k_is | rfl)
    (case a28 => first | k_is | rfl)
    (case l28 => first | k_is | rfl)
    (case c28 => first | k_is | rfl)
    (case k28 => first | k_is | rfl)
    (case a29 => first | k_is | rfl)
    (case l29 => first | k_is | rfl)
    (case c29 => first | k_is | rfl)
    (case k29 => first | k_is | rfl)
    (case a30 => first | k_is | rfl)
    (case l30 => first | k_is | rfl)
    (case c30 => first | k_is | rfl)
    (case k30 => first | k_is | rfl)
    (case a31 => first | k_is | rfl)
    (case l31 => first | k_is | rfl)
    (case c31 => first | k_is | rfl)
    (case k31 => first | k_is | rfl)
    (case a32 => first | k_is | rfl)
    (case l32 => first | k_is | rfl)
    (case c32 => first | k_is | rfl)
    (case k32 => first | k_is | rfl)
    (case a33 => first | k_is | rfl)
    (case l33 => first | k_is | rfl)
    (case c33 => first | k_is | rfl)
    (case k33 => first | k_is | rfl)
    (case zC => first | k_is | rfl)
    (case zR => first | k_is | rfl)
    (case xL => first | k_is | rfl)
    (case sa => first | k_is | rfl)
    (case exC => first | k_is | rfl)
    (case tyC => first | k_is | rfl)
    (case kC => first | k_is | rfl)
    (case iC => first | k_is | rfl)
    (case tI => first | k_is | rfl)
    (case noP => first | k_is | rfl)
    (case sub1 => first | k_is | rfl)
    (case sup => first | k_is | rfl)
    (case sVE => first | k_is | rfl)
    (case opq => first | k_is | rfl)
    (case te => first | k_is | rfl)
    (case ga => first | k_is | rfl)
    (case gg => first | k_is | rfl)
    (case hd => first | k_is | rfl)
    (case ec => first | k_is | rfl)
    (case en => first | k_is | rfl)
    (case et => first | k_is | rfl)
    (case em => first | k_is | rfl)
    (case kit => first | k_is | rfl)
    (case fI1 => first | k_is | rfl)
    (case fI2 => first | k_is | rfl)
    (case fI3 => first | k_is | rfl)
    (case fI4 => first | k_is | rfl)
    (case fI5 => first | k_is | rfl)
    (case z_ValueError => first | k_is | rfl)
    (case z_abs => first | k_is | rfl)
    (case z_dict => first | k_is | rfl)
    (case z_int => first | k_is | rfl)
    (case z_isinstance => first | k_is | rfl)
    (case z_len => first | k_is | rfl)
    (case z_list => first | k_is | rfl)
    (case z_max => first | k_is | rfl)
    (case z_min => first | k_is | rfl)
    (case z_range => first | k_is | rfl)
    (case z_repr => first | k_is | rfl)
    (case z_reversed => first | k_is | rfl)
    (case z_sorted => first | k_is | rfl)
    (case z_str => first | k_is | rfl)
    (case z_super => first | k_is | rfl)
    (case z_tuple => first | k_is | rfl)
    (case z_zip => first | k_is | rfl)
    (case yD => first | k_is | rfl)
    (case yM => first | k_is | rfl)
    (case lM => first | k_is | rfl)
    (case sM => first | rfl | decide)
    (case yW => first | k_is | rfl)
    (case lW => first | k_is | rfl)
    (case Nna => first | k_is | rfl)
    (case Nnl => first | k_is | rfl)
    (case Nnc => first | k_is | rfl)
    (case Nnk => first | k_is | rfl)
    (case Nnq => first | k_is | rfl)
    (case Nnv => first | k_is | rfl)
    (case Tna => first | k_is | rfl)
    (case Tnl => first | k_is | rfl)
    (case Tnc => first | k_is | rfl)
    (case Tnk => first | k_is | rfl)
    (case Tnq => first | k_is | rfl)
    (case Tnv => first | k_is | rfl)
    (case Lna => first | k_is | rfl)
    (case Lnl => first | k_is | rfl)
    (case Lnc => first | k_is | rfl)
    (case Lnk => first | k_is | rfl)
    (case Lnq => first | k_is | rfl)
    (case Lnv => first | k_is | rfl)
    (case o1 => first | rfl | with_unfolding_all rfl)
    (case o2 => first | rfl | with_unfolding_all rfl)
    (case o3 => first | rfl | with_unfolding_all rfl)
    (case d12 => decide)
    (case d13 => decide)
    (case d23 => decide)
    (case r1 => first | rfl | decide +kernel)
    (case r2 => first | rfl | decide +kernel)
    (case r3 => first | rfl | decide +kernel)
