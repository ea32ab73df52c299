import PyProof.Rows.All
import Wide.All
import OpenK.AllK
import Wide.FinOn
import PyProof.EqAt
import PyProof.EqKinds
import PyProof.TupleCall
import HandS.ForMost
import HandS.ForExc
import HandS.Nested
import HandS.ExcInit
import HandS.RaiseMore
import HandS.IsInst
import HandS.ExcField
import HandS.ExcIs
import HandS.FStr
import HandS.Wide
import HandS.Style
import HandS.Flow
import HandS.RevRange
import HandS.Walk
import HandS.Defaults
import HandS.TupSets
import HandS.TupAny
import HandS.ListEq
import HandS.Zip
import PyProof.ReprReads
import KE.KExcSuper
import KE.KIntText
import KE.IntTextText
import HandS.Text
import HandS.Codes
import HandS.TryOnly
import KE.KExcIs
import HandS.ExcOwn
import KE.GoesMore
import PyProof.StrLawsRepr
import KE.KDictZip
import HandS.MapObj
import PySem.Challenge.RW_nodetour_k04_texts_of_rows
set_option Elab.async false
set_option linter.all false
set_option maxRecDepth 100000
set_option maxHeartbeats 4000000
/-! part K0 -/
/-! Data in the abstract heap, frames of what is kept, defs that know that no repr is under way. -/
namespace NT
open PySem PySem.Spec PyProof.Rows L2
/-! ### data at a value, off the addresses S -/
mutual
def At (S : Addr → Prop) (H : Hp) : PyData → V → Prop
  | .none, v => v = .non
  | .bool b, v => v = .bl b
  | .int i, v => v = .int i
  | .str x, v => v = .str x
  | .list ds, v => ∃ p xs, v = .ref p ∧ ¬ S p ∧ H p = some (.lst xs) ∧ AtL S H ds xs
  | .tuple ds, v => ∃ p xs, v = .ref p ∧ ¬ S p ∧ H p = some (.tup xs) ∧ AtL S H ds xs
  | .dict _, _ => False
def AtL (S : Addr → Prop) (H : Hp) : List PyData → List V → Prop
  | [], vs => vs = []
  | d :: ds, vs => ∃ v r, vs = v :: r ∧ At S H d v ∧ AtL S H ds r
end
/-- all that stood off S stands -/
def Kp (S : Addr → Prop) (H H' : Hp) : Prop := ∀ b o, H b = some o → ¬ S b → H' b = some o
abbrev No : Addr → Prop := fun _ => False
theorem Kp.refl (S : Addr → Prop) (H : Hp) : Kp S H H := fun _ _ h _ => h
theorem Kp.trans {S : Addr → Prop} {H H1 H2 : Hp} (a : Kp S H H1) (b : Kp S H1 H2) : Kp S H H2 := fun c o h n => b c o (a c o h n) n
theorem Kp.of_same {S : Addr → Prop} {H H' : Hp} (a : Same H H') : Kp S H H' := fun b o h _ => a b o h
theorem Kp.same {H H' : Hp} (a : Kp No H H') : Same H H' := fun b o h => a b o h id
theorem Kp.mono {S T : Addr → Prop} {H H' : Hp} (a : Kp S H H') (st : ∀ b, S b → T b) : Kp T H H' := fun b o h n => a b o h fun z => n (st b z)
theorem Kp.upd_new {S : Addr → Prop} {H : Hp} {p : Addr} {o : HO} (h : H p = none) : Kp S H (upd H p o) := fun b u e _ => by
  rw [upd_ne (ne_of_none e h)]
  exact e
theorem Kp.upd_in {S : Addr → Prop} {H : Hp} {p : Addr} {o : HO} (h : S p) : Kp S H (upd H p o) := fun b u e n => by
  have hb : b ≠ p := fun z => n (by rw [z]; exact h)
  rw [upd_ne hb]
  exact e
theorem same_new {H : Hp} {p : Addr} {o : HO} (h : H p = none) : Same H (upd H p o) := fun b u e => by
  rw [upd_ne (ne_of_none e h)]
  exact e
/-- new things do not come where something stands -/
theorem Same.none {H H' : Hp} (e : Same H H') {l : Addr} (h : H' l = none) : H l = none := e.free h
theorem Kp.none {S : Addr → Prop} {H H' : Hp} (e : Kp S H H') {l : Addr} (h : H' l = none) (n : ¬ S l) : H l = none := by
  cases q : H l with
  | none => rfl
  | some o =>
    have z := e l o q n
    rw [h] at z
    cases z
mutual
theorem At.kp {S : Addr → Prop} {H H' : Hp} (k : Kp S H H') : ∀ {d : PyData} {v : V}, At S H d v → At S H' d v
  | .none, _, h => h
  | .bool _, _, h => h
  | .int _, _, h => h
  | .str _, _, h => h
  | .list ds, v, h => by
    unfold At at h ⊢
    obtain ⟨p, xs, e, n, hp, ha⟩ := h
    exact ⟨p, xs, e, n, k _ _ hp n, AtL.kp k ha⟩
  | .tuple ds, v, h => by
    unfold At at h ⊢
    obtain ⟨p, xs, e, n, hp, ha⟩ := h
    exact ⟨p, xs, e, n, k _ _ hp n, AtL.kp k ha⟩
  | .dict _, _, h => h.elim
theorem AtL.kp {S : Addr → Prop} {H H' : Hp} (k : Kp S H H') : ∀ {ds : List PyData} {vs : List V}, AtL S H ds vs → AtL S H' ds vs
  | [], _, h => h
  | d :: ds, vs, h => by
    unfold AtL at h ⊢
    obtain ⟨v, r, e, h1, h2⟩ := h
    exact ⟨v, r, e, At.kp k h1, AtL.kp k h2⟩
end
mutual
theorem At.off {S T : Addr → Prop} {H : Hp} (st : ∀ b o, H b = some o → T b → S b) : ∀ {d : PyData} {v : V}, At S H d v → At T H d v
  | .none, _, h => h
  | .bool _, _, h => h
  | .int _, _, h => h
  | .str _, _, h => h
  | .list ds, v, h => by
    unfold At at h ⊢
    obtain ⟨p, xs, e, n, hp, ha⟩ := h
    exact ⟨p, xs, e, fun z => n (st _ _ hp z), hp, AtL.off st ha⟩
  | .tuple ds, v, h => by
    unfold At at h ⊢
    obtain ⟨p, xs, e, n, hp, ha⟩ := h
    exact ⟨p, xs, e, fun z => n (st _ _ hp z), hp, AtL.off st ha⟩
  | .dict _, _, h => h.elim
theorem AtL.off {S T : Addr → Prop} {H : Hp} (st : ∀ b o, H b = some o → T b → S b) : ∀ {ds : List PyData} {vs : List V}, AtL S H ds vs → AtL T H ds vs
  | [], _, h => h
  | d :: ds, vs, h => by
    unfold AtL at h ⊢
    obtain ⟨v, r, e, h1, h2⟩ := h
    exact ⟨v, r, e, At.off st h1, AtL.off st h2⟩
end
theorem At.no {S : Addr → Prop} {H : Hp} {d : PyData} {v : V} (h : At S H d v) : At No H d v := h.off fun _ _ _ z => z.elim
theorem AtL.no {S : Addr → Prop} {H : Hp} {d : List PyData} {v : List V} (h : AtL S H d v) : AtL No H d v := h.off fun _ _ _ z => z.elim
theorem AtL.length {S : Addr → Prop} {H : Hp} : ∀ {ds : List PyData} {vs : List V}, AtL S H ds vs → vs.length = ds.length
  | [], vs, h => by
    unfold AtL at h
    rw [h]
    rfl
  | d :: ds, vs, h => by
    unfold AtL at h
    obtain ⟨v, r, rfl, _, h2⟩ := h
    rw [List.length_cons, List.length_cons, h2.length]
theorem AtL.get {S : Addr → Prop} {H : Hp} : ∀ {ds : List PyData} {vs : List V} {i : Nat} {d : PyData}, AtL S H ds vs → ds[i]? = some d → ∃ v, vs[i]? = some v ∧ At S H d v
  | [], _, _, _, _, e => by simp at e
  | d :: ds, vs, 0, d', h, e => by
    unfold AtL at h
    obtain ⟨v, r, rfl, h1, _⟩ := h
    have q : d = d' := by simpa using e
    exact ⟨v, rfl, q ▸ h1⟩
  | d :: ds, vs, i + 1, d', h, e => by
    unfold AtL at h
    obtain ⟨v, r, rfl, _, h2⟩ := h
    obtain ⟨u, e1, e2⟩ := h2.get (i := i) (by simpa using e)
    exact ⟨u, by simpa using e1, e2⟩
theorem AtL.append {S : Addr → Prop} {H : Hp} : ∀ {ds es : List PyData} {vs us : List V}, AtL S H ds vs → AtL S H es us → AtL S H (ds ++ es) (vs ++ us)
  | [], _, _, _, h, g => by
    unfold AtL at h
    rw [h]
    exact g
  | d :: ds, es, vs, us, h, g => by
    unfold AtL at h
    obtain ⟨v, r, rfl, h1, h2⟩ := h
    show AtL S H (d :: (ds ++ es)) (v :: (r ++ us))
    unfold AtL
    exact ⟨v, _, rfl, h1, h2.append g⟩
theorem AtL.take {S : Addr → Prop} {H : Hp} : ∀ {ds : List PyData} {vs : List V} (n : Nat), AtL S H ds vs → AtL S H (ds.take n) (vs.take n)
  | _, _, 0, _ => by
    show AtL S H [] []
    unfold AtL
    rfl
  | [], vs, n + 1, h => by
    unfold AtL at h
    rw [h]
    show AtL S H [] []
    unfold AtL
    rfl
  | d :: ds, vs, n + 1, h => by
    unfold AtL at h
    obtain ⟨v, r, rfl, h1, h2⟩ := h
    show AtL S H (d :: ds.take n) (v :: r.take n)
    unfold AtL
    exact ⟨v, _, rfl, h1, h2.take n⟩
theorem AtL.drop {S : Addr → Prop} {H : Hp} : ∀ {ds : List PyData} {vs : List V} (n : Nat), AtL S H ds vs → AtL S H (ds.drop n) (vs.drop n)
  | _, _, 0, h => h
  | [], vs, n + 1, h => by
    unfold AtL at h
    rw [h]
    show AtL S H [] []
    unfold AtL
    rfl
  | d :: ds, vs, n + 1, h => by
    unfold AtL at h
    obtain ⟨v, r, rfl, h1, h2⟩ := h
    exact h2.drop n
theorem atl_nil {S : Addr → Prop} {H : Hp} : AtL S H [] [] := by
  unfold AtL
  rfl
theorem atl_cons {S : Addr → Prop} {H : Hp} {d : PyData} {ds : List PyData} {v : V} {vs : List V} (h : At S H d v) (r : AtL S H ds vs) : AtL S H (d :: ds) (v :: vs) := by
  unfold AtL
  exact ⟨v, vs, rfl, h, r⟩
theorem AtL.snoc {S : Addr → Prop} {H : Hp} {d : PyData} {ds : List PyData} {v : V} {vs : List V} (r : AtL S H ds vs) (h : At S H d v) : AtL S H (ds ++ [d]) (vs ++ [v]) := r.append (atl_cons h atl_nil)
theorem at_int {S : Addr → Prop} {H : Hp} {i : Int} : At S H (.int i) (.int i) := by
  unfold At
  rfl
theorem at_str {S : Addr → Prop} {H : Hp} {x : Str} : At S H (.str x) (.str x) := by
  unfold At
  rfl
theorem at_non {S : Addr → Prop} {H : Hp} : At S H .none .non := by
  unfold At
  rfl
theorem at_bl {S : Addr → Prop} {H : Hp} {b : Bool} : At S H (.bool b) (.bl b) := by
  unfold At
  rfl
theorem at_tup {S : Addr → Prop} {H : Hp} {p : Addr} {xs : List V} {ds : List PyData} (n : ¬ S p) (hp : H p = some (.tup xs)) (h : AtL S H ds xs) : At S H (.tuple ds) (.ref p) := by
  unfold At
  exact ⟨p, xs, rfl, n, hp, h⟩
theorem at_lst {S : Addr → Prop} {H : Hp} {p : Addr} {xs : List V} {ds : List PyData} (n : ¬ S p) (hp : H p = some (.lst xs)) (h : AtL S H ds xs) : At S H (.list ds) (.ref p) := by
  unfold At
  exact ⟨p, xs, rfl, n, hp, h⟩
theorem At.tup {S : Addr → Prop} {H : Hp} {ds : List PyData} {v : V} (h : At S H (.tuple ds) v) : ∃ p xs, v = .ref p ∧ ¬ S p ∧ H p = some (.tup xs) ∧ AtL S H ds xs := by
  unfold At at h
  exact h
theorem At.lst {S : Addr → Prop} {H : Hp} {ds : List PyData} {v : V} (h : At S H (.list ds) v) : ∃ p xs, v = .ref p ∧ ¬ S p ∧ H p = some (.lst xs) ∧ AtL S H ds xs := by
  unfold At at h
  exact h
theorem At.int {S : Addr → Prop} {H : Hp} {i : Int} {v : V} (h : At S H (.int i) v) : v = .int i := by
  unfold At at h
  exact h
theorem At.str {S : Addr → Prop} {H : Hp} {i : Str} {v : V} (h : At S H (.str i) v) : v = .str i := by
  unfold At at h
  exact h
theorem AtL.cons {S : Addr → Prop} {H : Hp} {d : PyData} {ds : List PyData} {vs : List V} (h : AtL S H (d :: ds) vs) : ∃ v r, vs = v :: r ∧ At S H d v ∧ AtL S H ds r := by
  unfold AtL at h
  exact h
theorem AtL.nil {S : Addr → Prop} {H : Hp} {vs : List V} (h : AtL S H [] vs) : vs = [] := by
  unfold AtL at h
  exact h
/-! ### data at the machine's values -/
mutual
theorem At.reads {S : Addr → Prop} {P : Program} {w : World} {H : Hp} {h : Heap} (ok : HOk P w H h) : ∀ {d : PyData} {v : V} {u : Value}, At S H d v → RelV v u → ∃ as, Reads h u d as
  | .none, v, u, a, r => by
    unfold At at a
    subst a
    obtain rfl : u = Value.none := r
    exact ⟨_, .none⟩
  | .bool b, v, u, a, r => by
    unfold At at a
    subst a
    obtain rfl : u = Value.bool b := r
    exact ⟨_, .bool b⟩
  | .int i, v, u, a, r => by
    unfold At at a
    subst a
    obtain ⟨t, rfl⟩ := r
    exact ⟨_, .int i t⟩
  | .str x, v, u, a, r => by
    unfold At at a
    subst a
    obtain ⟨t, rfl⟩ := r
    exact ⟨_, .str x t⟩
  | .list ds, v, u, a, r => by
    obtain ⟨p, xs, rfl, _, hp, hl⟩ := a.lst
    obtain rfl : u = Value.ref p := r
    obtain ⟨_, its, n, rv, e⟩ := ok _ _ hp
    obtain ⟨as, ra⟩ := AtL.reads ok hl rv
    exact ⟨_, .list e rfl rfl (by simpa using ra)⟩
  | .tuple ds, v, u, a, r => by
    obtain ⟨p, xs, rfl, _, hp, hl⟩ := a.tup
    obtain rfl : u = Value.ref p := r
    obtain ⟨_, its, rv, o, e, ec, n, ed⟩ := ok _ _ hp
    obtain ⟨as, ra⟩ := AtL.reads ok hl rv
    exact ⟨_, .tuple e ec ed (by simpa using ra)⟩
  | .dict _, _, _, a, _ => by
    unfold At at a
    exact a.elim
theorem AtL.reads {S : Addr → Prop} {P : Program} {w : World} {H : Hp} {h : Heap} (ok : HOk P w H h) : ∀ {ds : List PyData} {vs : List V} {us : List Value}, AtL S H ds vs → Vals vs us → ∃ as, ReadsAll h us ds as
  | [], vs, us, a, r => by
    unfold AtL at a
    subst a
    cases r
    exact ⟨_, .nil⟩
  | d :: ds, vs, us, a, r => by
    obtain ⟨v, q, rfl, h1, h2⟩ := a.cons
    cases r with
    | cons r1 r2 =>
      obtain ⟨as, e1⟩ := At.reads ok h1 r1
      obtain ⟨bs, e2⟩ := AtL.reads ok h2 r2
      exact ⟨_, .cons e1 e2⟩
end
end NT
/-! part K1 -/
/-! Defs that are called where no repr is under way; repr of data; the law's call. -/
namespace NT
open PySem PySem.Spec PyProof.Rows L2
/-! ### repr of data -/
def Rp (d : PyData) : Prop := d.showable = true ∧ d.hasDict = false ∧ d.depth ≤ 20 ∧ d.shown.length ≤ sizeLine
theorem call_repr_data {X : Cx} (hg : X.A.guards = some []) (hu : X.A.units + 64 < cLine) : CallR X (.builtin "repr") (fun xs H Q => ∃ v d, xs = [v] ∧ At No H d v ∧ Rp d ∧ Q (.str d.shown) H) := by
  intro pins s σ H xs us Q I r h
  obtain ⟨v, d, rfl, ha, ⟨h1, h2, h3, h4⟩, q⟩ := h
  obtain ⟨u, rfl, rv⟩ := vals1 r
  obtain ⟨as, hr⟩ := ha.reads I.hok rv
  cases hr with
  | none => exact PySem.P.repr_of_none ⟨.str _, H, I.tok _, ⟨_, rfl⟩, q⟩
  | bool b => exact PySem.P.repr_of_bool ⟨.str _, H, I.tok _, ⟨_, rfl⟩, q⟩
  | int i t => exact PySem.P.repr_of_int (by simpa [PyData.showable] using h1) ⟨.str _, H, I.tok _, ⟨_, rfl⟩, q⟩
  | str x t => exact PySem.P.repr_of_str ⟨.str _, H, I.tok _, ⟨_, rfl⟩, q⟩ h4
  | list e1 e2 e3 e4 =>
    exact repr_of_reads' (.list e1 e2 e3 e4) h1 (PyData.noDict_hsm h2) hg (by omega) (fun _ _ e => e) (fun h' u tk k => ⟨.str _, H, I.kept k, ⟨_, rfl⟩, q⟩) h4
  | tuple e1 e2 e3 e4 =>
    exact repr_of_reads' (.tuple e1 e2 e3 e4) h1 (PyData.noDict_hsm h2) hg (by omega) (fun _ _ e => e) (fun h' u tk k => ⟨.str _, H, I.kept k, ⟨_, rfl⟩, q⟩) h4
  | dict => unfold At at ha; exact ha.elim
/-! ### a def that is called where no repr is under way -/
structure FnG (P : Program) (w : World) (K : PySem.W.Frag) (mg : Str → Option Value) (base : Heap) (CX : CXT) (k : Nat) (f : Addr) (fd : FuncData) (ps : List Str) (sp : Sp) : Prop where
  len : ∀ vs H Q E, sp vs H Q E → vs.length = ps.length
  run : ∀ (A : Around) (outer : List Env) (s : Shared) (H : Hp) (args : Args) (us : List Value) (vs : List V) (Q : VK) (E : XK), A.guards = some [] → Room k A → Env0 P w K mg base A outer s H → BindsTo s fd args (ps.zip us) → Vals vs us → sp vs H Q E →
    codeAny (model P w) A (.call (.ref f) args) (CR CX outer P w H s Q E) s
theorem FnOk.toG {P : Program} {w : World} {K : PySem.W.Frag} {mg : Str → Option Value} {base : Heap} {CX : CXT} {k : Nat} {f : Addr} {fd : FuncData} {ps : List Str} {sp : Sp} (F : FnOk P w K mg base CX k f fd ps sp) : FnG P w K mg base CX k f fd ps sp :=
  ⟨F.len, fun A outer s H args us vs Q E _ => F.run A outer s H args us vs Q E⟩
theorem guards_deeper {A : Around} {env : Env} (h : A.guards = some []) : (A.deeper env).guards = some [] := h
/-- a def by its body, no repr under way -/
theorem Fun.okG {P : Program} {w : World} {K : PySem.W.Frag} {mg : Str → Option Value} {base : Heap} {x qual : Str} {st : Stmt} {f : Addr} {fd : FuncData} {N ps : List Str} {k : Nat} {sp : Sp} (F : Fun K x qual st f fd) (S : FnScope N ps (defScope st))
    (len : ∀ vs H Q E, sp vs H Q E → vs.length = ps.length)
    (hbody : ∀ (cdv : Value) (A : Around) (outer : List Env) (s : Shared) (H : Hp) (vs : List V) (Q : VK) (E : XK), (A.deeper (envOfC qual (defScope st) s.heap.objs.size f cdv)).guards = some [] → Room k (A.deeper (envOfC qual (defScope st) s.heap.objs.size f cdv)) → sp vs H Q E →
      ∃ t, PSs (cxOf CX0 P w K mg base N qual (defScope st) f cdv A outer s H E).nox (defBody st) t ∧ t { nx := fun _ H' => Q .non H', rt := Q } (start N vs) H) : FnG P w K mg base CX0 (k + 1) f fd ps sp := by
  obtain ⟨oc, od, kV, doc, pm, an, cdv, ct, osl, rfl, lk, hcd⟩ := F.ex
  refine ⟨len, fun A outer s H args us vs Q E hg hr e0 hb r hsp => ?_⟩
  have KX : K.In s.heap := e0.mod.kin.keeps fun b o e => (e0.bs b o e).1
  have lim : s.heap.NoLimit := e0.mod.nolimit.keeps fun b o e => (e0.bs b o e).1
  have pk : ∀ y ∈ ps.zip us, (defScope st).names.lookup y.1 = some .local ∨ ((defScope st).names.lookup y.1 = some .cell ∧ ((cellsFrom (s.heap.objs.size + 1) (defScope st).names []).lookup y.1).isSome = true) := by
    rintro ⟨n, v⟩ hy
    rcases S.par n (List.of_mem_zip hy).1 with z | z
    · exact .inl z
    · exact .inr ⟨z, PySem.W.cellsFrom_some _ _ _ (.inl z)⟩
  refine codeAny_call_function hr.depth (KX _ _ lk) rfl S.co S.gen rfl (PySem.W.codeRec_of KX hcd) (hb _ _ _ _ (wpAny_newFunctionEnv_cells S.kind pk fun env he s1 y => ?_))
  subst he
  refine ⟨lim.keeps y.toInCall.keep, codeAny_func ?_⟩
  obtain ⟨t, ht, hq⟩ := hbody cdv A outer s H vs Q E hg (hr.deeper _) hsp
  have I : Inv (cxOf CX0 P w K mg base N qual (defScope st) f cdv A outer s H E) [] (start N vs) H s1 := inv_start S hr.hd e0 (len _ _ _ _ hsp) r y
  refine wpAny_mono (ht.nox.run [] s1 (start N vs) H _ I hq) (fun fl s' hs => ?_) fun e s' hs => hs
  match fl, hs with
  | .ret u, ⟨v, σ', H', J, rv, q⟩ => exact ⟨v, H', J.os, J.bare, J.base, J.hok, rv, q⟩
  | .next, ⟨σ', H', J, q⟩ => exact ⟨V.non, H', J.os, J.bare, J.base, J.hok, rfl, q⟩
  | .brk, ⟨_, _, _, q⟩ => exact q.elim
  | .cont, ⟨_, _, _, q⟩ => exact q.elim
section
variable {X : Cx} {CX : CXT} {k : Nat} {f : Addr} {fd : FuncData} {ps : List Str} {sp : Sp} {E : XK} {x : Str} {p pos : Pos} {e : Expr} {es : List Expr} {t : TA}
/-- f(..) of such a def -/
theorem pe_callG (F : FnG X.prog X.w X.K X.mg X.base CX k f fd ps sp) (hgd : X.A.guards = some []) (hr : Room k X.A) (hg : Gl X x) (hm : X.mg x = some (.ref f)) (hk : PySem.W.keepIn X.K (.ref f) = true) (hb : Binds X.K fd ps []) (hx : Passes CX X E)
    (ha : PA X (e :: es) t) (hdb : (x == ("__debug__" : Str)) = false := by decide) (he : starEach (e :: es) X.env = (false, eval e X.env) :: starEach es X.env := by rfl) (hpl : (backTo pos (starEach es X.env)).any (·.1) = false := by rfl) :
    PE X (.Call (.Name x p) (e :: es) [] pos) (tCall sp [] E t) := by
  refine ⟨fun pins s σ H Q I h => wpAny_Call_Name_kw (ld_glob I hg hm ?_ hdb)⟩
  refine PySem.W.callWith_K (h₀ := X.base) I.ok.mod.kin hk (thn (ha.run pos pins s σ H _ I h) fun us s1 ⟨vs, H1, I1, r, q⟩ => ⟨I1.kIn, ?_⟩) he hpl
  replace q : sp (vs ++ []) H1 Q E := q
  rw [List.append_nil] at q
  have hl : us.length = ps.length := by
    rw [← r.length]
    exact F.len _ _ _ _ q
  have hb2 := hb s1 us I1.kIn (by rw [List.append_nil]; exact hl)
  rw [List.append_nil] at hb2
  refine wpAny_call (codeAny_mono (F.run X.A X.stack s1 H1 ⟨us, []⟩ us vs Q E hgd hr I1.env0 hb2 r q) fun res s' hq => ?_)
  match res, hq with
  | .error er, hq => exact hx pins σ H1 s1 er s' I1 hq
  | .ok (.ret u), hq => exact I1.after hq
end
/-! ### the law's own call -/
theorem law_callG {P : Program} {w : World} {K : PySem.W.Frag} {mg mb : Str → Option Value} {k : Nat} {fa a : Addr} {fd : FuncData} {x : Str} {sp : Sp} {s₁ : Shared} {vs : List Value} {ns : List Int}
    (KX : K.In s₁.heap) (hns : s₁.heap.Ns mainGlobals mg) (hb : s₁.heap.Ns builtinsNs mb) (hbb : ∀ x : Str, x ≠ "__name__" → mb x = bootBuiltins x) (hlim : s₁.heap.NoLimit) (hg : s₁.gens = #[])
    (ha : s₁.heap.get? a = some { cls := .type "list", data := .seq vs.toArray }) (hi : IntsAre vs ns) (hl : ns.length ≤ sizeLine) (hr : Room k callerA)
    (F : ∀ base : Heap, K.In base → base.Ns mainGlobals mg → FnG P w K mg base CX0 k fa fd [x] sp) (hbind : ∀ (s : Shared) (u : Value), BindsTo s fd ⟨[u], []⟩ [(x, u)])
    (hsp : ∀ H : Hp, Only H → SqL K H a (ns.map V.int) → sp [.ref a] H (fun v _ => v = .bl true) E0) :
    codeAny (model P w) callerA (.call (.ref fa) ⟨[.ref a], []⟩) (fun r s' => r = .ok (.ret (.bool true)) ∧ OldK s₁.heap s'.heap ∧ s'.os = s₁.os ∧ AllBare s'.gens) s₁ := by
  have rv : Vals (ns.map V.int) vs := vals_ints hi
  -- H: what is tracked at the call: the script alone, or nothing where the script is the module's own
  have main : ∀ H : Hp, Only H → SqL K H a (ns.map V.int) → HOk P w H s₁.heap → (∀ b u, H b = some u → b = a ∧ K.lookup a = none) →
      codeAny (model P w) callerA (.call (.ref fa) ⟨[.ref a], []⟩) (fun r s' => r = .ok (.ret (.bool true)) ∧ OldK s₁.heap s'.heap ∧ s'.os = s₁.os ∧ AllBare s'.gens) s₁ := fun H hO hS ok only => by
    have clear : ∀ {b : Addr} {o : Obj}, s₁.heap.get? b = some o → b ≠ a → (hidT s₁.heap H).get? b = some o := fun {b o} e n => hidT_get e (by
      match q : H b with
      | none => rfl
      | some u => exact absurd (only b u q).1 n)
    have dicts : ∀ {b : Addr} {m : Str → Option Value}, s₁.heap.Ns b m → (hidT s₁.heap H).Ns b m := fun {b m} h => by
      obtain ⟨o, es, ep, e, d, z⟩ := h
      refine ⟨o, es, ep, clear e fun eb => ?_, d, z⟩
      subst eb
      rw [e] at ha
      obtain rfl := Option.some.inj ha
      cases d
    have KB : K.In (hidT s₁.heap H) := fun b o e => by
      refine hidT_get (KX b o e) ?_
      match q : H b with
      | none => rfl
      | some u =>
        obtain ⟨rfl, z⟩ := only b u q
        rw [z] at e
        cases e
    obtain ⟨mc, l1, l2⟩ := hlim
    have M : Mod K mg (hidT s₁.heap H) := ⟨KB, dicts hns, ⟨mb, dicts hb, hbb⟩, mc, dicts l1, l2⟩
    have nofr : ∀ b ∈ frs ([] : List Env), H b = none := fun b z => absurd z (by simp [frs])
    have e0 : Env0 P w K mg (hidT s₁.heap H) callerA [] s₁ H := ⟨rfl, M, fun _ _ e => of_hidT e, Nat.le_of_eq (hidT_size _ _), trivial, nofr, ok, .of_eq hg⟩
    refine codeAny_mono ((F _ KB (dicts hns)).run callerA [] s₁ H ⟨[.ref a], []⟩ [.ref a] [.ref a] _ _ rfl hr e0 (hbind s₁ (.ref a)) (.cons rfl .nil) (hsp H hO hS)) fun r s' h => ?_
    match r, h with
    | .error e, h => exact h.elim
    | .ok (.ret u), ⟨v, H', os, bare, un, ok', rr, q⟩ =>
      replace q : v = V.bl true := q
      subst q
      replace rr : u = Value.bool true := rr
      subst rr
      refine ⟨rfl, OldK.of_keep fun b o e => ?_, os, bare⟩
      rcases hO b with z | ⟨ob, xs, z⟩
      · exact un.keep b o e z (by simp [frs]) (by simp)
      · have now := (ok' b _ (un.frzs b ob _ z)).1
        have was := (ok b _ z).1
        rw [was] at e
        rw [now, ← e]
  match hk : K.lookup a with
  | some o =>
    have e := KX a o hk
    rw [ha] at e
    obtain rfl := Option.some.inj e
    exact main (fun _ => none) (fun _ => .inl rfl) (.inr ⟨_, vs.toArray, _, hk, rfl, rfl, rfl, by rw [List.size_toArray, hi.length]; exact hl, by simpa using rv⟩) (fun b u z => by cases z) (fun b u z => by cases z)
  | none =>
    let o : Obj := { cls := .type "list", data := .seq vs.toArray }
    have at_a : upd (fun _ => none) a (.frz o (.lst (ns.map V.int))) a = some (.frz o (.lst (ns.map V.int))) := upd_same
    have off : ∀ {b : Addr}, b ≠ a → upd (fun _ => none) a (.frz o (.lst (ns.map V.int))) b = none := fun hb => by rw [upd_ne hb]
    refine main (upd (fun _ => none) a (.frz o (.lst (ns.map V.int)))) (fun b => ?_) (.inl (.inr ⟨o, at_a⟩)) (fun b u z => ?_) (fun b u z => ?_)
    · by_cases hb : b = a
      · exact .inr ⟨o, _, by rw [hb]; exact at_a⟩
      · exact .inl (off hb)
    · by_cases hb : b = a
      · subst hb
        rw [at_a] at z
        obtain rfl := Option.some.inj z
        exact ⟨ha, by rw [List.length_map]; exact hl, vs, _, rv, ha⟩
      · rw [off hb] at z
        cases z
    · by_cases hb : b = a
      · exact ⟨hb, hk⟩
      · rw [off hb] at z
        cases z
/-- the law's row from its promise -/
theorem walkG {l : PySem.W.OpenLaw} {n k : Nat} {q : Program} {loose : List Str} {XP : (Str → Option Value) → Heap → Prop} {YP : World → Heap → Prop} {d : DefRec} {K : Params → PySem.W.Frag} {sp : PySem.W.Frag → Sp} {x : Str}
    (hn : l.most = some n) (hn2 : n ≤ sizeLine) (hdf : d.params.defaults = []) (hr : Room k callerA)
    (hY : ∀ (w : World) (h : Heap), YP w h → (K w.params).In h)
    (F : ∀ (w : World) (mg : Str → Option Value) (fa : Addr) (h : Heap), (K w.params).In h → h.Ns mainGlobals mg → mg d.name = some (.ref fa) →
      ∃ fd : FuncData, (∀ (s : Shared) (u : Value), BindsTo s fd ⟨[u], []⟩ [(x, u)]) ∧
        ∀ base : Heap, (K w.params).In base → base.Ns mainGlobals mg → FnG l.prog w (K w.params) mg base CX0 k fa fd [x] (sp (K w.params)))
    (hsp : ∀ (K : PySem.W.Frag) (H : Hp) (a : Addr) (ns : List Int), ns.length ≤ n → Only H → SqL K H a (ns.map V.int) → sp K [.ref a] H (fun v _ => v = .bl true) E0) :
    PySem.W.WalkO q loose XP YP l.row.toRowW d [] (fun f vs => PySem.call f vs) := by
  refine Att.attach_call hn hdf fun w s₀ s₁ mg mb fa o pm cd doc a vs ns G Y _ _ _ hmg hobj hints hlen hg => ?_
  obtain ⟨fd, hb, hF⟩ := F w mg fa _ (hY w _ Y) G.T.g hmg
  exact law_callG (hY w _ Y) G.T.g G.T.b G.T.builtins G.T.nolimit hg hobj hints (Nat.le_trans hlen hn2) hr hF hb fun H hO hS => hsp _ H a ns hlen hO hS
end NT
/-! part K2 -/
/-! A def of the text by its name alone. -/
namespace NT
open PySem PySem.Spec PyProof.Rows L2
/-- the def x stands, and keeps sp -/
def Ok (P : Program) (w : World) (K : PySem.W.Frag) (mg : Str → Option Value) (base : Heap) (CX : CXT) (k : Nat) (x : Str) (ps : List Str) (sp : Sp) : Prop :=
  ∃ f fd, FnOk P w K mg base CX k f fd ps sp ∧ mg x = some (.ref f) ∧ PySem.W.keepIn K (.ref f) = true ∧ L2.Binds K fd ps []
def OkG (P : Program) (w : World) (K : PySem.W.Frag) (mg : Str → Option Value) (base : Heap) (CX : CXT) (k : Nat) (x : Str) (ps : List Str) (sp : Sp) : Prop :=
  ∃ f fd, FnG P w K mg base CX k f fd ps sp ∧ mg x = some (.ref f) ∧ PySem.W.keepIn K (.ref f) = true ∧ L2.Binds K fd ps []
theorem Ok.toG {P : Program} {w : World} {K : PySem.W.Frag} {mg : Str → Option Value} {base : Heap} {CX : CXT} {k : Nat} {x : Str} {ps : List Str} {sp : Sp} (F : Ok P w K mg base CX k x ps sp) : OkG P w K mg base CX k x ps sp := by
  obtain ⟨f, fd, F, r⟩ := F
  exact ⟨f, fd, FnOk.toG F, r⟩
theorem Ok.imp {P : Program} {w : World} {K : PySem.W.Frag} {mg : Str → Option Value} {base : Heap} {CX : CXT} {k : Nat} {x : Str} {ps : List Str} {sp sp' : Sp} (F : Ok P w K mg base CX k x ps sp) (h : ∀ vs H Q E, sp' vs H Q E → sp vs H Q E) : Ok P w K mg base CX k x ps sp' := by
  obtain ⟨f, fd, F, r⟩ := F
  exact ⟨f, fd, F.imp h, r⟩
section
variable {X : Cx} {CX : CXT} {j k : Nat} {ps : List Str} {sp : Sp} {E : XK} {x : Str} {p pos : Pos} {e : Expr} {es : List Expr} {t : TA}
theorem pe_d (D : Ok X.prog X.w X.K X.mg X.base CX k x ps sp) (hr : Room j X.A) (hx : Passes CX X E) (ha : PA X (e :: es) t) (hjk : k ≤ j := by decide) (hg : Gl X x := by rfl) (hdb : (x == ("__debug__" : Str)) = false := by decide)
    (he : starEach (e :: es) X.env = (false, eval e X.env) :: starEach es X.env := by rfl) (hpl : (backTo pos (starEach es X.env)).any (·.1) = false := by rfl) : PE X (.Call (.Name x p) (e :: es) [] pos) (tCall sp [] E t) := by
  obtain ⟨f, fd, F, g, kp, b⟩ := D
  exact pe_call F (hr.mono hjk) hg g kp b .nil hx ha hdb he hpl
theorem pe_d0 (D : Ok X.prog X.w X.K X.mg X.base CX k x ps sp) (hr : Room j X.A) (hx : Passes CX X E) (hjk : k ≤ j := by decide) (hg : Gl X x := by rfl) (hdb : (x == ("__debug__" : Str)) = false := by decide) : PE X (.Call (.Name x p) [] [] pos) (tCall sp [] E tNil) := by
  obtain ⟨f, fd, F, g, kp, b⟩ := D
  exact pe_call0 F (hr.mono hjk) hg g kp b .nil hx hdb
theorem pe_dG (D : OkG X.prog X.w X.K X.mg X.base CX k x ps sp) (hgd : X.A.guards = some []) (hr : Room j X.A) (hx : Passes CX X E) (ha : PA X (e :: es) t) (hjk : k ≤ j := by decide) (hg : Gl X x := by rfl) (hdb : (x == ("__debug__" : Str)) = false := by decide)
    (he : starEach (e :: es) X.env = (false, eval e X.env) :: starEach es X.env := by rfl) (hpl : (backTo pos (starEach es X.env)).any (·.1) = false := by rfl) : PE X (.Call (.Name x p) (e :: es) [] pos) (tCall sp [] E t) := by
  obtain ⟨f, fd, F, g, kp, b⟩ := D
  exact pe_callG F hgd (hr.mono hjk) hg g kp b hx ha hdb he hpl
end
/-! ### items -/
theorem map_get {α β : Type} {f : α → β} {l : List α} {i : Nat} {x : β} (h : (l.map f)[i]? = some x) : ∃ k, l[i]? = some k ∧ x = f k := by
  rw [List.getElem?_map] at h
  cases e : l[i]? with
  | none =>
    rw [e] at h
    cases h
  | some k =>
    rw [e] at h
    exact ⟨k, rfl, (Option.some.inj h).symm⟩
theorem get_lt {α : Type} {l : List α} {i : Nat} {x : α} (h : l[i]? = some x) : i < l.length := (List.getElem?_eq_some_iff.mp h).1
theorem small_sz {n m : Nat} (h : n ≤ m) (hm : m ≤ 16777216) : n ≤ sizeLine := by
  rw [sizeLine_eq]
  omega
theorem small_lt {n m : Nat} (h : n ≤ m) (hm : m < 16777216) : n < sizeLine := by
  rw [sizeLine_eq]
  omega
/-! ### a while, its end told once -/
theorem while_m {c : TT} {tb : TS} {D : Ends} {σ : L2.St} {H : Hp} (Pv : Nat → L2.St → Hp → Prop) (Pe : L2.St → Hp → Prop) (h0 : ∃ m, Pv m σ H) (he : ∀ σ H, Pe σ H → D.nx σ H)
    (hs : ∀ nx : L2.St → Hp → Prop, (∀ σ H, Pe σ H → nx σ H) → ∀ m σ H, Pv m σ H → c σ H fun b H1 => if b = true then ∃ N : L2.St → Hp → Prop, (∀ σ' H', N σ' H' → ∃ m', m' < m ∧ Pv m' σ' H') ∧ tb { nx := N, rt := D.rt, bk := nx, ct := N } σ H1 else nx σ H1) :
    tWhile c tb D σ H := ⟨Pv, h0, fun m σ H p => hs D.nx he m σ H p⟩
end NT
/-! part SupInit -/
/-! An own exception's __init__ that says super().__init__(a text) first, walked as a def: its promise. -/
namespace SupX
open PySem PySem.Spec PyProof.Rows L2 NdefX
/-- the first statement: super().__init__(text) -/
def sSup (p0 p1 p2 p3 p4 p5 : Pos) (txt : Str) (j : Nat) : Stmt :=
  .Expr (.Call (.Attribute (.Call (.Name "super" p0) [] [] p1) "__init__" p2) [.Constant (.str txt) j p3] [] p4) p5
theorem env_eq (F : NF) (f L : Addr) (dV kV doc pm ct : Value) (an : Option Addr) :
    callEnv (PySem.W.fnX F.name F.qual F.params F.body F.scope F.cl dV kV doc pm an (.ref F.c) ct) L f = envF F f L := rfl
section
variable {CX : CXT} {P : Program} {w : World} {K : PySem.W.Frag} {mg : Str → Option Value} {base : Heap} {N ps : List Str} {F : NF} {f cc C : Addr} {k : Nat} {sp : Sp}
theorem fn_super {oc dV kV doc pm ct ccl cl' : Value} {od an cdd cld : Option Addr} {osl ccs csl : Array (Option Value)} {vs0 : Array Value} {file : Str} {tf : Tok} {cdD : ClassData} {ar : Arg}
    {p0 p1 p2 p3 p4 p5 : Pos} {txt : Str} {j : Nat} {rest : List Stmt}
    (lk : K.lookup f = some ⟨oc, od, .func (PySem.W.fnX F.name F.qual F.params F.body F.scope F.cl dV kV doc pm an (.ref F.c) ct), osl⟩)
    (hcl : F.cl = [(("__class__" : Str), cc)])
    (hbody : F.body = sSup p0 p1 p2 p3 p4 p5 txt j :: rest)
    (hcode : PySem.W.codeIn K (.ref F.c) F.qual = true)
    (hco : K.lookup F.c = some ⟨ccl, cdd, .fields vs0, ccs⟩) (hvs : vs0[2]? = some (.str file tf)) (hfile : ((P.main.file : Str) == file) = true)
    (hcell : K.lookup cc = some ⟨cl', cld, .cell (some (.ref C)), csl⟩)
    (T : OexC K C) (hcls : PySem.W.clsIn K C = some cdD) (hsuper : mg "super" = none) (htop : (P.main.scope.names.lookup ("super" : Str)).isSome = false)
    (hsub : PySem.W.mroIn K C (.ref C) = some true)
    (hm : PySem.W.ks_superIn K C C "__init__" = some (some (.builtin "ValueError.__init__")))
    (hB : PySem.W.subIn K (.ref C) (.type "ValueError") = some true)
    (ho : PySem.W.nsIn K cStatics "thirdparty.any" = some none)
    (hboot : bootBuiltins "super" = some (.type "super"))
    (S : NScope N ps ["__class__"] F.scope) (hp : (F.params.posonlyargs ++ F.params.args).head? = some ar) (hps : ps[0]? = some ar.arg)
    (hks : F.scope.names.lookup ("super" : Str) = some .globalImplicit)
    {pl : Sem Bool} (hev : ∀ L, eval (.Call (.Attribute (.Call (.Name "super" p0) [] [] p1) "__init__" p2) [.Constant (.str txt) j p3] [] p4) (envF F f L) = (do
      let ov ← attributeBase (.Call (.Name "super" p0) [] [] p1) "__init__" (envF F f L) (eval (.Call (.Name "super" p0) [] [] p1) (envF F f L))
      standAt p2.atName
      let (f', first) ← holding [ov] (getMethod ov "__init__" pl)
      callWith p4 f' first (backTo p4 (starEach [.Constant (.str txt) j p3] (envF F f L))) []))
    (hst : ∀ L, interactive (envF F f L) = false) (hsw : ∀ L, swapsWith (.Call (.Attribute (.Call (.Name "super" p0) [] [] p1) "__init__" p2) [.Constant (.str txt) j p3] [] p4) none p5.line (envF F f L) = pure false)
    (len : ∀ vs H Q E, sp vs H Q E → vs.length = ps.length)
    (hpre : ∀ vs H Q E, sp vs H Q E → ∃ x r, vs = .ref x :: r ∧ H x = some (exo x C none))
    (hrest : ∀ (A : Around) (outer : List Env) (s : Shared) (H : Hp) (vs : List V) (ws : List (Option V)) (Q : VK) (E : XK), Room k (A.deeper (envF F f s.heap.objs.size)) → ws.length = 1 → sp vs H Q E →
      ∃ t, PSs (ncx CX P w K mg base N F f A outer s H E) rest t ∧ t { nx := fun _ H' => Q .non H', rt := Q } (startF N vs ws) H) :
    FnOk P w K mg base CX (k + 1) f (PySem.W.fnX F.name F.qual F.params F.body F.scope F.cl dV kV doc pm an (.ref F.c) ct) ps sp := by
  refine ⟨len, fun A outer s H args us vs Q E hr e0 hb r hsp => ?_⟩
  have hl := len _ _ _ _ hsp
  have KX : K.In s.heap := e0.mod.kin.keeps fun b o e => (e0.bs b o e).1
  have lim : s.heap.NoLimit := e0.mod.nolimit.keeps fun b o e => (e0.bs b o e).1
  obtain ⟨x, vr, hvx, hx⟩ := hpre vs H Q E hsp
  -- the static cell
  have C0 : CellsAt F.cl ["__class__"] [some (V.ref C)] s.heap H := by
    have cellcc : s.heap.IsCell cc (some (.ref C)) := ⟨_, KX _ _ hcell, rfl⟩
    have hHcc : H cc = none := by
      have q := e0.mod.kin _ _ hcell
      exact (e0.bs _ _ q).2
    refine ⟨rfl, fun y c e => ?_, fun y z c e1 e2 => ?_, fun i y e => ?_⟩
    · rw [hcl] at e
      have e' := PySem.mem_of_lookup e
      simp at e'
      obtain ⟨_, rfl⟩ := e'
      exact ⟨hHcc, _, cellcc⟩
    · rw [hcl] at e1 e2
      have e1' := PySem.mem_of_lookup e1
      have e2' := PySem.mem_of_lookup e2
      simp at e1' e2'
      rw [e1'.1, e2'.1]
    · cases i with
      | zero =>
        have ey : y = "__class__" := by simpa using e.symm
        subst ey
        refine ⟨cc, by rw [hcl]; rfl, fun v hv => ?_⟩
        have ev : v = V.ref C := by simpa using hv.symm
        subst ev
        exact ⟨_, rfl, cellcc⟩
      | succ i => simp at e
  refine PySem.ks_codeAny_call_defAt (body := F.body) (binds := ps.zip us) hr.depth (KX _ _ lk) rfl lim (PySem.W.codeRec_of KX hcode) rfl (hb) S.nocell (fun ⟨n, _⟩ hy => S.par n (List.of_mem_zip hy).1) (fun h₁ hns kp => ?_) S.co S.gen S.kind
  have I0 : Inv (ncx CX P w K mg base N F f A outer s H E) [] (startF N vs [some (V.ref C)]) H { s with heap := h₁, toks := s.toks + (ps.zip us).length } := inv_startN S hr.hd e0 hl r C0 hns kp
  have X1 : K.In h₁ := KX.keeps kp
  have hcx : ∀ e s', (ncx CX P w K mg base N F f A outer s H E).xe e s' = wpAny (model P w) (A.deeper (envF F f s.heap.objs.size)) (leaving (envF F f s.heap.objs.size) e) (fun _ s'' => CX outer H s E e s'') (fun e' s'' => CX outer H s E e' s'') s' := fun _ _ => rfl
  obtain ⟨t1, hx1⟩ := exo_at I0.hok hx
  subst hvx
  have hlen1 : 0 < ps.length := by
    rw [← hl]; simp
  obtain ⟨ux, ur, rfl, hux⟩ : ∃ ux ur, us = ux :: ur ∧ ux = .ref x := by
    cases r with
    | cons rv rn => exact ⟨_, _, rfl, rv⟩
  subst hux
  have hself : (ps.zip (Value.ref x :: ur)).reverse.lookup ar.arg = some (.ref x) := by
    have ndP : ps.Nodup := by
      have q := S.nd.sublist (List.take_sublist (ps.length + 1) N)
      have q2 := S.pre
      rw [show (["__class__"] : List Str).length = 1 from rfl] at q2
      rw [q2] at q
      exact (List.nodup_append.mp q).1
    exact zip_look (i := 0) ndP hps rfl
  obtain ⟨mb, hb1, hb2⟩ := e0.mod.blt
  have bk : ∀ b o, base.get? b = some o → h₁.get? b = some o := fun b o e => kp _ _ (e0.bs b o e).1
  obtain ⟨oD, hD1, hD2⟩ : ∃ oD, h₁.get? C = some oD ∧ oD.data = .cls cdD := by
    have hD := hcls
    unfold PySem.W.clsIn at hD
    split at hD
    · rename_i c d cd' sl ho
      cases hD
      exact ⟨_, X1 _ _ ho, rfl⟩
    · cases hD
  have hk : F.scope.kind = .function := S.kind
  have hkc : F.scope.names.lookup ("__class__" : Str) = some .free := S.frk _ (List.mem_singleton.mpr rfl)
  have hka : F.scope.names.lookup ar.arg = some .local := S.par _ (List.mem_of_getElem? hps)
  show PySem.wpAt (model P w) (A.deeper (envF F f s.heap.objs.size)) (.func F.body (envF F f s.heap.objs.size)) (execs F.body (envF F f s.heap.objs.size)) _ _ _
  rw [hbody]
  refine ks_wpAt_execs_cons (ks_wpAt_Expr_any (ks_wpAt_MethodCall (pl := pl) ?_ (hev _)) (hst _) (hsw _))
  refine ks_wpAt_super_base (env := envF F f s.heap.objs.size) hks hkc (by decide) rfl (X1 _ _ lk) rfl hp rfl (X1 _ _ hco) rfl hvs hfile htop ?_
  refine PySem.W.ks_loadName_global hk hks (Calls.loadGlobal_builtin (env := envF F f s.heap.objs.size) (e0.mod.glob.keeps bk) hsuper (hb1.keeps bk) ((hb2 _ (by decide +kernel)).trans hboot) ⟨rfl, ?_⟩)
  refine wpAny_loadName_free hk hkc (by show List.lookup _ F.cl = _; rw [hcl]; rfl) ⟨_, X1 _ _ hcell, rfl⟩ ?_
  refine wpAny_loadName_local hk hka hns hself ?_
  refine ks_wpAny_isType_cls hD1 hD2 ⟨rfl, ?_⟩
  have hI1 : PySem.W.Looks (model P w) h₁ (isSubtype (.ref C) (.ref C)) true := PySem.W.looks_mroIn X1 hsub
  refine ks_wpAny_call_super (h := h₁) hD1 hD2 hx1 rfl (fun c e => by cases e) hI1 (fun h2 e2 k2 => ?_)
  have X2 : K.In h2 := X1.keeps k2
  have hx2 := k2 _ _ hx1
  have hxC : x ≠ C := by
    rintro rfl
    rw [hx1] at hD1
    cases hD1
    cases hD2
  have IA : PySem.W.InstAt h2 x ({ cls := .ref C, dict := none, data := .fields #[.ref t1, .none, .none, .none, .bool false, .none] } : Obj) C none := ⟨hx2, rfl, rfl, trivial⟩
  have hI : PySem.W.Looks (model P w) h2 (isInstance (.ref x) (.type "ValueError")) true := IA.type.andThen (PySem.W.looks_subIn X2 hB)
  have hmro : PySem.W.Looks (model P w) h2 (mroOf (.ref C)) cdD.mro := fun A Q E s k q => wpAny_bind ((PySem.W.looks_clsIn X2 hcls) A _ E s k (wpAny_pure q))
  have hal : PySem.W.alongIn K "__init__" ((cdD.mro.dropWhile (· != .ref C)).drop 1) = some (some (.builtin "ValueError.__init__")) := by
    have q := hm
    unfold PySem.W.ks_superIn at q
    rw [hcls] at q
    exact q
  refine PySem.W.kxs_getMethod PySem.W.kxs_ValueError e2 (PySem.W.looks_opaque X2 ho) hmro rfl X2 hal hI hxC (by decide) ?_
  have hs1 : ∀ L, starEach [.Constant (.str txt) j p3] (envF F f L) = (false, eval (.Constant (.str txt) j p3) (envF F f L)) :: starEach [] (envF F f L) := fun _ => rfl
  have k3 : ∀ b o, h2.get? b = some o → (h2.push (PySem.W.kxs_mw "ValueError.__init__" x)).get? b = some o := fun b o e => Heap.get?_push_of_some _ e
  have hu : (h2.push (PySem.W.kxs_mw "ValueError.__init__" x)).get? h2.objs.size = some (PySem.W.kxs_mw "ValueError.__init__" x) := Heap.get?_push_at rfl rfl
  show wpAny _ _ (callWith p4 (.ref h2.objs.size) [] (backTo p4 (starEach [.Constant (.str txt) j p3] (envF F f s.heap.objs.size))) []) _ _ _
  rw [hs1]
  refine PySem.W.kxs_callWith (i := "ValueError.__init__") (x := x) rfl ?_
  refine Calls.evalArgs_plain ?_
  refine Calls.spliced_cons ?_
  show wpAny _ _ (eval (.Constant (.str txt) j p3) (envF F f s.heap.objs.size)) _ _ _
  refine Calls.Constant_str ?_
  refine Calls.spliced_nil ⟨hu, ?_⟩
  obtain ⟨nm, q, N', bs, bm, sn, sub, ab, col, dd, k0, kk1, kk2, kk3, kk5, hC, hbm⟩ := T.cls
  have X3 : K.In (h2.push (PySem.W.kxs_mw "ValueError.__init__" x)) := X2.keeps k3
  have hx3 := k3 _ _ hx2
  refine wpAny_call (codeAny_of_tree ?_)
  show wpAny _ (A.deeper (envF F f s.heap.objs.size)).in1 (callAny (.ref h2.objs.size) ⟨[.str txt _], []⟩) _ _ _
  simp only [callAny]
  refine wpAny_bind (wpAny_load hu ?_)
  simp only [PySem.W.kxs_mw, show (Value.type "method-wrapper" == Value.type "method" || Value.type "method-wrapper" == Value.type "builtin_function_or_method" || Value.type "method-wrapper" == Value.type "method-wrapper") = true by decide, if_true]
  refine PySem.W.KFB.if_so (by decide) ?_
  refine wpAny_bind (PySem.W.check_bound_init PySem.F.excBase_ValueError.toExcCallFacts (X3 _ _ hC) hx3 rfl ?_)
  refine wpAny_bind (wpAny_pure (wpAny_pure ?_))
  refine ⟨PySem.plainId_quiet PySem.F.excBase_ValueError.init.plain _, codeAny_builtin PySem.F.excBase_ValueError.initEntry ?_⟩
  refine PySem.W.exc_init_tree (cls := .ref C) (t0 := t1) (dv := none) (c2 := .none) (c3 := .none) (b4 := .bool false) hx3 (by show 1 ≤ sizeLine; decide) (fun h4 k4 e4 _ => ?_)
  show PySem.wpAt (model P w) (A.deeper (envF F f s.heap.objs.size)) (.func (sSup p0 p1 p2 p3 p4 p5 txt j :: rest) (envF F f s.heap.objs.size)) (execs rest (envF F f s.heap.objs.size)) _ _ _
  refine wpAt_of_wpAny ?_
  have I3 := I0.kept (h' := h2.push (PySem.W.kxs_mw "ValueError.__init__" x)) (t' := s.toks + (ps.zip (Value.ref x :: ur)).length + 1 + 1) (fun b o e => k3 _ _ (k2 _ _ e))
  have J := I3.write (h' := h4) (t' := s.toks + (ps.zip (Value.ref x :: ur)).length + 1 + 1) (x := x) (e := x) (o := exo x C none) (by rw [hx]; exact True.intro) (.inl rfl) k4 ⟨_, e4⟩ (exo_ok e4)
  have eu : upd H x (exo x C none) = H := by
    funext b
    by_cases hb : b = x
    · rw [hb, upd_same, hx]
    · rw [upd_ne hb]
  rw [eu] at J
  obtain ⟨t, ht, hq⟩ := hrest A outer s H (.ref x :: vr) [some (V.ref C)] Q E (hr.deeper _) rfl hsp
  refine wpAny_mono (ht.run [] _ _ H _ J hq) (fun fl s' hs => ?_) fun e s' hs => hs
  have fin : ∀ {σ' : L2.St} {H' : Hp} {v : V} {u : Value}, Inv (ncx CX P w K mg base N F f A outer s H E) [] σ' H' s' → L2.RelV v u → Q v H' → CE outer P w H s Q u s' :=
    fun {σ' H' v u} J rv q => ⟨v, H', J.os, J.bare, J.base, J.hok, rv, q⟩
  cases fl with
  | ret u =>
    obtain ⟨v, σ', H', J, rv, q⟩ := hs
    exact fin J rv q
  | next =>
    obtain ⟨σ', H', J, q⟩ := hs
    exact fin (v := V.non) (u := Value.none) J rfl q
  | brk =>
    obtain ⟨_, _, _, q⟩ := hs
    exact False.elim q
  | cont =>
    obtain ⟨_, _, _, q⟩ := hs
    exact False.elim q
end
end SupX
/-! part T04 -/
/-! The text by its places; what the top has written. -/
namespace TX
open PySem PySem.Spec PyProof.Rows L2 NT
def topS (i : Nat) : Stmt := PySem.Challenge.pw_nodetour_k04_texts_of_rows.main.body.getD i (.Pass ⟨0, 0, 0, 0⟩)
abbrev s_copy_of : Stmt := topS 1
abbrev n_copy_of : List Str := ["value", "parts", "firsts", "inner", "k", "first"]
theorem sc_copy_of : FnScope n_copy_of ["value"] (defScope s_copy_of) := ⟨rfl, rfl, rfl, by decide +kernel, rfl, by decide +kernel, by decide +kernel⟩
abbrev s_parts_of : Stmt := topS 2
abbrev n_parts_of : List Str := ["value"]
theorem sc_parts_of : FnScope n_parts_of ["value"] (defScope s_parts_of) := ⟨rfl, rfl, rfl, by decide +kernel, rfl, by decide +kernel, by decide +kernel⟩
abbrev s_made_of : Stmt := topS 3
abbrev n_made_of : List Str := ["value", "parts", "key", "part"]
theorem sc_made_of : FnScope n_made_of ["value", "parts"] (defScope s_made_of) := ⟨rfl, rfl, rfl, by decide +kernel, rfl, by decide +kernel, by decide +kernel⟩
abbrev s_need_text : Stmt := topS 9
abbrev n_need_text : List Str := ["value"]
theorem sc_need_text : FnScope n_need_text ["value"] (defScope s_need_text) := ⟨rfl, rfl, rfl, by decide +kernel, rfl, by decide +kernel, by decide +kernel⟩
abbrev s_past : Stmt := topS 10
abbrev n_past : List Str := ["text", "at", "word", "sign"]
theorem sc_past : FnScope n_past ["text", "at", "word"] (defScope s_past) := ⟨rfl, rfl, rfl, by decide +kernel, rfl, by decide +kernel, by decide +kernel⟩
abbrev s_past_end : Stmt := topS 11
abbrev n_past_end : List Str := ["text", "at"]
theorem sc_past_end : FnScope n_past_end ["text", "at"] (defScope s_past_end) := ⟨rfl, rfl, rfl, by decide +kernel, rfl, by decide +kernel, by decide +kernel⟩
abbrev s_number_at : Stmt := topS 12
abbrev n_number_at : List Str := ["text", "at", "kind", "begin", "firsts", "end"]
theorem sc_number_at : FnScope n_number_at ["text", "at", "kind"] (defScope s_number_at) := ⟨rfl, rfl, rfl, by decide +kernel, rfl, by decide +kernel, by decide +kernel⟩
abbrev s_signs_among : Stmt := topS 13
abbrev n_signs_among : List Str := ["text", "signs", "many"]
theorem sc_signs_among : FnScope n_signs_among ["text", "signs"] (defScope s_signs_among) := ⟨rfl, rfl, rfl, by decide +kernel, rfl, by decide +kernel, by decide +kernel⟩
abbrev s_numbers_at : Stmt := topS 14
abbrev n_numbers_at : List Str := ["text", "at", "form", "numbers", "sign", "number"]
theorem sc_numbers_at : FnScope n_numbers_at ["text", "at", "form"] (defScope s_numbers_at) := ⟨rfl, rfl, rfl, by decide +kernel, rfl, by decide +kernel, by decide +kernel⟩
abbrev s_items_of : Stmt := topS 15
abbrev n_items_of : List Str := ["value", "form", "numbers", "at", "items"]
theorem sc_items_of : FnScope n_items_of ["value", "form"] (defScope s_items_of) := ⟨rfl, rfl, rfl, by decide +kernel, rfl, by decide +kernel, by decide +kernel⟩
abbrev s_cells_text : Stmt := topS 17
abbrev n_cells_text : List Str := ["cells", "x", "y"]
theorem sc_cells_text : FnScope n_cells_text ["cells"] (defScope s_cells_text) := ⟨rfl, rfl, rfl, by decide +kernel, rfl, by decide +kernel, by decide +kernel⟩
abbrev s_read_cells : Stmt := topS 18
abbrev n_read_cells : List Str := ["text", "x", "y"]
theorem sc_read_cells : FnScope n_read_cells ["text"] (defScope s_read_cells) := ⟨rfl, rfl, rfl, by decide +kernel, rfl, by decide +kernel, by decide +kernel⟩
abbrev s_weights_text : Stmt := topS 19
abbrev n_weights_text : List Str := ["pairs", "weight", "x", "y"]
theorem sc_weights_text : FnScope n_weights_text ["pairs"] (defScope s_weights_text) := ⟨rfl, rfl, rfl, by decide +kernel, rfl, by decide +kernel, by decide +kernel⟩
abbrev s_read_weights : Stmt := topS 20
abbrev n_read_weights : List Str := ["text", "x", "y", "weight"]
theorem sc_read_weights : FnScope n_read_weights ["text"] (defScope s_read_weights) := ⟨rfl, rfl, rfl, by decide +kernel, rfl, by decide +kernel, by decide +kernel⟩
abbrev s_joins_text : Stmt := topS 21
abbrev n_joins_text : List Str := ["joins", "x", "y", "u", "v"]
theorem sc_joins_text : FnScope n_joins_text ["joins"] (defScope s_joins_text) := ⟨rfl, rfl, rfl, by decide +kernel, rfl, by decide +kernel, by decide +kernel⟩
abbrev s_read_joins : Stmt := topS 22
abbrev n_read_joins : List Str := ["text", "x", "y", "u", "v"]
theorem sc_read_joins : FnScope n_read_joins ["text"] (defScope s_read_joins) := ⟨rfl, rfl, rfl, by decide +kernel, rfl, by decide +kernel, by decide +kernel⟩
abbrev s_items_text : Stmt := topS 23
abbrev n_items_text : List Str := ["items"]
theorem sc_items_text : FnScope n_items_text ["items"] (defScope s_items_text) := ⟨rfl, rfl, rfl, by decide +kernel, rfl, by decide +kernel, by decide +kernel⟩
abbrev s_read_way : Stmt := topS 24
abbrev n_read_way : List Str := ["text", "good"]
theorem sc_read_way : FnScope n_read_way ["text"] (defScope s_read_way) := ⟨rfl, rfl, rfl, by decide +kernel, rfl, by decide +kernel, by decide +kernel⟩
abbrev s_L_open_cells : Stmt := topS 26
abbrev n_L_open_cells : List Str := ["script", "stirred", "cell", "cells"]
theorem sc_L_open_cells : FnScope n_L_open_cells ["script"] (defScope s_L_open_cells) := ⟨rfl, rfl, rfl, by decide +kernel, rfl, by decide +kernel, by decide +kernel⟩
abbrev s_L_pick : Stmt := topS 27
abbrev n_L_pick : List Str := ["source", "most", "cells", "others", "lap", "stirred"]
theorem sc_L_pick : FnScope n_L_pick ["source", "most"] (defScope s_L_pick) := ⟨rfl, rfl, rfl, by decide +kernel, rfl, by decide +kernel, by decide +kernel⟩
abbrev s_L_any_order : Stmt := topS 28
abbrev n_L_any_order : List Str := ["source", "things", "others", "lap"]
theorem sc_L_any_order : FnScope n_L_any_order ["source", "things"] (defScope s_L_any_order) := ⟨rfl, rfl, rfl, by decide +kernel, rfl, by decide +kernel, by decide +kernel⟩
abbrev s_L_how_far : Stmt := topS 29
abbrev n_L_how_far : List Str := ["grammar", "text", "first", "lots", "open_ones", "place", "ready", "rows", "way"]
theorem sc_L_how_far : FnScope n_L_how_far ["grammar", "text", "first"] (defScope s_L_how_far) := ⟨rfl, rfl, rfl, by decide +kernel, rfl, by decide +kernel, by decide +kernel⟩
abbrev s_L_near_texts : Stmt := topS 30
abbrev n_L_near_texts : List Str := ["source", "text", "signs", "found", "turn", "k", "sign", "some"]
theorem sc_L_near_texts : FnScope n_L_near_texts ["source", "text", "signs"] (defScope s_L_near_texts) := ⟨rfl, rfl, rfl, by decide +kernel, rfl, by decide +kernel, by decide +kernel⟩
abbrev s_L_draw_lot : Stmt := topS 31
abbrev n_L_draw_lot : List Str := ["source", "most", "wide", "high", "found", "dense", "dx", "dy", "x", "y"]
theorem sc_L_draw_lot : FnScope n_L_draw_lot ["source", "most"] (defScope s_L_draw_lot) := ⟨rfl, rfl, rfl, by decide +kernel, rfl, by decide +kernel, by decide +kernel⟩
abbrev s_L_cells_line : Stmt := topS 32
abbrev n_L_cells_line : List Str := ["cells", "x", "y"]
theorem sc_L_cells_line : FnScope n_L_cells_line ["cells"] (defScope s_L_cells_line) := ⟨rfl, rfl, rfl, by decide +kernel, rfl, by decide +kernel, by decide +kernel⟩
abbrev s_L_pairs_line : Stmt := topS 33
abbrev n_L_pairs_line : List Str := ["some", "part", "found", "one", "other", "late"]
theorem sc_L_pairs_line : FnScope n_L_pairs_line ["some", "part"] (defScope s_L_pairs_line) := ⟨rfl, rfl, rfl, by decide +kernel, rfl, by decide +kernel, by decide +kernel⟩
abbrev s_L_text_rules : Stmt := topS 34
abbrev n_L_text_rules : List Str := ["found", "k", "word"]
theorem sc_L_text_rules : FnScope n_L_text_rules [] (defScope s_L_text_rules) := ⟨rfl, rfl, rfl, by decide +kernel, rfl, by decide +kernel, by decide +kernel⟩
abbrev s_L_read_as : Stmt := topS 35
abbrev n_L_read_as : List Str := ["text", "part", "e"]
theorem sc_L_read_as : FnScope n_L_read_as ["text", "part"] (defScope s_L_read_as) := ⟨rfl, rfl, rfl, by decide +kernel, rfl, by decide +kernel, by decide +kernel⟩
abbrev s_L_rewritten : Stmt := topS 36
abbrev n_L_rewritten : List Str := ["told", "part"]
theorem sc_L_rewritten : FnScope n_L_rewritten ["told", "part"] (defScope s_L_rewritten) := ⟨rfl, rfl, rfl, by decide +kernel, rfl, by decide +kernel, by decide +kernel⟩
abbrev s_L_written : Stmt := topS 37
abbrev n_L_written : List Str := ["told", "part"]
theorem sc_L_written : FnScope n_L_written ["told", "part"] (defScope s_L_written) := ⟨rfl, rfl, rfl, by decide +kernel, rfl, by decide +kernel, by decide +kernel⟩
abbrev s_L_part_right : Stmt := topS 38
abbrev n_L_part_right : List Str := ["source", "rules", "told", "part", "text", "near", "place", "is_whole", "found"]
theorem sc_L_part_right : FnScope n_L_part_right ["source", "rules", "told", "part"] (defScope s_L_part_right) := ⟨rfl, rfl, rfl, by decide +kernel, rfl, by decide +kernel, by decide +kernel⟩
abbrev s_L_ways_right : Stmt := topS 39
abbrev n_L_ways_right : List Str := ["source", "turn", "signs", "text", "wrong", "k", "sign", "value", "step"]
theorem sc_L_ways_right : FnScope n_L_ways_right ["source"] (defScope s_L_ways_right) := ⟨rfl, rfl, rfl, by decide +kernel, rfl, by decide +kernel, by decide +kernel⟩
abbrev s_L_typed_right : Stmt := topS 40
abbrev n_L_typed_right : List Str := ["rows", "part", "text", "due", "told", "odd", "value"]
theorem sc_L_typed_right : FnScope n_L_typed_right [] (defScope s_L_typed_right) := ⟨rfl, rfl, rfl, by decide +kernel, rfl, by decide +kernel, by decide +kernel⟩
abbrev s_law : Stmt := topS 41
abbrev n_law : List Str := ["script", "source", "rules", "lap", "lot", "unit", "cells", "pairs", "joins", "part", "told", "cell", "x", "y"]
theorem sc_law : FnScope n_law ["script"] (defScope s_law) := ⟨rfl, rfl, rfl, by decide +kernel, rfl, by decide +kernel, by decide +kernel⟩
abbrev s_init : Stmt := inClass (topS 5) 0
/-- a def as it stands behind the top -/
structure DF (K : PySem.W.Frag) (mg : Str → Option Value) (x : Str) (st : Stmt) (ps : List Str) (f : Addr) (fd : FuncData) : Prop where
  F : Fun K x x st f fd
  g : mg x = some (.ref f)
  b : L2.Binds K fd ps []
abbrev clI (cc : Addr) : List (Str × Addr) := [("__class__", cc)]
/-- BadText and its __init__ -/
structure BadC (K : PySem.W.Frag) (mg : Str → Option Value) (C R fI cc : Addr) : Prop where
  gC : mg "BadText" = some (.ref C)
  gR : mg "RoomError" = some (.ref R)
  ox : OexC K C
  iC : PySem.W.findIn K (.ref C) "__init__" = some (some (.ref fI))
  tI : PySem.W.typeIn K (.ref fI) = some (.type "function")
  noP : PySem.W.findIn K (.ref C) "place" = some none
  sub : PySem.W.mroIn K C (.ref C) = some true
  cls : ∃ cd, PySem.W.clsIn K C = some cd
  sup : PySem.W.ks_superIn K C C "__init__" = some (some (.builtin "ValueError.__init__"))
  sVE : PySem.W.subIn K (.ref C) (.type "ValueError") = some true
  opq : PySem.W.nsIn K cStatics "thirdparty.any" = some none
  te : PySem.W.exmOne K (.ref C) (.ref C) = some true
  xf : XfC K C
  ex : ExcC K C
  kit : PySem.W.kitOne K (.ref C) (.ref R) = some true
  fn : ∃ (oc kV doc pm ct ccl cl' : Value) (od an cdd cld : Option Addr) (osl ccs csl : Array (Option Value)) (vs0 : Array Value) (tf : Tok) (cda : Addr) ,
    K.lookup fI = some ⟨oc, od, .func (PySem.W.fnX "__init__" "BadText.__init__" (defArgs s_init) (defBody s_init) (defScope s_init) (clI cc) .none kV doc pm an (.ref cda) ct), osl⟩ ∧
    PySem.W.codeIn K (.ref cda) "BadText.__init__" = true ∧ K.lookup cda = some ⟨ccl, cdd, .fields vs0, ccs⟩ ∧ vs0[2]? = some (.str "/claim/cut.py" tf) ∧ K.lookup cc = some ⟨cl', cld, .cell (some (.ref C)), csl⟩
/-- the dict of how many digits -/
structure MostAt (w : World) (K : PySem.W.Frag) (a : Addr) : Prop where
  kd : ∃ es n, KDict K w a es n
  yz : ∃ t, PySem.W.nsIn K a "z" = some (some (.int 9 t))
  yn : ∃ t, PySem.W.nsIn K a "n" = some (some (.int 9 t))
  yZ : ∃ t, PySem.W.nsIn K a "Z" = some (some (.int 60 t))
  no : ∀ x : Str, x ≠ "z" → x ≠ "n" → x ≠ "Z" → PySem.W.nsIn K a x = some none
theorem most_mk {w : World} {K : PySem.W.Frag} {a : Addr} {t1 t2 t3 u1 u2 u3 : Tok} {n : Nat}
    (l : K.lookup a = some ⟨.type "dict", none, .dict #[⟨PyData.keyHash w.params "z", .str "z" t1, .int 9 u1⟩, ⟨PyData.keyHash w.params "n", .str "n" t2, .int 9 u2⟩, ⟨PyData.keyHash w.params "Z", .str "Z" t3, .int 60 u3⟩] n, #[]⟩)
    (low : (a == sysModules) = false) : MostAt w K a := by
  refine ⟨⟨_, _, ⟨l, ⟨⟨_, _, rfl, rfl⟩, ⟨_, _, rfl, rfl⟩, ⟨_, _, rfl, rfl⟩, trivial⟩, low⟩⟩, ⟨u1, ?_⟩, ⟨u2, ?_⟩, ⟨u3, ?_⟩, fun x h1 h2 h3 => ?_⟩
  · unfold PySem.W.nsIn
    rw [l]
    rfl
  · unfold PySem.W.nsIn
    rw [l]
    rfl
  · unfold PySem.W.nsIn
    rw [l]
    rfl
  · unfold PySem.W.nsIn
    rw [l]
    have e : ∀ {k : Str} {t : Tok}, x ≠ k → (Value.str k t).isStr x = false := fun {k t} h => by
      rw [PySem.W.isStr_of]
      unfold Value.isStrOf
      exact beq_eq_false_iff_ne.mpr (Ne.symm h)
    simp only [List.find?_cons, e h1, e h2, e h3, List.find?_nil]
    rfl
structure Txt (w : World) (K : PySem.W.Frag) (mg : Str → Option Value) : Prop where
  d_copy_of : ∃ f fd, DF K mg "copy_of" s_copy_of ["value"] f fd
  d_parts_of : ∃ f fd, DF K mg "parts_of" s_parts_of ["value"] f fd
  d_made_of : ∃ f fd, DF K mg "made_of" s_made_of ["value", "parts"] f fd
  d_need_text : ∃ f fd, DF K mg "need_text" s_need_text ["value"] f fd
  d_past : ∃ f fd, DF K mg "past" s_past ["text", "at", "word"] f fd
  d_past_end : ∃ f fd, DF K mg "past_end" s_past_end ["text", "at"] f fd
  d_number_at : ∃ f fd, DF K mg "number_at" s_number_at ["text", "at", "kind"] f fd
  d_signs_among : ∃ f fd, DF K mg "signs_among" s_signs_among ["text", "signs"] f fd
  d_numbers_at : ∃ f fd, DF K mg "numbers_at" s_numbers_at ["text", "at", "form"] f fd
  d_items_of : ∃ f fd, DF K mg "items_of" s_items_of ["value", "form"] f fd
  d_cells_text : ∃ f fd, DF K mg "cells_text" s_cells_text ["cells"] f fd
  d_read_cells : ∃ f fd, DF K mg "read_cells" s_read_cells ["text"] f fd
  d_weights_text : ∃ f fd, DF K mg "weights_text" s_weights_text ["pairs"] f fd
  d_read_weights : ∃ f fd, DF K mg "read_weights" s_read_weights ["text"] f fd
  d_joins_text : ∃ f fd, DF K mg "joins_text" s_joins_text ["joins"] f fd
  d_read_joins : ∃ f fd, DF K mg "read_joins" s_read_joins ["text"] f fd
  d_items_text : ∃ f fd, DF K mg "items_text" s_items_text ["items"] f fd
  d_read_way : ∃ f fd, DF K mg "read_way" s_read_way ["text"] f fd
  d_L_open_cells : ∃ f fd, DF K mg "_law_open_cells" s_L_open_cells ["script"] f fd
  d_L_pick : ∃ f fd, DF K mg "_law_pick" s_L_pick ["source", "most"] f fd
  d_L_any_order : ∃ f fd, DF K mg "_law_any_order" s_L_any_order ["source", "things"] f fd
  d_L_how_far : ∃ f fd, DF K mg "_law_how_far" s_L_how_far ["grammar", "text", "first"] f fd
  d_L_near_texts : ∃ f fd, DF K mg "_law_near_texts" s_L_near_texts ["source", "text", "signs"] f fd
  d_L_draw_lot : ∃ f fd, DF K mg "_law_draw_lot" s_L_draw_lot ["source", "most"] f fd
  d_L_cells_line : ∃ f fd, DF K mg "_law_cells_line" s_L_cells_line ["cells"] f fd
  d_L_pairs_line : ∃ f fd, DF K mg "_law_pairs_line" s_L_pairs_line ["some", "part"] f fd
  d_L_text_rules : ∃ f fd, DF K mg "_law_text_rules" s_L_text_rules [] f fd
  d_L_read_as : ∃ f fd, DF K mg "_law_read_as" s_L_read_as ["text", "part"] f fd
  d_L_rewritten : ∃ f fd, DF K mg "_law_rewritten" s_L_rewritten ["told", "part"] f fd
  d_L_written : ∃ f fd, DF K mg "_law_written" s_L_written ["told", "part"] f fd
  d_L_part_right : ∃ f fd, DF K mg "_law_part_right" s_L_part_right ["source", "rules", "told", "part"] f fd
  d_L_ways_right : ∃ f fd, DF K mg "_law_ways_right" s_L_ways_right ["source"] f fd
  d_L_typed_right : ∃ f fd, DF K mg "_law_typed_right" s_L_typed_right [] f fd
  bad : ∃ C R fI cc, BadC K mg C R fI cc
  z_all : mg "all" = none
  z_dict : mg "dict" = none
  z_enumerate : mg "enumerate" = none
  z_int : mg "int" = none
  z_isinstance : mg "isinstance" = none
  z_len : mg "len" = none
  z_list : mg "list" = none
  z_range : mg "range" = none
  z_repr : mg "repr" = none
  z_reversed : mg "reversed" = none
  z_sorted : mg "sorted" = none
  z_tuple : mg "tuple" = none
  z_zip : mg "zip" = none
  z_super : mg "super" = none
  z_ValueError : mg "ValueError" = none
  z_str : mg "str" = none
  z_abs : mg "abs" = none
  digits : ∃ t, mg "DIGITS" = some (.str "0123456789" t)
  most : ∃ a, mg "MOST_DIGITS" = some (.ref a) ∧ MostAt w K a
theorem df_mk {K : PySem.W.Frag} {mg : Str → Option Value} {h : Heap} {x : Str} {st : Stmt} {ps : List Str} {f : Addr} {oc : Value} {od an : Option Addr} {osl : Array (Option Value)} {kV doc pm cdv ct : Value} (X : K.In h) (G : h.Ns mainGlobals mg)
    (a : PySem.W.nsIn K mainGlobals x = some (some (.ref f)))
    (l : K.lookup f = some ⟨oc, od, .func (PySem.W.fnOf x x (defArgs st) (defBody st) (defScope st) .none kV doc pm an cdv ct), osl⟩)
    (c : PySem.W.codeIn K cdv x = true) (k : PySem.W.keepIn K (.ref f) = true)
    (hb : ∀ (kV doc pm : Value) (an : Option Addr) (cdv ct : Value) (us : List Value), us.length = ps.length → bindArgs (PySem.W.fnOf x x (defArgs st) (defBody st) (defScope st) .none kV doc pm an cdv ct) ⟨us, []⟩ = pure (ps.zip us)) :
    ∃ f fd, DF K mg x st ps f fd :=
  ⟨f, _, fun_mk l c k, PySem.W.mg_of X G a, (fun_mk l c k).binds hb⟩
theorem all_mk {P : Program} {w : World} {K : PySem.W.Frag} {h : Heap} {mg : Str → Option Value} {fa C R fI cc cda mA f0 f1 f2 f3 f4 f5 f6 f7 f8 f9 f10 f11 f12 f13 f14 f15 f16 f17 f18 f19 f20 f21 f22 f23 f24 f25 f26 f27 f28 f29 f30 f31 f32 f33 : Addr} (X : K.In h) (G : h.Ns mainGlobals mg) (hfa : mg "law" = some (.ref fa))
    {nm q : Str} {N : Addr} {bs : List Value} {sn : List Str} {sub : List Value} {ab : Bool} {col : Option Bool} {dd : Option Addr} {m0 m1 m2 m3 m5 : Option Value} {tD t1 t2 t3 u1 u2 u3 tf : Tok} {nM : Nat}
    {ocI kVI docI pmI ctI ccl clc : Value} {odI anI cdd cld : Option Addr} {oslI ccs csl : Array (Option Value)} {vs0 : Array Value}
    {od0 an0 od1 an1 od2 an2 od3 an3 od4 an4 od5 an5 od6 an6 od7 an7 od8 an8 od9 an9 od10 an10 od11 an11 od12 an12 od13 an13 od14 an14 od15 an15 od16 an16 od17 an17 od18 an18 od19 an19 od20 an20 od21 an21 od22 an22 od23 an23 od24 an24 od25 an25 od26 an26 od27 an27 od28 an28 od29 an29 od30 an30 od31 an31 od32 an32 od33 an33 : Option Addr} {sl0 sl1 sl2 sl3 sl4 sl5 sl6 sl7 sl8 sl9 sl10 sl11 sl12 sl13 sl14 sl15 sl16 sl17 sl18 sl19 sl20 sl21 sl22 sl23 sl24 sl25 sl26 sl27 sl28 sl29 sl30 sl31 sl32 sl33 : Array (Option Value)} {oc0 kV0 dc0 pm0 cd0 ct0 oc1 kV1 dc1 pm1 cd1 ct1 oc2 kV2 dc2 pm2 cd2 ct2 oc3 kV3 dc3 pm3 cd3 ct3 oc4 kV4 dc4 pm4 cd4 ct4 oc5 kV5 dc5 pm5 cd5 ct5 oc6 kV6 dc6 pm6 cd6 ct6 oc7 kV7 dc7 pm7 cd7 ct7 oc8 kV8 dc8 pm8 cd8 ct8 oc9 kV9 dc9 pm9 cd9 ct9 oc10 kV10 dc10 pm10 cd10 ct10 oc11 kV11 dc11 pm11 cd11 ct11 oc12 kV12 dc12 pm12 cd12 ct12 oc13 kV13 dc13 pm13 cd13 ct13 oc14 kV14 dc14 pm14 cd14 ct14 oc15 kV15 dc15 pm15 cd15 ct15 oc16 kV16 dc16 pm16 cd16 ct16 oc17 kV17 dc17 pm17 cd17 ct17 oc18 kV18 dc18 pm18 cd18 ct18 oc19 kV19 dc19 pm19 cd19 ct19 oc20 kV20 dc20 pm20 cd20 ct20 oc21 kV21 dc21 pm21 cd21 ct21 oc22 kV22 dc22 pm22 cd22 ct22 oc23 kV23 dc23 pm23 cd23 ct23 oc24 kV24 dc24 pm24 cd24 ct24 oc25 kV25 dc25 pm25 cd25 ct25 oc26 kV26 dc26 pm26 cd26 ct26 oc27 kV27 dc27 pm27 cd27 ct27 oc28 kV28 dc28 pm28 cd28 ct28 oc29 kV29 dc29 pm29 cd29 ct29 oc30 kV30 dc30 pm30 cd30 ct30 oc31 kV31 dc31 pm31 cd31 ct31 oc32 kV32 dc32 pm32 cd32 ct32 oc33 kV33 dc33 pm33 cd33 ct33 : Value}
    (a0 : PySem.W.nsIn K mainGlobals "copy_of" = some (some (.ref f0))) (l0 : K.lookup f0 = some ⟨oc0, od0, .func (PySem.W.fnOf "copy_of" "copy_of" (defArgs s_copy_of) (defBody s_copy_of) (defScope s_copy_of) .none kV0 dc0 pm0 an0 cd0 ct0), sl0⟩) (c0 : PySem.W.codeIn K cd0 "copy_of" = true) (k0 : PySem.W.keepIn K (.ref f0) = true)
    (a1 : PySem.W.nsIn K mainGlobals "parts_of" = some (some (.ref f1))) (l1 : K.lookup f1 = some ⟨oc1, od1, .func (PySem.W.fnOf "parts_of" "parts_of" (defArgs s_parts_of) (defBody s_parts_of) (defScope s_parts_of) .none kV1 dc1 pm1 an1 cd1 ct1), sl1⟩) (c1 : PySem.W.codeIn K cd1 "parts_of" = true) (k1 : PySem.W.keepIn K (.ref f1) = true)
    (a2 : PySem.W.nsIn K mainGlobals "made_of" = some (some (.ref f2))) (l2 : K.lookup f2 = some ⟨oc2, od2, .func (PySem.W.fnOf "made_of" "made_of" (defArgs s_made_of) (defBody s_made_of) (defScope s_made_of) .none kV2 dc2 pm2 an2 cd2 ct2), sl2⟩) (c2 : PySem.W.codeIn K cd2 "made_of" = true) (k2 : PySem.W.keepIn K (.ref f2) = true)
    (a3 : PySem.W.nsIn K mainGlobals "need_text" = some (some (.ref f3))) (l3 : K.lookup f3 = some ⟨oc3, od3, .func (PySem.W.fnOf "need_text" "need_text" (defArgs s_need_text) (defBody s_need_text) (defScope s_need_text) .none kV3 dc3 pm3 an3 cd3 ct3), sl3⟩) (c3 : PySem.W.codeIn K cd3 "need_text" = true) (k3 : PySem.W.keepIn K (.ref f3) = true)
    (a4 : PySem.W.nsIn K mainGlobals "past" = some (some (.ref f4))) (l4 : K.lookup f4 = some ⟨oc4, od4, .func (PySem.W.fnOf "past" "past" (defArgs s_past) (defBody s_past) (defScope s_past) .none kV4 dc4 pm4 an4 cd4 ct4), sl4⟩) (c4 : PySem.W.codeIn K cd4 "past" = true) (k4 : PySem.W.keepIn K (.ref f4) = true)
    (a5 : PySem.W.nsIn K mainGlobals "past_end" = some (some (.ref f5))) (l5 : K.lookup f5 = some ⟨oc5, od5, .func (PySem.W.fnOf "past_end" "past_end" (defArgs s_past_end) (defBody s_past_end) (defScope s_past_end) .none kV5 dc5 pm5 an5 cd5 ct5), sl5⟩) (c5 : PySem.W.codeIn K cd5 "past_end" = true) (k5 : PySem.W.keepIn K (.ref f5) = true)
    (a6 : PySem.W.nsIn K mainGlobals "number_at" = some (some (.ref f6))) (l6 : K.lookup f6 = some ⟨oc6, od6, .func (PySem.W.fnOf "number_at" "number_at" (defArgs s_number_at) (defBody s_number_at) (defScope s_number_at) .none kV6 dc6 pm6 an6 cd6 ct6), sl6⟩) (c6 : PySem.W.codeIn K cd6 "number_at" = true) (k6 : PySem.W.keepIn K (.ref f6) = true)
    (a7 : PySem.W.nsIn K mainGlobals "signs_among" = some (some (.ref f7))) (l7 : K.lookup f7 = some ⟨oc7, od7, .func (PySem.W.fnOf "signs_among" "signs_among" (defArgs s_signs_among) (defBody s_signs_among) (defScope s_signs_among) .none kV7 dc7 pm7 an7 cd7 ct7), sl7⟩) (c7 : PySem.W.codeIn K cd7 "signs_among" = true) (k7 : PySem.W.keepIn K (.ref f7) = true)
    (a8 : PySem.W.nsIn K mainGlobals "numbers_at" = some (some (.ref f8))) (l8 : K.lookup f8 = some ⟨oc8, od8, .func (PySem.W.fnOf "numbers_at" "numbers_at" (defArgs s_numbers_at) (defBody s_numbers_at) (defScope s_numbers_at) .none kV8 dc8 pm8 an8 cd8 ct8), sl8⟩) (c8 : PySem.W.codeIn K cd8 "numbers_at" = true) (k8 : PySem.W.keepIn K (.ref f8) = true)
    (a9 : PySem.W.nsIn K mainGlobals "items_of" = some (some (.ref f9))) (l9 : K.lookup f9 = some ⟨oc9, od9, .func (PySem.W.fnOf "items_of" "items_of" (defArgs s_items_of) (defBody s_items_of) (defScope s_items_of) .none kV9 dc9 pm9 an9 cd9 ct9), sl9⟩) (c9 : PySem.W.codeIn K cd9 "items_of" = true) (k9 : PySem.W.keepIn K (.ref f9) = true)
    (a10 : PySem.W.nsIn K mainGlobals "cells_text" = some (some (.ref f10))) (l10 : K.lookup f10 = some ⟨oc10, od10, .func (PySem.W.fnOf "cells_text" "cells_text" (defArgs s_cells_text) (defBody s_cells_text) (defScope s_cells_text) .none kV10 dc10 pm10 an10 cd10 ct10), sl10⟩) (c10 : PySem.W.codeIn K cd10 "cells_text" = true) (k10 : PySem.W.keepIn K (.ref f10) = true)
    (a11 : PySem.W.nsIn K mainGlobals "read_cells" = some (some (.ref f11))) (l11 : K.lookup f11 = some ⟨oc11, od11, .func (PySem.W.fnOf "read_cells" "read_cells" (defArgs s_read_cells) (defBody s_read_cells) (defScope s_read_cells) .none kV11 dc11 pm11 an11 cd11 ct11), sl11⟩) (c11 : PySem.W.codeIn K cd11 "read_cells" = true) (k11 : PySem.W.keepIn K (.ref f11) = true)
    (a12 : PySem.W.nsIn K mainGlobals "weights_text" = some (some (.ref f12))) (l12 : K.lookup f12 = some ⟨oc12, od12, .func (PySem.W.fnOf "weights_text" "weights_text" (defArgs s_weights_text) (defBody s_weights_text) (defScope s_weights_text) .none kV12 dc12 pm12 an12 cd12 ct12), sl12⟩) (c12 : PySem.W.codeIn K cd12 "weights_text" = true) (k12 : PySem.W.keepIn K (.ref f12) = true)
    (a13 : PySem.W.nsIn K mainGlobals "read_weights" = some (some (.ref f13))) (l13 : K.lookup f13 = some ⟨oc13, od13, .func (PySem.W.fnOf "read_weights" "read_weights" (defArgs s_read_weights) (defBody s_read_weights) (defScope s_read_weights) .none kV13 dc13 pm13 an13 cd13 ct13), sl13⟩) (c13 : PySem.W.codeIn K cd13 "read_weights" = true) (k13 : PySem.W.keepIn K (.ref f13) = true)
    (a14 : PySem.W.nsIn K mainGlobals "joins_text" = some (some (.ref f14))) (l14 : K.lookup f14 = some ⟨oc14, od14, .func (PySem.W.fnOf "joins_text" "joins_text" (defArgs s_joins_text) (defBody s_joins_text) (defScope s_joins_text) .none kV14 dc14 pm14 an14 cd14 ct14), sl14⟩) (c14 : PySem.W.codeIn K cd14 "joins_text" = true) (k14 : PySem.W.keepIn K (.ref f14) = true)
    (a15 : PySem.W.nsIn K mainGlobals "read_joins" = some (some (.ref f15))) (l15 : K.lookup f15 = some ⟨oc15, od15, .func (PySem.W.fnOf "read_joins" "read_joins" (defArgs s_read_joins) (defBody s_read_joins) (defScope s_read_joins) .none kV15 dc15 pm15 an15 cd15 ct15), sl15⟩) (c15 : PySem.W.codeIn K cd15 "read_joins" = true) (k15 : PySem.W.keepIn K (.ref f15) = true)
    (a16 : PySem.W.nsIn K mainGlobals "items_text" = some (some (.ref f16))) (l16 : K.lookup f16 = some ⟨oc16, od16, .func (PySem.W.fnOf "items_text" "items_text" (defArgs s_items_text) (defBody s_items_text) (defScope s_items_text) .none kV16 dc16 pm16 an16 cd16 ct16), sl16⟩) (c16 : PySem.W.codeIn K cd16 "items_text" = true) (k16 : PySem.W.keepIn K (.ref f16) = true)
    (a17 : PySem.W.nsIn K mainGlobals "read_way" = some (some (.ref f17))) (l17 : K.lookup f17 = some ⟨oc17, od17, .func (PySem.W.fnOf "read_way" "read_way" (defArgs s_read_way) (defBody s_read_way) (defScope s_read_way) .none kV17 dc17 pm17 an17 cd17 ct17), sl17⟩) (c17 : PySem.W.codeIn K cd17 "read_way" = true) (k17 : PySem.W.keepIn K (.ref f17) = true)
    (a18 : PySem.W.nsIn K mainGlobals "_law_open_cells" = some (some (.ref f18))) (l18 : K.lookup f18 = some ⟨oc18, od18, .func (PySem.W.fnOf "_law_open_cells" "_law_open_cells" (defArgs s_L_open_cells) (defBody s_L_open_cells) (defScope s_L_open_cells) .none kV18 dc18 pm18 an18 cd18 ct18), sl18⟩) (c18 : PySem.W.codeIn K cd18 "_law_open_cells" = true) (k18 : PySem.W.keepIn K (.ref f18) = true)
    (a19 : PySem.W.nsIn K mainGlobals "_law_pick" = some (some (.ref f19))) (l19 : K.lookup f19 = some ⟨oc19, od19, .func (PySem.W.fnOf "_law_pick" "_law_pick" (defArgs s_L_pick) (defBody s_L_pick) (defScope s_L_pick) .none kV19 dc19 pm19 an19 cd19 ct19), sl19⟩) (c19 : PySem.W.codeIn K cd19 "_law_pick" = true) (k19 : PySem.W.keepIn K (.ref f19) = true)
    (a20 : PySem.W.nsIn K mainGlobals "_law_any_order" = some (some (.ref f20))) (l20 : K.lookup f20 = some ⟨oc20, od20, .func (PySem.W.fnOf "_law_any_order" "_law_any_order" (defArgs s_L_any_order) (defBody s_L_any_order) (defScope s_L_any_order) .none kV20 dc20 pm20 an20 cd20 ct20), sl20⟩) (c20 : PySem.W.codeIn K cd20 "_law_any_order" = true) (k20 : PySem.W.keepIn K (.ref f20) = true)
    (a21 : PySem.W.nsIn K mainGlobals "_law_how_far" = some (some (.ref f21))) (l21 : K.lookup f21 = some ⟨oc21, od21, .func (PySem.W.fnOf "_law_how_far" "_law_how_far" (defArgs s_L_how_far) (defBody s_L_how_far) (defScope s_L_how_far) .none kV21 dc21 pm21 an21 cd21 ct21), sl21⟩) (c21 : PySem.W.codeIn K cd21 "_law_how_far" = true) (k21 : PySem.W.keepIn K (.ref f21) = true)
    (a22 : PySem.W.nsIn K mainGlobals "_law_near_texts" = some (some (.ref f22))) (l22 : K.lookup f22 = some ⟨oc22, od22, .func (PySem.W.fnOf "_law_near_texts" "_law_near_texts" (defArgs s_L_near_texts) (defBody s_L_near_texts) (defScope s_L_near_texts) .none kV22 dc22 pm22 an22 cd22 ct22), sl22⟩) (c22 : PySem.W.codeIn K cd22 "_law_near_texts" = true) (k22 : PySem.W.keepIn K (.ref f22) = true)
    (a23 : PySem.W.nsIn K mainGlobals "_law_draw_lot" = some (some (.ref f23))) (l23 : K.lookup f23 = some ⟨oc23, od23, .func (PySem.W.fnOf "_law_draw_lot" "_law_draw_lot" (defArgs s_L_draw_lot) (defBody s_L_draw_lot) (defScope s_L_draw_lot) .none kV23 dc23 pm23 an23 cd23 ct23), sl23⟩) (c23 : PySem.W.codeIn K cd23 "_law_draw_lot" = true) (k23 : PySem.W.keepIn K (.ref f23) = true)
    (a24 : PySem.W.nsIn K mainGlobals "_law_cells_line" = some (some (.ref f24))) (l24 : K.lookup f24 = some ⟨oc24, od24, .func (PySem.W.fnOf "_law_cells_line" "_law_cells_line" (defArgs s_L_cells_line) (defBody s_L_cells_line) (defScope s_L_cells_line) .none kV24 dc24 pm24 an24 cd24 ct24), sl24⟩) (c24 : PySem.W.codeIn K cd24 "_law_cells_line" = true) (k24 : PySem.W.keepIn K (.ref f24) = true)
    (a25 : PySem.W.nsIn K mainGlobals "_law_pairs_line" = some (some (.ref f25))) (l25 : K.lookup f25 = some ⟨oc25, od25, .func (PySem.W.fnOf "_law_pairs_line" "_law_pairs_line" (defArgs s_L_pairs_line) (defBody s_L_pairs_line) (defScope s_L_pairs_line) .none kV25 dc25 pm25 an25 cd25 ct25), sl25⟩) (c25 : PySem.W.codeIn K cd25 "_law_pairs_line" = true) (k25 : PySem.W.keepIn K (.ref f25) = true)
    (a26 : PySem.W.nsIn K mainGlobals "_law_text_rules" = some (some (.ref f26))) (l26 : K.lookup f26 = some ⟨oc26, od26, .func (PySem.W.fnOf "_law_text_rules" "_law_text_rules" (defArgs s_L_text_rules) (defBody s_L_text_rules) (defScope s_L_text_rules) .none kV26 dc26 pm26 an26 cd26 ct26), sl26⟩) (c26 : PySem.W.codeIn K cd26 "_law_text_rules" = true) (k26 : PySem.W.keepIn K (.ref f26) = true)
    (a27 : PySem.W.nsIn K mainGlobals "_law_read_as" = some (some (.ref f27))) (l27 : K.lookup f27 = some ⟨oc27, od27, .func (PySem.W.fnOf "_law_read_as" "_law_read_as" (defArgs s_L_read_as) (defBody s_L_read_as) (defScope s_L_read_as) .none kV27 dc27 pm27 an27 cd27 ct27), sl27⟩) (c27 : PySem.W.codeIn K cd27 "_law_read_as" = true) (k27 : PySem.W.keepIn K (.ref f27) = true)
    (a28 : PySem.W.nsIn K mainGlobals "_law_rewritten" = some (some (.ref f28))) (l28 : K.lookup f28 = some ⟨oc28, od28, .func (PySem.W.fnOf "_law_rewritten" "_law_rewritten" (defArgs s_L_rewritten) (defBody s_L_rewritten) (defScope s_L_rewritten) .none kV28 dc28 pm28 an28 cd28 ct28), sl28⟩) (c28 : PySem.W.codeIn K cd28 "_law_rewritten" = true) (k28 : PySem.W.keepIn K (.ref f28) = true)
    (a29 : PySem.W.nsIn K mainGlobals "_law_written" = some (some (.ref f29))) (l29 : K.lookup f29 = some ⟨oc29, od29, .func (PySem.W.fnOf "_law_written" "_law_written" (defArgs s_L_written) (defBody s_L_written) (defScope s_L_written) .none kV29 dc29 pm29 an29 cd29 ct29), sl29⟩) (c29 : PySem.W.codeIn K cd29 "_law_written" = true) (k29 : PySem.W.keepIn K (.ref f29) = true)
    (a30 : PySem.W.nsIn K mainGlobals "_law_part_right" = some (some (.ref f30))) (l30 : K.lookup f30 = some ⟨oc30, od30, .func (PySem.W.fnOf "_law_part_right" "_law_part_right" (defArgs s_L_part_right) (defBody s_L_part_right) (defScope s_L_part_right) .none kV30 dc30 pm30 an30 cd30 ct30), sl30⟩) (c30 : PySem.W.codeIn K cd30 "_law_part_right" = true) (k30 : PySem.W.keepIn K (.ref f30) = true)
    (a31 : PySem.W.nsIn K mainGlobals "_law_ways_right" = some (some (.ref f31))) (l31 : K.lookup f31 = some ⟨oc31, od31, .func (PySem.W.fnOf "_law_ways_right" "_law_ways_right" (defArgs s_L_ways_right) (defBody s_L_ways_right) (defScope s_L_ways_right) .none kV31 dc31 pm31 an31 cd31 ct31), sl31⟩) (c31 : PySem.W.codeIn K cd31 "_law_ways_right" = true) (k31 : PySem.W.keepIn K (.ref f31) = true)
    (a32 : PySem.W.nsIn K mainGlobals "_law_typed_right" = some (some (.ref f32))) (l32 : K.lookup f32 = some ⟨oc32, od32, .func (PySem.W.fnOf "_law_typed_right" "_law_typed_right" (defArgs s_L_typed_right) (defBody s_L_typed_right) (defScope s_L_typed_right) .none kV32 dc32 pm32 an32 cd32 ct32), sl32⟩) (c32 : PySem.W.codeIn K cd32 "_law_typed_right" = true) (k32 : PySem.W.keepIn K (.ref f32) = true)
    (a33 : PySem.W.nsIn K mainGlobals "law" = some (some (.ref f33))) (l33 : K.lookup f33 = some ⟨oc33, od33, .func (PySem.W.fnOf "law" "law" (defArgs s_law) (defBody s_law) (defScope s_law) .none kV33 dc33 pm33 an33 cd33 ct33), sl33⟩) (c33 : PySem.W.codeIn K cd33 "law" = true) (k33 : PySem.W.keepIn K (.ref f33) = true)
    (zC : PySem.W.nsIn K mainGlobals "BadText" = some (some (.ref C))) (zR : PySem.W.nsIn K mainGlobals "RoomError" = some (some (.ref R)))
    (xL : K.lookup C = some (excClassObj nm q C N bs [.ref R, .type "ValueError", .type "Exception", .type "BaseException", .type "object"] true sn sub ab col dd m0 m1 m2 m3 m5 "ValueError.__new__"))
    (sa : PySem.W.findIn K (.ref C) "__setattr__" = some (some (.builtin "object.__setattr__")))
    (exC : PySem.W.subIn K (.ref C) (.type "BaseException") = some true)
    (tyC : PySem.W.typeIn K (.ref C) = some (.type "type"))
    (kC : PySem.W.keepIn K (.ref C) = true)
    (iC : PySem.W.findIn K (.ref C) "__init__" = some (some (.ref fI)))
    (tI : PySem.W.typeIn K (.ref fI) = some (.type "function"))
    (noP : PySem.W.findIn K (.ref C) "place" = some none)
    (sub1 : PySem.W.mroIn K C (.ref C) = some true)
    (sup : PySem.W.ks_superIn K C C "__init__" = some (some (.builtin "ValueError.__init__")))
    (sVE : PySem.W.subIn K (.ref C) (.type "ValueError") = some true)
    (opq : PySem.W.nsIn K cStatics "thirdparty.any" = some none)
    (te : PySem.W.exmOne K (.ref C) (.ref C) = some true)
    (ga : PySem.W.findIn K (.ref C) "__getattribute__" = some (some (.builtin "BaseException.__getattribute__")))
    (gg : PySem.W.findIn K (.ref C) "__getattr__" = some none)
    (hd : PySem.W.hasDictIn K C = true)
    (ec : PySem.W.findIn K (.ref C) "__class__" = some (some (.builtin "object.__class__")))
    (en : PySem.W.specialIn K (.builtin "object.__class__") "__get__" = some (some (.builtin "getset_descriptor.__get__")))
    (et : PySem.W.takesIn K (.builtin "object.__class__") = some true)
    (em : PySem.W.mroIn K C (.type "object") = some true)
    (kit : PySem.W.kitOne K (.ref C) (.ref R) = some true)
    (fI1 : K.lookup fI = some ⟨ocI, odI, .func (PySem.W.fnX "__init__" "BadText.__init__" (defArgs s_init) (defBody s_init) (defScope s_init) (clI cc) .none kVI docI pmI anI (.ref cda) ctI), oslI⟩)
    (fI2 : PySem.W.codeIn K (.ref cda) "BadText.__init__" = true)
    (fI3 : K.lookup cda = some ⟨ccl, cdd, .fields vs0, ccs⟩)
    (fI4 : vs0[2]? = some (.str "/claim/cut.py" tf))
    (fI5 : K.lookup cc = some ⟨clc, cld, .cell (some (.ref C)), csl⟩)
    (z_all : PySem.W.nsIn K mainGlobals "all" = some none)
    (z_dict : PySem.W.nsIn K mainGlobals "dict" = some none)
    (z_enumerate : PySem.W.nsIn K mainGlobals "enumerate" = some none)
    (z_int : PySem.W.nsIn K mainGlobals "int" = some none)
    (z_isinstance : PySem.W.nsIn K mainGlobals "isinstance" = some none)
    (z_len : PySem.W.nsIn K mainGlobals "len" = some none)
    (z_list : PySem.W.nsIn K mainGlobals "list" = some none)
    (z_range : PySem.W.nsIn K mainGlobals "range" = some none)
    (z_repr : PySem.W.nsIn K mainGlobals "repr" = some none)
    (z_reversed : PySem.W.nsIn K mainGlobals "reversed" = some none)
    (z_sorted : PySem.W.nsIn K mainGlobals "sorted" = some none)
    (z_tuple : PySem.W.nsIn K mainGlobals "tuple" = some none)
    (z_zip : PySem.W.nsIn K mainGlobals "zip" = some none)
    (z_super : PySem.W.nsIn K mainGlobals "super" = some none)
    (z_ValueError : PySem.W.nsIn K mainGlobals "ValueError" = some none)
    (z_str : PySem.W.nsIn K mainGlobals "str" = some none)
    (z_abs : PySem.W.nsIn K mainGlobals "abs" = some none)
    (yD : PySem.W.nsIn K mainGlobals "DIGITS" = some (some (.str "0123456789" tD))) (yM : PySem.W.nsIn K mainGlobals "MOST_DIGITS" = some (some (.ref mA))) (lM : K.lookup mA = some ⟨.type "dict", none, .dict #[⟨PyData.keyHash w.params "z", .str "z" t1, .int 9 u1⟩, ⟨PyData.keyHash w.params "n", .str "n" t2, .int 9 u2⟩, ⟨PyData.keyHash w.params "Z", .str "Z" t3, .int 60 u3⟩] nM, #[]⟩) (sM : (mA == sysModules) = false) :
    Txt w K mg ∧ ∃ fd : FuncData, DF K mg "law" s_law ["script"] fa fd ∧ (∀ (s : Shared) (v : Value), BindsTo s fd ⟨[v], []⟩ [("script", v)]) := by
  have e := hfa.symm.trans (PySem.W.mg_of X G a33)
  cases e
  have OX : OexC K C := ⟨⟨nm, q, N, bs, _, sn, sub, ab, col, dd, m0, m1, m2, m3, m5, xL, by show PySem.HandSPX.refsVE [.type "ValueError", .type "Exception", .type "BaseException", .type "object"] = true; decide +kernel⟩, sa, exC, tyC, kC⟩
  have B : BadC K mg C R fI cc := ⟨PySem.W.mg_of X G zC, PySem.W.mg_of X G zR, OX, iC, tI, noP, sub1, ⟨_, by unfold PySem.W.clsIn; rw [xL] <;> rfl⟩, sup, sVE, opq, te, ⟨ga, gg, exC, hd⟩, ⟨ga, gg, exC, hd, ec, en, et, em⟩, kit,
    ⟨ocI, kVI, docI, pmI, ctI, ccl, clc, odI, anI, cdd, cld, oslI, ccs, csl, vs0, tf, cda, fI1, fI2, fI3, fI4, fI5⟩⟩
  refine ⟨⟨df_mk X G a0 l0 c0 k0 (fun _ _ _ _ _ _ us hl => match us, hl with | [_], _ => rfl),
    df_mk X G a1 l1 c1 k1 (fun _ _ _ _ _ _ us hl => match us, hl with | [_], _ => rfl),
    df_mk X G a2 l2 c2 k2 (fun _ _ _ _ _ _ us hl => match us, hl with | [_, _], _ => rfl),
    df_mk X G a3 l3 c3 k3 (fun _ _ _ _ _ _ us hl => match us, hl with | [_], _ => rfl),
    df_mk X G a4 l4 c4 k4 (fun _ _ _ _ _ _ us hl => match us, hl with | [_, _, _], _ => rfl),
    df_mk X G a5 l5 c5 k5 (fun _ _ _ _ _ _ us hl => match us, hl with | [_, _], _ => rfl),
    df_mk X G a6 l6 c6 k6 (fun _ _ _ _ _ _ us hl => match us, hl with | [_, _, _], _ => rfl),
    df_mk X G a7 l7 c7 k7 (fun _ _ _ _ _ _ us hl => match us, hl with | [_, _], _ => rfl),
    df_mk X G a8 l8 c8 k8 (fun _ _ _ _ _ _ us hl => match us, hl with | [_, _, _], _ => rfl),
    df_mk X G a9 l9 c9 k9 (fun _ _ _ _ _ _ us hl => match us, hl with | [_, _], _ => rfl),
    df_mk X G a10 l10 c10 k10 (fun _ _ _ _ _ _ us hl => match us, hl with | [_], _ => rfl),
    df_mk X G a11 l11 c11 k11 (fun _ _ _ _ _ _ us hl => match us, hl with | [_], _ => rfl),
    df_mk X G a12 l12 c12 k12 (fun _ _ _ _ _ _ us hl => match us, hl with | [_], _ => rfl),
    df_mk X G a13 l13 c13 k13 (fun _ _ _ _ _ _ us hl => match us, hl with | [_], _ => rfl),
    df_mk X G a14 l14 c14 k14 (fun _ _ _ _ _ _ us hl => match us, hl with | [_], _ => rfl),
    df_mk X G a15 l15 c15 k15 (fun _ _ _ _ _ _ us hl => match us, hl with | [_], _ => rfl),
    df_mk X G a16 l16 c16 k16 (fun _ _ _ _ _ _ us hl => match us, hl with | [_], _ => rfl),
    df_mk X G a17 l17 c17 k17 (fun _ _ _ _ _ _ us hl => match us, hl with | [_], _ => rfl),
    df_mk X G a18 l18 c18 k18 (fun _ _ _ _ _ _ us hl => match us, hl with | [_], _ => rfl),
    df_mk X G a19 l19 c19 k19 (fun _ _ _ _ _ _ us hl => match us, hl with | [_, _], _ => rfl),
    df_mk X G a20 l20 c20 k20 (fun _ _ _ _ _ _ us hl => match us, hl with | [_, _], _ => rfl),
    df_mk X G a21 l21 c21 k21 (fun _ _ _ _ _ _ us hl => match us, hl with | [_, _, _], _ => rfl),
    df_mk X G a22 l22 c22 k22 (fun _ _ _ _ _ _ us hl => match us, hl with | [_, _, _], _ => rfl),
    df_mk X G a23 l23 c23 k23 (fun _ _ _ _ _ _ us hl => match us, hl with | [_, _], _ => rfl),
    df_mk X G a24 l24 c24 k24 (fun _ _ _ _ _ _ us hl => match us, hl with | [_], _ => rfl),
    df_mk X G a25 l25 c25 k25 (fun _ _ _ _ _ _ us hl => match us, hl with | [_, _], _ => rfl),
    df_mk X G a26 l26 c26 k26 (fun _ _ _ _ _ _ us hl => match us, hl with | [], _ => rfl),
    df_mk X G a27 l27 c27 k27 (fun _ _ _ _ _ _ us hl => match us, hl with | [_, _], _ => rfl),
    df_mk X G a28 l28 c28 k28 (fun _ _ _ _ _ _ us hl => match us, hl with | [_, _], _ => rfl),
    df_mk X G a29 l29 c29 k29 (fun _ _ _ _ _ _ us hl => match us, hl with | [_, _], _ => rfl),
    df_mk X G a30 l30 c30 k30 (fun _ _ _ _ _ _ us hl => match us, hl with | [_, _, _, _], _ => rfl),
    df_mk X G a31 l31 c31 k31 (fun _ _ _ _ _ _ us hl => match us, hl with | [_], _ => rfl),
    df_mk X G a32 l32 c32 k32 (fun _ _ _ _ _ _ us hl => match us, hl with | [], _ => rfl),
    ⟨C, R, fI, cc, B⟩, PySem.W.mg_none_of X G z_all, PySem.W.mg_none_of X G z_dict, PySem.W.mg_none_of X G z_enumerate, PySem.W.mg_none_of X G z_int, PySem.W.mg_none_of X G z_isinstance, PySem.W.mg_none_of X G z_len, PySem.W.mg_none_of X G z_list, PySem.W.mg_none_of X G z_range, PySem.W.mg_none_of X G z_repr, PySem.W.mg_none_of X G z_reversed, PySem.W.mg_none_of X G z_sorted, PySem.W.mg_none_of X G z_tuple, PySem.W.mg_none_of X G z_zip, PySem.W.mg_none_of X G z_super, PySem.W.mg_none_of X G z_ValueError, PySem.W.mg_none_of X G z_str, PySem.W.mg_none_of X G z_abs, ⟨_, PySem.W.mg_of X G yD⟩, ⟨_, PySem.W.mg_of X G yM, most_mk lM sM⟩⟩, ?_⟩
  exact ⟨_, ⟨fun_mk l33 c33 k33, PySem.W.mg_of X G a33, (fun_mk l33 c33 k33).binds (fun _ _ _ _ _ _ us hl => match us, hl with | [_], _ => rfl)⟩, fun s v => .of_eq rfl⟩
end TX
/-! part S04 -/
/-! The drawn source: a dict with a list, and numbers that are taken from it. -/
namespace TX
open PySem PySem.Spec PyProof.Rows L2 NT
local macro_rules | `(tactic| walk_at "go") => `(tactic| simp only [L2.start, List.map_cons, List.map_nil, List.length_cons, List.length_nil, Nat.reduceSub, Nat.reduceAdd, List.replicate_succ, List.replicate_zero, List.cons_append, List.nil_append, List.append_nil,
  tSeq, tNext, tRet, tIfS, tTest, tAnd, tOr, tNot, tCB, tCall, tCons, tNil, tVar, tC, tOp, tUn, tAsg, gName, rI0, rI, CMul, CDiv, tDGet, sDPut, tBM0, tBM, tTup, tLst, tPar, gTup, gNil, gCons, tIf, tAug,
  List.getElem?_cons_zero, List.getElem?_cons_succ, List.set_cons_zero, List.set_cons_succ, Option.some.injEq, V.int.injEq, V.str.injEq, V.ref.injEq, V.bl.injEq, exists_eq_left, exists_eq_left', exists_eq_right, exists_eq_right', exists_eq', true_and, and_true, decide_eq_true_eq, List.cons.injEq, reduceCtorEq, false_and, false_or, or_false, exists_false, exists_and_left, exists_and_right])
structure Sr where
  cs : List Int
  l : Int
  m : Int
  t : Int
def kvS (c : Addr) (s : Sr) : List (Key × V) := [(.inr "cells", .ref c), (.inr "left", .int s.l), (.inr "mixed", .int s.m), (.inr "turn", .int s.t)]
/-- the source stands at d, its list at c -/
structure SrcAt (H : Hp) (d c : Addr) (s : Sr) : Prop where
  dd : H d = some (.dK (kvS c s))
  cc : H c = some (.lst (s.cs.map V.int))
theorem k_lc : ¬ ((Sum.inr "cells" : Key) = (Sum.inr "left" : Key)) := by decide +kernel
theorem k_mc : ¬ ((Sum.inr "cells" : Key) = (Sum.inr "mixed" : Key)) := by decide +kernel
theorem k_tc : ¬ ((Sum.inr "cells" : Key) = (Sum.inr "turn" : Key)) := by decide +kernel
theorem k_ml : ¬ ((Sum.inr "left" : Key) = (Sum.inr "mixed" : Key)) := by decide +kernel
theorem k_tl : ¬ ((Sum.inr "left" : Key) = (Sum.inr "turn" : Key)) := by decide +kernel
theorem k_tm : ¬ ((Sum.inr "mixed" : Key) = (Sum.inr "turn" : Key)) := by decide +kernel
theorem k_cl : ¬ ((Sum.inr "left" : Key) = (Sum.inr "cells" : Key)) := by decide +kernel
theorem vS_cells (c : Addr) (s : Sr) : valV (kvS c s) (Sum.inr "cells") = some (.ref c) := valV_pos rfl
theorem vS_left (c : Addr) (s : Sr) : valV (kvS c s) (Sum.inr "left") = some (.int s.l) := (valV_neg k_lc).trans (valV_pos rfl)
theorem vS_mixed (c : Addr) (s : Sr) : valV (kvS c s) (Sum.inr "mixed") = some (.int s.m) := (valV_neg k_mc).trans ((valV_neg k_ml).trans (valV_pos rfl))
theorem vS_turn (c : Addr) (s : Sr) : valV (kvS c s) (Sum.inr "turn") = some (.int s.t) := (valV_neg k_tc).trans ((valV_neg k_tl).trans ((valV_neg k_tm).trans (valV_pos rfl)))
theorem pS_left (c : Addr) (s : Sr) (z : Int) : putK (kvS c s) (Sum.inr "left") (.int z) = kvS c { s with l := z } := by
  unfold putK
  rw [if_pos (by rw [valV_any, vS_left]; rfl)]
  simp only [kvS, List.map_cons, List.map_nil]
  rw [if_neg k_lc, if_pos True.intro, if_neg (fun e => k_ml e.symm), if_neg (fun e => k_tl e.symm)]
theorem pS_turn (c : Addr) (s : Sr) (z : Int) : putK (kvS c s) (Sum.inr "turn") (.int z) = kvS c { s with t := z } := by
  unfold putK
  rw [if_pos (by rw [valV_any, vS_turn]; rfl)]
  simp only [kvS, List.map_cons, List.map_nil]
  rw [if_neg k_tc, if_neg k_tl, if_neg k_tm, if_pos True.intro]
section
variable {H : Hp} {d c : Addr} {s : Sr}
theorem SrcAt.ne (h : SrcAt H d c s) : c ≠ d := ne_of h.cc h.dd (by intro z; cases z)
theorem SrcAt.gc (h : SrcAt H d c s) : DGet H d (.str "cells") (some (.ref c)) := by
  have q := DGet.k (k := Sum.inr "cells") h.dd
  rw [vS_cells] at q
  exact q
theorem SrcAt.gl (h : SrcAt H d c s) : DGet H d (.str "left") (some (.int s.l)) := by
  have q := DGet.k (k := Sum.inr "left") h.dd
  rw [vS_left] at q
  exact q
theorem SrcAt.gm (h : SrcAt H d c s) : DGet H d (.str "mixed") (some (.int s.m)) := by
  have q := DGet.k (k := Sum.inr "mixed") h.dd
  rw [vS_mixed] at q
  exact q
theorem SrcAt.gt (h : SrcAt H d c s) : DGet H d (.str "turn") (some (.int s.t)) := by
  have q := DGet.k (k := Sum.inr "turn") h.dd
  rw [vS_turn] at q
  exact q
theorem SrcAt.pl (h : SrcAt H d c s) (z : Int) : DPut H d (.str "left") (.int z) (upd H d (.dK (kvS c { s with l := z }))) := by
  have q := DPut.k (k := Sum.inr "left") (v := .int z) h.dd (by show 4 < sizeLine; decide)
  rw [pS_left] at q
  exact q
theorem SrcAt.pt (h : SrcAt H d c s) (z : Int) : DPut H d (.str "turn") (.int z) (upd H d (.dK (kvS c { s with t := z }))) := by
  have q := DPut.k (k := Sum.inr "turn") (v := .int z) h.dd (by show 4 < sizeLine; decide)
  rw [pS_turn] at q
  exact q
theorem SrcAt.up (h : SrcAt H d c s) (s' : Sr) (e : s'.cs = s.cs) : SrcAt (upd H d (.dK (kvS c s'))) d c s' := ⟨upd_same, by rw [upd_ne h.ne, e]; exact h.cc⟩
end
abbrev DC (d c : Addr) : Addr → Prop := fun b => b = d ∨ b = c
def spPick : Sp := fun vs H Q _ => ∃ (d c : Addr) (s : Sr) (n : Int), vs = [.ref d, .int n] ∧ SrcAt H d c s ∧ s.cs.length ≤ 63 ∧ n < 1073741824 ∧
  ∀ (r : Int) (s' : Sr) (H' : Hp), 0 ≤ r → (r < n ∨ r = 0) → SrcAt H' d c s' → s'.cs.length ≤ s.cs.length → Kp (DC d c) H H' → Q (.int r) H'
section
variable {P : Program} {w : World} {K : PySem.W.Frag} {mg : Str → Option Value} {base : Heap}
theorem ok_pick (T : Txt w K mg) : Ok P w K mg base CX0 1 "_law_pick" ["source", "most"] spPick := by
  obtain ⟨f, fd, D⟩ := T.d_L_pick
  refine ⟨f, fd, D.F.ok sc_L_pick (fun vs H Q E h => ?_) (fun cdv A outer s H vs Q E hr h => ?_), D.g, D.F.kp, D.b⟩
  · obtain ⟨d, c, s, n, rfl, _⟩ := h
    rfl
  · obtain ⟨d, c, S, n, rfl, hS, hlen, hn, q⟩ := h
    have hu := hu_of hr
    have nd := sc_L_pick.nd
    refine ⟨_, pss_cons (ps_if (pt_cmpR op_lt (pv 1) pe_int (nomark _)) (pss_one (ps_ret pe_int)) pss_nil)
      (pss_cons (ps_set (i := 2) nd rfl (.inl rfl) (pe_dget hu (pv 0) pe_str (fun _ _ => rfl)))
      (pss_cons (ps_while PassesOwn.never (PW.pt (pw_and (pt_cmpR op_lt (pe_dget hu (pv 0) pe_str (fun _ _ => rfl)) pe_int (nomark _)) (pw_and1 (pt_cmpR op_gt (pe_callB call_len_seq (by rfl) T.z_len PySem.boot_len (pa_cons (pv 2) pa_nil)) pe_int (nomark _)))))
        (pss_one (ps_dput hu (pv 0) pe_str (pe_bm0 PySem.F.plainAttrs_list PySem.F.slot_list_pop PySem.F.type_list_pop mt_pop (pv 2)) rfl)))
      (pss_cons (ps_set (i := 3) nd rfl (.inl rfl) (pe_dget hu (pv 0) pe_str (fun _ _ => rfl)))
      (pss_cons (ps_if (pt_cmpR op_gt (pv 3) pe_int (nomark _))
          (pss_cons (ps_dput hu (pv 0) pe_str (pe_op op_fdiv (pv 3) (pv 1)) rfl)
          (pss_one (ps_ret (pe_op op_mod (pe_callTy call_int1 (by rfl) T.z_int (by decide +kernel) (pa_cons (pv 3) pa_nil)) (pv 1))))) pss_nil)
      (pss_cons (ps_dput hu (pv 0) pe_str (pe_op op_add (pe_dget hu (pv 0) pe_str (fun _ _ => rfl)) pe_int) rfl)
      (pss_cons (ps_set (i := 4) nd rfl (.inl rfl) (pe_dget hu (pv 0) pe_str (fun _ _ => rfl)))
      (pss_cons (ps_set (i := 5) nd rfl (.inl rfl) (pe_op op_mod (pe_callTy call_int1 (by rfl) T.z_int (by decide +kernel) (pa_cons (pe_op op_add (pe_dget hu (pv 0) pe_str (fun _ _ => rfl)) (pe_op op_mul (pv 4) pe_int)) pa_nil)) pe_int))
      (pss_cons (ps_set (i := 5) nd rfl (.inl rfl) (pe_op op_mod (pe_callTy call_int1 (by rfl) T.z_int (by decide +kernel) (pa_cons (pe_op op_add (pe_op op_mul (pv 5) (pv 5)) (pe_op op_mul (pv 4) pe_int)) pa_nil)) pe_int))
      (pss_one (ps_ret (pe_op op_mod (pe_callTy call_int1 (by rfl) T.z_int (by decide +kernel) (pa_cons (pe_op op_fdiv (pv 5) pe_int) pa_nil)) (pv 1)))))))))))), ?_⟩
    walk_at "go"
    split
    · exact q 0 S H (by decide) (.inr rfl) hS (Nat.le_refl _) (Kp.refl _ _)
    rename_i hn2
    have n0 : 0 < n := by omega
    let Pv : Nat → L2.St → Hp → Prop := fun m σ H' => ∃ s', σ = [some (.ref d), some (.int n), some (.ref c), none, none, none] ∧ SrcAt H' d c s' ∧ s'.cs.length = m ∧ s'.cs.length ≤ S.cs.length ∧ Kp (DC d c) H H'
    refine ⟨_, hS.gc, while_m Pv (fun σ H' => ∃ m, Pv m σ H') ⟨_, S, rfl, hS, rfl, Nat.le_refl _, Kp.refl _ _⟩ ?_ ?_⟩
    · rintro σ H1 ⟨m, s1, rfl, h1, -, l1, k1⟩
      walk_at "go"
      refine ⟨_, h1.gl, _, rfl, ite2 (fun _ => ?_) (fun _ => ?_)⟩
      · refine ⟨_, rfl, ⟨n0, hn⟩, _, h1.pl _, .inl ⟨_, rfl, n0, ?_⟩⟩
        exact q _ _ _ (Int.emod_nonneg _ (by omega)) (.inl (Int.emod_lt_of_pos _ n0)) (h1.up _ rfl) l1 (k1.trans (Kp.upd_in (.inl rfl)))
      · refine ⟨_, h1.gt, _, rfl, _, h1.pt _, ?_⟩
        have h2 := h1.up { s1 with t := s1.t + 1 } rfl
        refine ⟨_, h2.gt, _, h2.gm, _, rfl, .inr ⟨by decide, by decide⟩, _, rfl, by decide, .inl ⟨?_, ?_⟩, _, rfl, .inr ⟨by decide, by decide⟩, by decide, ⟨by decide, by decide⟩, n0, ?_⟩
        · have := Int.emod_nonneg (s1.m + (s1.t + 1) * 104729) (show (998244353 : Int) ≠ 0 by decide)
          omega
        · have := Int.emod_lt_of_pos (s1.m + (s1.t + 1) * 104729) (show (0 : Int) < 998244353 by decide)
          omega
        · exact q _ _ _ (Int.emod_nonneg _ (by omega)) (.inl (Int.emod_lt_of_pos _ n0)) h2 l1 (k1.trans (Kp.upd_in (.inl rfl)))
    · rintro nx hnx m σ H1 ⟨s1, rfl, h1, rfl, l1, k1⟩
      have out := hnx _ _ ⟨_, s1, rfl, h1, rfl, l1, k1⟩
      walk_at "go"
      refine ⟨_, h1.gl, _, rfl, ite2 (fun _ => ?_) (fun _ => out)⟩
      refine ⟨_, .inl (.inl (.inl h1.cc)), ?_⟩
      refine ite2 (fun h0 => ?_) (fun _ => out)
      rw [List.length_map] at h0
      refine ⟨fun σ' H' => ∃ m', m' < s1.cs.length ∧ Pv m' σ' H', fun _ _ z => z, .inl ⟨rfl, _, .inl (.inl h1.cc)⟩, ?_⟩
      obtain ⟨l, z, el⟩ : ∃ l z, s1.cs = l ++ [z] := by
        rcases List.eq_nil_or_concat s1.cs with e | ⟨l, z, e⟩
        · rw [e] at h0
          exact absurd h0 (by decide)
        · exact ⟨l, z, by rw [e, List.concat_eq_append]⟩
      have ll : s1.cs.length = l.length + 1 := by
        rw [el, List.length_append]
        rfl
      refine ⟨c, _, .int z, rfl, rfl, h1.cc, by rw [el, List.map_append]; simp, ?_⟩
      have h2 : SrcAt (upd H1 c (.lst ((s1.cs.map V.int).dropLast))) d c { s1 with cs := l } := ⟨by rw [upd_ne h1.ne.symm]; exact h1.dd, by rw [upd_same, el, List.map_append]; simp⟩
      refine ⟨_, h2.pl _, l.length, by omega, { s1 with cs := l, l := z }, rfl, h2.up _ rfl, rfl, by show l.length ≤ _; omega, ?_⟩
      exact k1.trans ((Kp.upd_in (.inr rfl)).trans (Kp.upd_in (.inl rfl)))
end
end TX
/-! part S2 -/
/-! The source opened; things in any order. -/
namespace TX
open PySem PySem.Spec PyProof.Rows L2 NT
local macro_rules | `(tactic| walk_at "go") => `(tactic| simp only [L2.start, List.map_cons, List.map_nil, List.length_cons, List.length_nil, Nat.reduceSub, Nat.reduceAdd, List.replicate_succ, List.replicate_zero, List.cons_append, List.nil_append, List.append_nil,
  tSeq, tNext, tRet, tIfS, tTest, tAnd, tOr, tNot, tCB, tCall, tCons, tNil, tVar, tC, tOp, tUn, tAsg, gName, rI0, rI, CMul, CDiv, tDGet, sDPut, tBM0, tBM, tTup, tLst, tPar, gTup, gNil, gCons, tIf, tAug, tRevL, tDisp, tPairs, tYes, wipe, tDrop, L2.tSl, tNotV, tAndV, tOrV, rEq, rNe, tFmt, ↓reduceIte, ↓reduceIte,
  List.getElem?_cons_zero, List.getElem?_cons_succ, List.set_cons_zero, List.set_cons_succ, Option.some.injEq, V.int.injEq, V.str.injEq, V.ref.injEq, V.bl.injEq, exists_eq_left, exists_eq_left', exists_eq_right, exists_eq_right', exists_eq', true_and, and_true, decide_eq_true_eq, List.cons.injEq, reduceCtorEq, false_and, false_or, or_false, exists_false, exists_and_left, exists_and_right])
def spOpen (K : PySem.W.Frag) : Sp := fun vs H Q _ => ∃ (a : Addr) (ns : List Int), vs = [.ref a] ∧ SqL K H a (ns.map V.int) ∧ ns.length ≤ 63 ∧
  ∀ (d c : Addr) (s : Sr) (H' : Hp), Same H H' → H d = none → H c = none → SrcAt H' d c s → s.cs.length ≤ 63 → Q (.ref d) H'
section
variable {P : Program} {w : World} {K : PySem.W.Frag} {mg : Str → Option Value} {base : Heap}
theorem ok_open (T : Txt w K mg) : Ok P w K mg base CX0 1 "_law_open_cells" ["script"] (spOpen K) := by
  obtain ⟨f, fd, D⟩ := T.d_L_open_cells
  refine ⟨f, fd, D.F.ok sc_L_open_cells (fun vs H Q E h => ?_) (fun cdv A outer s H vs Q E hr h => ?_), D.g, D.F.kp, D.b⟩
  · obtain ⟨a, ns, rfl, _⟩ := h
    rfl
  · obtain ⟨a, ns, rfl, hS, hlen, q⟩ := h
    have hu := hu_of hr
    have nd := sc_L_open_cells.nd
    refine ⟨_, pss_cons (ps_set (i := 1) nd rfl (.inl rfl) pe_int)
      (pss_cons (ps_for PassesOwn.never rfl (pi_list (pv 0)) (pg_name (i := 2) nd rfl (.inl rfl))
        (pss_one (ps_set (i := 1) nd rfl (.inl rfl) (pe_op op_mod (pe_callTy call_int1 (by rfl) T.z_int (by decide +kernel) (pa_cons (pe_op op_add (pe_op op_add (pe_op op_mul (pv 1) pe_int) (pe_op op_mul (pv 2) pe_int)) pe_int) pa_nil)) pe_int))))
      (pss_cons (ps_setLc (i := 3) (own := [("cell", 2)]) (g := gName 2) (tt := tYes) rfl nd rfl rfl (sw_true rfl rfl rfl (by decide +kernel)) (pi_list (pv 0)) (blkOk_by (N := n_L_open_cells) (sc := defScope s_L_open_cells) (by decide +kernel))
        (fun _ _ _ _ _ => pg_name (i := 2) nd rfl (.inl rfl)) (fun _ _ _ _ _ => pts_nil) (fun _ _ _ _ _ => pe_callB call_abs (by rfl) T.z_abs (by decide +kernel) (pa_cons (pv 2) pa_nil)))
      (pss_one (ps_ret (pe_disp (pps_cons pe_str (pe_revL (pv 3)) (pps_cons pe_str pe_int (pps_cons pe_str (pv 1) (pps_cons pe_str pe_int pps_nil)))) (by rfl) (by rfl) (fun z => by cases z) (by decide)))))), ?_⟩
    refine ⟨_, rfl, a, rfl, ⟨_, hS⟩, for_list (K := K) (a := a) (xs := ns.map V.int) (fun i σ H2 => ∃ z v, σ = [some (.ref a), some (.int z), v, none] ∧ H2 = H) ⟨11, none, rfl, rfl⟩ (fun i σ H2 _ ⟨_, _, _, e⟩ => e ▸ hS) ?_ ?_⟩
    · rintro i x σ H2 hx ⟨z, v, rfl, e⟩
      obtain ⟨k, _, rfl⟩ := map_get hx
      walk_at "go"
      exact ⟨.inr ⟨by decide, by decide⟩, .inr ⟨by decide, by decide⟩, by decide, e⟩
    · rintro σ H2 ⟨z, v, rfl, e⟩
      subst e
      walk_at "go"
      refine ⟨.ref a, rfl, a, rfl, ⟨_, hS⟩, fun D hD => lc_list (xs := ns.map V.int) (fun i H' => ∃ l : List Int, l.length = i ∧ Same H2 H' ∧ H' D = some (.lst (l.map V.int))) ⟨[], rfl, same_new hD, upd_same⟩ (fun i H' _ ⟨_, _, sm, _⟩ => sm.seq hS) ?_ ?_⟩
      · rintro i x H1 hx ⟨l, el, sm, eD⟩
        obtain ⟨k, hk, rfl⟩ := map_get hx
        have hi := get_lt hk
        walk_at "go"
        refine ⟨_, eD, by rw [List.length_map]; exact small_lt (m := 63) (by omega) (by decide), l ++ [if k < 0 then -k else k], by rw [List.length_append, el]; rfl, fun b o hb => ?_, ?_⟩
        · rw [upd_ne (ne_of_none hb hD)]
          exact sm b o hb
        · rw [upd_same, List.map_append]
          rfl
      · rintro H1 ⟨l, el, sm, eD⟩
        rw [List.length_map] at el
        walk_at "go"
        intro p hp
        refine ⟨_, .inl (.inl (by rw [upd_ne (ne_of_none eD hp)]; exact eD)), fun c hc => ?_⟩
        have cp : c ≠ p := fun z => by
          rw [z, upd_same] at hc
          cases hc
        rw [upd_ne cp] at hc
        refine ⟨by rw [upd_ne cp.symm, upd_same], kvS c ⟨l.reverse, 1, z, 0⟩, rfl, by show 4 ≤ 15; decide, ?_⟩
        refine q p c ⟨l.reverse, 1, z, 0⟩ _ (fun b o hb => ?_) (sm.free hp) (sm.free hc) ⟨?_, ?_⟩ (by show l.reverse.length ≤ 63; rw [List.length_reverse]; omega)
        · have h1 := sm b o hb
          rw [upd_ne (ne_of_none h1 hp), upd_ne (ne_of_none h1 hc), upd_ne (ne_of_none h1 hp)]
          exact h1
        · rw [upd_same]
          rfl
        · rw [upd_ne cp, upd_same, ← List.map_reverse]
end
end TX
/-! part E04 -/
/-! What an error keeps: a copy of an int. -/
namespace TX
open PySem PySem.Spec PyProof.Rows L2 NT
local macro_rules | `(tactic| walk_at "go") => `(tactic| simp only [L2.start, List.map_cons, List.map_nil, List.length_cons, List.length_nil, Nat.reduceSub, Nat.reduceAdd, List.replicate_succ, List.replicate_zero, List.cons_append, List.nil_append, List.append_nil,
  tSeq, tNext, tRet, tIfS, tTest, tAnd, tOr, tNot, tCB, tCall, tCons, tNil, tVar, tC, tOp, tUn, tAsg, gName, rI0, rI, CMul, CDiv, tDGet, sDPut, tBM0, tBM, tTup, tLst, tPar, gTup, gNil, gCons, tIf, tAug, tRevL, tDisp, tPairs, tYes, wipe, tDrop, L2.tSl, tNotV, tAndV, tOrV, tB, rIxL, rIxT, rIxS, rAppend, rExtend, rPop, rSlL, rSetL, tPart, rEq, rNe, tFmt, ↓reduceIte, L2.gSub, ↓reduceIte,
  List.getElem?_cons_zero, List.getElem?_cons_succ, List.set_cons_zero, List.set_cons_succ, Option.some.injEq, V.int.injEq, V.str.injEq, V.ref.injEq, V.bl.injEq, exists_eq_left, exists_eq_left', exists_eq_right, exists_eq_right', exists_eq', true_and, and_true, decide_eq_true_eq, List.cons.injEq, reduceCtorEq, false_and, false_or, or_false, exists_false, exists_and_left, exists_and_right, and_assoc])
section
variable {P : Program} {w : World} {K : PySem.W.Frag} {mg : Str → Option Value} {base : Heap}
theorem isi_int {K : PySem.W.Frag} {H : Hp} {n : Int} {T : String} {b : Bool} {Q : VK} (h : kitB "int" T = some b) (q : Q (.bl b) H) : rIsi K [.int n, .ty T] H Q :=
  ⟨_, _, _, _, b, rfl, .ty T, .base (.int n), kit_ty h, q⟩
def spPartsI : Sp := fun vs H Q _ => ∃ n : Int, vs = [.int n] ∧ ∀ p H', Same H H' → H p = none → H' p = some (.lst []) → Q (.ref p) H'
theorem ok_parts (T : Txt w K mg) : Ok P w K mg base CX0 1 "parts_of" ["value"] spPartsI := by
  obtain ⟨f, fd, D⟩ := T.d_parts_of
  refine ⟨f, fd, D.F.ok sc_parts_of (fun vs H Q E h => ?_) (fun cdv A outer s H vs Q E hr h => ?_), D.g, D.F.kp, D.b⟩
  · obtain ⟨n, rfl, _⟩ := h
    rfl
  · obtain ⟨n, rfl, q⟩ := h
    refine ⟨_, pss_cons (ps_if (pt_val (pe_callB call_isi (by rfl) T.z_isinstance (by decide +kernel) (pa_cons (pv 0) (pa_cons (pe_bltn (v := .ty "dict") (by rfl) T.z_dict (by decide +kernel) rfl) pa_nil)))) (pss_one ps_never) pss_nil)
      (pss_cons (ps_if (pt_val (pe_callB call_isiT (by rfl) T.z_isinstance (by decide +kernel) (pa_cons (pv 0) (pa_cons (pe_tup (pa_cons (pe_bltn (v := .ty "list") (by rfl) T.z_list (by decide +kernel) rfl) (pa_cons (pe_bltn (v := .ty "tuple") (by rfl) T.z_tuple (by decide +kernel) rfl) pa_nil))) pa_nil)))) (pss_one ps_never) pss_nil)
      (pss_one (ps_ret (pe_lst pa_nil)))), ?_⟩
    walk_at "go"
    refine isi_int (b := false) (by decide +kernel) ⟨_, rfl, iteF ⟨by decide, fun t nt => ?_⟩⟩
    refine ⟨_, t, [.ty "list", .ty "tuple"], .type "int", [.type "list", .type "tuple"], false, rfl, upd_same, .cons (.ty _) (.cons (.ty _) .nil), .base (.int n), kitAny_cons (b := false) (kit_ty (by decide +kernel)) (fun _ => kitAny_cons (b := false) (kit_ty (by decide +kernel)) (fun _ => kitAny_nil) (fun z => by cases z)) (fun z => by cases z), _, rfl, iteF ⟨Nat.zero_le _, fun p hp => ?_⟩⟩
    exact q _ _ ((same_new nt).trans (same_new hp)) ((same_new nt).free hp) upd_same
def spMadeI : Sp := fun vs H Q _ => ∃ (n : Int) (v : V), vs = [.int n, v] ∧ ∀ H', Same H H' → Q (.int n) H'
theorem ok_made (T : Txt w K mg) : Ok P w K mg base CX0 1 "made_of" ["value", "parts"] spMadeI := by
  obtain ⟨f, fd, D⟩ := T.d_made_of
  refine ⟨f, fd, D.F.ok sc_made_of (fun vs H Q E h => ?_) (fun cdv A outer s H vs Q E hr h => ?_), D.g, D.F.kp, D.b⟩
  · obtain ⟨n, v, rfl, _⟩ := h
    rfl
  · obtain ⟨n, v, rfl, q⟩ := h
    refine ⟨_, pss_cons (ps_if (pt_val (pe_callB call_isi (by rfl) T.z_isinstance (by decide +kernel) (pa_cons (pv 0) (pa_cons (pe_bltn (v := .ty "dict") (by rfl) T.z_dict (by decide +kernel) rfl) pa_nil)))) (pss_one ps_never) pss_nil)
      (pss_cons (ps_if (pt_val (pe_callB call_isi (by rfl) T.z_isinstance (by decide +kernel) (pa_cons (pv 0) (pa_cons (pe_bltn (v := .ty "tuple") (by rfl) T.z_tuple (by decide +kernel) rfl) pa_nil)))) (pss_one ps_never) pss_nil)
      (pss_cons (ps_if (pt_val (pe_callB call_isi (by rfl) T.z_isinstance (by decide +kernel) (pa_cons (pv 0) (pa_cons (pe_bltn (v := .ty "list") (by rfl) T.z_list (by decide +kernel) rfl) pa_nil)))) (pss_one ps_never) pss_nil)
      (pss_one (ps_ret (pv 0))))), ?_⟩
    walk_at "go"
    refine isi_int (b := false) (by decide +kernel) ⟨_, rfl, iteF (isi_int (b := false) (by decide +kernel) ⟨_, rfl, iteF (isi_int (b := false) (by decide +kernel) ⟨_, rfl, iteF (q _ (Same.refl H))⟩)⟩)⟩
def spCopyI : Sp := fun vs H Q _ => ∃ n : Int, vs = [.int n] ∧ ∀ H', Same H H' → Q (.int n) H'
theorem ok_copy (T : Txt w K mg) : Ok P w K mg base CX0 2 "copy_of" ["value"] spCopyI := by
  obtain ⟨f, fd, D⟩ := T.d_copy_of
  refine ⟨f, fd, D.F.ok sc_copy_of (fun vs H Q E h => ?_) (fun cdv A outer s H vs Q E hr h => ?_), D.g, D.F.kp, D.b⟩
  · obtain ⟨n, rfl, q⟩ := h
    rfl
  · obtain ⟨n, rfl, q⟩ := h
    have nd := sc_copy_of.nd
    refine ⟨_, pss_cons (ps_par (i := 1) (j := 2) rfl nd rfl rfl (by decide) rfl rfl (pa_cons (pe_lst (pa_cons (pv 0) pa_nil)) (pa_cons (pe_lst pa_nil) pa_nil)) (by rfl))
      (pss_cons (ps_while PassesOwn.never (pt_cmpR op_lt (pe_callB call_len_seq (by rfl) T.z_len PySem.boot_len (pa_cons (pv 2) pa_nil)) (pe_callB call_len_seq (by rfl) T.z_len PySem.boot_len (pa_cons (pv 1) pa_nil)) (nomark _))
        (pss_cons (ps_set (i := 3) nd rfl (.inl rfl) (pe_d (ok_parts T) hr pass0 (pa_cons (pe_ix ix_list (pv 1) (pe_callB call_len_seq (by rfl) T.z_len PySem.boot_len (pa_cons (pv 2) pa_nil)) (fun _ _ => rfl)) pa_nil)))
        (pss_cons (ps_expr (pe_bm PySem.F.plainAttrs_list PySem.F.slot_list_append PySem.F.type_list_append mt_append (pv 2) (pa_cons (pe_callB call_len_seq (by rfl) T.z_len PySem.boot_len (pa_cons (pv 1) pa_nil)) pa_nil)))
        (pss_one (ps_expr (pe_bm PySem.F.plainAttrs_list PySem.F.slot_list_extend PySem.F.type_list_extend mt_extend (pv 1) (pa_cons (pv 3) pa_nil)))))))
      (pss_cons (ps_for PassesOwn.never rfl (pi_revR (by rfl) T.z_reversed (prg_1 (by rfl) T.z_range (pe_callB call_len_seq (by rfl) T.z_len PySem.boot_len (pa_cons (pv 1) pa_nil)))) (pg_name (i := 4) nd rfl (.inl rfl))
        (pss_cons (ps_set (i := 5) nd rfl (.inl rfl) (pe_ix ix_list (pv 2) (pv 4) (fun _ _ => rfl)))
        (pss_one (ps_asg (pe_d (ok_made T) hr pass0 (pa_cons (pe_ix ix_list (pv 1) (pv 4) (fun _ _ => rfl)) (pa_cons (pe_slice sl_list (pv 1) (po_some (pv 5)) (po_some (pe_op op_add (pv 5) (pe_callB call_len_seq (by rfl) T.z_len PySem.boot_len (pa_cons (pe_d (ok_parts T) hr pass0 (pa_cons (pe_ix ix_list (pv 1) (pv 4) (fun _ _ => rfl)) pa_nil)) pa_nil))))) pa_nil))) (pg_sub (pv 1) (pv 4) set_list)))))
      (pss_one (ps_ret (pe_ix ix_list (pv 1) pe_int (fun _ _ => rfl)))))), ?_⟩
    walk_at "go"
    refine ⟨by decide, fun p hp => ⟨Nat.zero_le _, fun r hr1 => ?_⟩⟩
    have rp : r ≠ p := fun z => by
      rw [z, upd_same] at hr1
      cases hr1
    have hr0 : H r = none := by rwa [upd_ne rp] at hr1
    refine while_m (fun m σ H' => Same H H' ∧ ((m = 1 ∧ σ = [some (.int n), some (.ref p), some (.ref r), none, none, none] ∧ H' p = some (.lst [.int n]) ∧ H' r = some (.lst [])) ∨ (m = 0 ∧ ∃ v, σ = [some (.int n), some (.ref p), some (.ref r), v, none, none] ∧ H' p = some (.lst [.int n]) ∧ H' r = some (.lst [.int 1]))))
      (fun σ H' => Same H H' ∧ ∃ v, σ = [some (.int n), some (.ref p), some (.ref r), v, none, none] ∧ H' p = some (.lst [.int n]) ∧ H' r = some (.lst [.int 1]))
      ⟨1, (same_new hp).trans (same_new hr1), .inl ⟨rfl, rfl, by rw [upd_ne rp.symm, upd_same], upd_same⟩⟩ ?_ ?_
    · rintro σ H1 ⟨sm, v, rfl, h1, h2⟩
      walk_at "go"
      refine ⟨.ref p, rfl, p, rfl, [.int n], .inl (.inl (.inl h1)), 1, rfl, by decide, by decide, by decide, by decide, for_rangeC (lo := 0) (c := -1) (n := 1) (fun i σ' H' => Same H H' ∧ (∃ v4 v5, σ' = [some (.int n), some (.ref p), some (.ref r), v, v4, v5]) ∧ H' p = some (.lst [.int n]) ∧ H' r = some (.lst [.int 1])) ⟨sm, ⟨none, none, rfl⟩, h1, h2⟩ ?_ ?_⟩
      · rintro i σ' H2 hi ⟨sm2, ⟨v4, v5, rfl⟩, g1, g2⟩
        obtain rfl : i = 0 := by omega
        walk_at "go"
        refine ⟨[.int 1], .inl (.inl g2), .int 1, rfl, [.int n], .inl (.inl g1), .int n, rfl, 1, rfl, [.int n], .inl (.inl g1), .int n, rfl, n, rfl, fun b H3 sm3 hb0 hb => ?_⟩
        refine ⟨b, rfl, [], .inl (.inl (.inl hb)), 1, rfl, [.int n], .inl (.inl (sm3 _ _ g1)), fun sl hsl => ⟨n, _, rfl, fun H4 sm4 => ?_⟩⟩
        have g4 : H4 p = some (.lst [.int n]) := sm4 _ _ (same_new hsl _ _ (sm3 _ _ g1))
        have g5 : H4 r = some (.lst [.int 1]) := sm4 _ _ (same_new hsl _ _ (sm3 _ _ g2))
        refine ⟨[.int n], g4, 0, rfl, fun x o hx => ?_, ?_, ?_⟩
        · rw [upd_ne (ne_of_none hx hp)]
          exact sm4 _ _ (same_new hsl _ _ (sm3 _ _ (sm2 _ _ hx)))
        · rw [upd_same]
          rfl
        · rw [upd_ne rp]
          exact g5
      · rintro σ' H2 ⟨sm2, ⟨v4, v5, rfl⟩, g1, g2⟩
        walk_at "go"
        exact ⟨_, .inl (.inl g1), .int n, rfl, q _ sm2⟩
    · rintro nx hnx m σ H1 ⟨sm, ⟨rfl, rfl, h1, h2⟩ | ⟨rfl, v, rfl, h1, h2⟩⟩
      · walk_at "go"
        refine ⟨[], .inl (.inl (.inl h2)), [.int n], .inl (.inl (.inl h1)), ite2 (fun _ => ?_) (fun z => absurd (show ((0 : Nat) : Int) < ((1 : Nat) : Int) by decide) z)⟩
        refine ⟨fun σ' H' => Same H H' ∧ ∃ v, σ' = [some (.int n), some (.ref p), some (.ref r), v, none, none] ∧ H' p = some (.lst [.int n]) ∧ H' r = some (.lst [.int 1]), fun σ' H' ⟨sm', v, e, a, b⟩ => ⟨0, by decide, sm', .inr ⟨rfl, ⟨v, e⟩, a, b⟩⟩, ?_⟩
        refine ⟨[], .inl (.inl (.inl h2)), _, .inl (.inl h1), .int n, rfl, n, rfl, fun b H2 sm2 hb0 hb => ⟨.inl ⟨rfl, _, .inl (.inl (sm2 _ _ h2))⟩, [.int n], .inl (.inl (.inl (sm2 _ _ h1))), [], sm2 _ _ h2, by decide, .inl ⟨rfl, _, .inl (.inl (by rw [upd_ne rp.symm]; exact sm2 _ _ h1))⟩, ?_⟩⟩
        have bp : b ≠ p := (ne_of_none h1 hb0).symm
        have br : b ≠ r := (ne_of_none h2 hb0).symm
        refine ⟨b, rfl, [.int n], by rw [upd_ne rp.symm]; exact sm2 _ _ h1, [], by rw [upd_ne br]; exact hb, by show 1 ≤ sizeLine; decide, ?_⟩
        refine ⟨fun x o hx => ?_, _, rfl, upd_same, by rw [upd_ne rp, upd_same]; rfl⟩
        rw [upd_ne (ne_of_none hx hp), upd_ne (ne_of_none hx hr0)]
        exact sm2 _ _ (sm _ _ hx)
      · have out := hnx _ _ ⟨sm, v, rfl, h1, h2⟩
        walk_at "go"
        exact ⟨_, .inl (.inl (.inl h2)), _, .inl (.inl (.inl h1)), ite2 (fun z => absurd z (by show ¬ ((1 : Nat) : Int) < ((1 : Nat) : Int); decide)) (fun _ => out)⟩
end
end TX
/-! part E2 -/
/-! BadText made and raised. -/
namespace TX
open PySem PySem.Spec PyProof.Rows L2 NT
local macro_rules | `(tactic| walk_at "go") => `(tactic| simp only [L2.start, List.map_cons, List.map_nil, List.length_cons, List.length_nil, Nat.reduceSub, Nat.reduceAdd, List.replicate_succ, List.replicate_zero, List.cons_append, List.nil_append, List.append_nil,
  tSeq, tNext, tRet, tIfS, tTest, tAnd, tOr, tNot, tCB, tCall, tCons, tNil, tVar, tC, tOp, tUn, tAsg, gName, rI0, rI, CMul, CDiv, tDGet, sDPut, tBM0, tBM, tTup, tLst, tPar, gTup, gNil, gCons, tIf, tAug, tRevL, tDisp, tPairs, tYes, wipe, tDrop, L2.tSl, tNotV, tAndV, tOrV, tB, NdefX.startF, tOst, tMkO, rIxL, rIxT, rIxS, rAppend, rExtend, rPop, rSlL, rSetL, tPart, rEq, rNe, tFmt, ↓reduceIte, L2.gSub, ↓reduceIte,
  List.getElem?_cons_zero, List.getElem?_cons_succ, List.set_cons_zero, List.set_cons_succ, Option.some.injEq, V.int.injEq, V.str.injEq, V.ref.injEq, V.bl.injEq, exists_eq_left, exists_eq_left', exists_eq_right, exists_eq_right', exists_eq', true_and, and_true, decide_eq_true_eq, List.cons.injEq, reduceCtorEq, false_and, false_or, or_false, exists_false, exists_and_left, exists_and_right, and_assoc])
abbrev PW : Program := PySem.Challenge.pw_nodetour_k04_texts_of_rows
def spInit (C : Addr) : Sp := fun vs H Q _ => ∃ (x : Addr) (n : Int), vs = [.ref x, .int n] ∧ H x = some (exo x C none) ∧
  ∀ (d : Addr) (H' : Hp), (∀ b o, H b = some o → b ≠ x → H' b = some o) → H d = none → d ≠ x → H' x = some (exo x C (some d)) → H' d = some (exd d [(("place" : Str), .int n)]) → Q .non H'
def nfI (cc cda : Addr) : NdefX.NF := ⟨"__init__", "BadText.__init__", defArgs s_init, defBody s_init, defScope s_init, clI cc, cda⟩
section
variable {w : World} {K : PySem.W.Frag} {mg : Str → Option Value} {base : Heap}
theorem ok_init (T : Txt w K mg) {C R fI cc : Addr} (B : BadC K mg C R fI cc) : ∃ fd, FnOk PW w K mg base CX0 3 fI fd ["self", "place"] (spInit C) ∧ L2.Binds K fd ["self", "place"] [] := by
  obtain ⟨oc, kV, doc, pm, ct, ccl, cl', od, an, cdd, cld, osl, ccs, csl, vs0, tf, cda, hl, hcode, hco, hvs, hcell⟩ := B.fn
  obtain ⟨cd, hcls⟩ := B.cls
  refine ⟨_, SupX.fn_super (F := nfI cc cda) (N := ["self", "place", "__class__"]) hl rfl (by rfl) hcode hco hvs (by decide +kernel) hcell B.ox hcls T.z_super (by decide +kernel) B.sub B.sup B.sVE B.opq (by decide +kernel) (NdefX.nscope_by (by show NdefX.nscB _ _ _ (defScope s_init) = true; decide +kernel)) (by rfl) (by rfl) (by show List.lookup _ (defScope s_init).names = _; decide +kernel) (fun L => by rfl) (fun L => by rfl) (fun L => by rfl) (fun vs H Q E h => ?_) (fun vs H Q E h => ?_) (fun A outer s H vs ws Q E hr hw h => ?_), .all fun us hu => ?_⟩
  · obtain ⟨x, n, rfl, _⟩ := h
    rfl
  · obtain ⟨x, n, rfl, hx, _⟩ := h
    exact ⟨x, _, rfl, hx⟩
  · obtain ⟨x, n, rfl, hx, q⟩ := h
    obtain ⟨cw, rfl⟩ : ∃ cw, ws = [cw] := by
      match ws, hw with
      | [cw], _ => exact ⟨cw, rfl⟩
    refine ⟨_, (pss_one (ps_ost (pv 0) (pe_d (ok_copy T) hr pass0 (pa_cons (pv 1) pa_nil)))), ?_⟩
    walk_at "go"
    refine ⟨n, rfl, fun H1 sm => ⟨C, B.ox, B.noP, .inl ⟨sm _ _ hx, fun dx hd dxn => ?_⟩⟩⟩
    refine q dx _ (fun b o hb bx => ?_) (sm.free hd) dxn upd_same (by rw [upd_ne dxn, upd_same])
    rw [upd_ne bx, upd_ne (ne_of_none (sm _ _ hb) hd)]
    exact sm _ _ hb
  · match us, hu with
    | [_, _], _ => rfl
/-- raise BadText(n): what must hold of the error's own dict -/
def Bad (C : Addr) (E : XK) (H : Hp) (n : Int) : Prop := ∀ d H', Same H H' → H d = none → H' d = some (.xd [(("place" : Str), .int n)]) → E (.ref C) (some d) H'
theorem Bad.imp {C : Addr} {E E' : XK} {H : Hp} {n : Int} (b : Bad C E H n) (h : ∀ c d H', E c d H' → E' c d H') : Bad C E' H n := fun d H' a b' c => h _ _ _ (b d H' a b' c)
theorem Bad.of {C : Addr} {E : XK} {H H' : Hp} {n : Int} (b : Bad C E H n) (s : Same H H') : Bad C E H' n := fun d H2 a b' c => b d H2 (s.trans a) (s.free b') c
theorem ps_bad {X : Cx} {W : WX} {e : Expr} {te : TE} {p pos pos' : Pos} {j : Nat} {C R fI cc : Addr} (hP : X.prog = PW) (T : Txt X.w X.K X.mg) (B : BadC X.K X.mg C R fI cc) (hr : Room j X.A) (hc : X.calm = true) (tk : Takes X W) (he : PE X e te) (hj : 4 ≤ j := by decide) (hg : Gl X "BadText" := by rfl)
    (hs : starEach [e] X.env = (false, eval e X.env) :: starEach [] X.env := by rfl) : PS X (.Raise (some (.Call (.Name "BadText" p) [e] [] pos)) none pos') (fun _ σ H => tMkO C (spInit C) [] (tCons te tNil) σ H fun cls d H' => W cls d σ H') := by
  obtain ⟨fd, F, b⟩ := ok_init (w := X.w) (base := X.base) T B
  rw [← hP] at F
  exact ps_raise hc tk (pmk_oex B.ox B.iC B.tI F (hr.mono hj) b .nil pass0 hg B.gC (pa_cons he pa_nil hs) (he := hs))
/-- what such a raise asks behind its argument -/
theorem mk_bad {C : Addr} {n : Int} {E : XK} {H1 : Hp} (b : Bad C E H1 n) : [V.int n].length ≤ 1000 ∧ ∀ a, H1 a = none → spInit C (.ref a :: ([V.int n] ++ [])) (upd H1 a (exo a C none))
    (fun v H2 => v = .non ∧ ∃ (d : Addr) (fs : List (Str × V)), H2 a = some (exo a C (some d)) ∧ H2 d = some (exd d fs) ∧ H1 d = none ∧ E (.ref C) (some d) (upd (del H2 a) d (.xd fs))) (fun _ _ _ => False) := by
  refine ⟨by show 1 ≤ 1000; decide, fun a ha => ⟨a, n, rfl, upd_same, fun d H' k hd da e1 e2 => ⟨rfl, d, _, e1, e2, ?_, ?_⟩⟩⟩
  · rwa [upd_ne da] at hd
  · have hd1 : H1 d = none := by rwa [upd_ne da] at hd
    refine b d _ (fun x o hx => ?_) hd1 upd_same
    have xa : x ≠ a := ne_of_none hx ha
    rw [upd_ne (ne_of_none hx hd1), del_ne xa]
    exact k x o (by rw [upd_ne xa]; exact hx) xa
end
end TX
/-! part M04 -/
/-! Rows of numbers in a text: the reading, and the automaton that follows it sign by sign. Plain lists of codes. -/
namespace RW4
/-! ### numbers and forms; z 122, n 110, Z 90 (longer) -/
def dg (c : Nat) : Bool := decide (48 ≤ c) && decide (c ≤ 57)
def d1 (c : Nat) : Bool := decide (49 ≤ c) && decide (c ≤ 57)
def lim (x : Nat) : Nat := if x = 90 then 60 else 9
theorem lim_pos (x : Nat) : 0 < lim x := by
  unfold lim
  split <;> decide
theorem lim_le (x : Nat) : lim x ≤ 60 := by
  unfold lim
  split <;> decide
def runL (x : Nat) (s : List Nat) : List Nat := (s.take (lim x)).takeWhile dg
def val (s : List Nat) : Int := ((PySem.NumText.digitsVal s : Nat) : Int)
/-- a number at the head of s: its value and how many signs; or how many signs are good -/
def numS (x : Nat) : List Nat → Except Nat (Int × Nat)
  | [] => .error 0
  | c :: r =>
    if x ≠ 110 ∧ c = 45 then
      match r with
      | [] => .error 1
      | e :: r' => if d1 e = true then .ok (-(val (runL x (e :: r'))), 1 + (runL x (e :: r')).length) else .error 1
    else if c = 48 then .ok (0, 1)
    else if d1 c = true then .ok (val (runL x (c :: r)), (runL x (c :: r)).length)
    else .error 0
def litS (ch : Nat) : List Nat → Except Nat Nat
  | [] => .error 0
  | c :: _ => if c = ch then .ok 1 else .error 0
def isN (x : Nat) : Prop := x = 122 ∨ x = 110 ∨ x = 90
instance (x : Nat) : Decidable (isN x) := inferInstanceAs (Decidable (_ ∨ _ ∨ _))
/-- numbers in a form -/
def formS : List Nat → List Nat → Except Nat (List Int × Nat)
  | [], _ => .ok ([], 0)
  | f :: fs, s =>
    if isN f then
      match numS f s with
      | .error k => .error k
      | .ok (n, k) => match formS fs (s.drop k) with
        | .error j => .error (k + j)
        | .ok (ns, j) => .ok (n :: ns, k + j)
    else
      match litS f s with
      | .error k => .error k
      | .ok k => match formS fs (s.drop k) with
        | .error j => .error (k + j)
        | .ok (ns, j) => .ok (ns, k + j)
/-- further items, each behind a blank -/
def restS (form : List Nat) : Nat → List Nat → Except Nat (List (List Int))
  | 0, _ => .error 0
  | _ + 1, [] => .ok []
  | m + 1, c :: r =>
    if c = 32 then
      match formS form r with
      | .error k => .error (1 + k)
      | .ok (ns, k) => match restS form m (r.drop k) with
        | .error j => .error (1 + k + j)
        | .ok l => .ok (ns :: l)
    else .error 0
def itemsS (form s : List Nat) : Except Nat (List (List Int)) :=
  if s = [45] then .ok []
  else match formS form s with
    | .error k => .error k
    | .ok (ns, k) => match restS form (s.length + 1) (s.drop k) with
      | .error j => .error (k + j)
      | .ok l => .ok (ns :: l)
/-! ### the automaton -/
inductive St4 where
  | start | dashed | num (x : Nat) (f : List Nat) | minus (x : Nat) (f : List Nat) | digs (n : Nat) (f : List Nat) | lit (f : List Nat)
  deriving DecidableEq
/-- in front of a form -/
def at4 : List Nat → St4
  | [] => .lit []
  | f :: fs => if isN f then .num f fs else .lit (f :: fs)
/-- what goes ahead of the forms, and behind one -/
structure Au where
  st : Nat → Option St4
  da : Nat → Option St4
  fin : Nat → Option St4
def litD (A : Au) : List Nat → Nat → Option St4
  | [], c => A.fin c
  | ch :: fs, c => if c = ch then some (at4 fs) else none
def dl (A : Au) : St4 → Nat → Option St4
  | .start, c => A.st c
  | .dashed, c => A.da c
  | .num x f, c => if x ≠ 110 ∧ c = 45 then some (.minus x f) else if c = 48 then some (.lit f) else if d1 c = true then some (.digs (lim x - 1) f) else none
  | .minus x f, c => if d1 c = true then some (.digs (lim x - 1) f) else none
  | .digs n f, c => if dg c = true ∧ 0 < n then some (.digs (n - 1) f) else litD A f c
  | .lit f, c => litD A f c
/-- rows: a dash alone, or items parted by blanks -/
def auR (form : List Nat) : Au where
  st := fun c => if c = 45 then some .dashed else if c = 48 then some (.lit form.tail) else if d1 c = true then some (.digs 8 form.tail) else none
  da := fun c => if d1 c = true then some (.digs 8 form.tail) else none
  fin := fun c => if c = 32 then some (at4 form) else none
def acc : St4 → Bool
  | .dashed => true
  | .digs _ f => f.isEmpty
  | .lit f => f.isEmpty
  | _ => false
def run (A : Au) : St4 → List Nat → Nat × Bool
  | q, [] => (0, acc q)
  | q, c :: r => match dl A q c with
    | none => (0, false)
    | some q' => ((run A q' r).1 + 1, (run A q' r).2)
def sh (k : Nat) (x : Nat × Bool) : Nat × Bool := (x.1 + k, x.2)
theorem sh_sh (j k : Nat) (x : Nat × Bool) : sh j (sh k x) = sh (k + j) x := by
  unfold sh
  simp only [Nat.add_assoc]
theorem sh_0 (x : Nat × Bool) : sh 0 x = x := rfl
theorem run_cons {A : Au} {q q' : St4} {c : Nat} {r : List Nat} (h : dl A q c = some q') : run A q (c :: r) = sh 1 (run A q' r) := by
  show (match dl A q c with | none => (0, false) | some q' => ((run A q' r).1 + 1, (run A q' r).2)) = _
  rw [h]
  rfl
theorem run_none {A : Au} {q : St4} {c : Nat} {r : List Nat} (h : dl A q c = none) : run A q (c :: r) = (0, false) := by
  show (match dl A q c with | none => (0, false) | some q' => ((run A q' r).1 + 1, (run A q' r).2)) = _
  rw [h]
/-- behind digits that end: as in front of what comes -/
theorem run_digs (A : Au) (f : List Nat) : ∀ (n : Nat) (s : List Nat), (n = 0 ∨ ∀ c r, s = c :: r → dg c = false) → run A (.digs n f) s = run A (.lit f) s
  | n, [], _ => rfl
  | n, c :: r, h => by
    have e : dl A (.digs n f) c = dl A (.lit f) c := by
      show (if dg c = true ∧ 0 < n then some (St4.digs (n - 1) f) else litD A f c) = litD A f c
      rw [if_neg]
      rintro ⟨h1, h2⟩
      rcases h with h | h
      · omega
      · rw [h c r rfl] at h1
        cases h1
    show (match dl A (.digs n f) c with | none => (0, false) | some q' => ((run A q' r).1 + 1, (run A q' r).2)) = (match dl A (.lit f) c with | none => (0, false) | some q' => ((run A q' r).1 + 1, (run A q' r).2))
    rw [e]
theorem run_more (A : Au) (f : List Nat) : ∀ (n : Nat) (s : List Nat), run A (.digs n f) s = sh ((s.take n).takeWhile dg).length (run A (.lit f) (s.drop ((s.take n).takeWhile dg).length))
  | 0, s => by
    rw [run_digs A f 0 s (.inl rfl)]
    rfl
  | n + 1, [] => rfl
  | n + 1, c :: r => by
    by_cases h : dg c = true
    · have e : dl A (.digs (n + 1) f) c = some (.digs n f) := by
        show (if dg c = true ∧ 0 < n + 1 then some (St4.digs (n + 1 - 1) f) else litD A f c) = _
        rw [if_pos ⟨h, Nat.succ_pos n⟩]
        rfl
      rw [run_cons e, run_more A f n r]
      rw [List.take_succ_cons, List.takeWhile_cons, if_pos h, List.length_cons, List.drop_succ_cons, sh_sh]
    · have hf : dg c = false := by simpa using h
      rw [run_digs A f _ _ (.inr fun c' r' e => by cases e; exact hf)]
      rw [List.take_succ_cons, List.takeWhile_cons, if_neg h]
      rfl
theorem d1_dg {c : Nat} (h : d1 c = true) : dg c = true := by
  unfold d1 at h
  unfold dg
  simp only [Bool.and_eq_true, decide_eq_true_eq] at h ⊢
  omega
theorem runL_cons {x c : Nat} {r : List Nat} (h : dg c = true) : runL x (c :: r) = c :: (r.take (lim x - 1)).takeWhile dg := by
  unfold runL
  obtain ⟨m, e⟩ : ∃ m, lim x = m + 1 := ⟨lim x - 1, by have := lim_pos x; omega⟩
  rw [e, List.take_succ_cons, List.takeWhile_cons, if_pos h, Nat.add_sub_cancel]
/-- a number is read as the automaton goes -/
theorem run_num (A : Au) (f : List Nat) (x : Nat) (s : List Nat) : run A (.num x f) s = (match numS x s with
    | .error k => (k, false)
    | .ok (_, k) => sh k (run A (.lit f) (s.drop k))) := by
  cases s with
  | nil => rfl
  | cons c r =>
    unfold numS
    dsimp only
    by_cases h1 : x ≠ 110 ∧ c = 45
    · rw [if_pos h1]
      have e : dl A (.num x f) c = some (.minus x f) := by
        show (if x ≠ 110 ∧ c = 45 then some (St4.minus x f) else _) = _
        rw [if_pos h1]
      rw [run_cons e]
      cases r with
      | nil => rfl
      | cons y r' =>
        by_cases h2 : d1 y = true
        · rw [run_cons (show dl A (.minus x f) y = some (.digs (lim x - 1) f) from if_pos h2), run_more]
          dsimp only
          rw [if_pos h2]
          dsimp only
          rw [runL_cons (d1_dg h2), List.length_cons, sh_sh, sh_sh, show 1 + (((r'.take (lim x - 1)).takeWhile dg).length + 1) = ((r'.take (lim x - 1)).takeWhile dg).length + 1 + 1 by omega, List.drop_succ_cons, List.drop_succ_cons]
        · rw [run_none (show dl A (.minus x f) y = none from if_neg h2)]
          dsimp only
          rw [if_neg h2]
          rfl
    · rw [if_neg h1]
      by_cases h2 : c = 48
      · rw [if_pos h2]
        have e : dl A (.num x f) c = some (.lit f) := by
          show (if x ≠ 110 ∧ c = 45 then some (St4.minus x f) else if c = 48 then some (St4.lit f) else _) = _
          rw [if_neg h1, if_pos h2]
        rw [run_cons e]
        rfl
      · rw [if_neg h2]
        by_cases h3 : d1 c = true
        · rw [if_pos h3]
          have e : dl A (.num x f) c = some (.digs (lim x - 1) f) := by
            show (if x ≠ 110 ∧ c = 45 then some (St4.minus x f) else if c = 48 then some (St4.lit f) else if d1 c = true then some (St4.digs (lim x - 1) f) else none) = _
            rw [if_neg h1, if_neg h2, if_pos h3]
          rw [run_cons e, run_more]
          dsimp only
          rw [runL_cons (d1_dg h3), List.length_cons, sh_sh, List.drop_succ_cons]
        · rw [if_neg h3]
          have e : dl A (.num x f) c = none := by
            show (if x ≠ 110 ∧ c = 45 then some (St4.minus x f) else if c = 48 then some (St4.lit f) else if d1 c = true then some (St4.digs (lim x - 1) f) else none) = _
            rw [if_neg h1, if_neg h2, if_neg h3]
          rw [run_none e]
/-- no two numbers without a sign between -/
def okf : List Nat → Bool
  | x :: y :: fs => !(decide (isN x) && decide (isN y)) && okf (y :: fs)
  | _ => true
theorem okf_tail {x : Nat} {fs : List Nat} (h : okf (x :: fs) = true) : okf fs = true := by
  cases fs with
  | nil => rfl
  | cons y ys =>
    unfold okf at h
    exact (Bool.and_eq_true_iff.mp h).2
theorem at4_lit {x : Nat} {fs : List Nat} (h : ¬ isN x) : at4 (x :: fs) = .lit (x :: fs) := if_neg h
theorem at4_num {x : Nat} {fs : List Nat} (h : isN x) : at4 (x :: fs) = .num x fs := if_pos h
theorem okf_lit {x : Nat} {fs : List Nat} (h : okf (x :: fs) = true) (hx : isN x) : at4 fs = .lit fs := by
  cases fs with
  | nil => rfl
  | cons y ys =>
    refine at4_lit fun hy => ?_
    unfold okf at h
    have q := (Bool.and_eq_true_iff.mp h).1
    rw [decide_eq_true hx, decide_eq_true hy] at q
    cases q
/-- the automaton's word behind a form -/
theorem run_form (A : Au) : ∀ (f : List Nat) (s : List Nat), okf f = true → run A (at4 f) s = (match formS f s with
    | .error k => (k, false)
    | .ok (_, k) => sh k (run A (.lit []) (s.drop k)))
  | [], s, _ => rfl
  | x :: fs, s, h => by
    by_cases hx : isN x
    · rw [at4_num hx, run_num, ← okf_lit h hx]
      unfold formS
      rw [if_pos hx]
      cases e : numS x s with
      | error k => rfl
      | ok p =>
        obtain ⟨n, k⟩ := p
        dsimp only
        rw [run_form A fs (s.drop k) (okf_tail h)]
        cases e2 : formS fs (s.drop k) with
        | error j =>
          dsimp only [sh]
          rw [Nat.add_comm]
        | ok p =>
          obtain ⟨ns, j⟩ := p
          dsimp only
          rw [sh_sh, List.drop_drop, Nat.add_comm j k]
    · rw [at4_lit hx]
      unfold formS
      rw [if_neg hx]
      cases s with
      | nil => rfl
      | cons c r =>
        unfold litS
        by_cases hc : c = x
        · rw [run_cons (show dl A (.lit (x :: fs)) c = some (at4 fs) from if_pos hc), run_form A fs r (okf_tail h)]
          dsimp only
          rw [if_pos hc]
          dsimp only
          rw [List.drop_succ_cons, List.drop_zero]
          cases e2 : formS fs r with
          | error j =>
            dsimp only [sh]
            rw [Nat.add_comm]
          | ok p =>
            obtain ⟨ns, j⟩ := p
            dsimp only
            rw [sh_sh, Nat.add_comm 1 j, List.drop_succ_cons]
        · rw [run_none (show dl A (.lit (x :: fs)) c = none from if_neg hc)]
          dsimp only
          rw [if_neg hc]
theorem takeWhile_le {α : Type} (p : α → Bool) (l : List α) (n : Nat) : ((l.take n).takeWhile p).length ≤ l.length := by
  have h1 := (List.takeWhile_sublist p (l := l.take n)).length_le
  have h2 := List.length_take_le n l
  have h3 : (l.take n).length ≤ l.length := by
    rw [List.length_take]
    omega
  omega
theorem runL_le (x : Nat) (s : List Nat) : (runL x s).length ≤ s.length := takeWhile_le dg s (lim x)
theorem runL_lim (x : Nat) (s : List Nat) : (runL x s).length ≤ lim x := by
  have h1 := (List.takeWhile_sublist dg (l := s.take (lim x))).length_le
  rw [List.length_take] at h1
  unfold runL
  omega
theorem numS_le {x : Nat} {s : List Nat} {n : Int} {k : Nat} (h : numS x s = .ok (n, k)) : k ≤ s.length := by
  cases s with
  | nil => cases h
  | cons c r =>
    unfold numS at h
    dsimp only at h
    split at h
    · cases r with
      | nil => cases h
      | cons e r' =>
        dsimp only at h
        split at h
        · cases h
          have := runL_le x (e :: r')
          rw [List.length_cons]
          omega
        · cases h
    · split at h
      · cases h
        rw [List.length_cons]
        omega
      · split at h
        · cases h
          exact runL_le _ _
        · cases h
theorem formS_le : ∀ {f s : List Nat} {ns : List Int} {k : Nat}, formS f s = .ok (ns, k) → k ≤ s.length
  | [], s, ns, k, h => by
    cases h
    exact Nat.zero_le _
  | x :: fs, s, ns, k, h => by
    unfold formS at h
    split at h
    · cases e : numS x s with
      | error j =>
        rw [e] at h
        cases h
      | ok p =>
        obtain ⟨n, j⟩ := p
        rw [e] at h
        dsimp only at h
        have h1 := numS_le e
        cases e2 : formS fs (s.drop j) with
        | error i =>
          rw [e2] at h
          cases h
        | ok p =>
          obtain ⟨ms, i⟩ := p
          rw [e2] at h
          cases h
          have h2 := formS_le e2
          rw [List.length_drop] at h2
          omega
    · cases s with
      | nil => cases h
      | cons c r =>
        unfold litS at h
        dsimp only at h
        by_cases hc : c = x
        · rw [if_pos hc] at h
          dsimp only at h
          cases e2 : formS fs ((c :: r).drop 1) with
          | error i =>
            rw [e2] at h
            cases h
          | ok p =>
            obtain ⟨ms, i⟩ := p
            rw [e2] at h
            cases h
            have h2 := formS_le e2
            rw [List.length_drop] at h2
            rw [List.length_cons] at h2 ⊢
            omega
        · rw [if_neg hc] at h
          cases h
theorem run_rest (form : List Nat) (hf : okf form = true) : ∀ (m : Nat) (s : List Nat), s.length < m → run (auR form) (.lit []) s = (match restS form m s with
    | .error k => (k, false)
    | .ok _ => (s.length, true))
  | 0, s, h => absurd h (Nat.not_lt_zero _)
  | m + 1, [], _ => rfl
  | m + 1, c :: r, h => by
    unfold restS
    by_cases hc : c = 32
    · rw [run_cons (show dl (auR form) (.lit []) c = some (at4 form) from if_pos hc), run_form (auR form) form r hf]
      rw [if_pos hc]
      cases e : formS form r with
      | error k =>
        dsimp only [sh]
        rw [Nat.add_comm]
      | ok p =>
        obtain ⟨ns, k⟩ := p
        have hl : (r.drop k).length < m := by
          rw [List.length_drop]
          rw [List.length_cons] at h
          omega
        dsimp only
        rw [run_rest form hf m (r.drop k) hl]
        cases e2 : restS form m (r.drop k) with
        | error j =>
          dsimp only [sh]
          rw [show j + k + 1 = 1 + k + j by omega]
        | ok l =>
          have hk := formS_le e
          dsimp only [sh]
          rw [List.length_drop, List.length_cons, show r.length - k + k + 1 = r.length + 1 by omega]
    · rw [run_none (show dl (auR form) (.lit []) c = none from if_neg hc)]
      rw [if_neg hc]
/-- a whole row is read as the automaton goes -/
theorem run_items (form fs : List Nat) (hform : form = 122 :: fs) (hf : okf form = true) (s : List Nat) : run (auR form) .start s = (match itemsS form s with
    | .error k => (k, false)
    | .ok _ => (s.length, true)) := by
  have ht : form.tail = fs := by rw [hform]; rfl
  have h4 : at4 form = .num 122 fs := by rw [hform]; exact at4_num (.inl rfl)
  have main : ∀ t : List Nat, run (auR form) (at4 form) t = (match (match formS form t with
      | .error k => Except.error k
      | .ok (ns, k) => match restS form (t.length + 1) (t.drop k) with
        | .error j => Except.error (k + j)
        | .ok l => Except.ok (ns :: l)) with
    | .error k => (k, false)
    | .ok _ => (t.length, true)) := fun t => by
    rw [run_form (auR form) form t hf]
    cases e : formS form t with
    | error k => rfl
    | ok p =>
      obtain ⟨ns, k⟩ := p
      have hk := formS_le e
      dsimp only
      rw [run_rest form hf (t.length + 1) (t.drop k) (by rw [List.length_drop]; omega)]
      cases e2 : restS form (t.length + 1) (t.drop k) with
      | error j =>
        dsimp only [sh]
        rw [Nat.add_comm]
      | ok l =>
        dsimp only [sh]
        rw [List.length_drop, show t.length - k + k = t.length by omega]
  unfold itemsS
  by_cases h1 : s = [45]
  · subst h1
    rw [if_pos rfl]
    rfl
  · rw [if_neg h1, ← main s, h4]
    cases s with
    | nil => rfl
    | cons c r =>
      by_cases hc : c = 45
      · subst hc
        rw [run_cons (show dl (auR form) .start 45 = some .dashed from rfl), run_cons (show dl (auR form) (.num 122 fs) 45 = some (.minus 122 fs) from rfl)]
        cases r with
        | nil => exact absurd rfl h1
        | cons e r' =>
          by_cases he : d1 e = true
          · rw [run_cons (show dl (auR form) .dashed e = some (.digs 8 form.tail) from if_pos he), run_cons (show dl (auR form) (.minus 122 fs) e = some (.digs 8 fs) from if_pos he), ht]
          · rw [run_none (show dl (auR form) .dashed e = none from if_neg he), run_none (show dl (auR form) (.minus 122 fs) e = none from if_neg he)]
      · by_cases h0 : c = 48
        · have e1 : dl (auR form) .start c = some (.lit form.tail) := by
            show (if c = 45 then some St4.dashed else if c = 48 then some (.lit form.tail) else _) = _
            rw [if_neg hc, if_pos h0]
          have e2 : dl (auR form) (.num 122 fs) c = some (.lit fs) := by
            show (if 122 ≠ 110 ∧ c = 45 then some (St4.minus 122 fs) else if c = 48 then some (St4.lit fs) else _) = _
            rw [if_neg fun z => hc z.2, if_pos h0]
          rw [run_cons e1, run_cons e2, ht]
        · by_cases h9 : d1 c = true
          · have e1 : dl (auR form) .start c = some (.digs 8 form.tail) := by
              show (if c = 45 then some St4.dashed else if c = 48 then some (.lit form.tail) else if d1 c = true then some (.digs 8 form.tail) else none) = _
              rw [if_neg hc, if_neg h0, if_pos h9]
            have e2 : dl (auR form) (.num 122 fs) c = some (.digs 8 fs) := by
              show (if 122 ≠ 110 ∧ c = 45 then some (St4.minus 122 fs) else if c = 48 then some (St4.lit fs) else if d1 c = true then some (St4.digs 8 fs) else none) = _
              rw [if_neg fun z => hc z.2, if_neg h0, if_pos h9]
            rw [run_cons e1, run_cons e2, ht]
          · have e1 : dl (auR form) .start c = none := by
              show (if c = 45 then some St4.dashed else if c = 48 then some (.lit form.tail) else if d1 c = true then some (.digs 8 form.tail) else none) = _
              rw [if_neg hc, if_neg h0, if_neg h9]
            have e2 : dl (auR form) (.num 122 fs) c = none := by
              show (if 122 ≠ 110 ∧ c = 45 then some (St4.minus 122 fs) else if c = 48 then some (St4.lit fs) else if d1 c = true then some (St4.digs 8 fs) else none) = _
              rw [if_neg fun z => hc z.2, if_neg h0, if_neg h9]
            rw [run_none e1, run_none e2]
end RW4
/-! part M2 -/
/-! The machine of rows: what it holds after each sign, and that it is the automaton. -/
namespace RW4
open PySem
abbrev Stk := List Str
/-- the ways of a part -/
abbrev Gr := List (Str × List (List Str))
def ways (g : Gr) (x : Str) : Option (List (List Str)) := (g.find? fun p => decide (p.1 = x)).map (·.2)
def addR (ready : List Stk) (r : Stk) : List Stk := if r ∈ ready then ready else ready ++ [r]
/-- the parts told out, from the last one -/
def clo (g : Gr) : Nat → List Stk → List Stk → Option (List Stk)
  | 0, _, _ => none
  | n + 1, opn, ready => match opn.getLast? with
    | none => some ready
    | some [] => clo g n opn.dropLast (addR ready [])
    | some (h :: t) => match ways g h with
      | none => clo g n opn.dropLast (addR ready (h :: t))
      | some ws => clo g n (opn.dropLast ++ ws.map (· ++ t)) ready
/-- whether a sign may stand for a part -/
def fits (c : Nat) (x : Str) : Bool := decide (c ∈ (if x = "digit" then ("0123456789" : Str) else if x = "1-9" then ("123456789" : Str) else x).cps.toList)
def stp (c : Nat) : List Stk → List Stk
  | [] => []
  | [] :: rs => stp c rs
  | (h :: t) :: rs => if fits c h = true then t :: stp c rs else stp c rs
def farM (g : Gr) (fuel : Nat) : List Stk → List Nat → Option (Nat × Bool)
  | opn, s => match clo g fuel opn [] with
    | none => none
    | some ready => match s with
      | [] => some (0, decide ([] ∈ ready))
      | c :: r => if stp c ready = [] then some (0, false) else (farM g fuel (stp c ready) r).map fun x => (x.1 + 1, x.2)
termination_by _ s => s.length
/-! ### the three rows' grammar, as much of it as they use -/
def gC : Gr := [("cells", [["-"], ["cell", "cells+"]]), ("cells+", [[], [" ", "cell", "cells+"]]), ("weights", [["-"], ["weight", "weights+"]]), ("weights+", [[], [" ", "weight", "weights+"]]),
  ("joins", [["-"], ["join", "joins+"]]), ("joins+", [[], [" ", "join", "joins+"]]), ("weight", [["cell", ":", "number"]]), ("join", [["cell", "+", "cell"]]), ("cell", [["whole", ",", "whole"]]),
  ("number", [["0"], ["1-9", "digit8"]]), ("whole", [["0"], ["1-9", "digit8"], ["-", "1-9", "digit8"]]),
  ("digit0", [[]]), ("digit1", [[], ["digit", "digit0"]]), ("digit2", [[], ["digit", "digit1"]]), ("digit3", [[], ["digit", "digit2"]]), ("digit4", [[], ["digit", "digit3"]]),
  ("digit5", [[], ["digit", "digit4"]]), ("digit6", [[], ["digit", "digit5"]]), ("digit7", [[], ["digit", "digit6"]]), ("digit8", [[], ["digit", "digit7"]])]
def dgt : Nat → Str
  | 0 => "digit0" | 1 => "digit1" | 2 => "digit2" | 3 => "digit3" | 4 => "digit4" | 5 => "digit5" | 6 => "digit6" | 7 => "digit7" | _ => "digit8"
def symF (x : Nat) : Str := if x = 122 then "whole" else if x = 110 then "number" else ⟨#[x]⟩
/-- a row's kind: its name, how it goes on, its form -/
structure Kd where
  x : Str
  xp : Str
  form : List Nat
def kCells : Kd := ⟨"cells", "cells+", [122, 44, 122]⟩
def kWeights : Kd := ⟨"weights", "weights+", [122, 44, 122, 58, 110]⟩
def kJoins : Kd := ⟨"joins", "joins+", [122, 44, 122, 43, 122, 44, 122]⟩
def tlF : List Nat → Stk
  | [] => []
  | x :: r => if x = 43 then ["+", "cell"] else symF x :: tlF r
def tl4 (k : Kd) (f : List Nat) : Stk := tlF f ++ [k.xp]
def opn4 (k : Kd) : St4 → List Stk
  | .start => [[k.x]]
  | .dashed => [("1-9" : Str) :: "digit8" :: tl4 k k.form.tail, []]
  | .num x f => [symF x :: tl4 k f]
  | .minus _ f => [("1-9" : Str) :: "digit8" :: tl4 k f]
  | .digs n f => [dgt n :: tl4 k f]
  | .lit f => [tl4 k f]
def rdy (k : Kd) (q : St4) : List Stk := (clo gC 40 (opn4 k q) []).getD []
/-- the states that a row comes to -/
def sts : List Nat → List St4
  | [] => [.lit []]
  | f :: fs => (if isN f then [.num f fs] ++ (if f = 122 then [.minus f fs] else []) ++ ((List.range 9).map fun n => .digs n fs) ++ [.lit fs] else [.lit (f :: fs)]) ++ sts fs
def all4 (k : Kd) : List St4 := [.start, .dashed] ++ sts k.form
def abc4 : List Nat := [48, 49, 50, 51, 52, 53, 54, 55, 56, 57, 45, 44, 58, 43, 32]
def ok1 (k : Kd) (q : St4) : Bool := decide (clo gC 40 (opn4 k q) [] = some (rdy k q)) && decide (decide ([] ∈ rdy k q) = acc q) && (rdy k q).all (fun r => match r with | [] => true | h :: _ => (ways gC h).isNone) &&
  abc4.all fun c => match dl (auR k.form) q c with
    | none => decide (stp c (rdy k q) = [])
    | some q' => decide (q' ∈ all4 k) && decide (stp c (rdy k q) ≠ []) && decide (clo gC 40 (stp c (rdy k q)) [] = some (rdy k q'))
theorem okC : (all4 kCells).all (ok1 kCells) = true := by decide +kernel
theorem okW : (all4 kWeights).all (ok1 kWeights) = true := by decide +kernel
theorem okJ : (all4 kJoins).all (ok1 kJoins) = true := by decide +kernel
/-- no further sign fits -/
def terms : List Str := ["digit", "1-9", "0", "-", ",", ":", "+", " "]
theorem fits_off {c : Nat} (hc : c ∉ abc4) : ∀ h ∈ terms, fits c h = false := by
  intro h hh
  have key : ∀ x ∈ terms, ∀ y ∈ (if x = "digit" then ("0123456789" : Str) else if x = "1-9" then ("123456789" : Str) else x).cps.toList, y ∈ abc4 := by decide +kernel
  unfold fits
  exact decide_eq_false fun hm => hc (key h hh c hm)
theorem tms (k : Kd) (hk : k = kCells ∨ k = kWeights ∨ k = kJoins) : ∀ q ∈ all4 k, ∀ r ∈ rdy k q, ∀ h t, r = h :: t → h ∈ terms := by
  have key : ∀ k ∈ [kCells, kWeights, kJoins], (all4 k).all (fun q => (rdy k q).all fun r => match r with | [] => true | h :: _ => decide (h ∈ terms)) = true := by decide +kernel
  intro q hq r hr h t e
  have h1 := key k (by rcases hk with rfl | rfl | rfl <;> simp)
  have h2 := List.all_eq_true.mp (List.all_eq_true.mp h1 q hq) r hr
  subst e
  simpa using h2
theorem stp_off {c : Nat} (hc : c ∉ abc4) : ∀ {rs : List Stk}, (∀ r ∈ rs, ∀ h t, r = h :: t → h ∈ terms) → stp c rs = []
  | [], _ => rfl
  | [] :: rs, h => stp_off hc (rs := rs) fun r hr => h r (List.mem_cons_of_mem _ hr)
  | (x :: t) :: rs, h => by
    unfold stp
    rw [if_neg (by rw [fits_off hc x (h _ List.mem_cons_self x t rfl)]; exact Bool.false_ne_true)]
    exact stp_off hc (rs := rs) fun r hr => h r (List.mem_cons_of_mem _ hr)
def lh : St4 → Nat
  | .digs _ (ch :: _) => ch
  | .lit (ch :: _) => ch
  | _ => 48
theorem lhs (k : Kd) (hk : k = kCells ∨ k = kWeights ∨ k = kJoins) : ∀ q ∈ all4 k, lh q ∈ abc4 := by
  have key : ∀ k ∈ [kCells, kWeights, kJoins], (all4 k).all (fun q => decide (lh q ∈ abc4)) = true := by decide +kernel
  intro q hq
  have h1 := key k (by rcases hk with rfl | rfl | rfl <;> simp)
  simpa using List.all_eq_true.mp h1 q hq
theorem dl_off {form : List Nat} {c : Nat} (hc : c ∉ abc4) (q : St4) (hq : lh q ∈ abc4) : dl (auR form) q c = none := by
  have n48 : c ≠ 48 := fun e => hc (by rw [e]; decide)
  have n45 : c ≠ 45 := fun e => hc (by rw [e]; decide)
  have n32 : c ≠ 32 := fun e => hc (by rw [e]; decide)
  have nd : ¬ dg c = true := fun e => hc (by
    unfold dg at e
    simp only [Bool.and_eq_true, decide_eq_true_eq] at e
    have : c = 48 ∨ c = 49 ∨ c = 50 ∨ c = 51 ∨ c = 52 ∨ c = 53 ∨ c = 54 ∨ c = 55 ∨ c = 56 ∨ c = 57 := by omega
    rcases this with rfl | rfl | rfl | rfl | rfl | rfl | rfl | rfl | rfl | rfl <;> decide)
  have n1 : ¬ d1 c = true := fun e => nd (d1_dg e)
  have lit : ∀ f : List Nat, (∀ ch r, f = ch :: r → ch ∈ abc4) → litD (auR form) f c = none := fun f hf => by
    cases f with
    | nil => exact if_neg n32
    | cons ch r => exact if_neg fun e => hc (by rw [e]; exact hf ch r rfl)
  cases q with
  | start =>
    show (if c = 45 then some St4.dashed else if c = 48 then some (St4.lit form.tail) else if d1 c = true then some (St4.digs 8 form.tail) else none) = none
    rw [if_neg n45, if_neg n48, if_neg n1]
  | dashed => exact if_neg n1
  | num x f =>
    unfold dl
    dsimp only
    rw [if_neg fun z => n45 z.2, if_neg n48, if_neg n1]
  | minus x f => exact if_neg n1
  | digs n f =>
    unfold dl
    dsimp only
    rw [if_neg fun z => nd z.1]
    exact lit f fun ch r e => by
      subst e
      exact hq
  | lit f =>
    exact lit f fun ch r e => by
      subst e
      exact hq
/-- the machine goes as the automaton -/
theorem far_run (k : Kd) (hk : k = kCells ∨ k = kWeights ∨ k = kJoins) : ∀ (s : List Nat) (q : St4) (o : List Stk), q ∈ all4 k → clo gC 40 o [] = some (rdy k q) → farM gC 40 o s = some (run (auR k.form) q s) := by
  have all : ∀ q ∈ all4 k, ok1 k q = true := fun q hq => by
    rcases hk with rfl | rfl | rfl
    · exact List.all_eq_true.mp okC q hq
    · exact List.all_eq_true.mp okW q hq
    · exact List.all_eq_true.mp okJ q hq
  intro s
  induction s with
  | nil =>
    intro q o hq ho
    have h := all q hq
    unfold ok1 at h
    simp only [Bool.and_eq_true, decide_eq_true_eq] at h
    unfold farM
    rw [ho]
    dsimp only
    rw [h.1.1.2]
    rfl
  | cons c r ih =>
    intro q o hq ho
    have h := all q hq
    unfold ok1 at h
    simp only [Bool.and_eq_true, List.all_eq_true] at h
    unfold farM
    rw [ho]
    dsimp only
    by_cases hc : c ∈ abc4
    · have h2 := h.2 c hc
      cases e : dl (auR k.form) q c with
      | none =>
        rw [e] at h2
        dsimp only at h2
        rw [if_pos (of_decide_eq_true h2), run_none e]
      | some q' =>
        rw [e] at h2
        simp only [Bool.and_eq_true, decide_eq_true_eq] at h2
        rw [if_neg h2.1.2, ih q' _ h2.1.1 h2.2, run_cons e]
        rfl
    · rw [stp_off hc (tms k hk q hq), if_pos rfl, run_none (dl_off hc q (lhs k hk q hq))]
theorem far_start (k : Kd) (hk : k = kCells ∨ k = kWeights ∨ k = kJoins) (s : List Nat) : farM gC 40 [[k.x]] s = some (run (auR k.form) .start s) := by
  refine far_run k hk s .start _ (List.mem_append_left _ List.mem_cons_self) ?_
  have h : ok1 k .start = true := by
    rcases hk with rfl | rfl | rfl
    · exact List.all_eq_true.mp okC _ (List.mem_append_left _ List.mem_cons_self)
    · exact List.all_eq_true.mp okW _ (List.mem_append_left _ List.mem_cons_self)
    · exact List.all_eq_true.mp okJ _ (List.mem_append_left _ List.mem_cons_self)
  unfold ok1 at h
  simp only [Bool.and_eq_true, decide_eq_true_eq] at h
  exact h.1.1.1
/-- the machine's word, by the reading -/
theorem far_items (k : Kd) (hk : k = kCells ∨ k = kWeights ∨ k = kJoins) (s : List Nat) : farM gC 40 [[k.x]] s = some (match itemsS k.form s with | .error j => (j, false) | .ok _ => (s.length, true)) := by
  rw [far_start k hk s]
  rcases hk with rfl | rfl | rfl
  · exact congrArg some (run_items kCells.form [44, 122] rfl rfl s)
  · exact congrArg some (run_items kWeights.form [44, 122, 58, 110] rfl rfl s)
  · exact congrArg some (run_items kJoins.form [44, 122, 43, 122, 44, 122] rfl rfl s)
end RW4
/-! part M3 -/
/-! Rows of numbers written, and read again. -/
namespace RW4
open PySem PySem.NumText
/-! ### ints as texts -/
def intL (n : Int) : List Nat := if 0 ≤ n then TL.numL n.toNat else 45 :: TL.numL (-n).toNat
theorem neg_text (m : Nat) : Str.ofString (toString (Int.negSucc m)) = ⟨(45 :: (Nat.toDigits 10 (m + 1)).map Char.toNat).toArray⟩ := by
  show Str.ofString ("-" ++ Nat.repr (m + 1)) = _
  rw [Str.ofString_eq_toList]
  unfold Nat.repr
  simp
theorem intS (n : Int) : Str.ofString (toString n) = SX.S (intL n) := by
  cases n with
  | ofNat m =>
    unfold intL
    rw [if_pos (show (0 : Int) ≤ Int.ofNat m from Int.natCast_nonneg m)]
    exact SX.num_S m
  | negSucc m =>
    unfold intL
    rw [if_neg (by omega), neg_text]
    rfl
theorem dg_all {l : List Nat} (h : ∀ c ∈ l, dg c = true) : AllDigits l := fun c hc => by
  have q := h c hc
  unfold dg at q
  simpa using q
theorem runL_dg (x : Nat) (s : List Nat) : ∀ c ∈ runL x s, dg c = true := fun c hc => by
  unfold runL at hc
  exact List.all_eq_true.mp List.all_takeWhile c hc
theorem digs_back {c : Nat} {r : List Nat} (h1 : d1 c = true) (h : ∀ x ∈ c :: r, dg x = true) : TL.numL (digitsVal (c :: r)) = c :: r := by
  have h49 : 49 ≤ c := by
    unfold d1 at h1
    simp only [Bool.and_eq_true, decide_eq_true_eq] at h1
    exact h1.1
  have e := toDigits_digitsVal r.length (c :: r) rfl (dg_all h) (.inr ⟨c, r, rfl, h49⟩)
  unfold TL.numL
  rw [e, List.map_map]
  have : ∀ l : List Nat, (∀ x ∈ l, dg x = true) → l.map (Char.toNat ∘ Char.ofNat) = l := fun l => by
    induction l with
    | nil => intro _; rfl
    | cons x l ih =>
      intro hl
      have hx := hl x List.mem_cons_self
      unfold dg at hx
      simp only [Bool.and_eq_true, decide_eq_true_eq] at hx
      rw [List.map_cons, ih fun y hy => hl y (List.mem_cons_of_mem _ hy)]
      congr 1
      have : x = 48 ∨ x = 49 ∨ x = 50 ∨ x = 51 ∨ x = 52 ∨ x = 53 ∨ x = 54 ∨ x = 55 ∨ x = 56 ∨ x = 57 := by omega
      rcases this with rfl | rfl | rfl | rfl | rfl | rfl | rfl | rfl | rfl | rfl <;> rfl
  exact this _ h
theorem val_pos {c : Nat} {r : List Nat} (h1 : d1 c = true) : 0 < val (c :: r) := by
  have h49 : 49 ≤ c := by
    unfold d1 at h1
    simp only [Bool.and_eq_true, decide_eq_true_eq] at h1
    exact h1.1
  have := digitsVal_pos (cs := r) h49
  unfold val
  omega
theorem intL_pos {c : Nat} {r : List Nat} (h1 : d1 c = true) (h : ∀ x ∈ c :: r, dg x = true) : intL (val (c :: r)) = c :: r := by
  have hp := val_pos (r := r) h1
  unfold intL
  rw [if_pos (by omega)]
  unfold val
  rw [Int.toNat_natCast, digs_back h1 h]
theorem intL_neg {c : Nat} {r : List Nat} (h1 : d1 c = true) (h : ∀ x ∈ c :: r, dg x = true) : intL (-(val (c :: r))) = 45 :: c :: r := by
  have hp := val_pos (r := r) h1
  unfold intL
  rw [if_neg (by omega), Int.neg_neg]
  unfold val
  rw [Int.toNat_natCast, digs_back h1 h]
theorem runL_take (x : Nat) (s : List Nat) : runL x s = s.take (runL x s).length := by
  unfold runL
  have e : (s.take (lim x)).takeWhile dg = (s.take (lim x)).take ((s.take (lim x)).takeWhile dg).length := by
    have := List.takeWhile_prefix dg (l := s.take (lim x))
    exact (List.prefix_iff_eq_take.mp this)
  have hl : ((s.take (lim x)).takeWhile dg).length ≤ lim x := runL_lim x s
  have e2 : (s.take (lim x)).take ((s.take (lim x)).takeWhile dg).length = s.take ((s.take (lim x)).takeWhile dg).length := by
    rw [List.take_take, Nat.min_eq_left hl]
  rw [← e2]
  exact e
/-- a number read is the number written -/
theorem num_back {x : Nat} {s : List Nat} {n : Int} {k : Nat} (h : numS x s = .ok (n, k)) : intL n = s.take k ∧ (x = 110 → 0 ≤ n) ∧ 0 < k := by
  cases s with
  | nil => cases h
  | cons c r =>
    unfold numS at h
    dsimp only at h
    split at h
    · rename_i hc
      cases r with
      | nil => cases h
      | cons e r' =>
        dsimp only at h
        split at h
        · rename_i he
          cases h
          refine ⟨?_, fun z => absurd z hc.1, by omega⟩
          have q := runL_take x (e :: r')
          have q2 := runL_cons (x := x) (r := r') (d1_dg he)
          rw [Nat.add_comm, List.take_succ_cons, ← q, q2, hc.2]
          rw [intL_neg he]
          intro y hx
          rw [← q2] at hx
          exact runL_dg x _ y hx
        · cases h
    · split at h
      · rename_i h0
        cases h
        rw [h0]
        exact ⟨rfl, fun _ => Int.le_refl _, by decide⟩
      · split at h
        · rename_i h9
          cases h
          have q := runL_take x (c :: r)
          have q2 := runL_cons (x := x) (r := r) (d1_dg h9)
          have hp : ∀ y ∈ c :: (r.take (lim x - 1)).takeWhile dg, dg y = true := fun y hx => by
            rw [← q2] at hx
            exact runL_dg x _ y hx
          refine ⟨?_, fun _ => ?_, by rw [q2, List.length_cons]; omega⟩
          · rw [← q, q2, intL_pos h9 hp]
          · rw [q2]
            exact Int.le_of_lt (val_pos h9)
        · cases h
/-! ### rows written -/
def wF : List Nat → List Int → List Nat
  | [], _ => []
  | x :: fs, ns => if isN x then (match ns with | [] => [] | n :: r => intL n ++ wF fs r) else x :: wF fs ns
def wR (form : List Nat) : List (List Int) → List Nat
  | [] => []
  | a :: r => 32 :: (wF form a ++ wR form r)
def wRow (form : List Nat) : List (List Int) → List Nat
  | [] => [45]
  | a :: r => wF form a ++ wR form r
theorem form_back : ∀ {f s : List Nat} {ns : List Int} {k : Nat}, formS f s = .ok (ns, k) → wF f ns = s.take k
  | [], s, ns, k, h => by
    cases h
    rfl
  | x :: fs, s, ns, k, h => by
    unfold formS at h
    by_cases hx : isN x
    · rw [if_pos hx] at h
      cases e : numS x s with
      | error j =>
        rw [e] at h
        cases h
      | ok p =>
        obtain ⟨n, j⟩ := p
        rw [e] at h
        dsimp only at h
        cases e2 : formS fs (s.drop j) with
        | error i =>
          rw [e2] at h
          cases h
        | ok p =>
          obtain ⟨ms, i⟩ := p
          rw [e2] at h
          cases h
          have h1 := (num_back e).1
          have h2 := form_back e2
          have hj := numS_le e
          unfold wF
          rw [if_pos hx]
          dsimp only
          rw [h1, h2]
          rw [List.take_add]
    · rw [if_neg hx] at h
      cases s with
      | nil => cases h
      | cons c r =>
        unfold litS at h
        dsimp only at h
        by_cases hc : c = x
        · rw [if_pos hc] at h
          dsimp only at h
          cases e2 : formS fs ((c :: r).drop 1) with
          | error i =>
            rw [e2] at h
            cases h
          | ok p =>
            obtain ⟨ms, i⟩ := p
            rw [e2] at h
            cases h
            have h2 := form_back e2
            unfold wF
            rw [if_neg hx, h2, hc, Nat.add_comm, List.take_succ_cons]
            rfl
        · rw [if_neg hc] at h
          cases h
theorem rest_back {form : List Nat} : ∀ {m : Nat} {s : List Nat} {l : List (List Int)}, restS form m s = .ok l → wR form l = s
  | 0, s, l, h => by cases h
  | m + 1, [], l, h => by
    cases h
    rfl
  | m + 1, c :: r, l, h => by
    unfold restS at h
    by_cases hc : c = 32
    · rw [if_pos hc] at h
      cases e : formS form r with
      | error j =>
        rw [e] at h
        cases h
      | ok p =>
        obtain ⟨ns, k⟩ := p
        rw [e] at h
        dsimp only at h
        cases e2 : restS form m (r.drop k) with
        | error i =>
          rw [e2] at h
          cases h
        | ok l' =>
          rw [e2] at h
          cases h
          unfold wR
          rw [form_back e, rest_back e2, List.take_append_drop, hc]
    · rw [if_neg hc] at h
      cases h
/-- what is read is written again the same -/
theorem items_back {form s : List Nat} {l : List (List Int)} (h : itemsS form s = .ok l) : wRow form l = s := by
  unfold itemsS at h
  by_cases h1 : s = [45]
  · rw [if_pos h1] at h
    cases h
    exact h1.symm
  · rw [if_neg h1] at h
    cases e : formS form s with
    | error j =>
      rw [e] at h
      cases h
    | ok p =>
      obtain ⟨ns, k⟩ := p
      rw [e] at h
      dsimp only at h
      cases e2 : restS form (s.length + 1) (s.drop k) with
      | error i =>
        rw [e2] at h
        cases h
      | ok l' =>
        rw [e2] at h
        cases h
        unfold wRow
        dsimp only
        rw [form_back e, rest_back e2, List.take_append_drop]
/-! ### what is written is read -/
/-- a number that may stand: so many digits at most; behind n none below 0 -/
def okN (x : Nat) (n : Int) : Prop := n.natAbs < 10 ^ lim x ∧ (x = 110 → 0 ≤ n)
def okI : List Nat → List Int → Prop
  | [], ns => ns = []
  | x :: fs, ns => if isN x then (∃ n r, ns = n :: r ∧ okN x n ∧ okI fs r) else okI fs ns
def noDg (s : List Nat) : Prop := ∀ c r, s = c :: r → dg c = false
theorem takeWhile_app (l s : List Nat) (h : ∀ c ∈ l, dg c = true) (hs : noDg s) : (l ++ s).takeWhile dg = l := by
  induction l with
  | nil =>
    cases s with
    | nil => rfl
    | cons c r =>
      rw [List.nil_append, List.takeWhile_cons, hs c r rfl]
      rfl
  | cons a l ih =>
    rw [List.cons_append, List.takeWhile_cons, h a List.mem_cons_self, if_pos rfl, ih fun c hc => h c (List.mem_cons_of_mem _ hc)]
theorem runL_app {x : Nat} (l s : List Nat) (h : ∀ c ∈ l, dg c = true) (hl : l.length ≤ lim x) (hs : noDg s) : runL x (l ++ s) = l := by
  unfold runL
  rw [List.take_append, List.take_of_length_le hl]
  refine takeWhile_app l _ h fun c r e => ?_
  cases s with
  | nil => simp at e
  | cons y t =>
    cases hk : lim x - l.length with
    | zero =>
      rw [hk] at e
      cases e
    | succ m =>
      rw [hk, List.take_succ_cons] at e
      cases e
      exact hs _ _ rfl
theorem numL_dg (n : Nat) : ∀ c ∈ TL.numL n, dg c = true := fun c hc => by
  have q := TL.numL_digits n c hc
  unfold dg
  simpa using q
theorem numL_head : ∀ n : Nat, 0 < n → ∃ c r, TL.numL n = c :: r ∧ d1 c = true := by
  intro n
  induction n using Nat.strongRecOn with
  | _ n ih =>
    intro hn
    by_cases h : n < 10
    · refine ⟨48 + n, [], TL.numL_lt h, ?_⟩
      unfold d1
      simp only [Bool.and_eq_true, decide_eq_true_eq]
      omega
    · obtain ⟨c, r, e, hc⟩ := ih (n / 10) (by omega) (by omega)
      refine ⟨c, r ++ [48 + n % 10], ?_, hc⟩
      rw [TL.numL_step (by omega), e]
      rfl
theorem num_fwd {x : Nat} {n : Int} {s : List Nat} (hn : n.natAbs < 10 ^ lim x) (h0 : x = 110 → 0 ≤ n) (hs : noDg s) : numS x (intL n ++ s) = .ok (n, (intL n).length) := by
  by_cases hz : n = 0
  · subst hz
    show numS x (48 :: s) = _
    unfold numS
    dsimp only
    rw [if_neg (by rintro ⟨_, h⟩; cases h), if_pos rfl]
    rfl
  · by_cases hp : 0 ≤ n
    · have e : intL n = TL.numL n.toNat := if_pos hp
      obtain ⟨c, r, ec, hc⟩ := numL_head n.toNat (by omega)
      have hl : (TL.numL n.toNat).length ≤ lim x := TL.numL_len (lim_pos x) (by omega)
      have r9 := runL_app (x := x) (TL.numL n.toNat) s (numL_dg _) hl hs
      have ev : val (TL.numL n.toNat) = n := by
        unfold val
        rw [TL.numL_val]
        omega
      rw [e]
      rw [ec] at r9 ev ⊢
      show numS x (c :: (r ++ s)) = _
      unfold numS
      dsimp only
      have c49 : 49 ≤ c := by
        unfold d1 at hc
        simp only [Bool.and_eq_true, decide_eq_true_eq] at hc
        exact hc.1
      have q : runL x (c :: (r ++ s)) = c :: r := r9
      rw [if_neg (by rintro ⟨_, h⟩; omega), if_neg (by omega), if_pos hc, q, ev]
    · have hneg : x ≠ 110 := fun z => absurd (h0 z) hp
      have e : intL n = 45 :: TL.numL (-n).toNat := if_neg hp
      obtain ⟨c, r, ec, hc⟩ := numL_head (-n).toNat (by omega)
      have hl : (TL.numL (-n).toNat).length ≤ lim x := TL.numL_len (lim_pos x) (by omega)
      have r9 := runL_app (x := x) (TL.numL (-n).toNat) s (numL_dg _) hl hs
      have ev : val (TL.numL (-n).toNat) = -n := by
        unfold val
        rw [TL.numL_val]
        omega
      rw [e]
      rw [ec] at r9 ev ⊢
      show numS x (45 :: c :: (r ++ s)) = _
      unfold numS
      dsimp only
      have q : runL x (c :: (r ++ s)) = c :: r := r9
      rw [if_pos ⟨hneg, rfl⟩]
      rw [if_pos hc, q, ev, Int.neg_neg, List.length_cons, Nat.add_comm]
      rfl
theorem form_fwd : ∀ {f : List Nat} {ns : List Int} {s : List Nat}, okf f = true → (∀ x ∈ f, ¬ isN x → dg x = false) → okI f ns → noDg s → formS f (wF f ns ++ s) = .ok (ns, (wF f ns).length)
  | [], ns, s, _, _, h, _ => by
    unfold okI at h
    subst h
    rfl
  | x :: fs, ns, s, hf, hx, h, hs => by
    have hx' : ∀ y ∈ fs, ¬ isN y → dg y = false := fun y hy => hx y (List.mem_cons_of_mem _ hy)
    unfold okI at h
    by_cases hn : isN x
    · rw [if_pos hn] at h
      obtain ⟨n, r, rfl, ⟨h1, h2⟩, h3⟩ := h
      have ih := form_fwd (s := s) (okf_tail hf) hx' h3 hs
      have nd : noDg (wF fs r ++ s) := fun c t e => by
        cases fs with
        | nil => exact hs c t e
        | cons y ys =>
          have hy : ¬ isN y := fun hy => by
            unfold okf at hf
            have q := (Bool.and_eq_true_iff.mp hf).1
            rw [decide_eq_true hn, decide_eq_true hy] at q
            cases q
          unfold wF at e
          rw [if_neg hy] at e
          cases e
          exact hx _ (List.mem_cons_of_mem _ List.mem_cons_self) hy
      have q := num_fwd (x := x) (n := n) (s := wF fs r ++ s) h1 h2 nd
      have ew : wF (x :: fs) (n :: r) = intL n ++ wF fs r := by
        show (if isN x then intL n ++ wF fs r else _) = _
        rw [if_pos hn]
      rw [ew, List.append_assoc]
      unfold formS
      rw [if_pos hn, q]
      dsimp only
      rw [List.drop_left, ih]
      dsimp only
      rw [List.length_append]
    · rw [if_neg hn] at h
      have ih := form_fwd (s := s) (okf_tail hf) hx' h hs
      have ew : wF (x :: fs) ns = x :: wF fs ns := by
        show (if isN x then _ else x :: wF fs ns) = _
        rw [if_neg hn]
      rw [ew, List.cons_append]
      unfold formS
      rw [if_neg hn]
      unfold litS
      dsimp only
      rw [if_pos rfl]
      dsimp only
      rw [List.drop_succ_cons, List.drop_zero, ih]
      dsimp only
      rw [List.length_cons, Nat.add_comm]
theorem wR_noDg (form : List Nat) (l : List (List Int)) : noDg (wR form l) := fun c r e => by
  cases l with
  | nil => cases e
  | cons a l =>
    cases e
    rfl
theorem rest_fwd {form : List Nat} (hf : okf form = true) (hx : ∀ x ∈ form, ¬ isN x → dg x = false) : ∀ {l : List (List Int)} {m : Nat}, (∀ a ∈ l, okI form a) → (wR form l).length < m → restS form m (wR form l) = .ok l
  | [], m + 1, _, _ => rfl
  | a :: l, m + 1, h, hm => by
    have q := form_fwd (s := wR form l) hf hx (h a List.mem_cons_self) (wR_noDg form l)
    show restS form (m + 1) (32 :: (wF form a ++ wR form l)) = _
    unfold restS
    rw [if_pos rfl, q]
    dsimp only
    rw [List.drop_left, rest_fwd hf hx (fun b hb => h b (List.mem_cons_of_mem _ hb)) (by
      unfold wR at hm
      rw [List.length_cons, List.length_append] at hm
      omega)]
theorem items_fwd {form fs : List Nat} (h122 : form = 122 :: 44 :: fs) (hf : okf form = true) (hx : ∀ x ∈ form, ¬ isN x → dg x = false) {l : List (List Int)} (h : ∀ a ∈ l, okI form a) : itemsS form (wRow form l) = .ok l := by
  cases l with
  | nil => rfl
  | cons a l =>
    have q := form_fwd (s := wR form l) hf hx (h a List.mem_cons_self) (wR_noDg form l)
    have ne : ¬ wF form a ++ wR form l = [45] := fun e => by
      have ha := h a List.mem_cons_self
      rw [h122] at ha e
      unfold okI at ha
      rw [if_pos (.inl rfl)] at ha
      obtain ⟨n, r, rfl, _, _⟩ := ha
      have ew : wF (122 :: 44 :: fs) (n :: r) = intL n ++ (44 :: wF fs r) := by
        show (if isN 122 then intL n ++ wF (44 :: fs) r else _) = _
        rw [if_pos (.inl rfl)]
        rfl
      rw [ew] at e
      have : (44 : Nat) ∈ ([45] : List Nat) := by
        rw [← e]
        simp
      simp at this
    show itemsS form (wF form a ++ wR form l) = _
    unfold itemsS
    rw [if_neg ne, q]
    dsimp only
    rw [List.drop_left, rest_fwd hf hx (fun b hb => h b (List.mem_cons_of_mem _ hb)) (by
      rw [List.length_append]
      omega)]
end RW4
/-! part W1 -/
/-! The reader of rows: what it hands back, what it raises. -/
namespace TX
open PySem PySem.Spec PyProof.Rows L2 NT RW4
local macro_rules | `(tactic| walk_at "go") => `(tactic| simp only [L2.start, List.map_cons, List.map_nil, List.length_cons, List.length_nil, Nat.reduceSub, Nat.reduceAdd, List.replicate_succ, List.replicate_zero, List.cons_append, List.nil_append, List.append_nil,
  tSeq, tNext, tRet, tIfS, tTest, tAnd, tOr, tNot, tCB, tCall, tCons, tNil, tVar, tC, tOp, tUn, tAsg, gName, rI0, rI, CMul, CDiv, tDGet, sDPut, tBM0, tBM, tTup, tLst, tPar, gTup, gNil, gCons, tIf, tAug, tRevL, tDisp, tPairs, tYes, wipe, tDrop, L2.tSl, tNotV, tAndV, tOrV, tB, NdefX.startF, tOst, tMkO, rIxL, rIxT, rIxS, rAppend, rExtend, rPop, rSlL, rSetL, tPart, rEq, rNe, tFmt, ↓reduceIte, L2.gSub, ↓reduceIte,
  List.getElem?_cons_zero, List.getElem?_cons_succ, List.set_cons_zero, List.set_cons_succ, Option.some.injEq, V.int.injEq, V.str.injEq, V.ref.injEq, V.bl.injEq, exists_eq_left, exists_eq_left', exists_eq_right, exists_eq_right', exists_eq', true_and, and_true, decide_eq_true_eq, List.cons.injEq, reduceCtorEq, false_and, false_or, or_false, exists_false, exists_and_left, exists_and_right, and_assoc])
theorem tw_in {p : Nat → Bool} : ∀ {l : List Nat} {k x : Nat}, l[k]? = some x → k < (l.takeWhile p).length → p x = true
  | [], _, _, h, _ => by simp at h
  | a :: l, k, x, h, hk => by
    rw [List.takeWhile_cons] at hk
    by_cases ha : p a = true
    · rw [if_pos ha] at hk
      cases k with
      | zero =>
        have e : a = x := by simpa using h
        rw [← e]
        exact ha
      | succ k => exact tw_in (l := l) (k := k) (by simpa using h) (by simpa using hk)
    · rw [if_neg ha] at hk
      exact absurd hk (Nat.not_lt_zero _)
theorem tw_end {p : Nat → Bool} : ∀ {l : List Nat} {x : Nat}, l[(l.takeWhile p).length]? = some x → p x = false
  | [], _, h => by simp at h
  | a :: l, x, h => by
    rw [List.takeWhile_cons] at h
    by_cases ha : p a = true
    · rw [if_pos ha] at h
      exact tw_end (l := l) (by simpa using h)
    · rw [if_neg ha] at h
      have e : a = x := by simpa using h
      rw [← e]
      simpa using ha
section
variable {w : World} {K : PySem.W.Frag} {mg : Str → Option Value} {base : Heap}
theorem mk_bad2 {C : Addr} {n : Int} {E : XK} {H1 : Hp} (b : Bad C E H1 n) : 1 ≤ 1000 ∧ ∀ a, H1 a = none → spInit C [.ref a, .int n] (upd H1 a (exo a C none))
    (fun v H2 => v = .non ∧ ∃ (d : Addr), H2 a = some (exo a C (some d)) ∧ ∃ (fs : List (Str × V)), H2 d = some (exd d fs) ∧ H1 d = none ∧ E (.ref C) (some d) (upd (del H2 a) d (.xd fs))) (fun _ _ _ => False) := by
  refine ⟨by decide, fun a ha => ?_⟩
  obtain ⟨x, m, e, h1, h2⟩ := (mk_bad b).2 a ha
  refine ⟨x, m, e, h1, fun d H' k hd da e1 e2 => ?_⟩
  obtain ⟨e0, d', fs, g1, g2, g3, g4⟩ := h2 d H' k hd da e1 e2
  exact ⟨e0, d', g1, fs, g2, g3, g4⟩
/-- a value of a built-in kind, and whether it is a text -/
def IsTx (K : PySem.W.Frag) (H : Hp) (v : V) (b : Bool) : Prop := ∃ t, TyX K H v (.type t) ∧ kitB t "str" = some b
def spNeed (K : PySem.W.Frag) (C : Addr) : Sp := fun vs H Q E => ∃ v b, vs = [v] ∧ IsTx K H v b ∧ (b = true → Q .non H) ∧ (b = false → Bad C E H 0)
theorem ok_need (T : Txt w K mg) {C R fI cc : Addr} (B : BadC K mg C R fI cc) : Ok PW w K mg base (L2.CX PW w) 5 "need_text" ["value"] (spNeed K C) := by
  obtain ⟨f, fd, D⟩ := T.d_need_text
  refine ⟨f, fd, D.F.okX sc_need_text (fun vs H Q E h => ?_) (fun cdv A outer s H vs Q E hr h => ?_), D.g, D.F.kp, D.b⟩
  · obtain ⟨v, b, rfl, _⟩ := h
    rfl
  · obtain ⟨v, b, rfl, ⟨t, ht, hk⟩, h1, h2⟩ := h
    refine ⟨_, pss_one (ps_if (pt_not (pt_val (pe_callB call_isi (by rfl) T.z_isinstance (by decide +kernel) (pa_cons (pv 0) (pa_cons (pe_bltn (v := .ty "str") (by rfl) T.z_str (by decide +kernel) rfl) pa_nil)))))
      (pss_one (ps_bad (W := fun c d _ H => E c d H) rfl T B hr rfl (takes_of rfl rfl rfl rfl) pe_int)) pss_nil), ?_⟩
    walk_at "go"
    refine ⟨v, .ty "str", .type t, .type "str", b, rfl, .ty _, ht, kit_ty hk, b, rfl, ?_⟩
    cases b with
    | true => exact iteF (h1 rfl)
    | false => exact iteT (mk_bad2 (h2 rfl))
def spSigns : Sp := fun vs H Q _ => ∃ (T W : List Nat), vs = [.str (SX.S T), .str (SX.S W)] ∧ T.length ≤ 100000 ∧ Q (.int ((T.takeWhile fun c => decide (c ∈ W)).length : Nat)) H
theorem ok_signs (T : Txt w K mg) : Ok PW w K mg base CX0 1 "signs_among" ["text", "signs"] spSigns := by
  obtain ⟨f, fd, D⟩ := T.d_signs_among
  refine ⟨f, fd, D.F.ok sc_signs_among (fun vs H Q E h => ?_) (fun cdv A outer s H vs Q E hr h => ?_), D.g, D.F.kp, D.b⟩
  · obtain ⟨T', W, rfl, _⟩ := h
    rfl
  · obtain ⟨X, W, rfl, hl, q⟩ := h
    have nd := sc_signs_among.nd
    refine ⟨_, pss_cons (ps_set (i := 2) nd rfl (.inl rfl) pe_int)
      (pss_cons (ps_while PassesOwn.never (PW.pt (pw_and (pt_cmpR op_lt (pv 2) (pe_callB call_len_str (by rfl) T.z_len PySem.boot_len (pa_cons (pv 0) pa_nil)) (nomark _)) (pw_and1 (pt_cmpR op_in_sign (pe_ix ix_str (pv 0) (pv 2) (fun _ _ => rfl)) (pv 1) rfl))))
        (pss_one (ps_aug (i := 2) nd rfl (.inl rfl) pe_int ip_add)))
      (pss_one (ps_ret (pv 2)))), ?_⟩
    walk_at "go"
    have hX : X.length ≤ sizeLine := small_sz hl (by decide)
    have hXl : (SX.S X).length = X.length := by simp [Str.length]
    let tw := X.takeWhile fun c => decide (c ∈ W)
    have tl : tw.length ≤ X.length := (List.takeWhile_sublist _).length_le
    let st : Nat → L2.St := fun k => [some (.str (SX.S X)), some (.str (SX.S W)), some (.int (k : Nat))]
    refine while_m (fun m σ H' => H' = H ∧ ∃ k, k + m = tw.length ∧ σ = st k) (fun σ H' => H' = H ∧ σ = st tw.length) ⟨tw.length, rfl, 0, Nat.zero_add _, rfl⟩ ?_ ?_
    · rintro σ H' ⟨rfl, rfl⟩
      simp only [st]
      walk_at "go"
      exact q
    · rintro nx hnx m σ H' ⟨rfl, k, hk, rfl⟩
      simp only [st]
      walk_at "go"
      have out : k = tw.length → nx [some (V.str (SX.S X)), some (V.str (SX.S W)), some (V.int (k : Nat))] H' := fun e => hnx _ _ ⟨rfl, by rw [e]⟩
      rw [hXl]
      refine ⟨hX, ite2 (fun h => ⟨hX, ?_⟩) (fun h => out ?_)⟩
      · have hkX : k < X.length := by omega
        refine ⟨X[k], atI_nat (List.getElem?_eq_getElem hkX), X[k], rfl, ite2 (fun hm => ?_) (fun hm => out ?_)⟩
        · have hkt : k < tw.length := by
            rcases Nat.lt_or_ge k tw.length with h | h
            · exact h
            · have e : tw.length = k := by omega
              have q := tw_end (p := fun c => decide (c ∈ W)) (l := X) (x := X[k]) (by
                show X[tw.length]? = _
                rw [e]
                exact List.getElem?_eq_getElem hkX)
              simp [hm] at q
          refine ⟨fun σ' H1 => ∃ m', m' < m ∧ H1 = H' ∧ ∃ k, k + m' = tw.length ∧ σ' = [some (V.str (SX.S X)), some (V.str (SX.S W)), some (V.int (k : Nat))], fun _ _ z => z, k, 1, rfl, rfl, m - 1, by omega, rfl, k + 1, by omega, ?_⟩
          rfl
        · rcases Nat.lt_or_ge k tw.length with h1 | h1
          · have q := tw_in (p := fun c => decide (c ∈ W)) (List.getElem?_eq_getElem hkX) h1
            exact absurd (of_decide_eq_true q) hm
          · omega
      · omega
end
end TX
/-! part W2 -/
/-! A word's sign, the end, a number, numbers in a form. -/
namespace TX
open PySem PySem.Spec PyProof.Rows L2 NT RW4
local macro_rules | `(tactic| walk_at "go") => `(tactic| simp only [L2.start, List.map_cons, List.map_nil, List.length_cons, List.length_nil, Nat.reduceSub, Nat.reduceAdd, List.replicate_succ, List.replicate_zero, List.cons_append, List.nil_append, List.append_nil,
  tSeq, tNext, tRet, tIfS, tTest, tAnd, tOr, tNot, tCB, tCall, tCons, tNil, tVar, tC, tOp, tUn, tAsg, gName, rI0, rI, CMul, CDiv, tDGet, sDPut, tBM0, tBM, tTup, tLst, tPar, gTup, gNil, gCons, tIf, tAug, tRevL, tDisp, tPairs, tYes, wipe, tDrop, L2.tSl, tNotV, tAndV, tOrV, tB, rSlS, ipI, NdefX.startF, tOst, tMkO, rIxL, rIxT, rIxS, rAppend, rExtend, rPop, rSlL, rSetL, tPart, rEq, rNe, tFmt, ↓reduceIte, L2.gSub, ↓reduceIte,
  List.getElem?_cons_zero, List.getElem?_cons_succ, List.set_cons_zero, List.set_cons_succ, Option.some.injEq, V.int.injEq, V.str.injEq, V.ref.injEq, V.bl.injEq, exists_eq_left, exists_eq_left', exists_eq_right, exists_eq_right', exists_eq', true_and, and_true, decide_eq_true_eq, List.cons.injEq, reduceCtorEq, false_and, false_or, or_false, exists_false, exists_and_left, exists_and_right, and_assoc])
section
variable {w : World} {K : PySem.W.Frag} {mg : Str → Option Value} {base : Heap}
theorem S_len (X : List Nat) : (SX.S X).length = X.length := by simp [Str.length]
theorem sg_ne {a b : Nat} (h : a ≠ b) : ¬ (({ cps := #[a] } : Str) = { cps := #[b] }) := fun e => h (by
  have q : (#[a] : Array Nat) = #[b] := congrArg Str.cps e
  simpa using q)
def spPastEnd (C : Addr) : Sp := fun vs H Q E => ∃ (X : List Nat) (at' : Nat), vs = [.str (SX.S X), .int (at' : Nat)] ∧ X.length ≤ 100000 ∧ (X.length ≤ at' → Q .non H) ∧ (at' < X.length → Bad C E H at')
theorem ok_pastEnd (T : Txt w K mg) {C R fI cc : Addr} (B : BadC K mg C R fI cc) : Ok PW w K mg base (L2.CX PW w) 5 "past_end" ["text", "at"] (spPastEnd C) := by
  obtain ⟨f, fd, D⟩ := T.d_past_end
  refine ⟨f, fd, D.F.okX sc_past_end (fun vs H Q E h => ?_) (fun cdv A outer s H vs Q E hr h => ?_), D.g, D.F.kp, D.b⟩
  · obtain ⟨v, b, rfl, _⟩ := h
    rfl
  · obtain ⟨X, k, rfl, hl, h1, h2⟩ := h
    refine ⟨_, pss_one (ps_if (pt_cmpR op_lt (pv 1) (pe_callB call_len_str (by rfl) T.z_len PySem.boot_len (pa_cons (pv 0) pa_nil)) (nomark _))
      (pss_one (ps_bad (W := fun c d _ H => E c d H) rfl T B hr rfl (takes_of rfl rfl rfl rfl) (pv 1))) pss_nil), ?_⟩
    walk_at "go"
    refine ⟨by rw [S_len]; exact small_sz hl (by decide), ite2 (fun h => mk_bad2 (h2 ?_)) (fun h => h1 ?_)⟩
    · rw [S_len] at h
      omega
    · rw [S_len] at h
      omega
/-- how many signs a word and a text have in common ahead -/
def cp : List Nat → List Nat → Nat
  | a :: w, c :: r => if c = a then cp w r + 1 else 0
  | _, _ => 0
theorem cp_le : ∀ (w s : List Nat), cp w s ≤ s.length ∧ cp w s ≤ w.length
  | [], s => ⟨Nat.zero_le _, Nat.zero_le _⟩
  | a :: w, [] => ⟨Nat.zero_le _, Nat.zero_le _⟩
  | a :: w, c :: r => by
    have h := cp_le w r
    unfold cp
    rw [List.length_cons, List.length_cons]
    split <;> omega
/-- at the next place: alike, then further; unlike, then the end -/
theorem cp_at : ∀ {w s : List Nat} {i c d : Nat}, i ≤ cp w s → w[i]? = some c → s[i]? = some d → (d = c → i + 1 ≤ cp w s) ∧ (d ≠ c → cp w s = i)
  | [], s, i, c, d, _, h, _ => by simp at h
  | a :: w, [], i, c, d, _, _, h => by simp at h
  | a :: w, b :: r, 0, c, d, h, h1, h2 => by
    have e1 : a = c := by simpa using h1
    have e2 : b = d := by simpa using h2
    subst e1
    subst e2
    unfold cp
    exact ⟨fun z => by rw [if_pos z]; omega, fun z => if_neg z⟩
  | a :: w, b :: r, i + 1, c, d, h, h1, h2 => by
    unfold cp at h ⊢
    by_cases q : b = a
    · rw [if_pos q] at h ⊢
      have ih := cp_at (w := w) (s := r) (i := i) (c := c) (d := d) (by omega) (by simpa using h1) (by simpa using h2)
      exact ⟨fun z => by have := ih.1 z; omega, fun z => by have := ih.2 z; omega⟩
    · rw [if_neg q] at h
      omega
def spPastW (C : Addr) : Sp := fun vs H Q E => ∃ (X W : List Nat) (k : Nat), vs = [.str (SX.S X), .int (k : Nat), .str (SX.S W)] ∧ X.length ≤ 100000 ∧ k ≤ X.length ∧
  (cp W (X.drop k) = W.length → Q (.int ((k + W.length : Nat) : Int)) H) ∧ (cp W (X.drop k) < W.length → Bad C E H ((k + cp W (X.drop k) : Nat) : Int))
theorem ok_pastW (T : Txt w K mg) {C R fI cc : Addr} (B : BadC K mg C R fI cc) : Ok PW w K mg base (L2.CX PW w) 5 "past" ["text", "at", "word"] (spPastW C) := by
  obtain ⟨f, fd, D⟩ := T.d_past
  refine ⟨f, fd, D.F.okX sc_past (fun vs H Q E h => ?_) (fun cdv A outer s H vs Q E hr h => ?_), D.g, D.F.kp, D.b⟩
  · obtain ⟨X, W, k, rfl, _⟩ := h
    rfl
  · obtain ⟨X, W, k, rfl, hl, hk, h1, h2⟩ := h
    have nd := sc_past.nd
    refine ⟨_, pss_cons (ps_for (passes_of rfl) rfl (pi_str (pv 2)) (pg_name (i := 3) nd rfl (.inl rfl))
      (pss_cons (ps_if (PW.pt (pw_or (pt_cmpR op_eq (pv 1) (pe_callB call_len_str (by rfl) T.z_len PySem.boot_len (pa_cons (pv 0) pa_nil)) (nomark _)) (pw_or1 (pt_cmpR op_ne (pe_ix ix_str (pv 0) (pv 1) (fun _ _ => rfl)) (pv 3) (nomark _)))))
          (pss_one (ps_bad (W := fun c d _ H => E c d H) rfl T B hr rfl (takes_of rfl rfl rfl rfl) (pv 1))) pss_nil)
        (pss_one (ps_aug (i := 1) nd rfl (.inl rfl) pe_int ip_add))))
      (pss_one (ps_ret (pv 1))), ?_⟩
    walk_at "go"
    have hX : X.length ≤ sizeLine := small_sz hl (by decide)
    refine ⟨_, rfl, SX.S W, rfl, for_it walk_str (fun i σ H' => H' = H ∧ i ≤ cp W (X.drop k) ∧ ∃ v, σ = [some (.str (SX.S X)), some (.int ((k + i : Nat) : Int)), some (.str (SX.S W)), v])
      ⟨rfl, Nat.zero_le _, none, rfl⟩ (fun _ _ _ _ _ => trivial) ?_ ?_⟩
    · rintro i x σ H1 H2 hi ⟨rfl, hc, v, rfl⟩ ⟨rfl, c, hcx, rfl⟩
      have hx : W[i]? = some c := by simpa using hcx
      have hiW := get_lt hx
      have hle := (cp_le W (X.drop k)).1
      rw [List.length_drop] at hle
      walk_at "go"
      rw [S_len]
      refine ⟨hX, rfl, ?_⟩
      by_cases he : k + i = X.length
      · have ec : cp W (X.drop k) = i := by omega
        have b := h2 (by omega)
        rw [ec] at b
        refine ite2 (fun _ => mk_bad2 b) (fun z => absurd (by rw [he]) z)
      · have hkX : k + i < X.length := by omega
        refine ite2 (fun z => absurd (Int.ofNat.inj z) he) (fun _ => ⟨hX, X[k + i], atI_nat (List.getElem?_eq_getElem hkX), rfl, ?_⟩)
        have hs : (X.drop k)[i]? = some X[k + i] := by
          rw [List.getElem?_drop, List.getElem?_eq_getElem hkX]
        have ca := cp_at hc hx hs
        by_cases hq : X[k + i] = c
        · rw [hq]
          walk_at "go"
          rw [if_neg (by simp)]
          exact ⟨ca.1 hq, by omega⟩
        · have b := h2 (by rw [ca.2 hq]; exact hiW)
          rw [ca.2 hq] at b
          rw [if_pos (by rw [decide_eq_false (sg_ne hq)]; rfl)]
          exact mk_bad2 b
    · rintro σ H1 ⟨rfl, hc, v, rfl⟩
      walk_at "go"
      have hc' : W.length ≤ cp W (X.drop k) := hc
      have := (cp_le W (X.drop k)).2
      exact h1 (by omega)
theorem lit_cp (ch : Nat) (s : List Nat) : litS ch s = if cp [ch] s = 1 then .ok 1 else .error 0 := by
  cases s with
  | nil => rfl
  | cons c r =>
    unfold litS cp
    dsimp only
    by_cases h : c = ch
    · rw [if_pos h, if_pos h]
      cases r <;> rfl
    · rw [if_neg h, if_neg h]
      rfl
def spPast (C : Addr) : Sp := fun vs H Q E => ∃ (X : List Nat) (k ch : Nat), vs = [.str (SX.S X), .int (k : Nat), .str (SX.S [ch])] ∧ X.length ≤ 100000 ∧ k ≤ X.length ∧
  (∀ j, litS ch (X.drop k) = .ok j → Q (.int ((k + j : Nat) : Int)) H) ∧ (∀ j, litS ch (X.drop k) = .error j → Bad C E H ((k + j : Nat) : Int))
theorem ok_past (T : Txt w K mg) {C R fI cc : Addr} (B : BadC K mg C R fI cc) : Ok PW w K mg base (L2.CX PW w) 5 "past" ["text", "at", "word"] (spPast C) := by
  refine (ok_pastW T B).imp ?_
  rintro vs H Q E ⟨X, k, ch, rfl, hl, hk, h1, h2⟩
  refine ⟨X, [ch], k, rfl, hl, hk, fun h => h1 1 ?_, fun h => ?_⟩
  · rw [lit_cp]
    exact if_pos h
  · have h0 : cp [ch] (X.drop k) = 0 := by
      have : cp [ch] (X.drop k) < 1 := h
      omega
    rw [h0]
    exact h2 0 (by rw [lit_cp, h0]; rfl)
end
end TX
/-! part W3 -/
/-! A number in a text. -/
namespace TX
open PySem PySem.Spec PyProof.Rows L2 NT RW4
local macro_rules | `(tactic| walk_at "go") => `(tactic| simp only [L2.start, List.map_cons, List.map_nil, List.length_cons, List.length_nil, Nat.reduceSub, Nat.reduceAdd, List.replicate_succ, List.replicate_zero, List.cons_append, List.nil_append, List.append_nil,
  tSeq, tNext, tRet, tIfS, tTest, tAnd, tOr, tNot, tCB, tCall, tCons, tNil, tVar, tC, tOp, tUn, tAsg, gName, rI0, rI, CMul, CDiv, tDGet, sDPut, tBM0, tBM, tTup, tLst, tPar, gTup, gNil, gCons, tIf, tAug, tRevL, tDisp, tPairs, tYes, wipe, tDrop, L2.tSl, tNotV, tAndV, tOrV, tB, rSlS, ipI, tNoPart, NdefX.startF, tOst, tMkO, rIxL, rIxT, rIxS, rAppend, rExtend, rPop, rSlL, rSetL, tPart, rEq, rNe, tFmt, ↓reduceIte, L2.gSub, ↓reduceIte,
  List.getElem?_cons_zero, List.getElem?_cons_succ, List.set_cons_zero, List.set_cons_succ, Option.some.injEq, V.int.injEq, V.str.injEq, V.ref.injEq, V.bl.injEq, exists_eq_left, exists_eq_left', exists_eq_right, exists_eq_right', exists_eq', true_and, and_true, decide_eq_true_eq, List.cons.injEq, reduceCtorEq, false_and, false_or, or_false, exists_false, exists_and_left, exists_and_right, and_assoc])
theorem cut_S {X : List Nat} {i j : Nat} (hij : i ≤ j) : cutS (SX.S X) (some (i : Nat)) (some ((j : Nat) : Int)) = SX.S ((X.drop i).take (j - i)) := by
  unfold cutS
  rw [HT.sIx_nat, HT.sIx_nat]
  show (⟨((X.drop (min i (SX.S X).length)).take (min j (SX.S X).length - min i (SX.S X).length)).toArray⟩ : Str) = _
  rw [S_len]
  by_cases h : i ≤ X.length
  · rw [Nat.min_eq_left h]
    by_cases h2 : j ≤ X.length
    · rw [Nat.min_eq_left h2]
    · rw [Nat.min_eq_right (by omega)]
      rw [List.take_of_length_le (by rw [List.length_drop]; omega), List.take_of_length_le (by rw [List.length_drop]; omega)]
  · rw [Nat.min_eq_right (by omega), Nat.min_eq_right (by omega), Nat.sub_self, List.take_zero, List.drop_of_length_le (by omega), List.take_nil]
theorem cut_S0 {X : List Nat} {i : Nat} : cutS (SX.S X) (some (i : Nat)) none = SX.S (X.drop i) := by
  unfold cutS
  rw [HT.sIx_nat, HT.sIx_none]
  show (⟨((X.drop (min i (SX.S X).length)).take ((SX.S X).length - min i (SX.S X).length)).toArray⟩ : Str) = _
  rw [S_len]
  by_cases h : i ≤ X.length
  · rw [Nat.min_eq_left h, List.take_of_length_le (by rw [List.length_drop]; omega)]
  · rw [Nat.min_eq_right (by omega), Nat.sub_self, List.take_zero, List.drop_of_length_le (by omega)]
section
variable {w : World} {K : PySem.W.Frag} {mg : Str → Option Value} {base : Heap}
def spNumb (C : Addr) : Sp := fun vs H Q E => ∃ (X : List Nat) (k z : Nat), vs = [.str (SX.S X), .int (k : Nat), .str (SX.S [z])] ∧ isN z ∧ X.length ≤ 100000 ∧ k ≤ X.length ∧
  (∀ n j, numS z (X.drop k) = .ok (n, j) → ∀ p H', Same H H' → H p = none → H' p = some (.tup [.int n, .int ((k + j : Nat) : Int)]) → Q (.ref p) H') ∧ (∀ j, numS z (X.drop k) = .error j → Bad C E H ((k + j : Nat) : Int))
theorem digS : (("0123456789" : Str)) = SX.S [48, 49, 50, 51, 52, 53, 54, 55, 56, 57] := by decide +kernel
theorem dig1S : cutS ("0123456789" : Str) (some 1) none = SX.S [49, 50, 51, 52, 53, 54, 55, 56, 57] := by decide +kernel
theorem mem10 (c : Nat) : decide (c ∈ [48, 49, 50, 51, 52, 53, 54, 55, 56, 57]) = dg c := by
  unfold dg
  by_cases h : 48 ≤ c ∧ c ≤ 57
  · rw [decide_eq_true h.1, decide_eq_true h.2]
    refine decide_eq_true ?_
    have : c = 48 ∨ c = 49 ∨ c = 50 ∨ c = 51 ∨ c = 52 ∨ c = 53 ∨ c = 54 ∨ c = 55 ∨ c = 56 ∨ c = 57 := by omega
    rcases this with rfl | rfl | rfl | rfl | rfl | rfl | rfl | rfl | rfl | rfl <;> decide
  · have e : (decide (48 ≤ c) && decide (c ≤ 57)) = false := by
      rw [← Bool.decide_and]
      exact decide_eq_false h
    rw [e]
    refine decide_eq_false fun hm => h ?_
    simp only [List.mem_cons, List.mem_nil_iff, or_false] at hm
    omega
theorem mem9 (c : Nat) : decide (c ∈ [49, 50, 51, 52, 53, 54, 55, 56, 57]) = d1 c := by
  unfold d1
  by_cases h : 49 ≤ c ∧ c ≤ 57
  · rw [decide_eq_true h.1, decide_eq_true h.2]
    refine decide_eq_true ?_
    have : c = 49 ∨ c = 50 ∨ c = 51 ∨ c = 52 ∨ c = 53 ∨ c = 54 ∨ c = 55 ∨ c = 56 ∨ c = 57 := by omega
    rcases this with rfl | rfl | rfl | rfl | rfl | rfl | rfl | rfl | rfl <;> decide
  · have e : (decide (49 ≤ c) && decide (c ≤ 57)) = false := by
      rw [← Bool.decide_and]
      exact decide_eq_false h
    rw [e]
    refine decide_eq_false fun hm => h ?_
    simp only [List.mem_cons, List.mem_nil_iff, or_false] at hm
    omega
theorem d1_of {c : Nat} (h : dg c = true) (h0 : c ≠ 48) : d1 c = true := by
  unfold dg at h
  unfold d1
  simp only [Bool.and_eq_true, decide_eq_true_eq] at h ⊢
  omega
def plainN (z : Nat) : List Nat → Except Nat (Int × Nat)
  | [] => .error 0
  | c :: r => if c = 48 then .ok (0, 1) else if d1 c = true then .ok (val (runL z (c :: r)), (runL z (c :: r)).length) else .error 0
def minusN (z : Nat) : List Nat → Except Nat (Int × Nat)
  | [] => .error 1
  | e :: r' => if d1 e = true then .ok (-(val (runL z (e :: r'))), 1 + (runL z (e :: r')).length) else .error 1
theorem plainN_cons (z c : Nat) (r : List Nat) : plainN z (c :: r) = if c = 48 then .ok (0, 1) else if d1 c = true then .ok (val (runL z (c :: r)), (runL z (c :: r)).length) else .error 0 := rfl
theorem minusN_cons (z e : Nat) (r : List Nat) : minusN z (e :: r) = if d1 e = true then .ok (-(val (runL z (e :: r))), 1 + (runL z (e :: r)).length) else .error 1 := rfl
/-- where no sign - stands ahead -/
theorem numS_plain {z : Nat} {s : List Nat} (h : ∀ r, ¬ (z ≠ 110 ∧ s = 45 :: r)) : numS z s = plainN z s := by
  cases s with
  | nil => rfl
  | cons c r =>
    unfold numS
    dsimp only
    rw [if_neg (fun q => h r ⟨q.1, by rw [q.2]⟩)]
    rfl
theorem numS_minus {z : Nat} (hz : z ≠ 110) {r : List Nat} : numS z (45 :: r) = minusN z r := by
  unfold numS
  dsimp only
  rw [if_pos ⟨hz, rfl⟩]
  cases r <;> rfl
theorem runL_all {z : Nat} {s : List Nat} : NumText.AllDigits (runL z s) := dg_all (runL_dg z s)
theorem int_run {z c : Nat} {r : List Nat} (h : d1 c = true) : intText? (SX.S (runL z (c :: r))) = some (val (runL z (c :: r))) := by
  have e := runL_cons (x := z) (r := r) (d1_dg h)
  exact intText_digits (x := SX.S (runL z (c :: r))) runL_all (by rw [show (SX.S (runL z (c :: r))).cps.toList = runL z (c :: r) from rfl, e]; simp) (by rw [S_len]; have := runL_lim z (c :: r); have := lim_le z; omega)
theorem int_runN {z c : Nat} {r : List Nat} (h : d1 c = true) : intText? (SX.S (45 :: runL z (c :: r))) = some (-(val (runL z (c :: r)))) := by
  have e := runL_cons (x := z) (r := r) (d1_dg h)
  exact intText_neg (x := SX.S (45 :: runL z (c :: r))) rfl runL_all (by rw [e]; simp) (by rw [S_len]; have := runL_lim z (c :: r); have := lim_le z; rw [List.length_cons]; omega)
theorem drop_at {X : List Nat} {k : Nat} (h : k < X.length) : X.drop k = X[k] :: X.drop (k + 1) := List.drop_eq_getElem_cons h
theorem ok_numb (T : Txt w K mg) {C R fI cc : Addr} (B : BadC K mg C R fI cc) : Ok PW w K mg base (L2.CX PW w) 5 "number_at" ["text", "at", "kind"] (spNumb C) := by
  obtain ⟨f, fd, D⟩ := T.d_number_at
  obtain ⟨tD, hD⟩ := T.digits
  obtain ⟨mA, hM, MA⟩ := T.most
  obtain ⟨es, nM, KD⟩ := MA.kd
  refine ⟨f, fd, D.F.okX sc_number_at (fun vs H Q E h => ?_) (fun cdv A outer s H vs Q E hr h => ?_), D.g, D.F.kp, D.b⟩
  · obtain ⟨X, k, z, rfl, _⟩ := h
    rfl
  · obtain ⟨X, k, z, rfl, hz, hl, hk, h1, h2⟩ := h
    have hMz : ∃ u, PySem.W.nsIn K mA (SX.S [z]) = some (some (.int (lim z : Nat) u)) := by
      rcases hz with rfl | rfl | rfl
      · exact MA.yz
      · exact MA.yn
      · exact MA.yZ
    obtain ⟨uM, hMz⟩ := hMz
    have hlim := lim_le z
    have nd := sc_number_at.nd
    have hX : (SX.S X).length ≤ sizeLine := by rw [S_len]; exact small_sz hl (by decide)
    -- the rest, behind the sign: a the place, F the signs that may stand there
    obtain ⟨tt, hT, hQ⟩ : ∃ tt, PSs (cxOf (L2.CX PW w) PW w K mg base n_number_at "number_at" (defScope s_number_at) f cdv A outer s H E) ((defBody s_number_at).drop 3) tt ∧
        ∀ (a : Nat) (F : List Nat) (D : Ends), k ≤ a → D.rt = Q → (a = X.length ∨ (∃ h : a < X.length, X[a] ∉ F) → Bad C E H (a : Nat)) →
          (∀ h : a < X.length, X[a] ∈ F → X[a] = 48 → ∀ p H', Same H H' → H p = none → H' p = some (.tup [.int 0, .int ((a + 1 : Nat) : Int)]) → Q (.ref p) H') →
          (∀ h : a < X.length, X[a] ∈ F → X[a] ≠ 48 → ∃ n : Int, intText? (SX.S ((X.drop k).take (a + (runL z (X.drop a)).length - k))) = some n ∧ a - k ≤ 1 ∧ ∀ p H', Same H H' → H p = none → H' p = some (.tup [.int n, .int ((a + (runL z (X.drop a)).length : Nat) : Int)]) → Q (.ref p) H') →
          a ≤ X.length → tt D [some (.str (SX.S X)), some (.int (a : Nat)), some (.str (SX.S [z])), some (.int (k : Nat)), some (.str (SX.S F)), none] H := by
      refine ⟨_, pss_cons (ps_if (PW.pt (pw_or (pt_cmpR op_eq (pv 1) (pe_callB call_len_str (by rfl) T.z_len PySem.boot_len (pa_cons (pv 0) pa_nil)) (nomark _)) (pw_or1 (pt_cmpR op_notIn_sign (pe_ix ix_str (pv 0) (pv 1) (fun _ _ => rfl)) (pv 4) rfl))))
          (pss_one (ps_bad (W := fun c d _ H => E c d H) rfl T B hr rfl (takes_of rfl rfl rfl rfl) (pv 1))) pss_nil)
        (pss_cons (ps_if (pt_cmpR op_eq (pe_ix ix_str (pv 0) (pv 1) (fun _ _ => rfl)) pe_str (nomark _)) (pss_one (ps_ret (pe_tup (pa_cons pe_int (pa_cons (pe_op op_add (pv 1) pe_int) pa_nil))))) pss_nil)
        (pss_cons (ps_set (i := 5) nd rfl (.inl rfl) (pe_op op_add (pv 1) (pe_d (ok_signs T) hr pass0 (pa_cons (pe_slice sl_str (pv 0) (po_some (pv 1)) (po_some (pe_op op_add (pv 1) (pe_ix ix_kdict (pe_glob (v := .ref mA) rfl hM rfl) (pv 2) (fun _ _ => rfl))))) (pa_cons (pe_glob (v := .str "0123456789") rfl hD ⟨_, rfl⟩) pa_nil)))))
        (pss_one (ps_ret (pe_tup (pa_cons (pe_callTy call_int_str (by rfl) T.z_int (by decide +kernel) (pa_cons (pe_slice sl_str (pv 0) (po_some (pv 3)) (po_some (pv 5))) pa_nil)) (pa_cons (pv 5) pa_nil))))))), fun a F D hka hrt g1 g2 g3 haX => ?_⟩
      obtain ⟨Dnx, Drt, Dbk, Dct⟩ := D
      replace hrt : Drt = Q := hrt
      subst hrt
      walk_at "go"
      refine ⟨hX, rfl, ?_⟩
      rw [S_len] at hX ⊢
      by_cases he : a = X.length
      · rw [if_pos (by rw [he])]
        exact mk_bad2 (g1 (.inl he))
      · rw [if_neg (show ¬ ((a : Int) = (X.length : Int)) by omega)]
        have hlt : a < X.length := by omega
        refine ⟨hX, X[a], atI_nat (List.getElem?_eq_getElem hlt), X[a], rfl, ?_⟩
        by_cases hm : X[a] ∈ F
        · rw [if_neg (by simp [hm])]
          refine ⟨hX, X[a], atI_nat (List.getElem?_eq_getElem hlt), rfl, ?_⟩
          by_cases h0 : X[a] = 48
          · rw [if_pos (by rw [h0]; decide +kernel)]
            exact ⟨by decide, fun p hp => g2 hlt hm h0 p _ (same_new hp) hp upd_same⟩
          · rw [if_neg (fun e => h0 (by
              have e2 : (({ cps := #[X[a]] } : Str) = { cps := #[48] }) := e.trans (by decide +kernel)
              exact Classical.byContradiction fun z => sg_ne z e2))]
            obtain ⟨n, e1, e3, e2⟩ := g3 hlt hm h0
            have ec : cutS (SX.S X) (some (a : Nat)) (some ((a : Nat) + (lim z : Nat) : Int)) = SX.S ((X.drop a).take (lim z)) := by
              have q := cut_S (X := X) (i := a) (j := a + lim z) (by omega)
              rw [show a + lim z - a = lim z by omega] at q
              exact q
            have er : ((X.drop a).take (lim z)).takeWhile (fun c => decide (c ∈ [48, 49, 50, 51, 52, 53, 54, 55, 56, 57])) = runL z (X.drop a) := by
              unfold runL
              congr 1
              funext c
              exact mem10 c
            refine ⟨mA, SX.S [z], .int (lim z : Nat), rfl, rfl, ⟨es, nM, _, KD.at_, KD.lit, hMz, ⟨uM, rfl⟩⟩, _, rfl, ?_⟩
            refine ⟨hX, (X.drop a).take (lim z), [48, 49, 50, 51, 52, 53, 54, 55, 56, 57], by rw [ec, digS], by rw [List.length_take]; omega, ?_⟩
            rw [er]
            have e9 := runL_lim z (X.drop a)
            have ec2 := cut_S (X := X) (i := k) (j := a + (runL z (X.drop a)).length) (by omega)
            refine ⟨_, rfl, hX, n, ?_, ?_, by decide, fun p hp => ?_⟩
            · rw [← e1, ← ec2]
              rfl
            · have q : (cutS (SX.S X) (some (k : Nat)) (some ((a + (runL z (X.drop a)).length : Nat) : Int))).length ≤ 640 := by
                rw [ec2, S_len, List.length_take]
                omega
              exact q
            · exact e2 p _ (same_new hp) hp upd_same
        · rw [if_pos (by simp [hm])]
          exact mk_bad2 (g1 (.inr ⟨hlt, hm⟩))
    refine ⟨_, pss_cons (ps_set (i := 3) nd rfl (.inl rfl) (pv 1))
      (pss_cons (ps_set (i := 4) nd rfl (.inl rfl) (pe_glob (v := .str "0123456789") rfl hD ⟨_, rfl⟩))
      (pss_cons (ps_if (PW.pt (pw_and (pt_cmpR op_ne (pv 2) pe_str (nomark _)) (pw_and1 (pt_cmpR op_eq (pe_slice sl_str (pv 0) (po_some (pv 1)) (po_some (pe_op op_add (pv 1) pe_int))) pe_str (nomark _)))))
        (pss_cons (ps_aug (i := 1) nd rfl (.inl rfl) pe_int ip_add) (pss_one (ps_set (i := 4) nd rfl (.inl rfl) (pe_slice sl_str (pe_glob (v := .str "0123456789") rfl hD ⟨_, rfl⟩) (po_some pe_int) po_none)))) pss_nil) hT)), ?_⟩
    walk_at "go"
    have sB : ("0123456789" : Str) = SX.S [48, 49, 50, 51, 52, 53, 54, 55, 56, 57] := digS
    have plain : ∀ D : Ends, D.rt = Q → (∀ r, ¬ (z ≠ 110 ∧ X.drop k = 45 :: r)) → tt D [some (.str (SX.S X)), some (.int (k : Nat)), some (.str (SX.S [z])), some (.int (k : Nat)), some (.str ("0123456789" : Str)), none] H := fun D hrt hp => by
      have en := numS_plain hp
      rw [sB]
      refine hQ k _ D (Nat.le_refl _) hrt (fun h => ?_) (fun h hm h0 => ?_) (fun h hm h0 => ?_) hk
      · have e0 : numS z (X.drop k) = .error 0 := by
          rw [en]
          rcases h with h | ⟨h, hm⟩
          · rw [h, List.drop_length]
            rfl
          · rw [drop_at h, plainN_cons]
            have nd : dg X[k] = false := by
              rw [← mem10]
              exact decide_eq_false hm
            have n48 : X[k] ≠ 48 := fun e => by
              rw [e] at nd
              cases nd
            rw [if_neg n48, if_neg (fun z => by
              rw [d1_dg z] at nd
              cases nd)]
        exact h2 0 e0
      · refine h1 0 1 ?_
        rw [en, drop_at h, plainN_cons, if_pos h0]
      · have hd : d1 X[k] = true := d1_of (by rw [← mem10]; exact decide_eq_true hm) h0
        refine ⟨val (runL z (X.drop k)), ?_, by omega, h1 _ _ ?_⟩
        · rw [Nat.add_sub_cancel_left, ← runL_take, drop_at h]
          exact int_run hd
        · rw [en, drop_at h, plainN_cons, if_neg h0, if_pos hd]
    have c1 := cut_S (X := X) (i := k) (j := k + 1) (by omega)
    rw [Nat.add_sub_cancel_left] at c1
    have c1' : cutS (SX.S X) (some (k : Int)) (some ((k : Int) + 1)) = SX.S ((X.drop k).take 1) := c1
    refine ⟨rfl, ?_⟩
    by_cases hn : z = 110
    · rw [if_neg (by subst hn; decide +kernel)]
      exact plain _ rfl fun r q => q.1 hn
    · rw [if_pos (by
        rw [decide_eq_false]
        · rfl
        · intro q
          refine hn (Classical.byContradiction fun q2 => sg_ne q2 (q.trans (by decide +kernel))))]
      refine ⟨hX, rfl, ?_⟩
      by_cases hq : ∃ r, X.drop k = 45 :: r
      · obtain ⟨r, er⟩ := hq
        have hkX : k < X.length := by
          rcases Nat.lt_or_ge k X.length with h | h
          · exact h
          · rw [List.drop_of_length_le h] at er
            cases er
        have er1 : X.drop (k + 1) = r := by
          rw [drop_at hkX] at er
          exact (List.cons.inj er).2
        rw [if_pos (by rw [c1', er, List.take_succ_cons, List.take_zero]; decide +kernel)]
        refine ⟨by decide +kernel, ?_⟩
        rw [dig1S]
        refine hQ (k + 1) _ _ (by omega) rfl (fun h => ?_) (fun h hm h0 => ?_) (fun h hm h0 => ?_) (by omega)
        · have e0 : numS z (X.drop k) = .error 1 := by
            rw [er, numS_minus hn, ← er1]
            rcases h with h | ⟨h, hm⟩
            · rw [h, List.drop_length]
              rfl
            · rw [drop_at h, minusN_cons, if_neg (fun z => hm (by
                rw [← mem9] at z
                exact of_decide_eq_true z))]
          exact h2 1 e0
        · rw [h0] at hm
          exact absurd hm (by decide)
        · have hd : d1 X[k + 1] = true := by
            rw [← mem9]
            exact decide_eq_true hm
          refine ⟨-(val (runL z (X.drop (k + 1)))), ?_, by omega, ?_⟩
          · rw [er, show k + 1 + (runL z (X.drop (k + 1))).length - k = (runL z (X.drop (k + 1))).length + 1 by omega, List.take_succ_cons, ← er1, ← runL_take, drop_at h]
            exact int_runN hd
          · have e1 : numS z (X.drop k) = .ok (-(val (runL z (X.drop (k + 1)))), 1 + (runL z (X.drop (k + 1))).length) := by
              rw [er, numS_minus hn, ← er1, drop_at h, minusN_cons, if_pos hd]
            have g := h1 _ _ e1
            rw [← Nat.add_assoc] at g
            exact g
      · rw [if_neg (fun z => hq (by
          rw [c1'] at z
          have z2 : SX.S ((X.drop k).take 1) = SX.S [45] := z.trans (by decide +kernel)
          have z3 : (X.drop k).take 1 = [45] := by simpa using z2
          cases ed : X.drop k with
          | nil =>
            rw [ed] at z3
            cases z3
          | cons x y =>
            rw [ed, List.take_succ_cons] at z3
            cases z3
            exact ⟨y, rfl⟩))]
        exact plain _ rfl fun r q => hq ⟨r, q.2⟩
end
end TX
/-! part W4 -/
/-! Numbers in a form. -/
namespace TX
open PySem PySem.Spec PyProof.Rows L2 NT RW4
local macro_rules | `(tactic| walk_at "go") => `(tactic| simp only [L2.start, List.map_cons, List.map_nil, List.length_cons, List.length_nil, Nat.reduceSub, Nat.reduceAdd, List.replicate_succ, List.replicate_zero, List.cons_append, List.nil_append, List.append_nil,
  tSeq, tNext, tRet, tIfS, tTest, tAnd, tOr, tNot, tCB, tCall, tCons, tNil, tVar, tC, tOp, tUn, tAsg, gName, rI0, rI, CMul, CDiv, tDGet, sDPut, tBM0, tBM, tTup, tLst, tPar, gTup, gNil, gCons, tIf, tAug, tRevL, tDisp, tPairs, tYes, wipe, tDrop, L2.tSl, tNotV, tAndV, tOrV, tB, rSlS, ipI, tNoPart, NdefX.startF, tOst, tMkO, rIxL, rIxT, rIxS, rAppend, rExtend, rPop, rSlL, rSetL, tPart, rEq, rNe, tFmt, ↓reduceIte, L2.gSub, ↓reduceIte,
  List.getElem?_cons_zero, List.getElem?_cons_succ, List.set_cons_zero, List.set_cons_succ, Option.some.injEq, V.int.injEq, V.str.injEq, V.ref.injEq, V.bl.injEq, exists_eq_left, exists_eq_left', exists_eq_right, exists_eq_right', exists_eq', true_and, and_true, decide_eq_true_eq, List.cons.injEq, reduceCtorEq, false_and, false_or, or_false, exists_false, exists_and_left, exists_and_right, and_assoc])
section
variable {w : World} {K : PySem.W.Frag} {mg : Str → Option Value} {base : Heap}
theorem sg_beq (a b : Nat) : (({ cps := #[a] } : Str) == { cps := #[b] }) = decide (b = a) := by
  by_cases h : b = a
  · subst h
    rw [decide_eq_true rfl, beq_self_eq_true]
  · rw [decide_eq_false h]
    exact beq_eq_false_iff_ne.mpr (sg_ne (Ne.symm h))
theorem sg_dec (a b : Nat) : decide (({ cps := #[a] } : Str) = { cps := #[b] }) = decide (a = b) := by
  by_cases h : a = b
  · subst h
    rw [decide_eq_true rfl, decide_eq_true rfl]
  · rw [decide_eq_false h, decide_eq_false (sg_ne h)]
def spNums (C : Addr) : Sp := fun vs H Q E => ∃ (X F : List Nat) (k : Nat), vs = [.str (SX.S X), .int (k : Nat), .str (SX.S F)] ∧ X.length ≤ 100000 ∧ k ≤ X.length ∧ F.length ≤ 100 ∧
  (∀ ns j, formS F (X.drop k) = .ok (ns, j) → ∀ p q H', Same H H' → H p = none → H q = none → p ≠ q → H' q = some (.lst (ns.map V.int)) → H' p = some (.tup [.ref q, .int ((k + j : Nat) : Int)]) → Q (.ref p) H') ∧ (∀ j, formS F (X.drop k) = .error j → Bad C E H ((k + j : Nat) : Int))
/-- behind i signs of the form: the numbers so far, how far -/
def Cont (F s : List Nat) (i : Nat) (ns : List Int) (j : Nat) : Prop := j ≤ s.length ∧ (match formS (F.drop i) (s.drop j) with
  | .ok (ms, j') => formS F s = .ok (ns ++ ms, j + j')
  | .error j' => formS F s = .error (j + j'))
theorem cont0 (F s : List Nat) : Cont F s 0 [] 0 := by
  refine ⟨Nat.zero_le _, ?_⟩
  rw [List.drop_zero, List.drop_zero]
  cases e : formS F s with
  | error j =>
    dsimp only
    rw [Nat.zero_add]
  | ok p =>
    obtain ⟨ms, j⟩ := p
    dsimp only
    rw [Nat.zero_add, List.nil_append]
theorem cont_end {F s : List Nat} {ns : List Int} {j : Nat} (h : Cont F s F.length ns j) : formS F s = .ok (ns, j) := by
  have q := h.2
  rw [List.drop_length] at q
  have e : formS [] (s.drop j) = .ok ([], 0) := rfl
  rw [e] at q
  dsimp only at q
  rw [q, List.append_nil, Nat.add_zero]
theorem cont_num {F s : List Nat} {i x : Nat} {ns : List Int} {j : Nat} (hx : F[i]? = some x) (hn : isN x) (h : Cont F s i ns j) :
    (∀ n j', numS x (s.drop j) = .ok (n, j') → Cont F s (i + 1) (ns ++ [n]) (j + j')) ∧ (∀ j', numS x (s.drop j) = .error j' → formS F s = .error (j + j')) := by
  have hi := get_lt hx
  have ed : F.drop i = x :: F.drop (i + 1) := by
    rw [List.drop_eq_getElem_cons hi]
    rw [List.getElem?_eq_getElem hi] at hx
    rw [Option.some.inj hx]
  obtain ⟨h0, h⟩ := h
  rw [ed] at h
  have eu : formS (x :: F.drop (i + 1)) (s.drop j) = (match numS x (s.drop j) with
        | .error k => .error k
        | .ok (n, k) => match formS (F.drop (i + 1)) ((s.drop j).drop k) with
          | .error j => .error (k + j)
          | .ok (ns, j) => .ok (n :: ns, k + j)) := by
    conv => lhs; unfold formS
    rw [if_pos hn]
    first | done | rfl
  rw [eu] at h
  constructor
  · intro n j' e
    have hle := numS_le e
    rw [List.length_drop] at hle
    rw [e] at h
    dsimp only at h
    rw [List.drop_drop] at h
    refine ⟨by omega, ?_⟩
    cases e2 : formS (F.drop (i + 1)) (s.drop (j + j')) with
    | error m =>
      rw [e2] at h
      dsimp only at h ⊢
      rw [h, Nat.add_assoc]
    | ok p =>
      obtain ⟨ms, m⟩ := p
      rw [e2] at h
      dsimp only at h ⊢
      rw [h, List.append_assoc, Nat.add_assoc]
      rfl
  · intro j' e
    rw [e] at h
    exact h
theorem cont_lit {F s : List Nat} {i x : Nat} {ns : List Int} {j : Nat} (hx : F[i]? = some x) (hn : ¬ isN x) (h : Cont F s i ns j) :
    (∀ j', litS x (s.drop j) = .ok j' → Cont F s (i + 1) ns (j + j')) ∧ (∀ j', litS x (s.drop j) = .error j' → formS F s = .error (j + j')) := by
  have hi := get_lt hx
  have ed : F.drop i = x :: F.drop (i + 1) := by
    rw [List.drop_eq_getElem_cons hi]
    rw [List.getElem?_eq_getElem hi] at hx
    rw [Option.some.inj hx]
  obtain ⟨h0, h⟩ := h
  rw [ed] at h
  have eu : formS (x :: F.drop (i + 1)) (s.drop j) = (match litS x (s.drop j) with
        | .error k => .error k
        | .ok k => match formS (F.drop (i + 1)) ((s.drop j).drop k) with
          | .error j => .error (k + j)
          | .ok (ns, j) => .ok (ns, k + j)) := by
    conv => lhs; unfold formS
    rw [if_neg hn]
    first | done | rfl
  rw [eu] at h
  constructor
  · intro j' e
    have hle : j' ≤ (s.drop j).length := by
      cases es : s.drop j with
      | nil =>
        rw [es] at e
        cases e
      | cons c r =>
        rw [es] at e
        unfold litS at e
        dsimp only at e
        split at e
        · cases e
          rw [List.length_cons]
          omega
        · cases e
    rw [List.length_drop] at hle
    rw [e] at h
    dsimp only at h
    rw [List.drop_drop] at h
    refine ⟨by omega, ?_⟩
    cases e2 : formS (F.drop (i + 1)) (s.drop (j + j')) with
    | error m =>
      rw [e2] at h
      dsimp only at h ⊢
      rw [h, Nat.add_assoc]
    | ok p =>
      obtain ⟨ms, m⟩ := p
      rw [e2] at h
      dsimp only at h ⊢
      rw [h, Nat.add_assoc]
  · intro j' e
    rw [e] at h
    exact h
theorem ok_nums (T : Txt w K mg) {C R fI cc : Addr} (B : BadC K mg C R fI cc) : Ok PW w K mg base (L2.CX PW w) 6 "numbers_at" ["text", "at", "form"] (spNums C) := by
  obtain ⟨f, fd, D⟩ := T.d_numbers_at
  obtain ⟨mA, hM, MA⟩ := T.most
  obtain ⟨es, nM, KD⟩ := MA.kd
  refine ⟨f, fd, D.F.okX sc_numbers_at (fun vs H Q E h => ?_) (fun cdv A outer s H vs Q E hr h => ?_), D.g, D.F.kp, D.b⟩
  · obtain ⟨X, F, k, rfl, _⟩ := h
    rfl
  · obtain ⟨X, F, k, rfl, hl, hk, hF, h1, h2⟩ := h
    have nd := sc_numbers_at.nd
    refine ⟨_, pss_cons (ps_set (i := 3) nd rfl (.inl rfl) (pe_lst pa_nil))
      (pss_cons (ps_for (passes_of rfl) rfl (pi_str (pv 2)) (pg_name (i := 4) nd rfl (.inl rfl))
        (pss_one (ps_if (pt_cmpR (op_in_kd KD) (pv 4) (pe_glob (v := .ref mA) rfl hM rfl) (by rfl))
          (pss_cons (ps_asg (pe_d (E := E) (ok_numb T B) hr (passes_call (takes_of rfl rfl rfl rfl) (fun _ _ _ _ z => z)) (pa_cons (pv 0) (pa_cons (pv 1) (pa_cons (pv 4) pa_nil))))
              (pg_tup (by rfl) (pgs_cons (pg_name (i := 5) nd rfl (.inl rfl)) (pgs_cons (pg_name (i := 1) nd rfl (.inl rfl)) pgs_nil))))
            (pss_one (ps_expr (pe_bm PySem.F.plainAttrs_list PySem.F.slot_list_append PySem.F.type_list_append mt_append (pv 3) (pa_cons (pv 5) pa_nil)))))
          (pss_one (ps_set (i := 1) nd rfl (.inl rfl) (pe_d (E := E) (ok_past T B) hr (passes_call (takes_of rfl rfl rfl rfl) (fun _ _ _ _ z => z)) (pa_cons (pv 0) (pa_cons (pv 1) (pa_cons (pv 4) pa_nil)))))))))
      (pss_one (ps_ret (pe_tup (pa_cons (pv 3) (pa_cons (pv 1) pa_nil)))))), ?_⟩
    walk_at "go"
    refine ⟨by decide, fun q hq => ⟨_, rfl, SX.S F, rfl, for_it walk_str (fun i σ H' => Same H H' ∧ ∃ ns j v4 v5, Cont F (X.drop k) i ns j ∧ ns.length ≤ i ∧ H' q = some (.lst (ns.map V.int)) ∧ σ = [some (.str (SX.S X)), some (.int ((k + j : Nat) : Int)), some (.str (SX.S F)), some (.ref q), v4, v5])
      ⟨same_new hq, [], 0, none, none, cont0 F _, Nat.le_refl _, upd_same, rfl⟩ (fun _ _ _ _ _ => trivial) ?_ ?_⟩⟩
    · rintro i x σ H1 H2 hi ⟨sm, ns, j, v4, v5, hc, hn, eq, rfl⟩ ⟨rfl, c, hcx, rfl⟩
      have hx : F[i]? = some c := by simpa using hcx
      have hiF := get_lt hx
      walk_at "go"
      have kj : k + j ≤ X.length := by
        have := hc.1
        rw [List.length_drop] at this
        omega
      have eK : ∃ r, PySem.W.nsIn K mA { cps := #[c] } = some r ∧ r.isSome = decide (isN c) := by
        by_cases hN : isN c
        · rw [decide_eq_true hN]
          rcases hN with rfl | rfl | rfl
          · obtain ⟨u, e⟩ := MA.yz
            exact ⟨_, e, rfl⟩
          · obtain ⟨u, e⟩ := MA.yn
            exact ⟨_, e, rfl⟩
          · obtain ⟨u, e⟩ := MA.yZ
            exact ⟨_, e, rfl⟩
        · rw [decide_eq_false hN]
          have ne : ∀ {x : Nat}, c ≠ x → ({ cps := #[c] } : Str) ≠ { cps := #[x] } := fun h => sg_ne h
          exact ⟨none, MA.no _ (ne fun z => hN (.inl z)) (ne fun z => hN (.inr (.inl z))) (ne fun z => hN (.inr (.inr z))), rfl⟩
      obtain ⟨r, eK, er⟩ := eK
      refine ⟨r, eK, ?_⟩
      rw [er]
      by_cases hN : isN c
      · rw [decide_eq_true hN]
        have cn := cont_num hx hN hc
        rw [List.drop_drop] at cn
        refine iteT ⟨X, k + j, c, rfl, hN, hl, kj, fun n j' e p2 H3 s3 np2 e2 => ?_, fun j' e => ?_⟩
        · have eqp : H3 q = some (.lst (ns.map V.int)) := s3 _ _ eq
          refine ⟨p2, rfl, _, .inl (.inl e2), rfl, _, _, rfl, _, _, rfl, rfl, .inl ⟨rfl, _, .inl (.inl eqp)⟩, _, eqp, by rw [List.length_map]; exact small_lt (m := 100) (by omega) (by decide), fun x o hx' => ?_, ns ++ [n], j + j', cn.1 n j' e, by rw [List.length_append]; exact Nat.succ_le_succ hn, by rw [upd_same, List.map_append]; rfl, by rw [Nat.add_assoc]⟩
          rw [upd_ne (ne_of_none hx' hq)]
          exact s3 _ _ (sm _ _ hx')
        · have b := (h2 _ (cn.2 j' e)).of sm
          rw [← Nat.add_assoc] at b
          exact b
      · rw [decide_eq_false hN]
        have cl := cont_lit hx hN hc
        rw [List.drop_drop] at cl
        refine iteF ⟨X, k + j, c, rfl, hl, kj, fun j' e => ?_, fun j' e => ?_⟩
        · exact ⟨sm, ns, j + j', cl.1 j' e, by omega, eq, by rw [Nat.add_assoc]⟩
        · have b := (h2 _ (cl.2 j' e)).of sm
          rw [← Nat.add_assoc] at b
          exact b
    · rintro σ H1 ⟨sm, ns, j, v4, v5, hc, hn, eq, rfl⟩
      walk_at "go"
      have hc' : Cont F (X.drop k) F.length ns j := hc
      refine ⟨by decide, fun p hp => h1 ns j (cont_end hc') p q _ (sm.trans (same_new hp)) (sm.free hp) hq (ne_of_none eq hp).symm ?_ upd_same⟩
      rw [upd_ne (ne_of_none eq hp)]
      exact eq
end
end TX
/-! part W5 -/
/-! A row of items. -/
namespace TX
open PySem PySem.Spec PyProof.Rows L2 NT RW4
local macro_rules | `(tactic| walk_at "go") => `(tactic| simp only [L2.start, List.map_cons, List.map_nil, List.length_cons, List.length_nil, Nat.reduceSub, Nat.reduceAdd, List.replicate_succ, List.replicate_zero, List.cons_append, List.nil_append, List.append_nil,
  tSeq, tNext, tRet, tIfS, tTest, tAnd, tOr, tNot, tCB, tCall, tCons, tNil, tVar, tC, tOp, tUn, tAsg, gName, rI0, rI, CMul, CDiv, tDGet, sDPut, tBM0, tBM, tTup, tLst, tPar, gTup, gNil, gCons, tIf, tAug, tRevL, tDisp, tPairs, tYes, wipe, tDrop, L2.tSl, tNotV, tAndV, tOrV, tB, rSlS, ipI, tNoPart, NdefX.startF, tOst, tMkO, rIxL, rIxT, rIxS, rAppend, rExtend, rPop, rSlL, rSetL, tPart, rEq, rNe, tFmt, ↓reduceIte, L2.gSub, ↓reduceIte,
  List.getElem?_cons_zero, List.getElem?_cons_succ, List.set_cons_zero, List.set_cons_succ, Option.some.injEq, V.int.injEq, V.str.injEq, V.ref.injEq, V.bl.injEq, exists_eq_left, exists_eq_left', exists_eq_right, exists_eq_right', exists_eq', true_and, and_true, decide_eq_true_eq, List.cons.injEq, reduceCtorEq, false_and, false_or, or_false, exists_false, exists_and_left, exists_and_right, and_assoc])
section
variable {w : World} {K : PySem.W.Frag} {mg : Str → Option Value} {base : Heap}
abbrev dI (ns : List Int) : PyData := .list (ns.map .int)
theorem atl_ints {S : Addr → Prop} {H : Hp} : ∀ ns : List Int, AtL S H (ns.map .int) (ns.map V.int)
  | [] => atl_nil
  | n :: ns => atl_cons at_int (atl_ints ns)
def spItems (K : PySem.W.Frag) (C : Addr) : Sp := fun vs H Q E => ∃ (v : V) (F : List Nat), vs = [v, .str (SX.S F)] ∧ F.length ≤ 100 ∧
  ((IsTx K H v false ∧ Bad C E H 0) ∨ ∃ X : List Nat, v = .str (SX.S X) ∧ X.length ≤ 100000 ∧
    (∀ l, itemsS F X = .ok l → ∀ a H', Same H H' → At (fun b => H b ≠ none) H' (.list (l.map dI)) a → Q a H') ∧ (∀ j, itemsS F X = .error j → Bad C E H (j : Nat)))
theorem istx_str {H : Hp} {x : Str} : IsTx K H (.str x) true := ⟨"str", .base (.str x), by decide +kernel⟩
theorem rest_fuel {F : List Nat} : ∀ {m n : Nat} {s : List Nat}, s.length < m → s.length < n → restS F m s = restS F n s
  | 0, _, _, h, _ => absurd h (Nat.not_lt_zero _)
  | _, 0, _, _, h => absurd h (Nat.not_lt_zero _)
  | m + 1, n + 1, [], _, _ => rfl
  | m + 1, n + 1, c :: r, h1, h2 => by
    unfold restS
    split
    · cases e : formS F r with
      | error k => rfl
      | ok p =>
        obtain ⟨ns, k⟩ := p
        dsimp only
        rw [List.length_cons] at h1 h2
        rw [rest_fuel (m := m) (n := n) (s := r.drop k) (by rw [List.length_drop]; omega) (by rw [List.length_drop]; omega)]
    · rfl
/-- behind some items: these, how far -/
def ContR (F X : List Nat) (l : List (List Int)) (k : Nat) : Prop := k ≤ X.length ∧ (match restS F ((X.drop k).length + 1) (X.drop k) with
  | .ok ms => itemsS F X = .ok (l ++ ms)
  | .error j => itemsS F X = .error (k + j))
theorem contR_end {F X : List Nat} {l : List (List Int)} {k : Nat} (h : ContR F X l k) (hk : X.length ≤ k) : itemsS F X = .ok l := by
  have q := h.2
  rw [List.drop_of_length_le hk] at q
  have e : restS F (([] : List Nat).length + 1) [] = .ok [] := rfl
  rw [e] at q
  dsimp only at q
  rw [q, List.append_nil]
theorem contR_go {F X : List Nat} {l : List (List Int)} {k : Nat} (h : ContR F X l k) (hk : k < X.length) :
    (litS 32 (X.drop k) = .error 0 ∧ itemsS F X = .error k) ∨ (litS 32 (X.drop k) = .ok 1 ∧ (∀ j, formS F (X.drop (k + 1)) = .error j → itemsS F X = .error (k + 1 + j)) ∧ ∀ ns j, formS F (X.drop (k + 1)) = .ok (ns, j) → ContR F X (l ++ [ns]) (k + 1 + j)) := by
  have q := h.2
  have ed := drop_at hk
  rw [ed] at q
  have eu : restS F ((X[k] :: X.drop (k + 1)).length + 1) (X[k] :: X.drop (k + 1)) = (if X[k] = 32 then
      match formS F (X.drop (k + 1)) with
      | .error k => .error (1 + k)
      | .ok (ns, j) => match restS F ((X[k] :: X.drop (k + 1)).length) ((X.drop (k + 1)).drop j) with
        | .error i => .error (1 + j + i)
        | .ok l => .ok (ns :: l)
    else .error 0) := by
    conv => lhs; unfold restS
    first | done | rfl
  rw [eu] at q
  by_cases hc : X[k] = 32
  · rw [if_pos hc] at q
    refine .inr ⟨by rw [ed]; exact if_pos hc, fun j e => ?_, fun ns j e => ?_⟩
    · rw [e] at q
      dsimp only at q
      rw [q, Nat.add_assoc]
    · have hle := formS_le e
      rw [List.length_drop] at hle
      rw [e] at q
      dsimp only at q
      rw [List.drop_drop] at q
      refine ⟨by omega, ?_⟩
      rw [rest_fuel (n := (X[k] :: X.drop (k + 1)).length) (Nat.lt_succ_self _) (by rw [List.length_cons, List.length_drop, List.length_drop]; omega)]
      cases e2 : restS F ((X[k] :: X.drop (k + 1)).length) (X.drop (k + 1 + j)) with
      | error i =>
        rw [e2] at q
        dsimp only at q ⊢
        rw [q]
        congr 1
        omega
      | ok ms =>
        rw [e2] at q
        dsimp only at q ⊢
        rw [q, List.append_assoc]
        rfl
  · rw [if_neg hc] at q
    dsimp only at q
    exact .inl ⟨by rw [ed]; exact if_neg hc, by rw [q]; rfl⟩
theorem items_start {F X : List Nat} (h : X ≠ [45]) : (∀ j, formS F X = .error j → itemsS F X = .error j) ∧ ∀ ns k, formS F X = .ok (ns, k) → ContR F X [ns] k := by
  have eu : itemsS F X = (match formS F X with
      | .error k => .error k
      | .ok (ns, k) => match restS F (X.length + 1) (X.drop k) with
        | .error j => .error (k + j)
        | .ok l => .ok (ns :: l)) := by
    conv => lhs; unfold itemsS
    rw [if_neg h]
    first | done | rfl
  constructor
  · intro j e
    rw [eu, e]
  · intro ns k e
    have hle := formS_le e
    refine ⟨hle, ?_⟩
    rw [eu, e]
    dsimp only
    rw [rest_fuel (n := X.length + 1) (Nat.lt_succ_self _) (by rw [List.length_drop]; omega)]
    cases e2 : restS F (X.length + 1) (X.drop k) with
    | error i => rfl
    | ok ms => rfl
theorem ok_items (T : Txt w K mg) {C R fI cc : Addr} (B : BadC K mg C R fI cc) : Ok PW w K mg base (L2.CX PW w) 7 "items_of" ["value", "form"] (spItems K C) := by
  obtain ⟨f, fd, D⟩ := T.d_items_of
  refine ⟨f, fd, D.F.okX sc_items_of (fun vs H Q E h => ?_) (fun cdv A outer s H vs Q E hr h => ?_), D.g, D.F.kp, D.b⟩
  · obtain ⟨v, F, rfl, _⟩ := h
    rfl
  · obtain ⟨v, F, rfl, hF, h⟩ := h
    have nd := sc_items_of.nd
    refine ⟨_, pss_cons (ps_expr (pe_d (E := E) (ok_need T B) hr (passes_call (takes_of rfl rfl rfl rfl) (fun _ _ _ _ z => z)) (pa_cons (pv 0) pa_nil)))
      (pss_cons (ps_if (pt_cmpR op_eq (pv 0) pe_str (nomark _)) (pss_one (ps_ret (pe_lst pa_nil))) pss_nil)
      (pss_cons (ps_asg (pe_d (E := E) (ok_nums T B) hr (passes_call (takes_of rfl rfl rfl rfl) (fun _ _ _ _ z => z)) (pa_cons (pv 0) (pa_cons pe_int (pa_cons (pv 1) pa_nil))))
              (pg_tup (by rfl) (pgs_cons (pg_name (i := 2) nd rfl (.inl rfl)) (pgs_cons (pg_name (i := 3) nd rfl (.inl rfl)) pgs_nil))))
      (pss_cons (ps_set (i := 4) nd rfl (.inl rfl) (pe_lst (pa_cons (pv 2) pa_nil)))
      (pss_cons (ps_while (passes_of rfl) (pt_cmpR op_lt (pv 3) (pe_callB call_len_str (by rfl) T.z_len PySem.boot_len (pa_cons (pv 0) pa_nil)) (nomark _))
        (pss_cons (ps_asg (pe_d (E := E) (ok_nums T B) hr (passes_call (takes_of rfl rfl rfl rfl) (fun _ _ _ _ z => z)) (pa_cons (pv 0) (pa_cons (pe_d (E := E) (ok_past T B) hr (passes_call (takes_of rfl rfl rfl rfl) (fun _ _ _ _ z => z)) (pa_cons (pv 0) (pa_cons (pv 3) (pa_cons pe_str pa_nil)))) (pa_cons (pv 1) pa_nil))))
              (pg_tup (by rfl) (pgs_cons (pg_name (i := 2) nd rfl (.inl rfl)) (pgs_cons (pg_name (i := 3) nd rfl (.inl rfl)) pgs_nil))))
          (pss_one (ps_expr (pe_bm PySem.F.plainAttrs_list PySem.F.slot_list_append PySem.F.type_list_append mt_append (pv 4) (pa_cons (pv 2) pa_nil))))))
      (pss_one (ps_ret (pv 4))))))), ?_⟩
    walk_at "go"
    rcases h with ⟨h1, h2⟩ | ⟨X, rfl, hl, h1, h2⟩
    · exact ⟨v, false, rfl, h1, (fun z => Bool.noConfusion z), fun _ => h2⟩
    · refine ⟨_, true, rfl, istx_str, fun _ => ⟨rfl, ?_⟩, (fun z => Bool.noConfusion z)⟩
      by_cases hq : X = [45]
      · rw [if_pos (by rw [hq]; decide +kernel)]
        refine ⟨by decide, fun p hp => h1 [] (by rw [hq]; rfl) _ _ (same_new hp) (at_lst (fun z => z hp) upd_same atl_nil)⟩
      · rw [if_neg (fun z => hq (by
          have z1 : SX.S X = SX.S [45] := (V.str.inj z).trans (by decide +kernel)
          have z2 : (X.toArray : Array Nat) = [45].toArray := congrArg Str.cps z1
          simpa using z2))]
        have st := items_start (F := F) hq
        refine ⟨X, F, 0, rfl, hl, Nat.zero_le _, hF, fun ns j e p q H1 s1 np nq pq eq ep => ?_, fun j e => ?_⟩
        · rw [List.drop_zero] at e
          refine ⟨p, rfl, _, .inl (.inl ep), rfl, _, _, rfl, _, _, rfl, rfl, by decide, fun p4 hp4 => ?_⟩
          have hH4 : H p4 = none := s1.free hp4
          have qp4 : q ≠ p4 := ne_of_none eq hp4
          refine while_m (fun m σ H' => ∃ l k vs v2, m = X.length - k ∧ Same H H' ∧ ContR F X l k ∧ l.length ≤ k + 1 ∧ H' p4 = some (.lst vs) ∧ AtL (fun b => H b ≠ none ∨ b = p4) H' (l.map dI) vs ∧ σ = [some (.str (SX.S X)), some (.str (SX.S F)), v2, some (.int (k : Nat)), some (.ref p4)])
            (fun σ H' => ∃ l vs v2 k, Same H H' ∧ itemsS F X = .ok l ∧ H' p4 = some (.lst vs) ∧ AtL (fun b => H b ≠ none ∨ b = p4) H' (l.map dI) vs ∧ σ = [some (.str (SX.S X)), some (.str (SX.S F)), v2, some (.int (k : Nat)), some (.ref p4)]) ?_ ?_ ?_
          · refine ⟨_, [ns], j, _, _, rfl, s1.trans (same_new hp4), st.2 _ _ e, Nat.le_add_left 1 j, upd_same, atl_cons (at_lst (p := q) (fun z => z.elim (fun z => z nq) qp4) (by rw [upd_ne qp4]; exact eq) (atl_ints _)) atl_nil, by rw [Nat.zero_add]⟩
          · rintro σ H2 ⟨l, vs, v2, k, s2, hk, e4, hv, rfl⟩
            walk_at "go"
            exact h1 l hk _ _ s2 (at_lst (fun z => z hH4) e4 (hv.off fun b o hb z => .inl z))
          · rintro nx hnx m σ H2 ⟨l, k, vs, v2, rfl, s2, hk, hll, e4, hv, rfl⟩
            walk_at "go"
            refine ⟨(by rw [S_len]; exact small_sz hl (by decide)), ?_⟩
            rw [S_len]
            by_cases hlt : k < X.length
            · rw [if_pos (by omega)]
              refine ⟨_, fun _ _ z => z, X, k, 32, by rw [show (Str.ofString " ") = SX.S [32] by decide +kernel], hl, hk.1, fun j1 ej => ?_, fun j1 ej => ?_⟩
              · rcases contR_go hk hlt with ⟨g, _⟩ | ⟨g, g1, g2⟩
                · rw [g] at ej
                  cases ej
                · rw [g] at ej
                  cases ej
                  refine ⟨X, F, k + 1, rfl, hl, hlt, hF, fun ns j e p5 q5 H3 s3 np5 nq5 pq5 eq5 ep5 => ?_, fun j e => (h2 _ (g1 j e)).of s2⟩
                  have c2 := g2 ns j e
                  have e43 : H3 p4 = some (.lst vs) := s3 _ _ e4
                  have nq54 : q5 ≠ p4 := (ne_of_none e4 nq5).symm
                  refine ⟨p5, rfl, _, .inl (.inl ep5), rfl, _, _, rfl, _, _, rfl, rfl, .inl ⟨rfl, _, .inl (.inl e43)⟩, _, e43, ?_, X.length - (k + 1 + j), by omega, l ++ [ns], k + 1 + j, rfl, fun b o hb => ?_, c2, ?_, _, upd_same, ?_, _, rfl⟩
                  · rw [hv.length, List.length_map]
                    exact small_lt (m := 100001) (by omega) (by decide)
                  · rw [upd_ne (ne_of_none hb hH4)]
                    exact s3 _ _ (s2 _ _ hb)
                  · rw [List.length_append]
                    exact Nat.le_trans (Nat.add_le_add_right hll 1) (by omega)
                  · rw [List.map_append]
                    exact (hv.kp ((Kp.of_same s3).trans (Kp.upd_in (.inr rfl)))).snoc (at_lst (fun z => z.elim (fun z => z (s2.free nq5)) nq54) (by rw [upd_ne nq54]; exact eq5) (atl_ints _))
              · rcases contR_go hk hlt with ⟨g, g1⟩ | ⟨g, _⟩
                · rw [g] at ej
                  cases ej
                  exact (h2 _ g1).of s2
                · rw [g] at ej
                  cases ej
            · rw [if_neg (by omega)]
              exact hnx _ _ ⟨l, vs, v2, k, s2, contR_end hk (by omega), e4, hv, rfl⟩
        · rw [List.drop_zero] at e
          rw [Nat.zero_add]
          exact h2 j (st.1 j e)
end
end TX
/-! part W6 -/
/-! Items in one line. -/
namespace TX
open PySem PySem.Spec PyProof.Rows L2 NT RW4
/-- an f-string's parts, as one reading -/
def tJn (ts : List TE) : TE := fun σ H Q => tJs ts Str.empty σ H fun out H1 => Q (.str out) H1
theorem pe_jn {X : Cx} {v1 v2 : Expr} {rest : List Expr} {ts : List TE} {pos : Pos} (h : PJ X (v1 :: v2 :: rest) ts) : PE X (.JoinedStr (v1 :: v2 :: rest) pos) (tJn ts) := pe_joined h
/-- {x}: an int -/
def tFi (te : TE) : TE := fun σ H Q => te σ H fun x H1 => ∃ i : Int, x = .int i ∧ i.natAbs < 10 ^ 9 ∧ Q (.str (SX.S (intL i))) H1
theorem log_ok {n : Int} (h1 : n.natAbs < 10 ^ 9) : n.natAbs.log2 < 1920 := by
  by_cases hz : n.natAbs = 0
  · rw [hz]
    decide
  · have : n.natAbs.log2 < 30 := (Nat.log2_lt hz).mpr (Nat.lt_of_lt_of_le h1 (by decide))
    omega
theorem pe_fi {X : Cx} {e : Expr} {te : TE} {pos : Pos} (he : PE X e te) : PE X (.FormattedValue e (-1) none pos) (tFi te) := by
  refine ⟨fun pins s σ H Q I h => ?_⟩
  refine wpAny_FormattedValue_plain (thn (he.run pins s σ H _ I h) fun v s1 hv => ?_)
  obtain ⟨x, H1, I1, r1, q⟩ := hv
  obtain ⟨i, rfl, hz, q⟩ := q
  obtain ⟨t, rfl⟩ := r1
  rw [← intS] at q
  exact wpAny_formatField_int (log_ok hz) ⟨.str (toString i), H1, I1.tok _, ⟨_, rfl⟩, q⟩
local macro_rules | `(tactic| walk_at "go") => `(tactic| simp only [L2.start, List.map_cons, List.map_nil, List.length_cons, List.length_nil, Nat.reduceSub, Nat.reduceAdd, List.replicate_succ, List.replicate_zero, List.cons_append, List.nil_append, List.append_nil,
  tSeq, tNext, tRet, tIfS, tTest, tAnd, tOr, tNot, tCB, tCall, tCons, tNil, tVar, tC, tOp, tUn, tAsg, gName, rI0, rI, CMul, CDiv, tDGet, sDPut, tBM0, tBM, tTup, tLst, tPar, gTup, gNil, gCons, tIf, tAug, tRevL, tDisp, tPairs, tYes, wipe, tDrop, L2.tSl, tNotV, tAndV, tOrV, tB, rSlS, ipI, tNoPart, NdefX.startF, tOst, tMkO, rIxL, rIxT, rIxS, rAppend, rExtend, rPop, rSlL, rSetL, tPart, rEq, rNe, tFmt, tJn, tJs, tFi, ↓reduceIte, L2.gSub, ↓reduceIte,
  List.getElem?_cons_zero, List.getElem?_cons_succ, List.set_cons_zero, List.set_cons_succ, Option.some.injEq, V.int.injEq, V.str.injEq, V.ref.injEq, V.bl.injEq, exists_eq_left, exists_eq_left', exists_eq_right, exists_eq_right', exists_eq', true_and, and_true, decide_eq_true_eq, List.cons.injEq, reduceCtorEq, false_and, false_or, or_false, exists_false, exists_and_left, exists_and_right, and_assoc])
theorem strs_canLay : ∀ {ys : List (List Nat)}, (∀ y ∈ ys, ∀ c ∈ y, c < 0x110000) → PyData.canLayAll0 (ys.map fun y => PyData.str (SX.S y)) = true
  | [], _ => rfl
  | y :: ys, h => by
    have h1 : PyData.strOk (SX.S y) = true := by
      unfold PyData.strOk
      simp only [SX.S, List.all_toArray, List.all_eq_true, decide_eq_true_eq]
      exact h y List.mem_cons_self
    simp only [List.map_cons, PyData.canLayAll0, PyData.canLay0, h1, Bool.true_and]
    exact strs_canLay fun z hz => h z (List.mem_cons_of_mem _ hz)
theorem strs_depth : ∀ ys : List (List Nat), PyData.depthAll (ys.map fun y => PyData.str (SX.S y)) = 0
  | [] => rfl
  | y :: ys => by
    simp only [List.map_cons, PyData.depthAll, PyData.depth, strs_depth ys]
    rfl
theorem strs_shaped {ys : List (List Nat)} (h : ∀ y ∈ ys, ∀ c ∈ y, c < 0x110000) : SeqAt.shaped (.list (ys.map fun y => PyData.str (SX.S y))) = true := by
  unfold SeqAt.shaped
  simp only [PyData.canLay0, PyData.depth, strs_canLay h, strs_depth, Bool.true_and]
  rfl
theorem strs_dp {K : PySem.W.Frag} {H : Hp} : ∀ ys : List (List Nat), DpAll K H (ys.map fun y => V.str (SX.S y)) (ys.map fun y => PyData.str (SX.S y))
  | [] => .nil
  | y :: ys => .cons (.str _) (strs_dp ys)
theorem strs_eqv (ys : List (List Nat)) : PyData.eqv (.list (ys.map fun y => PyData.str (SX.S y))) (.list []) = decide (ys = []) := by
  cases ys with
  | nil => rfl
  | cons y ys => simp [PyData.eqv, PyData.eqvAll]
theorem joinL_wR (form : List Nat) (a : List Int) : ∀ l : List (List Int), TL.joinL [32] ((a :: l).map (wF form)) = wF form a ++ wR form l
  | [] => by simp [TL.joinL, wR]
  | b :: l => by
    have ih := joinL_wR form b l
    simp only [List.map_cons] at ih ⊢
    unfold TL.joinL
    rw [ih]
    rfl
theorem joinL_row (form : List Nat) (l : List (List Int)) : (if l.map (wF form) = [] then [45] else TL.joinL [32] (l.map (wF form))) = wRow form l := by
  cases l with
  | nil => rfl
  | cons a l =>
    rw [if_neg (by simp), joinL_wR]
    rfl
section
variable {w : World} {K : PySem.W.Frag} {mg : Str → Option Value} {base : Heap}
abbrev vS (y : List Nat) : V := .str (SX.S y)
def spIText : Sp := fun vs H Q E => ∃ (p : Addr) (ys : List (List Nat)), vs = [.ref p] ∧ H p = some (.lst (ys.map vS)) ∧ (∀ y ∈ ys, ∀ c ∈ y, c < 0x110000) ∧ ys.length ≤ 1000 ∧ (∀ y ∈ ys, y.length ≤ 1000) ∧
  (∀ H', Same H H' → Q (.str (SX.S (if ys = [] then [45] else TL.joinL [32] ys))) H')
theorem sum_le {ys : List (List Nat)} (h : ∀ y ∈ ys, y.length ≤ 1000) : (ys.map List.length).sum ≤ 1000 * ys.length := by
  induction ys with
  | nil => exact Nat.le_refl _
  | cons y ys ih =>
    rw [List.map_cons, List.sum_cons, List.length_cons]
    have a := h y List.mem_cons_self
    have b := ih fun z hz => h z (List.mem_cons_of_mem _ hz)
    omega
theorem ok_itext (T : Txt w K mg) : Ok PW w K mg base (L2.CX PW w) 1 "items_text" ["items"] spIText := by
  obtain ⟨f, fd, D⟩ := T.d_items_text
  refine ⟨f, fd, D.F.okX sc_items_text (fun vs H Q E h => ?_) (fun cdv A outer s H vs Q E hr h => ?_), D.g, D.F.kp, D.b⟩
  · obtain ⟨p, ys, rfl, _⟩ := h
    rfl
  · obtain ⟨p, ys, rfl, hp, hc, hl, hz, h⟩ := h
    have nd := sc_items_text.nd
    refine ⟨_, pss_cons (ps_if (pt_cmpR (op_eqD hr.units) (pv 0) (pe_lst pa_nil) (nomark _)) (pss_one (ps_ret pe_str)) pss_nil)
      (pss_one (ps_ret (pe_bm PySem.F.plainAttrs_str PySem.F.slot_str_join PySem.F.type_str_join mt_join pe_str (pa_cons (pv 0) pa_nil)))), ?_⟩
    walk_at "go"
    refine ⟨by decide, fun q hq => ?_⟩
    have pq : p ≠ q := ne_of_none hp hq
    have ep : (upd H q (.lst [])) p = some (.lst (ys.map vS)) := by rw [upd_ne pq]; exact hp
    refine ⟨_, _, .lst (.inl (.inl ep)) (strs_dp ys), .lst (.inl (.inl upd_same)) .nil, strs_shaped hc, by decide, _, rfl, ?_⟩
    rw [strs_eqv]
    have hh := h _ (same_new (o := .lst []) hq)
    by_cases he : ys = []
    · rw [if_pos he] at hh
      rw [decide_eq_true he, if_pos rfl]
      rw [show (Str.ofString "-") = SX.S [45] by decide +kernel]
      exact hh
    · rw [if_neg he] at hh
      rw [decide_eq_false he, if_neg (by decide)]
      have e32 : (Str.ofString " ") = SX.S [32] := by decide +kernel
      refine ⟨rfl, ys.map SX.S, .inl (.inl (.inl (by rw [List.map_map]; exact ep))), ?_, ?_⟩
      · have := sum_le hz
        rw [List.map_map, e32, List.length_map, S_len]
        show (List.map (fun y => (SX.S y).length) ys).sum + ys.length * 1 ≤ 16777216
        simp only [S_len]
        have e : (List.map (fun y => y.length) ys).sum = (List.map List.length ys).sum := rfl
        omega
      · rw [e32, SX.join_S]
        exact hh
end
end TX
/-! part W7 -/
/-! Rows written: cells, weights, joins. -/
namespace TX
open PySem PySem.Spec PyProof.Rows L2 NT RW4
local macro_rules | `(tactic| walk_at "go") => `(tactic| simp only [L2.start, List.map_cons, List.map_nil, List.length_cons, List.length_nil, Nat.reduceSub, Nat.reduceAdd, List.replicate_succ, List.replicate_zero, List.cons_append, List.nil_append, List.append_nil,
  tSeq, tNext, tRet, tIfS, tTest, tAnd, tOr, tNot, tCB, tCall, tCons, tNil, tVar, tC, tOp, tUn, tAsg, gName, rI0, rI, CMul, CDiv, tDGet, sDPut, tBM0, tBM, tTup, tLst, tPar, gTup, gNil, gCons, tIf, tAug, tRevL, tDisp, tPairs, tYes, wipe, tDrop, L2.tSl, tNotV, tAndV, tOrV, tB, rSlS, ipI, tNoPart, NdefX.startF, tOst, tMkO, rIxL, rIxT, rIxS, rAppend, rExtend, rPop, rSlL, rSetL, tPart, rEq, rNe, tFmt, tJn, tJs, tFi, ↓reduceIte, L2.gSub, ↓reduceIte,
  List.getElem?_cons_zero, List.getElem?_cons_succ, List.set_cons_zero, List.set_cons_succ, Option.some.injEq, V.int.injEq, V.str.injEq, V.ref.injEq, V.bl.injEq, exists_eq_left, exists_eq_left', exists_eq_right, exists_eq_right', exists_eq', true_and, and_true, decide_eq_true_eq, List.cons.injEq, reduceCtorEq, false_and, false_or, or_false, exists_false, exists_and_left, exists_and_right, and_assoc])
abbrev fC : List Nat := [122, 44, 122]
abbrev fW : List Nat := [122, 44, 122, 58, 110]
abbrev fJ : List Nat := [122, 44, 122, 43, 122, 44, 122]
def dC (ns : List Int) : PyData := .tuple (ns.map .int)
def dW : List Int → PyData
  | x :: y :: r => .tuple [dC [x, y], .int (r.headD 0)]
  | _ => .none
def dJ : List Int → PyData
  | x :: y :: r => .tuple [dC [x, y], dC r]
  | _ => .none
theorem okI_C {ns : List Int} (h : okI fC ns) : ∃ x y, ns = [x, y] ∧ okN 122 x ∧ okN 122 y := by
  unfold okI at h
  rw [if_pos (.inl rfl)] at h
  obtain ⟨x, r, rfl, hx, h⟩ := h
  unfold okI at h
  rw [if_neg (by unfold isN; decide)] at h
  unfold okI at h
  rw [if_pos (.inl rfl)] at h
  obtain ⟨y, r, rfl, hy, h⟩ := h
  unfold okI at h
  subst h
  exact ⟨x, y, rfl, hx, hy⟩
theorem okI_W {ns : List Int} (h : okI fW ns) : ∃ x y n, ns = [x, y, n] ∧ okN 122 x ∧ okN 122 y ∧ okN 110 n := by
  unfold okI at h
  rw [if_pos (.inl rfl)] at h
  obtain ⟨x, r, rfl, hx, h⟩ := h
  unfold okI at h
  rw [if_neg (by unfold isN; decide)] at h
  unfold okI at h
  rw [if_pos (.inl rfl)] at h
  obtain ⟨y, r, rfl, hy, h⟩ := h
  unfold okI at h
  rw [if_neg (by unfold isN; decide)] at h
  unfold okI at h
  rw [if_pos (.inr (.inl rfl))] at h
  obtain ⟨n, r, rfl, hn, h⟩ := h
  unfold okI at h
  subst h
  exact ⟨x, y, n, rfl, hx, hy, hn⟩
theorem okI_J {ns : List Int} (h : okI fJ ns) : ∃ x y u v, ns = [x, y, u, v] ∧ okN 122 x ∧ okN 122 y ∧ okN 122 u ∧ okN 122 v := by
  unfold okI at h
  rw [if_pos (.inl rfl)] at h
  obtain ⟨x, r, rfl, hx, h⟩ := h
  unfold okI at h
  rw [if_neg (by unfold isN; decide)] at h
  unfold okI at h
  rw [if_pos (.inl rfl)] at h
  obtain ⟨y, r, rfl, hy, h⟩ := h
  unfold okI at h
  rw [if_neg (by unfold isN; decide)] at h
  unfold okI at h
  rw [if_pos (.inl rfl)] at h
  obtain ⟨u, r, rfl, hu, h⟩ := h
  unfold okI at h
  rw [if_neg (by unfold isN; decide)] at h
  unfold okI at h
  rw [if_pos (.inl rfl)] at h
  obtain ⟨v, r, rfl, hv, h⟩ := h
  unfold okI at h
  subst h
  exact ⟨x, y, u, v, rfl, hx, hy, hu, hv⟩
theorem intL_lenL {x : Nat} {n : Int} (h : okN x n) : (intL n).length ≤ lim x + 1 := by
  have h1 := h.1
  unfold intL
  split
  · have hl : (TL.numL n.toNat).length ≤ lim x := TL.numL_len (lim_pos x) (by omega)
    omega
  · have hl : (TL.numL (-n).toNat).length ≤ lim x := TL.numL_len (lim_pos x) (by omega)
    rw [List.length_cons]
    omega
theorem intL_len {x : Nat} {n : Int} (h : okN x n) (hz : lim x = 9 := by rfl) : (intL n).length ≤ 10 := by
  have := intL_lenL h
  omega
theorem intL_lt (n : Int) : ∀ c ∈ intL n, c < 0x110000 := by
  have q : ∀ m : Nat, ∀ c ∈ TL.numL m, c < 0x110000 := fun m c hc => by
    have z := numL_dg m c hc
    unfold dg at z
    simp only [Bool.and_eq_true, decide_eq_true_eq] at z
    omega
  intro c hc
  unfold intL at hc
  split at hc
  · exact q _ c hc
  · rcases List.mem_cons.mp hc with rfl | hc
    · decide
    · exact q _ c hc
theorem wF_lt : ∀ {f : List Nat} {ns : List Int}, (∀ c ∈ f, c < 0x110000) → ∀ c ∈ wF f ns, c < 0x110000
  | [], ns, _, c, hc => by
    unfold wF at hc
    cases hc
  | x :: fs, ns, hf, c, hc => by
    unfold wF at hc
    split at hc
    · cases ns with
      | nil => cases hc
      | cons n r =>
        rcases List.mem_append.mp hc with hc | hc
        · exact intL_lt n c hc
        · exact wF_lt (fun c hc => hf c (List.mem_cons_of_mem _ hc)) c hc
    · rcases List.mem_cons.mp hc with rfl | hc
      · exact hf _ List.mem_cons_self
      · exact wF_lt (fun c hc => hf c (List.mem_cons_of_mem _ hc)) c hc
theorem wF_C (x y : Int) : wF fC [x, y] = intL x ++ (44 :: intL y) := by
  simp [wF, isN]
theorem wF_W (x y n : Int) : wF fW [x, y, n] = intL x ++ (44 :: (intL y ++ (58 :: intL n))) := by
  simp [wF, isN]
theorem wF_J (x y u v : Int) : wF fJ [x, y, u, v] = intL x ++ (44 :: (intL y ++ (43 :: (intL u ++ (44 :: intL v))))) := by
  simp [wF, isN]
section
variable {w : World} {K : PySem.W.Frag} {mg : Str → Option Value} {base : Heap}
def spRowText (form : List Nat) (d : List Int → PyData) : Sp := fun vs H Q E => ∃ (v : V) (l : List (List Int)), vs = [v] ∧ At No H (.tuple (l.map d)) v ∧ l.length ≤ 1000 ∧ (∀ a ∈ l, okI form a) ∧ (∀ H', Same H H' → Q (.str (SX.S (wRow form l))) H')
theorem row_end {H H1 : Hp} {Q : VK} {E : XK} {form : List Nat} {l : List (List Int)} {D : Addr} (hf : ∀ c ∈ form, c < 0x110000) (hz : ∀ a ∈ l, (wF form a).length ≤ 1000) (hl : l.length ≤ 1000) (sm : Same H H1)
    (eD : H1 D = some (.lst ((l.take l.length).map fun a => vS (wF form a)))) (h : ∀ H', Same H H' → Q (.str (SX.S (wRow form l))) H') : spIText [.ref D] H1 Q E := by
  refine ⟨D, l.map (wF form), rfl, ?_, ?_, by rw [List.length_map]; exact hl, ?_, fun H' s => ?_⟩
  · rw [eD, List.take_length, List.map_map]
    rfl
  · intro y hy
    obtain ⟨a, _, rfl⟩ := List.mem_map.mp hy
    exact wF_lt hf
  · intro y hy
    obtain ⟨a, ha, rfl⟩ := List.mem_map.mp hy
    exact hz a ha
  · rw [joinL_row]
    exact h _ (sm.trans s)
theorem take_snoc {α β : Type} {l : List α} {i : Nat} {a : α} (h : l[i]? = some a) (g : α → β) : (l.take (i + 1)).map g = (l.take i).map g ++ [g a] := by
  rw [List.take_succ, h, List.map_append]
  rfl
theorem okC_len {a : List Int} (h : okI fC a) : (wF fC a).length ≤ 1000 := by
  obtain ⟨x, y, rfl, hx, hy⟩ := okI_C h
  have := intL_len hx
  have := intL_len hy
  rw [wF_C]
  simp only [List.length_append, List.length_cons]
  omega
theorem okW_len {a : List Int} (h : okI fW a) : (wF fW a).length ≤ 1000 := by
  obtain ⟨x, y, n, rfl, hx, hy, hn⟩ := okI_W h
  have := intL_len hx
  have := intL_len hy
  have := intL_len hn
  rw [wF_W]
  simp only [List.length_append, List.length_cons]
  omega
theorem okJ_len {a : List Int} (h : okI fJ a) : (wF fJ a).length ≤ 1000 := by
  obtain ⟨x, y, u, v, rfl, hx, hy, hu, hv⟩ := okI_J h
  have := intL_len hx
  have := intL_len hy
  have := intL_len hu
  have := intL_len hv
  rw [wF_J]
  simp only [List.length_append, List.length_cons]
  omega
theorem small_S {X : List Nat} (h : X.length ≤ 1000) : (SX.S X).length ≤ sizeLine := by
  rw [S_len]
  exact small_sz h (by decide)
theorem row_step {H H2 : Hp} {form : List Nat} {l : List (List Int)} {i : Nat} {a : List Int} {D : Addr} {z : Str} (hz : z = SX.S (wF form a)) (hl : l.length ≤ 1000) (hli : l[i]? = some a) (sm : Same H H2) (hD : H D = none)
    (eD : H2 D = some (.lst ((l.take i).map fun a => vS (wF form a)))) : ∃ acc, H2 D = some (.lst acc) ∧ acc.length < sizeLine ∧ Same H (upd H2 D (.lst (acc ++ [.str z]))) ∧ upd H2 D (.lst (acc ++ [.str z])) D = some (.lst ((l.take (i + 1)).map fun a => vS (wF form a))) := by
  subst hz
  refine ⟨_, eD, ?_, fun b o hb => ?_, ?_⟩
  · rw [List.length_map, List.length_take]
    exact small_lt (m := 1000) (by omega) (by decide)
  · rw [upd_ne (ne_of_none hb hD)]
    exact sm _ _ hb
  · rw [upd_same, take_snoc hli]
theorem ok_cellsText (T : Txt w K mg) : Ok PW w K mg base (L2.CX PW w) 2 "cells_text" ["cells"] (spRowText fC dC) := by
  obtain ⟨f, fd, D⟩ := T.d_cells_text
  refine ⟨f, fd, D.F.okX sc_cells_text (fun vs H Q E h => ?_) (fun cdv A outer s H vs Q E hr h => ?_), D.g, D.F.kp, D.b⟩
  · obtain ⟨v, l, rfl, _⟩ := h
    rfl
  · obtain ⟨v, l, rfl, hv, hl, hok, h⟩ := h
    obtain ⟨a, xs, rfl, _, ea, hxs⟩ := hv.tup
    have nd := sc_cells_text.nd
    refine ⟨_, pss_one (ps_ret (pe_d (E := E) (ok_itext T) hr (passes_call (takes_of rfl rfl rfl rfl) (fun _ _ _ _ z => z)) (pa_cons
      (pe_lc (own := [("x", 1), ("y", 2)]) (g := gTup K 2 (gCons (gName 1) (gCons (gName 2) gNil))) (tt := tYes) rfl nd (pi_tup (pv 0)) (blkOk_by (N := n_cells_text) (sc := defScope s_cells_text) (by decide +kernel))
        (fun _ _ _ _ _ => pg_tup (by rfl) (pgs_cons (pg_name (i := 1) nd rfl (.inl rfl)) (pgs_cons (pg_name (i := 2) nd rfl (.inl rfl)) pgs_nil))) (fun _ _ _ _ _ => pts_nil)
        (fun _ _ _ _ _ => pe_jn (PJ.cons (pe_fi (pv 1)) (PJ.cons pe_str (PJ.cons (pe_fi (pv 2)) PJ.nil))))) pa_nil))), ?_⟩
    walk_at "go"
    refine ⟨_, rfl, a, rfl, ⟨xs, .inl (.inl ea)⟩, fun D hD => lc_it walk_tup (fun i H' => Same H H' ∧ H' D = some (.lst ((l.take i).map fun a => vS (wF fC a)))) ⟨same_new hD, upd_same⟩ (fun i H' _ ⟨sm, _⟩ => .inl (.inl (sm _ _ ea))) ?_ ?_⟩
    · rintro i x H1 H2 hi ⟨sm, eD⟩ ⟨rfl, hx⟩
      have hil : i < l.length := by
        have := hxs.length
        rw [List.length_map] at this
        omega
      obtain ⟨v, hv2, hat⟩ := hxs.get (i := i) (d := dC l[i]) (by rw [List.getElem?_map, List.getElem?_eq_getElem hil]; rfl)
      rw [hv2] at hx
      cases hx
      obtain ⟨x, y, e, hx, hy⟩ := okI_C (hok _ (List.getElem_mem hil))
      have hli : l[i]? = some [x, y] := by rw [List.getElem?_eq_getElem hil, e]
      rw [e] at hat
      obtain ⟨p, xs2, rfl, _, ep, h2⟩ := hat.tup
      obtain ⟨v1, r1, rfl, a1, h2⟩ := h2.cons
      obtain ⟨v2, r2, rfl, a2, h2⟩ := h2.cons
      obtain rfl := h2.nil
      obtain rfl := a1.int
      obtain rfl := a2.int
      walk_at "go"
      refine ⟨_, .inl (.inl (sm _ _ ep)), rfl, _, _, rfl, _, _, rfl, rfl, ?_⟩
      have e0 : Str.empty = SX.S [] := rfl
      have e44 : (Str.ofString ",") = SX.S [44] := by decide +kernel
      have l1 := intL_len hx
      have l2 := intL_len hy
      rw [e0, e44]
      refine ⟨x, rfl, hx.1, ?_, ?_, y, rfl, hy.1, ?_, row_step ?_ hl hli sm hD eD⟩
      · simp only [SX.S_cat]
        exact small_S (by simp only [List.length_append, List.length_cons, List.length_nil]; omega)
      · simp only [SX.S_cat]
        exact small_S (by simp only [List.length_append, List.length_cons, List.length_nil]; omega)
      · simp only [SX.S_cat]
        exact small_S (by simp only [List.length_append, List.length_cons, List.length_nil]; omega)
      · simp only [SX.S_cat]
        rw [wF_C]
        simp
    · rintro H1 ⟨sm, eD⟩
      refine row_end (form := fC) (by decide) (fun a ha => okC_len (hok a ha)) hl sm ?_ h
      rw [hxs.length, List.length_map] at eD
      exact eD
end
end TX
/-! part W8 -/
/-! Rows written: weights, joins. -/
namespace TX
open PySem PySem.Spec PyProof.Rows L2 NT RW4
local macro_rules | `(tactic| walk_at "go") => `(tactic| simp only [L2.start, List.map_cons, List.map_nil, List.length_cons, List.length_nil, Nat.reduceSub, Nat.reduceAdd, List.replicate_succ, List.replicate_zero, List.cons_append, List.nil_append, List.append_nil,
  tSeq, tNext, tRet, tIfS, tTest, tAnd, tOr, tNot, tCB, tCall, tCons, tNil, tVar, tC, tOp, tUn, tAsg, gName, rI0, rI, CMul, CDiv, tDGet, sDPut, tBM0, tBM, tTup, tLst, tPar, gTup, gNil, gCons, tIf, tAug, tRevL, tDisp, tPairs, tYes, wipe, tDrop, L2.tSl, tNotV, tAndV, tOrV, tB, rSlS, ipI, tNoPart, NdefX.startF, tOst, tMkO, rIxL, rIxT, rIxS, rAppend, rExtend, rPop, rSlL, rSetL, tPart, rEq, rNe, tFmt, tJn, tJs, tFi, ↓reduceIte, L2.gSub, ↓reduceIte,
  List.getElem?_cons_zero, List.getElem?_cons_succ, List.set_cons_zero, List.set_cons_succ, Option.some.injEq, V.int.injEq, V.str.injEq, V.ref.injEq, V.bl.injEq, exists_eq_left, exists_eq_left', exists_eq_right, exists_eq_right', exists_eq', true_and, and_true, decide_eq_true_eq, List.cons.injEq, reduceCtorEq, false_and, false_or, or_false, exists_false, exists_and_left, exists_and_right, and_assoc])
section
variable {w : World} {K : PySem.W.Frag} {mg : Str → Option Value} {base : Heap}
theorem ok_weightsText (T : Txt w K mg) : Ok PW w K mg base (L2.CX PW w) 2 "weights_text" ["pairs"] (spRowText fW dW) := by
  obtain ⟨f, fd, D⟩ := T.d_weights_text
  refine ⟨f, fd, D.F.okX sc_weights_text (fun vs H Q E h => ?_) (fun cdv A outer s H vs Q E hr h => ?_), D.g, D.F.kp, D.b⟩
  · obtain ⟨v, l, rfl, _⟩ := h
    rfl
  · obtain ⟨v, l, rfl, hv, hl, hok, h⟩ := h
    obtain ⟨a, xs, rfl, _, ea, hxs⟩ := hv.tup
    have nd := sc_weights_text.nd
    refine ⟨_, pss_one (ps_ret (pe_d (E := E) (ok_itext T) hr (passes_call (takes_of rfl rfl rfl rfl) (fun _ _ _ _ z => z)) (pa_cons
      (pe_lc (own := [("weight", 1), ("x", 2), ("y", 3)]) (g := gTup K 2 (gCons (gTup K 2 (gCons (gName 2) (gCons (gName 3) gNil))) (gCons (gName 1) gNil))) (tt := tYes) rfl nd (pi_tup (pv 0)) (blkOk_by (N := n_weights_text) (sc := defScope s_weights_text) (by decide +kernel))
        (fun _ _ _ _ _ => pg_tup (by rfl) (pgs_cons (pg_tup (by rfl) (pgs_cons (pg_name (i := 2) nd rfl (.inl rfl)) (pgs_cons (pg_name (i := 3) nd rfl (.inl rfl)) pgs_nil))) (pgs_cons (pg_name (i := 1) nd rfl (.inl rfl)) pgs_nil))) (fun _ _ _ _ _ => pts_nil)
        (fun _ _ _ _ _ => pe_jn (PJ.cons (pe_fi (pv 2)) (PJ.cons pe_str (PJ.cons (pe_fi (pv 3)) (PJ.cons pe_str (PJ.cons (pe_fi (pv 1)) PJ.nil))))))) pa_nil))), ?_⟩
    walk_at "go"
    refine ⟨_, rfl, a, rfl, ⟨xs, .inl (.inl ea)⟩, fun D hD => lc_it walk_tup (fun i H' => Same H H' ∧ H' D = some (.lst ((l.take i).map fun a => vS (wF fW a)))) ⟨same_new hD, upd_same⟩ (fun i H' _ ⟨sm, _⟩ => .inl (.inl (sm _ _ ea))) ?_ ?_⟩
    · rintro i x H1 H2 hi ⟨sm, eD⟩ ⟨rfl, hx⟩
      have hil : i < l.length := by
        have := hxs.length
        rw [List.length_map] at this
        omega
      obtain ⟨v, hv2, hat⟩ := hxs.get (i := i) (d := dW l[i]) (by rw [List.getElem?_map, List.getElem?_eq_getElem hil]; rfl)
      rw [hv2] at hx
      cases hx
      obtain ⟨x, y, n, e, hx, hy, hn⟩ := okI_W (hok _ (List.getElem_mem hil))
      have hli : l[i]? = some [x, y, n] := by rw [List.getElem?_eq_getElem hil, e]
      rw [e] at hat
      obtain ⟨p, xs2, rfl, _, ep, h2⟩ := hat.tup
      obtain ⟨v1, r1, rfl, a1, h2⟩ := h2.cons
      obtain ⟨v2, r2, rfl, a2, h2⟩ := h2.cons
      obtain rfl := h2.nil
      obtain rfl := a2.int
      obtain ⟨p1, xs3, rfl, _, ep1, h3⟩ := a1.tup
      obtain ⟨v1, r1, rfl, a1, h3⟩ := h3.cons
      obtain ⟨v2, r2, rfl, a2, h3⟩ := h3.cons
      obtain rfl := h3.nil
      obtain rfl := a1.int
      obtain rfl := a2.int
      walk_at "go"
      refine ⟨_, .inl (.inl (sm _ _ ep)), rfl, _, _, rfl, _, rfl, _, .inl (.inl (sm _ _ ep1)), rfl, _, _, rfl, _, _, rfl, rfl, _, _, rfl, rfl, ?_⟩
      have e0 : Str.empty = SX.S [] := rfl
      have e44 : (Str.ofString ",") = SX.S [44] := by decide +kernel
      have e58 : (Str.ofString ":") = SX.S [58] := by decide +kernel
      have l1 := intL_len hx
      have l2 := intL_len hy
      have l3 := intL_len hn
      rw [e0, e44, e58]
      refine ⟨x, rfl, hx.1, ?_, ?_, y, rfl, hy.1, ?_, ?_, n, rfl, hn.1, ?_, row_step ?_ hl hli sm hD eD⟩ <;> simp only [SX.S_cat]
      all_goals first
        | exact small_S (by simp only [List.length_append, List.length_cons, List.length_nil]; omega)
        | (rw [wF_W]; simp)
    · rintro H1 ⟨sm, eD⟩
      refine row_end (form := fW) (by decide) (fun a ha => okW_len (hok a ha)) hl sm ?_ h
      rw [hxs.length, List.length_map] at eD
      exact eD
theorem ok_joinsText (T : Txt w K mg) : Ok PW w K mg base (L2.CX PW w) 2 "joins_text" ["joins"] (spRowText fJ dJ) := by
  obtain ⟨f, fd, D⟩ := T.d_joins_text
  refine ⟨f, fd, D.F.okX sc_joins_text (fun vs H Q E h => ?_) (fun cdv A outer s H vs Q E hr h => ?_), D.g, D.F.kp, D.b⟩
  · obtain ⟨v, l, rfl, _⟩ := h
    rfl
  · obtain ⟨v, l, rfl, hv, hl, hok, h⟩ := h
    obtain ⟨a, xs, rfl, _, ea, hxs⟩ := hv.tup
    have nd := sc_joins_text.nd
    refine ⟨_, pss_one (ps_ret (pe_d (E := E) (ok_itext T) hr (passes_call (takes_of rfl rfl rfl rfl) (fun _ _ _ _ z => z)) (pa_cons
      (pe_lc (own := [("x", 1), ("y", 2), ("u", 3), ("v", 4)]) (g := gTup K 2 (gCons (gTup K 2 (gCons (gName 1) (gCons (gName 2) gNil))) (gCons (gTup K 2 (gCons (gName 3) (gCons (gName 4) gNil))) gNil))) (tt := tYes) rfl nd (pi_tup (pv 0)) (blkOk_by (N := n_joins_text) (sc := defScope s_joins_text) (by decide +kernel))
        (fun _ _ _ _ _ => pg_tup (by rfl) (pgs_cons (pg_tup (by rfl) (pgs_cons (pg_name (i := 1) nd rfl (.inl rfl)) (pgs_cons (pg_name (i := 2) nd rfl (.inl rfl)) pgs_nil))) (pgs_cons (pg_tup (by rfl) (pgs_cons (pg_name (i := 3) nd rfl (.inl rfl)) (pgs_cons (pg_name (i := 4) nd rfl (.inl rfl)) pgs_nil))) pgs_nil))) (fun _ _ _ _ _ => pts_nil)
        (fun _ _ _ _ _ => pe_jn (PJ.cons (pe_fi (pv 1)) (PJ.cons pe_str (PJ.cons (pe_fi (pv 2)) (PJ.cons pe_str (PJ.cons (pe_fi (pv 3)) (PJ.cons pe_str (PJ.cons (pe_fi (pv 4)) PJ.nil))))))))) pa_nil))), ?_⟩
    walk_at "go"
    refine ⟨_, rfl, a, rfl, ⟨xs, .inl (.inl ea)⟩, fun D hD => lc_it walk_tup (fun i H' => Same H H' ∧ H' D = some (.lst ((l.take i).map fun a => vS (wF fJ a)))) ⟨same_new hD, upd_same⟩ (fun i H' _ ⟨sm, _⟩ => .inl (.inl (sm _ _ ea))) ?_ ?_⟩
    · rintro i x H1 H2 hi ⟨sm, eD⟩ ⟨rfl, hx⟩
      have hil : i < l.length := by
        have := hxs.length
        rw [List.length_map] at this
        omega
      obtain ⟨v, hv2, hat⟩ := hxs.get (i := i) (d := dJ l[i]) (by rw [List.getElem?_map, List.getElem?_eq_getElem hil]; rfl)
      rw [hv2] at hx
      cases hx
      obtain ⟨x, y, u, v, e, hx, hy, hu, hv⟩ := okI_J (hok _ (List.getElem_mem hil))
      have hli : l[i]? = some [x, y, u, v] := by rw [List.getElem?_eq_getElem hil, e]
      rw [e] at hat
      obtain ⟨p, xs2, rfl, _, ep, h2⟩ := hat.tup
      obtain ⟨v1, r1, rfl, a1, h2⟩ := h2.cons
      obtain ⟨v2, r2, rfl, a2, h2⟩ := h2.cons
      obtain rfl := h2.nil
      obtain ⟨p2, xs4, rfl, _, ep2, h4⟩ := a2.tup
      obtain ⟨v1, r1, rfl, b1, h4⟩ := h4.cons
      obtain ⟨v2, r2, rfl, b2, h4⟩ := h4.cons
      obtain rfl := h4.nil
      obtain rfl := b1.int
      obtain rfl := b2.int
      obtain ⟨p1, xs3, rfl, _, ep1, h3⟩ := a1.tup
      obtain ⟨v1, r1, rfl, a1, h3⟩ := h3.cons
      obtain ⟨v2, r2, rfl, a2, h3⟩ := h3.cons
      obtain rfl := h3.nil
      obtain rfl := a1.int
      obtain rfl := a2.int
      walk_at "go"
      refine ⟨_, .inl (.inl (sm _ _ ep)), rfl, _, _, rfl, _, rfl, _, .inl (.inl (sm _ _ ep1)), rfl, _, _, rfl, _, _, rfl, rfl, _, _, rfl, _, rfl, _, .inl (.inl (sm _ _ ep2)), rfl, _, _, rfl, _, _, rfl, rfl, rfl, ?_⟩
      have e0 : Str.empty = SX.S [] := rfl
      have e44 : (Str.ofString ",") = SX.S [44] := by decide +kernel
      have e58 : (Str.ofString ":") = SX.S [58] := by decide +kernel
      have l1 := intL_len hx
      have l2 := intL_len hy
      have l3 := intL_len hu
      have l4 := intL_len hv
      have e43 : (Str.ofString "+") = SX.S [43] := by decide +kernel
      rw [e0, e44, e43]
      refine ⟨x, rfl, hx.1, ?_, ?_, y, rfl, hy.1, ?_, ?_, u, rfl, hu.1, ?_, ?_, v, rfl, hv.1, ?_, row_step ?_ hl hli sm hD eD⟩ <;> simp only [SX.S_cat]
      all_goals first
        | exact small_S (by simp only [List.length_append, List.length_cons, List.length_nil]; omega)
        | (rw [wF_J]; simp)
    · rintro H1 ⟨sm, eD⟩
      refine row_end (form := fJ) (by decide) (fun a ha => okJ_len (hok a ha)) hl sm ?_ h
      rw [hxs.length, List.length_map] at eD
      exact eD
end
end TX
/-! part M5 -/
/-! What is read keeps the bounds. -/
namespace RW4
open PySem PySem.NumText L2
theorem dv_app (a : List Nat) (c : Nat) : digitsVal (a ++ [c]) = digitsVal a * 10 + (c - 48) := by
  unfold digitsVal
  rw [List.foldl_append]
  rfl
theorem dv_lt : ∀ (k : Nat) (l : List Nat), l.length = k → (∀ c ∈ l, dg c = true) → digitsVal l < 10 ^ k := by
  intro k
  induction k with
  | zero =>
    intro l hl _
    rw [List.length_eq_zero_iff.mp hl]
    decide
  | succ k ih =>
    intro l hl h
    have hne : l ≠ [] := by
      intro z
      rw [z] at hl
      cases hl
    have e := List.dropLast_concat_getLast hne
    have h1 := ih l.dropLast (by rw [List.length_dropLast, hl]; rfl) fun c hc => h c (List.dropLast_subset l hc)
    have h2 := h _ (List.getLast_mem hne)
    unfold dg at h2
    simp only [Bool.and_eq_true, decide_eq_true_eq] at h2
    rw [← e, dv_app, Nat.pow_succ]
    omega
theorem valL (x : Nat) (s : List Nat) : (val (runL x s)).natAbs < 10 ^ lim x := by
  have h := dv_lt _ (runL x s) rfl (runL_dg x s)
  have h2 := runL_lim x s
  unfold val
  rw [Int.natAbs_natCast]
  exact Nat.lt_of_lt_of_le h (Nat.pow_le_pow_right (by decide) h2)
theorem num_ok {x : Nat} {s : List Nat} {n : Int} {k : Nat} (h : numS x s = .ok (n, k)) : n.natAbs < 10 ^ lim x := by
  cases s with
  | nil => cases h
  | cons c r =>
    unfold numS at h
    dsimp only at h
    split at h
    · cases r with
      | nil => cases h
      | cons e r' =>
        dsimp only at h
        split at h
        · cases h
          rw [Int.natAbs_neg]
          exact valL x _
        · cases h
    · split at h
      · cases h
        exact Nat.pow_pos (by decide)
      · split at h
        · cases h
          exact valL x _
        · cases h
theorem form_ok : ∀ {f s : List Nat} {ns : List Int} {k : Nat}, formS f s = .ok (ns, k) → okI f ns
  | [], s, ns, k, h => by
    unfold formS at h
    cases h
    rfl
  | x :: fs, s, ns, k, h => by
    unfold formS at h
    unfold okI
    by_cases hx : isN x
    · rw [if_pos hx] at h ⊢
      cases e : numS x s with
      | error j =>
        rw [e] at h
        cases h
      | ok p =>
        obtain ⟨n, j⟩ := p
        rw [e] at h
        dsimp only at h
        cases e2 : formS fs (s.drop j) with
        | error i =>
          rw [e2] at h
          cases h
        | ok q =>
          obtain ⟨ms, i⟩ := q
          rw [e2] at h
          cases h
          exact ⟨n, ms, rfl, ⟨num_ok e, (num_back e).2.1⟩, form_ok e2⟩
    · rw [if_neg hx] at h ⊢
      cases e : litS x s with
      | error j =>
        rw [e] at h
        cases h
      | ok j =>
        rw [e] at h
        dsimp only at h
        cases e2 : formS fs (s.drop j) with
        | error i =>
          rw [e2] at h
          cases h
        | ok q =>
          obtain ⟨ms, i⟩ := q
          rw [e2] at h
          cases h
          exact form_ok e2
theorem rest_ok {form : List Nat} : ∀ {m : Nat} {s : List Nat} {l : List (List Int)}, restS form m s = .ok l → ∀ a ∈ l, okI form a
  | 0, s, l, h => by cases h
  | m + 1, [], l, h => by
    unfold restS at h
    cases h
    intro a ha
    cases ha
  | m + 1, c :: r, l, h => by
    unfold restS at h
    split at h
    · cases e : formS form r with
      | error j =>
        rw [e] at h
        cases h
      | ok p =>
        obtain ⟨ns, j⟩ := p
        rw [e] at h
        dsimp only at h
        cases e2 : restS form m (r.drop j) with
        | error i =>
          rw [e2] at h
          cases h
        | ok q =>
          rw [e2] at h
          cases h
          intro a ha
          rcases List.mem_cons.mp ha with rfl | ha
          · exact form_ok e
          · exact rest_ok e2 a ha
    · cases h
theorem items_ok {form s : List Nat} {l : List (List Int)} (h : itemsS form s = .ok l) : ∀ a ∈ l, okI form a := by
  unfold itemsS at h
  split at h
  · cases h
    intro a ha
    cases ha
  · cases e : formS form s with
    | error j =>
      rw [e] at h
      cases h
    | ok p =>
      obtain ⟨ns, j⟩ := p
      rw [e] at h
      dsimp only at h
      cases e2 : restS form (s.length + 1) (s.drop j) with
      | error i =>
        rw [e2] at h
        cases h
      | ok q =>
        rw [e2] at h
        cases h
        intro a ha
        rcases List.mem_cons.mp ha with rfl | ha
        · exact form_ok e
        · exact rest_ok e2 a ha
end RW4
/-! part W9 -/
/-! Rows read: cells, weights, joins. -/
namespace TX
open PySem PySem.Spec PyProof.Rows L2 NT RW4
local macro_rules | `(tactic| walk_at "go") => `(tactic| simp only [L2.start, List.map_cons, List.map_nil, List.length_cons, List.length_nil, Nat.reduceSub, Nat.reduceAdd, List.replicate_succ, List.replicate_zero, List.cons_append, List.nil_append, List.append_nil,
  tSeq, tNext, tRet, tIfS, tTest, tAnd, tOr, tNot, tCB, tCall, tCons, tNil, tVar, tC, tOp, tUn, tAsg, gName, rI0, rI, CMul, CDiv, tDGet, sDPut, tBM0, tBM, tTup, tLst, tPar, gTup, gNil, gCons, tIf, tAug, tRevL, tDisp, tPairs, tYes, wipe, tDrop, L2.tSl, tNotV, tAndV, tOrV, tB, rSlS, ipI, tNoPart, NdefX.startF, tOst, tMkO, rIxL, rIxT, rIxS, rAppend, rExtend, rPop, rSlL, rSetL, tPart, rEq, rNe, tFmt, tJn, tJs, tFi, gLst, tThen, ↓reduceIte, L2.gSub, ↓reduceIte,
  List.getElem?_cons_zero, List.getElem?_cons_succ, List.set_cons_zero, List.set_cons_succ, Option.some.injEq, V.int.injEq, V.str.injEq, V.ref.injEq, V.bl.injEq, exists_eq_left, exists_eq_left', exists_eq_right, exists_eq_right', exists_eq', true_and, and_true, decide_eq_true_eq, List.cons.injEq, reduceCtorEq, false_and, false_or, or_false, exists_false, exists_and_left, exists_and_right, and_assoc])
section
variable {w : World} {K : PySem.W.Frag} {mg : Str → Option Value} {base : Heap}
def spRead (K : PySem.W.Frag) (C : Addr) (F : List Nat) (d : List Int → PyData) : Sp := fun vs H Q E => ∃ (v : V), vs = [v] ∧
  ((IsTx K H v false ∧ Bad C E H 0) ∨ ∃ X : List Nat, v = .str (SX.S X) ∧ X.length ≤ 100000 ∧
    (∀ l, itemsS F X = .ok l → (∀ a ∈ l, okI F a) → ∀ a H', Same H H' → At (fun b => H b ≠ none) H' (.tuple (l.map d)) a → Q a H') ∧ (∀ j, itemsS F X = .error j → Bad C E H (j : Nat)))
theorem restS_len {form : List Nat} : ∀ {m : Nat} {s : List Nat} {l : List (List Int)}, restS form m s = .ok l → l.length ≤ m
  | 0, s, l, h => by cases h
  | m + 1, [], l, h => by
    unfold restS at h
    cases h
    exact Nat.zero_le _
  | m + 1, c :: r, l, h => by
    unfold restS at h
    split at h
    · cases e : formS form r with
      | error j =>
        rw [e] at h
        cases h
      | ok p =>
        obtain ⟨ns, j⟩ := p
        rw [e] at h
        dsimp only at h
        cases e2 : restS form m (r.drop j) with
        | error i =>
          rw [e2] at h
          cases h
        | ok q =>
          rw [e2] at h
          cases h
          exact Nat.succ_le_succ (restS_len e2)
    · cases h
theorem items_len {form s : List Nat} {l : List (List Int)} (h : itemsS form s = .ok l) : l.length ≤ s.length + 2 := by
  unfold itemsS at h
  split at h
  · cases h
    exact Nat.zero_le _
  · cases e : formS form s with
    | error j =>
      rw [e] at h
      cases h
    | ok p =>
      obtain ⟨ns, j⟩ := p
      rw [e] at h
      dsimp only at h
      cases e2 : restS form (s.length + 1) (s.drop j) with
      | error i =>
        rw [e2] at h
        cases h
      | ok q =>
        rw [e2] at h
        cases h
        exact Nat.succ_le_succ (restS_len e2)
theorem read_end {H H1 : Hp} {Q : VK} {l : List (List Int)} {d : List Int → PyData} {D : Addr} {vs : List V} (h : ∀ a H', Same H H' → At (fun b => H b ≠ none) H' (.tuple (l.map d)) a → Q a H') (sm : Same H H1)
    (eD : H1 D = some (.lst vs)) (hv : AtL (fun b => H b ≠ none ∨ b = D) H1 ((l.take l.length).map d) vs) : kTup K (.ref D) H1 Q := by
  refine .inl ⟨D, vs, rfl, .inl (.inl eD), fun q hq => ?_⟩
  rw [List.take_length] at hv
  exact h _ _ (sm.trans (same_new hq)) (at_tup (fun z => z (sm.free hq)) upd_same ((hv.off fun b o _ z => .inl z).kp (Kp.upd_new hq)))
theorem read_step {H H1 H2 : Hp} {l : List (List Int)} {d : List Int → PyData} {D : Addr} {vs : List V} {i : Nat} {a : List Int} {v : V} (hl : l.length ≤ 100002) (hli : l[i]? = some a) (sm1 : Same H1 H2) (hD1 : H1 D = none) (sm : Same H H2) (hD : H D = none) (eD : H2 D = some (.lst vs))
    (hv : AtL (fun b => H b ≠ none ∨ b = D) H2 ((l.take i).map d) vs) (ha : At (fun b => H b ≠ none ∨ b = D) H2 (d a) v) :
    ∃ acc, H2 D = some (.lst acc) ∧ acc.length < sizeLine ∧ Same H1 (upd H2 D (.lst (acc ++ [v]))) ∧ Same H (upd H2 D (.lst (acc ++ [v]))) ∧ ∃ vs, upd H2 D (.lst (acc ++ [v])) D = some (.lst vs) ∧ AtL (fun b => H b ≠ none ∨ b = D) (upd H2 D (.lst (acc ++ [v]))) ((l.take (i + 1)).map d) vs := by
  refine ⟨_, eD, ?_, fun b o hb => ?_, fun b o hb => ?_, _, upd_same, ?_⟩
  · rw [hv.length, List.length_map, List.length_take]
    exact small_lt (m := 100002) (by omega) (by decide)
  · rw [upd_ne (ne_of_none hb hD1)]
    exact sm1 _ _ hb
  · rw [upd_ne (ne_of_none hb hD)]
    exact sm _ _ hb
  · rw [take_snoc hli]
    exact (hv.kp (Kp.upd_in (.inr rfl))).snoc (ha.kp (Kp.upd_in (.inr rfl)))
theorem ok_readCells (T : Txt w K mg) {C R fI cc : Addr} (B : BadC K mg C R fI cc) : Ok PW w K mg base (L2.CX PW w) 8 "read_cells" ["text"] (spRead K C fC dC) := by
  obtain ⟨f, fd, D⟩ := T.d_read_cells
  refine ⟨f, fd, D.F.okX sc_read_cells (fun vs H Q E h => ?_) (fun cdv A outer s H vs Q E hr h => ?_), D.g, D.F.kp, D.b⟩
  · obtain ⟨v, rfl, _⟩ := h
    rfl
  · obtain ⟨v, rfl, h⟩ := h
    have nd := sc_read_cells.nd
    refine ⟨_, pss_one (ps_ret (pe_tupleOf (by rfl) T.z_tuple
      (pe_lc (own := [("x", 1), ("y", 2)]) (g := gLst K 2 (gCons (gName 1) (gCons (gName 2) gNil))) (tt := tYes) rfl nd (pi_list (pe_d (E := E) (ok_items T B) hr (passes_call (takes_of rfl rfl rfl rfl) (fun _ _ _ _ z => z)) (pa_cons (pv 0) (pa_cons pe_str pa_nil)))) (blkOk_by (N := n_read_cells) (sc := defScope s_read_cells) (by decide +kernel))
        (fun _ _ _ _ _ => pg_lst (by rfl) (pgs_cons (pg_name (i := 1) nd rfl (.inl rfl)) (pgs_cons (pg_name (i := 2) nd rfl (.inl rfl)) pgs_nil))) (fun _ _ _ _ _ => pts_nil)
        (fun _ _ _ _ _ => pe_tup (pa_cons (pv 1) (pa_cons (pv 2) pa_nil)))))), ?_⟩
    walk_at "go"
    rcases h with ⟨h1, h2⟩ | ⟨X, rfl, hl, h1, h2⟩
    · exact ⟨_, rfl, _, fC, by rw [show (Str.ofString "z,z") = SX.S fC by decide +kernel]; rfl, by decide, .inl ⟨h1, h2⟩⟩
    · refine ⟨_, rfl, _, fC, by rw [show (Str.ofString "z,z") = SX.S fC by decide +kernel]; rfl, by decide, .inr ⟨X, rfl, hl, fun l e a H1 s1 ha => ?_, h2⟩⟩
      have hll : l.length ≤ 100002 := Nat.le_trans (items_len e) (by omega)
      have hok := items_ok e
      obtain ⟨p, xs, rfl, np, ep, hxs⟩ := ha.lst
      refine ⟨p, rfl, ⟨xs, .inl (.inl ep)⟩, fun D hD => ?_⟩
      have hHD : H D = none := s1.free hD
      refine lc_it walk_list (fun i H' => Same H1 H' ∧ Same H H' ∧ ∃ vs, H' D = some (.lst vs) ∧ AtL (fun b => H b ≠ none ∨ b = D) H' ((l.take i).map dC) vs) ⟨same_new hD, s1.trans (same_new hD), _, upd_same, atl_nil⟩ (fun i H' _ ⟨sm, _⟩ => .inl (.inl (sm _ _ ep))) ?_ ?_
      · rintro i x H2 H3 hi ⟨s3, s13, vs, eD, hvs⟩ ⟨rfl, hx⟩
        have hil : i < l.length := by
          have := hxs.length
          rw [List.length_map] at this
          omega
        obtain ⟨v, hv2, hat⟩ := hxs.get (i := i) (d := dI l[i]) (by rw [List.getElem?_map, List.getElem?_eq_getElem hil]; rfl)
        rw [hv2] at hx
        cases hx
        obtain ⟨x, y, e, hx, hy⟩ := okI_C (hok _ (List.getElem_mem hil))
        have hli : l[i]? = some [x, y] := by rw [List.getElem?_eq_getElem hil, e]
        rw [e] at hat
        obtain ⟨p3, xs2, rfl, _, ep3, h2⟩ := hat.lst
        obtain ⟨v1, r1, rfl, a1, h2⟩ := h2.cons
        obtain ⟨v2, r2, rfl, a2, h2⟩ := h2.cons
        obtain rfl := h2.nil
        obtain rfl := a1.int
        obtain rfl := a2.int
        walk_at "go"
        refine ⟨_, .inl (.inl (s3 _ _ ep3)), rfl, _, _, rfl, _, _, rfl, rfl, by decide, fun q hq => ?_⟩
        have qD : q ≠ D := (ne_of_none eD hq).symm
        have nq : ¬ (H q ≠ none ∨ q = D) := fun z => z.elim (fun z => z (s13.free hq)) qD
        exact read_step (d := dC) hll hli (s3.trans (same_new hq)) hD (s13.trans (same_new hq)) hHD (by rw [upd_ne qD.symm]; exact eD) (hvs.kp (Kp.upd_new hq)) (at_tup nq upd_same (atl_cons at_int (atl_cons at_int atl_nil)))
      · rintro H2 ⟨s3, s13, vs, eD, hvs⟩
        rw [hxs.length, List.length_map] at hvs
        exact read_end (h1 l e hok) s13 eD hvs
end
end TX
/-! part W10 -/
/-! Rows read: weights, joins. -/
namespace TX
open PySem PySem.Spec PyProof.Rows L2 NT RW4
local macro_rules | `(tactic| walk_at "go") => `(tactic| simp only [L2.start, List.map_cons, List.map_nil, List.length_cons, List.length_nil, Nat.reduceSub, Nat.reduceAdd, List.replicate_succ, List.replicate_zero, List.cons_append, List.nil_append, List.append_nil,
  tSeq, tNext, tRet, tIfS, tTest, tAnd, tOr, tNot, tCB, tCall, tCons, tNil, tVar, tC, tOp, tUn, tAsg, gName, rI0, rI, CMul, CDiv, tDGet, sDPut, tBM0, tBM, tTup, tLst, tPar, gTup, gNil, gCons, tIf, tAug, tRevL, tDisp, tPairs, tYes, wipe, tDrop, L2.tSl, tNotV, tAndV, tOrV, tB, rSlS, ipI, tNoPart, NdefX.startF, tOst, tMkO, rIxL, rIxT, rIxS, rAppend, rExtend, rPop, rSlL, rSetL, tPart, rEq, rNe, tFmt, tJn, tJs, tFi, gLst, tThen, ↓reduceIte, L2.gSub, ↓reduceIte,
  List.getElem?_cons_zero, List.getElem?_cons_succ, List.set_cons_zero, List.set_cons_succ, Option.some.injEq, V.int.injEq, V.str.injEq, V.ref.injEq, V.bl.injEq, exists_eq_left, exists_eq_left', exists_eq_right, exists_eq_right', exists_eq', true_and, and_true, decide_eq_true_eq, List.cons.injEq, reduceCtorEq, false_and, false_or, or_false, exists_false, exists_and_left, exists_and_right, and_assoc])
section
variable {w : World} {K : PySem.W.Frag} {mg : Str → Option Value} {base : Heap}
theorem ok_readWeights (T : Txt w K mg) {C R fI cc : Addr} (B : BadC K mg C R fI cc) : Ok PW w K mg base (L2.CX PW w) 8 "read_weights" ["text"] (spRead K C fW dW) := by
  obtain ⟨f, fd, D⟩ := T.d_read_weights
  refine ⟨f, fd, D.F.okX sc_read_weights (fun vs H Q E h => ?_) (fun cdv A outer s H vs Q E hr h => ?_), D.g, D.F.kp, D.b⟩
  · obtain ⟨v, rfl, _⟩ := h
    rfl
  · obtain ⟨v, rfl, h⟩ := h
    have nd := sc_read_weights.nd
    refine ⟨_, pss_one (ps_ret (pe_tupleOf (by rfl) T.z_tuple
      (pe_lc (own := [("x", 1), ("y", 2), ("weight", 3)]) (g := gLst K 3 (gCons (gName 1) (gCons (gName 2) (gCons (gName 3) gNil)))) (tt := tYes) rfl nd (pi_list (pe_d (E := E) (ok_items T B) hr (passes_call (takes_of rfl rfl rfl rfl) (fun _ _ _ _ z => z)) (pa_cons (pv 0) (pa_cons pe_str pa_nil)))) (blkOk_by (N := n_read_weights) (sc := defScope s_read_weights) (by decide +kernel))
        (fun _ _ _ _ _ => pg_lst (by rfl) (pgs_cons (pg_name (i := 1) nd rfl (.inl rfl)) (pgs_cons (pg_name (i := 2) nd rfl (.inl rfl)) (pgs_cons (pg_name (i := 3) nd rfl (.inl rfl)) pgs_nil)))) (fun _ _ _ _ _ => pts_nil)
        (fun _ _ _ _ _ => pe_tup (pa_cons (pe_tup (pa_cons (pv 1) (pa_cons (pv 2) pa_nil))) (pa_cons (pv 3) pa_nil)))))), ?_⟩
    walk_at "go"
    rcases h with ⟨h1, h2⟩ | ⟨X, rfl, hl, h1, h2⟩
    · exact ⟨_, rfl, _, fW, by rw [show (Str.ofString "z,z:n") = SX.S fW by decide +kernel]; rfl, by decide, .inl ⟨h1, h2⟩⟩
    · refine ⟨_, rfl, _, fW, by rw [show (Str.ofString "z,z:n") = SX.S fW by decide +kernel]; rfl, by decide, .inr ⟨X, rfl, hl, fun l e a H1 s1 ha => ?_, h2⟩⟩
      have hll : l.length ≤ 100002 := Nat.le_trans (items_len e) (by omega)
      have hok := items_ok e
      obtain ⟨p, xs, rfl, np, ep, hxs⟩ := ha.lst
      refine ⟨p, rfl, ⟨xs, .inl (.inl ep)⟩, fun D hD => ?_⟩
      have hHD : H D = none := s1.free hD
      refine lc_it walk_list (fun i H' => Same H1 H' ∧ Same H H' ∧ ∃ vs, H' D = some (.lst vs) ∧ AtL (fun b => H b ≠ none ∨ b = D) H' ((l.take i).map dW) vs) ⟨same_new hD, s1.trans (same_new hD), _, upd_same, atl_nil⟩ (fun i H' _ ⟨sm, _⟩ => .inl (.inl (sm _ _ ep))) ?_ ?_
      · rintro i x H2 H3 hi ⟨s3, s13, vs, eD, hvs⟩ ⟨rfl, hx⟩
        have hil : i < l.length := by
          have := hxs.length
          rw [List.length_map] at this
          omega
        obtain ⟨v, hv2, hat⟩ := hxs.get (i := i) (d := dI l[i]) (by rw [List.getElem?_map, List.getElem?_eq_getElem hil]; rfl)
        rw [hv2] at hx
        cases hx
        obtain ⟨x, y, n, e, hx, hy, hn⟩ := okI_W (hok _ (List.getElem_mem hil))
        have hli : l[i]? = some [x, y, n] := by rw [List.getElem?_eq_getElem hil, e]
        rw [e] at hat
        obtain ⟨p3, xs2, rfl, _, ep3, h2⟩ := hat.lst
        obtain ⟨v1, r1, rfl, a1, h2⟩ := h2.cons
        obtain ⟨v2, r2, rfl, a2, h2⟩ := h2.cons
        obtain ⟨v3, r3, rfl, a3, h2⟩ := h2.cons
        obtain rfl := h2.nil
        obtain rfl := a1.int
        obtain rfl := a2.int
        obtain rfl := a3.int
        walk_at "go"
        refine ⟨_, .inl (.inl (s3 _ _ ep3)), rfl, _, _, rfl, _, _, rfl, _, _, rfl, rfl, by decide, fun q1 hq1 => ⟨by decide, fun q hq => ?_⟩⟩
        have qD1 : q1 ≠ D := (ne_of_none eD hq1).symm
        have s4 : Same H3 (upd H3 q1 (.tup [.int x, .int y])) := same_new hq1
        have e4 : upd H3 q1 (.tup [.int x, .int y]) D = some (.lst vs) := s4 _ _ eD
        have qD : q ≠ D := (ne_of_none e4 hq).symm
        have q1q : q1 ≠ q := ne_of_none upd_same hq
        have nq1 : ¬ (H q1 ≠ none ∨ q1 = D) := fun z => z.elim (fun z => z (s13.free hq1)) qD1
        have nq : ¬ (H q ≠ none ∨ q = D) := fun z => z.elim (fun z => z ((s13.trans s4).free hq)) qD
        exact read_step (d := dW) hll hli ((s3.trans s4).trans (same_new hq)) hD ((s13.trans s4).trans (same_new hq)) hHD (by rw [upd_ne qD.symm]; exact e4) ((hvs.kp (Kp.upd_new hq1)).kp (Kp.upd_new hq))
          (at_tup nq upd_same (atl_cons (at_tup nq1 (by rw [upd_ne q1q]; exact upd_same) (atl_cons at_int (atl_cons at_int atl_nil))) (atl_cons at_int atl_nil)))
      · rintro H2 ⟨s3, s13, vs, eD, hvs⟩
        rw [hxs.length, List.length_map] at hvs
        exact read_end (h1 l e hok) s13 eD hvs
theorem ok_readJoins (T : Txt w K mg) {C R fI cc : Addr} (B : BadC K mg C R fI cc) : Ok PW w K mg base (L2.CX PW w) 8 "read_joins" ["text"] (spRead K C fJ dJ) := by
  obtain ⟨f, fd, D⟩ := T.d_read_joins
  refine ⟨f, fd, D.F.okX sc_read_joins (fun vs H Q E h => ?_) (fun cdv A outer s H vs Q E hr h => ?_), D.g, D.F.kp, D.b⟩
  · obtain ⟨v, rfl, _⟩ := h
    rfl
  · obtain ⟨v, rfl, h⟩ := h
    have nd := sc_read_joins.nd
    refine ⟨_, pss_one (ps_ret (pe_tupleOf (by rfl) T.z_tuple
      (pe_lc (own := [("x", 1), ("y", 2), ("u", 3), ("v", 4)]) (g := gLst K 4 (gCons (gName 1) (gCons (gName 2) (gCons (gName 3) (gCons (gName 4) gNil))))) (tt := tYes) rfl nd (pi_list (pe_d (E := E) (ok_items T B) hr (passes_call (takes_of rfl rfl rfl rfl) (fun _ _ _ _ z => z)) (pa_cons (pv 0) (pa_cons pe_str pa_nil)))) (blkOk_by (N := n_read_joins) (sc := defScope s_read_joins) (by decide +kernel))
        (fun _ _ _ _ _ => pg_lst (by rfl) (pgs_cons (pg_name (i := 1) nd rfl (.inl rfl)) (pgs_cons (pg_name (i := 2) nd rfl (.inl rfl)) (pgs_cons (pg_name (i := 3) nd rfl (.inl rfl)) (pgs_cons (pg_name (i := 4) nd rfl (.inl rfl)) pgs_nil))))) (fun _ _ _ _ _ => pts_nil)
        (fun _ _ _ _ _ => pe_tup (pa_cons (pe_tup (pa_cons (pv 1) (pa_cons (pv 2) pa_nil))) (pa_cons (pe_tup (pa_cons (pv 3) (pa_cons (pv 4) pa_nil))) pa_nil)))))), ?_⟩
    walk_at "go"
    rcases h with ⟨h1, h2⟩ | ⟨X, rfl, hl, h1, h2⟩
    · exact ⟨_, rfl, _, fJ, by rw [show (Str.ofString "z,z+z,z") = SX.S fJ by decide +kernel]; rfl, by decide, .inl ⟨h1, h2⟩⟩
    · refine ⟨_, rfl, _, fJ, by rw [show (Str.ofString "z,z+z,z") = SX.S fJ by decide +kernel]; rfl, by decide, .inr ⟨X, rfl, hl, fun l e a H1 s1 ha => ?_, h2⟩⟩
      have hll : l.length ≤ 100002 := Nat.le_trans (items_len e) (by omega)
      have hok := items_ok e
      obtain ⟨p, xs, rfl, np, ep, hxs⟩ := ha.lst
      refine ⟨p, rfl, ⟨xs, .inl (.inl ep)⟩, fun D hD => ?_⟩
      have hHD : H D = none := s1.free hD
      refine lc_it walk_list (fun i H' => Same H1 H' ∧ Same H H' ∧ ∃ vs, H' D = some (.lst vs) ∧ AtL (fun b => H b ≠ none ∨ b = D) H' ((l.take i).map dJ) vs) ⟨same_new hD, s1.trans (same_new hD), _, upd_same, atl_nil⟩ (fun i H' _ ⟨sm, _⟩ => .inl (.inl (sm _ _ ep))) ?_ ?_
      · rintro i x H2 H3 hi ⟨s3, s13, vs, eD, hvs⟩ ⟨rfl, hx⟩
        have hil : i < l.length := by
          have := hxs.length
          rw [List.length_map] at this
          omega
        obtain ⟨v, hv2, hat⟩ := hxs.get (i := i) (d := dI l[i]) (by rw [List.getElem?_map, List.getElem?_eq_getElem hil]; rfl)
        rw [hv2] at hx
        cases hx
        obtain ⟨x, y, u, v, e, hx, hy, hu, hv⟩ := okI_J (hok _ (List.getElem_mem hil))
        have hli : l[i]? = some [x, y, u, v] := by rw [List.getElem?_eq_getElem hil, e]
        rw [e] at hat
        obtain ⟨p3, xs2, rfl, _, ep3, h2⟩ := hat.lst
        obtain ⟨v1, r1, rfl, a1, h2⟩ := h2.cons
        obtain ⟨v2, r2, rfl, a2, h2⟩ := h2.cons
        obtain ⟨v3, r3, rfl, a3, h2⟩ := h2.cons
        obtain ⟨v4, r4, rfl, a4, h2⟩ := h2.cons
        obtain rfl := h2.nil
        obtain rfl := a1.int
        obtain rfl := a2.int
        obtain rfl := a3.int
        obtain rfl := a4.int
        walk_at "go"
        refine ⟨_, .inl (.inl (s3 _ _ ep3)), rfl, _, _, rfl, _, _, rfl, _, _, rfl, _, _, rfl, rfl, by decide, fun q1 hq1 => ⟨by decide, fun q2 hq2 => ⟨by decide, fun q hq => ?_⟩⟩⟩
        have qD1 : q1 ≠ D := (ne_of_none eD hq1).symm
        have s4 : Same H3 (upd H3 q1 (.tup [.int x, .int y])) := same_new hq1
        have e4 : upd H3 q1 (.tup [.int x, .int y]) D = some (.lst vs) := s4 _ _ eD
        have qD2 : q2 ≠ D := (ne_of_none e4 hq2).symm
        have s5 : Same (upd H3 q1 (.tup [.int x, .int y])) (upd (upd H3 q1 (.tup [.int x, .int y])) q2 (.tup [.int u, .int v])) := same_new hq2
        have e5 := s5 _ _ e4
        have qD : q ≠ D := (ne_of_none e5 hq).symm
        have q12 : q1 ≠ q2 := ne_of_none upd_same hq2
        have eq1 := s5 q1 _ upd_same
        have q1q : q1 ≠ q := ne_of_none eq1 hq
        have q2q : q2 ≠ q := ne_of_none upd_same hq
        have nq1 : ¬ (H q1 ≠ none ∨ q1 = D) := fun z => z.elim (fun z => z (s13.free hq1)) qD1
        have nq2 : ¬ (H q2 ≠ none ∨ q2 = D) := fun z => z.elim (fun z => z ((s13.trans s4).free hq2)) qD2
        have nq : ¬ (H q ≠ none ∨ q = D) := fun z => z.elim (fun z => z (((s13.trans s4).trans s5).free hq)) qD
        exact read_step (d := dJ) hll hli (((s3.trans s4).trans s5).trans (same_new hq)) hD (((s13.trans s4).trans s5).trans (same_new hq)) hHD (by rw [upd_ne qD.symm]; exact e5) (((hvs.kp (Kp.upd_new hq1)).kp (Kp.upd_new hq2)).kp (Kp.upd_new hq))
          (at_tup nq upd_same (atl_cons (at_tup nq1 (by rw [upd_ne q1q]; exact eq1) (atl_cons at_int (atl_cons at_int atl_nil))) (atl_cons (at_tup nq2 (by rw [upd_ne q2q]; exact upd_same) (atl_cons at_int (atl_cons at_int atl_nil))) atl_nil)))
      · rintro H2 ⟨s3, s13, vs, eD, hvs⟩
        rw [hxs.length, List.length_map] at hvs
        exact read_end (h1 l e hok) s13 eD hvs
end
end TX
/-! part W11 -/
/-! A way read. -/
namespace TX
open PySem PySem.Spec PyProof.Rows L2 NT RW4
local macro_rules | `(tactic| walk_at "go") => `(tactic| simp only [L2.start, List.map_cons, List.map_nil, List.length_cons, List.length_nil, Nat.reduceSub, Nat.reduceAdd, List.replicate_succ, List.replicate_zero, List.cons_append, List.nil_append, List.append_nil,
  tSeq, tNext, tRet, tIfS, tTest, tAnd, tOr, tNot, tCB, tCall, tCons, tNil, tVar, tC, tOp, tUn, tAsg, gName, rI0, rI, CMul, CDiv, tDGet, sDPut, tBM0, tBM, tTup, tLst, tPar, gTup, gNil, gCons, tIf, tAug, tRevL, tDisp, tPairs, tYes, wipe, tDrop, L2.tSl, tNotV, tAndV, tOrV, tB, rSlS, ipI, tNoPart, NdefX.startF, tOst, tMkO, rIxL, rIxT, rIxS, rAppend, rExtend, rPop, rSlL, rSetL, tPart, rEq, rNe, tFmt, tJn, tJs, tFi, gLst, tThen, ↓reduceIte, L2.gSub, ↓reduceIte,
  List.getElem?_cons_zero, List.getElem?_cons_succ, List.set_cons_zero, List.set_cons_succ, Option.some.injEq, V.int.injEq, V.str.injEq, V.ref.injEq, V.bl.injEq, exists_eq_left, exists_eq_left', exists_eq_right, exists_eq_right', exists_eq', true_and, and_true, decide_eq_true_eq, List.cons.injEq, reduceCtorEq, false_and, false_or, or_false, exists_false, exists_and_left, exists_and_right, and_assoc])
section
variable {w : World} {K : PySem.W.Frag} {mg : Str → Option Value} {base : Heap}
abbrev sW : List Nat := [114, 108, 117, 100]
def spWay (K : PySem.W.Frag) (C : Addr) : Sp := fun vs H Q E => ∃ (v : V), vs = [v] ∧
  ((IsTx K H v false ∧ Bad C E H 0) ∨ ∃ X : List Nat, v = .str (SX.S X) ∧ X.length ≤ 100000 ∧
    ((∀ c ∈ X, c ∈ sW) → Q v H) ∧ (∀ k : Nat, k < X.length → (X.takeWhile fun c => decide (c ∈ sW)).length = k → Bad C E H (k : Nat)))
theorem tw_all {p : Nat → Bool} : ∀ {l : List Nat}, (l.takeWhile p).length = l.length → ∀ c ∈ l, p c = true
  | [], _, c, hc => by cases hc
  | a :: l, h, c, hc => by
    rw [List.takeWhile_cons] at h
    by_cases ha : p a = true
    · rw [if_pos ha] at h
      rcases List.mem_cons.mp hc with rfl | hc
      · exact ha
      · exact tw_all (Nat.succ.inj h) c hc
    · rw [if_neg ha] at h
      cases h
theorem tw_le {p : Nat → Bool} (l : List Nat) : (l.takeWhile p).length ≤ l.length := (List.takeWhile_sublist p).length_le
theorem ok_readWay (T : Txt w K mg) {C R fI cc : Addr} (B : BadC K mg C R fI cc) : Ok PW w K mg base (L2.CX PW w) 8 "read_way" ["text"] (spWay K C) := by
  obtain ⟨f, fd, D⟩ := T.d_read_way
  refine ⟨f, fd, D.F.okX sc_read_way (fun vs H Q E h => ?_) (fun cdv A outer s H vs Q E hr h => ?_), D.g, D.F.kp, D.b⟩
  · obtain ⟨v, rfl, _⟩ := h
    rfl
  · obtain ⟨v, rfl, h⟩ := h
    have nd := sc_read_way.nd
    refine ⟨_, pss_cons (ps_expr (pe_d (E := E) (ok_need T B) hr (passes_call (takes_of rfl rfl rfl rfl) (fun _ _ _ _ z => z)) (pa_cons (pv 0) pa_nil)))
      (pss_cons (ps_set (i := 1) nd rfl (.inl rfl) (pe_d (ok_signs T) hr pass0 (pa_cons (pv 0) (pa_cons pe_str pa_nil))))
      (pss_cons (ps_expr (pe_d (E := E) (ok_pastEnd T B) hr (passes_call (takes_of rfl rfl rfl rfl) (fun _ _ _ _ z => z)) (pa_cons (pv 0) (pa_cons (pv 1) pa_nil))))
      (pss_one (ps_ret (pv 0))))), ?_⟩
    walk_at "go"
    rcases h with ⟨h1, h2⟩ | ⟨X, rfl, hl, h1, h2⟩
    · exact ⟨v, false, rfl, h1, (fun z => Bool.noConfusion z), fun _ => h2⟩
    · refine ⟨_, true, rfl, istx_str, fun _ => ⟨X, sW, by rw [show (Str.ofString "rlud") = SX.S sW by decide +kernel], hl, ?_⟩, (fun z => Bool.noConfusion z)⟩
      refine ⟨X, _, rfl, hl, fun hz => h1 fun c hc => ?_, fun hz => h2 _ hz rfl⟩
      exact of_decide_eq_true (tw_all (p := fun c => decide (c ∈ sW)) (Nat.le_antisymm (tw_le X) hz) c hc)
end
end TX
/-! part A1 -/
/-! The law's own texts. -/
namespace TX
open PySem PySem.Spec PyProof.Rows L2 NT RW4
section
variable {X : Cx} {tg : Expr}
/-- over a list or a tuple -/
def iSeq (K : PySem.W.Frag) (tl : TE) : TI := fun σ H R => tl σ H fun x H1 => ∃ a, x = .ref a ∧ (((∃ xs, SqL K H1 a xs) ∧ R (Itl K a) H1) ∨ ((∃ xs, SqT K H1 a xs) ∧ R (Itt K a) H1))
theorem pi_seq {l : Expr} {tl : TE} (hl : PE X l tl) : PI X tg l (iSeq X.K tl) := by
  refine ⟨fun pins s σ H R I h => ?_⟩
  refine thn (hl.run pins s σ H _ I h) fun v s1 ⟨x, H1, I1, r1, q1⟩ => ?_
  obtain ⟨a, e, q1⟩ := q1
  subst e
  cases r1
  rcases q1 with ⟨⟨xs, hq⟩, q⟩ | ⟨⟨xs, hq⟩, q⟩
  · obtain ⟨its, rv, p, hz⟩ := I1.list hq
    refine wpAny_pyIter_list p.isList ?_
    refine ⟨s1.heap.objs.size, [s1.heap.objs.size], _, _, H1, rfl, I1.kept (t' := s1.toks) fun b o e => Heap.get?_push_of_some _ e, turn_list a _, ⟨_, Heap.get?_push_size _ rfl, rfl, rfl⟩, fun b hb => ?_, q⟩
    have e : b = s1.heap.objs.size := by simpa using hb
    subst e
    exact I1.fpOk (Nat.le_refl _) (I1.hok.fresh (Nat.le_refl _))
  · obtain ⟨its, rv, p, hz⟩ := I1.tuple hq
    refine wpAny_pyIter_tuple (show s1.heap.IsTuple a its.toArray from p) ?_
    refine ⟨s1.heap.objs.size, [s1.heap.objs.size], _, _, H1, rfl, I1.kept (t' := s1.toks) fun b o e => Heap.get?_push_of_some _ e, turn_tuple a _, ⟨_, Heap.get?_push_size _ rfl, rfl, rfl⟩, fun b hb => ?_, q⟩
    have e : b = s1.heap.objs.size := by simpa using hb
    subst e
    exact I1.fpOk (Nat.le_refl _) (I1.hok.fresh (Nat.le_refl _))
def cRi : List V → Hp → VK → Prop := fun xs H Q => ∃ i : Int, xs = [.int i] ∧ i.natAbs < 10 ^ 9 ∧ Q (.str (SX.S (intL i))) H
theorem call_ri : CallR X (.builtin "repr") cRi := by
  intro pins s σ H xs us Q I r h
  obtain ⟨i, rfl, hz, q⟩ := h
  rw [← intS] at q
  exact SkE.call_repr_int pins s σ H _ us Q I r ⟨i, rfl, log_ok hz, q⟩
def rS : R2 := fun x y H Q => ∃ a b : List Nat, x = .str (SX.S a) ∧ y = .str (SX.S b) ∧ a.length + b.length ≤ 1000000 ∧ Q (.str (SX.S (a ++ b))) H
theorem op_S : OpR X (binaryOp .Add) rS := by
  intro pins s σ H x y v u Q I rx ry h
  obtain ⟨a, b, rfl, rfl, hz, q⟩ := h
  rw [← SX.S_cat] at q
  exact op_add_str pins s σ H _ _ v u Q I rx ry ⟨_, _, rfl, rfl, by rw [S_len, S_len]; exact small_sz hz (by decide), q⟩
theorem lc_sq {K : PySem.W.Frag} {σ : L2.St} {H : Hp} {Q : VK} {a : Addr} {xs : List V} {g : TG} {tt : TT} {te tl : TE} {vs : List Nat} (hv : ∀ R : V → Hp → Prop, R (.ref a) H → tl σ H R) (ea : H a = some (.tup xs) ∨ H a = some (.lst xs))
    (Pv : Addr → Nat → Hp → Prop) (h0 : ∀ D, H D = none → Pv D 0 (upd H D (.lst []))) (hG : ∀ D i H', Pv D i H' → Same H H')
    (hs : ∀ D, H D = none → ∀ i x H', i < xs.length → xs[i]? = some x → Pv D i H' → g x (wipe σ vs) H' fun σ2 H2 => wipe σ2 vs = wipe σ vs ∧ tt σ2 H2 fun b H3 =>
      if b = true then te σ2 H3 fun y H4 => ∃ acc, H4 D = some (.lst acc) ∧ acc.length < sizeLine ∧ Pv D (i + 1) (upd H4 D (.lst (acc ++ [y]))) else Pv D (i + 1) H3)
    (hd : ∀ D H', H D = none → Pv D xs.length H' → Q (.ref D) H') : tLc (iSeq K tl) g tt te vs σ H Q := by
  refine hv _ ⟨a, rfl, ?_⟩
  rcases ea with ea | ea
  · refine .inr ⟨⟨xs, .inl (.inl ea)⟩, fun D hD => lc_it walk_tup (Pv D) (h0 D hD) (fun i H' _ p => .inl (.inl (hG D i H' p _ _ ea))) ?_ (fun H' p => hd D H' hD p)⟩
    rintro i x H1 H2 hi p ⟨rfl, hx⟩
    exact hs D hD i x _ hi hx p
  · refine .inl ⟨⟨xs, .inl (.inl ea)⟩, fun D hD => lc_it walk_list (Pv D) (h0 D hD) (fun i H' _ p => .inl (.inl (hG D i H' p _ _ ea))) ?_ (fun H' p => hd D H' hD p)⟩
    rintro i x H1 H2 hi p ⟨rfl, hx⟩
    exact hs D hD i x _ hi hx p
end
local macro_rules | `(tactic| walk_at "go") => `(tactic| simp only [L2.start, List.map_cons, List.map_nil, List.length_cons, List.length_nil, Nat.reduceSub, Nat.reduceAdd, List.replicate_succ, List.replicate_zero, List.cons_append, List.nil_append, List.append_nil,
  tSeq, tNext, tRet, tIfS, tTest, tAnd, tOr, tNot, tCB, tCall, tCons, tNil, tVar, tC, tOp, tUn, tAsg, gName, rI0, rI, CMul, CDiv, tDGet, sDPut, tBM0, tBM, tTup, tLst, tPar, gTup, gNil, gCons, tIf, tAug, tRevL, tDisp, tPairs, tYes, wipe, tDrop, L2.tSl, tNotV, tAndV, tOrV, tB, rSlS, ipI, tNoPart, NdefX.startF, tOst, tMkO, rIxL, rIxT, rIxS, rAppend, rExtend, rPop, rSlL, rSetL, tPart, rEq, rNe, tFmt, tJn, tJs, tFi, gLst, tThen, tIf, rS, cRi, ↓reduceIte, L2.gSub, ↓reduceIte,
  List.getElem?_cons_zero, List.getElem?_cons_succ, List.set_cons_zero, List.set_cons_succ, Option.some.injEq, V.int.injEq, V.str.injEq, V.ref.injEq, V.bl.injEq, exists_eq_left, exists_eq_left', exists_eq_right, exists_eq_right', exists_eq', true_and, and_true, decide_eq_true_eq, List.cons.injEq, reduceCtorEq, false_and, false_or, or_false, exists_false, exists_and_left, exists_and_right, and_assoc])
section
variable {w : World} {K : PySem.W.Frag} {mg : Str → Option Value} {base : Heap}
/-- a list or a tuple of these -/
def Sq (S : Addr → Prop) (H : Hp) (ds : List PyData) (v : V) : Prop := At S H (.tuple ds) v ∨ At S H (.list ds) v
theorem Sq.take {S : Addr → Prop} {H : Hp} {ds : List PyData} {v : V} (h : Sq S H ds v) : ∃ p xs, v = .ref p ∧ ¬ S p ∧ (H p = some (.tup xs) ∨ H p = some (.lst xs)) ∧ AtL S H ds xs := by
  rcases h with h | h
  · obtain ⟨p, xs, e, n, hp, ha⟩ := h.tup
    exact ⟨p, xs, e, n, .inl hp, ha⟩
  · obtain ⟨p, xs, e, n, hp, ha⟩ := h.lst
    exact ⟨p, xs, e, n, .inr hp, ha⟩
theorem join_end {H H1 : Hp} {Q : VK} {form : List Nat} {l : List (List Int)} {D : Addr} (hz : ∀ a ∈ l, (wF form a).length ≤ 1000) (hl : l.length ≤ 1000) (hne : l ≠ []) (sm : Same H H1)
    (eD : H1 D = some (.lst (l.map fun a => vS (wF form a)))) (h : ∀ H', Same H H' → Q (.str (SX.S (wRow form l))) H') :
    ∃ x, (SqL K H1 D (List.map V.str x) ∨ SqT K H1 D (List.map V.str x)) ∧ (List.map (fun x => x.length) x).sum + x.length * (Str.ofString " ").length ≤ 16777216 ∧ Q (.str (Txt.join (Str.ofString " ") x)) H1 := by
  have e32 : (Str.ofString " ") = SX.S [32] := by decide +kernel
  refine ⟨(l.map (wF form)).map SX.S, .inl (.inl (.inl ?_)), ?_, ?_⟩
  · rw [eD, List.map_map, List.map_map]
    rfl
  · have q := sum_le (ys := l.map (wF form)) fun y hy => by
      obtain ⟨a, ha, rfl⟩ := List.mem_map.mp hy
      exact hz a ha
    rw [List.length_map] at q
    rw [List.map_map, e32, List.length_map, List.length_map, S_len]
    show (List.map (fun y => (SX.S y).length) (l.map (wF form))).sum + l.length * 1 ≤ 16777216
    simp only [S_len]
    have e : (List.map (fun y => y.length) (l.map (wF form))).sum = (List.map List.length (l.map (wF form))).sum := rfl
    omega
  · rw [e32, SX.join_S]
    have hr := joinL_row form l
    rw [if_neg (by simpa using hne)] at hr
    rw [hr]
    exact h _ sm
def spCL : Sp := fun vs H Q E => ∃ (v : V) (l : List (List Int)), vs = [v] ∧ Sq No H (l.map dC) v ∧ l.length ≤ 1000 ∧ (∀ a ∈ l, okI fC a) ∧ (∀ H', Same H H' → Q (.str (SX.S (wRow fC l))) H')
theorem ok_cellsLine (T : Txt w K mg) : Ok PW w K mg base CX0 1 "_law_cells_line" ["cells"] spCL := by
  obtain ⟨f, fd, D⟩ := T.d_L_cells_line
  refine ⟨f, fd, D.F.ok sc_L_cells_line (fun vs H Q E h => ?_) (fun cdv A outer s H vs Q E hr h => ?_), D.g, D.F.kp, D.b⟩
  · obtain ⟨v, l, rfl, _⟩ := h
    rfl
  · obtain ⟨v, l, rfl, hv, hl, hok, h⟩ := h
    obtain ⟨a, xs, rfl, _, ea, hxs⟩ := hv.take
    have hlen := hxs.length
    rw [List.length_map] at hlen
    have nd := sc_L_cells_line.nd
    refine ⟨_, pss_one (ps_ret (pe_ifExp (pt_cmpR op_gt (pe_callB call_len_seq (by rfl) T.z_len PySem.boot_len (pa_cons (pv 0) pa_nil)) pe_int (nomark _))
      (pe_bm PySem.F.plainAttrs_str PySem.F.slot_str_join PySem.F.type_str_join mt_join pe_str (pa_cons
        (pe_lc (own := [("x", 1), ("y", 2)]) (g := gTup K 2 (gCons (gName 1) (gCons (gName 2) gNil))) (tt := tYes) rfl nd (pi_seq (pv 0)) (blkOk_by (N := n_L_cells_line) (sc := defScope s_L_cells_line) (by decide +kernel))
          (fun _ _ _ _ _ => pg_tup (by rfl) (pgs_cons (pg_name (i := 1) nd rfl (.inl rfl)) (pgs_cons (pg_name (i := 2) nd rfl (.inl rfl)) pgs_nil))) (fun _ _ _ _ _ => pts_nil)
          (fun _ _ _ _ _ => pe_op op_S (pe_op op_S (pe_callB call_ri (by rfl) T.z_repr (by decide +kernel) (pa_cons (pv 1) pa_nil)) pe_str) (pe_callB call_ri (by rfl) T.z_repr (by decide +kernel) (pa_cons (pv 2) pa_nil)))) pa_nil)) pe_str)), ?_⟩
    walk_at "go"
    refine ⟨xs, ea.symm.imp (fun z => .inl (.inl z)) (fun z => .inl (.inl z)), ?_⟩
    cases l with
    | nil =>
      rw [List.length_nil] at hlen
      rw [hlen, if_neg (by decide), show (Str.ofString "-") = SX.S [45] by decide +kernel]
      exact h _ (fun _ _ z => z)
    | cons b l =>
      rw [if_pos (by rw [hlen, List.length_cons]; omega)]
      refine ⟨rfl, lc_sq (fun R h => ⟨_, rfl, h⟩) ea (fun D i H' => Same H H' ∧ H' D = some (.lst (((b :: l).take i).map fun a => vS (wF fC a)))) (fun D hD => ⟨same_new hD, upd_same⟩) (fun D i H' z => z.1) ?_ ?_⟩
      · rintro D hD i x H2 hi hx ⟨sm, eD⟩
        have hil : i < (b :: l).length := by rw [← hlen]; exact hi
        obtain ⟨v, hv2, hat⟩ := hxs.get (i := i) (d := dC (b :: l)[i]) (by rw [List.getElem?_map, List.getElem?_eq_getElem hil]; rfl)
        rw [hv2] at hx
        cases hx
        obtain ⟨x, y, e, hx, hy⟩ := okI_C (hok _ (List.getElem_mem hil))
        have hli : (b :: l)[i]? = some [x, y] := by rw [List.getElem?_eq_getElem hil, e]
        rw [e] at hat
        obtain ⟨p, xs2, rfl, _, ep, h2⟩ := hat.tup
        obtain ⟨v1, r1, rfl, a1, h2⟩ := h2.cons
        obtain ⟨v2, r2, rfl, a2, h2⟩ := h2.cons
        obtain rfl := h2.nil
        obtain rfl := a1.int
        obtain rfl := a2.int
        walk_at "go"
        refine ⟨_, .inl (.inl (sm _ _ ep)), rfl, _, _, rfl, _, _, rfl, rfl, _, rfl, hx.1, _, rfl, [44], by decide +kernel, ?_, _, rfl, hy.1, _, rfl, _, rfl, ?_, row_step (l := b :: l) ?_ hl hli sm hD eD⟩
        · have := intL_len hx
          rw [List.length_cons, List.length_nil]
          omega
        · have := intL_len hx
          have := intL_len hy
          rw [List.length_append, List.length_cons, List.length_nil]
          omega
        · rw [wF_C, List.append_assoc]
          rfl
      · rintro D H1 hD ⟨sm, eD⟩
        walk_at "go"
        rw [hlen, List.take_length] at eD
        exact join_end (form := fC) (fun a ha => okC_len (hok a ha)) hl (by simp) sm eD h
end
end TX
/-! part A2 -/
/-! The law's own texts: pairs. -/
namespace TX
open PySem PySem.Spec PyProof.Rows L2 NT RW4
local macro_rules | `(tactic| walk_at "go") => `(tactic| simp only [L2.start, List.map_cons, List.map_nil, List.length_cons, List.length_nil, Nat.reduceSub, Nat.reduceAdd, List.replicate_succ, List.replicate_zero, List.cons_append, List.nil_append, List.append_nil,
  tSeq, tNext, tRet, tIfS, tTest, tAnd, tOr, tNot, tCB, tCall, tCons, tNil, tVar, tC, tOp, tUn, tAsg, gName, rI0, rI, CMul, CDiv, tDGet, sDPut, tBM0, tBM, tTup, tLst, tPar, gTup, gNil, gCons, tIf, tAug, tRevL, tDisp, tPairs, tYes, wipe, tDrop, L2.tSl, tNotV, tAndV, tOrV, tB, rSlS, ipI, tNoPart, NdefX.startF, tOst, tMkO, rIxL, rIxT, rIxS, rAppend, rExtend, rPop, rSlL, rSetL, tPart, rEq, rNe, tFmt, tJn, tJs, tFi, gLst, tThen, tIf, rS, cRi, ↓reduceIte, L2.gSub, ↓reduceIte,
  List.getElem?_cons_zero, List.getElem?_cons_succ, List.set_cons_zero, List.set_cons_succ, Option.some.injEq, V.int.injEq, V.str.injEq, V.ref.injEq, V.bl.injEq, exists_eq_left, exists_eq_left', exists_eq_right, exists_eq_right', exists_eq', true_and, and_true, decide_eq_true_eq, List.cons.injEq, reduceCtorEq, false_and, false_or, or_false, exists_false, exists_and_left, exists_and_right, and_assoc])
section
variable {w : World} {K : PySem.W.Frag} {mg : Str → Option Value} {base : Heap}
def kvP : List (Key × V) := [(.inr "weights", .str ":"), (.inr "joins", .str "+")]
theorem kvP_w {H : Hp} {p : Addr} (h : H p = some (.dK kvP)) : DGet H p (.str "weights") (some (.str ":")) := by
  have q := DGet.k (k := Sum.inr "weights") h
  rw [show valV kvP (Sum.inr "weights") = some (.str ":") from valV_pos rfl] at q
  exact q
theorem k_wj : ¬ ((Sum.inr "joins" : Key) = (Sum.inr "weights" : Key)) := by decide +kernel
theorem okI_mkC {x y : Int} (hx : okN 122 x) (hy : okN 122 y) : okI fC [x, y] := by
  unfold okI
  rw [if_pos (.inl rfl)]
  refine ⟨x, _, rfl, hx, ?_⟩
  unfold okI
  rw [if_neg (by unfold isN; decide)]
  unfold okI
  rw [if_pos (.inl rfl)]
  exact ⟨y, _, rfl, hy, rfl⟩
theorem wRow1 (x y : Int) : wRow fC [[x, y]] = intL x ++ (44 :: intL y) := by
  show wF fC [x, y] ++ [] = _
  rw [List.append_nil, wF_C]
theorem same_2 {H H' : Hp} {p : Addr} {o o' : HO} (s : Same H H') (hp : H' p = none) : Same H (upd (upd H' p o) p o') := fun b u hb => by
  have q := s _ _ hb
  rw [upd_ne (ne_of_none q hp), upd_ne (ne_of_none q hp)]
  exact q
theorem kvP_j {H : Hp} {p : Addr} (h : H p = some (.dK kvP)) : DGet H p (.str "joins") (some (.str "+")) := by
  have q := DGet.k (k := Sum.inr "joins") h
  rw [show valV kvP (Sum.inr "joins" : Key) = some (.str "+") from (valV_neg fun z => k_wj z.symm).trans (valV_pos rfl)] at q
  exact q
def spPL : Sp := fun vs H Q E => ∃ (v : V) (l : List (List Int)) (part : Str) (form : List Nat) (d : List Int → PyData), vs = [v, .str part] ∧ ((part = "weights" ∧ form = fW ∧ d = dW) ∨ (part = "joins" ∧ form = fJ ∧ d = dJ)) ∧ At No H (.tuple (l.map d)) v ∧ l.length ≤ 1000 ∧ (∀ a ∈ l, okI form a) ∧ (∀ H', Same H H' → Q (.str (SX.S (wRow form l))) H')
theorem ok_pairsLine (T : Txt w K mg) : Ok PW w K mg base CX0 2 "_law_pairs_line" ["some", "part"] spPL := by
  obtain ⟨f, fd, D⟩ := T.d_L_pairs_line
  refine ⟨f, fd, D.F.ok sc_L_pairs_line (fun vs H Q E h => ?_) (fun cdv A outer s H vs Q E hr h => ?_), D.g, D.F.kp, D.b⟩
  · obtain ⟨v, l, part, form, d, rfl, _⟩ := h
    rfl
  · obtain ⟨v, l, part, form, d, rfl, hk, hv, hl, hok, h⟩ := h
    obtain ⟨a, xs, rfl, _, ea, hxs⟩ := hv.tup
    have hlen := hxs.length
    rw [List.length_map] at hlen
    have nd := sc_L_pairs_line.nd
    have hu := hu_of hr
    refine ⟨_, pss_cons (ps_set (i := 2) nd rfl (.inl rfl) (pe_lst pa_nil))
      (pss_cons (ps_for PassesOwn.never rfl (pi_tup (pv 0)) (pg_tup (by rfl) (pgs_cons (pg_name (i := 3) nd rfl (.inl rfl)) (pgs_cons (pg_name (i := 4) nd rfl (.inl rfl)) pgs_nil)))
        (pss_cons (ps_set (i := 5) nd rfl (.inl rfl) (pe_ifExp (pt_cmpR op_eq (pv 1) pe_str (nomark _)) (pe_callB call_ri (by rfl) T.z_repr (by decide +kernel) (pa_cons (pv 4) pa_nil)) (pe_d (ok_cellsLine T) hr pass0 (pa_cons (pe_lst (pa_cons (pv 4) pa_nil)) pa_nil))))
        (pss_one (ps_expr (pe_bm PySem.F.plainAttrs_list PySem.F.slot_list_append PySem.F.type_list_append mt_append (pv 2) (pa_cons
          (pe_op op_S (pe_op op_S (pe_d (ok_cellsLine T) hr pass0 (pa_cons (pe_lst (pa_cons (pv 3) pa_nil)) pa_nil))
            (pe_dget hu (pe_disp (pps_cons pe_str pe_str (pps_cons pe_str pe_str pps_nil)) (by rfl) (by rfl) (fun z => by cases z) (by decide)) (pv 1) (fun _ _ => rfl))) (pv 5)) pa_nil))))))
      (pss_one (ps_ret (pe_ifExp (pt_cmpR (op_neD hr.units) (pv 2) (pe_lst pa_nil) (nomark _))
        (pe_bm PySem.F.plainAttrs_str PySem.F.slot_str_join PySem.F.type_str_join mt_join pe_str (pa_cons (pv 2) pa_nil)) pe_str)))), ?_⟩
    walk_at "go"
    refine ⟨by decide, fun D hD => ⟨_, rfl, a, rfl, ⟨xs, .inl (.inl (same_new hD _ _ ea))⟩, for_it walk_tup (fun i σ H' => Same H H' ∧ H' D = some (.lst ((l.take i).map fun a => vS (wF form a))) ∧ ∃ v3 v4 v5, σ = [some (.ref a), some (.str part), some (.ref D), v3, v4, v5]) ⟨same_new hD, upd_same, none, none, none, rfl⟩ (fun i σ H' _ ⟨sm, _⟩ => .inl (.inl (sm _ _ ea))) ?_ ?_⟩⟩
    · rintro i x σ H1 H2 hi ⟨sm, eD, v3, v4, v5, rfl⟩ ⟨rfl, hx⟩
      have hil : i < l.length := by rw [← hlen]; exact hi
      obtain ⟨v, hv2, hat⟩ := hxs.get (i := i) (d := d l[i]) (by rw [List.getElem?_map, List.getElem?_eq_getElem hil]; rfl)
      rw [hv2] at hx
      cases hx
      have hoi := hok _ (List.getElem_mem hil)
      rcases hk with ⟨rfl, rfl, rfl⟩ | ⟨rfl, rfl, rfl⟩
      · obtain ⟨x, y, n, e, hx, hy, hn⟩ := okI_W hoi
        have hli : l[i]? = some [x, y, n] := by rw [List.getElem?_eq_getElem hil, e]
        rw [e] at hat
        obtain ⟨p, xs2, rfl, _, ep, h2⟩ := hat.tup
        obtain ⟨v1, r1, rfl, a1, h2⟩ := h2.cons
        obtain ⟨v2, r2, rfl, a2, h2⟩ := h2.cons
        obtain rfl := h2.nil
        obtain rfl := a2.int
        walk_at "go"
        refine ⟨_, .inl (.inl (sm _ _ ep)), rfl, _, _, rfl, _, _, rfl, rfl, rfl, _, rfl, hn.1, .inl ⟨rfl, _, .inl (.inl eD)⟩, by decide, fun p1 hp1 => ?_⟩
        have s1 : Same H2 (upd H2 p1 (.lst [v1])) := same_new hp1
        refine ⟨_, [[x, y]], rfl, .inr (at_lst id upd_same (atl_cons (a1.kp (Kp.of_same (sm.trans s1))) atl_nil)), by simp, fun z hz => ?_, fun H3 s3 p2 hp2 => ⟨upd_same, kvP, rfl, by decide, _, kvP_w upd_same, _, rfl, [58], by decide +kernel, ?_, _, rfl, _, rfl, ?_, ?_⟩⟩
        · obtain rfl := List.mem_singleton.mp hz
          exact okI_mkC hx hy
        · have := intL_len hx
          have := intL_len hy
          simp only [wRow1, List.headD_cons, List.length_append, List.length_cons, List.length_nil]
          omega
        · have := intL_len hx
          have := intL_len hy
          have := intL_len hn
          simp only [wRow1, List.headD_cons, List.length_append, List.length_cons, List.length_nil]
          omega
        · have s4 : Same H2 (upd (upd H3 p2 (.dK [])) p2 (.dK kvP)) := same_2 (s1.trans s3) hp2
          exact row_step (by rw [wRow1, wF_W]; simp) hl hli (sm.trans s4) hD (s4 _ _ eD)
      · obtain ⟨x, y, u, v, e, hx, hy, hu', hv'⟩ := okI_J hoi
        have hli : l[i]? = some [x, y, u, v] := by rw [List.getElem?_eq_getElem hil, e]
        rw [e] at hat
        obtain ⟨p, xs2, rfl, _, ep, h2⟩ := hat.tup
        obtain ⟨v1, r1, rfl, a1, h2⟩ := h2.cons
        obtain ⟨v2, r2, rfl, a2, h2⟩ := h2.cons
        obtain rfl := h2.nil
        walk_at "go"
        have lx := intL_len hx
        have ly := intL_len hy
        have lu := intL_len hu'
        have lv := intL_len hv'
        refine ⟨_, .inl (.inl (sm _ _ ep)), rfl, _, _, rfl, _, _, rfl, rfl, rfl, ?_⟩
        rw [if_neg (by decide +kernel)]
        refine ⟨by decide, fun p1 hp1 => ?_⟩
        have s1 : Same H2 (upd H2 p1 (.lst [v2])) := same_new hp1
        refine ⟨_, [[u, v]], rfl, .inr (at_lst id upd_same (atl_cons (a2.kp (Kp.of_same (sm.trans s1))) atl_nil)), by simp, fun z hz => ?_, fun H3 s3 => ?_⟩
        · obtain rfl := List.mem_singleton.mp hz
          exact okI_mkC hu' hv'
        walk_at "go"
        have s13 := s1.trans s3
        refine ⟨.inl ⟨rfl, _, .inl (.inl (s13 _ _ eD))⟩, by decide, fun p3 hp3 => ?_⟩
        have s4 : Same H3 (upd H3 p3 (.lst [v1])) := same_new hp3
        refine ⟨_, [[x, y]], rfl, .inr (at_lst id upd_same (atl_cons (a1.kp (Kp.of_same ((sm.trans s13).trans s4))) atl_nil)), by simp, fun z hz => ?_, fun H5 s5 p2 hp2 => ⟨upd_same, kvP, rfl, by decide, _, kvP_j upd_same, _, rfl, [43], by decide +kernel, ?_, _, rfl, _, rfl, ?_, ?_⟩⟩
        · obtain rfl := List.mem_singleton.mp hz
          exact okI_mkC hx hy
        · simp only [wRow1, List.length_append, List.length_cons, List.length_nil]
          omega
        · simp only [wRow1, List.length_append, List.length_cons, List.length_nil]
          omega
        · have s6 : Same H2 (upd (upd H5 p2 (.dK [])) p2 (.dK kvP)) := same_2 ((s13.trans s4).trans s5) hp2
          exact row_step (by rw [wRow1, wRow1, wF_J]; simp) hl hli (sm.trans s6) hD (s6 _ _ eD)
    · rintro σ H1 ⟨sm, eD, v3, v4, v5, rfl⟩
      walk_at "go"
      rw [hlen, List.take_length] at eD
      have hlt : ∀ c ∈ form, c < 0x110000 := by rcases hk with ⟨_, rfl, _⟩ | ⟨_, rfl, _⟩ <;> decide
      have hz : ∀ a ∈ l, (wF form a).length ≤ 1000 := fun a ha => by
        rcases hk with ⟨_, rfl, _⟩ | ⟨_, rfl, _⟩
        · exact okW_len (hok a ha)
        · exact okJ_len (hok a ha)
      have hc : ∀ y ∈ l.map (wF form), ∀ c ∈ y, c < 0x110000 := fun y hy => by
        obtain ⟨a, _, rfl⟩ := List.mem_map.mp hy
        exact wF_lt hlt
      refine ⟨by decide, fun q hq => ?_⟩
      have dq : D ≠ q := ne_of_none eD hq
      have s2 := sm.trans (same_new (o := .lst []) hq)
      have ep : (upd H1 q (.lst [])) D = some (.lst (l.map fun a => vS (wF form a))) := by rw [upd_ne dq]; exact eD
      have ep2 : (upd H1 q (.lst [])) D = some (.lst ((l.map (wF form)).map fun y => V.str (SX.S y))) := by rw [ep, List.map_map]; rfl
      refine ⟨_, _, .lst (.inl (.inl ep2)) (strs_dp _), .lst (.inl (.inl upd_same)) .nil, strs_shaped hc, by decide, _, rfl, ?_⟩
      rw [strs_eqv]
      cases l with
      | nil =>
        rw [show (Str.ofString "-") = SX.S [45] by decide +kernel]
        exact h _ s2
      | cons b l =>
        rw [decide_eq_false (by simp), if_pos (by decide)]
        exact ⟨rfl, join_end hz hl (by simp) s2 ep h⟩
end
end TX
/-! part A3 -/
/-! What is read of a text. -/
namespace TX
open PySem PySem.Spec PyProof.Rows L2 NT RW4
/-- isinstance(e, c), e the exception that the suite holds, with a dict of its own -/
def rIsD (K : PySem.W.Frag) (cls : Value) (d : Option Addr) (a : Addr) : List V → Hp → VK → Prop := fun xs H Q => ∃ (C : Addr) (c : V) (cv : Value) (b : Bool) (dd : Addr) (fs : List (Str × V)), cls = .ref C ∧ d = some dd ∧ H dd = some (.xd fs) ∧ xs = [.ref a, c] ∧ ExcC K C ∧ (∀ u, RelV c u → u = cv) ∧ PySem.W.kitOne K (.ref C) cv = some b ∧ Q (.bl b) H
theorem call_isD {X : Cx} {a : Addr} {cls : Value} {d : Option Addr} {oe : Obj} {pn : List (Addr × Obj)} (hz : Zc cls d oe) (hf : ∃ vs, oe.data = .fields vs) : CallR (X.suite a ((a, oe) :: pn)) (.builtin "isinstance") (rIsD X.K cls d a) := by
  intro pins s σ H xs us Q I r h
  obtain ⟨C, c, cv, b, dd, fs, rfl, rfl, ea, rfl, T, hcv, e, q⟩ := h
  cases r with
  | cons rx rr =>
    cases rr with
    | cons rt rr =>
      cases rr
      cases rx
      have ec := hcv _ rt
      subst ec
      obtain ⟨hget, _⟩ := I.pin (a, oe) (List.mem_append.mpr (.inl List.mem_cons_self))
      obtain ⟨vs, hv⟩ := hf
      have hx : ObjOk X.prog X.w H s.heap dd (.xd fs) := I.hok dd _ ea
      obtain ⟨mA, hns, hr⟩ := hx
      obtain ⟨od, ho, hl⟩ := lookIn_ns hns
      have J : PySem.W.InstAt s.heap a oe C (some od) := ⟨hget, hz.1, by unfold PySem.W.notCls; rw [hv] <;> rfl, by rw [hz.2]; exact ho⟩
      obtain ⟨cd, hcd, _⟩ := PySem.W.any_some T.hd
      exact PySem.W.kia_one (PySem.W.kitx_exc (by rw [hcd]; rfl) T.hg T.hk T.hs T.ha T.hn T.ht T.hm) I.kIn J e (fun z => nomatch z) fun tk => ⟨.bl b, H, I.kept (t' := tk) fun _ _ z => z, rfl, q⟩
local macro_rules | `(tactic| walk_at "go") => `(tactic| simp only [L2.start, List.map_cons, List.map_nil, List.length_cons, List.length_nil, Nat.reduceSub, Nat.reduceAdd, List.replicate_succ, List.replicate_zero, List.cons_append, List.nil_append, List.append_nil,
  tSeq, tNext, tRet, tIfS, tTest, tAnd, tOr, tNot, tCB, tCall, tCons, tNil, tVar, tC, tOp, tUn, tAsg, gName, rI0, rI, CMul, CDiv, tDGet, sDPut, tBM0, tBM, tTup, tLst, tPar, gTup, gNil, gCons, tIf, tAug, tRevL, tDisp, tPairs, tYes, wipe, tDrop, L2.tSl, tNotV, tAndV, tOrV, tB, rSlS, ipI, tNoPart, NdefX.startF, tOst, tMkO, rIxL, rIxT, rIxS, rAppend, rExtend, rPop, rSlL, rSetL, tPart, rEq, rNe, tFmt, tJn, tJs, tFi, gLst, tThen, tIf, rS, cRi, tCallS, ↓reduceIte, L2.gSub, ↓reduceIte,
  List.getElem?_cons_zero, List.getElem?_cons_succ, List.set_cons_zero, List.set_cons_succ, Option.some.injEq, V.int.injEq, V.str.injEq, V.ref.injEq, V.bl.injEq, exists_eq_left, exists_eq_left', exists_eq_right, exists_eq_right', exists_eq', true_and, and_true, decide_eq_true_eq, List.cons.injEq, reduceCtorEq, false_and, false_or, or_false, exists_false, exists_and_left, exists_and_right, and_assoc])
section
variable {w : World} {K : PySem.W.Frag} {mg : Str → Option Value} {base : Heap}
def KD (part : Str) (form : List Nat) (d : List Int → PyData) : Prop := (part = "cells" ∧ form = fC ∧ d = dC) ∨ (part = "weights" ∧ form = fW ∧ d = dW) ∨ (part = "joins" ∧ form = fJ ∧ d = dJ)
def spRA (K : PySem.W.Frag) : Sp := fun vs H Q E => ∃ (v : V) (part : Str), vs = [v, .str part] ∧
  ((IsTx K H v false ∧ (part = "way" ∨ ∃ form d, KD part form d) ∧ ∀ H', Same H H' → Q (.int 0) H') ∨
  (∃ (form : List Nat) (d : List Int → PyData) (X : List Nat), KD part form d ∧ v = .str (SX.S X) ∧ X.length ≤ 100000 ∧
    (∀ l, itemsS form X = .ok l → (∀ a ∈ l, okI form a) → ∀ a H', Same H H' → At (fun b => H b ≠ none) H' (.list [.tuple (l.map d)]) a → Q a H') ∧ (∀ j : Nat, itemsS form X = .error j → ∀ H', Same H H' → Q (.int (j : Nat)) H')) ∨
  (∃ X : List Nat, part = "way" ∧ v = .str (SX.S X) ∧ X.length ≤ 100000 ∧ ((∀ c ∈ X, c ∈ sW) → ∀ a H', Same H H' → At (fun b => H b ≠ none) H' (.list [.str (SX.S X)]) a → Q a H') ∧
    (∀ k : Nat, k < X.length → (X.takeWhile fun c => decide (c ∈ sW)).length = k → ∀ H', Same H H' → Q (.int (k : Nat)) H')))
theorem bad_caught {C R fI cc : Addr} (B : BadC K mg C R fI cc) {x0 x1 x2 : Option V} {D : Ends} {H : Hp} {n : Int} (h : ∀ H', Same H H' → D.rt (.int n) H') :
    Bad C (WE (wAs K (.ref C) 2 (fun a cls d => tRet (tIf (tB (tCB (rIsD K cls d a) (tCons (tVar 2) (tCons (tC (.ref R)) tNil)))) (tXf a cls d C "place" (tVar 2)) (tC (.str "odd")))) (fun _ _ _ _ => False) D) [x0, x1, x2]) H n := by
  intro d H' sm hd ed
  refine ⟨true, B.te, fun _ a ha => ?_, fun z => nomatch z⟩
  walk_at "go"
  refine ⟨C, .ref R, .ref R, true, d, _, rfl, rfl, ed, rfl, B.ex, fun u hu => hu, B.kit, true, rfl, iteT ?_⟩
  exact ⟨_, rfl, rfl, rfl, d, _, .int n, rfl, ed, rfl, h _ sm⟩
theorem one_new {H H1 : Hp} {Q : VK} {dt : PyData} {x : V} (ha : At (fun b => H b ≠ none) H1 dt x) (sm : Same H H1) (h : ∀ a H', Same H H' → At (fun b => H b ≠ none) H' (.list [dt]) a → Q a H') :
    1 ≤ sizeLine ∧ ∀ (p : Addr), H1 p = none → Q (V.ref p) (upd H1 p (HO.lst [x])) :=
  ⟨by decide, fun p hp => h _ _ (sm.trans (same_new hp)) (at_lst (fun z => z (sm.free hp)) upd_same (atl_cons (ha.kp (Kp.upd_new hp)) atl_nil))⟩
theorem ok_readAs (T : Txt w K mg) {C R fI cc : Addr} (B : BadC K mg C R fI cc) : Ok PW w K mg base CX0 9 "_law_read_as" ["text", "part"] (spRA K) := by
  obtain ⟨f, fd, D⟩ := T.d_L_read_as
  refine ⟨f, fd, D.F.ok sc_L_read_as (fun vs H Q E h => ?_) (fun cdv A outer s H vs Q E hr h => ?_), D.g, D.F.kp, D.b⟩
  · obtain ⟨v, part, rfl, _⟩ := h
    rfl
  · obtain ⟨v, part, rfl, h⟩ := h
    have nd := sc_L_read_as.nd
    obtain ⟨f1, fd1, F1, g1, k1, b1⟩ := ok_readCells (w := w) (base := base) T B
    obtain ⟨f2, fd2, F2, g2, k2, b2⟩ := ok_readWay (w := w) (base := base) T B
    obtain ⟨f3, fd3, F3, g3, k3, b3⟩ := ok_readWeights (w := w) (base := base) T B
    obtain ⟨f4, fd4, F4, g4, k4, b4⟩ := ok_readJoins (w := w) (base := base) T B
    refine ⟨_, pss_one (ps_try_as (i := 2) (Wout := fun _ _ _ _ => False) rfl rfl nd rfl rfl ⟨rfl, by decide, .inl B.gC⟩ takes0
      (fun W pn xe tk _ => pss_cons (ps_if (pt_cmpR op_eq (pv 1) pe_str (nomark _)) (pss_one (ps_ret (pe_lst (pa_cons (pe_callS F1 hr rfl g1 k1 b1 (fun σ => passAt tk σ) (pa_cons (pv 0) pa_nil)) pa_nil)))) pss_nil)
        (pss_cons (ps_if (pt_cmpR op_eq (pv 1) pe_str (nomark _)) (pss_one (ps_ret (pe_lst (pa_cons (pe_callS F2 hr rfl g2 k2 b2 (fun σ => passAt tk σ) (pa_cons (pv 0) pa_nil)) pa_nil)))) pss_nil)
        (pss_one (ps_ret (pe_lst (pa_cons (pe_ifExp (pt_cmpR op_eq (pv 1) pe_str (nomark _)) (pe_callS F3 hr rfl g3 k3 b3 (fun σ => passAt tk σ) (pa_cons (pv 0) pa_nil)) (pe_callS F4 hr rfl g4 k4 b4 (fun σ => passAt tk σ) (pa_cons (pv 0) pa_nil))) pa_nil))))))
      (fun a oe cls d pn hz hf => pss_one (ps_ret (pe_ifExp (pt_val (pe_callB (call_isD hz hf) (by rfl) T.z_isinstance (by decide +kernel) (pa_cons (pv 2) (pa_cons (pe_glob (v := .ref R) rfl B.gR rfl) pa_nil))))
        (pe_xf B.xf B.noP hz hf (pv 2)) pe_str)))), ?_⟩
    rcases h with ⟨h1, hp, h2⟩ | ⟨form, d, X, hk, rfl, hl, h1, h2⟩ | ⟨X, rfl, rfl, hl, h1, h2⟩
    · rcases hp with rfl | ⟨form, d, ⟨rfl, rfl, rfl⟩ | ⟨rfl, rfl, rfl⟩ | ⟨rfl, rfl, rfl⟩⟩
      · walk_at "go"
        refine ⟨rfl, ?_⟩
        rw [if_neg (by decide +kernel)]
        exact ⟨rfl, v, rfl, .inl ⟨h1, bad_caught B h2⟩⟩
      · walk_at "go"
        exact ⟨rfl, v, rfl, .inl ⟨h1, bad_caught B h2⟩⟩
      · walk_at "go"
        refine ⟨rfl, ?_⟩
        rw [if_neg (by decide +kernel)]
        refine ⟨rfl, ?_⟩
        rw [if_neg (by decide +kernel)]
        exact ⟨rfl, v, rfl, .inl ⟨h1, bad_caught B h2⟩⟩
      · walk_at "go"
        refine ⟨rfl, ?_⟩
        rw [if_neg (by decide +kernel)]
        refine ⟨rfl, ?_⟩
        rw [if_neg (by decide +kernel)]
        refine ⟨rfl, ?_⟩
        rw [if_neg (by decide +kernel)]
        exact ⟨v, rfl, .inl ⟨h1, bad_caught B h2⟩⟩
    · rcases hk with ⟨rfl, rfl, rfl⟩ | ⟨rfl, rfl, rfl⟩ | ⟨rfl, rfl, rfl⟩
      · walk_at "go"
        exact ⟨rfl, _, rfl, .inr ⟨X, rfl, hl, fun l e ok a H' sm ha => one_new ha sm (h1 l e ok), fun j e => bad_caught B (h2 j e)⟩⟩
      · walk_at "go"
        refine ⟨rfl, ?_⟩
        rw [if_neg (by decide +kernel)]
        refine ⟨rfl, ?_⟩
        rw [if_neg (by decide +kernel)]
        exact ⟨rfl, _, rfl, .inr ⟨X, rfl, hl, fun l e ok a H' sm ha => one_new ha sm (h1 l e ok), fun j e => bad_caught B (h2 j e)⟩⟩
      · walk_at "go"
        refine ⟨rfl, ?_⟩
        rw [if_neg (by decide +kernel)]
        refine ⟨rfl, ?_⟩
        rw [if_neg (by decide +kernel)]
        refine ⟨rfl, ?_⟩
        rw [if_neg (by decide +kernel)]
        exact ⟨_, rfl, .inr ⟨X, rfl, hl, fun l e ok a H' sm ha => one_new ha sm (h1 l e ok), fun j e => bad_caught B (h2 j e)⟩⟩
    · walk_at "go"
      refine ⟨rfl, ?_⟩
      rw [if_neg (by decide +kernel)]
      exact ⟨rfl, _, rfl, .inr ⟨X, rfl, hl, fun hX => one_new at_str (fun _ _ z => z) (h1 hX), fun k hk e => bad_caught B (h2 k hk e)⟩⟩
end
end TX
/-! part A4 -/
/-! Rows written by both. -/
namespace TX
open PySem PySem.Spec PyProof.Rows L2 NT RW4
theorem pass0x {X : Cx} : Passes (L2.CX X.prog X.w) X E0 := fun _ _ _ _ _ _ _ h => by
  obtain ⟨_, _, _, _, _, _, _, _, _, _, _, _, z⟩ := h
  exact z.elim
local macro_rules | `(tactic| walk_at "go") => `(tactic| simp only [L2.start, List.map_cons, List.map_nil, List.length_cons, List.length_nil, Nat.reduceSub, Nat.reduceAdd, List.replicate_succ, List.replicate_zero, List.cons_append, List.nil_append, List.append_nil,
  tSeq, tNext, tRet, tIfS, tTest, tAnd, tOr, tNot, tCB, tCall, tCons, tNil, tVar, tC, tOp, tUn, tAsg, gName, rI0, rI, CMul, CDiv, tDGet, sDPut, tBM0, tBM, tTup, tLst, tPar, gTup, gNil, gCons, tIf, tAug, tRevL, tDisp, tPairs, tYes, wipe, tDrop, L2.tSl, tNotV, tAndV, tOrV, tB, rSlS, ipI, tNoPart, NdefX.startF, tOst, tMkO, rIxL, rIxT, rIxS, rAppend, rExtend, rPop, rSlL, rSetL, tPart, rEq, rNe, tFmt, tJn, tJs, tFi, gLst, tThen, tIf, rS, cRi, tCallS, ↓reduceIte, L2.gSub, ↓reduceIte,
  List.getElem?_cons_zero, List.getElem?_cons_succ, List.set_cons_zero, List.set_cons_succ, Option.some.injEq, V.int.injEq, V.str.injEq, V.ref.injEq, V.bl.injEq, exists_eq_left, exists_eq_left', exists_eq_right, exists_eq_right', exists_eq', true_and, and_true, decide_eq_true_eq, List.cons.injEq, reduceCtorEq, false_and, false_or, or_false, exists_false, exists_and_left, exists_and_right, and_assoc])
section
variable {w : World} {K : PySem.W.Frag} {mg : Str → Option Value} {base : Heap}
def spWr : Sp := fun vs H Q E => ∃ (v : V) (part : Str) (form : List Nat) (d : List Int → PyData) (l : List (List Int)), vs = [v, .str part] ∧ KD part form d ∧ At No H (.tuple (l.map d)) v ∧ l.length ≤ 1000 ∧ (∀ a ∈ l, okI form a) ∧ (∀ H', Same H H' → Q (.str (SX.S (wRow form l))) H')
theorem ok_rewritten (T : Txt w K mg) : Ok PW w K mg base CX0 3 "_law_rewritten" ["told", "part"] spWr := by
  obtain ⟨f, fd, D⟩ := T.d_L_rewritten
  refine ⟨f, fd, D.F.ok sc_L_rewritten (fun vs H Q E h => ?_) (fun cdv A outer s H vs Q E hr h => ?_), D.g, D.F.kp, D.b⟩
  · obtain ⟨v, part, form, d, l, rfl, _⟩ := h
    rfl
  · obtain ⟨v, part, form, d, l, rfl, hk, h⟩ := h
    have nd := sc_L_rewritten.nd
    refine ⟨_, pss_cons (ps_if (pt_cmpR op_eq (pv 1) pe_str (nomark _)) (pss_one (ps_ret (pe_d (E := E0) (ok_cellsText T) hr pass0x (pa_cons (pv 0) pa_nil)))) pss_nil)
      (pss_one (ps_ret (pe_ifExp (pt_cmpR op_eq (pv 1) pe_str (nomark _)) (pe_d (E := E0) (ok_weightsText T) hr pass0x (pa_cons (pv 0) pa_nil)) (pe_d (E := E0) (ok_joinsText T) hr pass0x (pa_cons (pv 0) pa_nil))))), ?_⟩
    rcases hk with ⟨rfl, rfl, rfl⟩ | ⟨rfl, rfl, rfl⟩ | ⟨rfl, rfl, rfl⟩
    · walk_at "go"
      exact ⟨rfl, v, l, rfl, h⟩
    · walk_at "go"
      refine ⟨rfl, ?_⟩
      rw [if_neg (by decide +kernel)]
      exact ⟨rfl, v, l, rfl, h⟩
    · walk_at "go"
      refine ⟨rfl, ?_⟩
      rw [if_neg (by decide +kernel)]
      refine ⟨rfl, ?_⟩
      rw [if_neg (by decide +kernel)]
      exact ⟨v, l, rfl, h⟩
theorem ok_written (T : Txt w K mg) : Ok PW w K mg base CX0 3 "_law_written" ["told", "part"] spWr := by
  obtain ⟨f, fd, D⟩ := T.d_L_written
  refine ⟨f, fd, D.F.ok sc_L_written (fun vs H Q E h => ?_) (fun cdv A outer s H vs Q E hr h => ?_), D.g, D.F.kp, D.b⟩
  · obtain ⟨v, part, form, d, l, rfl, _⟩ := h
    rfl
  · obtain ⟨v, part, form, d, l, rfl, hk, hv, hl, ho, h⟩ := h
    have nd := sc_L_written.nd
    refine ⟨_, pss_one (ps_ret (pe_ifExp (pt_cmpR op_eq (pv 1) pe_str (nomark _)) (pe_d (ok_cellsLine T) hr pass0 (pa_cons (pv 0) pa_nil)) (pe_d (ok_pairsLine T) hr pass0 (pa_cons (pv 0) (pa_cons (pv 1) pa_nil))))), ?_⟩
    rcases hk with ⟨rfl, rfl, rfl⟩ | ⟨rfl, rfl, rfl⟩ | ⟨rfl, rfl, rfl⟩
    · walk_at "go"
      exact ⟨rfl, v, l, rfl, .inl hv, hl, ho, h⟩
    · walk_at "go"
      refine ⟨rfl, ?_⟩
      rw [if_neg (by decide +kernel)]
      exact ⟨v, l, _, fW, dW, rfl, .inl ⟨rfl, rfl, rfl⟩, hv, hl, ho, h⟩
    · walk_at "go"
      refine ⟨rfl, ?_⟩
      rw [if_neg (by decide +kernel)]
      exact ⟨v, l, _, fJ, dJ, rfl, .inr ⟨rfl, rfl, rfl⟩, hv, hl, ho, h⟩
end
end TX
/-! part A5 -/
/-! The things in a drawn order; near texts. -/
namespace TX
open PySem PySem.Spec PyProof.Rows L2 NT RW4
/-- the source stands, whatever is left in it -/
def Src (H : Hp) (d c : Addr) : Prop := ∃ s, SrcAt H d c s ∧ s.cs.length ≤ 63
theorem pick_src {d c : Addr} {n : Int} {H : Hp} {Q : VK} {E : XK} (S : Src H d c) (hn : n < 1073741824) (h : ∀ r H', 0 ≤ r → (r < n ∨ r = 0) → Src H' d c → Kp (DC d c) H H' → Q (.int r) H') : spPick [.ref d, .int n] H Q E := by
  obtain ⟨s, hs, hl⟩ := S
  exact ⟨d, c, s, n, rfl, hs, hl, hn, fun r s' H' h0 h1 h2 h3 h4 => h r H' h0 h1 ⟨s', h2, Nat.le_trans h3 hl⟩ h4⟩
theorem Src.kp {H H' : Hp} {d c : Addr} (S : Src H d c) (k : Kp (fun _ => False) H H') : Src H' d c := by
  obtain ⟨s, hs, hl⟩ := S
  exact ⟨s, ⟨k _ _ hs.dd id, k _ _ hs.cc id⟩, hl⟩
theorem Src.same {H H' : Hp} {d c : Addr} (S : Src H d c) (k : Same H H') : Src H' d c := S.kp (Kp.of_same k)
theorem Src.hd {H : Hp} {d c : Addr} (S : Src H d c) : ∃ o, H d = some o := by
  obtain ⟨s, hs, _⟩ := S
  exact ⟨_, hs.dd⟩
theorem Src.hc {H : Hp} {d c : Addr} (S : Src H d c) : ∃ o, H c = some o := by
  obtain ⟨s, hs, _⟩ := S
  exact ⟨_, hs.cc⟩
theorem Src.upd {H : Hp} {d c p : Addr} {o : HO} (S : Src H d c) (n : ¬ DC d c p) : Src (upd H p o) d c := by
  obtain ⟨s, hs, hl⟩ := S
  have h1 : d ≠ p := fun z => n (.inl z.symm)
  have h2 : c ≠ p := fun z => n (.inr z.symm)
  exact ⟨s, ⟨by rw [upd_ne h1]; exact hs.dd, by rw [upd_ne h2]; exact hs.cc⟩, hl⟩
/-- what is new is none of the source -/
theorem Src.off {H : Hp} {d c p : Addr} (S : Src H d c) (h : H p = none) : ¬ DC d c p := by
  obtain ⟨o, ho⟩ := S.hd
  obtain ⟨u, hu⟩ := S.hc
  rintro (z | z)
  · rw [z, ho] at h
    cases h
  · rw [z, hu] at h
    cases h
def rLn (K : PySem.W.Frag) : List V → Hp → VK → Prop := fun xs H Q => ∃ p ys, xs = [.ref p] ∧ (SqL K H p ys ∨ SqT K H p ys) ∧ Q (.int ys.length) H
theorem call_ln {X : Cx} : CallR X (.builtin "len") (rLn X.K) := call_len_seq
local macro_rules | `(tactic| walk_at "go") => `(tactic| simp only [L2.start, List.map_cons, List.map_nil, List.length_cons, List.length_nil, Nat.reduceSub, Nat.reduceAdd, List.replicate_succ, List.replicate_zero, List.cons_append, List.nil_append, List.append_nil,
  tSeq, tNext, tRet, tIfS, tTest, tAnd, tOr, tNot, tCB, tCall, tCons, tNil, tVar, tC, tOp, tUn, tAsg, gName, rI0, rI, CMul, CDiv, tDGet, sDPut, tBM0, tBM, tTup, tLst, tPar, gTup, gNil, gCons, tIf, tAug, tRevL, tDisp, tPairs, tYes, wipe, tDrop, L2.tSl, tNotV, tAndV, tOrV, tB, rSlS, ipI, tNoPart, NdefX.startF, tOst, tMkO, rIxL, rIxT, rIxS, rAppend, rExtend, rPop, rSlL, rSetL, tPart, rEq, rNe, tFmt, tJn, tJs, tFi, gLst, tThen, tIf, rS, cRi, rLn, rPopAt, tCallS, ↓reduceIte, L2.gSub, ↓reduceIte,
  List.getElem?_cons_zero, List.getElem?_cons_succ, List.set_cons_zero, List.set_cons_succ, Option.some.injEq, V.int.injEq, V.str.injEq, V.ref.injEq, V.bl.injEq, exists_eq_left, exists_eq_left', exists_eq_right, exists_eq_right', exists_eq', true_and, and_true, decide_eq_true_eq, List.cons.injEq, reduceCtorEq, false_and, false_or, or_false, exists_false, exists_and_left, exists_and_right, and_assoc])
section
variable {w : World} {K : PySem.W.Frag} {mg : Str → Option Value} {base : Heap}
def spAny : Sp := fun vs H Q E => ∃ (d c a : Addr) (xs : List V), vs = [.ref d, .ref a] ∧ Src H d c ∧ ¬ DC d c a ∧ H a = some (.lst xs) ∧ xs.length ≤ 100 ∧
  ∀ D ys H', Kp (DC d c) H H' → Src H' d c → H D = none → H' D = some (.lst ys) → ys.length = xs.length → (∀ y ∈ ys, y ∈ xs) → Q (.ref D) H'
theorem ok_any (T : Txt w K mg) : Ok PW w K mg base CX0 2 "_law_any_order" ["source", "things"] spAny := by
  obtain ⟨f, fd, D⟩ := T.d_L_any_order
  refine ⟨f, fd, D.F.ok sc_L_any_order (fun vs H Q E h => ?_) (fun cdv A outer s H vs Q E hr h => ?_), D.g, D.F.kp, D.b⟩
  · obtain ⟨d, c, a, xs, rfl, _⟩ := h
    rfl
  · obtain ⟨d, c, a, xs, rfl, S, na, ea, hl, h⟩ := h
    have nd := sc_L_any_order.nd
    refine ⟨_, pss_cons (ps_set (i := 2) nd rfl (.inr rfl) (pe_callTy call_list_of (by rfl) T.z_list (by decide +kernel) (pa_cons (pv 1) pa_nil)))
      (pss_one (ps_ret (pe_lc (own := [("lap", 3)]) (g := gName 3) (tt := tYes) (te := tBM K "list" rPopAt (tVar 2) (tCons (tCall spPick [] E0 (tCons (tVar 0) (tCons (tCB (rLn K) (tCons (tVar 2) tNil)) tNil))) tNil)) rfl nd (pi_range1 (by rfl) T.z_range (pa_cons (pe_callB call_len_seq (by rfl) T.z_len PySem.boot_len (pa_cons (pv 2) pa_nil)) pa_nil)) (blkOk_by (N := n_L_any_order) (sc := defScope s_L_any_order) (by decide +kernel))
        (fun _ _ _ _ _ => pg_name (i := 3) nd rfl (.inl rfl)) (fun _ _ _ _ _ => pts_nil)
        (fun _ _ _ _ _ => by exact (pe_bm PySem.F.plainAttrs_list PySem.F.slot_list_pop PySem.F.type_list_pop mt_popAt (pv 2) (by exact (pa_cons (pe_d (ok_pick T) hr pass0 (by exact (pa_cons (pv 0) (pa_cons (pe_callB call_ln (by rfl) T.z_len PySem.boot_len (pa_cons (pv 2) pa_nil)) pa_nil)))) pa_nil))))))), ?_⟩
    walk_at "go"
    refine ⟨xs, .inl (.inl (.inl ea)), fun O hO => ?_⟩
    have dO : ¬ DC d c O := S.off hO
    refine ⟨.ref O, rfl, O, rfl, xs, .inl (.inl (.inl upd_same)), (xs.length : Int), rfl, by omega, by omega, ?_⟩
    rw [Int.toNat_natCast]
    intro D hD
    have s1 : Same H (upd H O (.lst xs)) := same_new hO
    have hHD : H D = none := s1.free hD
    have OD : O ≠ D := ne_of_none upd_same hD
    have dD : ¬ DC d c D := S.off hHD
    refine lc_it walk_range (fun i H' => ∃ os ys, Kp (DC d c) H H' ∧ Src H' d c ∧ H' O = some (.lst os) ∧ H' D = some (.lst ys) ∧ os.length = xs.length - i ∧ ys.length = i ∧ (∀ y ∈ os, y ∈ xs) ∧ (∀ y ∈ ys, y ∈ xs)) ?_ (fun _ _ _ _ => trivial) ?_ ?_
    · have s2 := s1.trans (same_new (o := .lst []) hD)
      exact ⟨xs, [], Kp.of_same s2, S.same s2, by rw [upd_ne OD]; exact upd_same, upd_same, rfl, rfl, fun _ z => z, fun _ z => nomatch z⟩
    · rintro i x H1 H2 hi ⟨os, ys, k, S1, eO, eD, lo, ly, mo, my⟩ ⟨rfl, rfl⟩
      walk_at "go"
      refine ⟨.inl ⟨rfl, _, .inl (.inl eO)⟩, os, .inl (.inl (.inl eO)), pick_src S1 (by omega) fun r H3 r0 r1 S3 k3 => ?_⟩
      have e3 := k3 _ _ eO dO
      have d3 := k3 _ _ eD dD
      have rl : r < os.length := by omega
      have rn : r.toNat < os.length := by omega
      have mem : os[r.toNat] ∈ os := List.getElem_mem rn
      refine ⟨os, r, rfl, e3, by omega, by omega, _, PySem.seqIndex_of r0 rl, os[r.toNat], List.getElem?_eq_getElem rn, ys, ?_, ?_, ?_, ?_, os.eraseIdx r.toNat, ?_, ys ++ [os[r.toNat]], upd_same, ?_, ?_, ?_, ?_⟩
      · rw [upd_ne OD.symm]
        exact d3
      · exact small_lt (m := 100) (by omega) (by decide)
      · exact fun b o hb nb => by
          rw [upd_ne (ne_of_none hb hHD), upd_ne (ne_of_none hb hO)]
          exact (k.trans k3) b o hb nb
      · exact (S3.upd dO).upd dD
      · rw [upd_ne OD]
        exact upd_same
      · rw [List.length_eraseIdx_of_lt rn]
        omega
      · rw [List.length_append, ly]
        rfl
      · exact fun y hy => mo y (List.mem_of_mem_eraseIdx hy)
      · intro y hy
        rcases List.mem_append.mp hy with hy | hy
        · exact my y hy
        · rw [List.mem_singleton.mp hy]
          exact mo _ mem
    · rintro H1 ⟨os, ys, k, S1, eO, eD, lo, ly, mo, my⟩
      exact h D ys H1 k S1 hHD eD ly my
end
end TX
/-! part A6 -/
/-! Near texts. -/
namespace TX
open PySem PySem.Spec PyProof.Rows L2 NT RW4
theorem cut_pre {X : List Nat} {j : Nat} : cutS (SX.S X) none (some ((j : Nat) : Int)) = SX.S (X.take j) := by
  unfold cutS
  rw [HT.sIx_nat, HT.sIx_none]
  show (⟨((X.drop (min 0 (SX.S X).length)).take (min j (SX.S X).length - min 0 (SX.S X).length)).toArray⟩ : Str) = _
  rw [S_len, Nat.min_eq_left (Nat.zero_le _), List.drop_zero, Nat.sub_zero]
  by_cases h : j ≤ X.length
  · rw [Nat.min_eq_left h]
  · rw [Nat.min_eq_right (by omega), List.take_of_length_le (Nat.le_refl _), List.take_of_length_le (by omega)]
local macro_rules | `(tactic| walk_at "go") => `(tactic| simp only [L2.start, List.map_cons, List.map_nil, List.length_cons, List.length_nil, Nat.reduceSub, Nat.reduceAdd, List.replicate_succ, List.replicate_zero, List.cons_append, List.nil_append, List.append_nil,
  tSeq, tNext, tRet, tIfS, tTest, tAnd, tOr, tNot, tCB, tCall, tCons, tNil, tVar, tC, tOp, tUn, tAsg, gName, rI0, rI, CMul, CDiv, tDGet, sDPut, tBM0, tBM, tTup, tLst, tPar, gTup, gNil, gCons, tIf, tAug, tRevL, tDisp, tPairs, tYes, wipe, tDrop, L2.tSl, tNotV, tAndV, tOrV, tB, rSlS, ipI, tNoPart, NdefX.startF, tOst, tMkO, rIxL, rIxT, rIxS, rAppend, rExtend, rPop, rSlL, rSetL, tPart, rEq, rNe, tFmt, tJn, tJs, tFi, gLst, tThen, tIf, rS, cRi, rLn, rPopAt, tCallS, ↓reduceIte, L2.gSub, ↓reduceIte,
  List.getElem?_cons_zero, List.getElem?_cons_succ, List.set_cons_zero, List.set_cons_succ, Option.some.injEq, V.int.injEq, V.str.injEq, V.ref.injEq, V.bl.injEq, exists_eq_left, exists_eq_left', exists_eq_right, exists_eq_right', exists_eq', true_and, and_true, decide_eq_true_eq, List.cons.injEq, reduceCtorEq, false_and, false_or, or_false, exists_false, exists_and_left, exists_and_right, and_assoc])
section
variable {w : World} {K : PySem.W.Frag} {mg : Str → Option Value} {base : Heap}
def spNear : Sp := fun vs H Q E => ∃ (d c : Addr) (X G : List Nat), vs = [.ref d, .str (SX.S X), .str (SX.S G)] ∧ Src H d c ∧ X.length ≤ 50000 ∧ 0 < G.length ∧ G.length ≤ 100 ∧
  ∀ (D : Addr) (ys : List (List Nat)) (H' : Hp), Kp (DC d c) H H' → Src H' d c → H D = none → H' D = some (.lst (ys.map vS)) → ys.length ≤ 5 → (∀ y ∈ ys, y.length ≤ X.length + 1) → Q (.ref D) H'
theorem ok_near (T : Txt w K mg) : Ok PW w K mg base CX0 2 "_law_near_texts" ["source", "text", "signs"] spNear := by
  obtain ⟨f, fd, D⟩ := T.d_L_near_texts
  refine ⟨f, fd, D.F.ok sc_L_near_texts (fun vs H Q E h => ?_) (fun cdv A outer s H vs Q E hr h => ?_), D.g, D.F.kp, D.b⟩
  · obtain ⟨d, c, X, G, rfl, _⟩ := h
    rfl
  · obtain ⟨d, c, X, G, rfl, S, hX, hG0, hG, h⟩ := h
    have nd := sc_L_near_texts.nd
    refine ⟨_, pss_cons (ps_set (i := 3) nd rfl (.inl rfl) (pe_lst pa_nil))
      (pss_cons (ps_for PassesOwn.never rfl (pi_range1 (by rfl) T.z_range (pa_cons pe_int pa_nil)) (pg_name (i := 4) nd rfl (.inl rfl))
        (pss_cons (ps_par (i := 5) (j := 6) (by rfl) nd rfl rfl (by decide) rfl rfl (pa_cons (pe_d (ok_pick T) hr pass0 (pa_cons (pv 0) (pa_cons (pe_op op_add (pe_callB call_len_str (by rfl) T.z_len PySem.boot_len (pa_cons (pv 1) pa_nil)) pe_int) pa_nil)))
            (pa_cons (pe_ix ix_str (pv 2) (pe_d (ok_pick T) hr pass0 (pa_cons (pv 0) (pa_cons (pe_callB call_len_str (by rfl) T.z_len PySem.boot_len (pa_cons (pv 2) pa_nil)) pa_nil))) (fun _ _ => rfl)) pa_nil)) (by rfl))
        (pss_cons (ps_set (i := 7) nd rfl (.inl rfl) (pe_lst (pa_cons (pe_op op_S (pe_op op_S (pe_slice sl_str (pv 1) po_none (po_some (pv 5))) (pv 6)) (pe_slice sl_str (pv 1) (po_some (pv 5)) po_none))
            (pa_cons (pe_op op_S (pe_slice sl_str (pv 1) po_none (po_some (pv 5))) (pe_slice sl_str (pv 1) (po_some (pe_op op_add (pv 5) pe_int)) po_none))
            (pa_cons (pe_op op_S (pe_op op_S (pe_slice sl_str (pv 1) po_none (po_some (pv 5))) (pv 6)) (pe_slice sl_str (pv 1) (po_some (pe_op op_add (pv 5) pe_int)) po_none))
            (pa_cons (pe_slice sl_str (pv 1) po_none (po_some (pv 5))) pa_nil))))))
        (pss_one (ps_expr (pe_bm PySem.F.plainAttrs_list PySem.F.slot_list_append PySem.F.type_list_append mt_append (pv 3) (pa_cons
          (pe_ix ix_list (pe_op op_cat (pv 7) (pe_lst (pa_cons (pe_op op_S (pv 1) (pv 6)) pa_nil))) (pe_d (ok_pick T) hr pass0 (pa_cons (pv 0) (pa_cons pe_int pa_nil))) (fun _ _ => rfl)) pa_nil)))))))
      (pss_one (ps_ret (pv 3)))), ?_⟩
    walk_at "go"
    refine ⟨by decide, fun D hD => ⟨5, rfl, by decide, by decide, for_it (n := 5) walk_range (fun i σ H' => ∃ (ys : List (List Nat)) (v4 v5 v6 v7 : Option V), Kp (DC d c) H H' ∧ Src H' d c ∧ H' D = some (.lst (ys.map vS)) ∧ ys.length = i ∧ (∀ y ∈ ys, y.length ≤ X.length + 1) ∧ σ = [some (.ref d), some (.str (SX.S X)), some (.str (SX.S G)), some (.ref D), v4, v5, v6, v7])
      ⟨[], none, none, none, none, Kp.of_same (same_new hD), S.same (same_new hD), upd_same, rfl, (fun _ z => nomatch z), rfl⟩ (fun _ _ _ _ _ => trivial) ?_ ?_⟩⟩
    · rintro i x σ H1 H2 hi ⟨ys, v4, v5, v6, v7, k1, S1, eD, ly, my, rfl⟩ ⟨rfl, rfl⟩
      have dD : ¬ DC d c D := S.off hD
      walk_at "go"
      refine ⟨by rw [S_len]; exact small_sz hX (by decide), pick_src S1 (by rw [S_len]; omega) fun r H3 r0 r1 S3 k3 => ?_⟩
      walk_at "go"
      refine ⟨by rw [S_len]; exact small_sz hG (by decide), pick_src S3 (by rw [S_len]; omega) fun q H4 q0 q1 S4 k4 => ?_⟩
      walk_at "go"
      obtain ⟨k, rfl⟩ := Int.eq_ofNat_of_zero_le r0
      obtain ⟨q, rfl⟩ := Int.eq_ofNat_of_zero_le q0
      rw [S_len] at q1
      have hq : q < G.length := by omega
      have lX : (SX.S X).length ≤ sizeLine := by rw [S_len]; exact small_sz hX (by decide)
      have lG : (SX.S G).length ≤ sizeLine := by rw [S_len]; exact small_sz hG (by decide)
      have l1 : (X.take k).length ≤ X.length := by rw [List.length_take]; omega
      have l2 : (X.take k).length + (X.drop k).length = X.length := by rw [List.length_take, List.length_drop]; omega
      have l3 : (X.take k).length + (X.drop (k + 1)).length ≤ X.length := by rw [List.length_take, List.length_drop]; omega
      refine ⟨lG, G[q], atI_nat (List.getElem?_eq_getElem hq), lX, _, cut_pre, [G[q]], rfl, ?_, lX, _, rfl, _, cut_S0, ?_, lX, lX, _, cut_pre, _, cut_S0 (i := k + 1), ?_, lX, _, cut_pre, [G[q]], rfl, ?_, lX, _, rfl, _, cut_S0 (i := k + 1), ?_, lX, by decide, fun p hp => ?_⟩
      · simp only [List.length_cons, List.length_nil]
        omega
      · simp only [List.length_append, List.length_cons, List.length_nil]
        omega
      · omega
      · simp only [List.length_cons, List.length_nil]
        omega
      · simp only [List.length_append, List.length_cons, List.length_nil]
        omega
      · rw [cut_pre]
        have e4 := k4 _ _ (k3 _ _ eD dD) dD
        have Dp : D ≠ p := ne_of_none e4 hp
        have hHp : H p = none := k1.none (k3.none (k4.none hp (S4.off hp)) (S3.off (k4.none hp (S4.off hp)))) (S1.off (k3.none (k4.none hp (S4.off hp)) (S3.off (k4.none hp (S4.off hp)))))
        refine ⟨.inl ⟨rfl, _, .inl (.inl (by rw [upd_ne Dp]; exact e4))⟩, X, rfl, [G[q]], rfl, ?_, by decide, fun p2 hp2 => ?_⟩
        · simp only [List.length_cons, List.length_nil]
          omega
        have pp2 : p ≠ p2 := ne_of_none upd_same hp2
        have hp2' : H4 p2 = none := by rw [upd_ne pp2.symm] at hp2; exact hp2
        have Dp2 : D ≠ p2 := ne_of_none e4 hp2'
        refine ⟨p, p2, [vS (X.take k ++ [G[q]] ++ X.drop k), vS (X.take k ++ X.drop (k + 1)), vS (X.take k ++ [G[q]] ++ X.drop (k + 1)), vS (X.take k)], [vS (X ++ [G[q]])], rfl, rfl, by rw [upd_ne pp2]; exact upd_same, upd_same, (show 5 ≤ sizeLine by decide), fun p3 hp3 => ?_⟩
        have s5 : Same H4 (upd H4 p (.lst [vS (X.take k ++ [G[q]] ++ X.drop k), vS (X.take k ++ X.drop (k + 1)), vS (X.take k ++ [G[q]] ++ X.drop (k + 1)), vS (X.take k)])) := same_new hp
        have s6 := s5.trans (same_new (o := .lst [vS (X ++ [G[q]])]) hp2)
        have s7 := s6.trans (same_new (o := .lst [vS (X.take k ++ [G[q]] ++ X.drop k), vS (X.take k ++ X.drop (k + 1)), vS (X.take k ++ [G[q]] ++ X.drop (k + 1)), vS (X.take k), vS (X ++ [G[q]])]) hp3)
        have hp3' : H4 p3 = none := s6.free hp3
        have Dp3 : D ≠ p3 := ne_of_none e4 hp3'
        refine pick_src (S4.same s7) (by decide) fun r H6 r0 r1 S6 k6 => ?_
        obtain ⟨r, rfl⟩ := Int.eq_ofNat_of_zero_le r0
        have hr5 : r < 5 := by omega
        let zs : List (List Nat) := [X.take k ++ [G[q]] ++ X.drop k, X.take k ++ X.drop (k + 1), X.take k ++ [G[q]] ++ X.drop (k + 1), X.take k, X ++ [G[q]]]
        have hzl : r < zs.length := hr5
        have hz : ∀ y ∈ zs, y.length ≤ X.length + 1 := by
          intro y hy
          simp only [zs, List.mem_cons, List.not_mem_nil, or_false] at hy
          rcases hy with rfl | rfl | rfl | rfl | rfl <;> first | omega | (simp only [List.length_append, List.length_cons, List.length_nil]; omega)
        have e6 := k6 _ _ (s7 _ _ e4) dD
        have e3 := k6 p3 _ upd_same (S4.off hp3')
        refine ⟨p3, rfl, _, r, rfl, .inl (.inl e3), _, atI_nat (v := vS zs[r]) (by rw [show ([vS (X.take k ++ [G[q]] ++ X.drop k), vS (X.take k ++ X.drop (k + 1)), vS (X.take k ++ [G[q]] ++ X.drop (k + 1)), vS (X.take k)] ++ [vS (X ++ [G[q]])]) = zs.map vS from rfl, List.getElem?_map, List.getElem?_eq_getElem hzl]; rfl), _, e6, ?_, ?_, ?_, ys ++ [zs[r]], ?_, ?_, ?_⟩
        · rw [List.length_map]
          exact small_lt (m := 100) (by omega) (by decide)
        · intro b o hb nb
          rw [upd_ne (ne_of_none hb hD)]
          exact k6 _ _ (s7 _ _ (k4 _ _ (k3 _ _ (k1 _ _ hb nb) nb) nb)) nb
        · exact S6.upd dD
        · rw [upd_same, List.map_append]
          rfl
        · rw [List.length_append, ly]
          rfl
        · intro y hy
          rcases List.mem_append.mp hy with hy | hy
          · exact my y hy
          · rw [List.mem_singleton.mp hy]
            exact hz _ (List.getElem_mem hzl)
    · rintro σ H1 ⟨ys, v4, v5, v6, v7, k1, S1, eD, ly, my, rfl⟩
      walk_at "go"
      exact h D ys H1 k1 S1 hD eD (by omega) my
end
end TX
/-! part B1 -/
/-! The machine's stacks in the heap. -/
namespace TX
open PySem PySem.Spec PyProof.Rows L2 NT RW4
def dWay (ws : List Str) : PyData := .list (ws.map .str)
def dStk (s : Stk) : PyData := .tuple (s.map .str)
def symB (x : Str) : Bool := (ways gC x).isSome || decide (x ∈ terms)
theorem sym_cl0 : gC.all (fun p => p.2.all fun w => w.all symB) = true := by decide +kernel
theorem sym_len0 : gC.all (fun p => decide (p.2.length ≤ 3) && p.2.all fun w => decide (w.length ≤ 3)) = true := by decide +kernel
theorem sym_ok0 : (gC.map (·.1) ++ terms).all PyData.strOk = true := by decide +kernel
theorem term_ways0 : terms.all (fun x => (ways gC x).isNone) = true := by decide +kernel
theorem ways_mem {g : Gr} {x : Str} {ws : List (List Str)} (h : ways g x = some ws) : ∃ p ∈ g, p.1 = x ∧ p.2 = ws := by
  unfold ways at h
  cases e : g.find? fun p => decide (p.1 = x) with
  | none =>
    rw [e] at h
    cases h
  | some p =>
    rw [e] at h
    cases h
    have q := List.find?_some (p := fun p : Str × List (List Str) => decide (p.1 = x)) e
    exact ⟨p, List.mem_of_find?_eq_some e, of_decide_eq_true q, rfl⟩
theorem sym_cl {x : Str} {ws : List (List Str)} (h : ways gC x = some ws) : ∀ w ∈ ws, ∀ y ∈ w, symB y = true := by
  obtain ⟨p, hp, _, rfl⟩ := ways_mem h
  exact fun w hw y hy => List.all_eq_true.mp (List.all_eq_true.mp (List.all_eq_true.mp sym_cl0 p hp) w hw) y hy
theorem sym_len {x : Str} {ws : List (List Str)} (h : ways gC x = some ws) : ws.length ≤ 3 ∧ ∀ w ∈ ws, w.length ≤ 3 := by
  obtain ⟨p, hp, _, rfl⟩ := ways_mem h
  have q := List.all_eq_true.mp sym_len0 p hp
  rw [Bool.and_eq_true] at q
  exact ⟨of_decide_eq_true q.1, fun w hw => of_decide_eq_true (List.all_eq_true.mp q.2 w hw)⟩
theorem sym_ok {x : Str} (h : symB x = true) : PyData.strOk x = true := by
  refine List.all_eq_true.mp sym_ok0 x ?_
  unfold symB at h
  rcases Bool.or_eq_true _ _ ▸ h with h | h
  · cases e : ways gC x with
    | none =>
      rw [e] at h
      cases h
    | some ws =>
      obtain ⟨p, hp, e1, _⟩ := ways_mem e
      exact List.mem_append_left _ (List.mem_map.mpr ⟨p, hp, e1⟩)
  · exact List.mem_append_right _ (of_decide_eq_true h)
theorem sym_term {x : Str} (h : symB x = true) (hn : ways gC x = none) : x ∈ terms := by
  unfold symB at h
  rw [hn] at h
  simpa using h
/-- the grammar's dict, as far as the machine asks -/
def GrAt (H : Hp) (g : Addr) : Prop := ∃ kvs : List (Key × V), H g = some (.dK kvs) ∧ (∀ x ws, ways gC x = some ws → ∃ v, valV kvs (.inr x) = some v ∧ At No H (.list (ws.map dWay)) v) ∧ ∀ x, x ∈ terms → valV kvs (.inr x) = none
theorem GrAt.same {H H' : Hp} {g : Addr} (h : GrAt H g) (s : Same H H') : GrAt H' g := by
  obtain ⟨kvs, e, h1, h2⟩ := h
  refine ⟨kvs, s _ _ e, fun x ws hx => ?_, h2⟩
  obtain ⟨v, a, b⟩ := h1 x ws hx
  exact ⟨v, a, b.kp (Kp.of_same s)⟩
/-- tuples stand -/
def Tk (H H' : Hp) : Prop := ∀ b xs, H b = some (.tup xs) → H' b = some (.tup xs)
theorem Tk.trans {H H1 H2 : Hp} (a : Tk H H1) (b : Tk H1 H2) : Tk H H2 := fun c xs h => b c xs (a c xs h)
theorem Tk.of {H H' : Hp} (s : Same H H') : Tk H H' := fun b xs h => s _ _ h
theorem Tk.new {H : Hp} {p : Addr} {o : HO} (h : H p = none) : Tk H (upd H p o) := Tk.of (same_new h)
theorem Tk.lst {H : Hp} {p : Addr} {ys : List V} {o : HO} (h : H p = some (.lst ys)) : Tk H (upd H p o) := fun b xs e => by
  have : b ≠ p := fun z => by
    rw [z, h] at e
    cases e
  rw [upd_ne this]
  exact e
theorem Tk.dT {H : Hp} {p : Addr} {kvs : List (List Key × V)} {o : HO} (h : H p = some (.dT kvs)) : Tk H (upd H p o) := fun b xs e => by
  have : b ≠ p := fun z => by
    rw [z, h] at e
    cases e
  rw [upd_ne this]
  exact e
theorem Tk.frz {H : Hp} {p : Addr} {u : Obj} {v : HO} {o : HO} (h : H p = some (.frz u v)) : Tk H (upd H p o) := fun b xs e => by
  have : b ≠ p := fun z => by
    rw [z, h] at e
    cases e
  rw [upd_ne this]
  exact e
theorem strs_at {S : Addr → Prop} {H H' : Hp} : ∀ {s : List Str} {vs : List V}, AtL S H (s.map PyData.str) vs → vs = s.map V.str
  | [], vs, h => h.nil
  | x :: s, vs, h => by
    obtain ⟨v, r, rfl, h1, h2⟩ := h.cons
    rw [h1.str, strs_at (H' := H') h2]
    rfl
theorem at_strs {S : Addr → Prop} {H : Hp} : ∀ s : List Str, AtL S H (s.map PyData.str) (s.map V.str)
  | [] => atl_nil
  | x :: s => atl_cons at_str (at_strs s)
/-- a stack at a value -/
def Sk (H : Hp) (s : Stk) (v : V) : Prop := ∃ p, v = .ref p ∧ H p = some (.tup (s.map V.str))
inductive SkL (H : Hp) : List Stk → List V → Prop where
  | nil : SkL H [] []
  | cons {s : Stk} {ss : List Stk} {v : V} {vs : List V} (h : Sk H s v) (r : SkL H ss vs) : SkL H (s :: ss) (v :: vs)
theorem Sk.tk {H H' : Hp} {s : Stk} {v : V} (h : Sk H s v) (t : Tk H H') : Sk H' s v := by
  obtain ⟨p, e, hp⟩ := h
  exact ⟨p, e, t _ _ hp⟩
theorem SkL.tk {H H' : Hp} {ss : List Stk} {vs : List V} (h : SkL H ss vs) (t : Tk H H') : SkL H' ss vs := by
  induction h with
  | nil => exact .nil
  | cons h _ ih => exact .cons (h.tk t) ih
theorem SkL.length {H : Hp} {ss : List Stk} {vs : List V} (h : SkL H ss vs) : vs.length = ss.length := by
  induction h with
  | nil => rfl
  | cons _ _ ih => rw [List.length_cons, List.length_cons, ih]
theorem SkL.append {H : Hp} {ss tt : List Stk} {vs us : List V} (h : SkL H ss vs) (g : SkL H tt us) : SkL H (ss ++ tt) (vs ++ us) := by
  induction h with
  | nil => exact g
  | cons h _ ih => exact .cons h ih
theorem SkL.snoc {H : Hp} {ss : List Stk} {s : Stk} {vs : List V} {v : V} (h : SkL H ss vs) (g : Sk H s v) : SkL H (ss ++ [s]) (vs ++ [v]) := h.append (.cons g .nil)
theorem SkL.last {H : Hp} {ss : List Stk} {s : Stk} : ∀ {vs : List V}, SkL H (ss ++ [s]) vs → ∃ us v, vs = us ++ [v] ∧ SkL H ss us ∧ Sk H s v := by
  induction ss with
  | nil =>
    intro vs h
    cases h with
    | cons h r =>
      cases r
      exact ⟨[], _, rfl, .nil, h⟩
  | cons a ss ih =>
    intro vs h
    cases h with
    | cons h r =>
      obtain ⟨us, v, rfl, h1, h2⟩ := ih r
      exact ⟨_ :: us, v, rfl, .cons h h1, h2⟩
theorem SkL.dp {K : PySem.W.Frag} {H : Hp} {ss : List Stk} {vs : List V} (h : SkL H ss vs) : DpAll K H vs (ss.map dStk) := by
  have q : ∀ s : List Str, DpAll K H (s.map V.str) (s.map PyData.str) := fun s => by
    induction s with
    | nil => exact .nil
    | cons x s ih => exact .cons (.str x) ih
  induction h with
  | nil => exact .nil
  | @cons s ss v vs h _ ih =>
    obtain ⟨p, rfl, hp⟩ := h
    exact .cons (.tup (.inl (.inl hp)) (q s)) ih
theorem stk_dp {K : PySem.W.Frag} {H : Hp} (s : List Str) : DpAll K H (s.map V.str) (s.map PyData.str) := by
  induction s with
  | nil => exact .nil
  | cons x s ih => exact .cons (.str x) ih
theorem stk_can {s : Stk} (h : ∀ y ∈ s, symB y = true) : PyData.canLayAll0 (s.map PyData.str) = true := by
  induction s with
  | nil => rfl
  | cons x s ih =>
    simp only [List.map_cons, PyData.canLayAll0, PyData.canLay0, sym_ok (h x List.mem_cons_self), Bool.true_and]
    exact ih fun y hy => h y (List.mem_cons_of_mem _ hy)
theorem stk_depth (s : Stk) : PyData.depthAll (s.map PyData.str) = 0 := by
  induction s with
  | nil => rfl
  | cons x s ih =>
    simp only [List.map_cons, PyData.depthAll, PyData.depth, ih]
    rfl
theorem stk_shaped {s : Stk} (h : ∀ y ∈ s, symB y = true) : SeqAt.shaped (.tuple (s.map PyData.str)) = true := by
  unfold SeqAt.shaped
  simp only [PyData.canLay0, PyData.depth, stk_can h, stk_depth, Bool.true_and]
  rfl
theorem opn_can {ss : List Stk} (h : ∀ s ∈ ss, ∀ y ∈ s, symB y = true) : PyData.canLayAll0 (ss.map dStk) = true := by
  induction ss with
  | nil => rfl
  | cons s ss ih =>
    simp only [List.map_cons, PyData.canLayAll0, dStk, PyData.canLay0, stk_can (h s List.mem_cons_self), Bool.true_and]
    exact ih fun y hy => h y (List.mem_cons_of_mem _ hy)
theorem opn_depth (ss : List Stk) : PyData.depthAll (ss.map dStk) ≤ 1 := by
  induction ss with
  | nil => exact Nat.zero_le _
  | cons s ss ih =>
    simp only [List.map_cons, PyData.depthAll, dStk, PyData.depth, stk_depth]
    exact Nat.max_le.mpr ⟨Nat.le_refl _, ih⟩
theorem opn_shaped {ss : List Stk} (h : ∀ s ∈ ss, ∀ y ∈ s, symB y = true) : SeqAt.shaped (.list (ss.map dStk)) = true := by
  unfold SeqAt.shaped
  simp only [PyData.canLay0, PyData.depth, opn_can h, Bool.true_and]
  have := opn_depth ss
  exact decide_eq_true (by omega)
theorem opn_eqv (ss : List Stk) : PyData.eqv (.list (ss.map dStk)) (.list []) = decide (ss = []) := by
  cases ss with
  | nil => rfl
  | cons y ys => simp [PyData.eqv, PyData.eqvAll]
theorem stk_eqv (s : Stk) : PyData.eqv (.tuple (s.map PyData.str)) (.tuple []) = decide (s = []) := by
  cases s with
  | nil => rfl
  | cons y ys => simp [PyData.eqv, PyData.eqvAll]
/-- the ready ones as a dict's entries -/
def rdK (rs : List Stk) : List (List Key × V) := rs.map fun r => (r.map Sum.inr, V.bl true)
theorem key_str (s : Stk) : (s.map (Sum.inr : Str → Key)).map kV = s.map V.str := by
  rw [List.map_map]
  rfl
theorem key_inj {a b : Stk} (h : a.map (Sum.inr : Str → Key) = b.map Sum.inr) : a = b := by
  have := congrArg (List.map fun k : Key => match k with | .inr x => x | .inl _ => "") h
  rw [List.map_map, List.map_map] at this
  have e : ∀ l : Stk, List.map ((fun k : Key => match k with | .inr x => x | .inl _ => "") ∘ Sum.inr) l = l := fun l => by
    induction l with
    | nil => rfl
    | cons x l ih => rw [List.map_cons, ih]; rfl
  rw [e, e] at this
  exact this
theorem rdK_val (rs : List Stk) (r : Stk) : valV (rdK rs) (r.map Sum.inr) = if r ∈ rs then some (.bl true) else none := by
  induction rs with
  | nil => rfl
  | cons a rs ih =>
    unfold rdK at ih ⊢
    rw [List.map_cons]
    by_cases h : a = r
    · subst h
      rw [if_pos List.mem_cons_self]
      exact valV_pos rfl
    · rw [valV_neg (p := (a.map Sum.inr, V.bl true)) (fun z => h (key_inj z)), ih]
      by_cases h2 : r ∈ rs
      · rw [if_pos h2, if_pos (List.mem_cons_of_mem _ h2)]
      · rw [if_neg h2, if_neg (fun z => (List.mem_cons.mp z).elim (fun z => h z.symm) h2)]
theorem rdK_put (rs : List Stk) (r : Stk) : putK (rdK rs) (r.map Sum.inr) (.bl true) = rdK (addR rs r) := by
  unfold addR
  by_cases h : r ∈ rs
  · rw [if_pos h]
    unfold putK
    rw [if_pos (by rw [valV_any, rdK_val, if_pos h]; rfl)]
    unfold rdK
    rw [List.map_map]
    refine List.map_congr_left fun a _ => ?_
    show (if a.map Sum.inr = r.map Sum.inr then _ else _) = _
    split
    · rename_i z
      rw [key_inj z]
    · rfl
  · rw [if_neg h, putK_new _ (by rw [rdK_val, if_neg h])]
    unfold rdK
    rw [List.map_append]
    rfl
theorem stp_append (c : Nat) (a b : List Stk) : stp c (a ++ b) = stp c a ++ stp c b := by
  induction a with
  | nil => rfl
  | cons s a ih =>
    cases s with
    | nil => exact ih
    | cons h t =>
      rw [List.cons_append]
      show (if fits c h = true then t :: stp c (a ++ b) else stp c (a ++ b)) = (if fits c h = true then t :: stp c a else stp c a) ++ stp c b
      rw [ih]
      split <;> rfl
theorem addR_len (rs : List Stk) (r : Stk) : (addR rs r).length ≤ rs.length + 1 := by
  unfold addR
  split
  · omega
  · rw [List.length_append]
    exact Nat.le_refl _
theorem addR_mem {rs : List Stk} {r s : Stk} (h : s ∈ addR rs r) : s ∈ rs ∨ s = r := by
  unfold addR at h
  split at h
  · exact .inl h
  · rcases List.mem_append.mp h with h | h
    · exact .inl h
    · exact .inr (List.mem_singleton.mp h)
theorem stp_len (c : Nat) (a : List Stk) : (stp c a).length ≤ a.length := by
  induction a with
  | nil => exact Nat.le_refl _
  | cons s a ih =>
    cases s with
    | nil =>
      unfold stp
      rw [List.length_cons]
      omega
    | cons h t =>
      unfold stp
      split
      · rw [List.length_cons, List.length_cons]
        omega
      · rw [List.length_cons]
        omega
theorem stp_mem {c : Nat} {a : List Stk} {t : Stk} (h : t ∈ stp c a) : ∃ x, x :: t ∈ a := by
  induction a with
  | nil => cases h
  | cons s a ih =>
    cases s with
    | nil =>
      unfold stp at h
      obtain ⟨x, hx⟩ := ih h
      exact ⟨x, List.mem_cons_of_mem _ hx⟩
    | cons y u =>
      unfold stp at h
      split at h
      · rcases List.mem_cons.mp h with rfl | h
        · exact ⟨y, List.mem_cons_self⟩
        · obtain ⟨x, hx⟩ := ih h
          exact ⟨x, List.mem_cons_of_mem _ hx⟩
      · obtain ⟨x, hx⟩ := ih h
        exact ⟨x, List.mem_cons_of_mem _ hx⟩
end TX
/-! part A7 -/
/-! How far: the law's machine. -/
namespace TX
open PySem PySem.Spec PyProof.Rows L2 NT RW4
def rIS : R2 := fun x y H Q => ∃ (c : Nat) (z : Str), x = .str ⟨#[c]⟩ ∧ y = .str z ∧ Q (.bl (decide (c ∈ z.cps.toList))) H
theorem op_IS {X : Cx} : OpR X (compareOp .In) rIS := op_in_sign
local macro_rules | `(tactic| walk_at "go") => `(tactic| simp only [L2.start, List.map_cons, List.map_nil, List.length_cons, List.length_nil, Nat.reduceSub, Nat.reduceAdd, List.replicate_succ, List.replicate_zero, List.cons_append, List.nil_append, List.append_nil,
  tSeq, tNext, tRet, tIfS, tTest, tAnd, tOr, tNot, tCB, tCall, tCons, tNil, tVar, tC, tOp, tUn, tAsg, gName, rI0, rI, CMul, CDiv, tDGet, sDPut, tBM0, tBM, tTup, tLst, tPar, gTup, gNil, gCons, tIf, tAug, tRevL, tDisp, tPairs, tYes, wipe, tDrop, L2.tSl, tNotV, tAndV, tOrV, tB, rSlS, ipI, tNoPart, NdefX.startF, tOst, tMkO, rIxL, rIxT, rIxS, rAppend, rExtend, rPop, rSlL, rSetL, tPart, rEq, rNe, tFmt, tJn, tJs, tFi, gLst, tThen, tIf, rS, rIS, cRi, rLn, rPopAt, tCallS, ↓reduceIte, L2.gSub, ↓reduceIte,
  List.getElem?_cons_zero, List.getElem?_cons_succ, List.set_cons_zero, List.set_cons_succ, Option.some.injEq, V.int.injEq, V.str.injEq, V.ref.injEq, V.bl.injEq, exists_eq_left, exists_eq_left', exists_eq_right, exists_eq_right', exists_eq', true_and, and_true, decide_eq_true_eq, List.cons.injEq, reduceCtorEq, false_and, false_or, or_false, exists_false, exists_and_left, exists_and_right, and_assoc])
section
variable {w : World} {K : PySem.W.Frag} {mg : Str → Option Value} {base : Heap}
def kvL : List (Key × V) := [(.inr "digit", .str "0123456789"), (.inr "1-9", .str "123456789")]
theorem kvL_get (h : Str) : (valV kvL (Sum.inr h)).getD (.str h) = .str (if h = "digit" then ("0123456789" : Str) else if h = "1-9" then ("123456789" : Str) else h) := by
  by_cases h1 : h = "digit"
  · rw [if_pos h1, h1]
    rw [show valV kvL (Sum.inr ("digit" : Str)) = some (.str "0123456789") from valV_pos rfl]
    rfl
  · rw [if_neg h1]
    rw [show valV kvL (Sum.inr h) = valV [(.inr "1-9", .str "123456789")] (Sum.inr h) from valV_neg (fun z => h1 (Sum.inr.inj z).symm)]
    by_cases h2 : h = "1-9"
    · rw [if_pos h2, h2, valV_pos rfl]
      rfl
    · rw [if_neg h2, valV_neg (fun z => h2 (Sum.inr.inj z).symm)]
      rfl
def spFar : Sp := fun vs H Q E => ∃ (g : Addr) (X : List Nat) (x : Str) (j : Nat) (b : Bool), vs = [.ref g, .str (SX.S X), .str x] ∧ GrAt H g ∧ symB x = true ∧ X.length ≤ 50001 ∧ farM gC 40 [[x]] X = some (j, b) ∧
  ∀ p H', Same H H' → H p = none → H' p = some (.tup [.int (j : Nat), .bl b]) → Q (.ref p) H'
/-- what the loops keep: the grammar's place, the lots' dict, the open list -/
structure Fw (H H' : Hp) (L O : Addr) (opn : List Stk) : Prop where
  sm : Same H H'
  hL : H L = none
  eL : H' L = some (.dK kvL)
  hO : H O = none
  eO : ∃ vs, H' O = some (.lst vs) ∧ SkL H' opn vs
  sy : ∀ s ∈ opn, ∀ y ∈ s, symB y = true
/-- the for loop's turns -/
def FarI (H : Hp) (g L : Addr) (X : List Nat) (x : Str) (b : Bool) (j i : Nat) (σ : L2.St) (H' : Hp) : Prop := ∃ (O : Addr) (opn : List Stk) (j' : Nat) (v5 v6 v7 v8 : Option V), σ = [some (.ref g), some (.str (SX.S X)), some (.str x), some (.ref L), some (.ref O), v5, v6, v7, v8] ∧ Fw H H' L O opn ∧ i ≤ X.length ∧
      farM gC 40 opn (X.drop i) = some (j', b) ∧ i + j' = j ∧ opn.length ≤ 150 ∧ ∀ s ∈ opn, s.length ≤ 10 + 80 * i
/-- the while loop's turns -/
def WhI (H : Hp) (g L R : Addr) (X : List Nat) (x : Str) (rd : List Stk) (i m : Nat) (σ : L2.St) (H' : Hp) : Prop := ∃ (O : Addr) (opn ready : List Stk) (v7 v8 : Option V), σ = [some (.ref g), some (.str (SX.S X)), some (.str x), some (.ref L), some (.ref O), some (.int (0 + (i : Nat))), some (.ref R), v7, v8] ∧ Fw H H' L O opn ∧
          H' R = some (.dT (rdK ready)) ∧ clo gC m opn ready = some rd ∧ opn.length + 3 * m ≤ 270 ∧ ready.length + m ≤ 40 ∧ (∀ s ∈ opn, s.length + 2 * m ≤ 90 + 80 * i) ∧ ∀ s ∈ ready, s.length ≤ 90 + 80 * i ∧ ∀ y ∈ s, symB y = true
def WhE (H : Hp) (g L R : Addr) (X : List Nat) (x : Str) (rd : List Stk) (i : Nat) (σ : L2.St) (H' : Hp) : Prop := ∃ (O : Addr) (v7 v8 : Option V), σ = [some (.ref g), some (.str (SX.S X)), some (.str x), some (.ref L), some (.ref O), some (.int (0 + (i : Nat))), some (.ref R), v7, v8] ∧ Fw H H' L O [] ∧
          H' R = some (.dT (rdK rd)) ∧ rd.length ≤ 40 ∧ ∀ s ∈ rd, s.length ≤ 90 + 80 * i ∧ ∀ y ∈ s, symB y = true
theorem cutV1 {xs : List V} (h : 0 < xs.length) : cutV xs (some 1) none = xs.drop 1 := by
  unfold cutV
  rw [show (some (1 : Int)) = some ((1 : Nat) : Int) from rfl, HT.sIx_nat, HT.sIx_none]
  rw [Nat.min_eq_left (by omega)]
  exact List.take_of_length_le (by rw [List.length_drop]; exact Nat.le_refl _)
theorem clo_nil {g : Gr} {m : Nat} {ready : List Stk} : clo g (m + 1) [] ready = some ready := rfl
theorem clo_step {g : Gr} {m : Nat} {ini : List Stk} {last : Stk} {ready : List Stk} : clo g (m + 1) (ini ++ [last]) ready = (match last with
    | [] => clo g m ini (addR ready [])
    | h :: t => match ways g h with
      | none => clo g m ini (addR ready (h :: t))
      | some ws => clo g m (ini ++ ws.map (· ++ t)) ready) := by
  conv => lhs; unfold clo
  rw [List.getLast?_concat, List.dropLast_concat]
  cases last <;> rfl
theorem ok_far (T : Txt w K mg) : Ok PW w K mg base CX0 2 "_law_how_far" ["grammar", "text", "first"] spFar := by
  obtain ⟨f, fd, D⟩ := T.d_L_how_far
  refine ⟨f, fd, D.F.ok sc_L_how_far (fun vs H Q E h => ?_) (fun cdv A outer s H vs Q E hr h => ?_), D.g, D.F.kp, D.b⟩
  · obtain ⟨g, X, x, j, b, rfl, _⟩ := h
    rfl
  · obtain ⟨g, X, x, j, b, rfl, G, hx, hX, hf, h⟩ := h
    have nd := sc_L_how_far.nd
    have hu := hu_of hr
    refine ⟨_, pss_cons (ps_asg (pe_tup (pa_cons (pe_disp (pps_cons pe_str pe_str (pps_cons pe_str pe_str pps_nil)) (by rfl) (by rfl) (fun z => by cases z) (by decide)) (pa_cons (pe_lst (pa_cons (pe_tup (pa_cons (pv 2) pa_nil)) pa_nil)) pa_nil)))
          (pg_tup (by rfl) (pgs_cons (pg_name (i := 3) nd rfl (.inr rfl)) (pgs_cons (pg_name (i := 4) nd rfl (.inl rfl)) pgs_nil))))
      (pss_cons (ps_for PassesOwn.never rfl (pi_range1 (by rfl) T.z_range (pa_cons (pe_op op_add (pe_callB call_len_str (by rfl) T.z_len PySem.boot_len (pa_cons (pv 1) pa_nil)) pe_int) pa_nil)) (pg_name (i := 5) nd rfl (.inr rfl))
        (pss_cons (ps_set (i := 6) nd rfl (.inl rfl) pe_dnewT)
        (pss_cons (ps_while PassesOwn.never (pt_cmpR (op_neD hr.units) (pv 4) (pe_lst pa_nil) (nomark _))
          (pss_cons (ps_set (i := 7) nd rfl (.inr rfl) (pe_bm0 PySem.F.plainAttrs_list PySem.F.slot_list_pop PySem.F.type_list_pop mt_pop (pv 4)))
          (pss_one (ps_if (PW.pt (pw_and (pt_cmpR (op_neD hr.units) (pv 7) (pe_tup pa_nil) (nomark _)) (pw_and1 (pt_cmp (pc_din hu (pe_ix ix_tup (pv 7) pe_int (fun _ _ => rfl)) (pv 0))))))
            (pss_one (ps_set (i := 4) nd rfl (.inl rfl) (pe_op op_cat (pv 4)
              (pe_lc (own := [("way", 8)]) (g := gName 8) (tt := tYes) (te := tOp (rCatA K) (tThen (tVar 8) (kTup K)) (tSl (rSlT K) (tVar 7) (tPart (tC (.int 1))) tNoPart)) rfl nd (pi_list (pe_dget hu (pv 0) (pe_ix ix_tup (pv 7) pe_int (fun _ _ => rfl)) (fun _ _ => rfl))) (blkOk_by (N := n_L_how_far) (sc := defScope s_L_how_far) (by decide +kernel))
                (fun _ _ _ _ _ => pg_name (i := 8) nd rfl (.inl rfl)) (fun _ _ _ _ _ => pts_nil) (fun _ _ _ _ _ => by exact (pe_op op_catA (pe_tupleOf (by rfl) T.z_tuple (pv 8)) (pe_slice sl_tup (pv 7) (po_some pe_int) po_none)))))))
            (pss_one (ps_dput hu (pv 6) (pv 7) pe_bl rfl))))))
        (pss_cons (ps_if (pt_cmpR op_eq (pv 5) (pe_callB call_len_str (by rfl) T.z_len PySem.boot_len (pa_cons (pv 1) pa_nil)) (nomark _))
          (pss_one (ps_ret (pe_tup (pa_cons (pv 5) (pa_cons (pe_cmp (pc_din hu (pe_tup pa_nil) (pv 6))) pa_nil))))) pss_nil)
        (pss_cons (ps_lock (ps_setLc (i := 4) (own := [("rows", 7)]) (g := gName 7) (tt := tAnd (tTest (tOp (rNeD K) (tVar 7) (tTup tNil))) (tTest (tOp rIS (tOp rIxS (tVar 1) (tVar 5)) (tDGet2 (tVar 3) (tOp (rIxT K) (tVar 7) (tC (.int 0))) (tOp (rIxT K) (tVar 7) (tC (.int 0))))))) (te := tSl (rSlT K) (tVar 7) (tPart (tC (.int 1))) tNoPart) rfl nd rfl rfl (sw_true rfl rfl rfl (by decide +kernel)) (pi_keys (pv 6)) (blkOk_by (N := n_L_how_far) (sc := defScope s_L_how_far) (by decide +kernel))
            (fun _ _ _ _ _ => pg_name (i := 7) nd rfl (.inl rfl)) (fun _ _ _ _ _ => by exact (pts_one (PW.pt (pw_and (pt_cmpR (op_neD hr.units) (pv 7) (pe_tup pa_nil) (nomark _)) (pw_and1 (pt_cmpR op_IS (pe_ix ix_str (pv 1) (pv 5) (fun _ _ => rfl)) (pe_dget2 hu (pv 3) (pe_ix ix_tup (pv 7) pe_int (fun _ _ => rfl)) (pe_ix ix_tup (pv 7) pe_int (fun _ _ => rfl)) ⟨rfl, rfl, rfl, rfl⟩) rfl)))))) (fun _ _ _ _ _ => by exact (pe_slice sl_tup (pv 7) (po_some pe_int) po_none))))
        (pss_one (ps_if (pt_cmpR (op_eqD hr.units) (pv 4) (pe_lst pa_nil) (nomark _)) (pss_one (ps_ret (pe_tup (pa_cons (pv 5) (pa_cons pe_bl pa_nil))))) pss_nil)))))))
      (pss_one (ps_ret (pe_tup (pa_cons pe_int (pa_cons pe_bl pa_nil)))))), ?_⟩
    walk_at "go"
    intro L hL
    refine ⟨upd_same, kvL, rfl, by decide, by decide, fun p1 hp1 => ⟨by decide, fun O hO => ⟨by decide, fun p2 hp2 => ?_⟩⟩⟩
    have sL : Same H (upd (upd H L (.dK [])) L (.dK kvL)) := same_2 (fun _ _ z => z) hL
    have s1 := sL.trans (same_new (o := .tup [V.str x]) hp1)
    have s2 := s1.trans (same_new (o := .lst [V.ref p1]) hO)
    have s3 := s2.trans (same_new (o := .tup [V.ref L, V.ref O]) hp2)
    have eL1 : (upd (upd (upd H L (.dK [])) L (.dK kvL)) p1 (.tup [V.str x])) L = some (.dK kvL) := same_new hp1 _ _ upd_same
    have eL2 := same_new (o := .lst [V.ref p1]) hO _ _ eL1
    have eL3 := same_new (o := .tup [V.ref L, V.ref O]) hp2 _ _ eL2
    have hO0 : H O = none := s1.free hO
    have e1 := same_new (o := .tup [V.ref L, V.ref O]) hp2 _ _ (same_new (o := .lst [V.ref p1]) hO _ _ (upd_same (H := upd (upd H L (.dK [])) L (.dK kvL)) (a := p1) (o := .tup [V.str x])))
    have eO3 := same_new (o := .tup [V.ref L, V.ref O]) hp2 O _ upd_same
    refine ⟨_, .inl (.inl upd_same), rfl, _, _, rfl, _, _, rfl, rfl, ?_⟩
    have lX : (SX.S X).length ≤ sizeLine := by rw [S_len]; exact small_sz hX (by decide)
    refine ⟨_, rfl, _, rfl, lX, _, _, rfl, rfl, _, rfl, by rw [S_len]; omega, by rw [S_len]; omega, ?_⟩
    rw [S_len, show ((X.length : Int) + 1).toNat = X.length + 1 by omega]
    refine for_it walk_range (FarI H g L X x b j) ?_ (fun _ _ _ _ _ => trivial) ?_ ?_
    · refine ⟨O, [[x]], j, none, none, none, none, rfl, ⟨s3, hL, eL3, hO0, ⟨_, eO3, .cons ⟨p1, rfl, e1⟩ .nil⟩, ?_⟩, Nat.zero_le _, hf, Nat.zero_add _, by rw [List.length_singleton]; decide, ?_⟩
      · intro s hs y hy
        rw [List.mem_singleton.mp hs] at hy
        rw [List.mem_singleton.mp hy]
        exact hx
      · intro s hs
        rw [List.mem_singleton.mp hs, List.length_singleton]
        omega
    · rintro i xi σ H1 H2 hi ⟨O, opn, j', v5, v6, v7, v8, rfl, F, hiX, hfa, hij, hol, hos⟩ ⟨rfl, rfl⟩
      unfold farM at hfa
      cases ec : clo gC 40 opn [] with
      | none =>
        rw [ec] at hfa
        cases hfa
      | some rd =>
      rw [ec] at hfa
      dsimp only at hfa
      walk_at "go"
      intro R hR
      have hHR : H R = none := F.sm.free hR
      have sR := F.sm.trans (same_new (o := .dT []) hR)
      obtain ⟨vs, eO, hvs⟩ := F.eO
      have F1 : Fw H (upd H2 R (.dT [])) L O opn := ⟨sR, F.hL, same_new hR _ _ F.eL, F.hO, ⟨vs, same_new hR _ _ eO, hvs.tk (Tk.new hR)⟩, F.sy⟩
      have nRL : ∀ {H' : Hp} {kvs : List (List Key × V)}, H' R = some (.dT kvs) → H' L = some (.dK kvL) → R ≠ L := fun a b z => by
        rw [z, b] at a
        cases a
      refine while_m (WhI H g L R X x rd i) (WhE H g L R X x rd i) ?_ ?_ ?_
      · refine ⟨40, O, opn, [], v7, v8, rfl, F1, upd_same, ec, by omega, by decide, fun s hs => ?_, fun s hs => nomatch hs⟩
        have := hos s hs
        omega
      · rintro σ H1 ⟨O, v7, v8, rfl, F2, eR, hrl, hrs⟩
        walk_at "go"
        refine ⟨lX, rfl, ?_⟩
        rw [S_len]
        by_cases hi2 : i = X.length
        · rw [if_pos (by omega)]
          have ed : X.drop i = [] := List.drop_of_length_le (by omega)
          rw [ed] at hfa
          dsimp only at hfa
          cases hfa
          refine ⟨by decide, fun q hq => ⟨_, rfl, R, _, rfl, DGet.t (k := []) (same_new hq _ _ eR) upd_same, by decide, fun p hp => ?_⟩⟩
          refine h p _ ((F2.sm.trans (same_new hq)).trans (same_new hp)) (F2.sm.free ((same_new hq).free hp)) ?_
          rw [upd_same]
          have ev := rdK_val rd []
          rw [List.map_nil] at ev
          rw [ev]
          congr 4
          · congr 1
            omega
          · by_cases hm : ([] : Stk) ∈ rd
            · rw [if_pos hm, decide_eq_true hm]
              rfl
            · rw [if_neg hm, decide_eq_false hm]
              rfl
        · rw [if_neg (by omega)]
          have hlt : i < X.length := by omega
          have ed := drop_at hlt
          rw [ed] at hfa
          dsimp only at hfa
          have key : ∀ (od : Obj) (Qk : V → Hp → Prop), (∀ D us H', H D = none → Same H H' → H' L = some (.dK kvL) → H' R = some (.frz od (.dT (rdK rd))) → H' D = some (.lst us) → SkL H' (stp X[i] rd) us → Qk (.ref D) H') → tLc (iKeys (tVar 6)) (gName 7) (tAnd (tTest (tOp (rNeD K) (tVar 7) (tTup tNil))) (tTest (tOp rIS (tOp rIxS (tVar 1) (tVar 5)) (tDGet2 (tVar 3) (tOp (rIxT K) (tVar 7) (tC (V.int 0))) (tOp (rIxT K) (tVar 7) (tC (V.int 0)))))))
              (tSl (rSlT K) (tVar 7) (tPart (tC (V.int 1))) tNoPart) [7] [some (.ref g), some (.str (SX.S X)), some (.str x), some (.ref L), some (.ref O), some (.int (0 + (i : Nat))), some (.ref R), v7, v8] (upd H1 R (.frz od (.dT (rdK rd)))) Qk := by
            intro od Qk hQ
            have sHL : Same H (upd H1 R (.frz od (.dT (rdK rd)))) := fun b o hb => by
              rw [upd_ne (ne_of_none hb hHR)]
              exact F2.sm _ _ hb
            have eLL : (upd H1 R (.frz od (.dT (rdK rd)))) L = some (.dK kvL) := by
              rw [upd_ne (nRL eR F2.eL).symm]
              exact F2.eL
            refine ⟨_, rfl, R, od, rfl, .inr ⟨rdK rd, upd_same, fun D hD => lc_it walk_keysT (fun n H' => Same (upd H1 R (.frz od (.dT (rdK rd)))) H' ∧ ∃ us, H' D = some (.lst us) ∧ SkL H' (stp X[i] (rd.take n)) us) ⟨same_new hD, [], upd_same, .nil⟩ (fun n H' _ p => p.1 _ _ upd_same) ?_ ?_⟩⟩
            · rintro n xi Ha Hb hn ⟨sm, us, eD, hus⟩ ⟨rfl, k, v, q, hk, rfl, eq⟩
              obtain ⟨r, hr', e⟩ := map_get hk
              cases e
              rw [key_str] at eq
              have hs := hrs r (List.mem_of_getElem? hr')
              have et : rd.take (n + 1) = rd.take n ++ [r] := by rw [List.take_succ, hr']; rfl
              rw [et, stp_append]
              walk_at "go"
              refine ⟨by decide, fun q2 hq2 => ?_⟩
              have s2 : Same Hb (upd Hb q2 (.tup [])) := same_new hq2
              refine ⟨_, _, .tup (.inl (.inl (s2 _ _ eq))) (stk_dp r), .tup (.inl (.inl upd_same)) .nil, stk_shaped hs.2, by decide, _, rfl, ?_⟩
              rw [stk_eqv]
              cases r with
              | nil =>
                refine ⟨sm.trans s2, us, s2 _ _ eD, ?_⟩
                rw [show stp X[i] [[]] = [] from rfl, List.append_nil]
                exact hus.tk (Tk.of s2)
              | cons a r =>
                rw [decide_eq_false (by simp), if_pos (by decide)]
                have eq2 := s2 _ _ eq
                have eLb := s2 _ _ (sm _ _ eLL)
                have eD2 := s2 _ _ eD
                have hus2 := hus.tk (Tk.of s2)
                have sm2 := sm.trans s2
                refine ⟨lX, X[i], by rw [Int.zero_add]; exact atI_nat (List.getElem?_eq_getElem hlt), ?_⟩
                refine ⟨_, rfl, L, rfl, .inl ⟨kvL, .inl eLb⟩, _, rfl, q, _, 0, .str a, rfl, rfl, .inl (.inl eq2), atI_nat (j := 0) rfl, _, rfl, q, _, 0, .str a, rfl, rfl, .inl (.inl eq2), atI_nat (j := 0) rfl, _, DGet.k (k := Sum.inr a) eLb, ?_⟩
                rw [kvL_get]
                refine ⟨X[i], rfl, _, rfl, ?_⟩
                by_cases hf2 : X[i] ∈ (if a = "digit" then ("0123456789" : Str) else if a = "1-9" then ("123456789" : Str) else a).cps.toList
                · rw [if_pos hf2]
                  have es : stp X[i] [a :: r] = [r] := by
                    show (if fits X[i] a = true then r :: stp X[i] [] else stp X[i] []) = [r]
                    have hfit : fits X[i] a = true := decide_eq_true hf2
                    rw [if_pos hfit]
                    rfl
                  rw [es]
                  refine ⟨q, _, rfl, .inl (.inl eq2), ?_, fun p hp => ?_⟩
                  · rintro ⟨z, _⟩
                    rw [show (some (1 : Int)) = some ((1 : Nat) : Int) from rfl, HT.sIx_nat, List.length_map, List.length_cons] at z
                    omega
                  · rw [cutV1 (by rw [List.length_map, List.length_cons]; omega)]
                    have s3 : Same (upd Hb q2 (.tup [])) (upd (upd Hb q2 (.tup [])) p (.tup (((a :: r).map V.str).drop 1))) := same_new hp
                    have hDHL : (upd H1 R (.frz od (.dT (rdK rd)))) D = none := hD
                    refine ⟨us, s3 _ _ eD2, ?_, fun b o hb => ?_, _, upd_same, ?_⟩
                    · rw [hus.length]
                      have l1 := stp_len X[i] (rd.take n)
                      rw [List.length_take] at l1
                      exact small_lt (m := 100) (by omega) (by decide)
                    · rw [upd_ne (ne_of_none hb hDHL)]
                      exact s3 _ _ (sm2 _ _ hb)
                    · refine ((hus2.tk (Tk.of s3)).snoc ⟨p, rfl, upd_same⟩).tk (Tk.lst (s3 _ _ eD2))
                · rw [if_neg hf2]
                  have es : stp X[i] [a :: r] = [] := by
                    show (if fits X[i] a = true then r :: stp X[i] [] else stp X[i] []) = []
                    have hfit : ¬ fits X[i] a = true := fun z => hf2 (of_decide_eq_true z)
                    rw [if_neg hfit]
                    rfl
                  rw [es, List.append_nil]
                  exact ⟨sm2, us, eD2, hus2⟩
            · rintro Ha ⟨sm, us, eD, hus⟩
              rw [show (rdK rd).length = rd.length from List.length_map ..] at hus
              rw [List.take_length] at hus
              exact hQ D us _ (sHL.free hD) (sHL.trans sm) (sm _ _ eLL) (sm _ _ upd_same) eD hus
          refine ⟨R, .dT (rdK rd), eR, trivial, fun od => key od _ fun D us H3 hD0 s3 eL3 eR3 eD3 hus => ⟨eR3, ?_⟩⟩
          walk_at "go"
          have l1 := stp_len X[i] rd
          have hmem : ∀ s ∈ stp X[i] rd, s.length ≤ 10 + 80 * (i + 1) ∧ ∀ y ∈ s, symB y = true := fun s hs => by
            obtain ⟨a, ha⟩ := stp_mem hs
            have q := hrs _ ha
            rw [List.length_cons] at q
            exact ⟨by omega, fun y hy => q.2 y (List.mem_cons_of_mem _ hy)⟩
          have sR3 : Same H (upd H3 R (.dT (rdK rd))) := fun b o hb => by
            rw [upd_ne (ne_of_none hb hHR)]
            exact s3 _ _ hb
          have DR : D ≠ R := fun z => by
            rw [z, eR3] at eD3
            cases eD3
          have LR : L ≠ R := fun z => by
            rw [z, eR3] at eL3
            cases eL3
          refine ⟨by decide, fun p hp => ?_⟩
          have s4 : Same (upd H3 R (.dT (rdK rd))) (upd (upd H3 R (.dT (rdK rd))) p (.lst [])) := same_new hp
          have eD4 : (upd (upd H3 R (.dT (rdK rd))) p (.lst [])) D = some (.lst us) := s4 _ _ (by rw [upd_ne DR]; exact eD3)
          have eL4 : (upd (upd H3 R (.dT (rdK rd))) p (.lst [])) L = some (.dK kvL) := s4 _ _ (by rw [upd_ne LR]; exact eL3)
          have hus4 : SkL (upd (upd H3 R (.dT (rdK rd))) p (.lst [])) (stp X[i] rd) us := (hus.tk (Tk.frz eR3)).tk (Tk.of s4)
          refine ⟨_, _, .lst (.inl (.inl eD4)) hus4.dp, .lst (.inl (.inl upd_same)) .nil, opn_shaped (fun s hs => (hmem s hs).2), by decide, _, rfl, ?_⟩
          rw [opn_eqv]
          by_cases hn : stp X[i] rd = []
          · rw [decide_eq_true hn, if_pos rfl]
            rw [if_pos hn] at hfa
            cases hfa
            refine ⟨by decide, fun q hq => h q _ ((sR3.trans s4).trans (same_new hq)) ((sR3.trans s4).free hq) ?_⟩
            rw [upd_same]
            congr 4
            congr 1
            omega
          · rw [decide_eq_false hn, if_neg (by decide)]
            rw [if_neg hn] at hfa
            obtain ⟨⟨j2, b2⟩, e2, e3⟩ := Option.map_eq_some_iff.mp hfa
            cases e3
            exact ⟨D, _, j2, _, _, _, _, rfl, ⟨sR3.trans s4, hL, eL4, hD0, ⟨us, eD4, hus4⟩, fun s hs => (hmem s hs).2⟩, by omega, e2, by omega, by omega, fun s hs => (hmem s hs).1⟩
      · rintro nx hnx m σ H1 ⟨O, opn, ready, v7, v8, rfl, F2, eR, hclo, ho1, ho2, ho3, ho4⟩
        cases m with
        | zero => cases hclo
        | succ m =>
        walk_at "go"
        refine ⟨by decide, fun p hp => ?_⟩
        obtain ⟨vs, eO, hvs⟩ := F2.eO
        have sp : Same H1 (upd H1 p (.lst [])) := same_new hp
        have hvs1 := hvs.tk (Tk.of sp)
        have eO1 := sp _ _ eO
        have eL1 := sp _ _ F2.eL
        have eR1 := sp _ _ eR
        have sm1 := F2.sm.trans sp
        refine ⟨_, _, .lst (.inl (.inl eO1)) hvs1.dp, .lst (.inl (.inl upd_same)) .nil, opn_shaped F2.sy, by decide, _, rfl, ?_⟩
        rw [opn_eqv]
        rcases List.eq_nil_or_concat opn with rfl | ⟨ini, last, rfl⟩
        · refine iteF (hnx _ _ ⟨O, v7, v8, rfl, ⟨sm1, F2.hL, eL1, F2.hO, ⟨vs, eO1, hvs1⟩, F2.sy⟩, ?_, ?_, ?_⟩)
          · rw [clo_nil] at hclo
            rw [← Option.some.inj hclo]
            exact eR1
          · rw [clo_nil] at hclo
            rw [← Option.some.inj hclo]
            omega
          · rw [clo_nil] at hclo
            rw [← Option.some.inj hclo]
            exact ho4
        · rw [List.concat_eq_append] at *
          rw [decide_eq_false (by simp), if_pos (by decide)]
          rw [clo_step] at hclo
          obtain ⟨us, v, rfl, hus, q, rfl, eq⟩ := hvs1.last
          refine ⟨_, fun _ _ z => z, .inl ⟨rfl, _, .inl (.inl eO1)⟩, _, eO1, .ref q, by rw [List.length_append]; simp, by decide, fun p2 hp2 => ?_⟩
          rw [List.dropLast_concat] at hp2 ⊢
          have hsl : ∀ y ∈ last, symB y = true := F2.sy last (List.mem_append_right _ List.mem_cons_self)
          have hll := ho3 last (List.mem_append_right _ List.mem_cons_self)
          have tk3 : Tk (upd H1 p (.lst [])) (upd (upd (upd H1 p (.lst [])) O (.lst us)) p2 (.tup [])) := (Tk.lst eO1).trans (Tk.new hp2)
          have s23 : Same (upd (upd H1 p (.lst [])) O (.lst us)) (upd (upd (upd H1 p (.lst [])) O (.lst us)) p2 (.tup [])) := same_new hp2
          have ne1 : ∀ {z : Addr} {kvs : List (List Key × V)}, (upd H1 p (.lst [])) z = some (.dT kvs) → z ≠ O := fun a b => by
            rw [b, eO1] at a
            cases a
          have ne2 : ∀ {z : Addr} {kvs : List (Key × V)}, (upd H1 p (.lst [])) z = some (.dK kvs) → z ≠ O := fun a b => by
            rw [b, eO1] at a
            cases a
          have eR3 : (upd (upd (upd H1 p (.lst [])) O (.lst us)) p2 (.tup [])) R = some (.dT (rdK ready)) := s23 _ _ (by rw [upd_ne (ne1 eR1)]; exact eR1)
          have eL3 : (upd (upd (upd H1 p (.lst [])) O (.lst us)) p2 (.tup [])) L = some (.dK kvL) := s23 _ _ (by rw [upd_ne (ne2 eL1)]; exact eL1)
          have eO3 : (upd (upd (upd H1 p (.lst [])) O (.lst us)) p2 (.tup [])) O = some (.lst us) := s23 _ _ upd_same
          have sm3 : Same H (upd (upd (upd H1 p (.lst [])) O (.lst us)) p2 (.tup [])) := fun b o hb => s23 _ _ (by rw [upd_ne (ne_of_none hb F2.hO)]; exact sm1 _ _ hb)
          have eq3 := tk3 _ _ eq
          have hus3 := hus.tk tk3
          have em3 : (upd (upd (upd H1 p (.lst [])) O (.lst us)) p2 (.tup [])) p2 = some (.tup []) := upd_same
          generalize (upd (upd (upd H1 p (.lst [])) O (.lst us)) p2 (.tup [])) = H3 at *
          have hsi : ∀ s ∈ ini, ∀ y ∈ s, symB y = true := fun s hs => F2.sy s (List.mem_append_left _ hs)
          have hli : ini.length + 1 + 3 * (m + 1) ≤ 270 := by
            rw [List.length_append, List.length_singleton] at ho1
            exact ho1
          have put : clo gC m ini (addR ready last) = some rd → ∃ H4, DPut H3 R (.ref q) (.bl true) H4 ∧ ∃ m', m' < m + 1 ∧ WhI H g L R X x rd i m' [some (.ref g), some (.str (SX.S X)), some (.str x), some (.ref L), some (.ref O), some (.int (0 + (i : Nat))), some (.ref R), some (.ref q), v8] H4 := by
            intro hc
            have RL : L ≠ R := fun z => by
              rw [z, eR3] at eL3
              cases eL3
            have RO : O ≠ R := fun z => by
              rw [z, eR3] at eO3
              cases eO3
            refine ⟨_, DPut.t eR3 (by rw [key_str]; exact eq3) (by rw [show (rdK ready).length = ready.length from List.length_map ..]; exact small_lt (m := 100) (by omega) (by decide)), m, Nat.lt_succ_self m, O, ini, addR ready last, _, _, rfl, ⟨fun b o hb => ?_, F2.hL, ?_, F2.hO, ⟨us, ?_, hus3.tk (Tk.dT eR3)⟩, hsi⟩, ?_, hc, by omega, ?_, ?_, ?_⟩
            · rw [upd_ne (ne_of_none hb hHR)]
              exact sm3 _ _ hb
            · rw [upd_ne RL]
              exact eL3
            · rw [upd_ne RO]
              exact eO3
            · rw [upd_same, rdK_put]
            · have := addR_len ready last
              omega
            · intro s hs
              have := ho3 s (List.mem_append_left _ hs)
              omega
            · intro s hs
              rcases addR_mem hs with hs | rfl
              · exact ho4 s hs
              · exact ⟨by omega, hsl⟩
          refine ⟨_, _, .tup (.inl (.inl eq3)) (stk_dp last), .tup (.inl (.inl em3)) .nil, stk_shaped hsl, by decide, _, rfl, ?_⟩
          rw [stk_eqv]
          cases last with
          | nil => exact put hclo
          | cons hd t =>
            rw [decide_eq_false (by simp), if_pos (by decide)]
            dsimp only at hclo
            obtain ⟨kvs, eg, g1, g2⟩ := G.same sm3
            refine ⟨_, rfl, q, _, 0, .str hd, rfl, rfl, .inl (.inl eq3), atI_nat (j := 0) rfl, _, rfl, g, _, rfl, DGet.k (k := Sum.inr hd) eg, _, rfl, ?_⟩
            cases ew : ways gC hd with
            | none =>
              rw [ew] at hclo
              rw [g2 hd (sym_term (hsl hd List.mem_cons_self) ew)]
              exact iteF (put hclo)
            | some ws =>
              rw [ew] at hclo
              obtain ⟨vw, egw, hvw⟩ := g1 hd ws ew
              rw [egw]
              refine iteT ?_
              obtain ⟨aw, wvs, rfl, _, eaw, hwv⟩ := hvw.lst
              have dg : DGet H3 g (.str hd) (some (.ref aw)) := by
                have z := DGet.k (k := Sum.inr hd) eg
                rw [egw] at z
                exact z
              refine ⟨_, rfl, _, rfl, q, _, 0, .str hd, rfl, rfl, .inl (.inl eq3), atI_nat (j := 0) rfl, g, .ref aw, rfl, dg, aw, rfl, ⟨wvs, .inl (.inl eaw)⟩, fun D hD =>
                lc_it walk_list (fun n H' => Same H3 H' ∧ ∃ us2, H' D = some (.lst us2) ∧ SkL H' ((ws.take n).map (· ++ t)) us2) ⟨same_new hD, [], upd_same, .nil⟩ (fun n H' _ z => .inl (.inl (z.1 _ _ eaw))) ?_ ?_⟩
              · rintro n xw Ha Hb hn ⟨sm, us2, eD, hu2⟩ ⟨rfl, hxw⟩
                have hlen := hwv.length
                rw [List.length_map] at hlen
                have hnw : n < ws.length := by omega
                obtain ⟨v, hv2, hat⟩ := hwv.get (i := n) (d := dWay ws[n]) (by rw [List.getElem?_map, List.getElem?_eq_getElem hnw]; rfl)
                rw [hv2] at hxw
                cases hxw
                obtain ⟨pw, wss, rfl, _, epw, hws⟩ := hat.lst
                have e1 := strs_at (H' := Hb) hws
                subst e1
                have hwl := (sym_len ew).2 ws[n] (List.getElem_mem hnw)
                have et : (ws.take (n + 1)).map (· ++ t) = (ws.take n).map (· ++ t) ++ [ws[n] ++ t] := take_snoc (List.getElem?_eq_getElem hnw) (· ++ t)
                have fin : ∀ (z : Addr) (H' : Hp), Same Hb H' → H' z = some (.tup ((ws[n] ++ t).map V.str)) → ∃ acc, H' D = some (.lst acc) ∧ acc.length < sizeLine ∧ Same H3 (upd H' D (.lst (acc ++ [.ref z]))) ∧ ∃ us2, upd H' D (.lst (acc ++ [.ref z])) D = some (.lst us2) ∧
                    SkL (upd H' D (.lst (acc ++ [.ref z]))) ((ws.take (n + 1)).map (· ++ t)) us2 := by
                  intro z H' sz ez
                  refine ⟨us2, sz _ _ eD, ?_, fun b o hb => ?_, _, upd_same, ?_⟩
                  · rw [hu2.length, List.length_map, List.length_take]
                    exact small_lt (m := 100) (by have := (sym_len ew).1; omega) (by decide)
                  · rw [upd_ne (ne_of_none hb hD)]
                    exact sz _ _ (sm _ _ hb)
                  · rw [et]
                    exact ((hu2.tk (Tk.of sz)).snoc ⟨z, rfl, ez⟩).tk (Tk.lst (sz _ _ eD))
                walk_at "go"
                refine .inl ⟨pw, _, rfl, .inl (.inl (sm _ _ epw)), fun q1 hq1 => ?_⟩
                have s1 : Same Hb (upd Hb q1 (.tup (ws[n].map V.str))) := same_new hq1
                refine ⟨q, _, rfl, .inl (.inl (s1 _ _ (sm _ _ eq3))), ?_, fun q2 hq2 => ?_⟩
                · rintro ⟨z, _⟩
                  rw [show (some (1 : Int)) = some ((1 : Nat) : Int) from rfl, HT.sIx_nat, List.length_map, List.length_cons] at z
                  omega
                · rw [cutV1 (by rw [List.length_map, List.length_cons]; omega)]
                  have s2 : Same Hb (upd (upd Hb q1 (.tup (ws[n].map V.str))) q2 (.tup (((hd :: t).map V.str).drop 1))) := s1.trans (same_new hq2)
                  have eq1 := same_new (o := .tup (((hd :: t).map V.str).drop 1)) hq2 q1 _ upd_same
                  refine ⟨q1, q2, _, _, rfl, rfl, .inl (.inl eq1), .inl (.inl upd_same), ?_, fun h0 => ?_, fun h0 h1 => ?_, fun h0 h1 q3 hq3 => ?_⟩
                  · rw [List.length_map, List.length_drop, List.length_map, List.length_cons]
                    rw [List.length_cons] at hll
                    exact small_sz (m := 5000000) (by omega) (by decide)
                  · refine fin q2 _ s2 ?_
                    rw [upd_same, List.map_append, h0]
                    rfl
                  · refine fin q1 _ s2 ?_
                    rw [eq1, List.map_append, show t.map V.str = [] from h1, List.append_nil]
                  · refine fin q3 _ (s2.trans (same_new hq3)) ?_
                    rw [upd_same, List.map_append]
                    rfl
              · rintro H5 ⟨s5, us2, eD5, hus5⟩
                rw [hwv.length, List.length_map, List.take_length] at hus5
                have eO5 := s5 _ _ eO3
                have hus6 := hus3.tk (Tk.of s5)
                have hwl3 := (sym_len ew).1
                refine ⟨O, D, us, us2, rfl, rfl, eO5, eD5, ?_, fun O2 hO2 => ⟨m, Nat.lt_succ_self m, O2, ini ++ ws.map (· ++ t), ready, _, _, rfl, ⟨(sm3.trans s5).trans (same_new hO2), F2.hL, same_new hO2 _ _ (s5 _ _ eL3), (sm3.trans s5).free hO2, ⟨_, upd_same, (hus6.append hus5).tk (Tk.new hO2)⟩, ?_⟩, same_new hO2 _ _ (s5 _ _ eR3), hclo, ?_, by omega, ?_, ho4⟩⟩
                · rw [hus3.length, hus5.length, List.length_map]
                  exact small_sz (m := 1000) (by omega) (by decide)
                · intro s hs y hy
                  rcases List.mem_append.mp hs with hs | hs
                  · exact hsi s hs y hy
                  · obtain ⟨w', hw', rfl⟩ := List.mem_map.mp hs
                    rcases List.mem_append.mp hy with hy | hy
                    · exact sym_cl ew w' hw' y hy
                    · exact hsl y (List.mem_cons_of_mem _ hy)
                · rw [List.length_append, List.length_map]
                  omega
                · intro s hs
                  rcases List.mem_append.mp hs with hs | hs
                  · have := ho3 s (List.mem_append_left _ hs)
                    omega
                  · obtain ⟨w', hw', rfl⟩ := List.mem_map.mp hs
                    have := (sym_len ew).2 w' hw'
                    rw [List.length_append]
                    rw [List.length_cons] at hll
                    omega
    · rintro σ H1 ⟨O, opn, j', v5, v6, v7, v8, rfl, F, hiX, _⟩
      exact absurd hiX (by omega)
end
end TX
/-! part A8 -/
/-! A drawn lot. -/
namespace TX
open PySem PySem.Spec PyProof.Rows L2 NT RW4
local macro_rules | `(tactic| walk_at "go") => `(tactic| simp only [L2.start, List.map_cons, List.map_nil, List.length_cons, List.length_nil, Nat.reduceSub, Nat.reduceAdd, List.replicate_succ, List.replicate_zero, List.cons_append, List.nil_append, List.append_nil,
  tSeq, tNext, tRet, tIfS, tTest, tAnd, tOr, tNot, tCB, tCall, tCons, tNil, tVar, tC, tOp, tUn, tAsg, gName, rI0, rI, CMul, CDiv, tDGet, sDPut, tBM0, tBM, tTup, tLst, tPar, tPar3, gTup, gNil, gCons, tIf, tAug, tRevL, tDisp, tPairs, tYes, wipe, tDrop, L2.tSl, tNotV, tAndV, tOrV, tB, rSlS, ipI, tNoPart, NdefX.startF, tOst, tMkO, rIxL, rIxT, rIxS, rAppend, rExtend, rPop, rSlL, rSetL, tPart, rEq, rNe, tFmt, tJn, tJs, tFi, gLst, tThen, tIf, rS, rIS, cRi, rSortedP, rLn, rPopAt, tCallS, ↓reduceIte, L2.gSub, ↓reduceIte,
  List.getElem?_cons_zero, List.getElem?_cons_succ, List.set_cons_zero, List.set_cons_succ, Option.some.injEq, V.int.injEq, V.str.injEq, V.ref.injEq, V.bl.injEq, exists_eq_left, exists_eq_left', exists_eq_right, exists_eq_right', exists_eq', true_and, and_true, decide_eq_true_eq, List.cons.injEq, reduceCtorEq, false_and, false_or, or_false, exists_false, exists_and_left, exists_and_right, and_assoc])
section
variable {w : World} {K : PySem.W.Frag} {mg : Str → Option Value} {base : Heap}
def smC (a : List Int) : Prop := ∃ x y : Int, a = [x, y] ∧ x.natAbs ≤ 20 ∧ y.natAbs ≤ 20
def spDraw : Sp := fun vs H Q E => ∃ (d c : Addr) (m : Nat), vs = [.ref d, .int (m : Nat)] ∧ Src H d c ∧ m ≤ 4 ∧
  ∀ (p : Addr) (xs : List V) (l : List (List Int)) (H' : Hp), Kp (DC d c) H H' → Src H' d c → H p = none → H' p = some (.tup xs) → AtL (fun b => H b ≠ none) H' (l.map dC) xs → l.length ≤ 100 → (∀ a ∈ l, smC a) → Q (.ref p) H'
theorem atl_each {S : Addr → Prop} {H : Hp} {d : List Int → PyData} : ∀ {l : List (List Int)} {vs : List V}, AtL S H (l.map d) vs → ∀ v ∈ vs, ∃ a ∈ l, At S H (d a) v
  | [], vs, h, v, hv => by
    rw [h.nil] at hv
    cases hv
  | a :: l, vs, h, v, hv => by
    obtain ⟨u, r, rfl, h1, h2⟩ := h.cons
    rcases List.mem_cons.mp hv with rfl | hv
    · exact ⟨a, List.mem_cons_self, h1⟩
    · obtain ⟨b, hb, h3⟩ := atl_each h2 v hv
      exact ⟨b, List.mem_cons_of_mem _ hb, h3⟩
theorem atl_of {S : Addr → Prop} {H : Hp} {d : List Int → PyData} {P : List Int → Prop} : ∀ {vs : List V}, (∀ v ∈ vs, ∃ a, P a ∧ At S H (d a) v) → ∃ l : List (List Int), AtL S H (l.map d) vs ∧ ∀ a ∈ l, P a
  | [], _ => ⟨[], atl_nil, fun _ z => nomatch z⟩
  | v :: vs, h => by
    obtain ⟨a, pa, ha⟩ := h v List.mem_cons_self
    obtain ⟨l, hl, pl⟩ := atl_of fun u hu => h u (List.mem_cons_of_mem _ hu)
    exact ⟨a :: l, atl_cons ha hl, fun b hb => (List.mem_cons.mp hb).elim (fun z => z ▸ pa) (pl b)⟩
/-- a list of drawn cells at O -/
def LtAt (H H' : Hp) (S : Addr → Prop) (O n : Nat) : Prop := ∃ (xs : List V) (l : List (List Int)), H' O = some (.lst xs) ∧ AtL S H' (l.map dC) xs ∧ l.length ≤ n ∧ ∀ a ∈ l, smC a
def DrI (H : Hp) (d c m wd hg : Nat) (dn dx dy : Int) (n : Nat) (σ : L2.St) (H' : Hp) : Prop := ∃ (O : Addr) (v8 v9 : Option V), σ = [some (.ref d), some (.int (m : Nat)), some (.int (wd : Nat)), some (.int (hg : Nat)), some (.ref O), some (.int dn), some (.int dx), some (.int dy), v8, v9] ∧
  Kp (DC d c) H H' ∧ Src H' d c ∧ H O = none ∧ LtAt H H' (fun b => H b ≠ none) O (4 * n)
theorem ok_draw (T : Txt w K mg) : Ok PW w K mg base CX0 2 "_law_draw_lot" ["source", "most"] spDraw := by
  obtain ⟨f, fd, D⟩ := T.d_L_draw_lot
  refine ⟨f, fd, D.F.ok sc_L_draw_lot (fun vs H Q E h => ?_) (fun cdv A outer s H vs Q E hr h => ?_), D.g, D.F.kp, D.b⟩
  · obtain ⟨d, c, m, rfl, _⟩ := h
    rfl
  · obtain ⟨d, c, m, rfl, S, hm, h⟩ := h
    have nd := sc_L_draw_lot.nd
    refine ⟨_, pss_cons (ps_par3 (i := 2) (j := 3) (l := 4) (by rfl) nd rfl rfl rfl (by decide) (by decide) (by decide) rfl rfl rfl (pa_cons (pe_op op_add pe_int (pe_d (ok_pick T) hr pass0 (pa_cons (pv 0) (pa_cons (pv 1) pa_nil)))) (pa_cons (pe_op op_add pe_int (pe_d (ok_pick T) hr pass0 (pa_cons (pv 0) (pa_cons (pv 1) pa_nil)))) (pa_cons (pe_lst pa_nil) pa_nil))) (by rfl))
      (pss_cons (ps_asg (pe_tup (pa_cons (pe_ix ix_list (pe_lst (pa_cons pe_int (pa_cons pe_int (pa_cons pe_int (pa_cons pe_int pa_nil))))) (pe_d (ok_pick T) hr pass0 (pa_cons (pv 0) (pa_cons pe_int pa_nil))) (fun _ _ => rfl))
            (pa_cons (pe_op op_sub (pe_d (ok_pick T) hr pass0 (pa_cons (pv 0) (pa_cons pe_int pa_nil))) pe_int) (pa_cons (pe_op op_sub (pe_d (ok_pick T) hr pass0 (pa_cons (pv 0) (pa_cons pe_int pa_nil))) pe_int) pa_nil))))
          (pg_tup (by rfl) (pgs_cons (pg_name (i := 5) nd rfl (.inr rfl)) (pgs_cons (pg_name (i := 6) nd rfl (.inr rfl)) (pgs_cons (pg_name (i := 7) nd rfl (.inr rfl)) pgs_nil)))))
      (pss_cons (ps_for PassesOwn.never rfl (pi_range1 (by rfl) T.z_range (pa_cons (pv 2) pa_nil)) (pg_name (i := 8) nd rfl (.inr rfl))
        (pss_one (ps_set (i := 4) nd rfl (.inl rfl) (pe_op op_cat (pv 4)
          (pe_lc (own := [("y", 9)]) (g := gName 9) (tt := tTest (tOp (rI0 fun i j => .bl (decide (j < i))) (tCall spPick [] E0 (tCons (tVar 0) (tCons (tVar 5) tNil))) (tC (.int 0)))) (te := tTup (tCons (tOp (rI0 fun i j => .int (i + j)) (tVar 8) (tVar 6)) (tCons (tOp (rI0 fun i j => .int (i + j)) (tVar 9) (tVar 7)) tNil))) rfl nd
            (pi_range1 (by rfl) T.z_range (pa_cons (pv 3) pa_nil)) (blkOk_by (N := n_L_draw_lot) (sc := defScope s_L_draw_lot) (by decide +kernel))
            (fun _ _ _ _ _ => pg_name (i := 9) nd rfl (.inl rfl)) (fun _ _ _ _ _ => by exact (pts_one (pt_cmpR op_gt (pe_d (ok_pick T) hr pass0 (by exact (pa_cons (pv 0) (pa_cons (pv 5) pa_nil)))) pe_int (nomark _))))
            (fun _ _ _ _ _ => by exact (pe_tup (pa_cons (pe_op op_add (pv 8) (pv 6)) (pa_cons (pe_op op_add (pv 9) (pv 7)) pa_nil)))))))))
      (pss_one (ps_ret (pe_tupleOf (by rfl) T.z_tuple (pe_callB cr_sortedP (by rfl) T.z_sorted (by decide +kernel) (pa_cons (pv 4) pa_nil))))))), ?_⟩
    walk_at "go"
    refine pick_src S (by omega) fun r1 H1 a0 a1 S1 k1 => ?_
    walk_at "go"
    refine pick_src S1 (by omega) fun r2 H2 b0 b1 S2 k2 => ?_
    walk_at "go"
    refine ⟨by decide, fun O hO => ?_⟩
    have hHO : H O = none := (k1.trans k2).none hO (S2.off hO)
    have dO : ¬ DC d c O := S2.off hO
    have sO : Same H2 (upd H2 O (.lst [])) := same_new hO
    refine ⟨by decide, fun p hp => ?_⟩
    have sp : Same H2 (upd (upd H2 O (.lst [])) p (.lst [.int 2, .int 3, .int 3, .int 6])) := sO.trans (same_new hp)
    have dp : ¬ DC d c p := (S2.same sO).off hp
    refine pick_src (S2.same sp) (by decide) fun r3 H3 c0 c1 S3 k3 => ?_
    obtain ⟨r3, rfl⟩ := Int.eq_ofNat_of_zero_le c0
    have hr3 : r3 < 4 := by omega
    have ep3 := k3 p _ upd_same dp
    have eO3 := k3 O _ (same_new hp O _ upd_same) dO
    have hdn : ∃ dn : Int, ([V.int 2, V.int 3, V.int 3, V.int 6] : List V)[r3]? = some (.int dn) ∧ dn < 1073741824 := by
      have : r3 = 0 ∨ r3 = 1 ∨ r3 = 2 ∨ r3 = 3 := by omega
      rcases this with rfl | rfl | rfl | rfl
      · exact ⟨2, rfl, by decide⟩
      · exact ⟨3, rfl, by decide⟩
      · exact ⟨3, rfl, by decide⟩
      · exact ⟨6, rfl, by decide⟩
    obtain ⟨dn, edn, hdn⟩ := hdn
    refine ⟨_, _, rfl, .inl (.inl ep3), _, atI_nat edn, pick_src S3 (by decide) fun r4 H4 d0 d1 S4 k4 => ⟨_, rfl, pick_src S4 (by decide) fun r5 H5 e0 e1 S5 k5 => ⟨_, rfl, by decide, fun p2 hp2 => ?_⟩⟩⟩
    have s5 : Same H5 (upd H5 p2 (.tup [.int dn, .int (r4 - 9), .int (r5 - 9)])) := same_new hp2
    refine ⟨_, .inl (.inl upd_same), rfl, _, _, rfl, _, _, rfl, _, _, rfl, rfl, _, rfl, _, rfl, by omega, by omega, ?_⟩
    have k5' : Kp (DC d c) H (upd H5 p2 (.tup [.int dn, .int (r4 - 9), .int (r5 - 9)])) := (((k1.trans k2).trans (Kp.of_same sp)).trans ((k3.trans k4).trans k5)).trans (Kp.of_same s5)
    have sub : ∀ b, DC d c b → H b ≠ none := fun b z => by
      intro hb
      exact S.off hb z
    obtain ⟨r1, rfl⟩ := Int.eq_ofNat_of_zero_le a0
    obtain ⟨r2, rfl⟩ := Int.eq_ofNat_of_zero_le b0
    rw [show (1 + (r1 : Int)) = ((1 + r1 : Nat) : Int) by omega, show (1 + (r2 : Int)) = ((1 + r2 : Nat) : Int) by omega, Int.toNat_natCast]
    have eO5 : (upd H5 p2 (.tup [.int dn, .int (r4 - 9), .int (r5 - 9)])) O = some (.lst []) := s5 _ _ (k5 _ _ (k4 _ _ eO3 dO) dO)
    have hw : 1 + r1 ≤ 4 := by omega
    have hg4 : 1 + r2 ≤ 4 := by omega
    have hx1 : (r4 - 9).natAbs ≤ 15 := by omega
    have hy1 : (r5 - 9).natAbs ≤ 15 := by omega
    generalize r4 - 9 = dx at *
    generalize r5 - 9 = dy at *
    generalize 1 + r1 = wd at *
    generalize 1 + r2 = hg at *
    refine for_it walk_range (DrI H d c m wd hg dn dx dy) ⟨O, none, none, rfl, k5', S5.same s5, hHO, [], [], eO5, atl_nil, by decide, fun _ z => nomatch z⟩ (fun _ _ _ _ _ => trivial) ?_ ?_
    · rintro n xv σ Ha Hb hn ⟨O, v8, v9, rfl, kH, Sa, hO0, xs, l, eO, hl, hll, hls⟩ ⟨rfl, rfl⟩
      walk_at "go"
      have dO' : ¬ DC d c O := fun z => sub O z hO0
      refine ⟨_, rfl, _, rfl, by omega, by omega, fun D hD => ?_⟩
      rw [Int.toNat_natCast]
      have dD : ¬ DC d c D := Sa.off hD
      have hHD : H D = none := kH.none hD dD
      have OD : O ≠ D := ne_of_none eO hD
      refine lc_it walk_range (fun n H' => Kp (DC d c) Hb H' ∧ Src H' d c ∧ LtAt H H' (fun b => H b ≠ none ∨ b = D) D n) ⟨Kp.of_same (same_new hD), Sa.same (same_new hD), [], [], upd_same, atl_nil, Nat.le_refl _, fun _ z => nomatch z⟩ (fun _ _ _ _ => trivial) ?_ ?_
      · rintro k yv Hc Hd hk ⟨kc, Sc, ys, l2, eD, hl2, hll2, hls2⟩ ⟨rfl, rfl⟩
        walk_at "go"
        refine pick_src Sc hdn fun r6 He f0 f1 Se ke => ⟨_, rfl, ?_⟩
        have eDe := ke _ _ eD dD
        have hle := hl2.kp (ke.mono (T := fun b => H b ≠ none ∨ b = D) fun b z => .inl (sub b z))
        by_cases hpos : 0 < r6
        · rw [if_pos hpos]
          refine ⟨by decide, fun p3 hp3 => ?_⟩
          have s6 : Same He (upd He p3 (.tup [.int (0 + (n : Nat) + dx), .int (0 + (k : Nat) + dy)])) := same_new hp3
          have pD : p3 ≠ D := (ne_of_none eDe hp3).symm
          have hHp3 : H p3 = none := (kH.trans (kc.trans ke)).none hp3 (Se.off hp3)
          refine ⟨ys, s6 _ _ eDe, ?_, ?_, (Se.same s6).upd dD, ys ++ [.ref p3], l2 ++ [[0 + (n : Nat) + dx, 0 + (k : Nat) + dy]], upd_same, ?_, ?_, ?_⟩
          · rw [hl2.length, List.length_map]
            exact small_lt (m := 100) (by omega) (by decide)
          · exact fun b o hb nb => by
              rw [upd_ne (ne_of_none hb hD)]
              exact s6 _ _ ((kc.trans ke) b o hb nb)
          · rw [List.map_append]
            exact ((hle.kp (Kp.of_same s6)).kp (Kp.upd_in (.inr rfl))).snoc (at_tup (fun z => z.elim (fun z => z hHp3) pD) (by rw [upd_ne pD]; exact upd_same) (atl_cons at_int (atl_cons at_int atl_nil)))
          · rw [List.length_append]
            exact Nat.succ_le_succ hll2
          · intro a ha
            rcases List.mem_append.mp ha with ha | ha
            · exact hls2 a ha
            · rw [List.mem_singleton.mp ha]
              exact ⟨_, _, rfl, by omega, by omega⟩
        · rw [if_neg hpos]
          exact ⟨kc.trans ke, Se, ys, l2, eDe, hle, by omega, hls2⟩
      · rintro Hc ⟨kc, Sc, ys, l2, eD, hl2, hll2, hls2⟩
        have eOc := kc _ _ eO dO'
        refine ⟨O, D, xs, ys, rfl, rfl, eOc, eD, ?_, fun O2 hO2 => ⟨O2, _, _, rfl, (kH.trans kc).trans (Kp.of_same (same_new hO2)), Sc.same (same_new hO2), (kH.trans kc).none hO2 (Sc.off hO2), xs ++ ys, l ++ l2, upd_same, ?_, ?_, ?_⟩⟩
        · rw [hl.length, hl2.length, List.length_map, List.length_map]
          exact small_sz (m := 100) (by omega) (by decide)
        · rw [List.map_append]
          exact (((hl.kp (kc.mono (T := fun b => H b ≠ none) fun b z => sub b z)).append (hl2.off fun b o _ z => .inl z))).kp (Kp.upd_new hO2)
        · rw [List.length_append]
          omega
        · intro a ha
          rcases List.mem_append.mp ha with ha | ha
          · exact hls a ha
          · exact hls2 a ha
    · rintro σ Ha ⟨O, v8, v9, rfl, kH, Sa, hO0, xs, l, eO, hl, hll, hls⟩
      walk_at "go"
      refine ⟨xs, .inl (.inl eO), fun v hv => ?_, fun ys p hp hpn => ?_⟩
      · obtain ⟨a, ha, hat⟩ := atl_each hl v hv
        obtain ⟨x, y, rfl, _, _⟩ := hls a ha
        obtain ⟨t, xs2, rfl, _, et, h2⟩ := hat.tup
        obtain ⟨v1, q1, rfl, b1, h2⟩ := h2.cons
        obtain ⟨v2, q2, rfl, b2, h2⟩ := h2.cons
        obtain rfl := h2.nil
        obtain rfl := b1.int
        obtain rfl := b2.int
        exact ⟨t, rfl, x, y, et⟩
      · obtain ⟨l', hl', pl'⟩ := atl_of (d := dC) (P := smC) fun v hv => by
          obtain ⟨a, ha, hat⟩ := atl_each hl v (hp.mem_iff.mp hv)
          exact ⟨a, hls a ha, hat⟩
        have hlen : l'.length = l.length := by
          have z1 := hl'.length
          have z2 := hl.length
          rw [List.length_map] at z1 z2
          rw [← z1, ← z2, hp.length_eq]
        have s1 : Same Ha (upd Ha p (.lst ys)) := same_new hpn
        refine .inl ⟨p, ys, rfl, .inl (.inl upd_same), fun q hq => ?_⟩
        have s2 := s1.trans (same_new (o := .tup ys) hq)
        exact h q ys l' _ (kH.trans (Kp.of_same s2)) (Sa.same s2) (kH.none (s1.free hq) (Sa.off (s1.free hq))) upd_same (hl'.kp (Kp.of_same s2)) (by omega) pl'
end
end TX
/-! part B2 -/
/-! d.update(e). -/
namespace TX
open PySem PySem.Spec PyProof.Rows L2 NT RW4
def rUpd : V → List V → Hp → VK → Prop := fun x xs H Q => ∃ (a b : Addr) (kvs more : List (Key × V)), x = .ref a ∧ xs = [.ref b] ∧ a ≠ b ∧ H a = some (.dK kvs) ∧ H b = some (.dK more) ∧ kvs.length + more.length ≤ 1000 ∧ Q .non (upd H a (.dK (mergeK kvs more)))
theorem KV.len {kvs : List (Key × V)} {vs : List (Key × Value)} (h : KV kvs vs) : kvs.length = vs.length := by
  unfold KV at h
  exact Paired.length h
theorem mt_upd {X : Cx} : MtR X "dict.update" rUpd := by
  intro pins s σ H x xs v us Q I rx rxs h
  obtain ⟨a, b, kvs, more, rfl, rfl, hab, ea, eb, hz, q⟩ := h
  cases rx
  cases rxs with
  | cons r1 rr =>
    cases rr
    cases r1
    obtain ⟨_, haS, vs, r1, d1⟩ := dk_of I.hok ea
    obtain ⟨_, hbS, ws, r2, d2⟩ := dk_of I.hok eb
    refine call_meetsIn PySem.F.slot_dict_update d1.typeIs PySem.F.entry_dict_update (PySem.F.args_dict_update_2 _ _) (meets_dict_update (mixKind X.prog X.w) a b hab hbS) ⟨vs, ws, d1, d2, by rw [← KV.len r1, ← KV.len r2]; exact small_sz hz (by decide), fun h' dd _ hs => ?_⟩
    have he : ∃ q, h'.get? a = some q := let ⟨q, _, _, hq, _⟩ := dd; ⟨q, hq⟩
    have hz2 : (mergeK kvs more).length ≤ sizeLine := Nat.le_trans (length_mergeK more kvs) (small_sz hz (by decide))
    exact ⟨.non, _, d_write (t' := s.toks) I (by rw [ea]; exact True.intro) hs he (dk_new hz2 haS (r2.merge r1) dd), rfl, q⟩
/-- list(x) of a text -/
def kLstS (x : V) (H : Hp) (Q : VK) : Prop := ∃ z : Str, x = .str z ∧ z.cps.size ≤ sizeLine ∧ ∀ q, H q = none → Q (.ref q) (upd H q (.lst (z.cps.toList.map fun c => .str ⟨#[c]⟩)))
theorem rl_listS {X : Cx} (hc : X.calm = true) (pins : List (Addr × Obj)) (s : Shared) (σ : L2.St) (H : Hp) (x : V) (v : Value) (Q : VK) (I : Inv X pins σ H s) (r : RelV x v) (h : kLstS x H Q) :
    wpAny (model X.prog X.w) X.A (call (.type "list") [v]) (EP X pins σ Q) X.xe s := by
  obtain ⟨z, rfl, hz, q⟩ := h
  obtain ⟨t, rfl⟩ := r
  refine call_list_str (hn := hz) (I.ok.hd hc) z t fun h' tk acc c' hk e hi => ?_
  refine ⟨.ref s.heap.objs.size, upd H s.heap.objs.size (.lst (z.cps.toList.map fun c => .str ⟨#[c]⟩)), I.laid hk (Nat.le_refl _) ⟨by rw [List.length_map, Array.length_toList]; exact hz, acc.toList, c', ?_, by rw [Array.toArray_toList]; exact e⟩, rfl, q _ (I.hok.fresh (Nat.le_refl _))⟩
  refine vals_of_idx _ _ (by rw [List.length_map, Array.length_toList, Array.length_toList]; exact hi.1) fun j u hj => ?_
  have hj2 : acc[j]? = some u := by rw [← Array.getElem?_toList]; exact hj
  obtain ⟨c, u', hc2, rfl⟩ := hi.2 j u hj2
  exact ⟨.str ⟨#[c]⟩, by rw [List.getElem?_map, Array.getElem?_toList, hc2]; rfl, ⟨u', rfl⟩⟩
theorem pe_listOfS {X : Cx} {a : Expr} {ta : TE} {p pos : Pos} (hc : X.calm = true) (hg : Gl X "list") (hm : X.mg "list" = none) (ha : PE X a ta) (na : starEach [a] X.env = (false, eval a X.env) :: starEach [] X.env := by rfl) :
    PE X (.Call (.Name "list" p) [a] [] pos) (tThenZ ta kLstS) := pe_callTy (call_r1 (rl_listS hc)) hg hm (by decide +kernel) (pa_cons ha pa_nil na) (he := na)
end TX
/-! part A9 -/
/-! The law's text rules. -/
namespace TX
open PySem PySem.Spec PyProof.Rows L2 NT RW4
def wsD (ws : List (List Str)) : PyData := .list (ws.map dWay)
/-- what an expression makes is new, and is this -/
def Nw (te : TE) (d : PyData) : Prop := ∀ σ H Q, (∀ v H', Same H H' → At (fun b => H b ≠ none) H' d v → Q v H') → te σ H Q
def NwA (ta : TA) (ds : List PyData) : Prop := ∀ σ H Q, (∀ vs H', Same H H' → AtL (fun b => H b ≠ none) H' ds vs → Q vs H') → ta σ H Q
theorem nw_str {x : Str} : Nw (tC (.str x)) (.str x) := fun σ H Q h => h _ _ (fun _ _ z => z) at_str
theorem nwa_nil : NwA tNil [] := fun σ H Q h => h _ _ (fun _ _ z => z) atl_nil
theorem later {H H' : Hp} (s : Same H H') : ∀ b, H b ≠ none → H' b ≠ none := fun b h => by
  cases e : H b with
  | none => exact absurd e h
  | some o => rw [s _ _ e]; exact fun z => nomatch z
theorem nwa_cons {te : TE} {ta : TA} {d : PyData} {ds : List PyData} (h1 : Nw te d) (h2 : NwA ta ds) : NwA (tCons te ta) (d :: ds) := fun σ H Q h =>
  h1 σ H _ fun v H1 s1 a1 => h2 σ H1 _ fun vs H2 s2 a2 => h _ _ (s1.trans s2) (atl_cons (a1.kp (Kp.of_same s2)) (a2.off fun b _ _ z => later s1 b z))
theorem nw_lst {ta : TA} {ds : List PyData} (h1 : NwA ta ds) (hl : ds.length ≤ 1000 := by decide) : Nw (tLst ta) (.list ds) := fun σ H Q h =>
  h1 σ H _ fun vs H1 s1 a1 => ⟨by rw [a1.length]; exact small_sz hl (by decide), fun p hp => h _ _ (s1.trans (same_new hp)) (at_lst (fun z => z (s1.free hp)) upd_same (a1.kp (Kp.of_same (same_new hp))))⟩
inductive KvA (S : Addr → Prop) (H : Hp) : Gr → List (Key × V) → Prop where
  | nil : KvA S H [] []
  | cons {x : Str} {ws : List (List Str)} {g : Gr} {v : V} {kvs : List (Key × V)} (h : At S H (wsD ws) v) (r : KvA S H g kvs) : KvA S H ((x, ws) :: g) ((.inr x, v) :: kvs)
theorem KvA.kp {S : Addr → Prop} {H H' : Hp} (k : Kp S H H') {g : Gr} {kvs : List (Key × V)} (h : KvA S H g kvs) : KvA S H' g kvs := by
  induction h with
  | nil => exact .nil
  | cons h _ ih => exact .cons (h.kp k) ih
theorem KvA.off {S T : Addr → Prop} {H : Hp} (st : ∀ b o, H b = some o → T b → S b) {g : Gr} {kvs : List (Key × V)} (h : KvA S H g kvs) : KvA T H g kvs := by
  induction h with
  | nil => exact .nil
  | cons h _ ih => exact .cons (h.off st) ih
theorem KvA.length {S : Addr → Prop} {H : Hp} {g : Gr} {kvs : List (Key × V)} (h : KvA S H g kvs) : kvs.length = g.length := by
  induction h with
  | nil => rfl
  | cons _ _ ih => rw [List.length_cons, List.length_cons, ih]
def NwP (trs : List (TE × TE)) (g : Gr) : Prop := ∀ σ H (Q : List (V × V) → Hp → Prop), (∀ (kvs : List (Key × V)) H', Same H H' → KvA (fun b => H b ≠ none) H' g kvs → Q (kvs.map fun kv => (kV kv.1, kv.2)) H') → tPairs trs σ H Q
theorem nwp_nil : NwP [] [] := fun σ H Q h => h [] _ (fun _ _ z => z) .nil
theorem nwp_cons {x : Str} {te : TE} {ws : List (List Str)} {trs : List (TE × TE)} {g : Gr} (h1 : Nw te (wsD ws)) (h2 : NwP trs g) : NwP ((tC (.str x), te) :: trs) ((x, ws) :: g) := fun σ H Q h =>
  h1 σ H _ fun v H1 s1 a1 => h2 σ H1 _ fun kvs H2 s2 a2 => h ((.inr x, v) :: kvs) _ (s1.trans s2) (.cons (a1.kp (Kp.of_same s2)) (a2.off fun b _ _ z => later s1 b z))
/-- the last word on x -/
def getG (g : Gr) (x : Str) : Option (List (List Str)) := g.foldl (fun a p => if x = p.1 then some p.2 else a) none
theorem getG_snoc (g : Gr) (p : Str × List (List Str)) (x : Str) : getG (g ++ [p]) x = if x = p.1 then some p.2 else getG g x := by
  unfold getG
  rw [List.foldl_append]
  rfl
/-- a dict at D that says these -/
def GD (S : Addr → Prop) (H : Hp) (D : Addr) (kvs : List (Key × V)) (g : Gr) : Prop := H D = some (.dK kvs) ∧ kvs.length ≤ g.length ∧ ∀ x, match getG g x with
  | some ws => ∃ v, valV kvs (.inr x) = some v ∧ At S H (wsD ws) v
  | none => valV kvs (.inr x) = none
theorem GD.put {S : Addr → Prop} {H : Hp} {D : Addr} {kvs : List (Key × V)} {g : Gr} {x : Str} {ws : List (List Str)} {v : V} (h : GD S H D kvs g) (hD : S D) (hv : At S H (wsD ws) v) :
    GD S (upd H D (.dK (putK kvs (.inr x) v))) D (putK kvs (.inr x) v) (g ++ [(x, ws)]) := by
  obtain ⟨h1, h2, h3⟩ := h
  have kp : Kp S H (upd H D (.dK (putK kvs (.inr x) v))) := Kp.upd_in hD
  refine ⟨upd_same, ?_, fun y => ?_⟩
  · have := length_putK kvs (.inr x) v
    rw [List.length_append, List.length_singleton]
    omega
  · rw [getG_snoc, valV_put]
    have q := h3 y
    by_cases e : y = x
    · rw [if_pos e, if_pos (congrArg Sum.inr e)]
      exact ⟨v, rfl, hv.kp kp⟩
    · rw [if_neg e, if_neg (fun z => e (Sum.inr.inj z))]
      cases eg : getG g y with
      | none =>
        rw [eg] at q
        exact q
      | some ws' =>
        rw [eg] at q
        obtain ⟨u, a, b⟩ := q
        exact ⟨u, a, b.kp kp⟩
theorem GD.same {S : Addr → Prop} {H H' : Hp} {D : Addr} {kvs : List (Key × V)} {g : Gr} (h : GD S H D kvs g) (s : Same H H') : GD S H' D kvs g := by
  obtain ⟨h1, h2, h3⟩ := h
  refine ⟨s _ _ h1, h2, fun x => ?_⟩
  have q := h3 x
  cases eg : getG g x with
  | none =>
    rw [eg] at q
    exact q
  | some ws' =>
    rw [eg] at q
    obtain ⟨u, a, b⟩ := q
    exact ⟨u, a, b.kp (Kp.of_same s)⟩
theorem GD.merge {S : Addr → Prop} {D : Addr} (hD : S D) {more : List (Key × V)} {g' : Gr} : ∀ {H : Hp} {kvs : List (Key × V)} {g : Gr}, GD S H D kvs g → KvA S H g' more → GD S (upd H D (.dK (mergeK kvs more))) D (mergeK kvs more) (g ++ g') := by
  induction more generalizing g' with
  | nil =>
    intro H kvs g h r
    cases r
    rw [List.append_nil]
    have e : upd H D (.dK (mergeK kvs [])) = H := by
      funext b
      by_cases z : b = D
      · rw [z, upd_same]
        exact h.1.symm
      · rw [upd_ne z]
    rw [e]
    exact h
  | cons p more ih =>
    intro H kvs g h r
    cases r with
    | @cons x ws g'' v kvs' h1 r =>
      have q := ih (h.put (x := x) hD h1) (r.kp (Kp.upd_in hD))
      have e : upd (upd H D (.dK (putK kvs (.inr x) v))) D (.dK (mergeK (putK kvs (.inr x) v) more)) = upd H D (.dK (mergeK kvs ((.inr x, v) :: more))) := by
        funext b
        by_cases z : b = D
        · rw [z, upd_same, upd_same]
          rfl
        · rw [upd_ne z, upd_ne z, upd_ne z]
      rw [e, List.append_assoc] at q
      exact q
theorem disp_nw {trs : List (TE × TE)} {g : Gr} (hp : NwP trs g) (hl : g.length ≤ 15 := by decide) {σ : L2.St} {H : Hp} {Q : VK} (h : ∀ p kvs H', Same H H' → H p = none → GD (fun b => H b ≠ none ∨ b = p) H' p kvs g → Q (.ref p) H') : tDisp trs σ H Q := by
  intro p hpn
  have s0 : Same H (upd H p (.dK [])) := same_new hpn
  refine hp σ _ _ fun kvs H1 s1 a1 => ?_
  have e1 := s1 _ _ (upd_same (H := H) (a := p) (o := .dK []))
  refine ⟨e1, kvs, rfl, by rw [a1.length]; exact hl, ?_⟩
  have a2 : KvA (fun b => H b ≠ none ∨ b = p) H1 g kvs := a1.off fun b o hb z => by
    rcases z with z | z
    · exact later s0 b z
    · rw [z, upd_same]
      exact fun z => nomatch z
  have q := GD.merge (S := fun b => H b ≠ none ∨ b = p) (D := p) (.inr rfl) (kvs := []) (g := []) (H := H1) ⟨e1, Nat.le_refl _, fun x => rfl⟩ a2
  exact h p _ _ (fun b o hb => by rw [upd_ne (ne_of_none hb hpn)]; exact s1 _ _ (s0 _ _ hb)) hpn q
end TX
/-! part G1 -/
/-! The law's grammar, as it is written. -/
namespace TX
open PySem PySem.Spec PyProof.Rows L2 NT RW4
def g0 : Gr := [("cells", [["-"], ["cell", "cells+"]]), ("cells+", [[], [" ", "cell", "cells+"]])]
def g1 : Gr := [("weights", [["-"], ["weight", "weights+"]]), ("weights+", [[], [" ", "weight", "weights+"]])]
def g2 : Gr := [("joins", [["-"], ["join", "joins+"]]), ("joins+", [[], [" ", "join", "joins+"]])]
def g3 : Gr := [("weight", [["cell", ":", "number"]]), ("join", [["cell", "+", "cell"]]), ("digit0", [[]])]
def g4 : Gr := [("cell", [["whole", ",", "whole"]]), ("number", [["0"], ["1-9", "digit8"]])]
def g5 : Gr := [("whole", [["0"], ["1-9", "digit8"], ["-", "1-9", "digit8"]]), ("place", [["great", ",", "great"]])]
def g6 : List (List Str) := [["0"], ["1-9", "digit59"], ["-", "1-9", "digit59"]]
def w4 : List Str := ["open", "wall", "set", "take"]
def deedOf (x : Str) : List Str := (x.cps.toList ++ [32]).map (fun c => (⟨#[c]⟩ : Str)) ++ [("place" : Str)]
def g7 : List (List Str) := w4.map deedOf
theorem w4_small : w4.all (fun x => decide (x.cps.toList.length ≤ 10)) = true := by decide +kernel
def g8 : Gr := [("log", [["deed", "logs"]]), ("logs", [[], ["\n", "deed", "logs"]])]
def dgN (k : Nat) : Str := SX.S ([100, 105, 103, 105, 116] ++ intL (k : Nat))
def g9 : Gr := (List.range 59).map fun k => (dgN (k + 1), [[], ["digit", dgN k]])
def gAll : Gr := g0 ++ g1 ++ g2 ++ g3 ++ g4 ++ g5 ++ ([("great", g6)] : Gr) ++ ([("deed", g7)] : Gr) ++ g8 ++ g9
theorem gAll_C : gC.all (fun p => decide (getG gAll p.1 = some p.2)) = true := by decide +kernel
theorem gAll_T : terms.all (fun x => decide (getG gAll x = none)) = true := by decide +kernel
theorem gC_nd : gC.all (fun p => decide (ways gC p.1 = some p.2)) = true := by decide +kernel
end TX
/-! part A10 -/
/-! The law's text rules, walked. -/
namespace TX
open PySem PySem.Spec PyProof.Rows L2 NT RW4
local macro_rules | `(tactic| walk_at "go") => `(tactic| simp only [L2.start, List.map_cons, List.map_nil, List.length_cons, List.length_nil, Nat.reduceSub, Nat.reduceAdd, List.replicate_succ, List.replicate_zero, List.cons_append, List.nil_append, List.append_nil,
  tSeq, tNext, tRet, tIfS, tTest, tAnd, tOr, tNot, tCB, tCall, tCons, tNil, tVar, tC, tOp, tUn, tAsg, gName, rI0, rI, CMul, CDiv, tDGet, sDPut, tBM0, tBM, tTup, tLst, tPar, tPar3, gTup, gNil, gCons, tIf, tAug, tRevL, tDisp, tPairs, tYes, wipe, tDrop, L2.tSl, tNotV, tAndV, tOrV, tB, rSlS, ipI, tNoPart, NdefX.startF, tOst, tMkO, rIxL, rIxT, rIxS, rAppend, rExtend, rPop, rSlL, rSetL, tPart, rEq, rNe, tFmt, tJn, tJs, tFi, gLst, tThen, tIf, rS, tThenZ, kLstS, rIS, cRi, rSortedP, rLn, rPopAt, tCallS, ↓reduceIte, L2.gSub, ↓reduceIte,
  List.getElem?_cons_zero, List.getElem?_cons_succ, List.set_cons_zero, List.set_cons_succ, Option.some.injEq, V.int.injEq, V.str.injEq, V.ref.injEq, V.bl.injEq, exists_eq_left, exists_eq_left', exists_eq_right, exists_eq_right', exists_eq', true_and, and_true, decide_eq_true_eq, List.cons.injEq, reduceCtorEq, false_and, false_or, or_false, exists_false, exists_and_left, exists_and_right, and_assoc])
local macro_rules | `(tactic| walk_at "g2") => `(tactic| simp only [L2.start, List.map_cons, List.map_nil, List.length_cons, List.length_nil, Nat.reduceSub, Nat.reduceAdd, List.replicate_succ, List.replicate_zero, List.cons_append, List.nil_append, List.append_nil,
  tSeq, tNext, tRet, tIfS, tTest, tAnd, tOr, tNot, tCB, tCall, tCons, tNil, tVar, tC, tOp, tUn, tAsg, gName, rI0, rI, CMul, CDiv, tDGet, sDPut, tBM0, tBM, tTup, tPar, tPar3, gTup, gNil, gCons, tIf, tAug, tRevL, tYes, wipe, tDrop, L2.tSl, tNotV, tAndV, tOrV, tB, rSlS, ipI, tNoPart, NdefX.startF, tOst, tMkO, rIxL, rIxT, rIxS, rAppend, rExtend, rPop, rSlL, rSetL, tPart, rEq, rNe, tFmt, tJn, tJs, tFi, gLst, tThen, tIf, rS, tThenZ, kLstS, rIS, cRi, rSortedP, rLn, rPopAt, tCallS, ↓reduceIte, L2.gSub, ↓reduceIte,
  List.getElem?_cons_zero, List.getElem?_cons_succ, List.set_cons_zero, List.set_cons_succ, Option.some.injEq, V.int.injEq, V.str.injEq, V.ref.injEq, V.bl.injEq, exists_eq_left, exists_eq_left', exists_eq_right, exists_eq_right', exists_eq', true_and, and_true, decide_eq_true_eq, List.cons.injEq, reduceCtorEq, false_and, false_or, or_false, exists_false, exists_and_left, exists_and_right, and_assoc])
section
variable {w : World} {K : PySem.W.Frag} {mg : Str → Option Value} {base : Heap}
def spRules : Sp := fun vs H Q E => vs = [] ∧ ∀ p H', Same H H' → H p = none → (∀ H'', Kp (fun b => H b ≠ none) H' H'' → GrAt H'' p) → Q (.ref p) H'
theorem gr_of {S : Addr → Prop} {H : Hp} {D : Addr} {kvs : List (Key × V)} (h : GD S H D kvs gAll) : GrAt H D := by
  refine ⟨kvs, h.1, fun x ws hx => ?_, fun x hx => ?_⟩
  · obtain ⟨p, hp, rfl, rfl⟩ := ways_mem hx
    have q := h.2.2 p.1
    rw [of_decide_eq_true (List.all_eq_true.mp gAll_C p hp)] at q
    obtain ⟨v, a, b⟩ := q
    exact ⟨v, a, b.no⟩
  · have q := h.2.2 x
    rw [of_decide_eq_true (List.all_eq_true.mp gAll_T x hx)] at q
    exact q
theorem KvA.keys {S : Addr → Prop} {H : Hp} {g : Gr} {kvs : List (Key × V)} (h : KvA S H g kvs) : kvs.map (·.1) = g.map fun p => (Sum.inr p.1 : Key) := by
  induction h with
  | nil => rfl
  | cons _ _ ih => rw [List.map_cons, List.map_cons, ih]
theorem mergeK_new : ∀ {more acc : List (Key × V)}, (more.map (·.1)).Nodup → (∀ k ∈ more.map (·.1), valV acc k = none) → mergeK acc more = acc ++ more
  | [], acc, _, _ => (List.append_nil acc).symm
  | p :: more, acc, hn, hd => by
    show mergeK (putK acc p.1 p.2) more = acc ++ p :: more
    rw [putK_new _ (hd p.1 List.mem_cons_self)]
    rw [List.map_cons, List.nodup_cons] at hn
    rw [mergeK_new hn.2 fun k hk => ?_, List.append_assoc]
    · rfl
    · have hne : ¬ k = p.1 := fun z => hn.1 (z ▸ hk)
      rw [valV_snoc p.1 k p.2 acc (hd p.1 List.mem_cons_self), if_neg hne]
      exact hd k (List.mem_cons_of_mem _ hk)
theorem KvA.merge0 {S : Addr → Prop} {H : Hp} {g : Gr} {kvs : List (Key × V)} (h : KvA S H g kvs) (hn : (g.map (·.1)).Nodup) : mergeK [] kvs = kvs := by
  rw [mergeK_new (acc := []), List.nil_append]
  · have e : g.map (fun p => (Sum.inr p.1 : Key)) = (g.map fun p => p.1).map Sum.inr := by rw [List.map_map]; rfl
    rw [h.keys, e]
    exact List.Pairwise.map _ (fun a b hab z => hab (Sum.inr.inj z)) hn
  · exact fun _ _ => rfl
theorem upd_step {H00 H : Hp} {D : Addr} {kvs : List (Key × V)} {g g' : Gr} {trs : List (TE × TE)} {σ : L2.St} {Qn : VK} (hD : H00 D = none) (s : Same H00 H) (h : GD (fun b => H00 b ≠ none ∨ b = D) H D kvs g) (hp : NwP trs g') (hl : g'.length ≤ 15) (hg : g.length + g'.length ≤ 1000) (hn : (g'.map (·.1)).Nodup)
    (q : ∀ kvs' H', Same H00 H' → GD (fun b => H00 b ≠ none ∨ b = D) H' D kvs' (g ++ g') → Qn .non H') : tyV K "dict" (.ref D) H ∧ tDisp trs σ H fun x H1 => rUpd (.ref D) [x] H1 Qn := by
  refine ⟨.inr (.inr (.inl ⟨rfl, .inl ⟨_, h.1⟩⟩)), fun p hpn => ?_⟩
  have s0 : Same H (upd H p (.dK [])) := same_new hpn
  refine hp σ _ _ fun kvs1 H1 s1 a1 => ?_
  have e1 := s1 _ _ (upd_same (H := H) (a := p) (o := .dK []))
  refine ⟨e1, kvs1, rfl, by rw [a1.length]; exact hl, ?_⟩
  have pD : D ≠ p := ne_of_none h.1 hpn
  have s01 : Same H (upd H1 p (.dK (mergeK [] kvs1))) := fun b o hb => by
    rw [upd_ne (ne_of_none hb hpn)]
    exact s1 _ _ (s0 _ _ hb)
  have h1 := h.same s01
  have a2 : KvA (fun b => H00 b ≠ none ∨ b = D) (upd H1 p (.dK (mergeK [] kvs1))) g' kvs1 := by
    have z : KvA (fun b => H b ≠ none ∨ b = p) H1 g' kvs1 := a1.off fun b o _ z => by
      rcases z with z | z
      · exact later s0 b z
      · rw [z, upd_same]
        exact fun z => nomatch z
    refine (z.kp (Kp.upd_in (.inr rfl))).off fun b o _ z => ?_
    rcases z with z | z
    · exact .inl (later s b z)
    · rw [z]
      exact .inl (by rw [h.1]; exact fun z => nomatch z)
  rw [a1.merge0 hn] at *
  refine ⟨D, p, kvs, kvs1, rfl, rfl, pD, h1.1, upd_same, by have := h.2.1; rw [a1.length]; omega, ?_⟩
  have m := GD.merge (S := fun b => H00 b ≠ none ∨ b = D) (D := D) (.inr rfl) h1 a2
  refine q _ _ (fun b o hb => ?_) m
  rw [upd_ne (ne_of_none hb hD)]
  exact s01 _ _ (s _ _ hb)
theorem nw0 : Nw (tLst tNil) (dWay []) := nw_lst nwa_nil
theorem nw1 {a : Str} : Nw (tLst (tCons (tC (.str a)) tNil)) (dWay [a]) := nw_lst (nwa_cons nw_str nwa_nil) (show 1 ≤ 1000 by decide)
theorem nw2 {a b : Str} : Nw (tLst (tCons (tC (.str a)) (tCons (tC (.str b)) tNil))) (dWay [a, b]) := nw_lst (nwa_cons nw_str (nwa_cons nw_str nwa_nil)) (show 2 ≤ 1000 by decide)
theorem nw3 {a b c : Str} : Nw (tLst (tCons (tC (.str a)) (tCons (tC (.str b)) (tCons (tC (.str c)) tNil)))) (dWay [a, b, c]) := nw_lst (nwa_cons nw_str (nwa_cons nw_str (nwa_cons nw_str nwa_nil))) (show 3 ≤ 1000 by decide)
theorem put_step {H00 H : Hp} {D : Addr} {kvs : List (Key × V)} {g : Gr} {x : Str} {ws : List (List Str)} {v : V} {N : Hp → Prop} (hD : H00 D = none) (s : Same H00 H) (h : GD (fun b => H00 b ≠ none ∨ b = D) H D kvs g) (hg : g.length ≤ 1000) (hv : At (fun b => H00 b ≠ none ∨ b = D) H (wsD ws) v)
    (q : ∀ kvs' H', Same H00 H' → GD (fun b => H00 b ≠ none ∨ b = D) H' D kvs' (g ++ [(x, ws)]) → N H') : ∃ H4, DPut H D (.str x) v H4 ∧ N H4 := by
  refine ⟨_, DPut.k (k := Sum.inr x) h.1 (small_lt (m := 1000) (Nat.le_trans h.2.1 hg) (by decide)), q _ _ (fun b o hb => ?_) (h.put (.inr rfl) hv)⟩
  rw [upd_ne (ne_of_none hb hD)]
  exact s _ _ hb
theorem ok_rules (T : Txt w K mg) : Ok PW w K mg base CX0 1 "_law_text_rules" [] spRules := by
  obtain ⟨f, fd, D⟩ := T.d_L_text_rules
  refine ⟨f, fd, D.F.ok sc_L_text_rules (fun vs H Q E h => ?_) (fun cdv A outer s H vs Q E hr h => ?_), D.g, D.F.kp, D.b⟩
  · obtain ⟨rfl, _⟩ := h
    rfl
  · obtain ⟨rfl, h⟩ := h
    have nd := sc_L_text_rules.nd
    have hu := hu_of hr
    refine ⟨_, pss_cons (ps_set (i := 0) nd rfl (.inl rfl) (pe_disp (pps_cons pe_str (pe_lst (pa_cons (pe_lst (pa_cons pe_str pa_nil)) (pa_cons (pe_lst (pa_cons pe_str (pa_cons pe_str pa_nil))) pa_nil))) (pps_cons pe_str (pe_lst (pa_cons (pe_lst pa_nil) (pa_cons (pe_lst (pa_cons pe_str (pa_cons pe_str (pa_cons pe_str pa_nil)))) pa_nil))) pps_nil)) (by rfl) (by rfl) (fun z => by cases z) (by decide)))
      (pss_cons (ps_expr (pe_bm PySem.F.plainAttrs_dict PySem.F.slot_dict_update PySem.F.type_dict_update mt_upd (pv 0) (pa_cons (pe_disp (pps_cons pe_str (pe_lst (pa_cons (pe_lst (pa_cons pe_str pa_nil)) (pa_cons (pe_lst (pa_cons pe_str (pa_cons pe_str pa_nil))) pa_nil))) (pps_cons pe_str (pe_lst (pa_cons (pe_lst pa_nil) (pa_cons (pe_lst (pa_cons pe_str (pa_cons pe_str (pa_cons pe_str pa_nil)))) pa_nil))) pps_nil)) (by rfl) (by rfl) (fun z => by cases z) (by decide)) pa_nil)))
      (pss_cons (ps_expr (pe_bm PySem.F.plainAttrs_dict PySem.F.slot_dict_update PySem.F.type_dict_update mt_upd (pv 0) (pa_cons (pe_disp (pps_cons pe_str (pe_lst (pa_cons (pe_lst (pa_cons pe_str pa_nil)) (pa_cons (pe_lst (pa_cons pe_str (pa_cons pe_str pa_nil))) pa_nil))) (pps_cons pe_str (pe_lst (pa_cons (pe_lst pa_nil) (pa_cons (pe_lst (pa_cons pe_str (pa_cons pe_str (pa_cons pe_str pa_nil)))) pa_nil))) pps_nil)) (by rfl) (by rfl) (fun z => by cases z) (by decide)) pa_nil)))
      (pss_cons (ps_expr (pe_bm PySem.F.plainAttrs_dict PySem.F.slot_dict_update PySem.F.type_dict_update mt_upd (pv 0) (pa_cons (pe_disp (pps_cons pe_str (pe_lst (pa_cons (pe_lst (pa_cons pe_str (pa_cons pe_str (pa_cons pe_str pa_nil)))) pa_nil)) (pps_cons pe_str (pe_lst (pa_cons (pe_lst (pa_cons pe_str (pa_cons pe_str (pa_cons pe_str pa_nil)))) pa_nil)) (pps_cons pe_str (pe_lst (pa_cons (pe_lst pa_nil) pa_nil)) pps_nil))) (by rfl) (by rfl) (fun z => by cases z) (by decide)) pa_nil)))
      (pss_cons (ps_expr (pe_bm PySem.F.plainAttrs_dict PySem.F.slot_dict_update PySem.F.type_dict_update mt_upd (pv 0) (pa_cons (pe_disp (pps_cons pe_str (pe_lst (pa_cons (pe_lst (pa_cons pe_str (pa_cons pe_str (pa_cons pe_str pa_nil)))) pa_nil)) (pps_cons pe_str (pe_lst (pa_cons (pe_lst (pa_cons pe_str pa_nil)) (pa_cons (pe_lst (pa_cons pe_str (pa_cons pe_str pa_nil))) pa_nil))) pps_nil)) (by rfl) (by rfl) (fun z => by cases z) (by decide)) pa_nil)))
      (pss_cons (ps_expr (pe_bm PySem.F.plainAttrs_dict PySem.F.slot_dict_update PySem.F.type_dict_update mt_upd (pv 0) (pa_cons (pe_disp (pps_cons pe_str (pe_lst (pa_cons (pe_lst (pa_cons pe_str pa_nil)) (pa_cons (pe_lst (pa_cons pe_str (pa_cons pe_str pa_nil))) (pa_cons (pe_lst (pa_cons pe_str (pa_cons pe_str (pa_cons pe_str pa_nil)))) pa_nil)))) (pps_cons pe_str (pe_lst (pa_cons (pe_lst (pa_cons pe_str (pa_cons pe_str (pa_cons pe_str pa_nil)))) pa_nil)) pps_nil)) (by rfl) (by rfl) (fun z => by cases z) (by decide)) pa_nil)))
      (pss_cons (ps_dput hu (pv 0) pe_str (pe_lst (pa_cons (pe_lst (pa_cons pe_str pa_nil)) (pa_cons (pe_lst (pa_cons pe_str (pa_cons pe_str pa_nil))) (pa_cons (pe_lst (pa_cons pe_str (pa_cons pe_str (pa_cons pe_str pa_nil)))) pa_nil)))) rfl)
      (pss_cons (ps_dput hu (pv 0) pe_str (pe_lc (own := [("word", 2)]) (g := gName 2) (tt := tYes) rfl nd (pi_tup (pe_tup (pa_cons pe_str (pa_cons pe_str (pa_cons pe_str (pa_cons pe_str pa_nil)))))) (blkOk_by (N := n_L_text_rules) (sc := defScope s_L_text_rules) (by decide +kernel))
          (fun _ _ _ _ _ => pg_name (i := 2) nd rfl (.inl rfl)) (fun _ _ _ _ _ => pts_nil) (fun _ _ _ _ _ => pe_op op_cat (pe_listOfS (by rfl) (by rfl) T.z_list (pe_op op_S (pv 2) pe_str)) (pe_lst (pa_cons pe_str pa_nil)))) rfl)
      (pss_cons (ps_expr (pe_bm PySem.F.plainAttrs_dict PySem.F.slot_dict_update PySem.F.type_dict_update mt_upd (pv 0) (pa_cons (pe_disp (pps_cons pe_str (pe_lst (pa_cons (pe_lst (pa_cons pe_str (pa_cons pe_str pa_nil))) pa_nil)) (pps_cons pe_str (pe_lst (pa_cons (pe_lst pa_nil) (pa_cons (pe_lst (pa_cons pe_str (pa_cons pe_str (pa_cons pe_str pa_nil)))) pa_nil))) pps_nil)) (by rfl) (by rfl) (fun z => by cases z) (by decide)) pa_nil)))
      (pss_cons (ps_for PassesOwn.never rfl (pi_range2 (by rfl) T.z_range (pa_cons pe_int (pa_cons pe_int pa_nil))) (pg_name (i := 1) nd rfl (.inl rfl))
        (pss_one (ps_dput hu (pv 0) (pe_op op_S pe_str (pe_callB call_ri (by rfl) T.z_repr (by decide +kernel) (pa_cons (pv 1) pa_nil))) (pe_lst (pa_cons (pe_lst pa_nil) (pa_cons (pe_lst (pa_cons pe_str (pa_cons (pe_op op_S pe_str (pe_callB call_ri (by rfl) T.z_repr (by decide +kernel) (pa_cons (pe_op op_sub (pv 1) pe_int) pa_nil))) pa_nil))) pa_nil))) rfl)))
      (pss_one (ps_ret (pv 0)))))))))))), ?_⟩
    walk_at "g2"
    refine disp_nw (g := g0) (nwp_cons (nw_lst (nwa_cons (nw_lst (nwa_cons nw_str nwa_nil)) (nwa_cons (nw_lst (nwa_cons nw_str (nwa_cons nw_str nwa_nil))) nwa_nil))) (nwp_cons (nw_lst (nwa_cons (nw_lst nwa_nil) (nwa_cons (nw_lst (nwa_cons nw_str (nwa_cons nw_str (nwa_cons nw_str nwa_nil)))) nwa_nil))) nwp_nil)) (by decide) fun D kvs0 H0 s0 hD d0 => ?_
    refine upd_step (g' := g1) hD s0 d0 (nwp_cons (nw_lst (nwa_cons nw1 (nwa_cons nw2 nwa_nil))) (nwp_cons (nw_lst (nwa_cons nw0 (nwa_cons nw3 nwa_nil))) nwp_nil)) (by decide) (by decide) (by decide +kernel) fun kvs1 H1 s1 d1 => ?_
    refine upd_step (g' := g2) hD s1 d1 (nwp_cons (nw_lst (nwa_cons nw1 (nwa_cons nw2 nwa_nil))) (nwp_cons (nw_lst (nwa_cons nw0 (nwa_cons nw3 nwa_nil))) nwp_nil)) (by decide) (by decide) (by decide +kernel) fun kvs2 H2 s2 d2 => ?_
    refine upd_step (g' := g3) hD s2 d2 (nwp_cons (nw_lst (nwa_cons nw3 nwa_nil)) (nwp_cons (nw_lst (nwa_cons nw3 nwa_nil)) (nwp_cons (nw_lst (nwa_cons nw0 nwa_nil)) nwp_nil))) (by decide) (by decide) (by decide +kernel) fun kvs3 H3 s3 d3 => ?_
    refine upd_step (g' := g4) hD s3 d3 (nwp_cons (nw_lst (nwa_cons nw3 nwa_nil)) (nwp_cons (nw_lst (nwa_cons nw1 (nwa_cons nw2 nwa_nil))) nwp_nil)) (by decide) (by decide) (by decide +kernel) fun kvs4 H4 s4 d4 => ?_
    refine upd_step (g' := g5) hD s4 d4 (nwp_cons (nw_lst (nwa_cons nw1 (nwa_cons nw2 (nwa_cons nw3 nwa_nil)))) (nwp_cons (nw_lst (nwa_cons nw3 nwa_nil)) nwp_nil)) (by decide) (by decide) (by decide +kernel) fun kvs5 H5 s5 d5 => ?_
    refine (nw_lst (nwa_cons nw1 (nwa_cons nw2 (nwa_cons nw3 nwa_nil))) : Nw _ (wsD g6)) _ _ _ fun v6 H6 t6 a6 => ⟨D, rfl, put_step hD (s5.trans t6) (d5.same t6) (by decide) (a6.off fun b o _ z => z.elim (fun z => later s5 b z) (fun z => by rw [z, d5.1]; exact fun z => nomatch z)) fun kvs6 H7 s7 d7 => ?_⟩
    refine ⟨by decide, fun pt hpt => ⟨pt, rfl, ⟨w4.map V.str, .inl (.inl upd_same)⟩, fun DL hDL => ?_⟩⟩
    have st : Same H7 (upd H7 pt (.tup (w4.map V.str))) := same_new hpt
    refine lc_it (walk_tup (xs := w4.map V.str)) (fun n H' => Same (upd H7 pt (.tup (w4.map V.str))) H' ∧ ∃ us, H' DL = some (.lst us) ∧ AtL (fun b => (upd H7 pt (.tup (w4.map V.str))) b ≠ none ∨ b = DL) H' ((g7.take n).map dWay) us) ⟨same_new hDL, [], upd_same, atl_nil⟩ (fun n H' _ z => .inl (.inl (z.1 _ _ upd_same))) ?_ ?_
    · rintro n xw Ha Hb hn ⟨sm, us, eD, hus⟩ ⟨rfl, hxw⟩
      obtain ⟨wd, hwd, rfl⟩ := map_get hxw
      have hsm := of_decide_eq_true (List.all_eq_true.mp w4_small wd (List.mem_of_getElem? hwd))
      have hn4 := get_lt hwd
      have hn4' : n < 4 := hn4
      have eg : g7[n]? = some (deedOf wd) := by
        show (w4.map deedOf)[n]? = _
        rw [List.getElem?_map, hwd]
        rfl
      have et : (g7.take (n + 1)).map dWay = (g7.take n).map dWay ++ [dWay (deedOf wd)] := take_snoc eg dWay
      walk_at "go"
      refine ⟨wd.cps.toList, by rw [SX.S_tl], [32], by decide +kernel, by rw [List.length_singleton]; omega, SX.S (wd.cps.toList ++ [32]), rfl, ?_, fun q1 hq1 => ⟨by decide, fun q2 hq2 => ?_⟩⟩
      · show (wd.cps.toList ++ [32]).toArray.size ≤ sizeLine
        rw [List.size_toArray, List.length_append, List.length_singleton]
        exact small_sz (m := 100) (by omega) (by decide)
      · have s1 : Same Hb (upd Hb q1 (.lst ((wd.cps.toList ++ [32]).map fun c => V.str ⟨#[c]⟩))) := same_new hq1
        have s2 := s1.trans (same_new (o := .lst [V.str "place"]) hq2)
        have q12 : q1 ≠ q2 := ne_of_none upd_same hq2
        refine ⟨q1, q2, (wd.cps.toList ++ [32]).map fun c => V.str ⟨#[c]⟩, [V.str "place"], rfl, rfl, by rw [upd_ne q12]; exact upd_same, upd_same, ?_, fun q3 hq3 => ?_⟩
        · rw [List.length_map, List.length_append, List.length_singleton, List.length_singleton]
          exact small_sz (m := 100) (by omega) (by decide)
        · have s3 := s2.trans (same_new (o := .lst (((wd.cps.toList ++ [32]).map fun c => V.str ⟨#[c]⟩) ++ [V.str "place"])) hq3)
          have q3D : q3 ≠ DL := (ne_of_none (s2 _ _ eD) hq3).symm
          have hq30 : Hb q3 = none := s2.free hq3
          have es : ((wd.cps.toList ++ [32]).map fun c => V.str ⟨#[c]⟩) ++ [V.str "place"] = (deedOf wd).map V.str := by
            unfold deedOf
            simp only [List.map_append, List.map_map]
            rfl
          refine ⟨us, s3 _ _ eD, ?_, fun b o hb => ?_, _, upd_same, ?_⟩
          · rw [hus.length, List.length_map, List.length_take]
            exact small_lt (m := 100) (by omega) (by decide)
          · rw [upd_ne (ne_of_none hb hDL)]
            exact s3 _ _ (sm _ _ hb)
          · rw [et]
            refine ((hus.kp (Kp.of_same s3)).kp (Kp.upd_in (.inr rfl))).snoc (at_lst (p := q3) (xs := (deedOf wd).map V.str) (fun z => z.elim (fun z => z (sm.free hq30)) q3D) ?_ (at_strs _))
            rw [upd_ne q3D, upd_same, es]
    · rintro Ha ⟨sm, us, eD, hus⟩
      walk_at "g2"
      have eg : g7.take w4.length = g7 := rfl
      rw [List.length_map, eg] at hus
      have s8 := (s7.trans st).trans sm
      have hDL7 : H7 DL = none := st.free hDL
      refine put_step (ws := g7) hD s8 ((d7.same st).same sm) (by decide) (at_lst (p := DL) ?_ eD (hus.off fun b o _ z => ?_)) fun kvs8 H8 s9 d8 => ?_
      · rintro (z | z)
        · exact z (s7.free hDL7)
        · rw [z, d7.1] at hDL7
          cases hDL7
      · rcases z with z | z
        · exact .inl (later (s7.trans st) b z)
        · refine .inl ?_
          rw [z, st _ _ d7.1]
          exact fun z => nomatch z
      refine upd_step (g' := g8) hD s9 d8 (nwp_cons (nw_lst (nwa_cons nw2 nwa_nil)) (nwp_cons (nw_lst (nwa_cons nw0 (nwa_cons nw3 nwa_nil))) nwp_nil)) (by decide) (by decide) (by decide +kernel) fun kvs9 H9 s10 d9 => ?_
      refine ⟨1, 60, rfl, by decide, for_it (n := 59) (walk_range (lo := 1)) (fun n σ H' => ∃ (kvs : List (Key × V)) (v1 : Option V), σ = [some (.ref D), v1, none] ∧ Same H H' ∧ GD (fun b => H b ≠ none ∨ b = D) H' D kvs (g0 ++ g1 ++ g2 ++ g3 ++ g4 ++ g5 ++ ([("great", g6)] : Gr) ++ ([("deed", g7)] : Gr) ++ g8 ++ g9.take n)) ⟨_, none, rfl, s10, by rw [List.take_zero, List.append_nil]; exact d9⟩ (fun _ _ _ _ _ => trivial) ?_ ?_⟩
      · rintro n xv σ Hb Hc hn ⟨kvs, v1, rfl, sb, db⟩ ⟨rfl, rfl⟩
        walk_at "go"
        have z1 : (1 + (n : Int) - 1) = ((n : Nat) : Int) := by omega
        have z2 : (1 + (n : Int)) = ((n + 1 : Nat) : Int) := by omega
        have edig : (Str.ofString "digit") = SX.S [100, 105, 103, 105, 116] := by decide +kernel
        have l1 : (intL ((n : Nat) : Int)).length ≤ 10 := intL_len (x := 122) ⟨(show _ < 10 ^ 9 by omega), fun z => absurd z (by decide)⟩
        have l2 : (intL ((n + 1 : Nat) : Int)).length ≤ 10 := intL_len (x := 122) ⟨(show _ < 10 ^ 9 by omega), fun z => absurd z (by decide)⟩
        rw [z1, z2]
        refine ⟨by decide, fun p1 hp1 => ⟨by omega, _, edig, _, rfl, by simp only [List.length_cons, List.length_nil]; omega, by decide, fun p2 hp2 => ⟨by decide, fun p3 hp3 => ⟨by omega, _, edig, _, rfl, by simp only [List.length_cons, List.length_nil]; omega, ?_⟩⟩⟩⟩
        have t1 : Same Hc (upd Hc p1 (.lst [])) := same_new hp1
        have t2 := same_new (o := .lst [V.str "digit", V.str (dgN n)]) hp2
        have t3 := same_new (o := .lst [V.ref p1, V.ref p2]) hp3
        have s3 := (t1.trans t2).trans t3
        have ep1 := t3 _ _ (t2 p1 _ upd_same)
        have ep2 := t3 p2 _ upd_same
        have nS : ∀ {p : Addr}, Hc p = none → ¬ (H p ≠ none ∨ p = D) := fun {p} hp z => z.elim (fun z => z (sb.free hp)) fun z => by
          rw [z, db.1] at hp
          cases hp
        have et : g9.take (n + 1) = g9.take n ++ ([(dgN (n + 1), [[], [("digit" : Str), dgN n]])] : Gr) := by
          have eg : g9[n]? = some (dgN (n + 1), ([[], [("digit" : Str), dgN n]] : List (List Str))) := by
            unfold g9
            rw [List.getElem?_map, List.getElem?_range hn]
            rfl
          rw [List.take_succ, eg]
          rfl
        have hc1 : (g0 ++ g1 ++ g2 ++ g3 ++ g4 ++ g5 ++ ([("great", g6)] : Gr) ++ ([("deed", g7)] : Gr) ++ g8).length ≤ 100 := by decide
        have hc2 : (g9.take n).length ≤ n := by rw [List.length_take]; omega
        refine put_step (x := dgN (n + 1)) (ws := [[], [("digit" : Str), dgN n]]) (N := fun x2 => Same H x2 ∧ ∃ x, GD (fun b => H b ≠ none ∨ b = D) x2 D x (g0 ++ g1 ++ g2 ++ g3 ++ g4 ++ g5 ++ ([("great", g6)] : Gr) ++ ([("deed", g7)] : Gr) ++ g8 ++ g9.take (n + 1))) hD (sb.trans s3) (db.same s3) (by rw [List.length_append]; omega)
          (at_lst (p := p3) (xs := [V.ref p1, V.ref p2]) (nS ((t1.trans t2).free hp3)) upd_same (atl_cons (at_lst (p := p1) (xs := []) (nS hp1) ep1 atl_nil) (atl_cons (at_lst (p := p2) (xs := [V.str "digit", V.str (dgN n)]) (nS (t1.free hp2)) ep2 (atl_cons at_str (atl_cons at_str atl_nil))) atl_nil))) fun kvs' H' s' d' => ⟨s', kvs', ?_⟩
        rw [et, ← List.append_assoc]
        exact d'
      · rintro σ Hb ⟨kvs, v1, rfl, sb, db⟩
        walk_at "go"
        refine h D Hb sb hD fun H'' k => gr_of (S := fun b => H b ≠ none ∨ b = D) (kvs := kvs) ⟨k _ _ db.1 (fun z => z hD), db.2.1, fun x => ?_⟩
        have q := db.2.2 x
        cases eg : getG gAll x with
        | none =>
          rw [show g0 ++ g1 ++ g2 ++ g3 ++ g4 ++ g5 ++ ([("great", g6)] : Gr) ++ ([("deed", g7)] : Gr) ++ g8 ++ g9.take 59 = gAll from rfl, eg] at q
          exact q
        | some ws' =>
          rw [show g0 ++ g1 ++ g2 ++ g3 ++ g4 ++ g5 ++ ([("great", g6)] : Gr) ++ ([("deed", g7)] : Gr) ++ g8 ++ g9.take 59 = gAll from rfl, eg] at q
          obtain ⟨u, a, b⟩ := q
          exact ⟨u, a, b.kp (k.mono fun b z => .inl z)⟩
end
end TX
/-! part B3 -/
/-! Told rows may be shown. -/
namespace TX
open PySem PySem.Spec PyProof.Rows L2 NT RW4
theorem str_app (a b : Str) : (a ++ b).length = a.length + b.length := by
  show (a.cps ++ b.cps).size = _
  rw [Array.size_append]
  rfl
theorem listText_le (ts : List Str) : (listText ts).length ≤ piled ts + 2 := by
  have h : ∀ (ts : List Str), (textFrom 0 "[" ts).length ≤ 1 + piled ts := fun ts => by
    cases ts with
    | nil => decide
    | cons t ts =>
      show (textFrom 1 (("[" : Str) ++ ("" : Str) ++ t) ts).length ≤ _
      rw [textFrom_length_pos _ _ _ (by decide), str_app, piled_cons, show (("[" : Str) ++ ("" : Str)).length = 1 by decide +kernel]
      omega
  have q := h ts
  unfold listText
  rw [str_app, show (("]" : Str)).length = 1 by decide +kernel]
  omega
theorem tupleText_le (ts : List Str) : (tupleText ts).length ≤ piled ts + 3 := by
  have hj : (Str.join ", " ts).length ≤ piled ts := by
    by_cases h : ts = []
    · rw [h]
      decide
    · have := join_length_add ts h
      omega
  unfold tupleText
  rw [str_app, str_app, show (("(" : Str)).length = 1 by decide +kernel]
  split
  · rw [show ((",)" : Str)).length = 2 by decide +kernel]
    omega
  · rw [show ((")" : Str)).length = 1 by decide +kernel]
    omega
/-- data of so many signs at most -/
structure Sml (d : PyData) (n m : Nat) : Prop where
  sh : d.showable = true
  nd : d.hasDict = false
  dp : d.depth ≤ m
  ln : d.shown.length ≤ n
theorem sml_int {i : Int} (h : i.natAbs < 10 ^ 9) : Sml (.int i) 10 0 := by
  refine ⟨?_, rfl, Nat.le_refl _, ?_⟩
  · unfold PyData.showable
    exact decide_eq_true (log_ok h)
  · show (Str.ofString (toString i)).length ≤ 10
    rw [intS, S_len]
    exact intL_len (x := 122) ⟨h, fun z => absurd z (by decide)⟩
inductive SmlA : List PyData → Nat → Nat → Prop where
  | nil {m : Nat} : SmlA [] 0 m
  | cons {d : PyData} {ds : List PyData} {n k m : Nat} (h : Sml d n m) (r : SmlA ds k m) : SmlA (d :: ds) (n + 2 + k) m
theorem SmlA.all {ds : List PyData} {n m : Nat} (h : SmlA ds n m) : PyData.showableAll ds = true ∧ PyData.hasDictAll ds = false ∧ PyData.depthAll ds ≤ m ∧ piled (PyData.shownAll ds) ≤ n := by
  induction h with
  | nil => exact ⟨rfl, rfl, Nat.zero_le _, Nat.le_refl _⟩
  | cons h _ ih =>
    obtain ⟨a, b, c, d⟩ := ih
    refine ⟨?_, ?_, ?_, ?_⟩
    · simp only [PyData.showableAll, h.sh, a, Bool.and_self]
    · simp only [PyData.hasDictAll, h.nd, b, Bool.or_self]
    · simp only [PyData.depthAll]
      exact Nat.max_le.mpr ⟨h.dp, c⟩
    · simp only [PyData.shownAll]
      rw [piled_cons]
      have := h.ln
      omega
theorem sml_tup {ds : List PyData} {n m : Nat} (h : SmlA ds n m) : Sml (.tuple ds) (n + 3) (m + 1) := by
  obtain ⟨a, b, c, d⟩ := h.all
  refine ⟨?_, ?_, ?_, ?_⟩
  · simp only [PyData.showable, a]
  · simp only [PyData.hasDict, b]
  · simp only [PyData.depth]
    omega
  · simp only [PyData.shown]
    exact Nat.le_trans (tupleText_le _) (by omega)
theorem sml_lst {ds : List PyData} {n m : Nat} (h : SmlA ds n m) : Sml (.list ds) (n + 2) (m + 1) := by
  obtain ⟨a, b, c, d⟩ := h.all
  refine ⟨?_, ?_, ?_, ?_⟩
  · simp only [PyData.showable, a]
  · simp only [PyData.hasDict, b]
  · simp only [PyData.depth]
    omega
  · simp only [PyData.shown]
    exact Nat.le_trans (listText_le _) (by omega)
theorem Sml.mono {d : PyData} {n m n' m' : Nat} (h : Sml d n m) (hn : n ≤ n') (hm : m ≤ m') : Sml d n' m' := ⟨h.sh, h.nd, Nat.le_trans h.dp hm, Nat.le_trans h.ln hn⟩
theorem smla_map {α : Type} {f : α → PyData} {n m : Nat} : ∀ {l : List α}, (∀ a ∈ l, Sml (f a) n m) → SmlA (l.map f) ((n + 2) * l.length) m
  | [], _ => by
    rw [List.length_nil, Nat.mul_zero]
    exact .nil
  | a :: l, h => by
    rw [List.length_cons, show (n + 2) * (l.length + 1) = n + 2 + (n + 2) * l.length by rw [Nat.mul_succ]; omega]
    exact .cons (h a List.mem_cons_self) (smla_map fun b hb => h b (List.mem_cons_of_mem _ hb))
theorem sml_C {x y : Int} (hx : x.natAbs < 10 ^ 9) (hy : y.natAbs < 10 ^ 9) : Sml (dC [x, y]) 27 1 := (sml_tup (.cons (sml_int hx) (.cons (sml_int hy) .nil)))
theorem sml_row {part : Str} {form : List Nat} {dd : List Int → PyData} (hk : KD part form dd) {a : List Int} (h : okI form a) : Sml (dd a) 100 2 := by
  rcases hk with ⟨_, rfl, rfl⟩ | ⟨_, rfl, rfl⟩ | ⟨_, rfl, rfl⟩
  · obtain ⟨x, y, rfl, hx, hy⟩ := okI_C h
    exact (sml_C hx.1 hy.1).mono (by decide) (by decide)
  · obtain ⟨x, y, n, rfl, hx, hy, hn⟩ := okI_W h
    exact (sml_tup (.cons (sml_C hx.1 hy.1) (.cons ((sml_int hn.1).mono (Nat.le_refl _) (Nat.zero_le 1)) .nil))).mono (by decide) (by decide)
  · obtain ⟨x, y, u, v, rfl, hx, hy, hu, hv⟩ := okI_J h
    exact (sml_tup (.cons (sml_C hx.1 hy.1) (.cons (sml_C hu.1 hv.1) .nil))).mono (by decide) (by decide)
/-- a told row in a list may be shown -/
theorem rp_row {part : Str} {form : List Nat} {dd : List Int → PyData} (hk : KD part form dd) {l : List (List Int)} (h : ∀ a ∈ l, okI form a) (hl : l.length ≤ 100) : Rp (.list [.tuple (l.map dd)]) := by
  have q := sml_lst (.cons (sml_tup (smla_map (f := dd) fun a ha => sml_row hk (h a ha))) .nil)
  exact ⟨q.sh, q.nd, Nat.le_trans q.dp (by decide), Nat.le_trans q.ln (small_sz (m := 20000) (by omega) (by decide))⟩
theorem rp_int {i : Int} (h : i.natAbs < 10 ^ 9) : Rp (.int i) := by
  have q := sml_int h
  exact ⟨q.sh, q.nd, Nat.le_trans q.dp (by decide), Nat.le_trans q.ln (by decide)⟩
end TX
/-! part A11 -/
/-! A row is written and read; near texts. -/
namespace TX
open PySem PySem.Spec PyProof.Rows L2 NT RW4
def cRd : List V → Hp → VK → Prop := fun xs H Q => ∃ v d, xs = [v] ∧ At No H d v ∧ Rp d ∧ Q (.str d.shown) H
theorem call_rd {X : Cx} (hg : X.A.guards = some []) (hu : X.A.units + 64 < cLine) : CallR X (.builtin "repr") cRd := call_repr_data hg hu
theorem fwd {part : Str} {form : List Nat} {dd : List Int → PyData} (hk : KD part form dd) {l : List (List Int)} (h : ∀ a ∈ l, okI form a) : itemsS form (wRow form l) = .ok l := by
  rcases hk with ⟨_, rfl, rfl⟩ | ⟨_, rfl, rfl⟩ | ⟨_, rfl, rfl⟩
  · exact items_fwd (fs := [122]) rfl rfl (by decide) h
  · exact items_fwd (fs := [122, 58, 110]) rfl rfl (by decide) h
  · exact items_fwd (fs := [122, 43, 122, 44, 122]) rfl rfl (by decide) h
theorem kd_len {part : Str} {form : List Nat} {dd : List Int → PyData} (hk : KD part form dd) {a : List Int} (h : okI form a) : (wF form a).length ≤ 50 := by
  rcases hk with ⟨_, rfl, rfl⟩ | ⟨_, rfl, rfl⟩ | ⟨_, rfl, rfl⟩
  · obtain ⟨x, y, rfl, hx, hy⟩ := okI_C h
    have := intL_len hx
    have := intL_len hy
    rw [wF_C]
    simp only [List.length_append, List.length_cons]
    omega
  · obtain ⟨x, y, n, rfl, hx, hy, hn⟩ := okI_W h
    have := intL_len hx
    have := intL_len hy
    have := intL_len hn
    rw [wF_W]
    simp only [List.length_append, List.length_cons]
    omega
  · obtain ⟨x, y, u, v, rfl, hx, hy, hu, hv⟩ := okI_J h
    have := intL_len hx
    have := intL_len hy
    have := intL_len hu
    have := intL_len hv
    rw [wF_J]
    simp only [List.length_append, List.length_cons]
    omega
theorem wR_len {form : List Nat} : ∀ {l : List (List Int)}, (∀ a ∈ l, (wF form a).length ≤ 50) → (wR form l).length ≤ 51 * l.length
  | [], _ => Nat.le_refl _
  | a :: l, h => by
    have h1 := h a List.mem_cons_self
    have h2 := wR_len fun b hb => h b (List.mem_cons_of_mem _ hb)
    unfold wR
    rw [List.length_cons, List.length_append, List.length_cons]
    omega
theorem wRow_len {form : List Nat} {l : List (List Int)} (h : ∀ a ∈ l, (wF form a).length ≤ 50) : (wRow form l).length ≤ 51 * l.length + 1 := by
  cases l with
  | nil => exact Nat.le_refl _
  | cons a l =>
    have h1 := h a List.mem_cons_self
    have h2 := wR_len fun b hb => h b (List.mem_cons_of_mem _ hb)
    unfold wRow
    rw [List.length_append, List.length_cons]
    omega
theorem farM_le {g : Gr} {n : Nat} : ∀ {s : List Nat} {o : List Stk} {j : Nat} {b : Bool}, farM g n o s = some (j, b) → j ≤ s.length := by
  intro s
  induction s with
  | nil =>
    intro o j b h
    unfold farM at h
    cases e : clo g n o [] with
    | none =>
      rw [e] at h
      cases h
    | some rd =>
      rw [e] at h
      cases h
      exact Nat.le_refl _
  | cons c s ih =>
    intro o j b h
    unfold farM at h
    cases e : clo g n o [] with
    | none =>
      rw [e] at h
      cases h
    | some rd =>
      rw [e] at h
      dsimp only at h
      split at h
      · cases h
        exact Nat.zero_le _
      · obtain ⟨⟨j2, b2⟩, e2, e3⟩ := Option.map_eq_some_iff.mp h
        cases e3
        exact Nat.succ_le_succ (ih e2)
/-- the machine's word on a text of this part -/
theorem far_of {part : Str} {form : List Nat} {dd : List Int → PyData} (hk : KD part form dd) (s : List Nat) : symB part = true ∧ farM gC 40 [[part]] s = some (match itemsS form s with | .error j => (j, false) | .ok _ => (s.length, true)) := by
  rcases hk with ⟨rfl, rfl, rfl⟩ | ⟨rfl, rfl, rfl⟩ | ⟨rfl, rfl, rfl⟩
  · exact ⟨by decide +kernel, far_items kCells (.inl rfl) s⟩
  · exact ⟨by decide +kernel, far_items kWeights (.inr (.inl rfl)) s⟩
  · exact ⟨by decide +kernel, far_items kJoins (.inr (.inr rfl)) s⟩
local macro_rules | `(tactic| walk_at "go") => `(tactic| simp only [L2.start, List.map_cons, List.map_nil, List.length_cons, List.length_nil, Nat.reduceSub, Nat.reduceAdd, List.replicate_succ, List.replicate_zero, List.cons_append, List.nil_append, List.append_nil,
  tSeq, tNext, tRet, tIfS, tTest, tAnd, tOr, tNot, tCB, tCall, tCons, tNil, tVar, tC, tOp, tUn, tAsg, gName, rI0, rI, CMul, CDiv, tDGet, sDPut, tBM0, tBM, tTup, tLst, tPar, tPar3, gTup, gNil, gCons, tIf, tAug, tRevL, tDisp, tPairs, tYes, wipe, tDrop, L2.tSl, tNotV, tAndV, tOrV, tB, rSlS, ipI, tNoPart, NdefX.startF, tOst, tMkO, rIxL, rIxT, rIxS, rAppend, rExtend, rPop, rSlL, rSetL, tPart, rEq, rNe, tFmt, tJn, tJs, tFi, gLst, tThen, tIf, rS, tThenZ, kLstS, rIS, cRi, rSortedP, rLn, rPopAt, tCallS, ↓reduceIte, L2.gSub, ↓reduceIte,
  List.getElem?_cons_zero, List.getElem?_cons_succ, List.set_cons_zero, List.set_cons_succ, Option.some.injEq, V.int.injEq, V.str.injEq, V.ref.injEq, V.bl.injEq, exists_eq_left, exists_eq_left', exists_eq_right, exists_eq_right', exists_eq', true_and, and_true, decide_eq_true_eq, List.cons.injEq, reduceCtorEq, false_and, false_or, or_false, exists_false, exists_and_left, exists_and_right, and_assoc])
section
variable {w : World} {K : PySem.W.Frag} {mg : Str → Option Value} {base : Heap}
def spPart : Sp := fun vs H Q E => ∃ (d c g : Addr) (v : V) (part : Str) (form : List Nat) (dd : List Int → PyData) (l : List (List Int)), vs = [.ref d, .ref g, v, .str part] ∧ Src H d c ∧ (∀ H', Kp (DC d c) H H' → GrAt H' g) ∧ KD part form dd ∧ At No H (.tuple (l.map dd)) v ∧ l.length ≤ 8 ∧ (∀ a ∈ l, okI form a) ∧
  ∀ H', Kp (DC d c) H H' → Src H' d c → Q (.bl true) H'
theorem ok_part (T : Txt w K mg) {C R fI cc : Addr} (B : BadC K mg C R fI cc) : OkG PW w K mg base CX0 11 "_law_part_right" ["source", "rules", "told", "part"] spPart := by
  obtain ⟨f, fd, D⟩ := T.d_L_part_right
  refine ⟨f, fd, NT.Fun.okG D.F sc_L_part_right (fun vs H Q E h => ?_) (fun cdv A outer s H vs Q E hgd hr h => ?_), D.g, D.F.kp, D.b⟩
  · obtain ⟨d, c, g, v, part, form, dd, l, rfl, _⟩ := h
    rfl
  · obtain ⟨d, c, g, v, part, form, dd, l, rfl, S, G, hk, hv, hl, hok, h⟩ := h
    have nd := sc_L_part_right.nd
    have hu := hu_of hr
    refine ⟨_, pss_cons (ps_set (i := 4) nd rfl (.inl rfl) (pe_d (ok_written T) hr pass0 (pa_cons (pv 2) (pa_cons (pv 3) pa_nil))))
      (pss_cons (ps_if (PW.pt (pw_or (pt_cmpR op_ne (pe_d (ok_rewritten T) hr pass0 (pa_cons (pv 2) (pa_cons (pv 3) pa_nil))) (pv 4) (nomark _))
          (pw_or1 (pt_cmpR op_ne (pe_callB (call_rd hgd hr.units) (by rfl) T.z_repr (by decide +kernel) (pa_cons (pe_d (ok_readAs T B) hr pass0 (pa_cons (pv 4) (pa_cons (pv 3) pa_nil))) pa_nil)) (pe_callB (call_rd hgd hr.units) (by rfl) T.z_repr (by decide +kernel) (pa_cons (pe_lst (pa_cons (pv 2) pa_nil)) pa_nil)) (nomark _)))))
        (pss_one (ps_ret pe_bl)) pss_nil)
      (pss_cons (ps_for PassesOwn.never rfl (pi_list (pe_d (ok_near T) hr pass0 (pa_cons (pv 0) (pa_cons (pv 4) (pa_cons pe_str pa_nil))))) (pg_name (i := 5) nd rfl (.inl rfl))
        (pss_cons (ps_asg (pe_d (ok_far T) hr pass0 (pa_cons (pv 1) (pa_cons (pv 5) (pa_cons (pv 3) pa_nil)))) (pg_tup (by rfl) (pgs_cons (pg_name (i := 6) nd rfl (.inl rfl)) (pgs_cons (pg_name (i := 7) nd rfl (.inl rfl)) pgs_nil))))
        (pss_cons (ps_set (i := 8) nd rfl (.inl rfl) (pe_d (ok_readAs T B) hr pass0 (pa_cons (pv 5) (pa_cons (pv 3) pa_nil))))
        (pss_cons (ps_if (PW.pt (pw_and (pt_not (pt_val (pv 7))) (pw_and1 (pt_cmpR op_ne (pe_callB (call_rd hgd hr.units) (by rfl) T.z_repr (by decide +kernel) (pa_cons (pv 8) pa_nil)) (pe_callB (call_rd hgd hr.units) (by rfl) T.z_repr (by decide +kernel) (pa_cons (pv 6) pa_nil)) (nomark _))))) (pss_one (ps_ret pe_bl)) pss_nil)
        (pss_cons (ps_if (PW.pt (pw_and (pt_val (pv 7)) (pw_and1 (PW.pt (pw_or (pt_not (pt_val (pe_callB call_isi (by rfl) T.z_isinstance (by decide +kernel) (pa_cons (pv 8) (pa_cons (pe_bltn (v := .ty "list") (by rfl) T.z_list (by decide +kernel) rfl) pa_nil)))))
            (pw_or1 (pt_cmpR op_ne (pe_d (ok_written T) hr pass0 (pa_cons (pe_ix ix_list (pv 8) pe_int (fun _ _ => rfl)) (pa_cons (pv 3) pa_nil))) (pv 5) (nomark _)))))))) (pss_one (ps_ret pe_bl)) pss_nil)
        (pss_one (ps_if (PW.pt (pw_and (pt_val (pv 7)) (pw_and1 (pt_cmpR op_ne (pe_d (ok_rewritten T) hr pass0 (pa_cons (pe_ix ix_list (pv 8) pe_int (fun _ _ => rfl)) (pa_cons (pv 3) pa_nil))) (pv 5) (nomark _))))) (pss_one (ps_ret pe_bl)) pss_nil)))))))
      (pss_one (ps_ret pe_bl)))), ?_⟩
    have hXl := wRow_len fun a ha => kd_len hk (hok a ha)
    walk_at "go"
    refine ⟨v, part, form, dd, l, rfl, hk, hv, by omega, hok, fun H1 s1 => ?_⟩
    walk_at "go"
    refine ⟨v, part, form, dd, l, rfl, hk, hv.kp (Kp.of_same s1), by omega, hok, fun H2 s2 => ?_⟩
    walk_at "go"
    refine ⟨rfl, ?_⟩
    rw [if_neg (by simp)]
    refine ⟨_, part, rfl, .inr (.inl ⟨form, dd, wRow form l, hk, rfl, by omega, fun l' e' _ a H3 s3 ha => ?_, fun j e => ?_⟩)⟩
    · rw [fwd hk hok] at e'
      cases e'
      refine ⟨_, _, rfl, ha.no, rp_row hk hok (by omega), by decide, fun p hp => ?_⟩
      have s13 := (s1.trans s2).trans s3
      refine ⟨_, .list [.tuple (l.map dd)], rfl, at_lst id upd_same (atl_cons (hv.kp (Kp.of_same (s13.trans (same_new hp)))) atl_nil), rp_row hk hok (by omega), rfl, ?_⟩
      rw [if_neg (by simp)]
      have s4 := s13.trans (same_new (o := .lst [v]) hp)
      refine ⟨_, rfl, _, rfl, d, c, wRow form l, _, rfl, S.same s4, by omega, ?_, ?_, fun D ys H5 k5 S5 hD eD hyl hys => ?_⟩
      · decide +kernel
      · decide +kernel
      · refine ⟨D, rfl, ⟨_, .inl (.inl eD)⟩, for_it walk_list (fun n σ H' => ∃ (v5 v6 v7 v8 : Option V), σ = [some (.ref d), some (.ref g), some v, some (.str part), some (.str (SX.S (wRow form l))), v5, v6, v7, v8] ∧ Same H5 H') ⟨none, none, none, none, rfl, fun _ _ z => z⟩ (fun n σ H' _ z => by
          obtain ⟨_, _, _, _, _, z⟩ := z
          exact .inl (.inl (z _ _ eD))) ?_ ?_⟩
        · rintro n xv σ Ha Hb hn ⟨v5, v6, v7, v8, rfl, sa⟩ ⟨rfl, hx⟩
          obtain ⟨y, hy, rfl⟩ := map_get hx
          have hyl2 := hys y (List.mem_of_getElem? hy)
          obtain ⟨hsy, hfar⟩ := far_of hk y
          walk_at "go"
          have G2 : ∀ H', Same Hb H' → GrAt H' g := fun H' z => G H' (((Kp.of_same s4).trans (k5.trans (Kp.of_same sa))).trans (Kp.of_same z))
          cases ei : itemsS form y with
          | error j0 =>
            rw [ei] at hfar
            dsimp only at hfar
            have hj := farM_le hfar
            have rpj : Rp (.int ((j0 : Nat) : Int)) := rp_int (by omega)
            refine ⟨g, y, part, j0, false, rfl, G2 _ (fun _ _ z => z), hsy, by omega, hfar, fun p H6 s6 hp ep => ?_⟩
            refine ⟨p, rfl, _, .inl (.inl ep), rfl, _, _, rfl, _, _, rfl, rfl, ?_⟩
            refine ⟨_, part, rfl, .inr (.inl ⟨form, dd, y, hk, rfl, by omega, fun l' e' => ?_, fun j e' H7 s7 => ?_⟩)⟩
            · rw [ei] at e'
              cases e'
            · rw [ei] at e'
              cases e'
              refine ⟨false, rfl, ?_⟩
              rw [if_pos (by decide)]
              refine ⟨_, _, rfl, at_int, rpj, _, _, rfl, at_int, rpj, rfl, ?_⟩
              rw [if_neg (by simp)]
              refine ⟨false, rfl, ?_⟩
              rw [if_neg (by decide)]
              refine ⟨false, rfl, ?_⟩
              rw [if_neg (by decide)]
              exact (sa.trans s6).trans s7
          | ok l2 =>
            rw [ei] at hfar
            dsimp only at hfar
            have hb2 := items_back ei
            have hok2 := items_ok ei
            have hl2 := items_len ei
            refine ⟨g, y, part, y.length, true, rfl, G2 _ (fun _ _ z => z), hsy, by omega, hfar, fun p H6 s6 hp ep => ?_⟩
            refine ⟨p, rfl, _, .inl (.inl ep), rfl, _, _, rfl, _, _, rfl, rfl, ?_⟩
            refine ⟨_, part, rfl, .inr (.inl ⟨form, dd, y, hk, rfl, by omega, fun l' e' _ a H7 s7 ha => ?_, fun j e' => ?_⟩)⟩
            · rw [ei] at e'
              cases e'
              refine ⟨true, rfl, ?_⟩
              rw [if_neg (by decide)]
              refine ⟨true, rfl, ?_⟩
              rw [if_pos rfl]
              obtain ⟨p2, xs, rfl, _, ep2, hxs⟩ := ha.lst
              obtain ⟨v1, r1, rfl, a1, hr1⟩ := hxs.cons
              obtain rfl := hr1.nil
              refine ⟨_, .ty "list", .type "list", .type "list", true, rfl, .ty _, .base (.lst ep2), kit_ty (by decide +kernel), true, rfl, ?_⟩
              rw [if_neg (by decide)]
              refine ⟨p2, rfl, _, .inl (.inl ep2), v1, rfl, v1, part, form, dd, _, rfl, hk, a1.no, by omega, hok2, fun H8 s8 => ⟨rfl, ?_⟩⟩
              rw [hb2, if_neg (by simp)]
              refine ⟨true, rfl, ?_⟩
              rw [if_pos rfl]
              refine ⟨p2, rfl, _, .inl (.inl (s8 _ _ ep2)), v1, rfl, v1, part, form, dd, _, rfl, hk, (a1.kp (Kp.of_same s8)).no, by omega, hok2, fun H9 s9 => ⟨rfl, ?_⟩⟩
              rw [hb2, if_neg (by simp)]
              exact (((sa.trans s6).trans s7).trans s8).trans s9
            · rw [ei] at e'
              cases e'
        · rintro σ Ha ⟨v5, v6, v7, v8, rfl, sa⟩
          walk_at "go"
          exact h Ha ((Kp.of_same s4).trans (k5.trans (Kp.of_same sa))) (S5.same sa)
    · rw [fwd hk hok] at e
      cases e
end
end TX
/-! part B4 -/
/-! for i, c in enumerate(text). -/
namespace TX
open PySem PySem.Spec PyProof.Rows L2 NT RW4
/-- the signs of x, each in a new pair with its number -/
def ItS (x : Str) : It := ⟨fun i _ => i < x.cps.size, fun i H v H' => ∃ T c, v = .ref T ∧ H T = none ∧ H' = upd H T (.tup [.int (i : Nat), .str ⟨#[c]⟩]) ∧ x.cps[i]? = some c, fun i _ => i = x.cps.size⟩
/-- an enumerate over the signs of a text, i of them drawn -/
structure EnS (x : Str) (t : Tok) (en si : Addr) (i : Nat) (g : Heap) : Prop where
  count : ∃ old, IsEnum g en si ((i : Nat) : Int) old
  signs : g.IsStrIter si (strIterType x) x t i
  apart : en ≠ si
theorem two_of {a b : Addr} {P : Addr → Prop} (ha : P a) (hb : P b) : ∀ c ∈ [a, b], P c := fun c hc => by
  rcases List.mem_cons.mp hc with rfl | hc
  · exact ha
  · rw [List.mem_singleton.mp hc]
    exact hb
theorem EnS.both {x : Str} {t : Tok} {en si : Addr} {i : Nat} {g : Heap} (Z : EnS x t en si i g) : en < g.objs.size ∧ si < g.objs.size := by
  obtain ⟨old, e⟩ := Z.count
  obtain ⟨o, u, _⟩ := Z.signs
  exact ⟨Heap.lt_size e, Heap.lt_size u⟩
theorem EnS.up {x : Str} {t : Tok} {en si : Addr} {i : Nat} {g g' : Heap} (Z : EnS x t en si i g) (k : ∀ b ∈ [en, si], ∀ o, g.get? b = some o → g'.get? b = some o) : EnS x t en si i g' := by
  obtain ⟨old, e⟩ := Z.count
  obtain ⟨o, u, r⟩ := Z.signs
  exact ⟨⟨old, k en (List.mem_cons_self) _ e⟩, ⟨o, k si (by simp) o u, r⟩, Z.apart⟩
theorem turn_enumS {P : Program} {w : World} {K : PySem.W.Frag} {elts : List Expr} {kk : Nat} {tpos : Pos} (x : Str) (t : Tok) (en si : Addr) : Turn P w K (.Tuple elts kk tpos) (ItS x) [en, si] en (fun i g => EnS x t en si i g) := by
  constructor
  case mem => exact List.mem_cons_self
  case obj =>
    intro i g Z
    obtain ⟨old, e⟩ := Z.count
    obtain ⟨o, u, c, dd⟩ := Z.signs
    exact two_of ⟨_, e, fun _ z => nomatch z⟩ ⟨o, u, fun _ z => nomatch dd.symm.trans z⟩
  case keep => exact fun i g g' Z k => Z.up k
  case self =>
    intro A i s Q E Z h
    obtain ⟨old, e⟩ := Z.count
    exact wpAny_pyIter_enum e h
  case item =>
    rintro Y rfl rfl rfl calm i pins s σ H E J far Z lt
    obtain ⟨old, e⟩ := Z.count
    obtain ⟨b1, b2⟩ := Z.both
    have draw := Draws.text (prog := Y.prog) (w := Y.w) (A := Y.A.in1) (J.ok.hd calm) si x t
    refine wpAny_pyNext_enum_itemD draw e Z.signs lt Z.apart (by simpa using Z.apart) fun u g tk hu out it2 top size up => ?_
    obtain ⟨c, tc, hc, rfl⟩ := hu
    refine ⟨_, rfl, wpAny_letOwnedTupleGo_enum (s := { s with heap := g, toks := tk + 1 }) out fun g2 e2 but => ?_⟩
    have top2 : g2.get? s.heap.objs.size = some { cls := .type "tuple", data := .seq #[.int i tk, .str ⟨#[c]⟩ tc] } := (but.2 _ (Nat.ne_of_gt b1)).trans top
    have pair : ObjOk Y.prog Y.w (upd H s.heap.objs.size (.tup [.int (i : Nat), .str ⟨#[c]⟩])) g2 s.heap.objs.size (.tup [.int (i : Nat), .str ⟨#[c]⟩]) := ⟨show 2 ≤ sizeLine by decide, _, .cons ⟨_, rfl⟩ (.cons ⟨_, rfl⟩ .nil), ⟨_, top2, rfl, _, rfl⟩⟩
    have old2 : ∀ b o, b ∉ [en, si] → s.heap.get? b = some o → g2.get? b = some o := fun b o n q => (but.2 b fun z => n (by simp [z])).trans (up b o (fun z => n (by simp [z])) (fun z => n (by simp [z])) q)
    have J2 : Inv Y pins σ (upd H s.heap.objs.size (.tup [.int (i : Nat), .str ⟨#[c]⟩])) { s with heap := g2, toks := tk + 1 } := J.turnedNew old2 far (Nat.le_refl _) pair
    refine ⟨.ref s.heap.objs.size, _, J2, rfl, ⟨_, c, rfl, J.hok.fresh (Nat.le_refl _), rfl, hc⟩, ⟨⟨.str ⟨#[c]⟩ tc, ?_⟩, ?_, Z.apart⟩, two_of ?_ ?_⟩
    · rw [show ((i + 1 : Nat) : Int) = (i : Int) + 1 from rfl]
      exact e2
    · obtain ⟨o, q, r⟩ := it2
      exact ⟨o, (but.2 si Z.apart.symm).trans q, r⟩
    · rw [upd_ne (Nat.ne_of_lt b1)]
      exact (far en List.mem_cons_self).1
    · rw [upd_ne (Nat.ne_of_lt b2)]
      exact (far si (by simp)).1
  case done =>
    rintro Y rfl rfl rfl calm i pins s σ H E J far Z rfl
    obtain ⟨old, e⟩ := Z.count
    have draw := Draws.text (prog := Y.prog) (w := Y.w) (A := Y.A.in1) (J.ok.hd calm) si x t
    obtain ⟨p0, p1, _, p3, p4, p5⟩ := far si (by simp)
    exact wpAny_pyNext_enum_endD draw e Z.signs fun g but => ⟨rfl, J.turned (t' := s.toks) (fun b o n q => but b o n q) p0 p1 p3 p4 p5⟩
def iEnumS (ta : TA) : TI := fun σ H R => ta σ H fun vs H1 => ∃ x, vs = [.str x] ∧ R (ItS x) H1
theorem pi_enumS {X : Cx} {e : Expr} {ta : TA} {p pos tpos : Pos} {elts : List Expr} {kk : Nat} (hg : Gl X "enumerate") (hm : X.mg "enumerate" = none) (ha : PA X [e] ta) (hs : starEach [e] X.env = [(false, eval e X.env)] := by rfl) :
    PI X (.Tuple elts kk tpos) (.Call (.Name "enumerate" p) [e] [] pos) (iEnumS ta) := by
  constructor
  intro pins s σ H R I h
  refine Call_ (ld_blt I hg hm boot_enumerate (PyProof.Rows.callWith_type1 (thn (ha.run pos pins s σ H _ I h) fun us s1 hu => ?_) hs rfl))
  obtain ⟨vs, H1, I1, r1, x, rfl, q⟩ := hu
  obtain ⟨u, rfl, t, rfl⟩ := vals1 r1
  refine call_enumerate_str fun g e1 e2 size up => wpAny_pyIter_enum e1 ?_
  have fp : ∀ c, s1.heap.objs.size ≤ c → FpOk X pins H1 c := fun c hc => I1.fpOk hc (I1.hok.fresh hc)
  exact ⟨s1.heap.objs.size + 1, [s1.heap.objs.size + 1, s1.heap.objs.size], _, _, H1, rfl, I1.kept (t' := s1.toks) up, turn_enumS x t (s1.heap.objs.size + 1) s1.heap.objs.size, ⟨⟨.none, e1⟩, e2, Nat.succ_ne_self _⟩, two_of (fp _ (Nat.le_succ _)) (fp _ (Nat.le_refl _)), q⟩
theorem walk_enumS {x : Str} : Walk (ItS x) x.cps.size (fun _ => True) (YPair (fun i => some (.int (i : Nat))) (fun i => x.cps[i]?.map fun c => .str ⟨#[c]⟩)) := by
  refine ⟨fun _ _ hi _ => hi, fun _ _ => rfl, fun i H v H' _ _ y => ?_⟩
  obtain ⟨T, c, h1, h2, h3, h4⟩ := y
  exact ⟨T, .int (i : Nat), .str ⟨#[c]⟩, h1, h2, h3, rfl, by show x.cps[i]?.map (fun c => V.str ⟨#[c]⟩) = _; rw [h4]; rfl⟩
end TX
/-! part C1 -/
/-! Helpers of ways read and typed texts. -/
namespace TX
open PySem PySem.Spec PyProof.Rows L2 NT RW4
/-- the places of signs that are none of a way -/
def bd : Nat → List Nat → List Nat
  | _, [] => []
  | k, c :: r => if c ∈ sW then bd (k + 1) r else k :: bd (k + 1) r
theorem bd_snoc (c : Nat) : ∀ (l : List Nat) (k : Nat), bd k (l ++ [c]) = bd k l ++ (if c ∈ sW then [] else [k + l.length])
  | [], k => by
    show bd k [c] = [] ++ _
    unfold bd
    by_cases h : c ∈ sW
    · rw [if_pos h, if_pos h]
      rfl
    · rw [if_neg h, if_neg h]
      rfl
  | a :: l, k => by
    have ih := bd_snoc c l (k + 1)
    have e : k + 1 + l.length = k + (a :: l).length := by rw [List.length_cons]; omega
    rw [e] at ih
    show bd k (a :: (l ++ [c])) = _
    rw [bd, bd, ih]
    by_cases h : a ∈ sW
    · rw [if_pos h, if_pos h]
    · rw [if_neg h, if_neg h]
      rfl
theorem bd_nil : ∀ {l : List Nat} {k : Nat}, bd k l = [] → ∀ c ∈ l, c ∈ sW
  | [], _, _, c, hc => by cases hc
  | a :: l, k, h, c, hc => by
    rw [bd] at h
    by_cases ha : a ∈ sW
    · rw [if_pos ha] at h
      rcases List.mem_cons.mp hc with rfl | hc
      · exact ha
      · exact bd_nil h c hc
    · rw [if_neg ha] at h
      cases h
theorem tw_len_all {p : Nat → Bool} : ∀ {l : List Nat}, (∀ c ∈ l, p c = true) → (l.takeWhile p).length = l.length
  | [], _ => rfl
  | a :: l, h => by
    rw [List.takeWhile_cons, if_pos (h a List.mem_cons_self), List.length_cons, List.length_cons, tw_len_all fun c hc => h c (List.mem_cons_of_mem _ hc)]
theorem bd_all : ∀ {l : List Nat} {k : Nat}, (∀ c ∈ l, c ∈ sW) → bd k l = []
  | [], _, _ => rfl
  | a :: l, k, h => by
    rw [bd, if_pos (h a List.mem_cons_self)]
    exact bd_all fun c hc => h c (List.mem_cons_of_mem _ hc)
theorem bd_cons : ∀ {l : List Nat} {k m : Nat} {r : List Nat}, bd k l = m :: r → m - k < l.length ∧ k ≤ m ∧ (l.takeWhile fun c => decide (c ∈ sW)).length = m - k
  | [], _, _, _, h => by cases h
  | a :: l, k, m, r, h => by
    rw [bd] at h
    rw [List.takeWhile_cons]
    by_cases ha : a ∈ sW
    · rw [if_pos ha] at h
      obtain ⟨h1, h2, h3⟩ := bd_cons h
      rw [if_pos (decide_eq_true ha), List.length_cons, List.length_cons, h3]
      omega
    · rw [if_neg ha] at h
      cases h
      rw [if_neg (by simpa using ha), List.length_cons, List.length_nil]
      omega
theorem bd_len : ∀ (l : List Nat) (k : Nat), (bd k l).length ≤ l.length
  | [], _ => Nat.le_refl _
  | a :: l, k => by
    have := bd_len l (k + 1)
    rw [bd]
    by_cases ha : a ∈ sW
    · rw [if_pos ha, List.length_cons]
      omega
    · rw [if_neg ha, List.length_cons, List.length_cons]
      omega
/-- one list of a text may be shown -/
theorem rp_one {X : List Nat} (h : ∀ c ∈ X, c < 16 ^ 8) (hl : X.length ≤ 1000) : Rp (.list [.str (SX.S X)]) := by
  have hs : Sml (.str (SX.S X)) (10 * X.length + 2) 0 := by
    refine ⟨by simp only [PyData.showable], by simp only [PyData.hasDict], by simp only [PyData.depth]; exact Nat.le_refl _, ?_⟩
    show (reprText (SX.S X)).length ≤ _
    have := StrLaws.reprText_len (SX.S X) h
    rw [S_len] at this
    exact this
  have q := sml_lst (.cons hs .nil)
  exact ⟨q.sh, q.nd, Nat.le_trans q.dp (by decide), Nat.le_trans q.ln (small_sz (m := 20000) (by omega) (by decide))⟩
theorem joinL_one : ∀ X : List Nat, TL.joinL [] (X.map fun c => [c]) = X
  | [] => rfl
  | [_] => rfl
  | a :: b :: r => by
    have ih := joinL_one (b :: r)
    simp only [List.map_cons] at ih ⊢
    rw [TL.joinL, ih]
    rfl
theorem join_one (X : List Nat) : Txt.join (SX.S []) (X.map fun c => SX.S [c]) = SX.S X := by
  have e := SX.join_S [] (X.map fun c => [c])
  rw [List.map_map, joinL_one] at e
  exact e
theorem ints_dp {K : PySem.W.Frag} {H : Hp} : ∀ ys : List Int, DpAll K H (ys.map V.int) (ys.map PyData.int)
  | [] => .nil
  | y :: ys => .cons (.int _) (ints_dp ys)
theorem ints_canLay : ∀ ys : List Int, PyData.canLayAll0 (ys.map PyData.int) = true
  | [] => rfl
  | y :: ys => by
    rw [List.map_cons]
    simp only [PyData.canLayAll0, PyData.canLay0, ints_canLay ys, Bool.and_self]
theorem ints_depth : ∀ ys : List Int, PyData.depthAll (ys.map PyData.int) = 0
  | [] => rfl
  | y :: ys => by
    rw [List.map_cons]
    simp only [PyData.depthAll, PyData.depth, ints_depth ys]
    rfl
theorem ints_shaped (ys : List Int) : SeqAt.shaped (.list (ys.map PyData.int)) = true := by
  unfold SeqAt.shaped
  simp only [PyData.canLay0, PyData.depth, ints_canLay, ints_depth, Bool.true_and]
  rfl
theorem ints_eqv : ∀ ys zs : List Int, PyData.eqv (.list (ys.map PyData.int)) (.list (zs.map PyData.int)) = decide (ys = zs)
  | [], [] => by simp [PyData.eqv, PyData.eqvAll]
  | [], z :: zs => by simp [PyData.eqv, PyData.eqvAll]
  | y :: ys, [] => by simp [PyData.eqv, PyData.eqvAll]
  | y :: ys, z :: zs => by
    have ih := ints_eqv ys zs
    simp only [PyData.eqv] at ih
    simp only [List.map_cons, PyData.eqv, PyData.eqvAll, ih, List.cons.injEq]
    by_cases h1 : y = z <;> by_cases h2 : ys = zs <;> simp [h1, h2]
def rNIS : R2 := fun x y H Q => ∃ (c : Nat) (z : Str), x = .str ⟨#[c]⟩ ∧ y = .str z ∧ Q (.bl (!decide (c ∈ z.cps.toList))) H
theorem op_NIS {X : Cx} : OpR X (compareOp .NotIn) rNIS := op_notIn_sign
local macro_rules | `(tactic| walk_at "go") => `(tactic| simp only [L2.start, List.map_cons, List.map_nil, List.length_cons, List.length_nil, Nat.reduceSub, Nat.reduceAdd, List.replicate_succ, List.replicate_zero, List.cons_append, List.nil_append, List.append_nil,
  tSeq, tNext, tRet, tIfS, tTest, tAnd, tOr, tNot, tCB, tCall, tCons, tNil, tVar, tC, tOp, tUn, tAsg, gName, rI0, rI, CMul, CDiv, tDGet, sDPut, tBM0, tBM, tTup, tLst, tPar, tPar3, gTup, gNil, gCons, tIf, tAug, tRevL, tDisp, tPairs, tYes, wipe, tDrop, L2.tSl, tNotV, tAndV, tOrV, tB, rSlS, ipI, tNoPart, NdefX.startF, tOst, tMkO, rIxL, rIxT, rIxS, rAppend, rExtend, rPop, rSlL, rSetL, tPart, rEq, rNe, tFmt, tJn, tJs, tFi, gLst, tThen, tIf, rS, rNIS, rRep, tThenZ, kLstS, rIS, cRi, rSortedP, rLn, rPopAt, tCallS, ↓reduceIte, L2.gSub, ↓reduceIte,
  List.getElem?_cons_zero, List.getElem?_cons_succ, List.set_cons_zero, List.set_cons_succ, Option.some.injEq, V.int.injEq, V.str.injEq, V.ref.injEq, V.bl.injEq, exists_eq_left, exists_eq_left', exists_eq_right, exists_eq_right', exists_eq', true_and, and_true, decide_eq_true_eq, List.cons.injEq, reduceCtorEq, false_and, false_or, or_false, exists_false, exists_and_left, exists_and_right, and_assoc])
/-- a comprehension over range(pick(source, n)) -/
theorem lc_pick {g : TG} {tt : TT} {te : TE} {vs : List Nat} {σ : L2.St} {H : Hp} {Q : VK} {d c : Addr} {n : Int} (S : Src H d c) (hn : n < 1000) (h : ∀ (m : Nat) (H' : Hp), (m < n ∨ m = 0) → Src H' d c → Kp (DC d c) H H' → tLc (fun _ H R => R (Itr 0 m) H) g tt te vs (some (.ref d) :: σ) H' Q) :
    tLc (iRng1 (tCons (tCall spPick [] E0 (tCons (tVar 0) (tCons (tC (.int n)) tNil))) tNil)) g tt te vs (some (.ref d) :: σ) H Q := by
  unfold tLc iRng1
  walk_at "go"
  refine pick_src S (by omega) fun m H2 m0 m1 S2 k2 => ⟨m, rfl, by omega, by omega, fun D hD => ?_⟩
  obtain ⟨m, rfl⟩ := Int.eq_ofNat_of_zero_le m0
  rw [Int.toNat_natCast]
  exact h m H2 (by omega) S2 k2 D hD
theorem sum_ones {α : Type} : ∀ X : List α, (X.map fun _ => 1).sum = X.length
  | [] => rfl
  | a :: X => by
    rw [List.map_cons, List.sum_cons, sum_ones X, List.length_cons]
    omega
/-- a value that is no text -/
def OdV (H : Hp) (v : V) : Prop := v = .non ∨ (∃ i, v = .int i) ∨ (∃ b, v = .bl b) ∨ ∃ p, v = .ref p ∧ ((∃ xs, H p = some (.lst xs)) ∨ (∃ xs, H p = some (.tup xs)) ∨ H p = some (.dK []))
theorem OdV.same {H H' : Hp} {v : V} (h : OdV H v) (s : Same H H') : OdV H' v := by
  rcases h with h | h | h | ⟨p, e, ⟨xs, h⟩ | ⟨xs, h⟩ | h⟩
  · exact .inl h
  · exact .inr (.inl h)
  · exact .inr (.inr (.inl h))
  · exact .inr (.inr (.inr ⟨p, e, .inl ⟨xs, s _ _ h⟩⟩))
  · exact .inr (.inr (.inr ⟨p, e, .inr (.inl ⟨xs, s _ _ h⟩)⟩))
  · exact .inr (.inr (.inr ⟨p, e, .inr (.inr (s _ _ h))⟩))
theorem OdV.tx {K : PySem.W.Frag} {H : Hp} {v : V} (h : OdV H v) : IsTx K H v false := by
  rcases h with rfl | ⟨i, rfl⟩ | ⟨b, rfl⟩ | ⟨p, rfl, ⟨xs, h⟩ | ⟨xs, h⟩ | h⟩
  · exact ⟨_, .base .non, by decide +kernel⟩
  · exact ⟨_, .base (.int i), by decide +kernel⟩
  · exact ⟨_, .base (.bl b), by decide +kernel⟩
  · exact ⟨_, .base (.lst h), by decide +kernel⟩
  · exact ⟨_, .base (.tup h), by decide +kernel⟩
  · exact ⟨_, .base (.dK h), by decide +kernel⟩
theorem OdV.lock {H : Hp} {v : V} {D : Addr} {o : HO} {kv : Key × V} {r : List (Key × V)} (h : OdV H v) (e : H D = some (.dK (kv :: r))) : OdV (upd H D o) v := by
  rcases h with h | h | h | ⟨p, ep, h⟩
  · exact .inl h
  · exact .inr (.inl h)
  · exact .inr (.inr (.inl h))
  · have n : p ≠ D := by
      rintro rfl
      rw [e] at h
      rcases h with ⟨xs, h⟩ | ⟨xs, h⟩ | h <;> cases h
    exact .inr (.inr (.inr ⟨p, ep, by rw [upd_ne n]; exact h⟩))
def Od (te : TE) : Prop := ∀ σ H Q, (∀ v H', Same H H' → OdV H' v → Q v H') → te σ H Q
def OdA (ta : TA) (n : Nat) : Prop := ∀ σ H Q, (∀ vs H', Same H H' → (∀ v ∈ vs, OdV H' v) → vs.length = n → Q vs H') → ta σ H Q
theorem od_non : Od (tC .non) := fun _ _ _ h => h _ _ (fun _ _ z => z) (.inl rfl)
theorem od_int {i : Int} : Od (tC (.int i)) := fun _ _ _ h => h _ _ (fun _ _ z => z) (.inr (.inl ⟨i, rfl⟩))
theorem od_bl {b : Bool} : Od (tC (.bl b)) := fun _ _ _ h => h _ _ (fun _ _ z => z) (.inr (.inr (.inl ⟨b, rfl⟩)))
theorem od_dk : Od tDNewK := fun _ _ _ h p hp => h _ _ (same_new hp) (.inr (.inr (.inr ⟨p, rfl, .inr (.inr upd_same)⟩)))
theorem od_lst0 : Od (tLst tNil) := fun _ _ _ h => ⟨by decide, fun p hp => h _ _ (same_new hp) (.inr (.inr (.inr ⟨p, rfl, .inl ⟨_, upd_same⟩⟩)))⟩
theorem od_lst1 {v : V} : Od (tLst (tCons (tC v) tNil)) := fun _ _ _ h => ⟨by show 1 ≤ sizeLine; decide, fun p hp => h _ _ (same_new hp) (.inr (.inr (.inr ⟨p, rfl, .inl ⟨_, upd_same⟩⟩)))⟩
theorem od_tup1 {v : V} : Od (tTup (tCons (tC v) tNil)) := fun _ _ _ h => ⟨by show 1 ≤ sizeLine; decide, fun p hp => h _ _ (same_new hp) (.inr (.inr (.inr ⟨p, rfl, .inr (.inl ⟨_, upd_same⟩)⟩)))⟩
theorem oda_nil : OdA tNil 0 := fun _ _ _ h => h _ _ (fun _ _ z => z) (fun _ z => nomatch z) rfl
theorem oda_cons {te : TE} {ta : TA} {n : Nat} (h1 : Od te) (h2 : OdA ta n) : OdA (tCons te ta) (n + 1) := fun σ H Q h =>
  h1 σ H _ fun v H1 s1 a1 => h2 σ H1 _ fun vs H2 s2 a2 e => h _ _ (s1.trans s2) (fun u hu => (List.mem_cons.mp hu).elim (fun z => z ▸ a1.same s2) (a2 u)) (congrArg (· + 1) e)
theorem lc_tupOd {K : PySem.W.Frag} {ta : TA} {n : Nat} {g : TG} {tt : TT} {te : TE} {vs : List Nat} {σ : L2.St} {H : Hp} {Q : VK} (ho : OdA ta n) (hn : n ≤ 100)
    (h : ∀ us H' p, Same H H' → H' p = some (.tup us) → (∀ v ∈ us, OdV H' v) → us.length = n → tLc (fun _ H R => R (Itt K p) H) g tt te vs σ H' Q) : tLc (iTup K (tTup ta)) g tt te vs σ H Q := by
  unfold tLc iTup tTup
  refine ho _ _ _ fun us H1 s1 ho hl => ⟨by rw [hl]; exact small_sz hn (by decide), fun p hp => ⟨p, rfl, ⟨us, .inl (.inl upd_same)⟩, ?_⟩⟩
  exact h us _ p (s1.trans (same_new hp)) upd_same (fun v hv => (ho v hv).same (same_new hp)) hl
end TX
/-! part A12 -/
/-! Ways read. -/
namespace TX
open PySem PySem.Spec PyProof.Rows L2 NT RW4
local macro_rules | `(tactic| walk_at "go") => `(tactic| simp only [L2.start, List.map_cons, List.map_nil, List.length_cons, List.length_nil, Nat.reduceSub, Nat.reduceAdd, List.replicate_succ, List.replicate_zero, List.cons_append, List.nil_append, List.append_nil,
  tSeq, tNext, tRet, tIfS, tTest, tAnd, tOr, tNot, tCB, tCall, tCons, tNil, tVar, tC, tOp, tUn, tAsg, gName, rI0, rI, CMul, CDiv, tDGet, sDPut, tBM0, tBM, tTup, tLst, tPar, tPar3, gTup, gNil, gCons, tIf, tAug, tRevL, tDisp, tPairs, tYes, wipe, tDrop, L2.tSl, tNotV, tAndV, tOrV, tB, rSlS, ipI, tNoPart, NdefX.startF, tOst, tMkO, rIxL, rIxT, rIxS, rAppend, rExtend, rPop, rSlL, rSetL, tPart, rEq, rNe, tFmt, tJn, tJs, tFi, gLst, tThen, tIf, rS, rNIS, rRep, tThenZ, kLstS, rIS, cRi, rSortedP, rLn, rPopAt, tCallS, ↓reduceIte, L2.gSub, ↓reduceIte,
  List.getElem?_cons_zero, List.getElem?_cons_succ, List.set_cons_zero, List.set_cons_succ, Option.some.injEq, V.int.injEq, V.str.injEq, V.ref.injEq, V.bl.injEq, exists_eq_left, exists_eq_left', exists_eq_right, exists_eq_right', exists_eq', true_and, and_true, decide_eq_true_eq, List.cons.injEq, reduceCtorEq, false_and, false_or, or_false, exists_false, exists_and_left, exists_and_right, and_assoc])
section
variable {w : World} {K : PySem.W.Frag} {mg : Str → Option Value} {base : Heap}
def spWays : Sp := fun vs H Q E => ∃ (d c : Addr), vs = [.ref d] ∧ Src H d c ∧ ∀ H', Kp (DC d c) H H' → Src H' d c → Q (.bl true) H'
theorem ok_ways (T : Txt w K mg) {C R fI cc : Addr} (B : BadC K mg C R fI cc) : OkG PW w K mg base CX0 11 "_law_ways_right" ["source"] spWays := by
  obtain ⟨f, fd, D⟩ := T.d_L_ways_right
  refine ⟨f, fd, NT.Fun.okG D.F sc_L_ways_right (fun vs H Q E h => ?_) (fun cdv A outer s H vs Q E hgd hr h => ?_), D.g, D.F.kp, D.b⟩
  · obtain ⟨d, c, rfl, _⟩ := h
    rfl
  · obtain ⟨d, c, rfl, S, h⟩ := h
    have nd := sc_L_ways_right.nd
    have hu := hu_of hr
    refine ⟨_, pss_cons (ps_for PassesOwn.never rfl (pi_range1 (by rfl) T.z_range (pa_cons pe_int pa_nil)) (pg_name (i := 1) nd rfl (.inl rfl))
        (pss_cons (ps_set (i := 2) nd rfl (.inr rfl) (pe_ix ix_list (pe_lst (pa_cons pe_str (pa_cons pe_str pa_nil))) (pe_d (ok_pick T) hr pass0 (pa_cons (pv 0) (pa_cons pe_int pa_nil))) (fun _ _ => rfl)))
        (pss_cons (ps_set (i := 3) nd rfl (.inl rfl) (pe_bm PySem.F.plainAttrs_str PySem.F.slot_str_join PySem.F.type_str_join mt_join pe_str (pa_cons
          (pe_lc (own := [("step", 8)]) (g := gName 8) (tt := tYes) rfl nd (pi_range1 (by rfl) T.z_range (pa_cons (pe_d (ok_pick T) hr pass0 (pa_cons (pv 0) (pa_cons pe_int pa_nil))) pa_nil)) (blkOk_by (N := n_L_ways_right) (sc := defScope s_L_ways_right) (by decide +kernel))
            (fun _ _ _ _ _ => pg_name (i := 8) nd rfl (.inl rfl)) (fun _ _ _ _ _ => pts_nil) (fun _ _ _ _ _ => by exact (pe_ix ix_str (pv 2) (pe_d (ok_pick T) hr pass0 (by exact (pa_cons (pv 0) (pa_cons (pe_callB call_len_str (by rfl) T.z_len PySem.boot_len (pa_cons (pv 2) pa_nil)) pa_nil)))) (fun _ _ => rfl)))) pa_nil)))
        (pss_cons (ps_setLc (i := 4) (own := [("k", 5), ("sign", 6)]) (g := gTup K 2 (gCons (gName 5) (gCons (gName 6) gNil))) (tt := tTest (tOp rNIS (tVar 6) (tC (.str "rlud")))) (te := tVar 5) rfl nd rfl rfl (sw_true rfl rfl rfl (by decide +kernel)) (pi_enumS (by rfl) T.z_enumerate (pa_cons (pv 3) pa_nil)) (blkOk_by (N := n_L_ways_right) (sc := defScope s_L_ways_right) (by decide +kernel))
            (fun _ _ _ _ _ => pg_tup (by rfl) (pgs_cons (pg_name (i := 5) nd rfl (.inl rfl)) (pgs_cons (pg_name (i := 6) nd rfl (.inl rfl)) pgs_nil))) (fun _ _ _ _ _ => by exact (pts_one (pt_cmpR op_NIS (pv 6) pe_str rfl))) (fun _ _ _ _ _ => by exact (pv 5)))
        (pss_one (ps_if (pt_cmpR op_ne (pe_callB (call_rd hgd hr.units) (by rfl) T.z_repr (by decide +kernel) (pa_cons (pe_d (ok_readAs T B) hr pass0 (pa_cons (pv 3) (pa_cons pe_str pa_nil))) pa_nil))
            (pe_callB (call_rd hgd hr.units) (by rfl) T.z_repr (by decide +kernel) (pa_cons (pe_ifExp (pt_cmpR (op_eqD hr.units) (pv 4) (pe_lst pa_nil) (nomark _)) (pe_lst (pa_cons (pv 3) pa_nil)) (pe_ix ix_list (pv 4) pe_int (fun _ _ => rfl))) pa_nil)) (nomark _)) (pss_one (ps_ret pe_bl)) pss_nil))))))
      (pss_one (ps_ret (pe_cmpR (op_eqD hr.units) (pe_lc (own := [("value", 7)]) (g := gName 7) (tt := tYes) rfl nd (pi_tup (pe_tup (pa_cons pe_non (pa_cons pe_int (pa_cons (pe_lst (pa_cons pe_str pa_nil)) (pa_cons (pe_tup (pa_cons pe_str pa_nil)) (pa_cons pe_dnewK pa_nil))))))) (blkOk_by (N := n_L_ways_right) (sc := defScope s_L_ways_right) (by decide +kernel))
          (fun _ _ _ _ _ => pg_name (i := 7) nd rfl (.inl rfl)) (fun _ _ _ _ _ => pts_nil) (te := tCall (spRA K) [] E0 (tCons (tVar 7) (tCons (tC (.str "way")) tNil))) (fun _ _ _ _ _ => by exact (pe_d (ok_readAs T B) hr pass0 (by exact (pa_cons (pv 7) (pa_cons pe_str pa_nil))))))
          (pe_op op_rep (pe_lst (pa_cons pe_int pa_nil)) pe_int) (nomark _)))), ?_⟩
    refine ⟨4, rfl, by decide, by decide, for_it (n := 4) walk_range (fun n σ H' => ∃ (v1 v2 v3 v4 : Option V), σ = [some (.ref d), v1, v2, v3, v4, none, none, none, none] ∧ Kp (DC d c) H H' ∧ Src H' d c) ⟨none, none, none, none, rfl, Kp.refl _ _, S⟩ (fun _ _ _ _ _ => trivial) ?_ ?_⟩
    · rintro n xv σ Ha Hb hn ⟨v1, v2, v3, v4, rfl, ka, Sa⟩ ⟨rfl, rfl⟩
      walk_at "go"
      refine ⟨by decide, fun q hq => ?_⟩
      have s1 : Same Hb (upd Hb q (.lst [.str "rlud", .str "rludRx 1-"])) := same_new hq
      refine pick_src (Sa.same s1) (by decide) fun r H1 r0 r1 S1 k1 => ?_
      obtain ⟨r, rfl⟩ := Int.eq_ofNat_of_zero_le r0
      have eq1 := k1 q _ upd_same (Sa.off hq)
      have hsg : ∃ G : List Nat, ([V.str "rlud", V.str "rludRx 1-"] : List V)[r]? = some (vS G) ∧ 0 < G.length ∧ G.length ≤ 20 ∧ ∀ c ∈ G, c < 200 := by
        have : r = 0 ∨ r = 1 := by omega
        rcases this with rfl | rfl
        · exact ⟨[114, 108, 117, 100], congrArg some (congrArg V.str (by decide +kernel)), by decide, by decide, by decide⟩
        · exact ⟨[114, 108, 117, 100, 82, 120, 32, 49, 45], congrArg some (congrArg V.str (by decide +kernel)), by decide, by decide, by decide⟩
      obtain ⟨G, eG, hG0, hG, hGc⟩ := hsg
      refine ⟨_, _, rfl, .inl (.inl eq1), _, atI_nat eG, ?_⟩
      refine ⟨rfl, lc_pick S1 (by decide) fun m H2 hm7 S2 k2 => ?_⟩
      intro D hD
      have dD : ¬ DC d c D := S2.off hD
      have hm : m ≤ 7 := by omega
      have lG : (SX.S G).length ≤ sizeLine := by rw [S_len]; exact small_sz (m := 100) (by omega) (by decide)
      refine lc_it walk_range (fun i H' => Kp (DC d c) H2 H' ∧ Src H' d c ∧ ∃ X : List Nat, X.length = i ∧ (∀ c ∈ X, c < 200) ∧ H' D = some (.lst (X.map fun c => vS [c]))) ⟨Kp.of_same (same_new hD), S2.same (same_new hD), [], rfl, (fun _ z => nomatch z), upd_same⟩ (fun _ _ _ _ => trivial) ?_ ?_
      · rintro i xv Hc Hd hi ⟨kc, Sc, X, lX, hXc, eD⟩ ⟨rfl, rfl⟩
        walk_at "go"
        refine ⟨lG, pick_src Sc (by rw [S_len]; omega) fun q H3 q0 q1 S3 k3 => ?_⟩
        obtain ⟨q, rfl⟩ := Int.eq_ofNat_of_zero_le q0
        rw [S_len] at q1
        have hq2 : q < G.length := by omega
        have eD3 := k3 _ _ eD dD
        walk_at "go"
        refine ⟨lG, G[q], atI_nat (List.getElem?_eq_getElem hq2), _, eD3, ?_, fun b o hb nb => ?_, S3.upd dD, X ++ [G[q]], ?_, fun c hc => ?_, ?_⟩
        · rw [List.length_map]
          exact small_lt (m := 100) (by omega) (by decide)
        · rw [upd_ne (ne_of_none hb hD)]
          exact (kc.trans k3) b o hb nb
        · rw [List.length_append, lX]
          rfl
        · rcases List.mem_append.mp hc with hc | hc
          · exact hXc c hc
          · rw [List.mem_singleton.mp hc]
            exact hGc _ (List.getElem_mem hq2)
        · rw [upd_same, List.map_append]
          rfl
      · rintro Hc ⟨kc, Sc, X, lX, hXc, eD⟩
        have ex : (Txt.join (Str.ofString "") (X.map fun c => SX.S [c])) = SX.S X := by
          rw [show (Str.ofString "") = SX.S [] by decide +kernel]
          exact join_one X
        refine ⟨_, rfl, X.map fun c => SX.S [c], .inl (.inl (.inl (by rw [List.map_map]; exact eD))), ?_, ?_⟩
        · rw [List.length_map, List.map_map, show (Str.ofString "").length = 0 by decide +kernel, Nat.mul_zero, Nat.add_zero]
          have e1 : (List.map ((fun x : Str => x.length) ∘ fun c => SX.S [c]) X) = X.map fun _ => 1 := rfl
          rw [e1, sum_ones]
          omega
        rw [ex]
        refine ⟨_, rfl, SX.S X, rfl, fun O hO => ?_⟩
        have hXl : X.length ≤ 7 := by omega
        have sO : Same Hc (upd Hc O (.lst [])) := same_new hO
        refine lc_it (walk_enumS (x := SX.S X)) (fun i H' => Same Hc H' ∧ H' O = some (.lst (((bd 0 (X.take i)).map fun k => ((k : Nat) : Int)).map V.int))) ⟨sO, upd_same⟩ (fun _ _ _ _ => trivial) ?_ ?_
        · rintro i xv Hd He hi ⟨sd, eO⟩ hy
          obtain ⟨T, x, y, rfl, hT, rfl, ex1, ex2⟩ := hy
          have hiX : i < X.length := hi
          obtain rfl := Option.some.inj ex1
          have ec : (SX.S X).cps[i]? = some X[i] := by
            rw [← Array.getElem?_toList]
            exact List.getElem?_eq_getElem hiX
          dsimp only at ex2
          rw [ec] at ex2
          obtain rfl := Option.some.inj ex2
          walk_at "go"
          have OT : O ≠ T := ne_of_none eO hT
          have etk : X.take (i + 1) = X.take i ++ [X[i]] := by rw [List.take_succ, List.getElem?_eq_getElem hiX]; rfl
          have eli : (X.take i).length = i := by rw [List.length_take]; omega
          have e4 : (Str.ofString "rlud").cps.toList = sW := by decide +kernel
          have lbd := bd_len (X.take i) 0
          refine ⟨_, .inl (.inl upd_same), rfl, _, _, rfl, _, _, rfl, rfl, X[i], rfl, ?_⟩
          have sT : Same Hd (upd Hd T (.tup [V.int ((i : Nat) : Int), V.str ⟨#[X[i]]⟩])) := same_new hT
          rw [etk, bd_snoc, eli, e4, Nat.zero_add]
          by_cases hw : X[i] ∈ sW
          · rw [if_neg (by simp [hw]), if_pos hw, List.append_nil]
            exact ⟨sd.trans sT, sT _ _ eO⟩
          · rw [if_pos (by simp [hw]), if_neg hw]
            refine ⟨_, sT _ _ eO, ?_, fun b o hb => ?_, ?_⟩
            · rw [List.length_map, List.length_map]
              exact small_lt (m := 100) (by omega) (by decide)
            · rw [upd_ne (ne_of_none hb hO)]
              exact sT _ _ (sd _ _ hb)
            · rw [upd_same, List.map_append, List.map_append]
              rfl
        · rintro Hd ⟨sd, eO⟩
          have esz : (SX.S X).cps.size = X.length := rfl
          rw [esz, List.take_length] at eO
          have kd : Kp (DC d c) H Hd := ((((ka.trans (Kp.of_same s1)).trans k1).trans k2).trans kc).trans (Kp.of_same sd)
          have Sd : Src Hd d c := Sc.same sd
          have hX8 : ∀ c ∈ X, c < 16 ^ 8 := fun c hc => Nat.lt_trans (hXc c hc) (by decide)
          refine ⟨_, _, rfl, .inr (.inr ⟨X, rfl, rfl, by omega, fun hall a H3 s3 ha => ?_, fun k hk ek H3 s3 => ?_⟩)⟩
          · refine ⟨_, _, rfl, ha.no, rp_one hX8 (by omega), by decide, fun p hp => ?_⟩
            have s4 := s3.trans (same_new (o := .lst []) hp)
            refine ⟨_, _, .lst (.inl (.inl (s4 _ _ eO))) (ints_dp _), .lst (.inl (.inl upd_same)) .nil, ints_shaped _, by decide, _, rfl, ?_⟩
            rw [show PyData.eqv (.list (((bd 0 X).map fun k => ((k : Nat) : Int)).map PyData.int)) (.list []) = _ from ints_eqv _ [], bd_all hall, if_pos (by decide)]
            refine ⟨by decide, fun p2 hp2 => ⟨_, _, rfl, at_lst id upd_same (atl_cons at_str atl_nil), rp_one hX8 (by omega), rfl, ?_⟩⟩
            rw [if_neg (by simp)]
            have s5 := s4.trans (same_new (o := .lst [V.str (SX.S X)]) hp2)
            exact ⟨kd.trans (Kp.of_same s5), Sd.same s5⟩
          · refine ⟨_, _, rfl, at_int, rp_int (by omega), by decide, fun p hp => ?_⟩
            have s4 := s3.trans (same_new (o := .lst []) hp)
            refine ⟨_, _, .lst (.inl (.inl (s4 _ _ eO))) (ints_dp _), .lst (.inl (.inl upd_same)) .nil, ints_shaped _, by decide, _, rfl, ?_⟩
            rw [show PyData.eqv (.list (((bd 0 X).map fun k => ((k : Nat) : Int)).map PyData.int)) (.list []) = _ from ints_eqv _ []]
            have e0 := s4 _ _ eO
            cases eb : bd 0 X with
            | nil =>
              have := tw_len_all (fun c hc => decide_eq_true (bd_nil eb c hc))
              omega
            | cons m r =>
              obtain ⟨_, _, h3⟩ := bd_cons eb
              have emk : m = k := by omega
              subst emk
              rw [eb] at e0
              rw [if_neg (by simp)]
              refine ⟨O, rfl, _, .inl (.inl e0), .int ((m : Nat) : Int), atI_nat (j := 0) rfl, _, _, rfl, at_int, rp_int (by omega), ?_⟩
              refine ⟨rfl, ?_⟩
              rw [if_neg (by simp)]
              exact ⟨kd.trans (Kp.of_same s4), Sd.same s4⟩
    · rintro σ Ha ⟨v1, v2, v3, v4, rfl, ka, Sa⟩
      walk_at "go"
      refine lc_tupOd (oda_cons od_non (oda_cons od_int (oda_cons od_lst1 (oda_cons od_tup1 (oda_cons od_dk oda_nil))))) (by decide) fun us H1 p s1 ep ho hl => ?_
      intro D hD
      refine lc_it (walk_tup (xs := us)) (fun i H' => Same H1 H' ∧ H' D = some (.lst (List.replicate i (.int 0)))) ⟨same_new hD, upd_same⟩ (fun i H' _ z => .inl (.inl (z.1 _ _ ep))) ?_ ?_
      · rintro i xv Hc Hd hi ⟨sc, eD⟩ ⟨rfl, hxv⟩
        walk_at "go"
        refine ⟨_, _, rfl, .inl ⟨((ho xv (List.mem_of_getElem? hxv)).same sc).tx, .inl rfl, fun H3 s3 => ?_⟩⟩
        refine ⟨_, s3 _ _ eD, ?_, fun b o hb => ?_, ?_⟩
        · rw [List.length_replicate]
          exact small_lt (m := 100) (by omega) (by decide)
        · rw [upd_ne (ne_of_none hb hD)]
          exact s3 _ _ (sc _ _ hb)
        · rw [upd_same, ← List.replicate_succ', List.replicate_succ]
      · rintro Hc ⟨sc, eD⟩
        rw [hl] at eD
        refine ⟨by decide, fun p2 hp2 => ⟨_, upd_same, by decide, by decide, by decide, fun p3 hp3 => ?_⟩⟩
        have s4 := (same_new (o := .lst [V.int 0]) hp2).trans (same_new (o := .lst (List.replicate (Int.toNat 5) [V.int 0]).flatten) hp3)
        have e5 : (List.replicate (0 + 1 + 1 + 1 + 1 + 1) (V.int 0)) = ([0, 0, 0, 0, 0] : List Int).map V.int := rfl
        have e6 : (List.replicate (Int.toNat 5) [V.int 0]).flatten = ([0, 0, 0, 0, 0] : List Int).map V.int := rfl
        rw [e5] at eD
        refine ⟨_, _, .lst (.inl (.inl (s4 _ _ eD))) (ints_dp _), .lst (.inl (.inl (by rw [upd_same, e6]))) (ints_dp _), by decide, by decide, ?_⟩
        exact h _ (((ka.trans (Kp.of_same s1)).trans (Kp.of_same sc)).trans (Kp.of_same s4)) (((Sa.same s1).same sc).same s4)
end
end TX
/-! part C2 -/
/-! Typed rows made. -/
namespace TX
open PySem PySem.Spec PyProof.Rows L2 NT RW4
abbrev Rw := Str × Option Int
def dRw (r : Rw) : PyData := .list [.str r.1, match r.2 with | none => .none | some n => .int n]
def rsD (rs : List Rw) : PyData := .list (rs.map dRw)
abbrev DS (D : Addr) : Addr → Prop := fun b => b = D
theorem nw_non : Nw (tC .non) .none := fun σ H Q h => h _ _ (fun _ _ z => z) at_non
theorem nw_int {i : Int} : Nw (tC (.int i)) (.int i) := fun σ H Q h => h _ _ (fun _ _ z => z) at_int
theorem nwr0 {x : Str} : Nw (tLst (tCons (tC (.str x)) (tCons (tC .non) tNil))) (dRw (x, none)) := nw_lst (nwa_cons nw_str (nwa_cons nw_non nwa_nil)) (show 2 ≤ 1000 by decide)
theorem nwr1 {x : Str} {i : Int} : Nw (tLst (tCons (tC (.str x)) (tCons (tC (.int i)) tNil))) (dRw (x, some i)) := nw_lst (nwa_cons nw_str (nwa_cons nw_int nwa_nil)) (show 2 ≤ 1000 by decide)
theorem nwrs {ta : TA} {rs : List Rw} (h : NwA ta (rs.map dRw)) (hl : rs.length ≤ 1000 := by decide) : Nw (tLst ta) (rsD rs) := nw_lst h (by rw [List.length_map]; exact hl)
section
variable {te : TE} {ta : TA} {key : Str} {rs rs2 : List Rw} {rest : TS} {En : Ends} {σ : L2.St} {H : Hp} {D a p : Addr} {kvs : List (Key × V)} {vs : List V}
theorem ts_disp {v0 : Option V} (hn : Nw te (rsD rs)) (q : ∀ D a H', Same H H' → H D = none → H' D = some (.dK [(.inr key, .ref a)]) → At (DS D) H' (rsD rs) (.ref a) → rest En (some (.ref D) :: σ) H') :
    tSeq (tAsg (tDisp [(tC (.str key), te)]) (gName 0)) rest En (v0 :: σ) H := by
  intro D hD
  have s0 : Same H (upd H D (.dK [])) := same_new hD
  refine hn _ _ _ fun v H1 s1 a1 => ?_
  have e1 := s1 _ _ (upd_same (H := H) (a := D) (o := .dK []))
  have a2 : At (DS D) H1 (rsD rs) v := a1.off fun b o _ z => by
    rw [show b = D from z, upd_same]
    exact fun z => nomatch z
  obtain ⟨a, xs, rfl, _⟩ := a2.lst
  refine ⟨e1, [(.inr key, .ref a)], rfl, (show 1 ≤ 15 by decide), ?_⟩
  refine q D a _ (fun b o hb => ?_) hD (by rw [upd_same]; rfl) (a2.kp (Kp.upd_in (S := DS D) rfl))
  rw [upd_ne (ne_of_none hb hD)]
  exact s1 _ _ (s0 _ _ hb)
theorem ts_cat (hD : H D = some (.dK kvs)) (hk : kvs.length ≤ 10) (hv : valV kvs (.inr key) = some (.ref a)) (ha : At (DS D) H (rsD rs) (.ref a)) (hn : Nw te (rsD rs2)) (hl : rs.length + rs2.length ≤ 100)
    (q : ∀ p H', Kp (DS D) H H' → H' D = some (.dK (putK kvs (.inr key) (.ref p))) → At (DS D) H' (rsD (rs ++ rs2)) (.ref p) → rest En (some (.ref D) :: σ) H') :
    tSeq (sDPut (tVar 0) (tC (.str key)) (tOp rCat (tDGet (tVar 0) (tC (.str key))) te)) rest En (some (.ref D) :: σ) H := by
  have g := DGet.k (k := Sum.inr key) hD
  rw [hv] at g
  refine ⟨_, rfl, D, .ref a, rfl, g, hn _ _ _ fun v H1 s1 a1 => ?_⟩
  have b1 : At (DS D) H1 (rsD rs2) v := a1.off fun b o _ z => by
    rw [show b = D from z, hD]
    exact fun z => nomatch z
  have c1 := ha.kp (Kp.of_same s1)
  obtain ⟨p1, xs, e1, n1, hp1, hx⟩ := c1.lst
  cases e1
  obtain ⟨p2, zs, rfl, n2, hp2, hz⟩ := b1.lst
  have lx := hx.length
  have lz := hz.length
  rw [List.length_map] at lx lz
  refine ⟨a, p2, xs, zs, rfl, rfl, hp1, hp2, small_sz (m := 100) (by omega) (by decide), fun p hp => ?_⟩
  have eD := s1 _ _ hD
  have s2 : Same H1 (upd H1 p (.lst (xs ++ zs))) := same_new hp
  have pD : p ≠ D := (ne_of_none eD hp).symm
  refine ⟨_, rfl, D, _, rfl, DPut.k (k := Sum.inr key) (s2 _ _ eD) (small_lt (m := 10) hk (by decide)), ?_⟩
  refine q p _ (fun b o hb nb => ?_) upd_same ?_
  · rw [upd_ne nb]
    exact s2 _ _ (s1 _ _ hb)
  · unfold rsD
    rw [List.map_append]
    exact at_lst (show ¬ p = D from pD) (by rw [upd_ne pD, upd_same]) (((hx.append hz).kp (Kp.of_same s2)).kp (Kp.upd_in (S := DS D) rfl))
theorem ts_put (hD : H D = some (.dK kvs)) (hk : kvs.length ≤ 10) (hn : NwA ta (rs.map dRw)) (hl : rs.length ≤ 100)
    (q : ∀ p vs H', H p = none → Kp (DS D) H H' → H' D = some (.dK (putK kvs (.inr key) (.ref p))) → H' p = some (.lst vs) → AtL (fun b => b = D ∨ b = p) H' (rs.map dRw) vs → rest En (some (.ref D) :: σ) H') :
    tSeq (sDPut (tVar 0) (tC (.str key)) (tLst ta)) rest En (some (.ref D) :: σ) H := by
  refine hn _ _ _ fun vs H1 s1 a1 => ?_
  have lv := a1.length
  rw [List.length_map] at lv
  refine ⟨small_sz (m := 100) (by omega) (by decide), fun p hp => ?_⟩
  have eD := s1 _ _ hD
  have s2 : Same H1 (upd H1 p (.lst vs)) := same_new hp
  have pD : p ≠ D := (ne_of_none eD hp).symm
  have b1 : AtL (fun b => b = D ∨ b = p) H1 (rs.map dRw) vs := a1.off fun b o hb z => by
    rcases z with z | z
    · rw [z, hD]
      exact fun z => nomatch z
    · rw [z, hp] at hb
      cases hb
  refine ⟨_, rfl, D, _, rfl, DPut.k (k := Sum.inr key) (s2 _ _ eD) (small_lt (m := 10) hk (by decide)), ?_⟩
  refine q p vs _ (s1.free hp) (fun b o hb nb => ?_) upd_same (by rw [upd_ne pD, upd_same]) ((b1.kp (Kp.of_same s2)).kp (Kp.upd_in (.inl rfl)))
  rw [upd_ne nb]
  exact s2 _ _ (s1 _ _ hb)
theorem ts_app {K : PySem.W.Frag} {r : Rw} (hD : H D = some (.dK kvs)) (hv : valV kvs (.inr key) = some (.ref p)) (hp : H p = some (.lst vs)) (ha : AtL (fun b => b = D ∨ b = p) H (rs.map dRw) vs) (hl : rs.length ≤ 100) (hn : Nw te (dRw r))
    (q : ∀ H', Kp (fun b => b = D ∨ b = p) H H' → H' D = some (.dK kvs) → At (DS D) H' (rsD (rs ++ [r])) (.ref p) → rest En (some (.ref D) :: σ) H') :
    tSeq (tDrop (tBM K "list" rAppend (tDGet (tVar 0) (tC (.str key))) (tCons te tNil))) rest En (some (.ref D) :: σ) H := by
  have g := DGet.k (k := Sum.inr key) hD
  rw [hv] at g
  refine ⟨_, rfl, D, .ref p, rfl, g, .inl ⟨rfl, vs, .inl (.inl hp)⟩, hn _ _ _ fun v H1 s1 a1 => ?_⟩
  have eD := s1 _ _ hD
  have ep := s1 _ _ hp
  have lv := ha.length
  rw [List.length_map] at lv
  have pD : p ≠ D := fun z => by
    rw [z, hD] at hp
    cases hp
  have b1 : At (fun b => b = D ∨ b = p) H1 (dRw r) v := a1.off fun b o _ z => by
    rcases z with z | z
    · rw [z, hD]
      exact fun z => nomatch z
    · rw [z, hp]
      exact fun z => nomatch z
  refine ⟨p, vs, v, rfl, rfl, ep, small_lt (m := 100) (by omega) (by decide), ?_⟩
  refine q _ (fun b o hb nb => ?_) (by rw [upd_ne pD.symm]; exact eD) ?_
  · rw [upd_ne fun z => nb (.inr z)]
    exact s1 _ _ hb
  · unfold rsD
    rw [List.map_append]
    exact (at_lst (S := fun b => b = D) (p := p) pD upd_same ((((ha.kp (Kp.of_same s1)).snoc b1).kp (Kp.upd_in (.inr rfl))).off fun b o _ z => .inl z))
end
theorem ts_odd {ta : TA} {n k : Nat} {rest : TS} {En : Ends} {σ : L2.St} {H : Hp} (ho : OdA ta n) (hn : n ≤ 100) (q : ∀ us p H', Same H H' → H' p = some (.lst us) → (∀ v ∈ us, OdV H' v) → us.length = n → rest En (σ.set k (some (.ref p))) H') :
    tSeq (tAsg (tLst ta) (gName k)) rest En σ H := by
  refine ho _ _ _ fun us H1 s1 h1 hl => ⟨by rw [hl]; exact small_sz hn (by decide), fun p hp => ?_⟩
  exact q us p _ (s1.trans (same_new hp)) upd_same (fun v hv => (h1 v hv).same (same_new hp)) hl
def c0 : List Rw := [("-", none), ("", some 0), ("- ", some 1), ("1,2 ", some 4), ("1 2", some 1), ("1,-", some 3), ("1,02", some 3), ("-0,1", some 1)]
def c1 : List Rw := [("1,2  3,4", some 4), ("1,2,3", some 3), ("1234567890,0", some 9), ("0,-1234567890", some 12)]
def x300 : Str := Txt.join (Str.ofString " ") (List.replicate 300 (Str.ofString "7,-7"))
def c2 : List Rw := [("1,2\n", some 3), ("+1,2", some 0), ("1_0,2", some 1), (x300, none)]
def w0 : List Rw := [("-", none), ("0,0:0", none), ("0,0", some 3), ("0,0:", some 4), ("0,0:-1", some 4), ("0,0:01", some 5)]
def w1 : List Rw := [("0,0:1 ", some 6)]
def w2 : List Rw := [("0,0:1234567890", some 13), ("0,0+1", some 3), ("-:1", some 1), ("0,0: 1", some 4)]
def j0 : List Rw := [("-", none), ("0,0+0,0", none), ("0,0", some 3), ("0,0+", some 4), ("0,0+-", some 5), ("0,0+1,1+2,2", some 7)]
def j1 : List Rw := [("0,0:1", some 3), ("0,0+1,1234567890", some 15), ("0,0 +1,1", some 3), ("0,0+1,1 -", some 9)]
def rCells : List Rw := c0 ++ c1 ++ c2
def rWts : List Rw := w0 ++ w1 ++ w2
def rJns : List Rw := j0 ++ j1
def okRw (form : List Nat) (r : Rw) : Bool := decide (r.1.cps.toList.length ≤ 2000) && match itemsS form r.1.cps.toList with | .ok l => decide (r.2 = none) && decide (l.length ≤ 1000) | .error j => decide (r.2 = some (j : Int))
theorem okW : rWts.all (okRw fW) = true := by decide +kernel
theorem okJ : rJns.all (okRw fJ) = true := by decide +kernel
theorem okC : rCells.all (okRw fC) = true := by decide +kernel
abbrev kc (a : Addr) : List (Key × V) := [(.inr "cells", .ref a)]
abbrev kw (a b : Addr) : List (Key × V) := [(.inr "cells", .ref a), (.inr "weights", .ref b)]
abbrev kj (a b c : Addr) : List (Key × V) := [(.inr "cells", .ref a), (.inr "weights", .ref b), (.inr "joins", .ref c)]
theorem pk1 {a p : Addr} : putK (kc a) (.inr "cells") (.ref p) = kc p := by rfl
theorem pk2 {a p : Addr} : putK (kc a) (.inr "weights") (.ref p) = kw a p := by rfl
theorem pk3 {a b p : Addr} : putK (kw a b) (.inr "weights") (.ref p) = kw a p := by rfl
theorem pk4 {a b p : Addr} : putK (kw a b) (.inr "joins") (.ref p) = kj a b p := by rfl
theorem pk5 {a b c p : Addr} : putK (kj a b c) (.inr "joins") (.ref p) = kj a b p := by rfl
theorem vk1 {a : Addr} : valV (kc a) (.inr "cells") = some (.ref a) := by rfl
theorem vk2 {a b : Addr} : valV (kw a b) (.inr "weights") = some (.ref b) := by rfl
theorem vk3 {a b c : Addr} : valV (kj a b c) (.inr "joins") = some (.ref c) := by rfl
theorem vk4 {a b c : Addr} : valV (kj a b c) (.inr "cells") = some (.ref a) := by rfl
theorem vk5 {a b c : Addr} : valV (kj a b c) (.inr "weights") = some (.ref b) := by rfl
theorem nw_join {K : PySem.W.Frag} : Nw (tBM K "str" (fun x xs H_1 Q => ∃ a p, ∃ ys : List Str, x = V.str a ∧ xs = [V.ref p] ∧ (SqL K H_1 p (List.map V.str ys) ∨ SqT K H_1 p (List.map V.str ys)) ∧
    (List.map (fun x => x.length) ys).sum + ys.length * a.length ≤ 16777216 ∧ Q (V.str (Txt.join a ys)) H_1) (tC (V.str (Str.ofString " "))) (tCons (tOp rRep (tLst (tCons (tC (V.str (Str.ofString "7,-7"))) tNil)) (tC (V.int 300))) tNil)) (.str x300) := by
  intro σ H Q h
  refine ⟨rfl, by show 1 ≤ sizeLine; decide, fun p hp => ⟨p, 300, [V.str (Str.ofString "7,-7")], rfl, rfl, upd_same, by decide, by decide, by show 300 ≤ sizeLine; decide, fun p2 hp2 => ?_⟩⟩
  refine ⟨_, p2, List.replicate 300 (Str.ofString "7,-7"), rfl, rfl, .inl (.inl (.inl ?_)), by decide +kernel, ?_⟩
  · rw [upd_same]
    refine congrArg some (congrArg HO.lst ?_)
    rw [List.map_replicate]
    decide +kernel
  · exact h _ _ ((same_new hp).trans (same_new hp2)) at_str
end TX
/-! part A13 -/
/-! Typed texts. -/
namespace TX
open PySem PySem.Spec PyProof.Rows L2 NT RW4
local macro_rules | `(tactic| walk_at "go") => `(tactic| simp only [L2.start, List.map_cons, List.map_nil, List.length_cons, List.length_nil, Nat.reduceSub, Nat.reduceAdd, List.replicate_succ, List.replicate_zero, List.cons_append, List.nil_append, List.append_nil,
  tSeq, tNext, tRet, tIfS, tTest, tAnd, tOr, tNot, tCB, tCall, tCons, tNil, tVar, tC, tOp, tUn, tAsg, gName, rI0, rI, CMul, CDiv, tDGet, sDPut, tBM0, tBM, tTup, tLst, tPar, tPar3, gTup, gNil, gCons, tIf, tAug, tRevL, tDisp, tPairs, tYes, wipe, tDrop, L2.tSl, tNotV, tAndV, tOrV, tB, rSlS, ipI, tNoPart, NdefX.startF, tOst, tMkO, rIxL, rIxT, rIxS, rAppend, rExtend, rPop, rSlL, rSetL, tPart, rEq, rNe, tFmt, tJn, tJs, tFi, gLst, tThen, tIf, rS, rNIS, rRep, tThenZ, kLstS, rIS, cRi, rSortedP, rLn, rPopAt, tCallS, ↓reduceIte, L2.gSub, ↓reduceIte,
  List.getElem?_cons_zero, List.getElem?_cons_succ, List.set_cons_zero, List.set_cons_succ, Option.some.injEq, V.int.injEq, V.str.injEq, V.ref.injEq, V.bl.injEq, exists_eq_left, exists_eq_left', exists_eq_right, exists_eq_right', exists_eq', true_and, and_true, decide_eq_true_eq, List.cons.injEq, reduceCtorEq, false_and, false_or, or_false, exists_false, exists_and_left, exists_and_right, and_assoc])
section
variable {w : World} {K : PySem.W.Frag} {mg : Str → Option Value} {base : Heap}
def spTyped : Sp := fun vs H Q E => vs = [] ∧ ∀ H', Same H H' → Q (.bl true) H'
theorem ok_typed (T : Txt w K mg) {C R fI cc : Addr} (B : BadC K mg C R fI cc) : OkG PW w K mg base CX0 11 "_law_typed_right" [] spTyped := by
  obtain ⟨f, fd, D⟩ := T.d_L_typed_right
  refine ⟨f, fd, NT.Fun.okG D.F sc_L_typed_right (fun vs H Q E h => ?_) (fun cdv A outer s H vs Q E hgd hr h => ?_), D.g, D.F.kp, D.b⟩
  · obtain ⟨rfl, _⟩ := h
    rfl
  · obtain ⟨rfl, h⟩ := h
    have nd := sc_L_typed_right.nd
    have hu := hu_of hr
    refine ⟨_, pss_cons (ps_set (i := 0) nd rfl (.inr rfl) (pe_disp (pps_cons pe_str (pe_lst (pa_cons (pe_lst (pa_cons pe_str (pa_cons pe_non pa_nil))) (pa_cons (pe_lst (pa_cons pe_str (pa_cons pe_int pa_nil))) (pa_cons (pe_lst (pa_cons pe_str (pa_cons pe_int pa_nil))) (pa_cons (pe_lst (pa_cons pe_str (pa_cons pe_int pa_nil))) (pa_cons (pe_lst (pa_cons pe_str (pa_cons pe_int pa_nil))) (pa_cons (pe_lst (pa_cons pe_str (pa_cons pe_int pa_nil))) (pa_cons (pe_lst (pa_cons pe_str (pa_cons pe_int pa_nil))) (pa_cons (pe_lst (pa_cons pe_str (pa_cons pe_int pa_nil))) pa_nil))))))))) pps_nil) (by rfl) (by rfl) (fun z => by cases z) (by decide)))
      (pss_cons (ps_dput hu (pv 0) pe_str (pe_op op_cat (pe_dget hu (pv 0) pe_str (fun _ _ => rfl)) (pe_lst (pa_cons (pe_lst (pa_cons pe_str (pa_cons pe_int pa_nil))) (pa_cons (pe_lst (pa_cons pe_str (pa_cons pe_int pa_nil))) (pa_cons (pe_lst (pa_cons pe_str (pa_cons pe_int pa_nil))) (pa_cons (pe_lst (pa_cons pe_str (pa_cons pe_int pa_nil))) pa_nil)))))) rfl)
      (pss_cons (ps_dput hu (pv 0) pe_str (pe_op op_cat (pe_dget hu (pv 0) pe_str (fun _ _ => rfl)) (pe_lst (pa_cons (pe_lst (pa_cons pe_str (pa_cons pe_int pa_nil))) (pa_cons (pe_lst (pa_cons pe_str (pa_cons pe_int pa_nil))) (pa_cons (pe_lst (pa_cons pe_str (pa_cons pe_int pa_nil))) (pa_cons (pe_lst (pa_cons (pe_bm PySem.F.plainAttrs_str PySem.F.slot_str_join PySem.F.type_str_join mt_join pe_str (pa_cons (pe_op op_rep (pe_lst (pa_cons pe_str pa_nil)) pe_int) pa_nil)) (pa_cons pe_non pa_nil))) pa_nil)))))) rfl)
      (pss_cons (ps_dput hu (pv 0) pe_str (pe_lst (pa_cons (pe_lst (pa_cons pe_str (pa_cons pe_non pa_nil))) (pa_cons (pe_lst (pa_cons pe_str (pa_cons pe_non pa_nil))) (pa_cons (pe_lst (pa_cons pe_str (pa_cons pe_int pa_nil))) (pa_cons (pe_lst (pa_cons pe_str (pa_cons pe_int pa_nil))) (pa_cons (pe_lst (pa_cons pe_str (pa_cons pe_int pa_nil))) (pa_cons (pe_lst (pa_cons pe_str (pa_cons pe_int pa_nil))) pa_nil))))))) rfl)
      (pss_cons (ps_expr (pe_bm PySem.F.plainAttrs_list PySem.F.slot_list_append PySem.F.type_list_append mt_append (pe_dget hu (pv 0) pe_str (fun _ _ => rfl)) (pa_cons (pe_lst (pa_cons pe_str (pa_cons pe_int pa_nil))) pa_nil)))
      (pss_cons (ps_dput hu (pv 0) pe_str (pe_op op_cat (pe_dget hu (pv 0) pe_str (fun _ _ => rfl)) (pe_lst (pa_cons (pe_lst (pa_cons pe_str (pa_cons pe_int pa_nil))) (pa_cons (pe_lst (pa_cons pe_str (pa_cons pe_int pa_nil))) (pa_cons (pe_lst (pa_cons pe_str (pa_cons pe_int pa_nil))) (pa_cons (pe_lst (pa_cons pe_str (pa_cons pe_int pa_nil))) pa_nil)))))) rfl)
      (pss_cons (ps_dput hu (pv 0) pe_str (pe_lst (pa_cons (pe_lst (pa_cons pe_str (pa_cons pe_non pa_nil))) (pa_cons (pe_lst (pa_cons pe_str (pa_cons pe_non pa_nil))) (pa_cons (pe_lst (pa_cons pe_str (pa_cons pe_int pa_nil))) (pa_cons (pe_lst (pa_cons pe_str (pa_cons pe_int pa_nil))) (pa_cons (pe_lst (pa_cons pe_str (pa_cons pe_int pa_nil))) (pa_cons (pe_lst (pa_cons pe_str (pa_cons pe_int pa_nil))) pa_nil))))))) rfl)
      (pss_cons (ps_dput hu (pv 0) pe_str (pe_op op_cat (pe_dget hu (pv 0) pe_str (fun _ _ => rfl)) (pe_lst (pa_cons (pe_lst (pa_cons pe_str (pa_cons pe_int pa_nil))) (pa_cons (pe_lst (pa_cons pe_str (pa_cons pe_int pa_nil))) (pa_cons (pe_lst (pa_cons pe_str (pa_cons pe_int pa_nil))) (pa_cons (pe_lst (pa_cons pe_str (pa_cons pe_int pa_nil))) pa_nil)))))) rfl)
      (pss_cons (ps_lock (ps_for PassesOwn.never rfl (pi_keys (pv 0)) (pg_name (i := 1) nd rfl (.inl rfl))
        (pss_one (ps_for PassesOwn.never rfl (pi_list (pe_dget hu (pv 0) (pv 1) (fun _ _ => rfl))) (pg_lst (by rfl) (pgs_cons (pg_name (i := 2) nd rfl (.inl rfl)) (pgs_cons (pg_name (i := 3) nd rfl (.inl rfl)) pgs_nil)))
          (pss_cons (ps_set (i := 4) nd rfl (.inl rfl) (pe_d (ok_readAs T B) hr pass0 (pa_cons (pv 2) (pa_cons (pv 1) pa_nil))))
          (pss_cons (ps_if (PW.pt (pw_or (pt_cmpR op_ne (pe_callB call_isi (by rfl) T.z_isinstance (by decide +kernel) (pa_cons (pv 4) (pa_cons (pe_bltn (v := .ty "list") (by rfl) T.z_list (by decide +kernel) rfl) pa_nil))) (pe_cmpR op_isN (pv 3) pe_non (nomark _)) (nomark _))
              (pw_or1 (PW.pt (pw_and (pt_cmpR op_notN (pv 3) pe_non (nomark _)) (pw_and1 (pt_cmpR op_ne (pe_callB (call_rd hgd hr.units) (by rfl) T.z_repr (by decide +kernel) (pa_cons (pv 4) pa_nil)) (pe_callB (call_rd hgd hr.units) (by rfl) T.z_repr (by decide +kernel) (pa_cons (pv 3) pa_nil)) (nomark _))))))))
            (pss_one (ps_ret pe_bl)) pss_nil)
          (pss_one (ps_if (PW.pt (pw_and (pt_cmpR op_isN (pv 3) pe_non (nomark _)) (pw_and1 (pt_cmpR op_ne (pe_d (ok_written T) hr pass0 (pa_cons (pe_ix ix_list (pv 4) pe_int (fun _ _ => rfl)) (pa_cons (pv 1) pa_nil))) (pv 2) (nomark _))))) (pss_one (ps_ret pe_bl)) pss_nil))))))))
      (pss_cons (ps_set (i := 5) nd rfl (.inl rfl) (pe_lst (pa_cons pe_non (pa_cons pe_int (pa_cons (pe_lst pa_nil) (pa_cons (pe_lst (pa_cons pe_str pa_nil)) (pa_cons (pe_tup (pa_cons pe_str pa_nil)) (pa_cons pe_dnewK (pa_cons pe_bl pa_nil)))))))))
      (pss_one (ps_ret (pe_callB (cr_all (by rfl)) (by rfl) T.z_all (by decide +kernel) (pa_cons
        (pe_lc (own := [("value", 6)]) (g := gName 6) (tt := tYes) (te := tOp (rEqD K) (tLockE (tLc (iKeys (tVar 0)) (gName 1) tYes (tCall (spRA K) [] E0 (tCons (tVar 6) (tCons (tVar 1) tNil))) [1])) (tOp rRep (tLst (tCons (tC (.int 0)) tNil)) (tC (.int 3)))) rfl nd (pi_list (pv 5)) (blkOk_by (N := n_L_typed_right) (sc := defScope s_L_typed_right) (by decide +kernel))
          (fun _ _ _ _ _ => pg_name (i := 6) nd rfl (.inr rfl)) (fun _ _ _ _ _ => pts_nil)
          (fun _ _ _ _ _ => by exact (pe_cmpR (op_eqD hr.units) (pe_lock (pe_lc (own := [("part", 1)]) (g := gName 1) (tt := tYes) (te := tCall (spRA K) [] E0 (tCons (tVar 6) (tCons (tVar 1) tNil))) rfl nd (pi_keys (by exact pv 0)) (blkOk_by (N := n_L_typed_right) (sc := relS _ (defScope s_L_typed_right)) (by decide +kernel))
            (fun _ _ _ _ _ => pg_name (i := 1) nd rfl (.inl rfl)) (fun _ _ _ _ _ => pts_nil) (fun _ _ _ _ _ => by exact (pe_d (ok_readAs T B) hr pass0 (by exact (pa_cons (pv 6) (pa_cons (pv 1) pa_nil)))))))
            (by exact (pe_op op_rep (pe_lst (pa_cons pe_int pa_nil)) pe_int)) (nomark _)))) pa_nil))))))))))))), ?_⟩
    have D0 : start n_L_typed_right [] = [none, none, none, none, none, none, none] := rfl
    rw [D0]
    refine ts_disp (rs := c0) (nwrs (nwa_cons nwr0 (nwa_cons nwr1 (nwa_cons nwr1 (nwa_cons nwr1 (nwa_cons nwr1 (nwa_cons nwr1 (nwa_cons nwr1 (nwa_cons nwr1 nwa_nil)))))))) (by decide)) fun D a0 H1 s1 hD e1 A1 => ?_
    refine ts_cat (kvs := kc a0) (rs2 := c1) e1 (show 1 ≤ 10 by decide) vk1 A1 (nwrs (nwa_cons nwr1 (nwa_cons nwr1 (nwa_cons nwr1 (nwa_cons nwr1 nwa_nil)))) (by decide)) (by decide) fun a1 H2 k2 e2 A2 => ?_
    rw [pk1] at e2
    refine ts_cat (kvs := kc a1) (rs2 := c2) e2 (show 1 ≤ 10 by decide) vk1 A2 (nwrs (nwa_cons nwr1 (nwa_cons nwr1 (nwa_cons nwr1 (nwa_cons (nw_lst (nwa_cons nw_join (nwa_cons nw_non nwa_nil)) (show 2 ≤ 1000 by decide)) nwa_nil)))) (by decide)) (by decide) fun a2 H3 k3 e3 A3 => ?_
    rw [pk1] at e3
    refine ts_put (kvs := kc a2) (rs := w0) e3 (show 1 ≤ 10 by decide) (nwa_cons nwr0 (nwa_cons nwr0 (nwa_cons nwr1 (nwa_cons nwr1 (nwa_cons nwr1 (nwa_cons nwr1 nwa_nil)))))) (by decide) fun b0 vs4 H4 hb0 k4 e4 eb4 A4 => ?_
    rw [pk2] at e4
    refine ts_app (kvs := kw a2 b0) (r := ("0,0:1 ", some 6)) e4 vk2 eb4 A4 (by decide) nwr1 fun H5 k5 e5 A5 => ?_
    refine ts_cat (kvs := kw a2 b0) (rs2 := w2) e5 (show 2 ≤ 10 by decide) vk2 A5 (nwrs (nwa_cons nwr1 (nwa_cons nwr1 (nwa_cons nwr1 (nwa_cons nwr1 nwa_nil)))) (by decide)) (by decide) fun b1 H6 k6 e6 A6 => ?_
    rw [pk3] at e6
    refine ts_put (kvs := kw a2 b1) (rs := j0) e6 (show 2 ≤ 10 by decide) (nwa_cons nwr0 (nwa_cons nwr0 (nwa_cons nwr1 (nwa_cons nwr1 (nwa_cons nwr1 (nwa_cons nwr1 nwa_nil)))))) (by decide) fun d0 vs7 H7 hd0 k7 e7 ed7 A7 => ?_
    rw [pk4] at e7
    have A7' : At (DS D) H7 (rsD j0) (.ref d0) := at_lst (fun z => by
      rw [show d0 = D from z, e7] at ed7
      cases ed7) ed7 (A7.off fun b o _ z => .inl z)
    refine ts_cat (kvs := kj a2 b1 d0) (rs2 := j1) e7 (show 3 ≤ 10 by decide) vk3 A7' (nwrs (nwa_cons nwr1 (nwa_cons nwr1 (nwa_cons nwr1 (nwa_cons nwr1 nwa_nil)))) (by decide)) (by decide) fun d1 H8 k8 e8 A8 => ?_
    rw [pk5] at e8
    have k45 : Kp (fun b => b = D ∨ b = b0) H3 H8 := ((((k4.mono fun b z => .inl z).trans k5).trans (k6.mono fun b z => .inl z)).trans (k7.mono fun b z => .inl z)).trans (k8.mono fun b z => .inl z)
    have B3 : At (fun b => b = D ∨ b = b0) H3 (rsD rCells) (.ref a2) := A3.off fun b o hb z => z.elim id fun z => by
      rw [z, hb0] at hb
      cases hb
    have C8 : At (DS D) H8 (rsD rCells) (.ref a2) := (B3.kp k45).off fun b o _ z => .inl z
    have W8 : At (DS D) H8 (rsD rWts) (.ref b1) := (A6.kp k7).kp k8
    have J8 : At (DS D) H8 (rsD rJns) (.ref d1) := A8
    have s8 : Same H H8 := fun b o hb => by
      have n1 : b ≠ D := ne_of_none hb hD
      have h3 := k3 b o (k2 b o (s1 b o hb) n1) n1
      exact k45 b o h3 (fun z => z.elim n1 (ne_of_none h3 hb0))
    clear k2 k3 k4 k5 k6 k7 k8 k45 A1 A2 A3 A4 A5 A6 A7 A7' A8 B3 e1 e2 e3 e4 e5 e6 e7 eb4 ed7 hb0 hd0 s1
    refine ⟨D, _, e8, trivial, fun od => ?_⟩
    have KF : Kp (DS D) H8 (upd H8 D (.frz od (.dK (kj a2 b1 d1)))) := Kp.upd_in (S := DS D) rfl
    have C9 := C8.kp KF
    have W9 := W8.kp KF
    have J9 := J8.kp KF
    have e9 : (upd H8 D (.frz od (.dK (kj a2 b1 d1)))) D = some (.frz od (.dK (kj a2 b1 d1))) := upd_same
    generalize hHF : upd H8 D (.frz od (.dK (kj a2 b1 d1))) = HF at *
    refine ⟨_, rfl, D, od, rfl, .inl ⟨kj a2 b1 d1, e9, for_it (walk_keys (kvs := kj a2 b1 d1)) (fun i σ H' => ∃ (v1 v2 v3 v4 : Option V), σ = [some (.ref D), v1, v2, v3, v4, none, none] ∧ Same HF H') ⟨none, none, none, none, rfl, fun _ _ z => z⟩ (fun i σ H' _ z => by
      obtain ⟨_, _, _, _, _, z⟩ := z
      exact z _ _ e9) ?_ ?_⟩⟩
    · rintro i xv σ Ha Hb hi ⟨v1, v2, v3, v4, rfl, sa⟩ ⟨rfl, k, v, hkv, rfl⟩
      have tab : ∃ (part : Str) (form : List Nat) (dd : List Int → PyData) (rs : List Rw) (a : Addr), k = .inr part ∧ KD part form dd ∧ valV (kj a2 b1 d1) (.inr part) = some (.ref a) ∧ At (DS D) HF (rsD rs) (.ref a) ∧ rs.all (okRw form) = true := by
        have hi3 : i < 3 := hi
        have : i = 0 ∨ i = 1 ∨ i = 2 := by omega
        rcases this with rfl | rfl | rfl
        · cases hkv
          exact ⟨_, _, _, _, _, rfl, .inl ⟨rfl, rfl, rfl⟩, vk4, C9, okC⟩
        · cases hkv
          exact ⟨_, _, _, _, _, rfl, .inr (.inl ⟨rfl, rfl, rfl⟩), vk5, W9, okW⟩
        · cases hkv
          exact ⟨_, _, _, _, _, rfl, .inr (.inr ⟨rfl, rfl, rfl⟩), vk3, J9, okJ⟩
      obtain ⟨part, form, dd, rs, a, rfl, hk, hva, Aa, hok⟩ := tab
      walk_at "go"
      obtain ⟨p, xs, ep, nD, ea, hxs⟩ := (Aa.kp (Kp.of_same sa)).lst
      cases ep
      refine ⟨_, rfl, _, rfl, D, .ref a, rfl, .inl ⟨_, _, .inr ⟨od, sa _ _ e9⟩, rfl, hva.symm⟩, a, rfl, ⟨xs, .inl (.inl ea)⟩, for_it (walk_list (xs := xs)) (fun j σ H' => ∃ (v2 v3 v4 : Option V), σ = [some (.ref D), some (.str part), v2, v3, v4, none, none] ∧ Same Hb H') ⟨v2, v3, v4, rfl, fun _ _ z => z⟩ (fun j σ H' _ z => by
        obtain ⟨_, _, _, _, z⟩ := z
        exact .inl (.inl (z _ _ ea))) ?_ ?_⟩
      · rintro j yv σ Hc Hd hj ⟨v2, v3, v4, rfl, sc⟩ ⟨rfl, hy⟩
        have hj2 : j < rs.length := by
          have := hxs.length
          rw [List.length_map] at this
          omega
        obtain ⟨u, hu1, hu2⟩ := hxs.get (i := j) (by rw [List.getElem?_map, List.getElem?_eq_getElem hj2]; rfl)
        rw [hy] at hu1
        cases hu1
        have hr1 := List.all_eq_true.mp hok rs[j] (List.getElem_mem hj2)
        generalize rs[j] = r at *
        obtain ⟨x, due⟩ := r
        obtain ⟨q, ys, rfl, _, eq1, hys⟩ := (hu2.kp (Kp.of_same sc)).lst
        obtain ⟨y1, r1, rfl, hy1, hys⟩ := hys.cons
        obtain ⟨y2, r2, rfl, hy2, hys⟩ := hys.cons
        obtain rfl := hys.nil
        obtain rfl := hy1.str
        walk_at "go"
        refine ⟨_, .inl (.inl eq1), rfl, _, _, rfl, _, _, rfl, rfl, ?_⟩
        have hr2 := (Bool.and_eq_true_iff.mp hr1)
        have hxl : x.cps.toList.length ≤ 2000 := of_decide_eq_true hr2.1
        have hr3 := hr2.2
        dsimp only at hr3
        have exs : V.str x = V.str (SX.S x.cps.toList) := by rw [SX.S_tl]
        cases ei : itemsS form x.cps.toList with
        | ok l2 =>
          rw [ei] at hr3
          dsimp only at hr3
          have hr4 := Bool.and_eq_true_iff.mp hr3
          have hl2 : l2.length ≤ 1000 := of_decide_eq_true hr4.2
          obtain rfl : due = none := of_decide_eq_true hr4.1
          obtain rfl : y2 = .non := by simpa [At] using hy2
          refine ⟨_, part, rfl, .inr (.inl ⟨form, dd, x.cps.toList, hk, exs, by omega, fun l' e' _ a1 H3 s3 ha => ?_, fun j1 e' => ?_⟩)⟩
          · rw [ei] at e'
            cases e'
            walk_at "go"
            obtain ⟨p2, xs2, rfl, _, ep2, hxs2⟩ := ha.lst
            obtain ⟨v1', r', rfl, at1, hr'⟩ := hxs2.cons
            obtain rfl := hr'.nil
            have hb2 := items_back ei
            have hok2 := items_ok ei
            refine ⟨_, .ty "list", .type "list", .type "list", true, rfl, .ty _, .base (.lst ep2), kit_ty (by decide +kernel), rfl, ?_⟩
            rw [if_neg (by simp), if_neg (by simp)]
            refine ⟨p2, rfl, _, .inl (.inl ep2), v1', rfl, v1', part, form, dd, _, rfl, hk, at1.no, by omega, hok2, fun H8 s8 => ⟨rfl, ?_⟩⟩
            rw [hb2, SX.S_tl, if_neg (by simp)]
            exact (sc.trans s3).trans s8
          · rw [ei] at e'
            cases e'
        | error j1 =>
          rw [ei] at hr3
          dsimp only at hr3
          obtain rfl : due = some (j1 : Int) := of_decide_eq_true hr3
          obtain rfl := hy2.int
          refine ⟨_, part, rfl, .inr (.inl ⟨form, dd, x.cps.toList, hk, exs, by omega, fun l' e' => ?_, fun j2 e' H3 s3 => ?_⟩)⟩
          · rw [ei] at e'
            cases e'
          · rw [ei] at e'
            cases e'
            walk_at "go"
            have hj := farM_le (show farM gC 40 [[part]] x.cps.toList = some (j1, false) by
              have q := (far_of hk x.cps.toList).2
              rw [ei] at q
              exact q)
            have rpj : Rp (.int ((j1 : Nat) : Int)) := rp_int (by omega)
            refine isi_int (b := false) (by decide +kernel) ⟨rfl, ?_⟩
            rw [if_neg (by simp), if_pos (by simp)]
            refine ⟨_, _, rfl, at_int, rpj, _, _, rfl, at_int, rpj, rfl, ?_⟩
            rw [if_neg (by simp)]
            exact sc.trans s3
      · rintro σ Hc ⟨v2, v3, v4, rfl, sc⟩
        walk_at "go"
        exact sa.trans sc
    · rintro σ Ha ⟨v1, v2, v3, v4, rfl, sa⟩
      refine ⟨sa _ _ e9, ?_⟩
      have su : Same H (upd Ha D (.dK (kj a2 b1 d1))) := fun b o hb => by
        have n1 : b ≠ D := ne_of_none hb hD
        rw [upd_ne n1]
        exact sa _ _ (KF _ _ (s8 _ _ hb) n1)
      have eU : (upd Ha D (.dK (kj a2 b1 d1))) D = some (.dK (kj a2 b1 d1)) := upd_same
      generalize upd Ha D (.dK (kj a2 b1 d1)) = HU at *
      refine ts_odd (oda_cons od_non (oda_cons od_int (oda_cons od_lst0 (oda_cons od_lst1 (oda_cons od_tup1 (oda_cons od_dk (oda_cons od_bl oda_nil))))))) (by decide) fun us p HP s9 eP ho9 hl => ?_
      have eDP := s9 _ _ eU
      have s10 := su.trans s9
      refine ⟨_, rfl, p, rfl, ⟨us, .inl (.inl eP)⟩, fun O hO => lc_it (walk_list (xs := us)) (fun i H' => Same HP H' ∧ H' O = some (.lst (List.replicate i (.bl true)))) ⟨same_new hO, upd_same⟩ (fun i H' _ z => .inl (.inl (z.1 _ _ eP))) ?_ ?_⟩
      · rintro i xv Hc Hd hi ⟨sc, eO⟩ ⟨rfl, hxv⟩
        walk_at "go"
        have eDd := sc _ _ eDP
        refine ⟨D, _, eDd, trivial, fun od2 => ?_⟩
        have eL : (upd Hd D (.frz od2 (.dK (kj a2 b1 d1)))) D = some (.frz od2 (.dK (kj a2 b1 d1))) := upd_same
        have hoL : OdV (upd Hd D (.frz od2 (.dK (kj a2 b1 d1)))) xv := ((ho9 xv (List.mem_of_getElem? hxv)).same sc).lock eDd
        have OD : O ≠ D := fun z => by
          rw [z, eDP] at hO
          cases hO
        have kL : Kp (DS D) Hd (upd Hd D (.frz od2 (.dK (kj a2 b1 d1)))) := Kp.upd_in (S := DS D) rfl
        generalize upd Hd D (.frz od2 (.dK (kj a2 b1 d1))) = HL at *
        refine ⟨_, rfl, D, od2, rfl, .inl ⟨kj a2 b1 d1, eL, fun O2 hO2 => lc_it (walk_keys (kvs := kj a2 b1 d1)) (fun j H' => Same HL H' ∧ H' O2 = some (.lst (List.replicate j (.int 0)))) ⟨same_new hO2, upd_same⟩ (fun j H' _ z => z.1 _ _ eL) ?_ ?_⟩⟩
        · rintro j yv He Hf hj ⟨se, eO2⟩ ⟨rfl, k, v, hkv, rfl⟩
          have tab : ∃ (part : Str) (form : List Nat) (dd : List Int → PyData), k = .inr part ∧ KD part form dd := by
            have hj3 : j < 3 := hj
            have : j = 0 ∨ j = 1 ∨ j = 2 := by omega
            rcases this with rfl | rfl | rfl
            · cases hkv
              exact ⟨_, _, _, rfl, .inl ⟨rfl, rfl, rfl⟩⟩
            · cases hkv
              exact ⟨_, _, _, rfl, .inr (.inl ⟨rfl, rfl, rfl⟩)⟩
            · cases hkv
              exact ⟨_, _, _, rfl, .inr (.inr ⟨rfl, rfl, rfl⟩)⟩
          obtain ⟨part, form, dd, rfl, hk⟩ := tab
          walk_at "go"
          refine ⟨xv, part, rfl, .inl ⟨(hoL.same se).tx, .inr ⟨form, dd, hk⟩, fun H3 s3 => ?_⟩⟩
          have hj3 : j < 3 := hj
          refine ⟨_, s3 _ _ eO2, ?_, fun b o hb => ?_, ?_⟩
          · rw [List.length_replicate]
            exact small_lt (m := 100) (by omega) (by decide)
          · rw [upd_ne (ne_of_none hb hO2)]
            exact s3 _ _ (se _ _ hb)
          · rw [upd_same, ← List.replicate_succ', List.replicate_succ]
        · rintro He ⟨se, eO2⟩
          have O2D : O2 ≠ D := fun z => by
            rw [z, eL] at hO2
            cases hO2
          refine ⟨se _ _ eL, by decide, fun p2 hp2 => ⟨_, upd_same, by decide, by decide, by decide, fun p3 hp3 => ?_⟩⟩
          have s4 := (same_new (o := .lst [V.int 0]) hp2).trans (same_new (o := .lst (List.replicate (Int.toNat 3) [V.int 0]).flatten) hp3)
          have e5 : (List.replicate (kj a2 b1 d1).length (V.int 0)) = ([0, 0, 0] : List Int).map V.int := rfl
          have e6 : (List.replicate (Int.toNat 3) [V.int 0]).flatten = ([0, 0, 0] : List Int).map V.int := rfl
          rw [e5] at eO2
          have f2 := s4 O2 _ (by rw [upd_ne O2D]; exact eO2)
          refine ⟨_, _, .lst (.inl (.inl f2)) (ints_dp _), .lst (.inl (.inl (by rw [upd_same, e6]))) (ints_dp _), by decide, by decide, ?_⟩
          have fO := s4 O _ (by rw [upd_ne OD]; exact se _ _ (kL _ _ eO OD))
          have hi7 : i < 7 := by rw [hl] at hi; exact hi
          refine ⟨_, fO, ?_, fun b o hb => ?_, ?_⟩
          · rw [List.length_replicate]
            exact small_lt (m := 100) (by omega) (by decide)
          · rw [upd_ne (ne_of_none hb hO)]
            by_cases hbD : b = D
            · subst hbD
              rw [eDP] at hb
              rw [← hb]
              exact s4 _ _ upd_same
            · exact s4 _ _ (by rw [upd_ne hbD]; exact se _ _ (kL _ _ (sc _ _ hb) hbD))
          · rw [upd_same, ← List.replicate_succ]
            exact congrArg (fun z => some (HO.lst z)) (by rw [List.replicate_succ']; rfl)
      · rintro Hc ⟨sc, eO⟩
        rw [hl] at eO
        exact ⟨O, List.replicate 7 true, rfl, .inl (.inl eO), h _ (s10.trans sc)⟩
end
end TX
/-! part Z1 -/
/-! A zip of two tuples, drawn from while its pairs are kept. -/
namespace ZT
open PySem PySem.Spec PyProof.Rows L2 RZ
open PySem.Sem (wp)
theorem zip_len : typeLookup (.type "zip") "__len__" = pure none := am_miss_of_fast (by decide +kernel)
theorem zip_hint : typeLookup (.type "zip") "__length_hint__" = pure none := am_miss_of_fast (by decide +kernel)
section
variable {prog : Program} {w : World} {A : Around} {E : Value → Shared → Prop} {s : Shared}
/-- the next pair by what both iterators answer, the last pair still kept by someone -/
theorem kept_next {z TI TO T a b : Addr} {f : Bool} {oT : Obj} {Q : Value → Shared → Prop} (zh : IsZipHeld s.heap z TI TO T f) (th : s.heap.get? T = some oT) (pr : IsPair s.heap TI (.ref a) (.ref b))
    (go : ∀ g, IsZipHeld g z TI TO T true → Heap.SameBut z s.heap g → wpAny (model prog w) A (Builtin.SmallTypes.nextOf (.ref a)) (fun x sx => wpAny (model prog w) A (Builtin.SmallTypes.nextOf (.ref b))
      (fun y sy => Q (.ref sy.heap.objs.size) { sy with heap := sy.heap.push { cls := .type "tuple", data := .seq #[x, y] } }) E sx) E { s with heap := g }) :
    wpAny (model prog w) A (Builtin.«zip.__next__» ⟨[.ref z], []⟩) (fun fin s' => ∃ v, fin = .done (.ret v) ∧ Q v s') E s := by
  show wpAny _ _ (field (.ref z) 2 >>= _) _ _ _
  refine wpAny_bind (wpAny_field zh rfl (x := .bool false) rfl ?_)
  show wpAny _ _ (field (.ref z) 3 >>= _) _ _ _
  refine wpAny_bind (wpAny_field zh rfl (x := .ref TI) rfl (wpAny_bind (wpAny_seqItems pr rfl ?_)))
  show wpAny _ _ (Builtin.SmallTypes.ownedTupleIsFree (.ref z) >>= _) _ _ _
  refine wpAny_bind (wpAny_tupleHeld_zip zh th fun g zg sg => ?_)
  rw [if_neg Bool.false_ne_true]
  refine wpAny_bind ?_
  rw [← Array.forIn_toList]
  simp only [List.forIn_cons, List.forIn_nil]
  refine wpAny_bind (wpAny_bind (wpAny_holding (wpAny_bind (wpAny_mono (go g zg sg) (fun x sx hx => ?_) fun _ _ e => e))))
  refine wpAny_pure (wpAny_pure (wpAny_bind (wpAny_bind (wpAny_holding (wpAny_bind (wpAny_mono hx (fun y sy hy => ?_) fun _ _ e => e))))))
  refine wpAny_pure (wpAny_pure (wpAny_pure ?_))
  show wpAny _ _ (newTuple [x, y] >>= _) _ _ _
  exact wpAny_bind (wpAny_newTuple (wpAny_pure ⟨_, rfl, hy⟩))
/-- next(z), z a zip: its own next, and none where that stops -/
theorem zip_pyNext {z : Addr} {Q : Option Value → Shared → Prop} (hh : A.handled = none) (zt : s.TypeIs (.ref z) "zip")
    (h : ∀ (B : Around) (F : Value → Shared → Prop), B.handled = none → (∀ s' e, (∃ o, s'.heap.get? e = some o ∧ o.cls = .type "StopIteration") → Q none s' → F (.ref e) s') →
      wpAny (model prog w) B (Builtin.«zip.__next__» ⟨[.ref z], []⟩) (fun fin s' => ∃ v, fin = .done (.ret v) ∧ Q (some v) s') F s) : wpAny (model prog w) A (pyNext (.ref z)) Q E s := by
  unfold pyNext
  refine wpAny_bind (wpAny_attempt (wpAny_callSpecial?_slot (name := Str.ofString "__next__") zt F.slot_zip_next (wpAny_call_entry F.slot_zip_next zt F.entry_zip_next (wpAny_mono (h _ _ hh fun s' e he q => ?_) (fun fin s' hq => ?_) fun _ _ x => x) (F.args_zip_next_1 _))))
  rotate_left
  · obtain ⟨v, rfl, q⟩ := hq
    exact ⟨v, rfl, wpAny_pure q⟩
  · obtain ⟨o, ho, hc⟩ := he
    exact wpAny_bind (wpAny_isInstance (T := "StopIteration") (b := true) ⟨o, ho, hc⟩ isSubtype_stop (wpAny_pure q))
/-- a zip of the tuples at l1 and l2, i pairs drawn; keep: someone else's object -/
structure ZS (z TI TO i1 i2 l1 l2 keep : Addr) (us ws : Array Value) (i : Nat) (g : Heap) : Prop where
  pr : IsPair g TI (.ref i1) (.ref i2)
  t1 : g.IsTupleIter i1 l1 i
  t2 : g.IsTupleIter i2 l2 i
  a1 : g.IsTuple l1 us
  a2 : g.IsTuple l2 ws
  zp : (IsZip g z TI TO .none ∧ ∃ p q, IsPair g TO p q) ∨ ∃ T f oT, IsZipHeld g z TI TO T f ∧ g.get? T = some oT ∧ T ∉ [z, i1, i2, keep]
theorem ZS.off {z TI TO i1 i2 l1 l2 keep : Addr} {us ws : Array Value} {i : Nat} {g g' : Heap} (Z : ZS z TI TO i1 i2 l1 l2 keep us ws i g) (n : keep ∉ [z, TI, TO, i1, i2, l1, l2]) (up : ∀ b o, b ≠ keep → g.get? b = some o → g'.get? b = some o) :
    ZS z TI TO i1 i2 l1 l2 keep us ws i g' := by
  have far : ∀ {b}, b ∈ [z, TI, TO, i1, i2, l1, l2] → ∀ o, g.get? b = some o → g'.get? b = some o := fun {b} hb o e => up b o (fun q => n (q ▸ hb)) e
  refine ⟨far (by simp) _ Z.pr, Z.t1.at (far (by simp)), Z.t2.at (far (by simp)), Z.a1.at (far (by simp)), Z.a2.at (far (by simp)), ?_⟩
  rcases Z.zp with ⟨x, p, q, y⟩ | ⟨T, f, oT, x, y, m⟩
  · exact .inl ⟨far (by simp) _ x, p, q, far (by simp) _ y⟩
  · exact .inr ⟨T, f, oT, far (by simp) _ x, up T oT (fun q => m (by simp [q])) y, m⟩
theorem ZS.typed {z TI TO i1 i2 l1 l2 keep : Addr} {us ws : Array Value} {i : Nat} (Z : ZS z TI TO i1 i2 l1 l2 keep us ws i s.heap) : s.TypeIs (.ref z) "zip" := by
  rcases Z.zp with ⟨x, _⟩ | ⟨_, _, _, x, _⟩ <;> exact ⟨_, x, rfl⟩
theorem ZS.item {z TI TO i1 i2 l1 l2 keep : Addr} {us ws : Array Value} {i : Nat} {x y : Value} {Q : Option Value → Shared → Prop} (hh : A.handled = none) (D : ZipApart z TI TO i1 i2 l1 l2) (Z : ZS z TI TO i1 i2 l1 l2 keep us ws i s.heap) (hk : keep < s.heap.objs.size) (ex : us[i]? = some x) (ey : ws[i]? = some y)
    (q : ∀ g, ZS z TI TO i1 i2 l1 l2 keep us ws (i + 1) g → IsPair g s.heap.objs.size x y → g.objs.size = s.heap.objs.size + 1 → (∀ c o, c ∉ [z, TO, i1, i2] → s.heap.get? c = some o → g.get? c = some o) → Q (some (.ref s.heap.objs.size)) { s with heap := g }) :
    wpAny (model prog w) A (pyNext (.ref z)) Q E s := by
  have old : ∀ {c o}, s.heap.get? c = some o → c ≠ s.heap.objs.size := fun e => Nat.ne_of_lt (Heap.lt_size e)
  have o1 : i1 ≠ s.heap.objs.size := let ⟨_, e, _⟩ := Z.t1; old e
  have o2 : i2 ≠ s.heap.objs.size := let ⟨_, e, _⟩ := Z.t2; old e
  have apart : ∀ {c}, c ≠ z → c ≠ TO → c ≠ i1 → c ≠ i2 → c ∉ [z, TO, i1, i2] := fun b1 b2 b3 b4 m => by
    simp only [List.mem_cons, List.not_mem_nil, or_false] at m
    rcases m with m | m | m | m
    · exact b1 m
    · exact b2 m
    · exact b3 m
    · exact b4 m
  rcases Z.zp with ⟨zn, p0, q0, to⟩ | ⟨T, f, oT, zk, tk, m⟩
  · refine pyNext_zipT_item D zn Z.pr to Z.t1 Z.t2 Z.a1 Z.a2 ex ey fun g b1 _ b3 b4 b5 b6 up => ?_
    refine q g ⟨up _ _ D.TIz D.TITO D.TIi1 D.TIi2 Z.pr, b3, b4, Z.a1.at fun o => up _ o D.l1z D.l1TO D.l1i1 D.l1i2, Z.a2.at fun o => up _ o D.l2z D.l2TO D.l2i1 D.l2i2, .inr ⟨_, false, _, b1, b5, ?_⟩⟩ b5 b6
      fun c o n => up c o (fun e => n (by simp [e])) (fun e => n (by simp [e])) (fun e => n (by simp [e])) (fun e => n (by simp [e]))
    simp only [List.mem_cons, List.not_mem_nil, or_false, not_or]
    exact ⟨(old zn).symm, o1.symm, o2.symm, Nat.ne_of_gt hk⟩
  · simp only [List.mem_cons, List.not_mem_nil, or_false, not_or] at m
    refine zip_pyNext hh Z.typed fun B F hB _ => kept_next zk tk Z.pr fun g zg sg => ?_
    refine nextOf_tuple_item (s := { s with heap := g }) (Z.t1.extBut sg.extBut D.i1z) (Z.a1.extBut sg.extBut D.l1z) ex fun g1 r1 s1 => ?_
    refine nextOf_tuple_item (s := { s with heap := g1 }) ((Z.t2.extBut sg.extBut D.i2z).extBut s1.extBut D.i12.symm) ((Z.a2.extBut sg.extBut D.l2z).extBut s1.extBut D.l2i1) ey fun g2 r2 s2 => ?_
    have up : ∀ c o, c ≠ z → c ≠ i1 → c ≠ i2 → s.heap.get? c = some o → g2.get? c = some o := fun c o n0 n1 n2 e => s2.extBut _ _ n2 (s1.extBut _ _ n1 (sg.extBut _ _ n0 e))
    have zg2 : IsZipHeld g2 z TI TO T true := s2.extBut _ _ D.i2z.symm (s1.extBut _ _ D.i1z.symm zg)
    have sz : g2.objs.size = s.heap.objs.size := s2.1.trans (s1.1.trans sg.1)
    have psh : ∀ c o, g2.get? c = some o → (g2.push { cls := .type "tuple", data := .seq #[x, y] }).get? c = some o := fun c o => Heap.get?_push_of_some _
    have top : IsPair (g2.push { cls := .type "tuple", data := .seq #[x, y] }) g2.objs.size x y := Heap.get?_push_size _ rfl
    show Q (some (.ref g2.objs.size)) _
    rw [sz] at top ⊢
    refine q _ ⟨psh _ _ (up _ _ D.TIz D.TIi1 D.TIi2 Z.pr), (r1.extBut s2.extBut D.i12).at fun o => psh _ o, r2.at fun o => psh _ o, Z.a1.at fun o e => psh _ _ (up _ o D.l1z D.l1i1 D.l1i2 e), Z.a2.at fun o e => psh _ _ (up _ o D.l2z D.l2i1 D.l2i2 e),
      .inr ⟨T, true, oT, psh _ _ zg2, psh _ _ (up _ _ m.1 m.2.1 m.2.2.1 tk), by simpa using m⟩⟩ top (by rw [Heap.size_push, sz]) fun c o n e => psh _ _ (up c o (fun e => n (by simp [e])) (fun e => n (by simp [e])) (fun e => n (by simp [e])) e)
theorem ZS.stop {z TI TO i1 i2 l1 l2 keep : Addr} {us ws : Array Value} {i : Nat} {Q : Option Value → Shared → Prop} (hh : A.handled = none) (D : ZipApart z TI TO i1 i2 l1 l2) (Z : ZS z TI TO i1 i2 l1 l2 keep us ws i s.heap) (he : us[i]? = none ∨ ws[i]? = none)
    (q : ∀ g, (∀ c o, c ∉ [z, TO, i1, i2] → s.heap.get? c = some o → g.get? c = some o) → Q none { s with heap := g }) : wpAny (model prog w) A (pyNext (.ref z)) Q E s := by
  rcases Z.zp with ⟨zn, p0, q0, to⟩ | ⟨T, f, oT, zk, tk, m⟩
  · exact pyNext_zipT_end hh D zn Z.pr to Z.t1 Z.t2 Z.a1 Z.a2 he fun g up => q g fun c o n => up c o (fun e => n (by simp [e])) (fun e => n (by simp [e])) (fun e => n (by simp [e])) (fun e => n (by simp [e]))
  · refine zip_pyNext hh Z.typed fun B F hB out => kept_next zk tk Z.pr fun g zg sg => ?_
    cases ex : us[i]? with
    | none =>
      refine nextOf_tuple_end (s := { s with heap := g }) hB (Z.t1.extBut sg.extBut D.i1z) (Z.a1.extBut sg.extBut D.l1z) ex fun g1 e s1 hs => out { s with heap := g1 } e hs (q g1 fun c o n x => ?_)
      exact s1 _ _ (fun e => n (by simp [e])) (sg.extBut _ _ (fun e => n (by simp [e])) x)
    | some x =>
      have ey : ws[i]? = none := he.resolve_left (by rw [ex]; exact fun z => nomatch z)
      refine nextOf_tuple_item (s := { s with heap := g }) (Z.t1.extBut sg.extBut D.i1z) (Z.a1.extBut sg.extBut D.l1z) ex fun g1 r1 s1 => ?_
      refine nextOf_tuple_end (s := { s with heap := g1 }) hB ((Z.t2.extBut sg.extBut D.i2z).extBut s1.extBut D.i12.symm) ((Z.a2.extBut sg.extBut D.l2z).extBut s1.extBut D.l2i1) ey fun g2 e s2 hs => out { s with heap := g2 } e hs (q g2 fun c o n x => ?_)
      exact s2 _ _ (fun e => n (by simp [e])) (s1.extBut _ _ (fun e => n (by simp [e])) (sg.extBut _ _ (fun e => n (by simp [e])) x))
end
end ZT
/-! part Z2 -/
/-! tuple(zip(a, b)), the reading. -/
namespace ZT
open PySem PySem.Spec PyProof.Rows L2 RZ
open PySem.Sem (wp)
/-- new pairs of the items of xs and ys -/
def Prs (H0 H : Hp) (xs ys zs : List V) (i : Nat) : Prop := zs.length = i ∧ Same H0 H ∧ ∀ (j : Nat) (z : V), zs[j]? = some z → ∃ (T : Addr) (x y : V), z = V.ref T ∧ H0 T = none ∧ H T = some (.tup [x, y]) ∧ xs[j]? = some x ∧ ys[j]? = some y
section
variable {X : Cx} {pins : List (Addr × Obj)} {σ : L2.St}
theorem ne_of_none' {H : Hp} {b p : Addr} {o : HO} (e : H b = some o) (h : H p = none) : b ≠ p := fun z => by
  rw [z, h] at e
  cases e
theorem ext_loop {A : Around} {R : Result → Shared → Prop} (hh : A.handled = none) {z TI TO i1 i2 l1 l2 S : Addr} (D : ZipApart z TI TO i1 i2 l1 l2) (hS7 : S ∉ [z, TI, TO, i1, i2, l1, l2]) {xs ys : List V} {its its2 : List Value} (rv : Vals xs its) (rv2 : Vals ys its2) {n : Nat} (hn : n = min its.length its2.length) (hz : n ≤ 100000)
    {H0 : Hp} (res : Value) : ∀ (k i : Nat) (s : Shared) (H : Hp) (acc : Array Value) (c : Nat) (zs : List V), n - i = k → i ≤ n → ZS z TI TO i1 i2 l1 l2 S its.toArray its2.toArray i s.heap →
    s.heap.get? S = some { cls := .type "list", dict := none, data := .seq acc c, slots := #[] } → Inv X pins σ H s → (∀ b ∈ [z, TO, i1, i2, S], FpOk X pins H b ∧ b < s.heap.objs.size) → Prs H0 H xs ys zs i → Vals zs acc.toList →
    (∀ s' H' acc' c' zs', Inv X pins σ H' s' → s'.heap.get? S = some { cls := .type "list", dict := none, data := .seq acc' c', slots := #[] } → Prs H0 H' xs ys zs' n → Vals zs' acc'.toList → R (.ok (.ret res)) s') →
    codeAny (model X.prog X.w) A (.builtin "list.extend.loop" ⟨[.ref S, .ref z, res], []⟩) R s := by
  have nS : S ∉ [z, TO, i1, i2] := fun m => hS7 (by
    simp only [List.mem_cons, List.not_mem_nil, or_false] at m ⊢
    rcases m with m | m | m | m <;> simp [m])
  intro k
  induction k with
  | zero =>
    intro i s H acc c zs hk hi st hS I hf hp hv hR
    have hin : i = n := by omega
    subst hin
    refine codeAny_builtin F.entry_extend_loop ?_
    rw [Around.under_plainId F.plain_extend_loop _]
    show wpAny _ A.in1 (pyNext (.ref z) >>= _) _ _ s
    have hend : its.toArray[i]? = none ∨ its2.toArray[i]? = none := by
      rcases Nat.le_total its.length its2.length with h | h
      · exact .inl (by rw [List.getElem?_toArray]; exact List.getElem?_eq_none (by omega))
      · exact .inr (by rw [List.getElem?_toArray]; exact List.getElem?_eq_none (by omega))
    refine wpAny_bind (st.stop (A := A.in1) hh D hend fun h' hk => ?_)
    have hf4 : ∀ b ∈ [z, TO, i1, i2], FpOk X pins H b := fun b hb => (hf b (by
      simp only [List.mem_cons, List.not_mem_nil, or_false] at hb ⊢
      rcases hb with q | q | q | q <;> simp [q])).1
    have I1 : Inv X pins σ H { s with heap := h' } := I.turnedL (t' := s.toks) (ch := [z, TO, i1, i2]) hk hf4
    exact wpAny_pure (hR _ H acc c zs I1 (hk S _ nS hS) hp hv)
  | succ k ih =>
    intro i s H acc c zs hk hi st hS I hf hp hv hR
    have hlt : i < n := by omega
    have hx : i < its.length := by omega
    have hy : i < its2.length := by omega
    refine codeAny_builtin F.entry_extend_loop ?_
    rw [Around.under_plainId F.plain_extend_loop _]
    show wpAny _ A.in1 (pyNext (.ref z) >>= _) _ _ s
    have exV : its.toArray[i]? = some its[i] := by rw [List.getElem?_toArray]; exact List.getElem?_eq_getElem hx
    have eyV : its2.toArray[i]? = some its2[i] := by rw [List.getElem?_toArray]; exact List.getElem?_eq_getElem hy
    have hx' : i < xs.length := by rw [rv.length]; exact hx
    have hy' : i < ys.length := by rw [rv2.length]; exact hy
    have ex : xs[i]? = some xs[i] := List.getElem?_eq_getElem hx'
    have ey : ys[i]? = some ys[i] := List.getElem?_eq_getElem hy'
    obtain ⟨u, hu, ru⟩ := rv.get ex
    obtain ⟨u2, hu2, ru2⟩ := rv2.get ey
    obtain rfl : its[i] = u := Option.some.inj ((List.getElem?_eq_getElem hx).symm.trans hu)
    obtain rfl : its2[i] = u2 := Option.some.inj ((List.getElem?_eq_getElem hy).symm.trans hu2)
    refine wpAny_bind (st.item (A := A.in1) hh D (Heap.lt_size hS) exV eyV fun h' st' hpr hsz hk4 => ?_)
    have hS' := hk4 S _ nS hS
    have hf4 : ∀ b ∈ [z, TO, i1, i2], FpOk X pins H b := fun b hb => (hf b (by
      simp only [List.mem_cons, List.not_mem_nil, or_false] at hb ⊢
      rcases hb with q | q | q | q <;> simp [q])).1
    have new : ObjOk X.prog X.w (upd H s.heap.objs.size (.tup [xs[i], ys[i]])) h' s.heap.objs.size (.tup [xs[i], ys[i]]) :=
      ⟨by show 2 ≤ sizeLine; decide, [its[i], its2[i]], .cons ru (.cons ru2 .nil), ⟨_, hpr, rfl, _, rfl⟩⟩
    have I1 : Inv X pins σ (upd H s.heap.objs.size (.tup [xs[i], ys[i]])) { s with heap := h' } := I.turnedNew (t' := s.toks) (ch := [z, TO, i1, i2]) hk4 hf4 (Nat.le_refl _) new
    have hnT : H s.heap.objs.size = none := I.hok.fresh (Nat.le_refl _)
    have hfl : ∀ b ∈ [z, TO, i1, i2, S], FpOk X pins (upd H s.heap.objs.size (.tup [xs[i], ys[i]])) b ∧ b < (h'.update S (Obj.mapSeq (·.push (.ref s.heap.objs.size)))).objs.size := fun b hb => by
      obtain ⟨⟨f0, f1⟩, f2⟩ := hf b hb
      refine ⟨⟨?_, f1⟩, ?_⟩
      · rw [upd_ne (Nat.ne_of_lt f2)]
        exact f0
      · rw [Heap.size_update, hsz]
        exact Nat.lt_succ_of_lt f2
    show wpAny _ A.in1 (updateSeq S (·.push (.ref s.heap.objs.size)) >>= _) _ _ _
    refine wpAny_bind ?_
    have hal : acc.size = i := by
      have q := hv.length
      rw [hp.1, Array.length_toList] at q
      exact q.symm
    have oth : ∀ b o, b ≠ S → h'.get? b = some o → (h'.update S (Obj.mapSeq (·.push (.ref s.heap.objs.size)))).get? b = some o := fun b o hb e => (Heap.get?_update_other _ _ (Ne.symm hb)).trans e
    have fS := (hfl S (by simp)).1
    have I2 : Inv X pins σ (upd H s.heap.objs.size (.tup [xs[i], ys[i]])) { s with heap := h'.update S (Obj.mapSeq (·.push (.ref s.heap.objs.size))) } :=
      Inv.turned (s := { s with heap := h' }) (t' := s.toks) (it := S) I1 oth fS.1 fS.2.1 fS.2.2.2.1 fS.2.2.2.2.1 fS.2.2.2.2.2
    have hp2 : Prs H0 (upd H s.heap.objs.size (.tup [xs[i], ys[i]])) xs ys (zs ++ [.ref s.heap.objs.size]) (i + 1) := by
      obtain ⟨p1, p2, p3⟩ := hp
      refine ⟨by rw [List.length_append, p1]; rfl, fun b o hb => ?_, fun j v hj => ?_⟩
      · rw [upd_ne (ne_of_none' (p2 _ _ hb) hnT)]
        exact p2 _ _ hb
      · by_cases hji : j < zs.length
        · rw [List.getElem?_append_left hji] at hj
          obtain ⟨T, x, y, e1, e2, e3, e4⟩ := p3 j v hj
          exact ⟨T, x, y, e1, e2, by rw [upd_ne (ne_of_none' e3 hnT)]; exact e3, e4⟩
        · rw [List.getElem?_append_right (by omega)] at hj
          have hj0 : j - zs.length = 0 := by
            rcases Nat.eq_zero_or_pos (j - zs.length) with q | q
            · exact q
            · rw [List.getElem?_eq_none (by rw [List.length_singleton]; omega)] at hj
              cases hj
          have hji2 : j = i := by omega
          subst hji2
          rw [hj0] at hj
          cases hj
          exact ⟨_, _, _, rfl, p2.free hnT, upd_same, ex, ey⟩
    refine wpAny_updateSeq hS' rfl (wpAny_pure ⟨plainId_quiet F.plain_extend_loop _, ih (i + 1) _ _ (acc.push (.ref s.heap.objs.size)) _ (zs ++ [.ref s.heap.objs.size]) (by omega) hlt (st'.off hS7 oth) (Heap.get?_update_self _ hS' rfl) I2 hfl hp2 ?_ hR⟩)
      (by rw [hal]; exact Nat.le_trans (Nat.le_of_lt hlt) (Nat.le_trans hz (by decide))) (by show (acc.push _).size ≤ sizeLine + 1; rw [Array.size_push, hal]; exact Nat.succ_le_succ (Nat.le_trans (Nat.le_of_lt hlt) (Nat.le_trans hz (by decide))))
    rw [Array.toList_push]
    exact hv.append (.cons rfl .nil)
end
end ZT
/-! part Z3 -/
/-! Any iterator of a type without a length, made a list of, by the loop that draws from it. -/
namespace ZT
open PySem PySem.Spec PyProof.Rows L2 RZ
open PySem.Sem (wp)
/-- the list that collect fills, new, and touched once -/
abbrev fresh0 (g : Heap) : Heap := g.push { cls := .type "list", data := .seq ([] : List Value).toArray }
abbrev fresh2 (g : Heap) : Heap := ((fresh0 g).update g.objs.size (Obj.mapSeq (·.push Value.none))).update g.objs.size (Obj.mapSeq (·.pop))
theorem fresh0_old {g : Heap} {b : Addr} {o : Obj} (e : g.get? b = some o) : (fresh0 g).get? b = some o := Heap.get?_push_of_some _ e
theorem fresh2_far {g : Heap} {b : Addr} {o : Obj} (n : b ≠ g.objs.size) (e : (fresh0 g).get? b = some o) : (fresh2 g).get? b = some o :=
  (Heap.get?_update_other _ _ n.symm).trans ((Heap.get?_update_other _ _ n.symm).trans e)
theorem fresh2_size (g : Heap) : (fresh2 g).objs.size = g.objs.size + 1 := by rw [Heap.size_update, Heap.size_update, Heap.size_push]
section
variable {prog : Program} {w : World} {A : Around} {E : Value → Shared → Prop} {s : Shared}
theorem collect_by {z : Addr} {T : String} {Q : List Value → Shared → Prop} (d1 : typeLookup (.type T) "__len__" = pure none) (d2 : typeLookup (.type T) "__length_hint__" = pure none) (d3 : (Value.type T == Value.type "list") = false) (d4 : (Value.type T == Value.type "tuple") = false)
    (nz : s.heap.objs.size ≠ z) (zt : ({ s with heap := fresh0 s.heap } : Shared).TypeIs (.ref z) T)
    (self : ∀ (B : Around) (R : Value → Shared → Prop) (F : Value → Shared → Prop), R (.ref z) { s with heap := fresh0 s.heap } → wpAny (model prog w) B (pyIter (.ref z)) R F { s with heap := fresh0 s.heap })
    (loop : ∀ (B : Around) (R : Result → Shared → Prop), B.handled = A.handled → (∃ c, (fresh2 s.heap).get? s.heap.objs.size = some { cls := .type "list", dict := none, data := .seq #[] c, slots := #[] }) →
      (∀ s' acc c, s'.heap.get? s.heap.objs.size = some { cls := .type "list", dict := none, data := .seq acc c, slots := #[] } → Q acc.toList s' → R (.ok (.ret (.ref s.heap.objs.size))) s') →
      codeAny (model prog w) B (.builtin "list.extend.loop" ⟨[.ref s.heap.objs.size, .ref z, .ref s.heap.objs.size], []⟩) R { s with heap := fresh2 s.heap }) :
    wpAny (model prog w) A (collect (.ref z)) Q E s := by
  have same : Builtin.List.listSameRef (.ref s.heap.objs.size) (.ref z) = false := by simp [Builtin.List.listSameRef, nz]
  have at0 : (fresh0 s.heap).get? s.heap.objs.size = some { cls := .type "list", data := .seq ([] : List Value).toArray } := Heap.get?_push_size _ rfl
  have at1 := Heap.get?_update_self (Obj.mapSeq (·.push Value.none)) at0 rfl
  unfold collect
  refine wpAny_bind (wpAny_runValue (codeAny_builtin F.entry_proto_collect (Around.under_plainId F.plain_proto_collect _ ▸ ?_)))
  show wpAny _ A.in1 (newList [] >>= fun l => again (.builtin "list.__iadd__" ⟨[l, .ref z], []⟩)) _ _ s
  refine wpAny_bind (wpAny_newObj_type (wpAny_pure ⟨plainId_quiet F.plain_list_iadd _, codeAny_builtin F.entry_list_iadd (Around.under_plainId F.plain_list_iadd _ ▸ ?_)⟩))
  show wpAny _ A.in1 (Builtin.List.listExtendWith (.ref s.heap.objs.size) (.ref z) (.ref s.heap.objs.size)) _ _ _
  rw [Builtin.List.listExtendWith]
  refine wpAny_bind (wpAny_typeOf zt ?_)
  simp only [same, d3, d4, Bool.or_false, Bool.false_eq_true, if_false]
  refine wpAny_bind (self _ _ _ (wpAny_bind (wpAny_holding ?_)))
  rw [Builtin.List.listLengthHint]
  refine wpAny_bind (wpAny_specialOf zt d1 ?_)
  show wpAny _ A.in1 (specialOf (Value.ref z) (Str.ofString "__length_hint__") >>= _) _ _ _
  refine wpAny_bind (wpAny_specialOf zt d2 (wpAny_pure ?_))
  show wpAny _ A.in1 (rule "list.extend.makes-room" >>= fun _ => Builtin.List.listTouch _ >>= fun _ => again (.builtin "list.extend.loop" ⟨[_, .ref z, _], []⟩)) _ _ _
  refine wpAny_bind (wpAny_rule (wpAny_bind ?_))
  show wpAny _ A.in1 (updateSeq _ (·.push .none) >>= fun _ => updateSeq _ (·.pop)) _ _ _
  refine wpAny_bind (wpAny_updateSeq at0 rfl (wpAny_updateSeq at1 rfl (wpAny_pure ⟨plainId_quiet F.plain_extend_loop _, loop A _ rfl ⟨_, Heap.get?_update_self (Obj.mapSeq (·.pop)) at1 rfl⟩ fun s' acc c e q => ?_⟩)))
  show wpAny _ A (load s.heap.objs.size >>= _) _ _ s'
  exact wpAny_bind (wpAny_load e (wpAny_pure q))
end
end ZT
/-! part Z4 -/
/-! tuple(zip(a, b)) of two tuples: new pairs in a new tuple. -/
namespace ZT
open PySem PySem.Spec PyProof.Rows L2 RZ
open PySem.Sem (wp)
section
variable {prog : Program} {w : World} {A : Around} {E : Value → Shared → Prop} {s : Shared}
/-- tuple(z), z a zip, by what collect makes of it -/
theorem tuple_by {z : Addr} {P : List Value → Shared → Prop} {Q : Value → Shared → Prop} (zt : s.TypeIs (.ref z) "zip") (col : ∀ (B : Around) (R : List Value → Shared → Prop) (F : Value → Shared → Prop), B.handled = A.handled → (∀ l s', P l s' → R l s') → wpAny (model prog w) B (collect (.ref z)) R F s)
    (sz : ∀ l s', P l s' → l.length ≤ sizeLine) (h : ∀ l s', P l s' → Q (.ref s'.heap.objs.size) { s' with heap := s'.heap.push { cls := .type "tuple", data := .seq l.toArray } }) : wpAny (model prog w) A (call (.type "tuple") [.ref z]) Q E s := by
  refine callType_codes (Q₁ := fun v sv => sv.TypeIs v "tuple" ∧ Q v sv) F.called_tuple (F.typeCall_tuple_1 _) F.entry_object_init (codeAny_of_tree ?_) fun v sv hv =>
    ⟨hv.1, F.args_object_init_2 v _, object_init_meets F.called_tuple.init.lookup F.called_tuple.made (by decide) prog w A.in1 _ sv ⟨hv.1, rfl, hv.2⟩⟩
  show wpAny _ A.in1.in1 (do checkBuiltinCall "tuple.__new__" ⟨[.type "tuple", .ref z], []⟩; again (.builtin "tuple.__new__" ⟨[.type "tuple", .ref z], []⟩)) _ _ s
  refine wpAny_bind (wpAny_of_eq (F.newCall_tuple_1 _) (wpAny_pure ⟨plainId_quiet F.plain_tuple_new _, codeAny_builtin F.entry_tuple_new ?_⟩))
  rw [Around.under_plainId F.plain_tuple_new]
  have c1 := sub_tuple_self
  have c2 := init_tuple_lookup
  have c3 := madeHere_tuple
  have col1 := col A.in1.in1
  wp_walk using wpAny_typeOf zt, col1 _ _ rfl
  intro l s' p
  show wpAny _ _ (Builtin.Tuple.tupleExact l.toArray >>= fun v => ret v) _ _ _
  rw [Builtin.Tuple.tupleExact]
  exact wpAny_bind (wpAny_newObj_type (wpAny_pure ⟨⟨_, Heap.get?_push_size _ rfl, rfl⟩, h l s' p⟩) (by show l.toArray.size ≤ sizeLine; rw [List.size_toArray]; exact sz l s' p))
end
section
variable {X : Cx}
def tTZ (K : PySem.W.Frag) (ta : TA) : TE := fun σ H Q => ta σ H fun vs H1 => ∃ a b xs ys, vs = [V.ref a, V.ref b] ∧ SqT K H1 a xs ∧ SqT K H1 b ys ∧ xs.length ≤ 1000 ∧
  ∀ zs H2 p, Prs H1 H2 xs ys zs (min xs.length ys.length) → H2 p = none → Q (V.ref p) (upd H2 p (.tup zs))
theorem mem5 {n b : Nat} (h : b ∈ [n + 4, n + 3, n, n + 1]) : n ≤ b ∧ b < n + 5 := by
  simp only [List.mem_cons, List.not_mem_nil, or_false] at h
  omega
theorem far5 {n m a b : Nat} (e : m = n + 5) (ha : a < n) (hb : b < n) : m ∉ [n + 4, n + 2, n + 3, n, n + 1, a, b] := by
  simp only [List.mem_cons, List.not_mem_nil, or_false, not_or]
  omega
theorem pe_tupZip {e e2 : Expr} {ta : TA} {p pos p2 pos2 : Pos} (hc : X.calm = true) (hg : Gl X "tuple") (hm : X.mg "tuple" = none) (hg2 : Gl X "zip") (hm2 : X.mg "zip" = none) (ha : PA X [e, e2] ta)
    (na : starEach [Expr.Call (.Name "zip" p2) [e, e2] [] pos2] X.env = (false, eval (.Call (.Name "zip" p2) [e, e2] [] pos2) X.env) :: starEach [] X.env := by rfl)
    (hs : starEach [e, e2] X.env = (false, eval e X.env) :: starEach [e2] X.env := by rfl) (hpl : (backTo pos2 (starEach [e2] X.env)).any (·.1) = false := by rfl) :
    PE X (.Call (.Name "tuple" p) [.Call (.Name "zip" p2) [e, e2] [] pos2] [] pos) (tTZ X.K ta) := by
  constructor
  intro pins s σ H Q I h
  refine Call_ (ld_blt I hg hm PyProof.Rows.boot_tuple (PyProof.Rows.callWith_type1 (args_cons (Call_ (ld_blt I hg2 hm2 PyProof.Rows.boot_zip (PyProof.Rows.callWith_type1 (thn (ha.run pos2 pins s σ H _ I h) fun us s1 hu => ?_) hs hpl))) na) na))
  obtain ⟨vs, H1, I1, r1, a, b, xs, ys, rfl, qx, qy, hl, q⟩ := hu
  obtain ⟨ua, r1', rfl, ra, r2⟩ : ∃ ua r, us = ua :: r ∧ RelV (V.ref a) ua ∧ Vals [V.ref b] r := by cases r1 with | cons u v => exact ⟨_, _, rfl, u, v⟩
  obtain ⟨ub, rfl, rb⟩ := vals1 r2
  obtain rfl : ua = Value.ref a := ra
  obtain rfl : ub = Value.ref b := rb
  obtain ⟨ia, va, pa, _⟩ := I1.tuple qx
  obtain ⟨ib, vb, pb, _⟩ := I1.tuple qy
  have la : a < s1.heap.objs.size := let ⟨_, x, _⟩ := pa; Heap.lt_size x
  have lb : b < s1.heap.objs.size := let ⟨_, x, _⟩ := pb; Heap.lt_size x
  have ta1 : s1.heap.IsTuple a ia.toArray := pa
  have tb1 : s1.heap.IsTuple b ib.toArray := pb
  refine call_zipT ta1 tb1 fun g zn pr to t1 t2 sz up => args_nil ?_
  have D := PySem.W.ktu_apart s1.heap.objs.size a b la lb
  have Ig := I1.kept (t' := s1.toks) up
  have fp : ∀ c, s1.heap.objs.size ≤ c → FpOk X pins H1 c := fun c hc => I1.fpOk hc (I1.hok.fresh hc)
  have Ifr := Ig.kept (t' := s1.toks) (h' := fresh0 g) fun _ _ => fresh0_old
  have zg : IsZip (fresh0 g) (s1.heap.objs.size + 4) (s1.heap.objs.size + 2) (s1.heap.objs.size + 3) .none := fresh0_old zn
  have keepn : g.objs.size ∉ [s1.heap.objs.size + 4, s1.heap.objs.size + 2, s1.heap.objs.size + 3, s1.heap.objs.size, s1.heap.objs.size + 1, a, b] := far5 sz la lb
  have Z0 : ZS (s1.heap.objs.size + 4) (s1.heap.objs.size + 2) (s1.heap.objs.size + 3) s1.heap.objs.size (s1.heap.objs.size + 1) a b g.objs.size ia.toArray ib.toArray 0 (fresh0 g) :=
    ⟨fresh0_old pr, t1.at fun o => fresh0_old, t2.at fun o => fresh0_old, ta1.at fun o e => fresh0_old (up _ _ e), tb1.at fun o e => fresh0_old (up _ _ e), .inl ⟨zg, _, _, fresh0_old to⟩⟩
  have fK : FpOk X pins H1 g.objs.size := fp _ (by omega)
  have I2 : Inv X pins σ H1 { s1 with heap := fresh2 g } := Inv.turned (s := { s1 with heap := fresh0 g }) (t' := s1.toks) (it := g.objs.size) Ifr (fun _ _ => fresh2_far) fK.1 fK.2.1 fK.2.2.2.1 fK.2.2.2.2.1 fK.2.2.2.2.2
  refine tuple_by (s := { s1 with heap := g }) (P := fun l s' => ∃ H' zs, Inv X pins σ H' s' ∧ Prs H1 H' xs ys zs (min xs.length ys.length) ∧ Vals zs l) ⟨_, zn, rfl⟩ (fun B R F hB out => ?_) (fun l s' hp => ?_) fun l s' hp => ?_
  · refine collect_by (s := { s1 with heap := g }) zip_len zip_hint (by decide) (by decide) (fun e => keepn (by simp [e])) ⟨_, zg, rfl⟩ (fun B' R' F' hr => wpAny_pyIter_zip zg hr) fun B' R' hB' ⟨c, ec⟩ fin => ?_
    refine ext_loop (hB'.trans (hB.trans (I.ok.hd hc))) D keepn va vb rfl (by rw [← va.length, ← vb.length]; omega) _ _ 0 _ H1 #[] c [] rfl (Nat.zero_le _) (Z0.off keepn fun _ _ => fresh2_far) ec I2 (fun x hx => ?_) ⟨rfl, fun _ _ z => z, fun j v hj => nomatch hj⟩ .nil fun s' H' acc c' zs I' e' hp hv => fin s' acc c' e' (out _ s' ⟨H', zs, I', by rw [va.length, vb.length]; exact hp, hv⟩)
    show FpOk X pins H1 x ∧ x < (fresh2 g).objs.size
    rw [fresh2_size]
    rcases List.mem_append.mp (show x ∈ [s1.heap.objs.size + 4, s1.heap.objs.size + 3, s1.heap.objs.size, s1.heap.objs.size + 1] ++ [g.objs.size] from hx) with hx | hx
    · obtain ⟨x1, x2⟩ := mem5 hx
      exact ⟨fp x x1, Nat.lt_of_lt_of_le x2 (by show s1.heap.objs.size + 5 ≤ g.objs.size + 1; rw [sz]; exact Nat.le_succ _)⟩
    · rw [List.mem_singleton.mp hx]
      exact ⟨fK, Nat.lt_succ_self _⟩
  · obtain ⟨H', zs, _, p1, p2⟩ := hp
    rw [← p2.length, p1.1]
    exact Nat.le_trans (Nat.le_trans (Nat.min_le_left _ _) hl) (by decide)
  · obtain ⟨H', zs, I', p1, p2⟩ := hp
    have lz : zs.length ≤ sizeLine := by
      rw [p1.1]
      exact Nat.le_trans (Nat.le_trans (Nat.min_le_left _ _) hl) (by decide)
    have tup : ObjOk X.prog X.w (upd H' s'.heap.objs.size (.tup zs)) (s'.heap.push { cls := .type "tuple", data := .seq l.toArray }) s'.heap.objs.size (.tup zs) := ⟨lz, l, p2, IsTup.new _ _⟩
    exact ⟨V.ref s'.heap.objs.size, _, I'.laid (t' := s'.toks) (fun b o e => Heap.get?_push_of_some _ e) (Nat.le_refl _) tup, rfl, q zs H' _ p1 (I'.hok.fresh (Nat.le_refl _))⟩
end
end ZT
/-! part C3 -/
/-! Slices and sums of tuples; a def without arguments. -/
namespace TX
open PySem PySem.Spec PyProof.Rows L2 NT RW4
def rSlQ : V → Option Int → Option Int → Hp → VK → Prop := fun x lo hi H Q => ∃ (a : Addr) (xs : List V), x = .ref a ∧ H a = some (.tup xs) ∧ ∀ p H', Same H H' → H' p = some (.tup (cutV xs lo hi)) → Q (.ref p) H'
theorem sl_tupQ {X : Cx} : SlR X rSlQ := by
  intro pins s σ H x v vl vu lo hi sl Q I rx hs pl pu h
  obtain ⟨a, xs, rfl, ha, q⟩ := h
  refine sl_tupA pins s σ H _ v vl vu lo hi sl Q I rx hs pl pu ⟨a, xs, rfl, .inl (.inl ha), fun hw => q a H (fun _ _ z => z) ?_, fun _ p hp => q p _ (same_new hp) upd_same⟩
  rw [ha]
  unfold cutV
  rw [hw.1, hw.2, List.drop_zero, Nat.sub_zero, List.take_length]
def rCatQ : R2 := fun x y H Q => ∃ (a b : Addr) (xs ys : List V), x = .ref a ∧ y = .ref b ∧ H a = some (.tup xs) ∧ H b = some (.tup ys) ∧ xs.length + ys.length ≤ sizeLine ∧ ∀ p H', Same H H' → H' p = some (.tup (xs ++ ys)) → Q (.ref p) H'
theorem op_catQ {X : Cx} : OpR X (binaryOp .Add) rCatQ := by
  intro pins s σ H x y v u Q I rx ry h
  obtain ⟨a, b, xs, ys, rfl, rfl, ha, hb, hz, q⟩ := h
  refine op_catA pins s σ H _ _ v u Q I rx ry ⟨a, b, xs, ys, rfl, rfl, .inl (.inl ha), .inl (.inl hb), hz, fun e => q b H (fun _ _ z => z) ?_, fun _ e => q a H (fun _ _ z => z) ?_, fun _ _ p hp => q p _ (same_new hp) upd_same⟩
  · rw [e]
    exact hb
  · rw [e, List.append_nil]
    exact ha
section
variable {X : Cx} {CX : CXT} {j k : Nat} {ps : List Str} {sp : Sp} {E : XK} {x : Str} {p pos : Pos}
theorem pe_dG0 (D : OkG X.prog X.w X.K X.mg X.base CX k x ps sp) (hgd : X.A.guards = some []) (hr : Room j X.A) (hx : Passes CX X E) (hjk : k ≤ j := by decide) (hg : Gl X x := by rfl) (hdb : (x == ("__debug__" : Str)) = false := by decide) :
    PE X (.Call (.Name x p) [] [] pos) (tCall sp [] E tNil) := by
  obtain ⟨f, fd, F, hm, hk, hb⟩ := D
  refine ⟨fun pins s σ H Q I h => wpAny_Call_Name_kw (ld_glob I hg hm ?_ hdb)⟩
  refine PySem.W.callWith_K0 I.kIn hk ?_
  replace h : sp ([] ++ []) H Q E := h
  have hl : ([] : List Value).length = ps.length := F.len _ _ _ _ h
  have hb2 := hb s [] I.kIn (by rw [List.append_nil]; exact hl)
  refine wpAny_call (codeAny_mono (F.run X.A X.stack s H ⟨[] ++ [], []⟩ [] [] Q E hgd (hr.mono hjk) I.env0 hb2 .nil h) fun res s' hq => ?_)
  match res, hq with
  | .error er, hq => exact hx pins σ H s er s' I hq
  | .ok (.ret u), hq => exact I.after hq
end
end TX
/-! part C4 -/
/-! The law's rows: cells, weights, joins. -/
namespace TX
open PySem PySem.Spec PyProof.Rows L2 NT RW4 ZT
theorem lc_tupE {K : PySem.W.Frag} {t te : TE} {g : TG} {tt : TT} {vs : List Nat} {σ : L2.St} {H : Hp} {Q : VK} (h : t σ H fun x H1 => ∃ a, x = .ref a ∧ (∃ xs, SqT K H1 a xs) ∧ tLc (fun _ H R => R (Itt K a) H) g tt te vs σ H1 Q) : tLc (iTup K t) g tt te vs σ H Q := h
theorem for_tupE {K : PySem.W.Frag} {t : TE} {g : TG} {tb : TS} {En : Ends} {σ : L2.St} {H : Hp} (h : t σ H fun x H1 => ∃ a, x = .ref a ∧ (∃ xs, SqT K H1 a xs) ∧ tFor (fun _ H R => R (Itt K a) H) g tb En σ H1) : tFor (iTup K t) g tb En σ H := h
theorem tz_in {K : PySem.W.Frag} {ta : TA} {σ : L2.St} {H : Hp} {Q : VK} (h : ta σ H fun vs H1 => ∃ a b xs ys, vs = [V.ref a, V.ref b] ∧ SqT K H1 a xs ∧ SqT K H1 b ys ∧ xs.length ≤ 1000 ∧ ∀ zs H2 p, Prs H1 H2 xs ys zs (min xs.length ys.length) → H2 p = none → Q (V.ref p) (upd H2 p (.tup zs))) : tTZ K ta σ H Q := h
theorem cut_to (xs : List V) (k : Nat) : cutV xs none (some (k : Int)) = xs.take k := by
  unfold cutV
  rw [HT.sIx_none, HT.sIx_nat, List.drop_zero, Nat.sub_zero]
  rcases Nat.le_total k xs.length with h | h
  · rw [Nat.min_eq_left h]
  · rw [Nat.min_eq_right h, List.take_length, List.take_of_length_le h]
theorem cut_from (xs : List V) (k : Nat) : cutV xs (some (k : Int)) none = xs.drop k := by
  unfold cutV
  rw [HT.sIx_none, HT.sIx_nat]
  rcases Nat.le_total k xs.length with h | h
  · rw [Nat.min_eq_left h, List.take_of_length_le (by rw [List.length_drop]; exact Nat.le_refl _)]
  · rw [Nat.min_eq_right h, List.drop_length, List.drop_of_length_le h, List.take_nil]
theorem okC_mk {x y : Int} (hx : x.natAbs < 10 ^ 9) (hy : y.natAbs < 10 ^ 9) : okI fC [x, y] := by
  have z : (122 : Nat) ≠ 110 := by decide
  unfold okI
  rw [if_pos (.inl rfl)]
  refine ⟨x, _, rfl, ⟨hx, fun q => absurd q z⟩, ?_⟩
  unfold okI
  rw [if_neg (by unfold isN; decide)]
  unfold okI
  rw [if_pos (.inl rfl)]
  refine ⟨y, _, rfl, ⟨hy, fun q => absurd q z⟩, ?_⟩
  unfold okI
  rfl
theorem okW_mk {x y n : Int} (hx : x.natAbs < 10 ^ 9) (hy : y.natAbs < 10 ^ 9) (hn : n.natAbs < 10 ^ 9) (h0 : 0 ≤ n) : okI fW [x, y, n] := by
  have z : (122 : Nat) ≠ 110 := by decide
  unfold okI
  rw [if_pos (.inl rfl)]
  refine ⟨x, _, rfl, ⟨hx, fun q => absurd q z⟩, ?_⟩
  unfold okI
  rw [if_neg (by unfold isN; decide)]
  unfold okI
  rw [if_pos (.inl rfl)]
  refine ⟨y, _, rfl, ⟨hy, fun q => absurd q z⟩, ?_⟩
  unfold okI
  rw [if_neg (by unfold isN; decide)]
  unfold okI
  rw [if_pos (.inr (.inl rfl))]
  refine ⟨n, _, rfl, ⟨hn, fun _ => h0⟩, ?_⟩
  unfold okI
  rfl
theorem okJ_mk {x y u v : Int} (hx : x.natAbs < 10 ^ 9) (hy : y.natAbs < 10 ^ 9) (hu : u.natAbs < 10 ^ 9) (hv : v.natAbs < 10 ^ 9) : okI fJ [x, y, u, v] := by
  have z : (122 : Nat) ≠ 110 := by decide
  unfold okI
  rw [if_pos (.inl rfl)]
  refine ⟨x, _, rfl, ⟨hx, fun q => absurd q z⟩, ?_⟩
  unfold okI
  rw [if_neg (by unfold isN; decide)]
  unfold okI
  rw [if_pos (.inl rfl)]
  refine ⟨y, _, rfl, ⟨hy, fun q => absurd q z⟩, ?_⟩
  unfold okI
  rw [if_neg (by unfold isN; decide)]
  unfold okI
  rw [if_pos (.inl rfl)]
  refine ⟨u, _, rfl, ⟨hu, fun q => absurd q z⟩, ?_⟩
  unfold okI
  rw [if_neg (by unfold isN; decide)]
  unfold okI
  rw [if_pos (.inl rfl)]
  refine ⟨v, _, rfl, ⟨hv, fun q => absurd q z⟩, ?_⟩
  unfold okI
  rfl
theorem Src.dom {H : Hp} {d c : Addr} (S : Src H d c) : ∀ b, DC d c b → H b ≠ none := fun b z e => S.off e z
theorem smC_C {a : List Int} (h : smC a) : okI fC a := by
  obtain ⟨x, y, rfl, hx, hy⟩ := h
  exact okC_mk (Nat.lt_of_le_of_lt hx (by decide)) (Nat.lt_of_le_of_lt hy (by decide))
/-- a tuple of rows, off the source -/
def Row (d c : Addr) (H : Hp) (dd : List Int → PyData) (form : List Nat) (p : Addr) : Prop := ∃ (xs : List V) (l : List (List Int)), H p = some (.tup xs) ∧ ¬ DC d c p ∧ AtL (DC d c) H (l.map dd) xs ∧ l.length ≤ 8 ∧ ∀ a ∈ l, okI form a
theorem Row.kp {d c : Addr} {H H' : Hp} {dd : List Int → PyData} {form : List Nat} {p : Addr} (h : Row d c H dd form p) (k : Kp (DC d c) H H') : Row d c H' dd form p := by
  obtain ⟨xs, l, h1, h2, h3, h4, h5⟩ := h
  exact ⟨xs, l, k _ _ h1 h2, h2, h3.kp k, h4, h5⟩
local macro_rules | `(tactic| walk_at "go") => `(tactic| simp only [L2.start, List.map_cons, List.map_nil, List.length_cons, List.length_nil, Nat.reduceSub, Nat.reduceAdd, List.replicate_succ, List.replicate_zero, List.cons_append, List.nil_append, List.append_nil,
  tSeq, tNext, tRet, tIfS, tTest, tAnd, tOr, tNot, tCB, tCall, tCons, tNil, tVar, tC, tOp, tUn, tAsg, gName, rI0, rI, CMul, CDiv, tDGet, sDPut, tBM0, tBM, tTup, tLst, tPar, tPar3, gTup, gNil, gCons, tIf, tAug, tRevL, tDisp, tPairs, tYes, wipe, tDrop, L2.tSl, tNotV, tAndV, tOrV, tB, rSlS, ipI, tNoPart, NdefX.startF, tOst, tMkO, rIxL, rIxT, rIxS, rAppend, rExtend, rPop, rSlL, rSetL, tPart, rEq, rNe, tFmt, tJn, tJs, tFi, gLst, tThen, tIf, rS, rNIS, rRep, tThenZ, kLstS, rIS, cRi, rSortedP, rLn, rPopAt, tCallS, ↓reduceIte, L2.gSub, ↓reduceIte,
  List.getElem?_cons_zero, List.getElem?_cons_succ, List.set_cons_zero, List.set_cons_succ, Option.some.injEq, V.int.injEq, V.str.injEq, V.ref.injEq, V.bl.injEq, exists_eq_left, exists_eq_left', exists_eq_right, exists_eq_right', exists_eq', true_and, and_true, decide_eq_true_eq, List.cons.injEq, reduceCtorEq, false_and, false_or, or_false, exists_false, exists_and_left, exists_and_right, and_assoc])
section
variable {K : PySem.W.Frag} {σ : L2.St} {H : Hp} {Q : VK} {d c p : Addr}
/-- [(x * unit, y) for x, y in lot[:6] + lot[:2]] -/
theorem r_cells {s0 s2 s3 s6 s7 s8 s9 s10 s11 s12 s13 : Option V} {U : Int} (hU : U = 1 ∨ U = 10 ^ 7) {xs : List V} {l : List (List Int)} (S : Src H d c) (ep : H p = some (.tup xs)) (hx : AtL (DC d c) H (l.map dC) xs) (hl : ∀ a ∈ l, smC a)
    (q : ∀ (D : Addr) (us : List V) (H' : Hp) (l2 : List (List Int)), Same H H' → H D = none → H' D = some (.lst us) → AtL (DC d c) H' (l2.map dC) us → us.length ≤ 8 → (∀ a ∈ l2, okI fC a) → Q (.ref D) H') :
    tLc (iTup K (tOp rCatQ (tSl rSlQ (tVar 4) tNoPart (tPart (tC (V.int 6)))) (tSl rSlQ (tVar 4) tNoPart (tPart (tC (V.int 2)))))) (gTup K 2 (gCons (gName 12) (gCons (gName 13) gNil))) tYes
      (tTup (tCons (tOp (rI CMul fun i j => V.int (i * j)) (tVar 12) (tVar 5)) (tCons (tVar 13) tNil))) [12, 13]
      [s0, some (.ref d), s2, s3, some (.ref p), some (.int U), s6, s7, s8, s9, s10, s11, s12, s13] H Q := by
  refine lc_tupE ?_
  walk_at "go"
  refine ⟨p, xs, rfl, ep, fun q1 H6 s6 e6 => ⟨p, xs, rfl, s6 _ _ ep, fun q2 H7 s7 e7 => ⟨q1, q2, _, _, rfl, rfl, s7 _ _ e6, e7, ?_, fun q3 H8 s8 e8 => ⟨q3, rfl, ⟨_, .inl (.inl e8)⟩, ?_⟩⟩⟩⟩
  · rw [show cutV xs none (some 6) = xs.take 6 from cut_to xs 6, show cutV xs none (some 2) = xs.take 2 from cut_to xs 2, List.length_take, List.length_take]
    exact small_sz (m := 100) (by omega) (by decide)
  rw [show cutV xs none (some 6) = xs.take 6 from cut_to xs 6, show cutV xs none (some 2) = xs.take 2 from cut_to xs 2] at e8
  have s678 := (s6.trans s7).trans s8
  have hX : AtL (DC d c) H8 ((l.take 6 ++ l.take 2).map dC) (xs.take 6 ++ xs.take 2) := by
    rw [List.map_append, List.map_take, List.map_take]
    exact ((hx.take 6).append (hx.take 2)).kp (Kp.of_same s678)
  have hL : ∀ a ∈ l.take 6 ++ l.take 2, smC a := fun a ha => hl a (by
    rcases List.mem_append.mp ha with ha | ha
    · exact List.mem_of_mem_take ha
    · exact List.mem_of_mem_take ha)
  have hlen : (xs.take 6 ++ xs.take 2).length ≤ 8 := by
    rw [List.length_append, List.length_take, List.length_take]
    omega
  generalize xs.take 6 ++ xs.take 2 = ys at *
  generalize l.take 6 ++ l.take 2 = l1 at *
  have lx := hX.length
  rw [List.length_map] at lx
  have S8 := S.same s678
  intro D hD
  refine lc_it (walk_tup (xs := ys)) (fun i H' => Same H8 H' ∧ ∃ (us : List V) (l2 : List (List Int)), H' D = some (.lst us) ∧ AtL (fun b => DC d c b ∨ b = D) H' (l2.map dC) us ∧ us.length = i ∧ ∀ a ∈ l2, okI fC a) ⟨same_new hD, [], [], upd_same, atl_nil, rfl, fun _ z => nomatch z⟩ (fun i H' _ z => .inl (.inl (z.1 _ _ e8))) ?_ ?_
  · rintro i xv Ha Hb hi ⟨sa, us, l2, eD, hus, lus, hl2⟩ ⟨rfl, hxv⟩
    have hi1 : i < l1.length := by omega
    obtain ⟨u, hu1, hu2⟩ := hX.get (i := i) (by rw [List.getElem?_map, List.getElem?_eq_getElem hi1]; rfl)
    rw [hxv] at hu1
    cases hu1
    obtain ⟨x, y, exy, hx1, hy1⟩ := hL _ (List.getElem_mem hi1)
    rw [exy] at hu2
    obtain ⟨t, ts, rfl, _, et, hts⟩ := (hu2.kp (Kp.of_same sa)).tup
    obtain ⟨v1, r1, rfl, b1, hts⟩ := hts.cons
    obtain ⟨v2, r2, rfl, b2, hts⟩ := hts.cons
    obtain rfl := hts.nil
    obtain rfl := b1.int
    obtain rfl := b2.int
    walk_at "go"
    have hxU : (x * U).natAbs < 10 ^ 9 := by
      rcases hU with rfl | rfl
      · rw [Int.mul_one]
        omega
      · have : ((10 : Int) ^ 7) = 10000000 := by decide
        rw [this]
        omega
    refine ⟨_, .inl (.inl et), rfl, _, _, rfl, _, _, rfl, rfl, x, rfl, .inl ⟨by omega, by omega⟩, by decide, fun p3 hp3 => ⟨us, ?_, ?_, fun b o hb => ?_, us ++ [.ref p3], upd_same, l2 ++ [[x * U, y]], ?_, ?_, ?_⟩⟩
    · exact same_new hp3 _ _ eD
    · rw [lus]
      exact small_lt (m := 100) (by omega) (by decide)
    · rw [upd_ne (ne_of_none hb hD)]
      exact same_new hp3 _ _ (sa _ _ hb)
    · have pD : p3 ≠ D := (ne_of_none eD hp3).symm
      have s5 : Same Hb (upd Hb p3 (.tup [.int (x * U), .int y])) := same_new hp3
      rw [List.map_append]
      exact ((hus.kp (Kp.of_same s5)).kp (Kp.upd_in (.inr rfl))).snoc (at_tup (fun z => z.elim (fun z => (S8.same sa).off hp3 z) pD) (by rw [upd_ne pD]; exact upd_same) (atl_cons at_int (atl_cons at_int atl_nil)))
    · rw [List.length_append, lus]
      rfl
    · intro a ha
      rcases List.mem_append.mp ha with ha | ha
      · exact hl2 a ha
      · rw [List.mem_singleton.mp ha]
        exact okC_mk hxU (Nat.lt_of_le_of_lt hy1 (by decide))
  · rintro Ha ⟨sa, us, l2, eD, hus, lus, hl2⟩
    exact q D us Ha l2 (s678.trans sa) (s678.free hD) eD (hus.off fun b o _ z => .inl z) (by omega) hl2
end
end TX
/-! part C5 -/
/-! The law's rows: weights, joins. -/
namespace TX
open PySem PySem.Spec PyProof.Rows L2 NT RW4 ZT
local macro_rules | `(tactic| walk_at "go") => `(tactic| simp only [L2.start, List.map_cons, List.map_nil, List.length_cons, List.length_nil, Nat.reduceSub, Nat.reduceAdd, List.replicate_succ, List.replicate_zero, List.cons_append, List.nil_append, List.append_nil,
  tSeq, tNext, tRet, tIfS, tTest, tAnd, tOr, tNot, tCB, tCall, tCons, tNil, tVar, tC, tOp, tUn, tAsg, gName, rI0, rI, CMul, CDiv, tDGet, sDPut, tBM0, tBM, tTup, tLst, tPar, tPar3, gTup, gNil, gCons, tIf, tAug, tRevL, tDisp, tPairs, tYes, wipe, tDrop, L2.tSl, tNotV, tAndV, tOrV, tB, rSlS, ipI, tNoPart, NdefX.startF, tOst, tMkO, rIxL, rIxT, rIxS, rAppend, rExtend, rPop, rSlL, rSetL, tPart, rEq, rNe, tFmt, tJn, tJs, tFi, gLst, tThen, tIf, rS, rNIS, rRep, tThenZ, kLstS, rIS, cRi, rSortedP, rLn, rPopAt, tCallS, ↓reduceIte, L2.gSub, ↓reduceIte,
  List.getElem?_cons_zero, List.getElem?_cons_succ, List.set_cons_zero, List.set_cons_succ, Option.some.injEq, V.int.injEq, V.str.injEq, V.ref.injEq, V.bl.injEq, exists_eq_left, exists_eq_left', exists_eq_right, exists_eq_right', exists_eq', true_and, and_true, decide_eq_true_eq, List.cons.injEq, reduceCtorEq, false_and, false_or, or_false, exists_false, exists_and_left, exists_and_right, and_assoc])
section
variable {K : PySem.W.Frag} {σ : L2.St} {H : Hp} {Q : VK} {d c p : Addr}
/-- [(cell, pick(source, 40) * unit) for cell in cells[:5]] -/
theorem r_weights {s0 s2 s3 s4 s7 s8 s9 s10 s11 s12 s13 : Option V} {U : Int} (hU : U = 1 ∨ U = 10 ^ 7) (S : Src H d c) (hr : Row d c H dC fC p)
    (q : ∀ (D : Addr) (us : List V) (H' : Hp) (l2 : List (List Int)), Kp (DC d c) H H' → Src H' d c → H D = none → H' D = some (.lst us) → AtL (DC d c) H' (l2.map dW) us → us.length ≤ 8 → (∀ a ∈ l2, okI fW a) → Q (.ref D) H') :
    tLc (iTup K (tSl rSlQ (tVar 6) tNoPart (tPart (tC (V.int 5))))) (gName 11) tYes
      (tTup (tCons (tVar 11) (tCons (tOp (rI CMul fun i j => V.int (i * j)) (tCall spPick [] E0 (tCons (tVar 1) (tCons (tC (.int 40)) tNil))) (tVar 5)) tNil))) [11]
      [s0, some (.ref d), s2, s3, s4, some (.int U), some (.ref p), s7, s8, s9, s10, s11, s12, s13] H Q := by
  obtain ⟨xs, l, ep, np, hx, hl8, hl⟩ := hr
  refine lc_tupE ?_
  walk_at "go"
  refine ⟨p, xs, rfl, ep, fun q1 H1 s1 e1 => ⟨q1, rfl, ⟨_, .inl (.inl e1)⟩, ?_⟩⟩
  rw [show cutV xs none (some 5) = xs.take 5 from cut_to xs 5] at e1
  have hX : AtL (DC d c) H1 ((l.take 5).map dC) (xs.take 5) := by
    rw [List.map_take]
    exact (hx.take 5).kp (Kp.of_same s1)
  have hL : ∀ a ∈ l.take 5, okI fC a := fun a ha => hl a (List.mem_of_mem_take ha)
  have hlen : (xs.take 5).length ≤ 8 := by
    rw [List.length_take]
    omega
  generalize xs.take 5 = ys at *
  generalize l.take 5 = l1 at *
  have lx := hX.length
  rw [List.length_map] at lx
  have S1 := S.same s1
  have n1 : ¬ DC d c q1 ∨ ys = [] := by
    by_cases z : DC d c q1
    · exfalso
      obtain ⟨ss, hs, _⟩ := S1
      rcases z with z | z
      · rw [z, hs.dd] at e1
        cases e1
      · rw [z, hs.cc] at e1
        cases e1
    · exact .inl z
  have n1 : ¬ DC d c q1 := fun z => by
    obtain ⟨ss, hs, _⟩ := S1
    rcases z with z | z
    · rw [z, hs.dd] at e1
      cases e1
    · rw [z, hs.cc] at e1
      cases e1
  intro D hD
  have dD : ¬ DC d c D := S1.off hD
  refine lc_it (walk_tup (xs := ys)) (fun i H' => Kp (DC d c) H1 H' ∧ Src H' d c ∧ ∃ (us : List V) (l2 : List (List Int)), H' D = some (.lst us) ∧ AtL (fun b => DC d c b ∨ b = D) H' (l2.map dW) us ∧ us.length = i ∧ ∀ a ∈ l2, okI fW a) ⟨Kp.of_same (same_new hD), S1.same (same_new hD), [], [], upd_same, atl_nil, rfl, fun _ z => nomatch z⟩ (fun i H' _ z => .inl (.inl (z.1 _ _ e1 n1))) ?_ ?_
  · rintro i xv Ha Hb hi ⟨ka, Sa, us, l2, eD, hus, lus, hl2⟩ ⟨rfl, hxv⟩
    have hi1 : i < l1.length := by omega
    obtain ⟨u, hu1, hu2⟩ := hX.get (i := i) (by rw [List.getElem?_map, List.getElem?_eq_getElem hi1]; rfl)
    rw [hxv] at hu1
    cases hu1
    obtain ⟨x, y, exy, hx1, hy1⟩ := okI_C (hL _ (List.getElem_mem hi1))
    rw [exy] at hu2
    walk_at "go"
    refine pick_src Sa (by decide) fun r H2 r0 r1 S2 k2 => ?_
    have eD2 := k2 _ _ eD dD
    have hrU : (r * U).natAbs < 10 ^ 9 ∧ 0 ≤ r * U := by
      rcases hU with rfl | rfl
      · rw [Int.mul_one]
        omega
      · have : ((10 : Int) ^ 7) = 10000000 := by decide
        rw [this]
        omega
    refine ⟨r, rfl, .inl ⟨by omega, by omega⟩, by decide, fun p3 hp3 => ⟨us, same_new hp3 _ _ eD2, ?_, fun b o hb nb => ?_, ?_, us ++ [.ref p3], upd_same, l2 ++ [[x, y, r * U]], ?_, ?_, ?_⟩⟩
    · rw [lus]
      exact small_lt (m := 100) (by omega) (by decide)
    · rw [upd_ne (ne_of_none hb hD)]
      exact same_new hp3 _ _ ((ka.trans k2) _ _ hb nb)
    · exact (S2.same (same_new hp3)).upd dD
    · have pD : p3 ≠ D := (ne_of_none eD2 hp3).symm
      have s5 : Same H2 (upd H2 p3 (.tup [xv, .int (r * U)])) := same_new hp3
      rw [List.map_append]
      have g1 : At (fun b => DC d c b ∨ b = D) H2 (dC [x, y]) xv := ((hu2.off (T := fun b => DC d c b ∨ b = D) fun b o hb z => z.elim id fun z => by
        rw [z, hD] at hb
        cases hb).kp (ka.mono fun b z => .inl z)).kp (k2.mono fun b z => .inl z)
      exact (((hus.kp (k2.mono fun b z => .inl z)).kp (Kp.of_same s5)).kp (Kp.upd_in (.inr rfl))).snoc (at_tup (fun z => z.elim (fun z => S2.off hp3 z) pD) (by rw [upd_ne pD]; exact upd_same) (atl_cons ((g1.kp (Kp.of_same s5)).kp (Kp.upd_in (.inr rfl))) (atl_cons at_int atl_nil)))
    · rw [List.length_append, lus]
      rfl
    · intro a ha
      rcases List.mem_append.mp ha with ha | ha
      · exact hl2 a ha
      · rw [List.mem_singleton.mp ha]
        exact okW_mk hx1.1 hy1.1 hrU.1 hrU.2
  · rintro Ha ⟨ka, Sa, us, l2, eD, hus, lus, hl2⟩
    exact q D us Ha l2 ((Kp.of_same s1).trans ka) Sa (s1.free hD) eD (hus.off fun b o _ z => .inl z) (by omega) hl2
/-- tuple(zip(cells, cells[1:] + cells[:1]))[:4] -/
theorem r_joins {s0 s1 s2 s3 s4 s5 s7 s8 s9 s10 s11 s12 s13 : Option V} (S : Src H d c) (hr : Row d c H dC fC p)
    (q : ∀ (p2 : Addr) (H' : Hp), Same H H' → Row d c H' dJ fJ p2 → Q (.ref p2) H') :
    tTZ K (tCons (tVar 6) (tCons (tOp rCatQ (tSl rSlQ (tVar 6) (tPart (tC (V.int 1))) tNoPart) (tSl rSlQ (tVar 6) tNoPart (tPart (tC (V.int 1))))) tNil))
      [s0, s1, s2, s3, s4, s5, some (.ref p), s7, s8, s9, s10, s11, s12, s13] H (fun x H1 => rSlQ x none (some 4) H1 Q) := by
  obtain ⟨xs, l, ep, np, hx, hl8, hl⟩ := hr
  have lx := hx.length
  rw [List.length_map] at lx
  refine tz_in ?_
  walk_at "go"
  refine ⟨p, xs, rfl, ep, fun q1 H1 t1 e1 => ⟨p, xs, rfl, t1 _ _ ep, fun q2 H2 t2 e2 => ⟨q1, q2, _, _, rfl, rfl, t2 _ _ e1, e2, ?_, fun q3 H3 t3 e3 => ?_⟩⟩⟩
  · rw [show cutV xs (some 1) none = xs.drop 1 from cut_from xs 1, show cutV xs none (some 1) = xs.take 1 from cut_to xs 1, List.length_take, List.length_drop]
    exact small_sz (m := 100) (by omega) (by decide)
  rw [show cutV xs (some 1) none = xs.drop 1 from cut_from xs 1, show cutV xs none (some 1) = xs.take 1 from cut_to xs 1] at e3
  have t123 := (t1.trans t2).trans t3
  have hmem : ∀ v ∈ xs.drop 1 ++ xs.take 1, v ∈ xs := fun v hv => by
    rcases List.mem_append.mp hv with hv | hv
    · exact List.mem_of_mem_drop hv
    · exact List.mem_of_mem_take hv
  generalize xs.drop 1 ++ xs.take 1 = ys at *
  have S3 := S.same t123
  have each : ∀ v ∈ xs, ∃ x y : Int, x.natAbs < 10 ^ 9 ∧ y.natAbs < 10 ^ 9 ∧ At (DC d c) H3 (dC [x, y]) v := fun v hv => by
    obtain ⟨a, ha, hat⟩ := atl_each hx v hv
    obtain ⟨x, y, rfl, h1, h2⟩ := okI_C (hl a ha)
    exact ⟨x, y, h1.1, h2.1, hat.kp (Kp.of_same t123)⟩
  refine ⟨q3, rfl, xs, .inl (.inl (t123 _ _ ep)), ys, .inl (.inl e3), by omega, fun zs H4 p4 hp hp4 => ⟨p4, zs, rfl, upd_same, fun p5 H5 t5 e5 => ?_⟩⟩
  obtain ⟨z1, z2, z3⟩ := hp
  rw [show cutV zs none (some 4) = zs.take 4 from cut_to zs 4] at e5
  have t4 : Same H4 (upd H4 p4 (.tup zs)) := same_new hp4
  have S5 := ((S3.same z2).same t4).same t5
  have n5 : ¬ DC d c p5 := fun z => by
    obtain ⟨ss, hs, _⟩ := S5
    rcases z with z | z
    · rw [z, hs.dd] at e5
      cases e5
    · rw [z, hs.cc] at e5
      cases e5
  obtain ⟨l5, hl5, ok5⟩ := atl_of (S := DC d c) (H := H5) (d := dJ) (P := okI fJ) (vs := zs.take 4) fun v hv => by
    obtain ⟨j, hj⟩ := List.getElem?_of_mem (List.mem_of_mem_take hv)
    obtain ⟨T, x, y, rfl, hT, eT, hxj, hyj⟩ := z3 j v hj
    obtain ⟨x1, x2, b1, b2, atx⟩ := each x (List.mem_of_getElem? hxj)
    obtain ⟨y1, y2, b3, b4, aty⟩ := each y (hmem _ (List.mem_of_getElem? hyj))
    have k5 : Kp (DC d c) H3 H5 := Kp.of_same ((z2.trans t4).trans t5)
    exact ⟨[x1, x2, y1, y2], okJ_mk b1 b2 b3 b4, at_tup (S3.off hT) (t5 _ _ (t4 _ _ eT)) (atl_cons (atx.kp k5) (atl_cons (aty.kp k5) atl_nil))⟩
  have l55 := hl5.length
  rw [List.length_map, List.length_take] at l55
  exact q p5 H5 (((t123.trans z2).trans t4).trans t5) ⟨_, l5, e5, n5, hl5, by omega, ok5⟩
/-- the three rows, one behind another -/
theorem r_three {s0 s3 s4 s5 s9 s10 s11 s12 s13 : Option V} {g p7 p8 : Addr} {tb : TS} {n2 : Nat} {En : Ends} (hn2 : n2 = 2) (S : Src H d c) (hG : ∀ H', Kp (DC d c) H H' → GrAt H' g) (R6 : Row d c H dC fC p) (R7 : Row d c H dW fW p7) (R8 : Row d c H dJ fJ p8)
    (htb : ∀ (part : Str) (form : List Nat) (dd : List Int → PyData) (v : Addr) (H' : Hp) (En' : Ends) (s9 s10 : Option V), KD part form dd → Kp (DC d c) H H' → Src H' d c → Row d c H' dd form v → (∀ H'', Kp (DC d c) H' H'' → Src H'' d c → En'.nx [s0, some (.ref d), some (.ref g), s3, s4, s5, some (.ref p), some (.ref p7), some (.ref p8), some (.str part), some (.ref v), s11, s12, s13] H'') →
      tb En' [s0, some (.ref d), some (.ref g), s3, s4, s5, some (.ref p), some (.ref p7), some (.ref p8), some (.str part), some (.ref v), s11, s12, s13] H')
    (q : ∀ (v9 v10 : Option V) (H' : Hp), Kp (DC d c) H H' → Src H' d c → En.nx [s0, some (.ref d), some (.ref g), s3, s4, s5, some (.ref p), some (.ref p7), some (.ref p8), v9, v10, s11, s12, s13] H') :
    tFor (iTup K (tTup (tCons (tTup (tCons (tC (V.str (Str.ofString "cells"))) (tCons (tVar 6) tNil))) (tCons (tTup (tCons (tC (V.str (Str.ofString "weights"))) (tCons (tVar 7) tNil))) (tCons (tTup (tCons (tC (V.str (Str.ofString "joins"))) (tCons (tVar 8) tNil))) tNil)))))
      (gTup K n2 (gCons (gName 9) (gCons (gName 10) gNil))) tb En
      [s0, some (.ref d), some (.ref g), s3, s4, s5, some (.ref p), some (.ref p7), some (.ref p8), s9, s10, s11, s12, s13] H := by
  subst hn2
  refine for_tupE ?_
  walk_at "go"
  refine ⟨by decide, fun a1 h1 => ⟨by decide, fun a2 h2 => ⟨by decide, fun a3 h3 => ⟨by decide, fun a4 h4 => ⟨⟨_, .inl (.inl upd_same)⟩, ?_⟩⟩⟩⟩⟩
  have t1 := same_new (o := .tup [V.str (Str.ofString "cells"), V.ref p]) h1
  have t2 := same_new (o := .tup [V.str (Str.ofString "weights"), V.ref p7]) h2
  have t3 := same_new (o := .tup [V.str (Str.ofString "joins"), V.ref p8]) h3
  have t4 := same_new (o := .tup [V.ref a1, V.ref a2, V.ref a3]) h4
  have e1 := t4 _ _ (t3 _ _ (t2 a1 _ upd_same))
  have e2 := t4 _ _ (t3 a2 _ upd_same)
  have e3 := t4 a3 _ upd_same
  have t := ((t1.trans t2).trans t3).trans t4
  have n1 := S.off h1
  have n2 := (S.same t1).off h2
  have n3 := ((S.same t1).same t2).off h3
  have n4 := (((S.same t1).same t2).same t3).off h4
  have e4 : (upd (upd (upd (upd H a1 (.tup [V.str (Str.ofString "cells"), V.ref p])) a2 (.tup [V.str (Str.ofString "weights"), V.ref p7])) a3 (.tup [V.str (Str.ofString "joins"), V.ref p8])) a4 (.tup [V.ref a1, V.ref a2, V.ref a3])) a4 = some (.tup [V.ref a1, V.ref a2, V.ref a3]) := upd_same
  generalize upd (upd (upd (upd H a1 (.tup [V.str (Str.ofString "cells"), V.ref p])) a2 (.tup [V.str (Str.ofString "weights"), V.ref p7])) a3 (.tup [V.str (Str.ofString "joins"), V.ref p8])) a4 (.tup [V.ref a1, V.ref a2, V.ref a3]) = H4 at *
  have kt : Kp (DC d c) H H4 := Kp.of_same t
  have S4 := S.same t
  refine for_it (walk_tup (xs := [V.ref a1, V.ref a2, V.ref a3])) (fun i σ H' => ∃ (v9 v10 : Option V), σ = [s0, some (.ref d), some (.ref g), s3, s4, s5, some (.ref p), some (.ref p7), some (.ref p8), v9, v10, s11, s12, s13] ∧ Kp (DC d c) H4 H' ∧ Src H' d c) ⟨s9, s10, rfl, Kp.refl _ _, S4⟩ (fun i σ H' _ z => by
    obtain ⟨_, _, _, k, _⟩ := z
    exact .inl (.inl (k _ _ e4 n4))) ?_ ?_
  · rintro i xv σ Ha Hb hi ⟨v9, v10, rfl, ka, Sa⟩ ⟨rfl, hxv⟩
    have k0 := kt.trans ka
    have tab : ∃ (part : Str) (form : List Nat) (dd : List Int → PyData) (v b : Addr), xv = .ref b ∧ Hb b = some (.tup [.str part, .ref v]) ∧ KD part form dd ∧ Row d c Hb dd form v := by
      have hi3 : i < 3 := hi
      have : i = 0 ∨ i = 1 ∨ i = 2 := by omega
      rcases this with rfl | rfl | rfl
      · cases hxv
        exact ⟨_, _, _, _, _, rfl, ka _ _ e1 n1, .inl ⟨rfl, rfl, rfl⟩, R6.kp k0⟩
      · cases hxv
        exact ⟨_, _, _, _, _, rfl, ka _ _ e2 n2, .inr (.inl ⟨rfl, rfl, rfl⟩), R7.kp k0⟩
      · cases hxv
        exact ⟨_, _, _, _, _, rfl, ka _ _ e3 n3, .inr (.inr ⟨rfl, rfl, rfl⟩), R8.kp k0⟩
    obtain ⟨part, form, dd, v, b, rfl, eb, hk, hR⟩ := tab
    walk_at "go"
    refine ⟨_, .inl (.inl eb), rfl, _, _, rfl, _, _, rfl, rfl, ?_⟩
    exact htb part form dd v Hb _ none none hk k0 Sa hR fun H'' k'' S'' => ⟨⟨_, _, rfl⟩, ka.trans k'', S''⟩
  · rintro σ Ha ⟨v9, v10, rfl, ka, Sa⟩
    exact q v9 v10 Ha (kt.trans ka) Sa
end
end TX
/-! part A14 -/
/-! The law. -/
namespace TX
open PySem PySem.Spec PyProof.Rows L2 NT RW4 ZT
local macro_rules | `(tactic| walk_at "go") => `(tactic| simp only [L2.start, List.map_cons, List.map_nil, List.length_cons, List.length_nil, Nat.reduceSub, Nat.reduceAdd, List.replicate_succ, List.replicate_zero, List.cons_append, List.nil_append, List.append_nil,
  tSeq, tNext, tRet, tIfS, tTest, tAnd, tOr, tNot, tCB, tCall, tCons, tNil, tVar, tC, tOp, tUn, tAsg, gName, rI0, rI, CMul, CDiv, tDGet, sDPut, tBM0, tBM, tTup, tLst, tPar, tPar3, gTup, gNil, gCons, tIf, tAug, tRevL, tDisp, tPairs, tYes, wipe, tDrop, L2.tSl, tNotV, tAndV, tOrV, tB, rSlS, ipI, tNoPart, NdefX.startF, tOst, tMkO, rIxL, rIxT, rIxS, rAppend, rExtend, rPop, rSlL, rSetL, tPart, rEq, rNe, tFmt, tJn, tJs, tFi, gLst, tThen, tIf, rS, rNIS, rRep, tThenZ, kLstS, rIS, cRi, rSortedP, rLn, rPopAt, tCallS, ↓reduceIte, L2.gSub, ↓reduceIte,
  List.getElem?_cons_zero, List.getElem?_cons_succ, List.set_cons_zero, List.set_cons_succ, Option.some.injEq, V.int.injEq, V.str.injEq, V.ref.injEq, V.bl.injEq, exists_eq_left, exists_eq_left', exists_eq_right, exists_eq_right', exists_eq', true_and, and_true, decide_eq_true_eq, List.cons.injEq, reduceCtorEq, false_and, false_or, or_false, exists_false, exists_and_left, exists_and_right, and_assoc])
section
variable {w : World} {K : PySem.W.Frag} {mg : Str → Option Value} {base : Heap}
def spLaw (K : PySem.W.Frag) : Sp := fun vs H Q _ => ∃ (a : Addr) (ns : List Int), vs = [.ref a] ∧ SqL K H a (ns.map V.int) ∧ ns.length ≤ 63 ∧ ∀ H', Q (.bl true) H'
theorem ok_law0 (T : Txt w K mg) {C R fI cc : Addr} (B : BadC K mg C R fI cc) {f : Addr} {fd : FuncData} (D : DF K mg "law" s_law ["script"] f fd) : FnG PW w K mg base CX0 30 f fd ["script"] (spLaw K) := by
  refine NT.Fun.okG D.F sc_law (fun vs H Q E h => ?_) (fun cdv A outer s H vs Q E hgd hr h => ?_)
  · obtain ⟨a, ns, rfl, _⟩ := h
    rfl
  · obtain ⟨a, ns, rfl, hS, hl, h⟩ := h
    have nd := sc_law.nd
    have hu := hu_of hr
    refine ⟨_, pss_cons (ps_asg (pe_tup (pa_cons (pe_d (ok_open T) hr pass0 (pa_cons (pv 0) pa_nil)) (pa_cons (pe_d0 (ok_rules T) hr pass0) pa_nil))) (pg_tup (by rfl) (pgs_cons (pg_name (i := 1) nd rfl (.inr rfl)) (pgs_cons (pg_name (i := 2) nd rfl (.inl rfl)) pgs_nil))))
      (pss_cons (ps_for PassesOwn.never rfl (pi_range1 (by rfl) T.z_range (pa_cons pe_int pa_nil)) (pg_name (i := 3) nd rfl (.inl rfl))
        (pss_cons (ps_set (i := 4) nd rfl (.inl rfl) (pe_d (ok_draw T) hr pass0 (pa_cons (pv 1) (pa_cons pe_int pa_nil))))
        (pss_cons (ps_set (i := 5) nd rfl (.inr rfl) (pe_ix ix_list (pe_lst (pa_cons pe_int (pa_cons (pe_op op_pow pe_int pe_int) pa_nil))) (pe_d (ok_pick T) hr pass0 (pa_cons (pv 1) (pa_cons pe_int pa_nil))) (fun _ _ => rfl)))
        (pss_cons (ps_set (i := 6) nd rfl (.inl rfl) (pe_tupleOf (by rfl) T.z_tuple (pe_d (ok_any T) hr pass0 (pa_cons (pv 1) (pa_cons
            (pe_lc (own := [("x", 12), ("y", 13)]) (g := gTup K 2 (gCons (gName 12) (gCons (gName 13) gNil))) (tt := tYes) (te := tTup (tCons (tOp (rI CMul fun i j => .int (i * j)) (tVar 12) (tVar 5)) (tCons (tVar 13) tNil))) rfl nd
              (pi_tup (pe_op op_catQ (pe_slice sl_tupQ (pv 4) po_none (po_some pe_int)) (pe_slice sl_tupQ (pv 4) po_none (po_some pe_int)))) (blkOk_by (N := n_law) (sc := defScope s_law) (by decide +kernel))
              (fun _ _ _ _ _ => pg_tup (by rfl) (pgs_cons (pg_name (i := 12) nd rfl (.inl rfl)) (pgs_cons (pg_name (i := 13) nd rfl (.inl rfl)) pgs_nil))) (fun _ _ _ _ _ => pts_nil) (fun _ _ _ _ _ => by exact (pe_tup (pa_cons (pe_op op_mul (pv 12) (pv 5)) (pa_cons (pv 13) pa_nil))))) pa_nil)))))
        (pss_cons (ps_set (i := 7) nd rfl (.inl rfl) (pe_tupleOf (by rfl) T.z_tuple
            (pe_lc (own := [("cell", 11)]) (g := gName 11) (tt := tYes) (te := tTup (tCons (tVar 11) (tCons (tOp (rI CMul fun i j => .int (i * j)) (tCall spPick [] E0 (tCons (tVar 1) (tCons (tC (.int 40)) tNil))) (tVar 5)) tNil))) rfl nd
              (pi_tup (pe_slice sl_tupQ (pv 6) po_none (po_some pe_int))) (blkOk_by (N := n_law) (sc := defScope s_law) (by decide +kernel))
              (fun _ _ _ _ _ => pg_name (i := 11) nd rfl (.inl rfl)) (fun _ _ _ _ _ => pts_nil) (fun _ _ _ _ _ => by exact (pe_tup (pa_cons (pv 11) (pa_cons (pe_op op_mul (pe_d (ok_pick T) hr pass0 (by exact (pa_cons (pv 1) (pa_cons pe_int pa_nil)))) (pv 5)) pa_nil)))))))
        (pss_cons (ps_set (i := 8) nd rfl (.inl rfl) (pe_slice sl_tupQ (pe_tupZip (by rfl) (by rfl) T.z_tuple (by rfl) T.z_zip (pa_cons (pv 6) (pa_cons (pe_op op_catQ (pe_slice sl_tupQ (pv 6) (po_some pe_int) po_none) (pe_slice sl_tupQ (pv 6) po_none (po_some pe_int))) pa_nil))) po_none (po_some pe_int)))
        (pss_cons (ps_for PassesOwn.never rfl (pi_tup (pe_tup (pa_cons (pe_tup (pa_cons pe_str (pa_cons (pv 6) pa_nil))) (pa_cons (pe_tup (pa_cons pe_str (pa_cons (pv 7) pa_nil))) (pa_cons (pe_tup (pa_cons pe_str (pa_cons (pv 8) pa_nil))) pa_nil))))) (pg_tup (by rfl) (pgs_cons (pg_name (i := 9) nd rfl (.inl rfl)) (pgs_cons (pg_name (i := 10) nd rfl (.inl rfl)) pgs_nil)))
          (pss_one (ps_if (pt_not (pt_val (pe_dG (ok_part T B) hgd hr pass0 (pa_cons (pv 1) (pa_cons (pv 2) (pa_cons (pv 10) (pa_cons (pv 9) pa_nil))))))) (pss_one (ps_ret pe_bl)) pss_nil)))
        (pss_one (ps_if (pt_not (pt_val (pe_dG (ok_ways T B) hgd hr pass0 (pa_cons (pv 1) pa_nil)))) (pss_one (ps_ret pe_bl)) pss_nil)))))))))
      (pss_one (ps_ret (pe_dG0 (ok_typed T B) hgd hr pass0)))), ?_⟩
    walk_at "go"
    refine ⟨a, ns, rfl, hS, hl, fun d c s0 H1 s1 hd hc S0 hlen => ⟨rfl, fun g H2 s2 hg hG => ⟨by decide, fun q hq => ?_⟩⟩⟩
    have Sr : Src H1 d c := ⟨s0, S0, hlen⟩
    have s3 : Same H2 (upd H2 q (.tup [.ref d, .ref g])) := same_new hq
    refine ⟨_, .inl (.inl upd_same), rfl, _, _, rfl, _, _, rfl, rfl, ?_⟩
    have S3 := (Sr.same s2).same s3
    have hG3 : ∀ H', Kp (DC d c) (upd H2 q (.tup [.ref d, .ref g])) H' → GrAt H' g := fun H' k => hG H' (((Kp.of_same s3).trans (k.mono fun b z => by
      rcases z with rfl | rfl
      · exact fun e => Sr.off e (.inl rfl)
      · exact fun e => Sr.off e (.inr rfl))))
    generalize upd H2 q (.tup [.ref d, .ref g]) = H3 at *
    clear s1 hd hc S0 hlen Sr s2 hg hG hq s3
    refine ⟨3, rfl, by decide, by decide, for_it (n := 3) walk_range (fun n σ H' => ∃ (v3 v4 v5 v6 v7 v8 v9 v10 : Option V), σ = [some (.ref a), some (.ref d), some (.ref g), v3, v4, v5, v6, v7, v8, v9, v10, none, none, none] ∧ Kp (DC d c) H3 H' ∧ Src H' d c) ⟨none, none, none, none, none, none, none, none, rfl, Kp.refl _ _, S3⟩ (fun _ _ _ _ _ => trivial) ?_ ?_⟩
    · rintro n xv σ Ha Hb hn ⟨v3, v4, v5, v6, v7, v8, v9, v10, rfl, ka, Sa⟩ ⟨rfl, rfl⟩
      walk_at "go"
      refine ⟨d, c, 4, rfl, Sa, by decide, fun p0 xs l H4 k4 S4 hp0 ep0 hxs hll hls => ⟨⟨by decide, by decide, by decide⟩, by decide, fun p1 hp1 => ?_⟩⟩
      have s5 : Same H4 (upd H4 p1 (.lst [V.int 1, V.int (10 ^ Int.toNat 7)])) := same_new hp1
      have d1 : ¬ DC d c p1 := S4.off hp1
      refine pick_src (S4.same s5) (by decide) fun r H5 r0 r1 S5 k5 => ?_
      obtain ⟨r, rfl⟩ := Int.eq_ofNat_of_zero_le r0
      have e1 := k5 p1 _ upd_same d1
      have hU : ∃ U : Int, ([V.int 1, V.int (10 ^ Int.toNat 7)] : List V)[r]? = some (.int U) ∧ (U = 1 ∨ U = 10 ^ 7) := by
        have : r = 0 ∨ r = 1 := by omega
        rcases this with rfl | rfl
        · exact ⟨1, rfl, .inl rfl⟩
        · exact ⟨10 ^ 7, rfl, .inr rfl⟩
      obtain ⟨U, eU, hU⟩ := hU
      refine ⟨_, _, rfl, .inl (.inl e1), _, atI_nat eU, ?_⟩
      have k05 : Kp (DC d c) H4 H5 := (Kp.of_same s5).trans k5
      have n0 : ¬ DC d c p0 := Sa.off hp0
      have ep5 := k05 _ _ ep0 n0
      have hx5 : AtL (DC d c) H5 (l.map dC) xs := (hxs.off fun b o _ z => Sa.dom b z).kp k05
      refine r_cells hU S5 ep5 hx5 hls fun D us H6 l2 s6 hD eD hus lus okl => ?_
      have S6 := S5.same s6
      refine ⟨d, c, D, us, rfl, S6, S5.off hD, eD, by omega, fun D2 ys H7 k7 S7 hD2 eD2 lys hys => .inl ⟨D2, ys, rfl, .inl (.inl eD2), fun p6 hp6 => ?_⟩⟩
      have s7 : Same H7 (upd H7 p6 (.tup ys)) := same_new hp6
      have R6 : Row d c (upd H7 p6 (.tup ys)) dC fC p6 := by
        obtain ⟨l3, hl3, ok3⟩ := atl_of (S := DC d c) (H := upd H7 p6 (.tup ys)) (d := dC) (P := okI fC) (vs := ys) fun v hv => by
          obtain ⟨a1, ha1, hat⟩ := atl_each hus v (hys v hv)
          exact ⟨a1, okl a1 ha1, (hat.kp k7).kp (Kp.of_same s7)⟩
        have l33 := hl3.length
        rw [List.length_map] at l33
        exact ⟨ys, l3, upd_same, S7.off hp6, hl3, by omega, ok3⟩
      have S8 := S7.same s7
      have k8 : Kp (DC d c) H3 (upd H7 p6 (.tup ys)) := (((((ka.trans k4).trans k05).trans (Kp.of_same s6)).trans k7).trans (Kp.of_same s7))
      generalize upd H7 p6 (.tup ys) = H8 at *
      clear k4 S4 hp0 ep0 hxs hls hp1 s5 d1 S5 k5 r0 r1 e1 eU k05 n0 ep5 hx5 s6 hD eD hus okl S6 k7 S7 hD2 eD2 hys s7 hp6
      refine r_weights hU S8 R6 fun D3 us3 H9 l4 k9 S9 hD3 eD3 hus3 lus3 ok4 => .inl ⟨D3, us3, rfl, .inl (.inl eD3), fun p7 hp7 => ?_⟩
      have s9 : Same H9 (upd H9 p7 (.tup us3)) := same_new hp7
      have R7 : Row d c (upd H9 p7 (.tup us3)) dW fW p7 := by
        have l33 := hus3.length
        rw [List.length_map] at l33
        exact ⟨us3, l4, upd_same, S9.off hp7, hus3.kp (Kp.of_same s9), by omega, ok4⟩
      have R6' := (R6.kp k9).kp (Kp.of_same s9)
      have S10 := S9.same s9
      have k10 := (k8.trans k9).trans (Kp.of_same s9)
      generalize upd H9 p7 (.tup us3) = H10 at *
      clear R6 S8 k8 k9 S9 hD3 eD3 hus3 ok4 s9 hp7
      refine r_joins S10 R6' fun p8 H11 s11 R8 => ?_
      have k11 : Kp (DC d c) H3 H11 := k10.trans (Kp.of_same s11)
      have S11 := S10.same s11
      refine r_three rfl S11 (fun H' k => hG3 H' (k11.trans k)) (R6'.kp (Kp.of_same s11)) (R7.kp (Kp.of_same s11)) R8 ?_ ?_
      · intro part form dd v Hx En s9 s10 hk kx Sx hR hnx
        walk_at "go"
        obtain ⟨xs1, l1, h1, h2, h3, h4, h5⟩ := hR
        refine ⟨d, c, g, .ref v, part, form, dd, l1, rfl, Sx, fun H' k => hG3 H' ((k11.trans kx).trans k), hk, at_tup id h1 h3.no, h4, h5, fun H' k' S' => ⟨true, rfl, ?_⟩⟩
        rw [if_neg (by decide)]
        exact hnx H' k' S'
      · intro v9 v10 Hx kx Sx
        walk_at "go"
        refine ⟨d, c, rfl, Sx, fun H' k' S' => ⟨true, rfl, ?_⟩⟩
        rw [if_neg (by decide)]
        exact ⟨(k11.trans kx).trans k', S'⟩
    · rintro σ Ha ⟨v3, v4, v5, v6, v7, v8, v9, v10, rfl, ka, Sa⟩
      walk_at "go"
      exact ⟨rfl, fun H' _ => h H'⟩
end
end TX
namespace TX
open PySem PySem.Spec PyProof.Rows L2 NT RW4
theorem ok_law {w : World} {K : PySem.W.Frag} {mg : Str → Option Value} {base : Heap} (T : Txt w K mg) {f : Addr} {fd : FuncData} (D : DF K mg "law" s_law ["script"] f fd) : FnG PW w K mg base CX0 30 f fd ["script"] (spLaw K) := by
  obtain ⟨C, R, fI, cc, B⟩ := T.bad
  exact ok_law0 T B D
theorem fin {w : World} {K : PySem.W.Frag} {mg : Str → Option Value} {fa : Addr} (Z : Txt w K mg ∧ ∃ fd : FuncData, DF K mg "law" s_law ["script"] fa fd ∧ (∀ (s : Shared) (v : Value), BindsTo s fd ⟨[v], []⟩ [("script", v)])) :
    ∃ fd : FuncData, (∀ (s : Shared) (u : Value), BindsTo s fd ⟨[u], []⟩ [("script", u)]) ∧ ∀ base : Heap, K.In base → base.Ns mainGlobals mg → FnG PySem.Challenge.rw_nodetour_k04_texts_of_rows.prog w K mg base CX0 30 fa fd ["script"] (spLaw K) := by
  obtain ⟨T, fd, D, hb⟩ := Z
  exact ⟨fd, hb, fun base _ _ => ok_law T D⟩
end TX
open PySem PySem.W PyProof.Rows
set_option maxHeartbeats 0 in
theorem PySem.Challenge.cw_nodetour_k04_texts_of_rows_holds : PySem.Challenge.rw_nodetour_k04_texts_of_rows.Holds := by
  w_on; o_law; k_head; (case hw => w_witness2)
  k_fill
  refine NT.walkG (l := PySem.Challenge.rw_nodetour_k04_texts_of_rows) (n := 63) (k := 30) (x := "script") (sp := TX.spLaw) rfl (by decide) rfl ⟨rfl, by decide, by decide⟩ (fun w h Y => PySem.W.kIn_of Y) ?F (fun K H a ns hl _ hS => ⟨a, ns, rfl, hS, hl, fun _ => rfl⟩)
  case F =>
    intro w mg fa h KX G hmg
    refine' TX.fin (TX.all_mk (P := PySem.Challenge.pw_nodetour_k04_texts_of_rows) (w := w) KX G hmg ?a0 ?l0 ?c0 ?k0 ?a1 ?l1 ?c1 ?k1 ?a2 ?l2 ?c2 ?k2 ?a3 ?l3 ?c3 ?k3 ?a4 ?l4 ?c4 ?k4 ?a5 ?l5 ?c5 ?k5 ?a6 ?l6 ?c6 ?k6 ?a7 ?l7 ?c7 ?k7 ?a8 ?l8 ?c8 ?k8 ?a9 ?l9 ?c9 ?k9 ?a10 ?l10 ?c10 ?k10 ?a11 ?l11 ?c11 ?k11 ?a12 ?l12 ?c12 ?k12 ?a13 ?l13 ?c13 ?k13 ?a14 ?l14 ?c14 ?k14 ?a15 ?l15 ?c15 ?k15 ?a16 ?l16 ?c16 ?k16 ?a17 ?l17 ?c17 ?k17 ?a18 ?l18 ?c18 ?k18 ?a19 ?l19 ?c19 ?k19 ?a20 ?l20 ?c20 ?k20 ?a21 ?l21 ?c21 ?k21 ?a22 ?l22 ?c22 ?k22 ?a23 ?l23 ?c23 ?k23 ?a24 ?l24 ?c24 ?k24 ?a25 ?l25 ?c25 ?k25 ?a26 ?l26 ?c26 ?k26 ?a27 ?l27 ?c27 ?k27 ?a28 ?l28 ?c28 ?k28 ?a29 ?l29 ?c29 ?k29 ?a30 ?l30 ?c30 ?k30 ?a31 ?l31 ?c31 ?k31 ?a32 ?l32 ?c32 ?k32 ?a33 ?l33 ?c33 ?k33 ?zC ?zR ?xL ?sa ?exC ?tyC ?kC ?iC ?tI ?noP ?sub1 ?sup ?sVE ?opq ?te ?ga ?gg ?hd ?ec ?en ?et ?em ?kit ?fI1 ?fI2 ?fI3 ?fI4 ?fI5 ?z_all ?z_dict ?z_enumerate ?z_int ?z_isinstance ?z_len ?z_list ?z_range ?z_repr ?z_reversed ?z_sorted ?z_tuple ?z_zip ?z_super ?z_ValueError ?z_str ?z_abs ?yD ?yM ?lM ?sM)
    (case a0 => first | k_is | rfl)
    (case l0 => first | k_is | rfl)
    (case c0 => first | k_is | rfl)
    (case k0 => first | k_is | rfl)
    (case a1 => first | k_is | rfl)
    (case l1 => first | k_is | rfl)
    (case c1 => first | k_is | rfl)
    (case k1 => first | k_is | rfl)
    (case a2 => first | k_is | rfl)
    (case l2 => first | k_is | rfl)
    (case c2 => first | k_is | rfl)
    (case k2 => first | k_is | rfl)
    (case a3 => first | k_is | rfl)
    (case l3 => first | k_is | rfl)
    (case c3 => first | k_is | rfl)
    (case k3 => first | k_is | rfl)
    (case a4 => first | k_is | rfl)
    (case l4 => first | k_is | rfl)
    (case c4 => first | k_is | rfl)
    (case k4 => first | k_is | rfl)
    (case a5 => first | k_is | rfl)
    (case l5 => first | k_is | rfl)
    (case c5 => first | k_is | rfl)
    (case k5 => first | k_is | rfl)
    (case a6 => first | k_is | rfl)
    (case l6 => first | k_is | rfl)
    (case c6 => first | k_is | rfl)
    (case k6 => first | k_is | rfl)
    (case a7 => first | k_is | rfl)
    (case l7 => first | k_is | rfl)
    (case c7 => first | k_is | rfl)
    (case k7 => first | k_is | rfl)
    (case a8 => first | k_is | rfl)
    (case l8 => first | k_is | rfl)
    (case c8 => first | k_is | rfl)
    (case k8 => first | k_is | rfl)
    (case a9 => first | k_is | rfl)
    (case l9 => first | k_is | rfl)
    (case c9 => first | k_is | rfl)
    (case k9 => first | k_is | rfl)
    (case a10 => first | k_is | rfl)
    (case l10 => first | k_is | rfl)
    (case c10 => first | k_is | rfl)
    (case k10 => first | k_is | rfl)
    (case a11 => first | k_is | rfl)
    (case l11 => first | k_is | rfl)
    (case c11 => first | k_is | rfl)
    (case k11 => first | k_is | rfl)
    (case a12 => first | k_is | rfl)
    (case l12 => first | k_is | rfl)
    (case c12 => first | k_is | rfl)
    (case k12 => first | k_is | rfl)
    (case a13 => first | k_is | rfl)
    (case l13 => first | k_is | rfl)
    (case c13 => first | k_is | rfl)
    (case k13 => first | k_is | rfl)
    (case a14 => first | k_is | rfl)
    (case l14 => first | k_is | rfl)
    (case c14 => first | k_is | rfl)
    (case k14 => first | k_is | rfl)
    (case a15 => first | k_is | rfl)
    (case l15 => first | k_is | rfl)
    (case c15 => first | k_is | rfl)
    (case k15 => first | k_is | rfl)
    (case a16 => first | k_is | rfl)
    (case l16 => first | k_is | rfl)
    (case c16 => first | k_is | rfl)
    (case k16 => first | k_is | rfl)
    (case a17 => first | k_is | rfl)
    (case l17 => first | k_is | rfl)
    (case c17 => first | k_is | rfl)
    (case k17 => first | k_is | rfl)
    (case a18 => first | k_is | rfl)
    (case l18 => first | k_is | rfl)
    (case c18 => first | k_is | rfl)
    (case k18 => first | k_is | rfl)
    (case a19 => first | k_is | rfl)
    (case l19 => first | k_is | rfl)
    (case c19 => first | k_is | rfl)
    (case k19 => first | k_is | rfl)
    (case a20 => first | k_is | rfl)
    (case l20 => first | k_is | rfl)
    (case c20 => first | k_is | rfl)
    (case k20 => first | k_is | rfl)
    (case a21 => first | k_is | rfl)
    (case l21 => first | k_is | rfl)
    (case c21 => first | k_is | rfl)
    (case k21 => first | k_is | rfl)
    (case a22 => first | k_is | rfl)
    (case l22 => first | k_is | rfl)
    (case c22 => first | k_is | rfl)
    (case k22 => first | k_is | rfl)
    (case a23 => first | k_is | rfl)
    (case l23 => first | k_is | rfl)
    (case c23 => first | k_is | rfl)
    (case k23 => first | k_is | rfl)
    (case a24 => first | k_is | rfl)
    (case l24 => first | k_is | rfl)
    (case c24 => first | k_is | rfl)
    (case k24 => first | k_is | rfl)
    (case a25 => first | k_is | rfl)
    (case l25 => first | k_is | rfl)
    (case c25 => first | k_is | rfl)
    (case k25 => first | k_is | rfl)
    (case a26 => first | k_is | rfl)
    (case l26 => first | k_is | rfl)
    (case c26 => first | k_is | rfl)
    (case k26 => first | k_is | rfl)
    (case a27 => first | k_is | rfl)
    (case l27 => first | k_is | rfl)
    (case c27 => first | k_is | rfl)
    (case k27 => first | k_is | rfl)
    (case a28 => first | k_is | rfl)
    (case l28 => first | k_is | rfl)
    (case c28 => first | k_is | rfl)
    (case k28 => first | k_is | rfl)
    (case a29 => first | k_is | rfl)
    (case l29 => first | k_is | rfl)
    (case c29 => first | k_is | rfl)
    (case k29 => first | k_is | rfl)
    (case a30 => first | k_is | rfl)
    (case l30 => first | k_is | rfl)
    (case c30 => first | k_is | rfl)
    (case k30 => first | k_is | rfl)
    (case a31 => first | k_is | rfl)
    (case l31 => first | k_is | rfl)
    (case c31 => first | k_is | rfl)
    (case k31 => first | k_is | rfl)
    (case a32 => first | k_is | rfl)
    (case l32 => first | k_is | rfl)
    (case c32 => first | k_is | rfl)
    (case k32 => first | k_is | rfl)
    (case a33 => first | k_is | rfl)
    (case l33 => first | k_is | rfl)
    (case c33 => first | k_is | rfl)
    (case k33 => first | k_is | rfl)
    (case zC => first | k_is | rfl)
    (case zR => first | k_is | rfl)
    (case xL => first | k_is | rfl)
    (case sa => first | k_is | rfl)
    (case exC => first | k_is | rfl)
    (case tyC => first | k_is | rfl)
    (case kC => first | k_is | rfl)
    (case iC => first | k_is | rfl)
    (case tI => first | k_is | rfl)
    (case noP => first | k_is | rfl)
    (case sub1 => first | k_is | rfl)
    (case sup => first | k_is | rfl)
    (case sVE => first | k_is | rfl)
    (case opq => first | k_is | rfl)
    (case te => first | k_is | rfl)
    (case ga => first | k_is | rfl)
    (case gg => first | k_is | rfl)
    (case hd => first | k_is | rfl)
    (case ec => first | k_is | rfl)
    (case en => first | k_is | rfl)
    (case et => first | k_is | rfl)
    (case em => first | k_is | rfl)
    (case kit => first | k_is | rfl)
    (case fI1 => first | k_is | rfl)
    (case fI2 => first | k_is | rfl)
    (case fI3 => first | k_is | rfl)
    (case fI4 => first | k_is | rfl)
    (case fI5 => first | k_is | rfl)
    (case z_all => first | k_is | rfl)
    (case z_dict => first | k_is | rfl)
    (case z_enumerate => first | k_is | rfl)
    (case z_int => first | k_is | rfl)
    (case z_isinstance => first | k_is | rfl)
    (case z_len => first | k_is | rfl)
    (case z_list => first | k_is | rfl)
    (case z_range => first | k_is | rfl)
    (case z_repr => first | k_is | rfl)
    (case z_reversed => first | k_is | rfl)
    (case z_sorted => first | k_is | rfl)
    (case z_tuple => first | k_is | rfl)
    (case z_zip => first | k_is | rfl)
    (case z_super => first | k_is | rfl)
    (case z_ValueError => first | k_is | rfl)
    (case z_str => first | k_is | rfl)
    (case z_abs => first | k_is | rfl)
    (case yD => first | k_is | rfl)
    (case yM => first | k_is | rfl)
    (case lM => first | k_is | rfl)
    (case sM => first | rfl | decide)
