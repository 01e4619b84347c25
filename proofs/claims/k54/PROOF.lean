import PyProof.Rows.All
import Wide.All
import OpenK.AllK
import Wide.FinOn
import PySem.Challenge.RW_waitbolts_k54_locks_within_one_another
import HandS.Evl
import HandS.Ends
import HandS.Words
import HandS.TupSets
import PyProof.ReprRoads
import PyProof.P3In
import KE.GoesEnum
import HandS.Walk
import HandS.Zip
import KE.GoesMore
import PyProof.EnumMake
import HandS.TupLe
import HandS.TupAny
import HandS.Deep
import HandS.DictComp
import HandS.IsInst
import HandS.RevRange
import HandS.Conv
import HandS.Style
import HandS.Wide
import HandS.WideMore
import HandS.Dict
import HandS.Comp
import HandS.Flow
import HandS.WordsList
import HandS.WordsDict
import HandS.Exc
import HandS.ExcOwn
import PyProof.DictFindH
import HandS.Sort
import HandS.Keys
import HandS.ExcInit
import HandS.ExcField
import HandS.ExcIs
import HandS.ExcValue
import HandS.WordsExc
import HandS.ExcBuiltin
import HandS.TryMany
import HandS.Lambda
import HandS.Small
import HandS.Iter
import HandS.ReCall
import HandS.TupLen
import KE.KDictPairs
import KE.KeyNested
import KE.KDictKeyed
set_option Elab.async false
set_option linter.all false
set_option maxRecDepth 100000
set_option maxHeartbeats 2000000
namespace Wb
open PySem PySem.Spec PyProof.Rows L2

/-! ### promises that know that no repr runs around them -/
structure FnG (P : Program) (w : World) (K : PySem.W.Frag) (mg : Str → Option Value) (base : Heap) (k : Nat) (f : Addr) (fd : FuncData) (ps : List Str) (sp : Sp) : Prop where
  len : ∀ vs H Q E, sp vs H Q E → vs.length = ps.length
  go : ∀ (A : Around) (outer : List Env) (s : Shared) (H : Hp) (args : Args) (us : List Value) (vs : List V) (Q : VK) (E : XK),
    A.guards = some [] → Room k A → Env0 P w K mg base A outer s H → BindsTo s fd args (ps.zip us) → Vals vs us → sp vs H Q E →
    codeAny (model P w) A (.call (.ref f) args) (CR CX0 outer P w H s Q E) s

section
variable {P : Program} {w : World} {K : PySem.W.Frag} {mg : Str → Option Value} {base : Heap}
theorem fnG_ok {x qual : Str} {st : Stmt} {f : Addr} {fd : FuncData} {N ps : List Str} {k : Nat} {sp : Sp} (F : Fun K x qual st f fd)
    (S : FnScope N ps (defScope st)) (len : ∀ vs H Q E, sp vs H Q E → vs.length = ps.length)
    (hbody : ∀ (cdv : Value) (A : Around) (outer : List Env) (s : Shared) (H : Hp) (vs : List V) (Q : VK) (E : XK), A.guards = some [] →
      Room k (A.deeper (envOfC qual (defScope st) s.heap.objs.size f cdv)) → sp vs H Q E →
      ∃ t, PSs (cxOf CX0 P w K mg base N qual (defScope st) f cdv A outer s H E).nox (defBody st) t ∧
        t { nx := fun _ H' => Q .non H', rt := Q } (start N vs) H) : FnG P w K mg base (k + 1) f fd ps sp := by
  obtain ⟨oc, od, kV, doc, pm, an, cdv, ct, osl, rfl, lk, hcd⟩ := F.ex
  refine ⟨len, ?_⟩
  intro A outer s H args us vs Q E hgd hr e0 hb r hsp
  have e1 : K.In s.heap := e0.mod.kin.keeps (fun b o e => (e0.bs b o e).1)
  have e2 : s.heap.NoLimit := e0.mod.nolimit.keeps (fun b o e => (e0.bs b o e).1)
  have kinds : ∀ y ∈ ps.zip us, (defScope st).names.lookup y.1 = some .local ∨
      ((defScope st).names.lookup y.1 = some .cell ∧ ((cellsFrom (s.heap.objs.size + 1) (defScope st).names []).lookup y.1).isSome = true) := by
    rintro ⟨n, v⟩ hy
    cases S.par n (List.of_mem_zip hy).1 with
    | inl q => exact .inl q
    | inr q => exact .inr ⟨q, PySem.W.cellsFrom_some _ _ _ (.inl q)⟩
  apply codeAny_call_function hr.depth (e1 _ _ lk) rfl S.co S.gen rfl (PySem.W.codeRec_of e1 hcd)
  apply hb
  apply wpAny_newFunctionEnv_cells S.kind kinds
  intro env he s1 x
  subst he
  refine ⟨e2.keeps x.toInCall.keep, codeAny_func ?_⟩
  obtain ⟨t, ht, hq⟩ := hbody cdv A outer s H vs Q E hgd (hr.deeper _) hsp
  have I := inv_start (CX := CX0) (P := P) (w := w) (qual := qual) (E := E) S hr.hd e0 (len _ _ _ _ hsp) r x
  apply wpAny_mono (ht.nox.run [] s1 (start N vs) H _ I hq)
  · intro fl s' hs
    cases fl
    case next =>
      obtain ⟨σ', H', J, q⟩ := hs
      exact ⟨V.non, H', J.os, J.bare, J.base, J.hok, rfl, q⟩
    case brk => obtain ⟨_, _, _, q⟩ := hs; exact q.elim
    case cont => obtain ⟨_, _, _, q⟩ := hs; exact q.elim
    case ret u =>
      obtain ⟨v, σ', H', J, rv, q⟩ := hs
      exact ⟨v, H', J.os, J.bare, J.base, J.hok, rv, q⟩
  · intro e s' hs
    exact hs
end

section
variable {X : Cx}
/-! ### repr of data -/
def rRepr (K : PySem.W.Frag) : List V → Hp → VK → Prop := fun xs H Q => ∃ (a : Addr) (d : PyData), xs = [.ref a] ∧ Dp K H (.ref a) d ∧ d.showable = true ∧ d.hasDict = false ∧ d.depth ≤ 20 ∧ d.shown.length ≤ sizeLine ∧ Q (.str d.shown) H
theorem call_repr_data (hu : X.A.units + 64 < cLine) (hg : X.A.guards = some []) : CallR X (.builtin "repr") (rRepr X.K) := by
  intro pins s σ H xs us Q I r h
  obtain ⟨a, d, rfl, hd, h1, h2, h3, h4, q⟩ := h
  cases r with
  | cons r1 r2 =>
    cases r2
    obtain ⟨as, rd⟩ := Dp.reads I d _ _ hd r1
    cases r1
    refine repr_of_reads' rd h1 (fun z => by rw [h2] at z; cases z) hg (by omega) (fun _ _ e => e) (fun h' u tk hk => ?_) h4
    exact ⟨.str d.shown, H, I.kept (t' := tk) hk, ⟨u, rfl⟩, q⟩
/-! ### x in a tuple of data -/
def rInTD (K : PySem.W.Frag) : R2 := fun x y H Q => ∃ d ds, Dp K H x d ∧ Dp K H y (.tuple ds) ∧ SeqAt.shaped d = true ∧ SeqAt.shaped (.tuple ds) = true ∧ Q (.bl (ds.any fun z => PyData.eqv z d)) H
theorem op_inTD (hu : X.A.units + 65 < cLine) : OpR X (compareOp .In) (rInTD X.K) := by
  intro pins s σ H x y v u Q I rx ry h
  obtain ⟨d, ds, hd, he, sd, se, q⟩ := h
  obtain ⟨as, r1⟩ := Dp.reads I d x v hd rx
  obtain ⟨bs, r2⟩ := Dp.reads I (.tuple ds) y u he ry
  have hdp := SeqAt.depth_of_shaped sd
  have hcl : PyData.canLayAll0 ds = true := by
    have z := SeqAt.canLay_of_shaped se
    simpa [PyData.canLay0] using z
  refine SeqAt.in_tuple_reads r2 r1 hcl (SeqAt.canLay_of_shaped sd) (by show X.A.units + 1 + min _ _ < cLine; omega) ⟨.bl _, H, I, rfl, q⟩
end
end Wb

set_option Elab.async false
set_option linter.all false
set_option maxRecDepth 100000
set_option maxHeartbeats 2000000
namespace Wb
open PySem PySem.Spec PyProof.Rows L2

/-! ### a list or a tuple that is read: l tells which -/
def SqX (K : PySem.W.Frag) (l : Bool) (H : Hp) (a : Addr) (xs : List V) : Prop := if l = true then SqL K H a xs else SqT K H a xs
def ItAt (l : Bool) (h : Heap) (it a : Addr) (i : Nat) : Prop := if l = true then h.IsListIter it a i else h.IsTupleIter it a i
def SqAt (l : Bool) (h : Heap) (a : Addr) (us : Array Value) : Prop := if l = true then h.IsList a us else h.IsTuple a us
def itObj (l : Bool) (a : Addr) : Obj := if l = true then { cls := .type "list_iterator", data := .fields #[.ref a, .int 0 0] } else { cls := .type "tuple_iterator", data := .fields #[.ref a, .int 0 0] }

theorem itObj_at (l : Bool) {h : Heap} {it a : Addr} (e : h.get? it = some (itObj l a)) : ItAt l h it a 0 := by
  cases l
  · exact ⟨_, e, rfl, rfl⟩
  · exact ⟨_, e, rfl, rfl⟩
theorem ItAt.obj {l : Bool} {h : Heap} {it a : Addr} {i : Nat} (x : ItAt l h it a i) : ∃ o, h.get? it = some o ∧ ∀ v, o.data ≠ .cell v := by
  cases l
  · obtain ⟨o, e, _, d⟩ := x
    exact ⟨o, e, fun v q => by rw [d] at q; cases q⟩
  · obtain ⟨o, e, _, d⟩ := x
    exact ⟨o, e, fun v q => by rw [d] at q; cases q⟩
theorem ItAt.keep {l : Bool} {h h' : Heap} {it a : Addr} {i : Nat} (x : ItAt l h it a i) (k : ∀ o, h.get? it = some o → h'.get? it = some o) : ItAt l h' it a i := by
  cases l
  · exact Heap.IsTupleIter.at x k
  · exact Heap.IsListIter.at x k
theorem draws_at {prog : Program} {w : World} {A : Around} (hh : A.handled = none) (l : Bool) (it a : Addr) (hne : a ≠ it) (us : Array Value) :
    Draws prog w A it [it, a] us.size (fun i v => us[i]? = some v) (fun i h => ItAt l h it a i ∧ SqAt l h a us) := by
  cases l
  · exact Draws.tuple hh it a hne us
  · exact Draws.list hh it a hne us
theorem begins_at (l : Bool) (a : Addr) (us : Array Value) : Begins (.ref a) (itObj l a) (fun h => SqAt l h a us) := by
  cases l
  · exact begins_tuple a us
  · exact begins_list a us
section
variable {X : Cx} {pins : List (Addr × Obj)} {σ : L2.St} {H : Hp} {s : Shared}
theorem sqx_vals (I : Inv X pins σ H s) {l : Bool} {a : Addr} {xs : List V} (h : SqX X.K l H a xs) : ∃ us : List Value, Vals xs us ∧ SqAt l s.heap a us.toArray ∧ a < s.heap.objs.size := by
  cases l
  · obtain ⟨us, r, p, _⟩ := I.tuple (a := a) (xs := xs) h
    have p' : s.heap.IsTuple a us.toArray := p
    obtain ⟨o, e, _⟩ := p
    exact ⟨us, r, p', Heap.lt_size e⟩
  · obtain ⟨us, r, p, _⟩ := I.list (a := a) (xs := xs) h
    exact ⟨us, r, p.isList, p.lt⟩
theorem sqx_one (I : Inv X pins σ H s) {l : Bool} {a : Addr} {xs ys : List V} (h : SqX X.K l H a xs) (h' : SqX X.K l H a ys) : xs = ys := by
  cases l
  · exact I.tuple_inj (a := a) h h'
  · exact I.list_inj (a := a) h h'
end

/-! ### zip over any two of them -/
def Itzx (K : PySem.W.Frag) (l m : Bool) (a b : Addr) : It :=
  ⟨fun i H => ∃ (xs ys : List V) (x y : V), SqX K l H a xs ∧ SqX K m H b ys ∧ xs[i]? = some x ∧ ys[i]? = some y,
   fun i H v H' => ∃ T x y, v = .ref T ∧ H T = none ∧ H' = upd H T (.tup [x, y]) ∧ (∀ xs, SqX K l H a xs → xs[i]? = some x) ∧ ∀ ys, SqX K m H b ys → ys[i]? = some y,
   fun i H => ∃ xs ys : List V, SqX K l H a xs ∧ SqX K m H b ys ∧ (i = xs.length ∧ i ≤ ys.length ∨ i = ys.length ∧ i ≤ xs.length)⟩
structure Apart5 (z TI TO i1 i2 a b : Addr) : Prop where
  sep : ZipSep2 z TI TO i1 i2 [i1, a] [i2, b]
  n1 : a ≠ i1
  n2 : b ≠ i2
theorem turn_zx {P : Program} {w : World} {K : PySem.W.Frag} {elts : List Expr} {kk : Nat} {tpos : Pos} {a b z TI TO i1 i2 : Addr} {l m : Bool} (D : Apart5 z TI TO i1 i2 a b) :
    Turn P w K (.Tuple elts kk tpos) (Itzx K l m a b) [z, TI, TO, i1, i2] z
      (fun i h => IsZip h z TI TO .none ∧ IsTupOf2 h TI (.ref i1) (.ref i2) ∧ (∃ x y, IsTupOf2 h TO x y) ∧ ItAt l h i1 a i ∧ ItAt m h i2 b i) where
  mem := by simp
  obj := by
    rintro i h ⟨q1, q2, ⟨x, y, q3⟩, q4, q5⟩ c hc
    simp only [List.mem_cons, List.not_mem_nil, or_false] at hc
    rcases hc with rfl | rfl | rfl | rfl | rfl
    · exact ⟨_, q1, fun v q => nomatch q⟩
    · exact ⟨_, q2, fun v q => nomatch q⟩
    · exact ⟨_, q3, fun v q => nomatch q⟩
    · exact q4.obj
    · exact q5.obj
  keep := by
    rintro i h h' ⟨q1, q2, ⟨x, y, q3⟩, q4, q5⟩ k
    exact ⟨k _ (by simp) _ q1, k _ (by simp) _ q2, ⟨x, y, k _ (by simp) _ q3⟩, q4.keep (k i1 (by simp)), q5.keep (k i2 (by simp))⟩
  item := by
    intro X hP hw hK hc i pins s σ H E I hf st hg
    subst hP hw hK
    obtain ⟨q1, q2, ⟨x0, y0, q3⟩, q4, q5⟩ := st
    obtain ⟨xs, ys, x, y, hx, hy, ex, ey⟩ := hg
    obtain ⟨us, r1, p1, lt1⟩ := sqx_vals I hx
    obtain ⟨vs, r2, p2, lt2⟩ := sqx_vals I hy
    obtain ⟨u, hu, ru⟩ := r1.get ex
    obtain ⟨v, hv, rv⟩ := r2.get ey
    have hh : X.A.in1.handled = none := I.ok.hd hc
    have g1 := draws_at (prog := X.prog) (w := X.w) hh l i1 a D.n1 us.toArray
    have g2 := draws_at (prog := X.prog) (w := X.w) hh m i2 b D.n2 vs.toArray
    have b1 : i < us.toArray.size := by
      have := (List.getElem?_eq_some_iff.mp hu).1
      simpa using this
    have b2 : i < vs.toArray.size := by
      have := (List.getElem?_eq_some_iff.mp hv).1
      simpa using this
    have zl : z < s.heap.objs.size := Heap.lt_size q1
    refine wpAny_pyNext_zipD2_item D.sep g1 g2 q1 q2 q3 ⟨q4, p1⟩ ⟨q5, p2⟩ b1 b2 ?_
    intro u' v' h' tk eu ev z' TO' t1 t2 hT hsz hk
    have eu' : u' = u := by
      have e : us[i]? = some u' := by simpa using eu
      exact Option.some.inj (e.symm.trans hu)
    have ev' : v' = v := by
      have e : vs[i]? = some v' := by simpa using ev
      exact Option.some.inj (e.symm.trans hv)
    subst eu'
    subst ev'
    refine ⟨_, rfl, wpAny_letOwnedTupleGo_zip (s := { s with heap := h', toks := tk }) z' ?_⟩
    intro h2 z2 sb
    have keepT : h2.get? s.heap.objs.size = some { cls := .type "tuple", data := .seq #[u', v'] } := (sb.2 _ (Nat.ne_of_gt zl)).trans hT
    have all : ∀ c o, c ∉ [z, TI, TO, i1, i2] → s.heap.get? c = some o → h2.get? c = some o := by
      intro c o hc e
      simp only [List.mem_cons, List.not_mem_nil, or_false, not_or] at hc
      exact (sb.2 c hc.1).trans (hk c o hc.1 hc.2.2.1 hc.2.2.2.1 hc.2.2.2.2 e)
    have new : ObjOk X.prog X.w (upd H s.heap.objs.size (.tup [x, y])) h2 s.heap.objs.size (.tup [x, y]) :=
      ⟨(by decide : 2 ≤ sizeLine), [u', v'], Paired.cons ru (Paired.cons rv Paired.nil), ⟨_, keepT, rfl, _, rfl⟩⟩
    have J := I.turnedNew (t' := tk) all hf (Nat.le_refl _) new
    refine ⟨.ref s.heap.objs.size, _, J, rfl, ⟨_, x, y, rfl, I.hok.fresh (Nat.le_refl _), rfl, fun xs' h1 => ?_, fun ys' h1 => ?_⟩, ⟨z2, ?_, ⟨u', v', ?_⟩, ?_, ?_⟩, fun c hc => ?_⟩
    · rw [sqx_one I h1 hx]; exact ex
    · rw [sqx_one I h1 hy]; exact ey
    · exact (sb.2 _ D.sep.TIz).trans (hk _ _ D.sep.TIz D.sep.TITO D.sep.TIi1 D.sep.TIi2 q2)
    · exact (sb.2 _ D.sep.TOz).trans TO'
    · exact t1.1.keep fun o e => (sb.2 _ (Ne.symm D.sep.zi1)).trans e
    · exact t2.1.keep fun o e => (sb.2 _ (Ne.symm D.sep.zi2)).trans e
    · have hlt : c < s.heap.objs.size := by
        simp only [List.mem_cons, List.not_mem_nil, or_false] at hc
        rcases hc with rfl | rfl | rfl | rfl | rfl
        · exact zl
        · exact Heap.lt_size q2
        · exact Heap.lt_size q3
        · obtain ⟨o, e, _⟩ := q4.obj; exact Heap.lt_size e
        · obtain ⟨o, e, _⟩ := q5.obj; exact Heap.lt_size e
      rw [upd_ne (Nat.ne_of_lt hlt)]
      exact (hf c hc).1
  done := by
    intro X hP hw hK hc i pins s σ H E I hf st hg
    subst hP hw hK
    obtain ⟨q1, q2, ⟨x0, y0, q3⟩, q4, q5⟩ := st
    obtain ⟨xs, ys, hx, hy, he⟩ := hg
    obtain ⟨us, r1, p1, lt1⟩ := sqx_vals I hx
    obtain ⟨vs, r2, p2, lt2⟩ := sqx_vals I hy
    have hh : X.A.in1.handled = none := I.ok.hd hc
    have g1 := draws_at (prog := X.prog) (w := X.w) hh l i1 a D.n1 us.toArray
    have g2 := draws_at (prog := X.prog) (w := X.w) hh m i2 b D.n2 vs.toArray
    have e1 : us.toArray.size = xs.length := by rw [List.size_toArray, r1.length]
    have e2 : vs.toArray.size = ys.length := by rw [List.size_toArray, r2.length]
    refine wpAny_pyNext_zipD2_end D.sep g1 g2 q1 q2 q3 ⟨q4, p1⟩ ⟨q5, p2⟩ (by omega) (by omega) (by omega) ?_
    intro h' tk hk
    refine ⟨rfl, I.turnedL (t' := tk) (ch := [z, TI, TO, i1, i2]) (fun c o hc e => ?_) hf⟩
    simp only [List.mem_cons, List.not_mem_nil, or_false, not_or] at hc
    exact hk c o hc.1 hc.2.2.1 hc.2.2.2.1 hc.2.2.2.2 e
  self := fun A i s Q E st h => wpAny_pyIter_zip st.1 h

def iZipX (K : PySem.W.Frag) (ta : TA) : TI := fun σ H R => ta σ H fun vs H1 => ∃ l m a b xs ys, vs = [.ref a, .ref b] ∧ SqX K l H1 a xs ∧ SqX K m H1 b ys ∧ R (Itzx K l m a b) H1
theorem pi_zipX {X : Cx} {e e2 : Expr} {ta : TA} {p pos tpos : Pos} {elts : List Expr} {kk : Nat} (hg : Gl X "zip") (hm : X.mg "zip" = none) (ha : PA X [e, e2] ta)
    (hs : starEach [e, e2] X.env = (false, eval e X.env) :: starEach [e2] X.env := by rfl) (hpl : (backTo pos (starEach [e2] X.env)).any (·.1) = false := by rfl) :
    PI X (.Tuple elts kk tpos) (.Call (.Name "zip" p) [e, e2] [] pos) (iZipX X.K ta) := by
  constructor
  intro pins s σ H R I h
  refine Call_ (ld_blt I hg hm PyProof.Rows.boot_zip (PyProof.Rows.callWith_type1 (thn (ha.run pos pins s σ H _ I h) ?_) hs hpl))
  rintro us s1 ⟨vs, H1, I1, r1, l, m, a, b, xs, ys, rfl, hx, hy, q⟩
  obtain ⟨us1, w1, p1, lt1⟩ := sqx_vals I1 hx
  obtain ⟨us2, w2, p2, lt2⟩ := sqx_vals I1 hy
  rcases r1 with _ | ⟨ra, r1⟩
  rcases r1 with _ | ⟨rb, r1⟩
  cases r1
  cases ra
  cases rb
  refine zip_begins2 (begins_at l a us1.toArray) (begins_at m b us2.toArray) p1 p2 ?_
  intro h' hz hTI hTO h1 h2 hsz hk
  refine wpAny_pyIter_zip hz ?_
  have I2 : Inv X pins σ H1 { s1 with heap := h' } := I1.kept (t' := s1.toks) hk
  have D : Apart5 (s1.heap.objs.size + 4) (s1.heap.objs.size + 2) (s1.heap.objs.size + 3) s1.heap.objs.size (s1.heap.objs.size + 1) a b :=
    ⟨zip_sep2 (N := s1.heap.objs.size) (fp1 := [a]) (fp2 := [b]) (by simpa using lt1) (by simpa using lt2), Nat.ne_of_lt lt1, Nat.ne_of_lt (Nat.lt_succ_of_lt lt2)⟩
  refine ⟨s1.heap.objs.size + 4, [s1.heap.objs.size + 4, s1.heap.objs.size + 2, s1.heap.objs.size + 3, s1.heap.objs.size, s1.heap.objs.size + 1], _, _, H1, rfl, I2, turn_zx D, ⟨hz, hTI, ⟨_, _, hTO⟩, itObj_at l h1, itObj_at m h2⟩, ?_, q⟩
  intro c hc
  have hle : s1.heap.objs.size ≤ c := by
    simp only [List.mem_cons, List.not_mem_nil, or_false] at hc
    rcases hc with rfl | rfl | rfl | rfl | rfl
    · exact Nat.le_add_right _ _
    · exact Nat.le_add_right _ _
    · exact Nat.le_add_right _ _
    · exact Nat.le_refl _
    · exact Nat.le_add_right _ _
  exact I1.fpOk hle (I1.hok.fresh hle)
theorem walk_zx {K : PySem.W.Frag} {l m : Bool} {a b : Addr} {xs ys : List V} (hl : xs.length = ys.length) :
    Walk (Itzx K l m a b) xs.length (fun H => SqX K l H a xs ∧ SqX K m H b ys) (YPair (fun i => xs[i]?) (fun i => ys[i]?)) := by
  refine ⟨fun i H hi q => ?_, fun H q => ⟨xs, ys, q.1, q.2, .inl ⟨rfl, by omega⟩⟩, fun i H v H' hi q y => ?_⟩
  · have h2 : i < ys.length := by omega
    exact ⟨xs, ys, xs[i], ys[i], q.1, q.2, by simp [hi], by simp [h2]⟩
  · obtain ⟨T, x, z, h1, h2, h3, h4, h5⟩ := y
    exact ⟨T, x, z, h1, h2, h3, h4 xs q.1, h5 ys q.2⟩

/-! ### enumerate over either -/
def Itex (K : PySem.W.Frag) (l : Bool) (a : Addr) : It :=
  ⟨fun i H => ∃ (xs : List V) (x : V), SqX K l H a xs ∧ xs[i]? = some x,
   fun i H v H' => ∃ T x, v = .ref T ∧ H T = none ∧ H' = upd H T (.tup [.int (i : Nat), x]) ∧ ∀ xs, SqX K l H a xs → xs[i]? = some x,
   fun i H => ∃ xs : List V, SqX K l H a xs ∧ i = xs.length⟩
end Wb

set_option Elab.async false
set_option linter.all false
set_option maxRecDepth 100000
set_option maxHeartbeats 2000000
namespace Wb
open PySem PySem.Spec PyProof.Rows L2
open AutoSeq1 (wpAny_loadPart')

theorem meets_enumT (a : Addr) (us : Array Value) (n : Nat) (dct : Option Addr) (sl : Array (Option Value)) :
    Meets (Builtin.«enumerate.__new__» ⟨[.type "enumerate", .ref a], []⟩) (fun _ R s => s.heap.get? a = some { cls := .type "tuple", dict := dct, data := .seq us n, slots := sl } ∧
      R (.ok (.ret (.ref (s.heap.push (itObj false a)).objs.size)))
        { s with heap := (s.heap.push (itObj false a)).push { cls := .type "enumerate", data := .fields #[.none, .bool false, .ref s.heap.objs.size, rawInt 0, .none, .none] } }) := by
  apply Meets.of_wp
  intro prog w A R s h
  obtain ⟨hp, g, d, tk, os⟩ := s
  obtain ⟨hl, h⟩ := h
  have hsub := sub_enumerate
  have hT : Heap.IsTuple (Shared.heap ⟨hp, g, d, tk, os⟩) a us := ⟨_, hl, rfl, n, rfl⟩
  wp_walk using wpAny_loadPart' hl
  apply wpAny_stack_any
  intro st
  apply wpAny_pure
  split
  · rename_i c _ _ _ _ _
    cases (c == Value.type "enumerate") <;> wp_walk using wpAny_loadPart' hl, wpAny_pyIter_tuple hT
    · exact ⟨_, rfl, h⟩
    · exact ⟨_, rfl, h⟩
  · wp_walk using wpAny_loadPart' hl, wpAny_pyIter_tuple hT
    exact ⟨_, rfl, h⟩
theorem call_enumT {prog : Program} {w : World} {A : Around} {E : Value → Shared → Prop} {s : Shared} {a : Addr} {us : Array Value} {Q : Value → Shared → Prop} (hT : s.heap.IsTuple a us)
    (h : ∀ h', IsEnum h' (s.heap.objs.size + 1) s.heap.objs.size 0 .none → ItAt false h' s.heap.objs.size a 0 → (∀ b o, s.heap.get? b = some o → h'.get? b = some o) → Q (.ref (s.heap.objs.size + 1)) { s with heap := h' }) :
    wpAny (model prog w) A (call (.type "enumerate") [.ref a]) Q E s := by
  obtain ⟨⟨c, dct, dt, sl⟩, hl, hc, n, hd⟩ := hT
  have hc' : c = .type "tuple" := hc
  have hd' : dt = .seq us n := hd
  subst hc' hd'
  refine callType_new F.called_enumerate (by decide) (F.typeCall_enumerate_1 _) (F.newCall_enumerate_1 _) (fun obj => F.args_object_init_2 obj _) F.entry_enumerate_new (meets_enumT a us n dct sl) ⟨hl, ?_⟩
  have sz : (s.heap.push (itObj false a)).objs.size = s.heap.objs.size + 1 := Heap.size_push ..
  have e0 := Heap.get?_push_size (s.heap.push (itObj false a)) (o := { cls := .type "enumerate", data := .fields #[.none, .bool false, .ref s.heap.objs.size, rawInt 0, .none, .none] }) rfl
  rw [sz] at e0
  show _ ∧ _
  rw [sz]
  exact ⟨⟨_, e0, rfl⟩, h _ e0 (itObj_at false (Heap.get?_push_of_some _ (Heap.get?_push_size _ rfl))) fun b o x => Heap.get?_push_of_some _ (Heap.get?_push_of_some _ x)⟩

/-- the tuple at a, item by item, each in a new pair with its number -/
def Itet (K : PySem.W.Frag) (a : Addr) : It :=
  ⟨fun i H => ∃ (xs : List V) (x : V), SqT K H a xs ∧ xs[i]? = some x,
   fun i H v H' => ∃ T x, v = .ref T ∧ H T = none ∧ H' = upd H T (.tup [.int (i : Nat), x]) ∧ ∀ xs, SqT K H a xs → xs[i]? = some x,
   fun i H => ∃ xs : List V, SqT K H a xs ∧ i = xs.length⟩
theorem turn_et {P : Program} {w : World} {K : PySem.W.Frag} {elts : List Expr} {kk : Nat} {tpos : Pos} (a e it : Addr) (hne : e ≠ it) (hea : e ≠ a) (hia : a ≠ it) :
    Turn P w K (.Tuple elts kk tpos) (Itet K a) [e, it] e (fun i h => (∃ old, IsEnum h e it ((i : Nat) : Int) old) ∧ ItAt false h it a i) where
  mem := by simp
  obj := by
    rintro i h ⟨⟨old, q1⟩, q2⟩ b hb
    simp only [List.mem_cons, List.not_mem_nil, or_false] at hb
    rcases hb with rfl | rfl
    · exact ⟨_, q1, fun v q => nomatch q⟩
    · exact q2.obj
  keep := by
    rintro i h h' ⟨⟨old, q1⟩, q2⟩ k
    exact ⟨⟨old, k _ (by simp) _ q1⟩, q2.keep (k it (by simp))⟩
  item := by
    intro X hP hw hK hc i pins s σ H E I hf st hg
    subst hP hw hK
    obtain ⟨⟨old, q1⟩, q2⟩ := st
    obtain ⟨xs, x, hx, ex⟩ := hg
    obtain ⟨us, r1, p1, lt1⟩ := sqx_vals (l := false) I hx
    obtain ⟨u, hu, ru⟩ := r1.get ex
    have hh : X.A.in1.handled = none := I.ok.hd hc
    have g1 := draws_at (prog := X.prog) (w := X.w) hh false it a hia us.toArray
    have b1 : i < us.toArray.size := by
      have := (List.getElem?_eq_some_iff.mp hu).1
      simpa using this
    have el : e < s.heap.objs.size := Heap.lt_size q1
    have il : it < s.heap.objs.size := by obtain ⟨o, z, _⟩ := q2.obj; exact Heap.lt_size z
    refine wpAny_pyNext_enum_itemC g1 q1 ⟨q2, p1⟩ b1 hne (by simp [hne, hea]) ?_
    intro u' h' tk eu ho t1 hT hsz hk
    have eu' : u' = u := by
      have z : us[i]? = some u' := by simpa using eu
      exact Option.some.inj (z.symm.trans hu)
    subst eu'
    refine ⟨_, rfl, wpAny_letOwnedTupleGo_enum (s := { s with heap := h', toks := tk + 1 }) ho ?_⟩
    intro h2 he' sb
    have keepT := (sb.2 _ (Nat.ne_of_gt el)).trans hT
    have all : ∀ c o, c ∉ [e, it] → s.heap.get? c = some o → h2.get? c = some o := by
      intro c o hc z
      simp only [List.mem_cons, List.not_mem_nil, or_false, not_or] at hc
      exact (sb.2 c hc.1).trans (hk c o hc.1 hc.2 z)
    have new : ObjOk X.prog X.w (upd H s.heap.objs.size (.tup [.int (i : Nat), x])) h2 s.heap.objs.size (.tup [.int (i : Nat), x]) :=
      ⟨(by decide : 2 ≤ sizeLine), [.int i tk, u'], Paired.cons ⟨_, rfl⟩ (Paired.cons ru Paired.nil), ⟨_, keepT, rfl, _, rfl⟩⟩
    have J := I.turnedNew (t' := tk + 1) all hf (Nat.le_refl _) new
    refine ⟨.ref s.heap.objs.size, _, J, rfl, ⟨_, x, rfl, I.hok.fresh (Nat.le_refl _), rfl, fun xs' h1 => ?_⟩, ⟨⟨u', ?_⟩, ?_⟩, fun c hc => ?_⟩
    · rw [sqx_one (l := false) I h1 hx]; exact ex
    · have z : ((i + 1 : Nat) : Int) = (i : Int) + 1 := by omega
      rw [z]
      exact he'
    · exact t1.1.keep fun o z => (sb.2 _ (Ne.symm hne)).trans z
    · have hlt : c < s.heap.objs.size := by
        simp only [List.mem_cons, List.not_mem_nil, or_false] at hc
        rcases hc with rfl | rfl
        · exact el
        · exact il
      rw [upd_ne (Nat.ne_of_lt hlt)]
      exact (hf c hc).1
  done := by
    intro X hP hw hK hc i pins s σ H E I hf st hg
    subst hP hw hK
    obtain ⟨⟨old, q1⟩, q2⟩ := st
    obtain ⟨xs, hx, he⟩ := hg
    obtain ⟨us, r1, p1, lt1⟩ := sqx_vals (l := false) I hx
    have hh : X.A.in1.handled = none := I.ok.hd hc
    have g1 := draws_at (prog := X.prog) (w := X.w) hh false it a hia us.toArray
    have e1 : us.toArray.size = i := by rw [List.size_toArray, ← r1.length, he]
    refine wpAny_pyNext_enum_endD g1 q1 (by rw [e1]; exact ⟨q2, p1⟩) ?_
    intro h' eb
    obtain ⟨f0, f1, f2, f3, f4, f5⟩ := hf it (by simp)
    exact ⟨rfl, I.turned (t' := s.toks) (fun b o hb q => eb b o hb q) f0 f1 f3 f4 f5⟩
  self := by
    rintro A i s Q E ⟨⟨old, q1⟩, _⟩ h
    exact wpAny_pyIter_enum q1 h
def iEnumT (K : PySem.W.Frag) (ta : TA) : TI := fun σ H R => ta σ H fun vs H1 => ∃ a xs, vs = [.ref a] ∧ SqT K H1 a xs ∧ R (Itet K a) H1
theorem pi_enumT {X : Cx} {e : Expr} {ta : TA} {p pos tpos : Pos} {elts : List Expr} {kk : Nat} (hg : Gl X "enumerate") (hm : X.mg "enumerate" = none) (ha : PA X [e] ta)
    (hs : starEach [e] X.env = [(false, eval e X.env)] := by rfl) : PI X (.Tuple elts kk tpos) (.Call (.Name "enumerate" p) [e] [] pos) (iEnumT X.K ta) := by
  constructor
  intro pins s σ H R I h
  refine Call_ (ld_blt I hg hm boot_enumerate (PyProof.Rows.callWith_type1 (thn (ha.run pos pins s σ H _ I h) ?_) hs rfl))
  rintro us s1 ⟨vs, H1, I1, r1, a, xs, rfl, hx, q⟩
  obtain ⟨us1, w1, p1, lt1⟩ := sqx_vals (l := false) I1 hx
  rcases r1 with _ | ⟨ra, r1⟩
  cases r1
  cases ra
  refine call_enumT p1 ?_
  intro h' he hit hk
  refine wpAny_pyIter_enum he ?_
  have I2 : Inv X pins σ H1 { s1 with heap := h' } := I1.kept (t' := s1.toks) hk
  refine ⟨s1.heap.objs.size + 1, [s1.heap.objs.size + 1, s1.heap.objs.size], _, _, H1, rfl, I2, turn_et a _ _ (Nat.succ_ne_self _) (Nat.ne_of_gt (Nat.lt_succ_of_lt lt1)) (Nat.ne_of_lt lt1), ⟨⟨.none, he⟩, hit⟩, ?_, q⟩
  intro c hc
  have hle : s1.heap.objs.size ≤ c := by
    simp only [List.mem_cons, List.not_mem_nil, or_false] at hc
    rcases hc with rfl | rfl
    · exact Nat.le_add_right _ _
    · exact Nat.le_refl _
  exact I1.fpOk hle (I1.hok.fresh hle)
theorem walk_et {K : PySem.W.Frag} {a : Addr} {xs : List V} : Walk (Itet K a) xs.length (fun H => SqT K H a xs) (YPair (fun i => some (.int (i : Nat))) (fun i => xs[i]?)) := by
  refine ⟨fun i H hi q => ⟨xs, xs[i], q, by simp [hi]⟩, fun H q => ⟨xs, q, rfl⟩, fun i H v H' hi q y => ?_⟩
  obtain ⟨T, x, h1, h2, h3, h4⟩ := y
  exact ⟨T, .int (i : Nat), x, h1, h2, h3, rfl, h4 xs q⟩
end Wb

set_option Elab.async false
set_option linter.all false
set_option maxRecDepth 100000
set_option maxHeartbeats 2000000
namespace L2
open PySem PySem.Spec PyProof.Rows
section
variable {P : Program} {w : World} {A : Around} {E : Value → Shared → Prop} {s : Shared}
/-- sorted of a set of one tuple, whatever its length -/
theorem sorted_lone {a : Addr} {q : Addr × List Int} {es : Array (Int × Value)} {ep : Nat} {t : SetTable} {Q : Value → Shared → Prop} (R : SetTR P w s.heap a [q] es ep t) (hh : A.handled = none)
    (hQ : ∀ (s' : Shared) (p : Addr) (c : Nat), (∀ b o, s.heap.get? b = some o → s'.heap.get? b = some o) → s'.gens = s.gens → s'.os = s.os → s.heap.objs.size ≤ p →
      s'.heap.get? p = some (seqObj "list" #[.ref q.1] c) → Q (.ref p) s') : wpAny (model P w) A (call (.builtin "sorted") [.ref a]) Q E s := by
  obtain ⟨o, ho, hex, hd⟩ := R.ob
  have sz1 := R.size
  apply Calls.call_function_entry kind_sorted plain_sorted entry_sorted (args_sorted1 _)
  unfold Builtin.«sorted»
  apply wpAny_bind (m := checkCount "sorted" 1 1 _)
  apply wpAny_pure
  apply wpAny_bind
  apply collect_set (A := A.in1) hh ⟨o, ho, hex.1, hd⟩ R.fits (by unfold scanBound; simp at sz1; omega) R.tab.ris R.led
  intro s1 vs k1 hz g1 o1 pm
  have rows1 : es.toList.map (·.2) = [Value.ref q.1] := by
    rw [R.rows]
    rfl
  rw [rows1] at pm
  have evs : vs = [Value.ref q.1] := List.perm_singleton.mp pm
  subst evs
  apply wpAny_bind
  refine wpAny_newList ?_ (show 1 ≤ sizeLine by decide)
  have hoL : (s1.heap.push (seqObj "list" #[Value.ref q.1] 0)).get? s1.heap.objs.size = some (seqObj "list" [Value.ref q.1].toArray 0) := Heap.get?_push_size _ rfl
  apply wpAny_bind
  apply wpAny_holding
  refine wpAny_call_entry (s := { s1 with heap := s1.heap.push (seqObj "list" #[Value.ref q.1] 0) }) slot_list_sort (self := .ref s1.heap.objs.size) ⟨_, hoL, rfl⟩ entry_list_sort ?_ (args_list_sort _)
  refine SK.plain_sort (r := fun _ => 0) hoL (show 1 < 64 by decide) (fun h2 => absurd (show 2 ≤ 1 from h2) (by decide)) ?_
  intro ps out h1 h2 h3
  have eout : out.toList = [Value.ref q.1] := by
    rw [h1]
    have z := h2.map Prod.snd
    exact List.perm_singleton.mp z
  obtain ⟨c, hc⟩ := sortedHeap_at (vs := [Value.ref q.1]) (out := out) hoL
  have eo2 : out = #[Value.ref q.1] := by
    have z := congrArg List.toArray eout
    simpa using z
  subst eo2
  refine ⟨_, rfl, wpAny_pure ⟨_, rfl, hQ _ s1.heap.objs.size c (fun b u e => ?_) g1 o1 hz hc⟩⟩
  have e1 := k1 b u e
  have lt1 := Heap.lt_size e1
  show (sortedHeap (s1.heap.push (seqObj "list" #[Value.ref q.1] 0)) s1.heap.objs.size [Value.ref q.1] #[Value.ref q.1]).get? b = some u
  rw [sortedHeap_old (Nat.ne_of_lt lt1) (by rw [size_push']; exact Nat.lt_succ_of_lt lt1)]
  exact Heap.get?_push_of_some _ e1
end
section
variable {X : Cx}
/-- sorted(set) of tuples of as many ints each -/
def rSortedW (K : PySem.W.Frag) (P : Program) (w : World) : List V → Hp → VK → Prop := fun vs H Q => ∃ (a : Addr) (L : List (Addr × List Int)) (d : Nat) (B : Int), vs = [V.ref a] ∧ H a = some (SetTO P w a L) ∧
  (∀ p ∈ L, SqT K H p.1 (p.2.map V.int)) ∧ (∀ p ∈ L, p.2.length = d ∧ TS.Bd B p.2) ∧ L ≠ [] ∧
  ∀ (L' : List (Addr × List Int)) (p : Addr), L'.Perm L → (L'.map (·.2)).Nodup → L'.length < 64 → L'.Pairwise (fun q r => TS.code B q.2 ≤ TS.code B r.2) → H p = none → Q (.ref p) (upd H p (.lst (L'.map fun q => V.ref q.1)))
theorem cr_sortedW (hc : X.calm = true) : CallR X (.builtin "sorted") (rSortedW X.K X.prog X.w) := by
  intro pins s σ H vs us Q I r h
  obtain ⟨a, L, d, B, e1, ha, hk, hB, hne, q⟩ := h
  by_cases hd : 1 ≤ d
  · exact cr_sortedT hc pins s σ H vs us Q I r ⟨a, L, d, B, e1, ha, hk, hd, hB, q⟩
  · subst e1
    have R0 : SetT0 X.prog X.w s.heap a L := (I.hok a _ ha).1
    obtain ⟨es, ep, t, R⟩ := R0.full fun p hp => I.isT (hk p hp)
    have emp : ∀ p ∈ L, p.2 = [] := fun p hp => List.eq_nil_of_length_eq_zero (by have := (hB p hp).1; omega)
    obtain ⟨p0, rfl⟩ : ∃ p0, L = [p0] := by
      cases L with
      | nil => exact absurd rfl hne
      | cons p0 L1 =>
        cases L1 with
        | nil => exact ⟨p0, rfl⟩
        | cons p1 L2 =>
          exfalso
          have nd := R.nd
          have z0 := emp p0 (by simp)
          have z1 := emp p1 (by simp)
          simp [z0, z1] at nd
    rw [Vals.ref1 r]
    refine sorted_lone R (I.ok.hd hc) ?_
    intro s' p c k g o hp hg
    have hn : H p = none := I.hok.fresh hp
    have J : Inv X pins σ (upd H p (.lst [V.ref p0.1])) { s with heap := s'.heap, gens := s'.gens, drawn := s'.drawn, toks := s'.toks } :=
      I.call (ch := []) (Un.laid k hp hn) (I.hok.laid k hp ⟨(by show 1 ≤ sizeLine; decide), [Value.ref p0.1], c, Paired.cons rfl Paired.nil, hg⟩) (by rw [g]; exact I.bare) (fun _ z => nomatch z)
    have e : s' = { s with heap := s'.heap, gens := s'.gens, drawn := s'.drawn, toks := s'.toks } := by
      cases s'; cases s; cases o; rfl
    rw [e]
    exact ⟨.ref p, _, J, rfl, q [p0] p (List.Perm.refl _) (by simp) (show 1 < 64 by decide) (by simp) hn⟩
end
end L2

set_option Elab.async false
set_option linter.all false
set_option maxRecDepth 100000
set_option maxHeartbeats 2000000
namespace Wb
open PySem PySem.Spec PyProof.Rows L2

/-! ### data -/
abbrev Word := List Int
structure Gap where
  frm : Int
  to_ : Int
  price : Int
  ways : List Word
structure Bolt where
  many : Int
  gaps : List Gap
abbrev Lock := List Bolt

/-- tuples that are read stay -/
def TX (K : PySem.W.Frag) (H H' : Hp) : Prop := (∀ a xs, SqT K H a xs → SqT K H' a xs) ∧ ∀ a xs, H a = some (.tup xs) → H' a = some (.tup xs)
theorem TX.refl (K : PySem.W.Frag) (H : Hp) : TX K H H := ⟨fun _ _ h => h, fun _ _ h => h⟩
theorem TX.trans {K : PySem.W.Frag} {H H1 H2 : Hp} (a : TX K H H1) (b : TX K H1 H2) : TX K H H2 := ⟨fun x o h => b.1 x o (a.1 x o h), fun x o h => b.2 x o (a.2 x o h)⟩
theorem TX.ex {K : PySem.W.Frag} {H H' : Hp} (e : Evl.Ex H H') : TX K H H' := ⟨fun _ _ h => Evl.ex_t e h, fun _ _ h => e _ _ h⟩
/-- all but what stands at p is kept -/
def Exx (p : Addr) (H H' : Hp) : Prop := ∀ a o, a ≠ p → H a = some o → H' a = some o
theorem Exx.refl (p : Addr) (H : Hp) : Exx p H H := fun _ _ _ h => h
theorem Exx.trans {p : Addr} {H H1 H2 : Hp} (a : Exx p H H1) (b : Exx p H1 H2) : Exx p H H2 := fun x o n h => b x o n (a x o n h)
theorem Exx.ex {p : Addr} {H H' : Hp} (e : Evl.Ex H H') : Exx p H H' := fun a o _ h => e a o h
theorem Exx.put {p : Addr} {H : Hp} {o : HO} : Exx p H (upd H p o) := fun a u n h => by rw [upd_ne n]; exact h
theorem Exx.new {p q : Addr} {H : Hp} {o : HO} (h : H q = none) : Exx p H (upd H q o) := Exx.ex (Evl.Ex.new h)
/-- .. where p is no tuple -/
theorem Exx.tx {K : PySem.W.Frag} {p : Addr} {H H' : Hp} (e : Exx p H H') (np : ∀ xs, ¬ Rd H p (.tup xs)) : TX K H H' := by
  refine ⟨fun a xs h => ?_, fun a xs h => e a _ (fun z => np xs (.inl (z ▸ h))) h⟩
  rcases h with h | h
  · have na : a ≠ p := fun z => np xs (z ▸ h)
    rcases h with h | ⟨o, h⟩
    · exact .inl (.inl (e a _ na h))
    · exact .inl (.inr ⟨o, e a _ na h⟩)
  · exact .inr h
theorem Exx.l {K : PySem.W.Frag} {p a : Addr} {H H' : Hp} {xs : List V} (e : Exx p H H') (na : a ≠ p) (h : SqL K H a xs) : SqL K H' a xs := by
  rcases h with (h | ⟨o, h⟩) | h
  · exact .inl (.inl (e a _ na h))
  · exact .inl (.inr ⟨o, e a _ na h⟩)
  · exact .inr h

def Wd (K : PySem.W.Frag) (H : Hp) (v : V) (ns : Word) : Prop := ∃ a, v = .ref a ∧ H a = some (.tup (ns.map V.int))
def GapAt (K : PySem.W.Frag) (H : Hp) (v : V) (g : Gap) : Prop :=
  ∃ a b ws, v = .ref a ∧ SqT K H a [.int g.frm, .int g.to_, .int g.price, .ref b] ∧ SqT K H b ws ∧ Paired (Wd K H) ws g.ways
def BoltAt (K : PySem.W.Frag) (H : Hp) (v : V) (b : Bolt) : Prop := ∃ a c gs, v = .ref a ∧ SqT K H a [.int b.many, .ref c] ∧ SqT K H c gs ∧ Paired (GapAt K H) gs b.gaps
def LockAt (K : PySem.W.Frag) (H : Hp) (v : V) (l : Lock) : Prop := ∃ a bs, v = .ref a ∧ SqT K H a bs ∧ Paired (BoltAt K H) bs l

theorem Paired.imp {α β : Type} {F G : α → β → Prop} (f : ∀ a b, F a b → G a b) : ∀ {l₁ : List α} {l₂ : List β}, Paired F l₁ l₂ → Paired G l₁ l₂
  | _, _, .nil => .nil
  | _, _, .cons r t => .cons (f _ _ r) (Paired.imp f t)
section
variable {K : PySem.W.Frag} {H H' : Hp} {v : V}
theorem Wd.mono (e : TX K H H') {ns : Word} (h : Wd K H v ns) : Wd K H' v ns := by
  obtain ⟨a, r, q⟩ := h
  exact ⟨a, r, e.2 _ _ q⟩
theorem GapAt.mono (e : TX K H H') {g : Gap} (h : GapAt K H v g) : GapAt K H' v g := by
  obtain ⟨a, b, ws, r, q1, q2, q3⟩ := h
  exact ⟨a, b, ws, r, e.1 _ _ q1, e.1 _ _ q2, Paired.imp (fun _ _ => Wd.mono e) q3⟩
theorem BoltAt.mono (e : TX K H H') {b : Bolt} (h : BoltAt K H v b) : BoltAt K H' v b := by
  obtain ⟨a, c, gs, r, q1, q2, q3⟩ := h
  exact ⟨a, c, gs, r, e.1 _ _ q1, e.1 _ _ q2, Paired.imp (fun _ _ => GapAt.mono e) q3⟩
theorem LockAt.mono (e : TX K H H') {l : Lock} (h : LockAt K H v l) : LockAt K H' v l := by
  obtain ⟨a, bs, r, q1, q2⟩ := h
  exact ⟨a, bs, r, e.1 _ _ q1, Paired.imp (fun _ _ => BoltAt.mono e) q2⟩
end
section
variable {α β : Type} {R : α → β → Prop}
theorem Paired.get1 : ∀ {xs : List α} {ys : List β} {i : Nat} {x : α}, Paired R xs ys → xs[i]? = some x → ∃ y, ys[i]? = some y ∧ R x y
  | _, _, _, _, .nil, e => by simp at e
  | _, _, 0, _, .cons r _, e => by simp at e; subst e; exact ⟨_, rfl, r⟩
  | _, _, i + 1, x, .cons _ t, e => by
    obtain ⟨u, h1, h2⟩ := Paired.get1 (i := i) (x := x) t (by simpa using e)
    exact ⟨u, by simpa using h1, h2⟩
theorem Paired.get2 : ∀ {xs : List α} {ys : List β} {i : Nat} {y : β}, Paired R xs ys → ys[i]? = some y → ∃ x, xs[i]? = some x ∧ R x y
  | _, _, _, _, .nil, e => by simp at e
  | _, _, 0, _, .cons r _, e => by simp at e; subst e; exact ⟨_, rfl, r⟩
  | _, _, i + 1, y, .cons _ t, e => by
    obtain ⟨u, h1, h2⟩ := Paired.get2 (i := i) (y := y) t (by simpa using e)
    exact ⟨u, by simpa using h1, h2⟩
theorem Paired.len {xs : List α} {ys : List β} (h : Paired R xs ys) : xs.length = ys.length := Paired.length h
theorem Paired.app : ∀ {xs : List α} {ys : List β} {xs' : List α} {ys' : List β}, Paired R xs ys → Paired R xs' ys' → Paired R (xs ++ xs') (ys ++ ys')
  | _, _, _, _, .nil, s => s
  | _, _, _, _, .cons r t, s => .cons r (Paired.app t s)
theorem Paired.takeN : ∀ {xs : List α} {ys : List β} (n : Nat), Paired R xs ys → Paired R (xs.take n) (ys.take n)
  | _, _, 0, _ => .nil
  | _, _, _ + 1, .nil => .nil
  | _, _, n + 1, .cons r t => .cons r (Paired.takeN n t)
end
theorem take_succ_get {α : Type} {xs : List α} {i : Nat} {x : α} (h : xs[i]? = some x) : xs.take (i + 1) = xs.take i ++ [x] := by
  rw [List.take_add_one, h]
  rfl
theorem get_map_int {ns : List Int} {i : Nat} {x : V} (h : (ns.map V.int)[i]? = some x) : ∃ n, ns[i]? = some n ∧ x = .int n := by
  rw [List.getElem?_map] at h
  cases e : ns[i]? with
  | none => rw [e] at h; cases h
  | some n => rw [e] at h; exact ⟨n, rfl, (Option.some.inj h).symm⟩
theorem map_int_get {ns : List Int} {i : Nat} {n : Int} (h : ns[i]? = some n) : (ns.map V.int)[i]? = some (.int n) := by
  rw [List.getElem?_map, h]
  rfl

/-! ### what a lock must be -/
def lexLt2 (a b c d : Int) : Prop := a < c ∨ (a = c ∧ b < d)
structure GapOk (manys : List Int) (many : Int) (g : Gap) : Prop where
  f0 : 0 ≤ g.frm
  f1 : g.frm < many
  t0 : 0 ≤ g.to_
  t1 : g.to_ < many
  ne : g.frm ≠ g.to_
  p0 : 1 ≤ g.price
  p1 : g.price ≤ 1000000
  few : g.ways.length ≤ 8
  words : ∀ w ∈ g.ways, w.length = manys.length ∧ ∀ (i : Nat) (x m : Int), w[i]? = some x → manys[i]? = some m → 0 ≤ x ∧ x < m
  rise : g.ways.Pairwise (fun u w => HT.lexLt u w = true)
structure BoltOk (manys : List Int) (b : Bolt) : Prop where
  m0 : 2 ≤ b.many
  m1 : b.many ≤ 4
  gaps : ∀ g ∈ b.gaps, GapOk manys b.many g
  rise : b.gaps.Pairwise (fun g h => lexLt2 g.frm g.to_ h.frm h.to_)
  few : (b.gaps.map (fun g => g.ways.length)).sum ≤ 8
def manysOf (l : Lock) : List Int := l.map (·.many)
/-- the ways of the bolts numbered k and more, cut to k places -/
def cutsFrom (l : Lock) (k : Nat) (w : Word) : Prop := ∃ (j : Nat) (b : Bolt) (g : Gap) (u : Word), k ≤ j ∧ l[j]? = some b ∧ g ∈ b.gaps ∧ u ∈ g.ways ∧ w = u.take k
structure LockOk (l : Lock) : Prop where
  n0 : 1 ≤ l.length
  n1 : l.length ≤ 60
  bolts : ∀ (k : Nat) (b : Bolt), l[k]? = some b → BoltOk (manysOf (l.take k)) b
  words : ∀ (k : Nat) (ws : List Word), k < l.length → ws.Nodup → (∀ w ∈ ws, cutsFrom l k w) → ws.length ≤ 8
end Wb

set_option Elab.async false
set_option linter.all false
set_option maxRecDepth 100000
set_option maxHeartbeats 4000000
set_option pp.maxSteps 600
set_option pp.deepTerms false
namespace Wb
open PySem PySem.Spec PyProof.Rows L2
def topS (i : Nat) : Stmt := PySem.Challenge.pw_waitbolts_k54_locks_within_one_another.main.body.getD i (.Pass ⟨0, 0, 0, 0⟩)
abbrev sWhole : Stmt := topS 1
abbrev sWholeIn : Stmt := topS 2
abbrev sTupOf : Stmt := topS 3
abbrev sPlaces : Stmt := topS 4
theorem scWhole : FnScope ["thing"] ["thing"] (defScope sWhole) := ⟨rfl, rfl, rfl, by decide +kernel, rfl, by decide +kernel, by decide +kernel⟩
theorem scWholeIn : FnScope ["thing", "low", "high"] ["thing", "low", "high"] (defScope sWholeIn) := ⟨rfl, rfl, rfl, by decide +kernel, rfl, by decide +kernel, by decide +kernel⟩
theorem scTupOf : FnScope ["thing", "low", "high"] ["thing", "low", "high"] (defScope sTupOf) := ⟨rfl, rfl, rfl, by decide +kernel, rfl, by decide +kernel, by decide +kernel⟩
theorem scPlaces : FnScope ["thing", "manys", "place", "many"] ["thing", "manys"] (defScope sPlaces) := ⟨rfl, rfl, rfl, by decide +kernel, rfl, by decide +kernel, by decide +kernel⟩

/-- the built-in names are the built-in ones -/
structure Bi (mg : Str → Option Value) : Prop where
  isi : mg "isinstance" = none
  int : mg "int" = none
  bool : mg "bool" = none
  tuple : mg "tuple" = none
  list : mg "list" = none
  len : mg "len" = none
  zip : mg "zip" = none
  all : mg "all" = none
  range : mg "range" = none
  rev : mg "reversed" = none
  enum : mg "enumerate" = none
  sorted : mg "sorted" = none
  set : mg "set" = none
  abs : mg "abs" = none
  repr : mg "repr" = none

theorem tyx_tup {K : PySem.W.Frag} {H : Hp} {a : Addr} {xs : List V} (h : SqT K H a xs) : TyX K H (.ref a) (.type "tuple") := by
  rcases h with (h | ⟨o, h⟩) | ⟨o, its, n, h, c, _⟩
  · exact .base (.tup h)
  · exact .fTuple h
  · exact .kTuple h c
theorem tyx_int {K : PySem.W.Frag} {H : Hp} (i : Int) : TyX K H (.int i) (.type "int") := .base (.int i)

/-! ### promises -/
def spWhole : Sp := fun vs H Q _ => ∃ i : Int, vs = [.int i] ∧ Q (.bl true) H
def spWholeIn : Sp := fun vs H Q _ => ∃ i l h : Int, vs = [.int i, .int l, .int h] ∧ Q (.bl (decide (l ≤ i) && decide (i ≤ h))) H
def spTupOf (K : PySem.W.Frag) : Sp := fun vs H Q _ => ∃ (a : Addr) (xs : List V) (l h : Int), vs = [.ref a, .int l, .int h] ∧ SqT K H a xs ∧ Q (.bl (decide (l ≤ (xs.length : Int)) && decide ((xs.length : Int) ≤ h))) H
/-- as many places as bolts, each of them one of its bolt's -/
def InAll (ns ms : List Int) : Prop := ns.length = ms.length ∧ ∀ (i : Nat) (n m : Int), ns[i]? = some n → ms[i]? = some m → 0 ≤ n ∧ n < m
def spPlaces (K : PySem.W.Frag) : Sp := fun vs H Q _ => ∃ (a b : Addr) (m : Bool) (ns ms : List Int), vs = [.ref a, .ref b] ∧ SqT K H a (ns.map V.int) ∧ SqX K m H b (ms.map V.int) ∧ InAll ns ms ∧ ∀ H', Evl.Ex H H' → Q (.bl true) H'

section
variable {P : Program} {w : World} {K : PySem.W.Frag} {mg : Str → Option Value} {base : Heap}
theorem ok_whole {f : Addr} {fd : FuncData} (F : Fun K "is_whole" "is_whole" sWhole f fd) (B : Bi mg) : FnOk P w K mg base CX0 1 f fd ["thing"] spWhole := by
  refine F.ok scWhole (fun vs H Q E h => ?_) (fun cdv A outer s H vs Q E hr h => ?_)
  · obtain ⟨i, rfl, _⟩ := h; rfl
  · obtain ⟨i, rfl, q⟩ := h
    refine ⟨_, pss_one (ps_ret (pe_and (pe_callB call_isi (by rfl) B.isi boot_isinstance (pa_cons (pv 0) (pa_cons (pe_bltn (v := .ty "int") (by rfl) B.int (by decide +kernel) rfl) pa_nil)))
      (pe_one (pe_not (pe_callB call_isi (by rfl) B.isi boot_isinstance (pa_cons (pv 0) (pa_cons (pe_bltn (v := .ty "bool") (by rfl) B.bool (by decide +kernel) rfl) pa_nil))))))), ?_⟩
    refine ⟨.int i, rfl, .int i, .ty "int", .type "int", .type "int", true, rfl, .ty _, tyx_int i, kit_ty (by decide +kernel), true, rfl, ?_⟩
    rw [if_pos rfl]
    refine ⟨.int i, rfl, .int i, .ty "bool", .type "int", .type "bool", false, rfl, .ty _, tyx_int i, kit_ty (by decide +kernel), false, rfl, q⟩
theorem ok_wholeIn {f f1 : Addr} {fd fd1 : FuncData} (F : Fun K "is_whole_in" "is_whole_in" sWholeIn f fd) (F1 : Fun K "is_whole" "is_whole" sWhole f1 fd1) (b1 : Binds K fd1 ["thing"] []) (g1 : mg "is_whole" = some (.ref f1)) (B : Bi mg) :
    FnOk P w K mg base CX0 2 f fd ["thing", "low", "high"] spWholeIn := by
  have G1 : FnOk P w K mg base CX0 1 f1 fd1 ["thing"] spWhole := ok_whole F1 B
  refine F.ok scWholeIn (fun vs H Q E h => ?_) (fun cdv A outer s H vs Q E hr h => ?_)
  · obtain ⟨i, l, m, rfl, _⟩ := h; rfl
  · obtain ⟨i, l, m, rfl, q⟩ := h
    refine ⟨_, pss_one (ps_ret (pe_and (pe_call G1 hr (by rfl) g1 F1.kp b1 .nil pass0 (pa_cons (pv 0) pa_nil)) (pe_one (pe_chain op_le op_le (pv 1) (pv 0) (pv 2))))), ?_⟩
    refine ⟨.int i, rfl, i, rfl, true, rfl, ?_⟩
    rw [if_pos rfl]
    refine ⟨.int l, rfl, .int i, rfl, l, i, rfl, rfl, decide (l ≤ i), rfl, ?_⟩
    by_cases h1 : l ≤ i
    · rw [if_pos (decide_eq_true h1)]
      refine ⟨.int m, rfl, i, m, rfl, rfl, ?_⟩
      rw [decide_eq_true h1] at q
      exact q
    · rw [if_neg (by rw [decide_eq_false h1]; exact Bool.false_ne_true)]
      rw [decide_eq_false h1] at q
      exact q
theorem ok_tupOf {f : Addr} {fd : FuncData} (F : Fun K "is_tuple_of" "is_tuple_of" sTupOf f fd) (B : Bi mg) : FnOk P w K mg base CX0 1 f fd ["thing", "low", "high"] (spTupOf K) := by
  refine F.ok scTupOf (fun vs H Q E h => ?_) (fun cdv A outer s H vs Q E hr h => ?_)
  · obtain ⟨a, xs, l, m, rfl, _⟩ := h; rfl
  · obtain ⟨a, xs, l, m, rfl, hx, q⟩ := h
    refine ⟨_, pss_one (ps_ret (pe_and (pe_callB call_isi (by rfl) B.isi boot_isinstance (pa_cons (pv 0) (pa_cons (pe_bltn (v := .ty "tuple") (by rfl) B.tuple (by decide +kernel) rfl) pa_nil)))
      (pe_one (pe_chain op_le op_le (pv 1) (pe_callB call_len_seq (by rfl) B.len PySem.boot_len (pa_cons (pv 0) pa_nil)) (pv 2))))), ?_⟩
    refine ⟨.ref a, rfl, .ref a, .ty "tuple", .type "tuple", .type "tuple", true, rfl, .ty _, tyx_tup hx, kit_ty (by decide +kernel), true, rfl, ?_⟩
    rw [if_pos rfl]
    refine ⟨.int l, rfl, .ref a, rfl, a, xs, rfl, .inr hx, l, xs.length, rfl, rfl, decide (l ≤ (xs.length : Int)), rfl, ?_⟩
    by_cases h1 : l ≤ (xs.length : Int)
    · rw [if_pos (decide_eq_true h1)]
      refine ⟨.int m, rfl, xs.length, m, rfl, rfl, ?_⟩
      rw [decide_eq_true h1] at q
      exact q
    · rw [if_neg (by rw [decide_eq_false h1]; exact Bool.false_ne_true)]
      rw [decide_eq_false h1] at q
      exact q
theorem sqx_ex {l : Bool} {H H' : Hp} {a : Addr} {xs : List V} (e : Evl.Ex H H') (h : SqX K l H a xs) : SqX K l H' a xs := by
  cases l
  · exact Evl.ex_t e h
  · exact Evl.ex_l e h
theorem sqx_seq {l : Bool} {H : Hp} {a : Addr} {xs : List V} (h : SqX K l H a xs) : SqL K H a xs ∨ SqT K H a xs := by
  cases l
  · exact .inr h
  · exact .inl h
theorem ok_places {f f1 : Addr} {fd fd1 : FuncData} (F : Fun K "are_places" "are_places" sPlaces f fd) (F1 : Fun K "is_tuple_of" "is_tuple_of" sTupOf f1 fd1) (b1 : Binds K fd1 ["thing", "low", "high"] []) (g1 : mg "is_tuple_of" = some (.ref f1)) (B : Bi mg) :
    FnOk P w K mg base CX0 2 f fd ["thing", "manys"] (spPlaces K) := by
  have G1 : FnOk P w K mg base CX0 1 f1 fd1 ["thing", "low", "high"] (spTupOf K) := ok_tupOf F1 B
  refine F.ok scPlaces (fun vs H Q E h => ?_) (fun cdv A outer s H vs Q E hr h => ?_)
  · obtain ⟨a, b, m, ns, ms, rfl, _⟩ := h; rfl
  · obtain ⟨a, b, m, ns, ms, rfl, hx, hy, ⟨hl, hin⟩, q⟩ := h
    have isI : ∀ (X : Cx) (T : String) (hT : X.mg T = none) (i : Nat), True := fun _ _ _ _ => trivial
    refine ⟨_, pss_cons (ps_if (pt_not (pt_val (pe_call G1 hr (by rfl) g1 F1.kp b1 .nil pass0 (pa_cons (pv 0) (pa_cons (pe_callB call_len_seq (by rfl) B.len PySem.boot_len (pa_cons (pv 1) pa_nil)) (pa_cons (pe_callB call_len_seq (by rfl) B.len PySem.boot_len (pa_cons (pv 1) pa_nil)) pa_nil))))))
        (pss_one (ps_ret pe_bl)) pss_nil)
      (pss_cons (ps_for PassesOwn.never rfl (pi_zipX (by rfl) B.zip (pa_cons (pv 0) (pa_cons (pv 1) pa_nil))) (pg_tup rfl (pgs_cons (pg_name (i := 2) scPlaces.nd rfl (.inl rfl)) (pgs_cons (pg_name (i := 3) scPlaces.nd rfl (.inl rfl)) pgs_nil)))
        (pss_one (ps_if (PW.pt (pw_or (pt_val (pe_callB call_isi (by rfl) B.isi boot_isinstance (pa_cons (pv 2) (pa_cons (pe_bltn (v := .ty "bool") (by rfl) B.bool (by decide +kernel) rfl) pa_nil))))
            (pw_or (pt_not (pt_val (pe_callB call_isi (by rfl) B.isi boot_isinstance (pa_cons (pv 2) (pa_cons (pe_bltn (v := .ty "int") (by rfl) B.int (by decide +kernel) rfl) pa_nil)))))
              (pw_or1 (pt_not (pt_chain op_le op_lt pe_int (pv 2) (pv 3)))))))
          (pss_one (ps_ret pe_bl)) pss_nil)))
      (pss_one (ps_ret pe_bl))), ?_⟩
    refine ⟨.ref a, rfl, .ref b, rfl, b, _, rfl, sqx_seq hy, .ref b, rfl, b, _, rfl, sqx_seq hy, a, _, _, _, rfl, hx, _, rfl, ?_⟩
    have e1 : (decide (((ms.map V.int).length : Int) ≤ ((ns.map V.int).length : Int)) && decide (((ns.map V.int).length : Int) ≤ ((ms.map V.int).length : Int))) = true := by
      rw [List.length_map, List.length_map, hl]
      simp
    rw [e1]
    refine iteF ?_
    refine ⟨.ref a, rfl, .ref b, rfl, false, m, a, b, ns.map V.int, ms.map V.int, rfl, hx, hy, ?_⟩
    refine for_it (walk_zx (l := false) (m := m) (xs := ns.map V.int) (ys := ms.map V.int) (by rw [List.length_map, List.length_map, hl])) (fun i σ H' => ∃ y2 y3, σ = [some (.ref a), some (.ref b), y2, y3] ∧ Evl.Ex H H') ⟨none, none, rfl, Evl.Ex.refl H⟩ ?_ ?_ ?_
    · rintro i σ H' _ ⟨_, _, _, e⟩
      exact ⟨Evl.ex_t e hx, sqx_ex e hy⟩
    · rintro i v σ H1 H2 hi ⟨y2, y3, rfl, e⟩ ⟨T, x, y, rfl, nT, rfl, ex, ey⟩
      obtain ⟨n, hn, rfl⟩ := get_map_int ex
      obtain ⟨k, hk, rfl⟩ := get_map_int ey
      obtain ⟨h0, h1⟩ := hin i n k hn hk
      refine ⟨T, [.int n, .int k], rfl, .inl (.inl upd_same), rfl, .int n, [.int k], rfl, .int k, [], rfl, rfl, ?_⟩
      refine ⟨.int n, rfl, .int n, .ty "bool", .type "int", .type "bool", false, rfl, .ty _, tyx_int n, kit_ty (by decide +kernel), false, rfl, ?_⟩
      refine iteF ?_
      refine ⟨.int n, rfl, .int n, .ty "int", .type "int", .type "int", true, rfl, .ty _, tyx_int n, kit_ty (by decide +kernel), true, rfl, ?_⟩
      refine iteF ?_
      refine ⟨.int n, rfl, 0, n, rfl, rfl, decide ((0:Int) ≤ n), rfl, ?_⟩
      rw [if_pos (decide_eq_true h0)]
      refine ⟨.int k, rfl, n, k, rfl, rfl, decide (n < k), rfl, ?_⟩
      rw [decide_eq_true h1]
      refine iteF ?_
      exact ⟨_, _, rfl, e.trans (Evl.Ex.new nT)⟩
    · rintro σ H' ⟨y2, y3, rfl, e⟩
      exact q H' e
end
end Wb

set_option Elab.async false
set_option linter.all false
set_option maxRecDepth 100000
set_option maxHeartbeats 4000000
set_option pp.maxSteps 600
set_option pp.deepTerms false
namespace Wb
open PySem PySem.Spec PyProof.Rows L2
abbrev sWays : Stmt := topS 21
abbrev sGap : Stmt := topS 20
abbrev sBolt : Stmt := topS 19
theorem scWays : FnScope ["thing", "below", "way", "n"] ["thing", "below"] (defScope sWays) := ⟨rfl, rfl, rfl, by decide +kernel, rfl, by decide +kernel, by decide +kernel⟩
theorem scGap : FnScope ["thing", "many", "below", "here", "there", "price", "ways"] ["thing", "many", "below"] (defScope sGap) := ⟨rfl, rfl, rfl, by decide +kernel, rfl, by decide +kernel, by decide +kernel⟩
theorem scBolt : FnScope ["thing", "below", "many", "gaps", "count", "last", "gap"] ["thing", "below"] (defScope sBolt) := ⟨rfl, rfl, rfl, by decide +kernel, rfl, by decide +kernel, by decide +kernel⟩

/-- the module's numbers -/
structure Nu (mg : Str → Option Value) : Prop where
  bolts : ∃ t, mg "MOST_BOLTS" = some (.int 60 t)
  fewest : ∃ t, mg "FEWEST_PLACES" = some (.int 2 t)
  places : ∃ t, mg "MOST_PLACES" = some (.int 4 t)
  ways : ∃ t, mg "MOST_WAYS" = some (.int 8 t)
  words : ∃ t, mg "MOST_WORDS" = some (.int 8 t)
  price : ∃ t, mg "MOST_PRICE" = some (.int 1000000 t)

/-- ways of a gap: words below, rising -/
structure WaysOk (ms : List Int) (ws : List Word) : Prop where
  few : ws.length ≤ 8
  words : ∀ w ∈ ws, InAll w ms
  rise : ws.Pairwise (fun u w => HT.lexLt u w = true)
def spWays (K : PySem.W.Frag) : Sp := fun vs H Q _ => ∃ (a b : Addr) (us : List V) (ws : List Word) (ms : List Int), vs = [.ref a, .ref b] ∧ SqT K H a us ∧ Paired (Wd K H) us ws ∧ SqL K H b (ms.map V.int) ∧ WaysOk ms ws ∧ ∀ H', Evl.Ex H H' → Q (.bl true) H'

theorem wd_ex {K : PySem.W.Frag} {H H' : Hp} (e : Evl.Ex H H') {v : V} {ns : Word} (h : Wd K H v ns) : Wd K H' v ns := h.mono (TX.ex e)
theorem all_true (n : Nat) : ((List.replicate n true).all id) = true := by simp

section
variable {P : Program} {w : World} {K : PySem.W.Frag} {mg : Str → Option Value} {base : Heap}
theorem ok_ways {f f1 f2 : Addr} {fd fd1 fd2 : FuncData} (F : Fun K "are_ways" "are_ways" sWays f fd) (F1 : Fun K "is_tuple_of" "is_tuple_of" sTupOf f1 fd1) (b1 : Binds K fd1 ["thing", "low", "high"] []) (g1 : mg "is_tuple_of" = some (.ref f1))
    (F2 : Fun K "are_places" "are_places" sPlaces f2 fd2) (b2 : Binds K fd2 ["thing", "manys"] []) (g2 : mg "are_places" = some (.ref f2)) (B : Bi mg) (N : Nu mg) :
    FnOk P w K mg base CX0 3 f fd ["thing", "below"] (spWays K) := by
  have G1 : FnOk P w K mg base CX0 1 f1 fd1 ["thing", "low", "high"] (spTupOf K) := ok_tupOf F1 B
  have G2 : FnOk P w K mg base CX0 2 f2 fd2 ["thing", "manys"] (spPlaces K) := ok_places F2 F1 b1 g1 B
  obtain ⟨tw, ew⟩ := N.ways
  refine F.ok scWays (fun vs H Q E h => ?_) (fun cdv A outer s H vs Q E hr h => ?_)
  · obtain ⟨a, b, us, ws, ms, rfl, _⟩ := h; rfl
  · obtain ⟨a, b, us, ws, ms, rfl, hx, hp, hy, ok, q⟩ := h
    have hr1 : Room 1 _ := hr.mono (by decide)
    refine ⟨_, pss_cons (ps_if (pt_not (pt_val (pe_call G1 hr1 (by rfl) g1 F1.kp b1 .nil pass0 (pa_cons (pv 0) (pa_cons pe_int (pa_cons (pe_glob (v := .int 8) (by rfl) ew ⟨_, rfl⟩) pa_nil)))))) (pss_one (ps_ret pe_bl)) pss_nil)
      (pss_cons (ps_if (pt_not (pt_val (pe_callB (cr_all rfl) (by rfl) B.all boot_all (pa_cons
          (pe_lc (own := [("way", 2)]) (g := gName 2) rfl scWays.nd (pi_tup (pv 0)) (blkOk_by (own := [("way", 2)]) (N := ["thing", "below", "way", "n"]) (sc := defScope sWays) (by decide +kernel))
            (fun _ _ _ _ _ => pg_name (i := 2) scWays.nd rfl (Or.inl rfl)) (fun _ _ _ _ _ => pts_nil)
            (fun _ _ _ _ _ => pe_call G2 hr (by rfl) g2 F2.kp b2 .nil pass0 (pa_cons (pv 2) (pa_cons (pv 1) pa_nil)))) pa_nil)))) (pss_one (ps_ret pe_bl)) pss_nil)
      (pss_one (ps_ret (pe_callB (cr_all rfl) (by rfl) B.all boot_all (pa_cons
          (pe_lc (own := [("n", 3)]) (g := gName 3) rfl scWays.nd (pi_range1 rfl B.range (pa_cons (pe_op op_sub (pe_callB call_len_seq (by rfl) B.len PySem.boot_len (pa_cons (pv 0) pa_nil)) pe_int) pa_nil)) (blkOk_by (own := [("n", 3)]) (N := ["thing", "below", "way", "n"]) (sc := defScope sWays) (by decide +kernel))
            (fun _ _ _ _ _ => pg_name (i := 3) scWays.nd rfl (Or.inl rfl)) (fun _ _ _ _ _ => pts_nil)
            (fun _ _ _ _ _ => pe_cmpR (r := rLtT K) (op_ltT hr.units0) (pe_ix (r := rIxT K) ix_tup (pv 0) (pv 3) (fun _ _ => rfl)) (pe_ix (r := rIxT K) ix_tup (pv 0) (pe_op op_add (pv 3) pe_int) (fun _ _ => rfl)) (nomark _))) pa_nil))))), ?_⟩
    have ul : us.length = ws.length := Paired.len hp
    have few := ok.few
    refine ⟨.ref a, rfl, a, us, 0, 8, rfl, hx, _, rfl, ?_⟩
    have e1 : (decide ((0 : Int) ≤ (us.length : Int)) && decide ((us.length : Int) ≤ 8)) = true := by
      rw [ul]
      simp
      omega
    rw [e1]
    refine iteF ?_
    refine ⟨.ref a, rfl, a, rfl, ⟨_, hx⟩, fun D hD => lc_tup (K := K) (a := a) (xs := us) (fun i H' => Evl.Ex H H' ∧ H' D = some (.lst ((List.replicate i true).map V.bl))) ⟨Evl.Ex.new hD, upd_same⟩ ?_ ?_ ?_⟩
    · rintro i H' _ ⟨e, _⟩
      exact Evl.ex_t e hx
    · rintro i x H' hi ⟨e, eD⟩
      obtain ⟨wd, hw, ⟨ax, rfl, hax⟩⟩ := Paired.get1 hp hi
      have hin := ok.words wd (List.mem_of_getElem? hw)
      refine ⟨rfl, .ref ax, rfl, .ref b, rfl, ax, b, true, wd, ms, rfl, Evl.ex_t e (SqT.of hax), Evl.ex_l e hy, hin, ?_⟩
      intro H2 e2
      have l9 : i < 9 := by
        have := (List.getElem?_eq_some_iff.mp hi).1
        omega
      refine ⟨_, e2 _ _ eD, ?_, (e.trans e2).mut hD, ?_⟩
      · rw [List.length_map, List.length_replicate]
        exact Nat.lt_of_lt_of_le l9 (by decide)
      · rw [upd_same, List.replicate_succ', List.map_append]
        rfl
    · rintro H1 ⟨e, eD⟩
      refine ⟨D, _, rfl, .inl (.inl eD), true, ?_, ?_⟩
      · rw [all_true]
      · refine iteF ?_
        refine ⟨.ref a, rfl, a, us, rfl, .inr (Evl.ex_t e hx), _, _, rfl, rfl, (us.length : Int) - 1, rfl, by omega, by omega, fun D2 hD2 =>
          lc_range (lo := 0) (n := ((us.length : Int) - 1).toNat) (fun i H' => Evl.Ex H1 H' ∧ H' D2 = some (.lst ((List.replicate i true).map V.bl))) ⟨Evl.Ex.new hD2, upd_same⟩ ?_ ?_⟩
        · rintro i H' hi ⟨e2, eD2⟩
          have h1 : i < us.length := by omega
          have h2 : i + 1 < us.length := by omega
          obtain ⟨u1, hu1, ⟨a1, ea1, ha1⟩⟩ := Paired.get1 hp (List.getElem?_eq_getElem h1)
          obtain ⟨u2, hu2, ⟨a2, ea2, ha2⟩⟩ := Paired.get1 hp (List.getElem?_eq_getElem h2)
          have rise : HT.lexLt u1 u2 = true := by
            obtain ⟨l1, q1⟩ := List.getElem?_eq_some_iff.mp hu1
            obtain ⟨l2, q2⟩ := List.getElem?_eq_some_iff.mp hu2
            have := List.pairwise_iff_getElem.mp ok.rise i (i + 1) l1 l2 (Nat.lt_succ_self i)
            rw [q1, q2] at this
            exact this
          refine ⟨rfl, ?_⟩
          have e3 := e.trans e2
          refine ⟨.ref a, rfl, .int ((0 : Int) + (i : Nat)), rfl, a, us, (0 : Int) + (i : Nat), .ref a1, rfl, rfl, Evl.ex_t e3 hx, ?_, .ref a, rfl, .int ((0 : Int) + (i : Nat)), rfl, _, _, rfl, rfl, a, us, (0 : Int) + (i : Nat) + 1, .ref a2, rfl, rfl, Evl.ex_t e3 hx, ?_, a1, a2, u1, u2, rfl, rfl, Evl.ex_t e3 (SqT.of ha1), Evl.ex_t e3 (SqT.of ha2), ?_⟩
          · have z : (0 : Int) + (i : Nat) = ((i : Nat) : Int) := by omega
            rw [z, ← ea1]
            exact atI_nat (List.getElem?_eq_getElem h1)
          · have z : (0 : Int) + (i : Nat) + 1 = ((i + 1 : Nat) : Int) := by omega
            rw [z, ← ea2]
            exact atI_nat (List.getElem?_eq_getElem h2)
          · refine ⟨_, eD2, ?_, e2.mut hD2, ?_⟩
            · rw [List.length_map, List.length_replicate]
              exact Nat.lt_of_lt_of_le (show i < 9 by omega) (by decide)
            · rw [upd_same, List.replicate_succ', List.map_append, rise]
              rfl
        · rintro H2 ⟨e2, eD2⟩
          refine ⟨D2, _, rfl, .inl (.inl eD2), ?_⟩
          rw [all_true]
          exact q H2 (e.trans e2)
end
end Wb

set_option Elab.async false
set_option linter.all false
set_option maxRecDepth 100000
set_option maxHeartbeats 4000000
set_option pp.maxSteps 600
set_option pp.deepTerms false
namespace Wb
open PySem PySem.Spec PyProof.Rows L2
def spGap (K : PySem.W.Frag) : Sp := fun vs H Q _ => ∃ (v : V) (b : Addr) (g : Gap) (many : Int) (ms : List Int), vs = [v, .int many, .ref b] ∧ GapAt K H v g ∧ SqL K H b (ms.map V.int) ∧ GapOk ms many g ∧ ∀ H', Evl.Ex H H' → Q (.bl true) H'
def spBolt (K : PySem.W.Frag) : Sp := fun vs H Q _ => ∃ (v : V) (b : Addr) (bo : Bolt) (ms : List Int), vs = [v, .ref b] ∧ BoltAt K H v bo ∧ SqL K H b (ms.map V.int) ∧ BoltOk ms bo ∧ ∀ H', Evl.Ex H H' → Q (.bl true) H'

theorem inAll_two {a b m : Int} (h1 : 0 ≤ a) (h2 : a < m) (h3 : 0 ≤ b) (h4 : b < m) : InAll [a, b] [m, m] := by
  refine ⟨rfl, fun i n k hn hk => ?_⟩
  match i, hn, hk with
  | 0, hn, hk =>
    cases hn; cases hk; exact ⟨h1, h2⟩
  | 1, hn, hk =>
    cases hn; cases hk; exact ⟨h3, h4⟩
  | i + 2, hn, hk => simp at hn
theorem GapOk.ways_ok {ms : List Int} {many : Int} {g : Gap} (h : GapOk ms many g) : WaysOk ms g.ways :=
  ⟨h.few, fun w hw => ⟨(h.words w hw).1, (h.words w hw).2⟩, h.rise⟩
theorem lex2 {a b c d : Int} (h : lexLt2 c d a b) : Ob.lexAt (fun j => decide (([a, b] : List Int).getD j 0 = ([c, d] : List Int).getD j 0)) (fun j => decide (([a, b] : List Int).getD j 0 ≤ ([c, d] : List Int).getD j 0)) (decide (([a, b] : List Int).length ≤ ([c, d] : List Int).length)) 0 (min ([a, b] : List Int).length ([c, d] : List Int).length) = false := by
  show (if decide (a = c) = true then (if decide (b = d) = true then (decide (2 ≤ 2)) else decide (b ≤ d)) else decide (a ≤ c)) = false
  rcases h with h | ⟨h, h'⟩
  · rw [if_neg (by simp; omega)]
    simp; omega
  · rw [if_pos (by simp; omega), if_neg (by simp; omega)]
    simp; omega
theorem cut2 {a b c d : V} : cutV [a, b, c, d] none (some 2) = [a, b] := by
  unfold cutV
  rw [HT.sIx_none]
  rw [show HT.sIx [a, b, c, d].length [a, b, c, d].length (some 2) = 2 from HT.sIx_nat 4 4 2]
  rfl

section
variable {P : Program} {w : World} {K : PySem.W.Frag} {mg : Str → Option Value} {base : Heap}
theorem ok_gap {f f1 f2 f3 f4 f5 : Addr} {fd fd1 fd2 fd3 fd4 fd5 : FuncData} (F : Fun K "is_gap" "is_gap" sGap f fd) (F1 : Fun K "is_tuple_of" "is_tuple_of" sTupOf f1 fd1) (b1 : Binds K fd1 ["thing", "low", "high"] []) (g1 : mg "is_tuple_of" = some (.ref f1))
    (F2 : Fun K "are_places" "are_places" sPlaces f2 fd2) (b2 : Binds K fd2 ["thing", "manys"] []) (g2 : mg "are_places" = some (.ref f2))
    (F3 : Fun K "is_whole_in" "is_whole_in" sWholeIn f3 fd3) (b3 : Binds K fd3 ["thing", "low", "high"] []) (g3 : mg "is_whole_in" = some (.ref f3))
    (F4 : Fun K "are_ways" "are_ways" sWays f4 fd4) (b4 : Binds K fd4 ["thing", "below"] []) (g4 : mg "are_ways" = some (.ref f4))
    (F5 : Fun K "is_whole" "is_whole" sWhole f5 fd5) (b5 : Binds K fd5 ["thing"] []) (g5 : mg "is_whole" = some (.ref f5)) (B : Bi mg) (N : Nu mg) :
    FnOk P w K mg base CX0 4 f fd ["thing", "many", "below"] (spGap K) := by
  have G1 : FnOk P w K mg base CX0 1 f1 fd1 ["thing", "low", "high"] (spTupOf K) := ok_tupOf F1 B
  have G2 : FnOk P w K mg base CX0 2 f2 fd2 ["thing", "manys"] (spPlaces K) := ok_places F2 F1 b1 g1 B
  have G3 : FnOk P w K mg base CX0 2 f3 fd3 ["thing", "low", "high"] spWholeIn := ok_wholeIn F3 F5 b5 g5 B
  have G4 : FnOk P w K mg base CX0 3 f4 fd4 ["thing", "below"] (spWays K) := ok_ways F4 F1 b1 g1 F2 b2 g2 B N
  obtain ⟨tp, ep⟩ := N.price
  refine F.ok scGap (fun vs H Q E h => ?_) (fun cdv A outer s H vs Q E hr h => ?_)
  · obtain ⟨v, b, g, m, ms, rfl, _⟩ := h; rfl
  · obtain ⟨v, b, g, m, ms, rfl, ⟨a, c, ws, rfl, hx, hw, hp⟩, hy, ok, q⟩ := h
    have hr1 : Room 1 _ := hr.mono (by decide)
    have hr2 : Room 2 _ := hr.mono (by decide)
    refine ⟨_, pss_cons (ps_if (pt_not (pt_val (pe_call G1 hr1 (by rfl) g1 F1.kp b1 .nil pass0 (pa_cons (pv 0) (pa_cons pe_int (pa_cons pe_int pa_nil)))))) (pss_one (ps_ret pe_bl)) pss_nil)
      (pss_cons (ps_asg (pv 0) (pg_tup rfl (pgs_cons (pg_name (i := 3) scGap.nd rfl (.inl rfl)) (pgs_cons (pg_name (i := 4) scGap.nd rfl (.inl rfl)) (pgs_cons (pg_name (i := 5) scGap.nd rfl (.inl rfl)) (pgs_cons (pg_name (i := 6) scGap.nd rfl (.inl rfl)) pgs_nil))))))
      (pss_cons (ps_if (PW.pt (pw_or (pt_not (pt_val (pe_call G2 hr2 (by rfl) g2 F2.kp b2 .nil pass0 (pa_cons (pe_tup (pa_cons (pv 3) (pa_cons (pv 4) pa_nil))) (pa_cons (pe_tup (pa_cons (pv 1) (pa_cons (pv 1) pa_nil))) pa_nil)))))
          (pw_or1 (pt_cmpR op_eq (pv 3) (pv 4) (nomark _))))) (pss_one (ps_ret pe_bl)) pss_nil)
      (pss_one (ps_ret (pe_and (pe_call G3 hr2 (by rfl) g3 F3.kp b3 .nil pass0 (pa_cons (pv 5) (pa_cons pe_int (pa_cons (pe_glob (v := .int 1000000) (by rfl) ep ⟨_, rfl⟩) pa_nil))))
        (pe_one (pe_call G4 hr (by rfl) g4 F4.kp b4 .nil pass0 (pa_cons (pv 6) (pa_cons (pv 2) pa_nil))))))))), ?_⟩
    refine ⟨.ref a, rfl, a, _, 4, 4, rfl, hx, true, rfl, ?_⟩
    refine iteF ?_
    refine ⟨.ref a, rfl, a, _, rfl, hx, rfl, _, _, rfl, _, _, rfl, _, _, rfl, _, _, rfl, rfl, ?_⟩
    refine ⟨.int g.frm, rfl, .int g.to_, rfl, (by show 2 ≤ sizeLine; decide), fun p1 n1 => ?_⟩
    refine ⟨.int m, rfl, .int m, rfl, (by show 2 ≤ sizeLine; decide), fun p2 n2 => ?_⟩
    have x1 : Evl.Ex H (upd H p1 (.tup [.int g.frm, .int g.to_])) := Evl.Ex.new n1
    have x2 := Evl.Ex.new (o := .tup [.int m, .int m]) n2
    refine ⟨p1, p2, false, [g.frm, g.to_], [m, m], rfl, .inl (.inl (x2 _ _ upd_same)), (Or.inl (Or.inl upd_same)), inAll_two ok.f0 ok.f1 ok.t0 ok.t1, fun H' x3 => ?_⟩
    refine ⟨true, rfl, ?_⟩
    refine iteF ?_
    refine ⟨.int g.frm, rfl, .int g.to_, rfl, rfl, decide (V.int g.frm = V.int g.to_), rfl, ?_⟩
    have ne : decide (V.int g.frm = V.int g.to_) = false := decide_eq_false fun z => ok.ne (V.int.inj z)
    rw [ne]
    refine iteF ?_
    refine ⟨.int g.price, rfl, g.price, 1, 1000000, rfl, true, ?_, ?_⟩
    · have z1 := ok.p0
      have z2 := ok.p1
      rw [decide_eq_true z1, decide_eq_true z2]
      rfl
    · refine iteT ?_
      have x : Evl.Ex H H' := (x1.trans x2).trans x3
      refine ⟨.ref c, rfl, .ref b, rfl, c, b, ws, g.ways, ms, rfl, Evl.ex_t x hw, Paired.imp (fun _ _ => wd_ex x) hp, Evl.ex_l x hy, ok.ways_ok, fun H2 y => q H2 (x.trans y)⟩
theorem ok_bolt {f f1 f2 f3 f4 f5 f6 : Addr} {fd fd1 fd2 fd3 fd4 fd5 fd6 : FuncData} (F : Fun K "is_bolt" "is_bolt" sBolt f fd) (F1 : Fun K "is_tuple_of" "is_tuple_of" sTupOf f1 fd1) (b1 : Binds K fd1 ["thing", "low", "high"] []) (g1 : mg "is_tuple_of" = some (.ref f1))
    (F2 : Fun K "are_places" "are_places" sPlaces f2 fd2) (b2 : Binds K fd2 ["thing", "manys"] []) (g2 : mg "are_places" = some (.ref f2))
    (F3 : Fun K "is_whole_in" "is_whole_in" sWholeIn f3 fd3) (b3 : Binds K fd3 ["thing", "low", "high"] []) (g3 : mg "is_whole_in" = some (.ref f3))
    (F4 : Fun K "are_ways" "are_ways" sWays f4 fd4) (b4 : Binds K fd4 ["thing", "below"] []) (g4 : mg "are_ways" = some (.ref f4))
    (F5 : Fun K "is_whole" "is_whole" sWhole f5 fd5) (b5 : Binds K fd5 ["thing"] []) (g5 : mg "is_whole" = some (.ref f5))
    (F6 : Fun K "is_gap" "is_gap" sGap f6 fd6) (b6 : Binds K fd6 ["thing", "many", "below"] []) (g6 : mg "is_gap" = some (.ref f6)) (B : Bi mg) (N : Nu mg) :
    FnOk P w K mg base CX0 5 f fd ["thing", "below"] (spBolt K) := by
  have G1 : FnOk P w K mg base CX0 1 f1 fd1 ["thing", "low", "high"] (spTupOf K) := ok_tupOf F1 B
  have G3 : FnOk P w K mg base CX0 2 f3 fd3 ["thing", "low", "high"] spWholeIn := ok_wholeIn F3 F5 b5 g5 B
  have G6 : FnOk P w K mg base CX0 4 f6 fd6 ["thing", "many", "below"] (spGap K) := ok_gap F6 F1 b1 g1 F2 b2 g2 F3 b3 g3 F4 b4 g4 F5 b5 g5 B N
  obtain ⟨tf, ef⟩ := N.fewest
  obtain ⟨tl, el⟩ := N.places
  obtain ⟨tw, ew⟩ := N.ways
  refine F.ok scBolt (fun vs H Q E h => ?_) (fun cdv A outer s H vs Q E hr h => ?_)
  · obtain ⟨v, b, bo, ms, rfl, _⟩ := h; rfl
  · obtain ⟨v, b, bo, ms, rfl, ⟨a, c, gs, rfl, hx, hg, hp⟩, hy, ok, q⟩ := h
    have hr1 : Room 1 _ := hr.mono (by decide)
    have hr2 : Room 2 _ := hr.mono (by decide)
    refine ⟨_, pss_cons (ps_if (pt_not (pt_val (pe_call G1 hr1 (by rfl) g1 F1.kp b1 .nil pass0 (pa_cons (pv 0) (pa_cons pe_int (pa_cons pe_int pa_nil)))))) (pss_one (ps_ret pe_bl)) pss_nil)
      (pss_cons (ps_asg (pv 0) (pg_tup rfl (pgs_cons (pg_name (i := 2) scBolt.nd rfl (.inl rfl)) (pgs_cons (pg_name (i := 3) scBolt.nd rfl (.inl rfl)) pgs_nil))))
      (pss_cons (ps_if (PW.pt (pw_or (pt_not (pt_val (pe_call G3 hr2 (by rfl) g3 F3.kp b3 .nil pass0 (pa_cons (pv 2) (pa_cons (pe_glob (v := .int 2) (by rfl) ef ⟨_, rfl⟩) (pa_cons (pe_glob (v := .int 4) (by rfl) el ⟨_, rfl⟩) pa_nil))))))
          (pw_or1 (pt_not (pt_val (pe_callB call_isi (by rfl) B.isi boot_isinstance (pa_cons (pv 3) (pa_cons (pe_bltn (v := .ty "tuple") (by rfl) B.tuple (by decide +kernel) rfl) pa_nil)))))))) (pss_one (ps_ret pe_bl)) pss_nil)
      (pss_cons (ps_set (i := 4) scBolt.nd rfl (.inl rfl) pe_int)
      (pss_cons (ps_set (i := 5) scBolt.nd rfl (.inl rfl) (pe_tup (pa_cons (pe_un un_neg pe_int) (pa_cons (pe_un un_neg pe_int) pa_nil))))
      (pss_cons (ps_for PassesOwn.never rfl (pi_tup (pv 3)) (pg_name (i := 6) scBolt.nd rfl (.inl rfl))
        (pss_cons (ps_if (PW.pt (pw_or (pt_not (pt_val (pe_call G6 hr (by rfl) g6 F6.kp b6 .nil pass0 (pa_cons (pv 6) (pa_cons (pv 2) (pa_cons (pv 1) pa_nil))))))
            (pw_or1 (pt_cmpR (op_leT hr.units0) (pe_slice sl_tupA (pv 6) po_none (po_some pe_int)) (pv 5) (nomark _))))) (pss_one (ps_ret pe_bl)) pss_nil)
        (pss_cons (ps_set (i := 5) scBolt.nd rfl (.inl rfl) (pe_slice sl_tupA (pv 6) po_none (po_some pe_int)))
        (pss_one (ps_aug (i := 4) scBolt.nd rfl (.inl rfl) (pe_callB call_len_seq (by rfl) B.len PySem.boot_len (pa_cons (pe_ix ix_tup (pv 6) pe_int (fun _ _ => rfl)) pa_nil)) ip_add)))))
      (pss_one (ps_ret (pe_cmpR op_le (pv 4) (pe_glob (v := .int 8) (by rfl) ew ⟨_, rfl⟩) (nomark _))))))))), ?_⟩
    refine ⟨.ref a, rfl, a, _, 2, 2, rfl, hx, true, rfl, ?_⟩
    refine iteF ?_
    refine ⟨.ref a, rfl, a, _, rfl, hx, rfl, _, _, rfl, _, _, rfl, rfl, ?_⟩
    refine ⟨.int bo.many, rfl, bo.many, 2, 4, rfl, true, ?_, ?_⟩
    · rw [decide_eq_true ok.m0, decide_eq_true ok.m1]
      rfl
    refine iteF ?_
    refine ⟨.ref c, rfl, .ref c, .ty "tuple", .type "tuple", .type "tuple", true, rfl, .ty _, tyx_tup hg, kit_ty (by decide +kernel), true, rfl, ?_⟩
    refine iteF ?_
    refine ⟨1, rfl, 1, rfl, (by show 2 ≤ sizeLine; decide), fun p0 n0 => ?_⟩
    have gl : gs.length = bo.gaps.length := Paired.len hp
    refine ⟨.ref c, rfl, c, rfl, ⟨_, (Evl.ex_t (Evl.Ex.new n0) hg)⟩, for_tup (K := K) (a := c) (xs := gs)
      (fun i σ H' => ∃ (pl : Addr) (lf lt : Int) (y6 : Option V), σ = [some (.ref a), some (.ref b), some (.int bo.many), some (.ref c), some (.int (((bo.gaps.take i).map (fun g => ((g.ways.length : Nat) : Int))).sum)), some (.ref pl), y6] ∧
        Evl.Ex H H' ∧ SqT K H' pl ([lf, lt].map V.int) ∧ (∀ g, bo.gaps[i]? = some g → lexLt2 lf lt g.frm g.to_)) ⟨p0, -1, -1, none, rfl, Evl.Ex.new n0, .inl (.inl upd_same), ?_⟩ ?_ ?_ ?_⟩
    · intro g hgi
      have := (ok.gaps g (List.mem_of_getElem? hgi)).f0
      exact .inl (by omega)
    · rintro i σ H' _ ⟨_, _, _, _, _, e, _⟩
      exact Evl.ex_t e hg
    · rintro i x σ H' hi ⟨pl, lf, lt, y6, rfl, e, hpl, hlex⟩
      obtain ⟨g, hgi, hga⟩ := Paired.get1 hp hi
      have hga' : GapAt K H' x g := hga.mono (TX.ex e)
      obtain ⟨ag, bg, ws, rfl, h1, h2, h3⟩ := hga'
      have gok := ok.gaps g (List.mem_of_getElem? hgi)
      refine ⟨.ref ag, rfl, .int bo.many, rfl, .ref b, rfl, .ref ag, b, g, bo.many, ms, rfl, ⟨ag, bg, ws, rfl, h1, h2, h3⟩, Evl.ex_l e hy, gok, fun H2 e2 => ?_⟩
      refine ⟨true, rfl, iteF ?_⟩
      have ex2 := e.trans e2
      refine ⟨.ref ag, rfl, 2, rfl, ag, _, rfl, Evl.ex_t e2 h1, fun z => absurd (show HT.sIx 4 4 (some 2) = 4 from z.2) (by decide), fun _ p np => ?_⟩
      rw [cut2]
      have e3 := Evl.Ex.new (o := .tup [V.int g.frm, V.int g.to_]) np
      refine ⟨.ref pl, rfl, p, pl, [g.frm, g.to_], [lf, lt], rfl, rfl, .inl (.inl upd_same), Evl.ex_t (e2.trans e3) hpl, _, rfl, ?_⟩
      rw [lex2 (hlex g hgi)]
      refine iteF ?_
      refine ⟨.ref ag, rfl, 2, rfl, ag, _, rfl, Evl.ex_t (e2.trans e3) h1, fun z => absurd (show HT.sIx 4 4 (some 2) = 4 from z.2) (by decide), fun _ p' np' => ?_⟩
      rw [cut2]
      have e4 := Evl.Ex.new (o := .tup [V.int g.frm, V.int g.to_]) np'
      refine ⟨_, rfl, .ref ag, rfl, ag, _, 3, .ref bg, rfl, rfl, Evl.ex_t ((e2.trans e3).trans e4) h1, atI_nat (j := 3) rfl, bg, ws, rfl, .inr (Evl.ex_t ((e2.trans e3).trans e4) h2), _, _, rfl, rfl, ?_⟩
      refine ⟨p', g.frm, g.to_, some (.ref ag), ?_, (ex2.trans e3).trans e4, .inl (.inl upd_same), fun g' hg' => ?_⟩
      · have wl : ws.length = g.ways.length := Paired.len h3
        rw [take_succ_get hgi, List.map_append, List.sum_append, wl]
        simp
      · obtain ⟨l1, q1⟩ := List.getElem?_eq_some_iff.mp hgi
        obtain ⟨l2, q2⟩ := List.getElem?_eq_some_iff.mp hg'
        have := List.pairwise_iff_getElem.mp ok.rise i (i + 1) l1 l2 (Nat.lt_succ_self i)
        rw [q1, q2] at this
        exact this
    · rintro σ H' ⟨pl, lf, lt, y6, rfl, e, hpl, hlex⟩
      refine ⟨_, rfl, _, 8, rfl, rfl, ?_⟩
      have s8 : decide ((((bo.gaps.take gs.length).map (fun g => ((g.ways.length : Nat) : Int))).sum) ≤ 8) = true := by
        have h := ok.few
        rw [gl, List.take_length]
        have z : ∀ l : List Gap, (l.map (fun g => ((g.ways.length : Nat) : Int))).sum = (((l.map (fun g => g.ways.length)).sum : Nat) : Int) := by
          intro l
          induction l with
          | nil => rfl
          | cons g l ih => simp [ih]
        rw [z]
        simp
        omega
      show Q (.bl (decide (_ ≤ 8))) H'
      rw [s8]
      exact q H' e
end
end Wb

set_option Elab.async false
set_option linter.all false
set_option maxRecDepth 100000
set_option maxHeartbeats 4000000
set_option pp.maxSteps 600
set_option pp.deepTerms false
namespace Wb
open PySem PySem.Spec PyProof.Rows L2
abbrev sWords : Stmt := topS 10
theorem scWords : FnScope ["lock", "rows", "above", "k", "found", "word", "gap", "way"] ["lock"] (defScope sWords) := ⟨rfl, rfl, rfl, by decide +kernel, rfl, by decide +kernel, by decide +kernel⟩

/-! ### words as keys -/
def keyW (w : Word) : List Key := w.map Sum.inl
theorem keyW_kV (w : Word) : (keyW w).map kV = w.map V.int := by
  unfold keyW
  rw [List.map_map]
  rfl
theorem keyW_inj {u w : Word} (h : keyW u = keyW w) : u = w := by
  unfold keyW at h
  exact (List.map_inj_right (fun _ _ e => Sum.inl.inj e)).mp h
def kws (ws : List Word) (v : Word → V) : List (List Key × V) := ws.map fun w => (keyW w, v w)
def addW (ws : List Word) (w : Word) : List Word := if w ∈ ws then ws else ws ++ [w]
theorem kws_any (ws : List Word) (v : Word → V) (w : Word) : ((kws ws v).any fun kv => decide (kv.1 = keyW w)) = decide (w ∈ ws) := by
  unfold kws
  rw [List.any_map]
  rw [Bool.eq_iff_iff]
  simp only [List.any_eq_true, Function.comp, decide_eq_true_eq]
  constructor
  · rintro ⟨u, hu, e⟩
    rw [← keyW_inj e]
    exact hu
  · intro h
    exact ⟨w, h, rfl⟩
theorem put_kws (ws : List Word) (w : Word) : putK (kws ws fun _ => .bl true) (keyW w) (.bl true) = kws (addW ws w) fun _ => .bl true := by
  unfold putK addW
  rw [kws_any]
  by_cases h : w ∈ ws
  · rw [if_pos (decide_eq_true h), if_pos h]
    unfold kws
    rw [List.map_map]
    apply List.map_congr_left
    intro u _
    show (if keyW u = keyW w then (keyW u, V.bl true) else (keyW u, V.bl true)) = (keyW u, V.bl true)
    split <;> rfl
  · rw [if_neg (by rw [decide_eq_false h]; exact Bool.false_ne_true), if_neg h]
    unfold kws
    rw [List.map_append]
    rfl
theorem mem_addW {ws : List Word} {w u : Word} : u ∈ addW ws w ↔ u ∈ ws ∨ u = w := by
  unfold addW
  split
  · rename_i h
    exact ⟨.inl, fun z => z.elim id fun e => e ▸ h⟩
  · simp
theorem nodup_addW {ws : List Word} {w : Word} (h : ws.Nodup) : (addW ws w).Nodup := by
  unfold addW
  split
  · exact h
  · rename_i hn
    rw [List.nodup_append]
    refine ⟨h, by simp, ?_⟩
    intro a ha b hb
    simp at hb
    subst hb
    intro e
    exact hn (e ▸ ha)
theorem valV_kws (ws : List Word) (v : Word → V) (w : Word) : valV (kws ws v) (keyW w) = if w ∈ ws then some (v w) else none := by
  induction ws with
  | nil => rfl
  | cons u ws ih =>
    by_cases e : u = w
    · subst e
      rw [if_pos (by simp)]
      exact valV_pos rfl
    · have z : valV (kws (u :: ws) v) (keyW w) = valV (kws ws v) (keyW w) := valV_neg (fun q => e (keyW_inj q))
      rw [z, ih]
      have m : w ∈ u :: ws ↔ w ∈ ws := by
        simp only [List.mem_cons]
        exact ⟨fun q => q.elim (fun q => absurd q.symm e) id, .inr⟩
      by_cases h : w ∈ ws
      · rw [if_pos h, if_pos (m.mpr h)]
      · rw [if_neg h, if_neg (fun q => h (m.mp q))]

/-! ### the words at a bolt -/
def WordsAt (l : Lock) (k : Nat) (ws : List Word) : Prop := ws.Nodup ∧ ∀ w, w ∈ ws ↔ cutsFrom l k w
/-- a list of words at r -/
def RowAt (K : PySem.W.Frag) (H : Hp) (r : Addr) (ws : List Word) : Prop := ∃ us, H r = some (.lst us) ∧ Paired (Wd K H) us ws
theorem RowAt.ex {K : PySem.W.Frag} {H H' : Hp} (e : Evl.Ex H H') {r : Addr} {ws : List Word} (h : RowAt K H r ws) : RowAt K H' r ws := by
  obtain ⟨us, a, b⟩ := h
  exact ⟨us, e _ _ a, Paired.imp (fun _ _ => wd_ex e) b⟩
theorem cutsFrom_len {l : Lock} (ok : LockOk l) {k : Nat} {w : Word} (hk : k ≤ l.length) (h : cutsFrom l k w) : w.length = k := by
  obtain ⟨j, b, g, u, hj, hb, hg, hu, rfl⟩ := h
  have lu := (((ok.bolts j b hb).gaps g hg).words u hu).1
  have lj : j < l.length := (List.getElem?_eq_some_iff.mp hb).1
  unfold manysOf at lu
  rw [List.length_map, List.length_take] at lu
  rw [List.length_take]
  omega
/-- the words at k: those at k + 1 cut, and the bolt's own -/
theorem cuts_step {l : Lock} (ok : LockOk l) {k : Nat} {b : Bolt} (hb : l[k]? = some b) (w : Word) :
    cutsFrom l k w ↔ (∃ u, cutsFrom l (k + 1) u ∧ w = u.take k) ∨ ∃ g ∈ b.gaps, w ∈ g.ways := by
  constructor
  · rintro ⟨j, b', g, u, hj, hb', hg, hu, rfl⟩
    by_cases e : j = k
    · subst e
      rw [hb] at hb'
      cases hb'
      have lu := (((ok.bolts j b hb).gaps g hg).words u hu).1
      have lj : j < l.length := (List.getElem?_eq_some_iff.mp hb).1
      unfold manysOf at lu
      rw [List.length_map, List.length_take] at lu
      refine .inr ⟨g, hg, ?_⟩
      rw [List.take_of_length_le (by omega)]
      exact hu
    · refine .inl ⟨u.take (k + 1), ⟨j, b', g, u, by omega, hb', hg, hu, rfl⟩, ?_⟩
      rw [List.take_take, Nat.min_eq_left (Nat.le_succ k)]
  · rintro (⟨u, ⟨j, b', g, u', hj, hb', hg, hu, rfl⟩, rfl⟩ | ⟨g, hg, hw⟩)
    · refine ⟨j, b', g, u', by omega, hb', hg, hu, ?_⟩
      rw [List.take_take, Nat.min_eq_left (Nat.le_succ k)]
    · have lu := (((ok.bolts k b hb).gaps g hg).words w hw).1
      have lj : k < l.length := (List.getElem?_eq_some_iff.mp hb).1
      unfold manysOf at lu
      rw [List.length_map, List.length_take] at lu
      refine ⟨k, b, g, w, Nat.le_refl _, hb, hg, hw, ?_⟩
      rw [List.take_of_length_le (by omega)]
theorem isKeys_rows {K : PySem.W.Frag} {H : Hp} : ∀ {ws : List Word} {bs : List Addr}, IsKeys H (kws ws fun _ => V.bl true) bs → Paired (Wd K H) (bs.map V.ref) ws
  | [], _, h => by
    cases h
    exact .nil
  | w :: ws, _, h => by
    cases h with
    | cons r t =>
      refine .cons ⟨_, rfl, ?_⟩ (isKeys_rows t)
      have r' : _ = some (HO.tup ((keyW w).map kV)) := r
      rw [keyW_kV] at r'
      exact r'
def spWords (K : PySem.W.Frag) : Sp := fun vs H Q _ => ∃ (v : V) (l : Lock), vs = [v] ∧ LockAt K H v l ∧ LockOk l ∧
  ∀ H' p (rs : List Addr), Evl.Ex H H' → H p = none → H' p = some (.lst (rs.map V.ref)) → rs.length = l.length →
    (∀ k r, rs[k]? = some r → H r = none ∧ ∃ ws, RowAt K H' r ws ∧ WordsAt l k ws) → Q (.ref p) H'

/-- a word of a tuple of words, cut -/
theorem cut_take (xs : List V) (k : Nat) : cutV xs none (some (k : Int)) = xs.take k := by
  unfold cutV
  rw [HT.sIx_none, HT.sIx_nat]
  rw [List.drop_zero, Nat.sub_zero]
  by_cases h : k ≤ xs.length
  · rw [Nat.min_eq_left h]
  · rw [Nat.min_eq_right (by omega), List.take_length, List.take_of_length_le (by omega)]
theorem slice_whole {n k : Nat} (h : HT.sIx n n (some (k : Int)) = n) : n ≤ k := by
  rw [HT.sIx_nat] at h
  omega
end Wb

set_option Elab.async false
set_option linter.all false
set_option maxRecDepth 100000
set_option maxHeartbeats 4000000
set_option pp.maxSteps 600
set_option pp.deepTerms false
namespace Wb
open PySem PySem.Spec PyProof.Rows L2
section
variable {P : Program} {w : World} {K : PySem.W.Frag} {mg : Str → Option Value} {base : Heap}
theorem few_cuts {l : Lock} (ok : LockOk l) {k : Nat} (hk : k < l.length) {cur : List Word} (h1 : cur.Nodup) (h2 : ∀ u ∈ cur, cutsFrom l k u) : cur.length < sizeLine :=
  Nat.lt_of_le_of_lt (ok.words k cur hk h1 h2) (by decide)
theorem kws_len (ws : List Word) (v : Word → V) : (kws ws v).length = ws.length := List.length_map ..
theorem ok_words {f : Addr} {fd : FuncData} (F : Fun K "words_of" "words_of" sWords f fd) (B : Bi mg) : FnOk P w K mg base CX0 1 f fd ["lock"] (spWords K) := by
  refine F.ok scWords (fun vs H Q E h => ?_) (fun cdv A outer s H vs Q E hr h => ?_)
  · obtain ⟨v, l, rfl, _⟩ := h; rfl
  · obtain ⟨v, l, rfl, ⟨a, bs, rfl, hx, hp⟩, ok, q⟩ := h
    have hu := hu_of hr
    refine ⟨_, pss_cons (ps_set (i := 1) scWords.nd rfl (.inl rfl) (pe_lst pa_nil))
      (pss_cons (ps_set (i := 2) scWords.nd rfl (.inl rfl) (pe_lst pa_nil))
      (pss_cons (ps_for PassesOwn.never rfl (pi_revR (by rfl) B.rev (prg_1 (by rfl) B.range (pe_callB call_len_seq (by rfl) B.len PySem.boot_len (pa_cons (pv 0) pa_nil)))) (pg_name (i := 3) scWords.nd rfl (.inl rfl))
        (pss_cons (ps_set (i := 4) scWords.nd rfl (.inl rfl) pe_dnewT)
        (pss_cons (ps_for PassesOwn.never rfl (pi_list (pv 2)) (pg_name (i := 5) scWords.nd rfl (.inl rfl))
          (pss_one (ps_dput hu (pv 4) (pe_slice sl_tupA (pv 5) po_none (po_some (pv 3))) pe_bl rfl)))
        (pss_cons (ps_for PassesOwn.never rfl (pi_tup (pe_ix ix_tup (pe_ix ix_tup (pv 0) (pv 3) (fun _ _ => rfl)) pe_int (fun _ _ => rfl))) (pg_name (i := 6) scWords.nd rfl (.inl rfl))
          (pss_one (ps_for PassesOwn.never rfl (pi_tup (pe_ix ix_tup (pv 6) pe_int (fun _ _ => rfl))) (pg_name (i := 7) scWords.nd rfl (.inl rfl))
            (pss_one (ps_dput hu (pv 4) (pv 7) pe_bl rfl)))))
        (pss_cons (ps_set (i := 2) scWords.nd rfl (.inl rfl) (pe_callTy (call_list_dT rfl) (by rfl) B.list (PyProof.Rows.boot_list) (pa_cons (pv 4) pa_nil)))
        (pss_one (ps_expr (pe_bm PySem.F.plainAttrs_list PySem.F.slot_list_append PySem.F.type_list_append mt_append (pv 1) (pa_cons (pv 2) pa_nil)))))))))
      (pss_one (ps_ret (pe_revL (pv 1)))))), ?_⟩
    have bl : bs.length = l.length := Paired.len hp
    have n60 := ok.n1
    refine ⟨Nat.zero_le _, fun r0 nr0 => ?_⟩
    refine ⟨Nat.zero_le _, fun a0 na0 => ?_⟩
    have x1 : Evl.Ex H (upd H r0 (.lst [])) := Evl.Ex.new nr0
    have na0' : H a0 = none := Evl.fresh_back x1 na0
    have nar : r0 ≠ a0 := fun z => by rw [← z, upd_same] at na0; cases na0
    refine ⟨.ref a, rfl, a, bs, rfl, .inr (Evl.ex_t (x1.trans (Evl.Ex.new na0)) hx), _, rfl, by omega, by omega, by omega, by omega, ?_⟩
    refine for_rangeC (lo := _) (c := -1) (n := _) (fun i σ H' => ∃ (aA : Addr) (rs : List Addr) (ws : List Word) (y3 y4 y5 y6 y7 : Option V), σ = [some (.ref a), some (.ref r0), some (.ref aA), y3, y4, y5, y6, y7] ∧
        Evl.Ex H H' ∧ RowAt K H' aA ws ∧ WordsAt l (l.length - i) ws ∧ H' r0 = some (.lst (rs.map V.ref)) ∧ rs.length = i ∧
        ∀ j r, rs[j]? = some r → r ≠ r0 ∧ H r = none ∧ ∃ ws', RowAt K H' r ws' ∧ WordsAt l (l.length - 1 - j) ws')
      ⟨a0, [], [], none, none, none, none, none, rfl, x1.trans (Evl.Ex.new na0), ⟨[], upd_same, .nil⟩, ⟨List.nodup_nil, fun w => ?_⟩, by rw [upd_ne nar, upd_same]; rfl, rfl, fun j r e => by simp at e⟩ ?_ ?_
    · constructor
      · intro z; cases z
      · rintro ⟨j, b, g, u, hj, hb, _⟩
        have := (List.getElem?_eq_some_iff.mp hb).1
        omega
    · rintro i σ H1 hi ⟨aA, rs, ws, y3, y4, y5, y6, y7, rfl, e1, hA, hW, hR, hl, hrs⟩
      have hi' : i < l.length := by omega
      -- the bolt's number
      have ek : (0 : Int) + (((((bs.length : Nat) : Int) - 0).toNat : Nat) : Int) - 1 + (i : Nat) * (-1) = ((l.length - 1 - i : Nat) : Int) := by rw [bl]; omega
      rw [ek]
      generalize hk : l.length - 1 - i = k at *
      have hkl : k < l.length := by omega
      have hk1 : l.length - i = k + 1 := by omega
      rw [hk1] at hW
      obtain ⟨b, hb⟩ : ∃ b, l[k]? = some b := ⟨l[k], List.getElem?_eq_getElem hkl⟩
      obtain ⟨vb, hvb, hba⟩ := Paired.get2 hp hb
      obtain ⟨us, hAu, hAp⟩ := hA
      have ul : us.length = ws.length := Paired.len hAp
      intro d nd
      have nd0 : H d = none := Evl.fresh_back e1 nd
      have ndr : d ≠ r0 := fun z => by rw [z, hR] at nd; cases nd
      have e2 : Evl.Ex H1 (upd H1 d (.dT [])) := Evl.Ex.new nd
      -- the words above, cut
      refine ⟨.ref aA, rfl, aA, rfl, ⟨us, .inl (.inl (e2 _ _ hAu))⟩, for_list (K := K) (a := aA) (xs := us) (fun j σ H' => ∃ (cur : List Word) (y5 : Option V), σ = [some (.ref a), some (.ref r0), some (.ref aA), some (.int (k : Nat)), some (.ref d), y5, y6, y7] ∧
          Evl.Ex H1 H' ∧ H' d = some (.dT (kws cur fun _ => .bl true)) ∧ cur.Nodup ∧ ∀ u, u ∈ cur ↔ ∃ t ∈ ws.take j, u = t.take k) ⟨[], y5, rfl, e2, upd_same, List.nodup_nil, fun u => by simp⟩ ?_ ?_ ?_⟩
      · rintro j σ H' _ ⟨cur, z5, _, e, _⟩
        exact .inl (.inl (e _ _ hAu))
      · rintro j x σ H' hj ⟨cur, z5, rfl, e3, hd, nc, hc⟩
        obtain ⟨t, ht, ⟨ax, rfl, hax⟩⟩ := Paired.get1 hAp hj
        have htw : t ∈ ws := List.mem_of_getElem? ht
        have hcut : cutsFrom l (k + 1) t := (hW.2 t).mp htw
        have lt1 : t.length = k + 1 := cutsFrom_len ok (by omega) hcut
        have hcur : ∀ u ∈ cur, cutsFrom l k u := by
          intro u hu
          obtain ⟨t', ht', rfl⟩ := (hc u).mp hu
          exact (cuts_step ok hb _).mpr (.inl ⟨t', (hW.2 t').mp (List.mem_of_mem_take ht'), rfl⟩)
        have lc := few_cuts ok hkl nc hcur
        refine ⟨.ref d, rfl, .ref ax, rfl, .int (k : Nat), rfl, (k : Nat), rfl, ax, _, rfl, .inl (.inl (e3 _ _ hax)), fun z => absurd (slice_whole z.2) (by rw [List.length_map]; omega), fun _ p np => ?_⟩
        rw [cut_take, ← List.map_take]
        have npd : p ≠ d := fun z => by rw [z, hd] at np; cases np
        have e4 := Evl.Ex.new (o := .tup ((t.take k).map V.int)) np
        refine ⟨d, _, rfl, DPut.t (k := keyW (t.take k)) (e4 _ _ hd) (by rw [keyW_kV]; exact upd_same) (by rw [kws_len]; exact lc), ?_⟩
        refine ⟨addW cur (t.take k), _, rfl, (e3.trans e4).mut nd, by rw [upd_same, put_kws], nodup_addW nc, fun u => ?_⟩
        rw [mem_addW, hc u, take_succ_get ht]
        constructor
        · rintro (⟨t', h1, h2⟩ | rfl)
          · exact ⟨t', List.mem_append_left _ h1, h2⟩
          · exact ⟨t, by simp, rfl⟩
        · rintro ⟨t', h1, h2⟩
          rcases List.mem_append.mp h1 with h1 | h1
          · exact .inl ⟨t', h1, h2⟩
          · have : t' = t := by simpa using h1
            subst this
            exact .inr h2
      · rintro σ H2 ⟨cur0, z5, rfl, e3, hd, nc0, hc0⟩
        rw [ul, List.take_length] at hc0
        obtain ⟨ab, cg, gs, rfl, hb1, hb2, hb3⟩ := hba
        have e13 := e1.trans e3
        have gl : gs.length = b.gaps.length := Paired.len hb3
        -- the bolt's own ways
        refine ⟨.ref a, rfl, .int (k : Nat), rfl, a, bs, (k : Nat), .ref ab, rfl, rfl, Evl.ex_t e13 hx, atI_nat hvb, ab, _, 1, .ref cg, rfl, rfl, Evl.ex_t e13 hb1, atI_nat (j := 1) rfl, cg, rfl, ⟨gs, Evl.ex_t e13 hb2⟩,
          for_tup (K := K) (a := cg) (xs := gs) (fun j σ H' => ∃ (cur : List Word) (y6 y7 : Option V), σ = [some (.ref a), some (.ref r0), some (.ref aA), some (.int (k : Nat)), some (.ref d), z5, y6, y7] ∧
            Evl.Ex H1 H' ∧ H' d = some (.dT (kws cur fun _ => .bl true)) ∧ cur.Nodup ∧ ∀ u, u ∈ cur ↔ (∃ t ∈ ws, u = t.take k) ∨ ∃ g ∈ b.gaps.take j, u ∈ g.ways) ⟨cur0, y6, y7, rfl, e3, hd, nc0, fun u => by rw [hc0]; simp⟩ ?_ ?_ ?_⟩
        · rintro j σ H' _ ⟨cur, _, _, _, e, _⟩
          exact Evl.ex_t (e1.trans e) hb2
        · rintro j x σ H' hj ⟨cur, z6, z7, rfl, e4, hd4, nc, hc⟩
          obtain ⟨g, hgj, ⟨ag, bg, wv, rfl, hg1, hg2, hg3⟩⟩ := Paired.get1 hb3 hj
          have hgm : g ∈ b.gaps := List.mem_of_getElem? hgj
          have e14 := e1.trans e4
          have wl : wv.length = g.ways.length := Paired.len hg3
          refine ⟨.ref ag, rfl, ag, _, 3, .ref bg, rfl, rfl, Evl.ex_t e14 hg1, atI_nat (j := 3) rfl, bg, rfl, ⟨wv, Evl.ex_t e14 hg2⟩,
            for_tup (K := K) (a := bg) (xs := wv) (fun m σ H' => ∃ (cur : List Word) (y7 : Option V), σ = [some (.ref a), some (.ref r0), some (.ref aA), some (.int (k : Nat)), some (.ref d), z5, some (.ref ag), y7] ∧
              Evl.Ex H1 H' ∧ H' d = some (.dT (kws cur fun _ => .bl true)) ∧ cur.Nodup ∧ ∀ u, u ∈ cur ↔ ((∃ t ∈ ws, u = t.take k) ∨ ∃ g ∈ b.gaps.take j, u ∈ g.ways) ∨ u ∈ g.ways.take m) ⟨cur, z7, rfl, e4, hd4, nc, fun u => by rw [hc]; simp⟩ ?_ ?_ ?_⟩
          · rintro m σ H' _ ⟨_, _, _, e, _⟩
            exact Evl.ex_t (e1.trans e) hg2
          · rintro m x σ H3 hm ⟨cur, z7, rfl, e5, hd5, nc, hc⟩
            obtain ⟨t, ht, ⟨ax, rfl, hax⟩⟩ := Paired.get1 hg3 hm
            have hcur : ∀ u ∈ cur, cutsFrom l k u := by
              intro u hu
              rcases (hc u).mp hu with (⟨t', ht', rfl⟩ | ⟨g', hg', hu'⟩) | hu'
              · exact (cuts_step ok hb _).mpr (.inl ⟨t', (hW.2 t').mp ht', rfl⟩)
              · exact (cuts_step ok hb _).mpr (.inr ⟨g', List.mem_of_mem_take hg', hu'⟩)
              · exact (cuts_step ok hb _).mpr (.inr ⟨g, hgm, List.mem_of_mem_take hu'⟩)
            have lc := few_cuts ok hkl nc hcur
            refine ⟨.ref d, rfl, .ref ax, rfl, d, _, rfl, DPut.t (k := keyW t) hd5 (by rw [keyW_kV]; exact (e1.trans e5) _ _ hax) (by rw [kws_len]; exact lc), ?_⟩
            refine ⟨addW cur t, _, rfl, e5.mut nd, by rw [upd_same, put_kws], nodup_addW nc, fun u => ?_⟩
            rw [mem_addW, hc u, take_succ_get ht, List.mem_append, or_assoc]
            simp
          · rintro σ H3 ⟨cur, z7, rfl, e5, hd5, nc, hc⟩
            refine ⟨cur, _, _, rfl, e5, hd5, nc, fun u => ?_⟩
            rw [hc u, wl, List.take_length, take_succ_get hgj, or_assoc]
            simp only [List.mem_append, List.mem_singleton]
            constructor
            · rintro (h | ⟨g', h1, h2⟩ | h)
              · exact .inl h
              · exact .inr ⟨g', .inl h1, h2⟩
              · exact .inr ⟨g, .inr rfl, h⟩
            · rintro (h | ⟨g', h1 | h1, h2⟩)
              · exact .inl h
              · exact .inr (.inl ⟨g', h1, h2⟩)
              · exact .inr (.inr (h1 ▸ h2))
        · rintro σ H2 ⟨cur, z6, z7, rfl, e4, hd4, nc, hc⟩
          rw [gl, List.take_length] at hc
          have hcur : ∀ u, u ∈ cur ↔ cutsFrom l k u := by
            intro u
            rw [hc u, cuts_step ok hb u]
            constructor
            · rintro (⟨t, h1, h2⟩ | h)
              · exact .inl ⟨t, (hW.2 t).mp h1, h2⟩
              · exact .inr h
            · rintro (⟨t, h1, h2⟩ | h)
              · exact .inl ⟨t, (hW.2 t).mpr h1, h2⟩
              · exact .inr h
          refine ⟨.ref d, rfl, d, _, rfl, .inl hd4, fun p qs np hk' => ?_⟩
          have hrows := isKeys_rows (K := K) hk'
          have e5 := Evl.Ex.new (o := .lst (qs.map V.ref)) np
          have npr : p ≠ r0 := fun z => by rw [z, e4 _ _ hR] at np; cases np
          have hR5 : (upd H2 p (.lst (qs.map V.ref))) r0 = some (.lst (rs.map V.ref)) := e5 _ _ (e4 _ _ hR)
          refine ⟨.ref r0, rfl, .inl ⟨rfl, _, SqL.of hR5⟩, .ref p, rfl, r0, _, _, rfl, rfl, hR5, ?_, ?_⟩
          · rw [List.length_map, hl]
            exact Nat.lt_of_lt_of_le (show i < 61 by omega) (by decide)
          · have e15 : Evl.Ex H1 (upd H2 p (.lst (qs.map V.ref))) := e4.trans e5
            have keep : ∀ {r : Addr} {ws' : List Word} {Hx : Hp}, r ≠ r0 → RowAt K Hx r ws' → Hx r0 ≠ none → (∀ xs, Hx r0 ≠ some (.tup xs)) → ∀ o, RowAt K (upd Hx r0 o) r ws' := by
              rintro r ws' Hx hne ⟨us', h1, h2⟩ _ ht o
              refine ⟨us', by rw [upd_ne hne]; exact h1, Paired.imp (fun v w' h => ?_) h2⟩
              obtain ⟨ax, rfl, hax⟩ := h
              exact ⟨ax, rfl, by rw [upd_ne (fun z => ht _ (z ▸ hax))]; exact hax⟩
            have nn : (upd H2 p (.lst (qs.map V.ref))) r0 ≠ none := by rw [hR5]; exact fun z => nomatch z
            have nt : ∀ xs, (upd H2 p (.lst (qs.map V.ref))) r0 ≠ some (.tup xs) := fun xs z => by rw [hR5] at z; cases z
            have hP : RowAt K (upd H2 p (.lst (qs.map V.ref))) p cur := ⟨qs.map V.ref, upd_same, Paired.imp (fun _ _ => wd_ex e5) hrows⟩
            have hWk : WordsAt l k cur := ⟨nc, hcur⟩
            refine ⟨p, rs ++ [p], cur, _, _, _, _, _, rfl, (e1.trans e15).mut nr0, keep npr hP nn nt _, ?_, by rw [upd_same, List.map_append]; rfl, by simp [hl], ?_⟩
            · rw [show l.length - (i + 1) = k by omega]
              exact hWk
            · intro j r hj
              by_cases hjl : j < rs.length
              · rw [List.getElem?_append_left hjl] at hj
                obtain ⟨h1, h0, ws', h2, h3⟩ := hrs j r hj
                exact ⟨h1, h0, ws', keep h1 (h2.ex e15) nn nt _, h3⟩
              · rw [List.getElem?_append_right (by omega)] at hj
                have : j = rs.length := by
                  by_cases e : j - rs.length = 0
                  · omega
                  · rw [List.getElem?_eq_none (by simp; omega)] at hj; cases hj
                subst this
                rw [Nat.sub_self] at hj
                have er : r = p := (Option.some.inj hj).symm
                subst er
                exact ⟨npr, Evl.fresh_back (e1.trans e4) np, cur, keep npr hP nn nt _, by rw [hl, hk]; exact hWk⟩
    · rintro σ H1 ⟨aA, rs, ws, y3, y4, y5, y6, y7, rfl, e1, hA, hW, hR, hl, hrs⟩
      have hl' : rs.length = l.length := by rw [hl, bl]; omega
      refine ⟨.ref r0, rfl, r0, _, rfl, .inl (.inl hR), fun p np => ?_⟩
      rw [← List.map_reverse]
      have e2 := Evl.Ex.new (o := .lst (rs.reverse.map V.ref)) np
      refine q _ p rs.reverse (e1.trans e2) (Evl.fresh_back e1 np) upd_same (by rw [List.length_reverse, hl']) ?_
      intro k r hk
      have hk2 : k < rs.reverse.length := (List.getElem?_eq_some_iff.mp hk).1
      rw [List.length_reverse] at hk2
      rw [List.getElem?_reverse hk2] at hk
      obtain ⟨_, h0, ws', h2, h3⟩ := hrs _ r hk
      refine ⟨h0, ws', h2.ex e2, ?_⟩
      rw [show l.length - 1 - (rs.length - 1 - k) = k by omega] at h3
      exact h3
end
end Wb

set_option Elab.async false
set_option linter.all false
set_option maxRecDepth 100000
set_option maxHeartbeats 4000000
set_option pp.maxSteps 600
set_option pp.deepTerms false
namespace L2
open PySem PySem.Spec PyProof.Rows
/-! ### {k: v for .. in ..}, keys that are tuples -/
theorem dT_set {X : Cx} {pins : List (Addr × Obj)} {σ : L2.St} {H : Hp} {s : Shared} {E : Value → Shared → Prop} {D q : Addr} {kvs : List (List Key × V)} {k : List Key} {v : V} {r : Value} {Q : Unit → Shared → Prop} (hu : X.A.units + 1 < cLine)
    (I : Inv X pins σ H s) (hD : H D = some (.dT kvs)) (hz : kvs.length < sizeLine) (hq : H q = some (.tup (k.map kV))) (rv : RelV v r)
    (go : ∀ s', Inv X pins σ (upd H D (.dT (putK kvs k v))) s' → Q () s') : wpAny (model X.prog X.w) X.A (dictSet D (.ref q) r) Q E s := by
  obtain ⟨z, hd, xs, rel, dd⟩ := dt_of I.hok hD
  have n1 : xs.length ≤ sizeLine := by rw [← Paired.length rel]; exact z
  have n2 : (putK kvs k v).length ≤ sizeLine := by have := length_putK kvs k v; omega
  apply wpAny_dictSet_heap (hsz := n1) (show (tupleKind (mixKind X.prog X.w)).room X.A from Nat.lt_trans (Nat.lt_succ_self _) hu) (key_of I.hok hq) dd
  intro h' dd' hs
  apply go
  obtain ⟨o, es, ep, e1, e2, e3, e4, _, e5⟩ := dd'
  apply d_write I (by rw [hD]; exact True.intro) hs ⟨o, e1⟩
  refine ⟨n2, hd, _, (rel.put k hq rv).keeps ?_, o, es, ep, e1, e2, e3, e4, e5⟩
  intro c ys ec
  rw [upd_ne (ne_of ec hD (fun z => nomatch z))]
  exact ec
section
variable {X : Cx}
def tDcT (wi : TI) (g : TG) (tt : TT) (tk tv : TE) (vs : List Nat) : TE := fun σ H Q => wi σ H fun J H1 => ∀ D, H1 D = none → ∃ W : Nat → Nat → Hp → Prop, (∃ m, W 0 m (upd H1 D (.dT []))) ∧ ∀ i m H, W i m H →
  (J.stop i H ∧ Q (.ref D) H) ∨ (J.go i H ∧ ∃ Nx : Hp → Prop, (∀ H', Nx H' → ∃ m', m' < m ∧ W (i + 1) m' H') ∧ ∀ x H', J.yld i H x H' → g x (wipe σ vs) H' fun σ2 H2 => wipe σ2 vs = wipe σ vs ∧ tt σ2 H2 fun b H3 =>
    if b = true then tk σ2 H3 fun y H4 => tv σ2 H4 fun z H5 => ∃ kvs k q, y = .ref q ∧ H5 q = some (.tup (k.map kV)) ∧ H5 D = some (.dT kvs) ∧ kvs.length < sizeLine ∧ Nx (upd H5 D (.dT (putK kvs k z))) else Nx H3)
theorem dct_core {pins : List (Addr × Obj)} {s : Shared} {σ : L2.St} {H : Hp} {Q : VK} {kx vx tg iter : Expr} {ifs : List Expr} {sc : Scope} {own : List (Str × Nat)} {pos pos' : Pos} {wi : TI} {g : TG} {tt : TT} {tk tv : TE}
    {use : Option (Value → Sem Unit)} {Qf : Value → Shared → Prop} (hu : X.A.units + 1 < cLine) (hc : X.calm = true) (hN : X.N.Nodup) (I : Inv X pins σ H s) (hi : PI X tg iter wi) (ok : BlkOk X.N X.env.scope sc own)
    (pgs : ∀ (s : Shared) (H : Hp) (C : Addr) (cl : List (Str × Addr)) (fp : List Addr), PG (X.blk s H sc (compEnvC sc cl C X.env) fp) tg g)
    (pts : ∀ (s : Shared) (H : Hp) (C : Addr) (cl : List (Str × Addr)) (fp : List Addr), PTs (X.blk s H sc (compEnvC sc cl C X.env) fp) ifs tt)
    (pks : ∀ (s : Shared) (H : Hp) (C : Addr) (cl : List (Str × Addr)) (fp : List Addr), PE (X.blk s H sc (compEnvC sc cl C X.env) fp) kx tk)
    (pes : ∀ (s : Shared) (H : Hp) (C : Addr) (cl : List (Str × Addr)) (fp : List Addr), PE (X.blk s H sc (compEnvC sc cl C X.env) fp) vx tv)
    (hs : ∀ x, foldedSetIterable iter X.env x = pure x) (h : tDcT wi g tt tk tv (own.map (·.2)) σ H Q)
    (fin0 : ∀ D C s' m H', Inv X pins σ H' s' → Q (.ref D) H' → s'.heap.Ns C m → FpOk X pins H' C → compPost (model X.prog X.w) X.A X.xe use Qf (.ref D) C (.ok .next) s') :
    wpAny (model X.prog X.w) X.A (comprehension (.DictComp kx vx [⟨tg, iter, ifs, 0⟩] sc pos) sc X.env pos' newDict false (eval iter X.env) use) Qf X.xe s := by
  have frees : ∀ y ∈ sc.names, y.2 = .free → ∃ c, X.env.cells.lookup y.1 = some c := by
    intro y hy e
    cases ok.free y hy e with
    | inl k => exact I.ok.has _ (.inl k)
    | inr k => exact I.ok.has _ (.inr k)
  apply wpAny_comprehension_free (use := use) rfl hs (closure_ok frees) ok.kind (fun y hy e => by rw [ok.uniq y hy, e])
  refine thn (hi.run pins s σ H _ I h) ?_
  intro xv s1 hx
  refine thn hx ?_
  rintro itv s2 ⟨it, fp, tn, J, H2, rfl, I2, T, st2, f2, q⟩
  refine wpAny_newObj_type (newEnv_comp ?_)
  obtain ⟨D, hD⟩ : ∃ D, s2.heap.objs.size = D := ⟨_, rfl⟩
  have hDn : H2 D = none := I2.hok.fresh (Nat.le_of_eq hD)
  obtain ⟨W, ⟨m0, w0⟩, turn⟩ := q D hDn
  obtain ⟨s3, hs3⟩ : ∃ s3 : Shared, ({ s2 with heap := s2.heap.push { cls := .type "dict", data := .dict #[] } } : Shared) = s3 := ⟨_, rfl⟩
  rw [hD, hs3]
  have h3 : s3.heap = s2.heap.push { cls := .type "dict", data := .dict #[] } := by rw [← hs3]
  have I3 : Inv X pins σ (upd H2 D (.dT [])) s3 := by
    subst hs3
    apply I2.laid (t' := s2.toks) (fun b o e => Heap.get?_push_of_some _ e) (Nat.le_of_eq hD)
    subst hD
    exact dt_empty s2.heap I2.big
  have below : ∀ b ∈ fp, b < s2.heap.objs.size := by
    intro b hb
    obtain ⟨o, e, _⟩ := T.obj _ _ st2 b hb
    exact Heap.lt_size e
  have f3 : ∀ b ∈ fp, FpOk X pins (upd H2 D (.dT [])) b ∧ b < s3.heap.objs.size := by
    intro b hb
    have lt := below b hb
    refine ⟨⟨?_, (f2 b hb).2⟩, by rw [h3, Heap.size_push]; exact Nat.lt_succ_of_lt lt⟩
    rw [upd_ne (by subst hD; exact Nat.ne_of_lt lt)]
    exact (f2 b hb).1
  have st3 : tn 0 s3.heap := by
    apply T.keep _ _ _ st2
    intro b _ o e
    rw [h3]
    exact Heap.get?_push_of_some _ e
  have I4 := block_start I3 ok hN f3
  have pg := pgs s3 (upd H2 D (.dT [])) s3.heap.objs.size (cellsFrom (s3.heap.objs.size + 1) sc.names (cloFrom X.env.cells sc.names [])) fp
  have pt := pts s3 (upd H2 D (.dT [])) s3.heap.objs.size (cellsFrom (s3.heap.objs.size + 1) sc.names (cloFrom X.env.cells sc.names [])) fp
  have pk := pks s3 (upd H2 D (.dT [])) s3.heap.objs.size (cellsFrom (s3.heap.objs.size + 1) sc.names (cloFrom X.env.cells sc.names [])) fp
  have pe := pes s3 (upd H2 D (.dT [])) s3.heap.objs.size (cellsFrom (s3.heap.objs.size + 1) sc.names (cloFrom X.env.cells sc.names [])) fp
  show codeAny _ _ (.compStart (.DictComp kx vx [⟨tg, iter, ifs, 0⟩] sc pos) 0 (.ref it) (.ref D) (compEnvC sc (cellsFrom (s3.heap.objs.size + 1) sc.names (cloFrom X.env.cells sc.names [])) s3.heap.objs.size X.env)) _ { s3 with heap := pushCells (s3.heap.push { cls := .type "dict", data := .dict #[] }) sc.names }
  have none3 : ∀ b ∈ fp, (upd H2 D (.dT [])) b = none := fun b hb => (f3 b hb).1.1
  generalize hce : compEnvC sc (cellsFrom (s3.heap.objs.size + 1) sc.names (cloFrom X.env.cells sc.names [])) s3.heap.objs.size X.env = ce at I4 pg pt pk pe ⊢
  have cL : ce.locals = s3.heap.objs.size := by rw [← hce]; rfl
  generalize hH3 : upd H2 D (.dT []) = H3 at I3 I4 pg pt pk pe w0 none3 f3
  generalize hs4 : ({ s3 with heap := pushCells (s3.heap.push { cls := .type "dict", data := .dict #[] }) sc.names } : Shared) = s4 at I4 ⊢
  have st4 : tn 0 s4.heap := by
    apply T.keep _ _ _ st3
    intro b _ o e
    rw [← hs4]
    exact pushCells_keeps _ _ _ _ (Heap.get?_push_of_some _ e)
  have stat : ∀ {σ' : L2.St} {H' : Hp} {s' : Shared}, Inv (X.blk s3 H3 sc ce fp) [] σ' H' s' → (∀ b ∈ fp, H' b = none) → ∀ b ∈ fp, FpOk (X.blk s3 H3 sc ce fp) [] H' b := by
    intro σ' H' s' I' hn b hb
    refine ⟨hn b hb, (I'.ok.exf b hb).1, I'.ok.exfs b hb, .inl hb, fun x c e => (I'.ok.exf b hb).2 x c e, ?_⟩
    intro p hp
    exact absurd (show p ∈ ([] : List (Addr × Obj)) ++ [] from hp) (by simp)
  refine (fun loop => codeAny_compStart_dict loop (T.self X.A 0 _ _ _ st4 loop)) ?_
  apply compLoop_anyD (fun n s' => ∃ i H', Inv (X.blk s3 H3 sc ce fp) [] (wipe σ (own.map (·.2))) H' s' ∧ tn i s'.heap ∧ (∀ b ∈ fp, H' b = none) ∧ W i n H') _ m0 ⟨0, H3, I4, st4, none3, w0⟩
  rintro n s5 ⟨i, H5, I5, st5, n5, w5⟩
  rcases turn i n H5 w5 with ⟨stop, qq⟩ | ⟨go, Nx, hNx, step⟩
  · refine thnF (T.done (X.blk s3 H3 sc ce fp) rfl rfl rfl hc i [] s5 _ H5 (fun _ _ => False) I5 (stat I5 n5) st5 stop) ?_
    rintro r s6 ⟨rfl, I6⟩
    have I7 : Inv X pins σ H5 s6 := I3.call' (ch := fp) I6.os I6.base I6.hok I6.bare (fun b hb => by
      have z := (f3 b hb).1
      exact ⟨z.2.2.2.1, z.2.1, z.2.2.2.2.1, z.2.2.2.2.2⟩)
    have nC : H5 s3.heap.objs.size = none := by
      rw [← cL]
      exact I6.free
    obtain ⟨m, hn, _⟩ := I6.loc
    have hn' : s6.heap.Ns s3.heap.objs.size m := by
      rw [← cL]
      exact hn
    exact fin0 D s3.heap.objs.size s6 m H5 I7 qq hn' (I3.fpOk (b := s3.heap.objs.size) (Nat.le_refl _) nC)
  · refine thnF (T.item (X.blk s3 H3 sc ce fp) rfl rfl rfl hc i [] s5 _ H5 (fun _ _ => False) I5 (stat I5 n5) st5 go) ?_
    rintro r s6 ⟨u, rfl, h6⟩
    refine thnF h6 ?_
    rintro _ s7 ⟨x, H7, I7, r7, y7, st7, n7⟩
    have I7p := I7.pinned (stat I7 n7) (T.obj _ _ st7)
    refine thnF (pg.run _ s7 _ H7 x u _ I7p r7 (step x H7 y7)) ?_
    rintro _ s8 ⟨σ8, H8, I8, hw8, q8⟩
    refine thnF (pt.run _ s8 σ8 H8 _ I8 q8) ?_
    rintro b s9 ⟨H9, I9, q9⟩
    have fin : ∀ {s' : Shared} {H' : Hp}, Inv (X.blk s3 H3 sc ce fp) ([] ++ pinsAt fp s7.heap) σ8 H' s' → Nx H' →
        ∃ m, m < n ∧ ∃ i H', Inv (X.blk s3 H3 sc ce fp) [] (wipe σ (own.map (·.2))) H' s' ∧ tn i s'.heap ∧ (∀ b ∈ fp, H' b = none) ∧ W i m H' := by
      intro s' H' I' nx
      obtain ⟨m', hm, w'⟩ := hNx H' nx
      have stay : ∀ b ∈ fp, ∀ o, s7.heap.get? b = some o → s'.heap.get? b = some o ∧ H' b = none := by
        intro b hb o e
        have z := I'.pin (b, o) (List.mem_append_right _ (List.mem_append_right _ (mem_pinsAt hb e)))
        exact ⟨z.1, z.2.1⟩
      refine ⟨m', hm, i + 1, H', (I'.unpinned (pins := [])).weak (by rw [← hw8, wipe_length]) ?_, T.keep _ _ _ st7 (fun b hb o e => (stay b hb o e).1), ?_, w'⟩
      · intro j v e
        rw [← hw8] at e
        exact (wipe_some e).1
      · intro b hb
        obtain ⟨o, e, _⟩ := T.obj _ _ st7 b hb
        exact (stay b hb o e).2
    cases b
    · simp only [Bool.false_eq_true, if_false] at q9 ⊢
      exact fin I9 q9
    · simp only [if_true] at q9 ⊢
      refine thnF (pk.run _ s9 σ8 H9 _ I9 q9) ?_
      rintro z s10 ⟨yk, H10, I10, r10, q10⟩
      refine thnF (pe.run _ s10 σ8 H10 _ I10 q10) ?_
      rintro z2 s11 ⟨yv, H11, I11, r11, kvs, k, kq, rfl, hkq, hD11, hz11, nx⟩
      cases r10
      exact dT_set (X := X.blk s3 H3 sc ce fp) hu I11 hD11 hz11 hkq r11 (fun s12 I12 => fin I12 nx)
theorem pe_dcT {kx vx tg iter : Expr} {ifs : List Expr} {sc : Scope} {own : List (Str × Nat)} {pos : Pos} {wi : TI} {g : TG} {tt : TT} {tk tv : TE} (hu : X.A.units + 1 < cLine) (hc : X.calm = true) (hN : X.N.Nodup) (hi : PI X tg iter wi) (ok : BlkOk X.N X.env.scope sc own)
    (pgs : ∀ (s : Shared) (H : Hp) (C : Addr) (cl : List (Str × Addr)) (fp : List Addr), PG (X.blk s H sc (compEnvC sc cl C X.env) fp) tg g)
    (pts : ∀ (s : Shared) (H : Hp) (C : Addr) (cl : List (Str × Addr)) (fp : List Addr), PTs (X.blk s H sc (compEnvC sc cl C X.env) fp) ifs tt)
    (pks : ∀ (s : Shared) (H : Hp) (C : Addr) (cl : List (Str × Addr)) (fp : List Addr), PE (X.blk s H sc (compEnvC sc cl C X.env) fp) kx tk)
    (pes : ∀ (s : Shared) (H : Hp) (C : Addr) (cl : List (Str × Addr)) (fp : List Addr), PE (X.blk s H sc (compEnvC sc cl C X.env) fp) vx tv)
    (hs : ∀ x, foldedSetIterable iter X.env x = pure x := by intro _; rfl) : PE X (.DictComp kx vx [⟨tg, iter, ifs, 0⟩] sc pos) (tDcT wi g tt tk tv (own.map (·.2))) := by
  constructor
  intro pins s σ H Q I h
  rw [arm_eval_DictComp]
  apply dct_core hu hc hN I hi ok pgs pts pks pes hs h
  intro D C s' m H' I' q hn f
  refine ⟨m, hn, ?_⟩
  intro h'' sb
  obtain ⟨g0, g1, g2, g3, g4, g5⟩ := f
  exact ⟨.ref D, H', I'.turned (t' := s'.toks) (fun b o hb e => (sb.2 b hb).trans e) g0 g1 g3 g4 g5, rfl, q⟩
/-- name = {..} on one line, the name a local -/
theorem ps_setDcT {i : Nat} {y : Str} {py : Pos} {kx vx tg iter : Expr} {ifs : List Expr} {sc : Scope} {own : List (Str × Nat)} {pos spos : Pos} {wi : TI} {g : TG} {tt : TT} {tk tv : TE} (hu : X.A.units + 1 < cLine) (hc : X.calm = true) (hN : X.N.Nodup)
    (hy : X.N[i]? = some y) (hyl : X.env.scope.names.lookup y = some .local) (hsw : swapsWith (.DictComp kx vx [⟨tg, iter, ifs, 0⟩] sc pos) (some (.Name y py)) spos.line X.env = pure true) (hi : PI X tg iter wi) (ok : BlkOk X.N X.env.scope sc own)
    (pgs : ∀ (s : Shared) (H : Hp) (C : Addr) (cl : List (Str × Addr)) (fp : List Addr), PG (X.blk s H sc (compEnvC sc cl C X.env) fp) tg g)
    (pts : ∀ (s : Shared) (H : Hp) (C : Addr) (cl : List (Str × Addr)) (fp : List Addr), PTs (X.blk s H sc (compEnvC sc cl C X.env) fp) ifs tt)
    (pks : ∀ (s : Shared) (H : Hp) (C : Addr) (cl : List (Str × Addr)) (fp : List Addr), PE (X.blk s H sc (compEnvC sc cl C X.env) fp) kx tk)
    (pes : ∀ (s : Shared) (H : Hp) (C : Addr) (cl : List (Str × Addr)) (fp : List Addr), PE (X.blk s H sc (compEnvC sc cl C X.env) fp) vx tv)
    (hs : ∀ x, foldedSetIterable iter X.env x = pure x := by intro _; rfl) :
    PS X (.Assign [.Name y py] (.DictComp kx vx [⟨tg, iter, ifs, 0⟩] sc pos) spos) (tAsg (tDcT wi g tt tk tv (own.map (·.2))) (gName i)) := by
  constructor
  intro pins s σ H D I h
  rw [exec_Assign_Name_used _ _ _ _ hsw]
  apply wpAny_bind
  apply wpAny_standAt
  apply wpAny_bind
  show wpAny _ X.A (do let _ ← comprehension (.DictComp kx vx [⟨tg, iter, ifs, 0⟩] sc pos) sc X.env (firstIterPos [⟨tg, iter, ifs, 0⟩] pos) newDict false (eval iter X.env) (some (assign (.Name y py) X.env))) _ _ s
  have h' : tDcT wi g tt tk tv (own.map (·.2)) σ H (fun x H1 => gName i x σ H1 D.nx) := h
  apply wpAny_bind
  refine thn (dct_core (Qf := fun _ s' => SP X pins D .next s') hu hc hN I hi ok pgs pts pks pes hs h' ?_) (fun _ s' hq => wpAny_pure (wpAny_pure hq))
  intro L C s' m H' I' q hn f
  show wpAny _ _ (assign (.Name y py) X.env (.ref L)) _ _ _
  apply wpAny_assign_Name
  refine store_ok2 (v := V.ref L) I' hN hy (.inl hyl) rfl ?_ (.inr hyl)
  rintro s2 I2 ⟨a, sb, ha⟩
  obtain ⟨g0, g1, g2, g3, g4, g5⟩ := f
  have apart : C ≠ a := by
    cases ha with
    | inl z => rw [z]; exact g1
    | inr z => exact fun e => g4 y a z e.symm
  refine ⟨m, hn.sameBut sb apart, ?_⟩
  intro h3 sb3
  exact ⟨_, H', I2.turned (t' := s2.toks) (fun b o hb e => (sb3.2 b hb).trans e) g0 g1 g3 g4 g5, q⟩
end
end L2

set_option Elab.async false
set_option linter.all false
set_option maxRecDepth 100000
set_option maxHeartbeats 4000000
set_option pp.maxSteps 600
set_option pp.deepTerms false
namespace Wb
open PySem PySem.Spec PyProof.Rows L2
abbrev sFault : Stmt := topS 18
abbrev sManys : Stmt := topS 22
abbrev sNeedL : Stmt := topS 23
theorem scFault : FnScope ["thing", "manys", "k", "bolt", "words"] ["thing"] (defScope sFault) := ⟨rfl, rfl, rfl, by decide +kernel, rfl, by decide +kernel, by decide +kernel⟩
theorem scManys : FnScope ["lock", "bolt"] ["lock"] (defScope sManys) := ⟨rfl, rfl, rfl, by decide +kernel, rfl, by decide +kernel, by decide +kernel⟩
theorem scNeedL : FnScope ["lock", "fault"] ["lock"] (defScope sNeedL) := ⟨rfl, rfl, rfl, by decide +kernel, rfl, by decide +kernel, by decide +kernel⟩

abbrev sWithin : Stmt := topS 25
abbrev nWithin : List Str := ["lock", "second", "bolt", "other"]
theorem scWithin : FnScope nWithin ["lock", "second"] (defScope sWithin) := ⟨rfl, rfl, rfl, by decide +kernel, rfl, by decide +kernel, by decide +kernel⟩
abbrev sBoltW : Stmt := topS 26
abbrev nBoltW : List Str := ["bolt", "other", "prices", "here", "there", "price", "ways", "way"]
theorem scBoltW : FnScope nBoltW ["bolt", "other"] (defScope sBoltW) := ⟨rfl, rfl, rfl, by decide +kernel, rfl, by decide +kernel, by decide +kernel⟩
/-- all defs of the checks, as they stand -/
structure Pr (K : PySem.W.Frag) (mg : Str → Option Value) where
  f1 : Addr
  d1 : FuncData
  F1 : Fun K "is_whole" "is_whole" sWhole f1 d1
  b1 : Binds K d1 ["thing"] []
  g1 : mg "is_whole" = some (.ref f1)
  f2 : Addr
  d2 : FuncData
  F2 : Fun K "is_whole_in" "is_whole_in" sWholeIn f2 d2
  b2 : Binds K d2 ["thing", "low", "high"] []
  g2 : mg "is_whole_in" = some (.ref f2)
  f3 : Addr
  d3 : FuncData
  F3 : Fun K "is_tuple_of" "is_tuple_of" sTupOf f3 d3
  b3 : Binds K d3 ["thing", "low", "high"] []
  g3 : mg "is_tuple_of" = some (.ref f3)
  f4 : Addr
  d4 : FuncData
  F4 : Fun K "are_places" "are_places" sPlaces f4 d4
  b4 : Binds K d4 ["thing", "manys"] []
  g4 : mg "are_places" = some (.ref f4)
  f10 : Addr
  d10 : FuncData
  F10 : Fun K "words_of" "words_of" sWords f10 d10
  b10 : Binds K d10 ["lock"] []
  g10 : mg "words_of" = some (.ref f10)
  f19 : Addr
  d19 : FuncData
  F19 : Fun K "fault_of" "fault_of" sFault f19 d19
  b19 : Binds K d19 ["thing"] []
  g19 : mg "fault_of" = some (.ref f19)
  f20 : Addr
  d20 : FuncData
  F20 : Fun K "is_bolt" "is_bolt" sBolt f20 d20
  b20 : Binds K d20 ["thing", "below"] []
  g20 : mg "is_bolt" = some (.ref f20)
  f21 : Addr
  d21 : FuncData
  F21 : Fun K "is_gap" "is_gap" sGap f21 d21
  b21 : Binds K d21 ["thing", "many", "below"] []
  g21 : mg "is_gap" = some (.ref f21)
  f22 : Addr
  d22 : FuncData
  F22 : Fun K "are_ways" "are_ways" sWays f22 d22
  b22 : Binds K d22 ["thing", "below"] []
  g22 : mg "are_ways" = some (.ref f22)
  f23 : Addr
  d23 : FuncData
  F23 : Fun K "manys_of" "manys_of" sManys f23 d23
  b23 : Binds K d23 ["lock"] []
  g23 : mg "manys_of" = some (.ref f23)
  f24 : Addr
  d24 : FuncData
  F24 : Fun K "need_lock" "need_lock" sNeedL f24 d24
  b24 : Binds K d24 ["lock"] []
  g24 : mg "need_lock" = some (.ref f24)
  f26 : Addr
  d26 : FuncData
  F26 : Fun K "is_within" "is_within" sWithin f26 d26
  b26 : Binds K d26 ["lock", "second"] []
  g26 : mg "is_within" = some (.ref f26)
  f27 : Addr
  d27 : FuncData
  F27 : Fun K "is_bolt_within" "is_bolt_within" sBoltW f27 d27
  b27 : Binds K d27 ["bolt", "other"] []
  g27 : mg "is_bolt_within" = some (.ref f27)
  B : Bi mg
  N : Nu mg

def spFault (K : PySem.W.Frag) : Sp := fun vs H Q _ => ∃ (v : V) (l : Lock), vs = [v] ∧ LockAt K H v l ∧ LockOk l ∧ ∀ H', Evl.Ex H H' → Q .non H'
def spManys (K : PySem.W.Frag) : Sp := fun vs H Q _ => ∃ (v : V) (l : Lock), vs = [v] ∧ LockAt K H v l ∧ l.length ≤ 60 ∧ ∀ H' p, Evl.Ex H H' → H p = none → H' p = some (.lst ((manysOf l).map V.int)) → Q (.ref p) H'
theorem paired_app1 {α β : Type} {R : α → β → Prop} {xs : List α} {ys : List β} {x : α} {y : β} (h : Paired R xs ys) (r : R x y) : Paired R (xs ++ [x]) (ys ++ [y]) := Paired.app h (.cons r .nil)
section
variable {P : Program} {w : World} {K : PySem.W.Frag} {mg : Str → Option Value} {base : Heap}
theorem manysOf_take (l : Lock) (i : Nat) : manysOf (l.take i) = (manysOf l).take i := by
  unfold manysOf
  rw [List.map_take]
theorem ok_fault (D : Pr K mg) : FnOk P w K mg base CX0 6 D.f19 D.d19 ["thing"] (spFault K) := by
  have G3 : FnOk P w K mg base CX0 1 D.f3 D.d3 ["thing", "low", "high"] (spTupOf K) := ok_tupOf D.F3 D.B
  have G20 : FnOk P w K mg base CX0 5 D.f20 D.d20 ["thing", "below"] (spBolt K) := ok_bolt D.F20 D.F3 D.b3 D.g3 D.F4 D.b4 D.g4 D.F2 D.b2 D.g2 D.F22 D.b22 D.g22 D.F1 D.b1 D.g1 D.F21 D.b21 D.g21 D.B D.N
  have G10 : FnOk P w K mg base CX0 1 D.f10 D.d10 ["lock"] (spWords K) := ok_words D.F10 D.B
  obtain ⟨tb, eb⟩ := D.N.bolts
  obtain ⟨tw, ew⟩ := D.N.words
  refine D.F19.ok scFault (fun vs H Q E h => ?_) (fun cdv A outer s H vs Q E hr h => ?_)
  · obtain ⟨v, l, rfl, _⟩ := h; rfl
  · obtain ⟨v, l, rfl, ⟨a, bs, rfl, hx, hp⟩, ok, q⟩ := h
    have hr1 : Room 1 _ := hr.mono (by decide)
    refine ⟨_, pss_cons (ps_if (pt_not (pt_val (pe_call G3 hr1 (by rfl) D.g3 D.F3.kp D.b3 .nil pass0 (pa_cons (pv 0) (pa_cons pe_int (pa_cons (pe_glob (v := .int 60) (by rfl) eb ⟨_, rfl⟩) pa_nil)))))) pss_never pss_nil)
      (pss_cons (ps_set (i := 1) scFault.nd rfl (.inl rfl) (pe_lst pa_nil))
      (pss_cons (ps_for PassesOwn.never rfl (pi_enumT (by rfl) D.B.enum (pa_cons (pv 0) pa_nil)) (pg_tup rfl (pgs_cons (pg_name (i := 2) scFault.nd rfl (.inl rfl)) (pgs_cons (pg_name (i := 3) scFault.nd rfl (.inl rfl)) pgs_nil)))
        (pss_cons (ps_if (pt_not (pt_val (pe_call G20 hr (by rfl) D.g20 D.F20.kp D.b20 .nil pass0 (pa_cons (pv 3) (pa_cons (pv 1) pa_nil))))) pss_never pss_nil)
        (pss_one (ps_expr (pe_bm PySem.F.plainAttrs_list PySem.F.slot_list_append PySem.F.type_list_append mt_append (pv 1) (pa_cons (pe_ix ix_tup (pv 3) pe_int (fun _ _ => rfl)) pa_nil))))))
      (pss_cons (ps_for PassesOwn.never rfl (pi_enum (by rfl) D.B.enum (pa_cons (pe_call G10 hr1 (by rfl) D.g10 D.F10.kp D.b10 .nil pass0 (pa_cons (pv 0) pa_nil)) pa_nil)) (pg_tup rfl (pgs_cons (pg_name (i := 2) scFault.nd rfl (.inl rfl)) (pgs_cons (pg_name (i := 4) scFault.nd rfl (.inl rfl)) pgs_nil)))
        (pss_one (ps_if (pt_cmpR op_gt (pe_callB call_len_seq (by rfl) D.B.len PySem.boot_len (pa_cons (pv 4) pa_nil)) (pe_glob (v := .int 8) (by rfl) ew ⟨_, rfl⟩) (nomark _)) pss_never pss_nil)))
      (pss_one (ps_ret pe_non))))), ?_⟩
    have bl : bs.length = l.length := Paired.len hp
    have n0 := ok.n0
    have n60 := ok.n1
    refine ⟨.ref a, rfl, a, bs, 1, 60, rfl, hx, true, ?_, ?_⟩
    · have z1 : decide ((1 : Int) ≤ (bs.length : Int)) = true := decide_eq_true (by omega)
      have z2 : decide ((bs.length : Int) ≤ 60) = true := decide_eq_true (by omega)
      rw [z1, z2]
      rfl
    refine iteF ?_
    refine ⟨Nat.zero_le _, fun r0 nr0 => ?_⟩
    have x1 : Evl.Ex H (upd H r0 (.lst [])) := Evl.Ex.new nr0
    refine ⟨.ref a, rfl, a, bs, rfl, Evl.ex_t x1 hx, ?_⟩
    refine for_it (walk_et (xs := bs)) (fun i σ H' => ∃ (y2 y3 y4 : Option V), σ = [some (.ref a), some (.ref r0), y2, y3, y4] ∧ Evl.Ex H H' ∧ H' r0 = some (.lst (((manysOf l).take i).map V.int))) ⟨none, none, none, rfl, x1, upd_same⟩ ?_ ?_ ?_
    · rintro i σ H' _ ⟨_, _, _, _, e, _⟩
      exact Evl.ex_t e hx
    · rintro i v σ H1 H2 hi ⟨y2, y3, y4, rfl, e1, hR⟩ ⟨T, x, y, rfl, nT, rfl, ex, ey⟩
      cases ex
      have ey' : bs[i]? = some y := ey
      obtain ⟨b, hb, hba⟩ := Paired.get1 hp ey'
      have e2 := Evl.Ex.new (o := .tup [.int (i : Nat), y]) nT
      generalize hH2 : upd H1 T (.tup [.int (i : Nat), y]) = H2 at e2
      have hT2 : H2 T = some (.tup [.int (i : Nat), y]) := by rw [← hH2]; exact upd_same
      have e12 := e1.trans e2
      have hR2 := e2 _ _ hR
      have bok := ok.bolts i b hb
      refine ⟨T, _, rfl, .inl (.inl hT2), rfl, _, _, rfl, _, _, rfl, rfl, ?_⟩
      refine ⟨y, rfl, .ref r0, rfl, y, r0, b, manysOf (l.take i), rfl, hba.mono (TX.ex e12), ?_, bok, fun H3 e3 => ?_⟩
      · rw [manysOf_take]
        exact .inl (.inl hR2)
      refine ⟨true, rfl, iteF ?_⟩
      obtain ⟨ab, cg, gs, rfl, hb1, hb2, hb3⟩ := hba
      have hR3 := e3 _ _ hR2
      refine ⟨.ref r0, rfl, .inl ⟨rfl, _, SqL.of hR3⟩, .ref ab, rfl, ab, _, 0, .int b.many, rfl, rfl, Evl.ex_t (e12.trans e3) hb1, atI_nat (j := 0) rfl, r0, _, _, rfl, rfl, hR3, ?_, ?_⟩
      · rw [List.length_map, List.length_take]
        have : i < 61 := by rw [bl] at hi; omega
        exact Nat.lt_of_le_of_lt (Nat.min_le_left _ _) (Nat.lt_of_lt_of_le this (by decide))
      · have mm : (manysOf l)[i]? = some b.many := by
          unfold manysOf
          rw [List.getElem?_map, hb]
          rfl
        refine ⟨_, _, _, rfl, (e12.trans e3).mut nr0, ?_⟩
        rw [upd_same, take_succ_get mm, List.map_append]
        rfl
    · rintro σ H1 ⟨y2, y3, y4, rfl, e1, hR⟩
      refine ⟨.ref a, rfl, .ref a, l, rfl, ⟨a, bs, rfl, Evl.ex_t e1 hx, Paired.imp (fun _ _ => BoltAt.mono (TX.ex e1)) hp⟩, ok, fun H2 pw rs e2 npw hpw rl hrs => ?_⟩
      refine ⟨pw, rs.map V.ref, rfl, .inl (.inl hpw), ?_⟩
      refine for_it (walk_enum (xs := rs.map V.ref)) (fun i σ H' => ∃ (y2 y3 y4 : Option V), σ = [some (.ref a), some (.ref r0), y2, y3, y4] ∧ Evl.Ex H2 H') ⟨_, _, _, rfl, Evl.Ex.refl _⟩ ?_ ?_ ?_
      · rintro i σ H' _ ⟨_, _, _, _, e⟩
        exact .inl (.inl (e _ _ hpw))
      · rintro i v σ H3 H4 hi ⟨z2, z3, z4, rfl, e3⟩ ⟨T, x, y, rfl, nT, rfl, ex, ey⟩
        cases ex
        rw [List.length_map, rl] at hi
        obtain ⟨r, hr1', rfl⟩ : ∃ r, rs[i]? = some r ∧ y = .ref r := by
          have ey' : (rs.map V.ref)[i]? = some y := ey
          rw [List.getElem?_map] at ey'
          cases e : rs[i]? with
          | none => rw [e] at ey'; cases ey'
          | some r => rw [e] at ey'; exact ⟨r, rfl, (Option.some.inj ey').symm⟩
        obtain ⟨_, ws, ⟨us, hus, hup⟩, hW⟩ := hrs i r hr1'
        have w8 : ws.length ≤ 8 := ok.words i ws hi hW.1 (fun u hu' => (hW.2 u).mp hu')
        have ul : us.length = ws.length := Paired.len hup
        have e4 := Evl.Ex.new (o := .tup [.int (i : Nat), .ref r]) nT
        refine ⟨T, _, rfl, .inl (.inl upd_same), rfl, _, _, rfl, _, _, rfl, rfl, ?_⟩
        refine ⟨.ref r, rfl, r, us, rfl, .inl (.inl (.inl ((e3.trans e4) _ _ hus))), _, 8, rfl, rfl, false, ?_, ?_⟩
        · have z : decide ((8 : Int) < (us.length : Int)) = false := decide_eq_false (by omega)
          show V.bl (decide ((8 : Int) < (us.length : Int))) = V.bl false
          rw [z]
        · exact iteF ⟨_, _, _, rfl, e3.trans e4⟩
      · rintro σ H3 ⟨z2, z3, z4, rfl, e3⟩
        exact q H3 ((e1.trans e2).trans e3)
theorem ok_needL (D : Pr K mg) : FnOk P w K mg base CX0 7 D.f24 D.d24 ["lock"] (spFault K) := by
  have G19 : FnOk P w K mg base CX0 6 D.f19 D.d19 ["thing"] (spFault K) := ok_fault D
  refine D.F24.ok scNeedL (fun vs H Q E h => ?_) (fun cdv A outer s H vs Q E hr h => ?_)
  · obtain ⟨v, l, rfl, _⟩ := h; rfl
  · obtain ⟨v, l, rfl, hv, ok, q⟩ := h
    refine ⟨_, pss_cons (ps_set (i := 1) scNeedL.nd rfl (.inl rfl) (pe_call G19 hr (by rfl) D.g19 D.F19.kp D.b19 .nil pass0 (pa_cons (pv 0) pa_nil)))
      (pss_one (ps_if (pt_cmpR op_notN (pv 1) pe_non (nomark _)) pss_never pss_nil)), ?_⟩
    refine ⟨v, rfl, v, l, rfl, hv, ok, fun H' e => ?_⟩
    refine ⟨.non, rfl, rfl, false, rfl, iteF ?_⟩
    exact q H' e
theorem ok_manys (D : Pr K mg) : FnOk P w K mg base CX0 1 D.f23 D.d23 ["lock"] (spManys K) := by
  refine D.F23.ok scManys (fun vs H Q E h => ?_) (fun cdv A outer s H vs Q E hr h => ?_)
  · obtain ⟨v, l, rfl, _⟩ := h; rfl
  · obtain ⟨v, l, rfl, ⟨a, bs, rfl, hx, hp⟩, n60, q⟩ := h
    refine ⟨_, pss_one (ps_ret (pe_lc (own := [("bolt", 1)]) (g := gName 1) rfl scManys.nd (pi_tup (pv 0)) (blkOk_by (own := [("bolt", 1)]) (N := ["lock", "bolt"]) (sc := defScope sManys) (by decide +kernel))
      (fun _ _ _ _ _ => pg_name (i := 1) scManys.nd rfl (Or.inl rfl)) (fun _ _ _ _ _ => pts_nil) (fun _ _ _ _ _ => pe_ix (r := rIxT K) ix_tup (pv 1) pe_int (fun _ _ => rfl)))), ?_⟩
    have bl : bs.length = l.length := Paired.len hp
    refine ⟨.ref a, rfl, a, rfl, ⟨_, hx⟩, fun D hD => lc_tup (K := K) (a := a) (xs := bs) (fun i H' => Evl.Ex H H' ∧ H' D = some (.lst (((manysOf l).take i).map V.int))) ⟨Evl.Ex.new hD, upd_same⟩ ?_ ?_ ?_⟩
    · rintro i H' _ ⟨e, _⟩
      exact Evl.ex_t e hx
    · rintro i x H' hi ⟨e, hd⟩
      obtain ⟨b, hb, ⟨ab, cg, gs, rfl, hb1, _⟩⟩ := Paired.get1 hp hi
      have li : i < 61 := by
        have := (List.getElem?_eq_some_iff.mp hi).1
        omega
      have mm : (manysOf l)[i]? = some b.many := by
        unfold manysOf
        rw [List.getElem?_map, hb]
        rfl
      refine ⟨rfl, .ref ab, rfl, ab, _, 0, .int b.many, rfl, rfl, Evl.ex_t e hb1, atI_nat (j := 0) rfl, _, hd, ?_, e.mut hD, ?_⟩
      · rw [List.length_map, List.length_take]
        exact Nat.lt_of_le_of_lt (Nat.min_le_left _ _) (Nat.lt_of_lt_of_le li (by decide))
      · rw [upd_same, take_succ_get mm, List.map_append]
        rfl
    · rintro H1 ⟨e, hd⟩
      refine q H1 D e hD ?_
      rw [hd, List.take_of_length_le]
      unfold manysOf
      rw [List.length_map, bl]
      exact Nat.le_refl _
end
end Wb

set_option Elab.async false
set_option linter.all false
set_option maxRecDepth 100000
set_option maxHeartbeats 4000000
set_option pp.maxSteps 600
set_option pp.deepTerms false
namespace Wb
open PySem PySem.Spec PyProof.Rows L2
abbrev sPen : Stmt := topS 28
abbrev sDraw : Stmt := topS 29
abbrev sPick : Stmt := topS 30
abbrev nDraw : List Str := ["_law_pen_here", "_law_many_here", "_law_found", "_law_at", "_law_cell", "_law_number"]
theorem scPen : FnScope ["_law_script"] ["_law_script"] (defScope sPen) := ⟨rfl, rfl, rfl, by decide +kernel, rfl, by decide +kernel, by decide +kernel⟩
theorem scDraw : FnScope nDraw ["_law_pen_here", "_law_many_here"] (defScope sDraw) := ⟨rfl, rfl, rfl, by decide +kernel, rfl, by decide +kernel, by decide +kernel⟩
theorem scPick : FnScope ["_law_pen_here", "_law_bag"] ["_law_pen_here", "_law_bag"] (defScope sPick) := ⟨rfl, rfl, rfl, by decide +kernel, rfl, by decide +kernel, by decide +kernel⟩

/-! ### the pen -/
def PenAt (H : Hp) (p c : Addr) (T : Int) : Prop :=
  ∃ (cells : List Int) (t d : Int), H p = some (.lst [.ref c, .int t, .int d]) ∧ H c = some (.lst (cells.map V.int)) ∧ c ≠ p ∧ cells.length ≤ 63 ∧ 0 ≤ t ∧ t ≤ T ∧ 0 ≤ d
section
variable {H H' : Hp} {p c q : Addr} {T T' : Int}
theorem PenAt.ex (e : Evl.Ex H H') (h : PenAt H p c T) : PenAt H' p c T := by
  obtain ⟨cells, t, d, h1, h2, r⟩ := h
  exact ⟨cells, t, d, e _ _ h1, e _ _ h2, r⟩
theorem PenAt.put {o : HO} (h : PenAt H p c T) (h1 : q ≠ p) (h2 : q ≠ c) : PenAt (upd H q o) p c T := by
  obtain ⟨cells, t, d, a, b, r⟩ := h
  exact ⟨cells, t, d, by rw [upd_ne h1.symm]; exact a, by rw [upd_ne h2.symm]; exact b, r⟩
theorem PenAt.mono (h : PenAt H p c T) (l : T ≤ T') : PenAt H p c T' := by
  obtain ⟨cells, t, d, a, b, n, b2, t0, t1, d0⟩ := h
  exact ⟨cells, t, d, a, b, n, b2, t0, Int.le_trans t1 l, d0⟩
theorem PenAt.no (h : PenAt H p c T) : ∀ xs, ¬ Rd H p (.tup xs) := by
  obtain ⟨cells, t, d, a, _⟩ := h
  rintro xs (z | ⟨o, z⟩)
  · rw [a] at z; cases z
  · rw [a] at z; cases z
theorem PenAt.here (h : PenAt H p c T) : H p ≠ none := by
  obtain ⟨cells, t, d, a, _⟩ := h
  rw [a]
  exact fun z => nomatch z
theorem PenAt.new1 (h : PenAt H p c T) (n : H q = none) : q ≠ p := fun z => h.here (z ▸ n)
theorem PenAt.new2 (h : PenAt H p c T) (n : H q = none) : q ≠ c := fun z => by
  obtain ⟨cells, t, d, _, b, _⟩ := h
  rw [← z, n] at b
  cases b
theorem PenAt.tx {K : PySem.W.Frag} (h : PenAt H p c T) (e : Exx p H H') : TX K H H' := e.tx h.no
/-- a list of ours has changed -/
theorem TX.put {K : PySem.W.Frag} {l : Addr} {xs : List V} {o : HO} (h : H l = some (.lst xs)) : TX K H (upd H l o) := by
  refine ⟨fun a ys z => ?_, fun a ys z => ?_⟩
  · rcases z with (z | ⟨o', z⟩) | z
    · exact .inl (.inl (by rw [upd_ne (ne_of z h (fun q => nomatch q))]; exact z))
    · exact .inl (.inr ⟨o', by rw [upd_ne (ne_of z h (fun q => nomatch q))]; exact z⟩)
    · exact .inr z
  · rw [upd_ne (ne_of z h (fun q => nomatch q))]
    exact z
theorem Exx.mut {l : Addr} {o : HO} (e : Exx p H H') (n : H l = none) : Exx p H (upd H' l o) := fun a u na ha => by
  rw [upd_ne (ne_of_none ha n)]
  exact e a u na ha
end
theorem fresh_exx {p q : Addr} {H H' : Hp} (e : Exx p H H') (hp : H' p ≠ none) (h : H' q = none) : H q = none := by
  cases z : H q with
  | none => rfl
  | some o =>
    by_cases n : q = p
    · subst n; exact absurd h hp
    · rw [e q o n z] at h; cases h

def spPen (K : PySem.W.Frag) : Sp := fun vs H Q _ => ∃ (a : Addr) (ns : List Int), vs = [.ref a] ∧ SqL K H a (ns.map V.int) ∧ ∀ H' p, Evl.Ex H H' → H p = none → (∃ c, PenAt H' p c 0) → Q (.ref p) H'
def spDraw : Sp := fun vs H Q _ => ∃ (p c : Addr) (n T : Int), vs = [.ref p, .int n] ∧ PenAt H p c T ∧ 1 ≤ n ∧ n ≤ 1000000 ∧ T ≤ 10000000 ∧ ∀ i H', 0 ≤ i → i < n → Exx p H H' → PenAt H' p c (T + 1) → Q (.int i) H'
def spPick (K : PySem.W.Frag) : Sp := fun vs H Q _ => ∃ (p c a : Addr) (T : Int) (xs : List V), vs = [.ref p, .ref a] ∧ PenAt H p c T ∧ T ≤ 10000000 ∧ SqL K H a xs ∧ a ≠ p ∧ xs ≠ [] ∧ xs.length ≤ 1000000 ∧
  ∀ x H', x ∈ xs → Exx p H H' → PenAt H' p c (T + 1) → Q x H'
theorem ints_shaped (ns : List Int) : SeqAt.shaped (.list (ns.map PyData.int)) = true := by
  have h1 : ∀ ns : List Int, PyData.canLayAll0 (ns.map PyData.int) = true := by
    intro ns
    induction ns with
    | nil => rfl
    | cons n ns ih => simp [PyData.canLayAll0, PyData.canLay0, ih]
  have h2 : ∀ ns : List Int, PyData.depthAll (ns.map PyData.int) ≤ 1 := by
    intro ns
    induction ns with
    | nil => simp [PyData.depthAll]
    | cons n ns ih => simp [PyData.depthAll, PyData.depth]; omega
  unfold SeqAt.shaped
  simp only [PyData.canLay0, PyData.depth, h1, Bool.true_and]
  have := h2 ns
  exact decide_eq_true (by omega)
theorem dp_ints {K : PySem.W.Frag} {H : Hp} : ∀ ns : List Int, DpAll K H (ns.map V.int) (ns.map PyData.int)
  | [] => .nil
  | n :: ns => .cons (.int n) (dp_ints ns)
section
variable {P : Program} {w : World} {K : PySem.W.Frag} {mg : Str → Option Value} {base : Heap}
theorem cut63 (ns : List Int) : cutV (ns.map V.int) none (some 63) = (ns.take 63).map V.int := by
  rw [List.map_take]
  exact cut_take _ 63
theorem ok_pen {f : Addr} {fd : FuncData} (F : Fun K "_law_pen" "_law_pen" sPen f fd) (B : Bi mg) : FnOk P w K mg base CX0 1 f fd ["_law_script"] (spPen K) := by
  refine F.ok scPen (fun vs H Q E h => ?_) (fun cdv A outer s H vs Q E hr h => ?_)
  · obtain ⟨a, ns, rfl, _⟩ := h; rfl
  · obtain ⟨a, ns, rfl, hS, q⟩ := h
    refine ⟨_, pss_one (ps_ret (pe_lst (pa_cons (pe_callTy call_list_of (by rfl) B.list PyProof.Rows.boot_list (pa_cons (pe_slice sl_list (pv 0) po_none (po_some pe_int)) pa_nil)) (pa_cons pe_int (pa_cons pe_int pa_nil))))), ?_⟩
    refine ⟨.ref a, rfl, 63, rfl, a, _, rfl, hS, fun c1 n1 => ?_⟩
    rw [cut63]
    have x2 := Evl.Ex.new (o := .lst ((ns.take 63).map V.int)) n1
    refine ⟨c1, _, rfl, .inl (.inl (.inl upd_same)), fun c n2 => ?_⟩
    have x3 := Evl.Ex.new (o := .lst ((ns.take 63).map V.int)) n2
    refine ⟨(by show 3 ≤ sizeLine; decide), fun p n3 => ?_⟩
    have x4 := Evl.Ex.new (o := .lst [.ref c, .int 0, .int 0]) n3
    have hc := x4 _ _ (upd_same (H := upd H c1 (.lst ((ns.take 63).map V.int))) (a := c) (o := .lst ((ns.take 63).map V.int)))
    refine q _ p (x2.trans (x3.trans x4)) (Evl.fresh_back (x2.trans x3) n3) ⟨c, ns.take 63, 0, 0, upd_same, hc, fun z => ?_, by rw [List.length_take]; omega, Int.le_refl _, Int.le_refl _, Int.le_refl _⟩
    rw [z] at n2
    rw [← z, upd_same] at n3
    cases n3
end
end Wb

set_option Elab.async false
set_option linter.all false
set_option maxRecDepth 100000
set_option maxHeartbeats 4000000
set_option pp.maxSteps 600
set_option pp.deepTerms false
namespace Wb
open PySem PySem.Spec PyProof.Rows L2
section
variable {P : Program} {w : World} {K : PySem.W.Frag} {mg : Str → Option Value} {base : Heap}
theorem bndM (x m : Int) (h0 : 0 < m) (h1 : m ≤ 2147483647) : 0 ≤ x % m ∧ x % m < 2147483647 := by
  have a1 := Int.emod_nonneg x (show m ≠ 0 by omega)
  have a2 := Int.emod_lt_of_pos x h0
  omega
theorem ok_draw {f : Addr} {fd : FuncData} (F : Fun K "_law_draw" "_law_draw" sDraw f fd) (B : Bi mg) : FnOk P w K mg base CX0 1 f fd ["_law_pen_here", "_law_many_here"] spDraw := by
  refine F.ok scDraw (fun vs H Q E h => ?_) (fun cdv A outer s H vs Q E hr h => ?_)
  · obtain ⟨p, c, n, T, rfl, _⟩ := h; rfl
  · obtain ⟨p, c, n, T, rfl, ⟨cells, t, d, hp, hc, ncp, c63, t0, t1, d0⟩, n1, n2, T7, q⟩ := h
    have hu := hu_of hr
    refine ⟨_, pss_cons (ps_if (pt_cmpR op_gt (pe_ix ix_list (pv 0) pe_int (fun _ _ => rfl)) pe_int (nomark _))
        (pss_cons (ps_set (i := 2) scDraw.nd rfl (.inl rfl) (pe_op op_mod (pe_ix ix_list (pv 0) pe_int (fun _ _ => rfl)) (pv 1)))
        (pss_cons (ps_asg (pe_op op_fdiv (pe_ix ix_list (pv 0) pe_int (fun _ _ => rfl)) (pv 1)) (pg_sub (pv 0) pe_int set_list))
        (pss_one (ps_ret (pv 2))))) pss_nil)
      (pss_cons (ps_set (i := 3) scDraw.nd rfl (.inl rfl) (pe_ix ix_list (pv 0) pe_int (fun _ _ => rfl)))
      (pss_cons (ps_asg (pe_op op_add (pv 3) pe_int) (pg_sub (pv 0) pe_int set_list))
      (pss_cons (ps_set (i := 4) scDraw.nd rfl (.inl rfl) pe_int)
      (Evl.pss_cut (ps_if (pt_cmpR (op_neD hr.units) (pe_ix ix_list (pv 0) pe_int (fun _ _ => rfl)) (pe_lst pa_nil) (nomark _))
        (pss_one (ps_set (i := 4) scDraw.nd rfl (.inl rfl) (pe_ix ix_list (pe_ix ix_list (pv 0) pe_int (fun _ _ => rfl)) (pe_op op_mod (pv 3) (pe_callB call_len_seq (by rfl) B.len PySem.boot_len (pa_cons (pe_ix ix_list (pv 0) pe_int (fun _ _ => rfl)) pa_nil))) (fun _ _ => rfl)))) pss_nil)
      (Evl.pss_cut (ps_if (PW.pt (pw_and (pt_cmpR op_lt (pv 3) (pe_callB call_len_seq (by rfl) B.len PySem.boot_len (pa_cons (pe_ix ix_list (pv 0) pe_int (fun _ _ => rfl)) pa_nil)) (nomark _)) (pw_and1 (pt_cmpR op_ge (pe_callB call_abs (by rfl) B.abs boot_abs (pa_cons (pv 4) pa_nil)) (pe_op op_pow pe_int pe_int) (nomark _)))))
        (pss_cons (ps_asg (pe_op op_fdiv (pe_callB call_abs (by rfl) B.abs boot_abs (pa_cons (pv 4) pa_nil)) (pv 1)) (pg_sub (pv 0) pe_int set_list))
        (pss_one (ps_ret (pe_op op_mod (pe_callB call_abs (by rfl) B.abs boot_abs (pa_cons (pv 4) pa_nil)) (pv 1))))) pss_nil)
      (pss_cons (ps_set (i := 5) scDraw.nd rfl (.inl rfl) (pe_op op_mod (pe_op op_mul (pe_op op_add (pe_op op_mod (pv 4) pe_int) pe_int) (pe_op op_add (pe_op op_add (pe_op op_mul (pv 3) (pv 3)) (pe_op op_mul pe_int (pv 3))) pe_int)) pe_int))
      (pss_cons (ps_set (i := 5) scDraw.nd rfl (.inl rfl) (pe_op op_mod (pe_op op_mul (pe_op op_mod (pe_op op_add (pe_op op_pow (pv 5) pe_int) (pe_op op_mul pe_int (pv 3))) pe_int) pe_int) pe_int))
      (pss_one (ps_ret (pe_op op_mod (pe_op op_fdiv (pv 5) pe_int) (pv 1))))))))))), ?_⟩
    have n0 : 0 < n := by omega
    have nb : 0 < n ∧ n < 1073741824 := ⟨n0, by omega⟩
    have at0 : ∀ {a b c : V}, atI [a, b, c] 0 = some a := fun {_ _ _} => atI_nat (j := 0) rfl
    have at1 : ∀ {a b c : V}, atI [a, b, c] 1 = some b := fun {_ _ _} => atI_nat (j := 1) rfl
    have at2 : ∀ {a b c : V}, atI [a, b, c] 2 = some c := fun {_ _ _} => atI_nat (j := 2) rfl
    have sl : ∀ {H' : Hp} {xs : List V}, H' p = some (.lst xs) → SqL K H' p xs := fun {_ _} e => SqL.of e
    -- the digits of a great cell
    refine ⟨.ref p, rfl, p, _, 2, .int d, rfl, rfl, sl hp, at2, d, 0, rfl, rfl, _, rfl, ?_⟩
    refine ite2 (fun _ => ?_) (fun _ => ?_)
    · refine ⟨.ref p, rfl, p, _, 2, .int d, rfl, rfl, sl hp, at2, .int n, rfl, d, n, rfl, rfl, n0, ?_⟩
      refine ⟨.ref p, rfl, p, _, 2, .int d, rfl, rfl, sl hp, at2, .int n, rfl, d, n, rfl, rfl, nb, .ref p, rfl, p, _, 2, 2, rfl, rfl, hp, rfl, .int (d % n), rfl, ?_⟩
      exact q _ _ (Int.emod_nonneg _ (by omega)) (Int.emod_lt_of_pos _ n0) Exx.put ⟨cells, t, d / n, upd_same, by rw [upd_ne ncp]; exact hc, ncp, c63, t0, by omega, Int.ediv_nonneg d0 (by omega)⟩
    · refine ⟨.ref p, rfl, p, _, 1, .int t, rfl, rfl, sl hp, at1, ?_⟩
      refine ⟨.int t, rfl, t, 1, rfl, rfl, .ref p, rfl, p, _, 1, 1, rfl, rfl, hp, rfl, ?_⟩
      have hp1 : (upd H p (.lst ([V.ref c, .int t, .int d].set 1 (.int (t + 1))))) p = some (.lst [.ref c, .int (t + 1), .int d]) := upd_same
      have hc1 : (upd H p (.lst ([V.ref c, .int t, .int d].set 1 (.int (t + 1))))) c = some (.lst (cells.map V.int)) := by rw [upd_ne ncp]; exact hc
      have x1 : Exx p H (upd H p (.lst ([V.ref c, .int t, .int d].set 1 (.int (t + 1))))) := Exx.put
      generalize upd H p (.lst ([V.ref c, .int t, .int d].set 1 (.int (t + 1)))) = H1 at hp1 hc1 x1
      refine ⟨fun σ H' => ∃ cell : Int, σ = [some (.ref p), some (.int n), none, some (.int t), some (.int cell), none] ∧ Evl.Ex H1 H', ?_, ?_⟩
      · refine ⟨.ref p, rfl, p, _, 0, .ref c, rfl, rfl, sl hp1, at0, Nat.zero_le _, fun e ne => ?_⟩
        have e1 := Evl.Ex.new (o := .lst []) ne
        have hp2 := e1 _ _ hp1
        have hc2 := e1 _ _ hc1
        refine ⟨.list (cells.map PyData.int), .list [], .lst (.inl (.inl hc2)) (dp_ints cells), .lst (.inl (.inl upd_same)) .nil, ints_shaped cells, (by decide), _, rfl, ?_⟩
        cases hcells : cells with
        | nil =>
          refine iteF ?_
          exact ⟨11, rfl, e1⟩
        | cons c0 cs =>
          refine iteT ?_
          have lp : 0 < cells.length := by rw [hcells]; exact Nat.succ_pos _
          have hlt : (t % (cells.length : Int)).toNat < cells.length := by
            have h1 := Int.emod_nonneg t (show (cells.length : Int) ≠ 0 by omega)
            have h2 := Int.emod_lt_of_pos t (show (0 : Int) < cells.length by omega)
            omega
          have hix : ((t % (cells.length : Int)).toNat : Int) = t % ((cells.map V.int).length : Nat) := by
            have h1 := Int.emod_nonneg t (show (cells.length : Int) ≠ 0 by omega)
            rw [List.length_map]
            omega
          refine ⟨.ref p, rfl, p, _, 0, .ref c, rfl, rfl, sl hp2, at0, .int t, rfl, .ref p, rfl, p, _, 0, .ref c, rfl, rfl, sl hp2, at0, c, _, rfl, .inl (.inl (.inl hc2)), t, _, rfl, rfl, (by rw [List.length_map]; omega), c, _, _, .int (cells[(t % (cells.length : Int)).toNat]), rfl, rfl, .inl (.inl hc2), ?_, ?_⟩
          · rw [← hix]
            exact atI_nat (map_int_get (List.getElem?_eq_getElem hlt))
          · exact ⟨_, rfl, e1⟩
      · rintro σ H2 ⟨cell, rfl, e2⟩
        have hp2 := e2 _ _ hp1
        have hc2 := e2 _ _ hc1
        have x2 := x1.trans (Exx.ex e2)
        have fin : ∀ i : Int, 0 ≤ i → i < n → Q (.int i) H2 := fun i h1 h2 => q i H2 h1 h2 x2 ⟨cells, t + 1, d, hp2, hc2, ncp, c63, by omega, by omega, d0⟩
        have p18 : (0 : Int) ≤ 18 ∧ (18 : Int) ≤ 1000000 ∧ (10 : Int).natAbs < 2 ^ 64 := by decide
        refine ⟨fun σ H' => σ = [some (.ref p), some (.int n), none, some (.int t), some (.int cell), none] ∧ H' = H2, ?_, ?_⟩
        · refine ⟨.int t, rfl, .ref p, rfl, p, _, 0, .ref c, rfl, rfl, sl hp2, at0, c, _, rfl, .inl (.inl (.inl hc2)), t, _, rfl, rfl, _, rfl, ?_⟩
          refine ite2 (fun _ => ?_) (fun _ => ⟨rfl, rfl⟩)
          refine ⟨.int cell, rfl, cell, rfl, 10, 18, rfl, rfl, p18, (if cell < 0 then -cell else cell), _, rfl, rfl, _, rfl, ?_⟩
          refine ite2 (fun _ => ?_) (fun _ => ⟨rfl, rfl⟩)
          refine ⟨.int cell, rfl, cell, rfl, .int n, rfl, (if cell < 0 then -cell else cell), n, rfl, rfl, nb, .ref p, rfl, p, _, 2, 2, rfl, rfl, hp2, rfl, ?_⟩
          refine ⟨.int cell, rfl, cell, rfl, .int n, rfl, (if cell < 0 then -cell else cell), n, rfl, rfl, n0, ?_⟩
          exact q _ _ (Int.emod_nonneg _ (by omega)) (Int.emod_lt_of_pos _ n0) (x2.trans Exx.put) ⟨cells, t + 1, _, upd_same, by rw [upd_ne ncp]; exact hc2, ncp, c63, by omega, by omega, Int.ediv_nonneg (by split <;> omega) (by omega)⟩
        · rintro σ H' ⟨rfl, rfl⟩
          have tb : -(2 ^ 64) < t ∧ t < 2 ^ 64 := ⟨by omega, by omega⟩
          have m1 : (0 : Int) < 2147483629 := by decide
          have m2 : (0 : Int) < 2147483647 := by decide
          have m3 : (0 : Int) < 2147483587 := by decide
          have m4 : (0 : Int) < 2147483399 := by decide
          have c1 := bndM cell 2147483629 (by decide) (by decide)
          have cb : -(2 ^ 64) < cell % 2147483629 + 13 ∧ cell % 2147483629 + 13 < 2 ^ 64 := ⟨by omega, by omega⟩
          refine ⟨.int cell, rfl, cell, 2147483629, rfl, rfl, m1, _, 13, rfl, rfl, .int t, rfl, .int t, rfl, t, t, rfl, rfl, .inl tb, .int t, rfl, 7, t, rfl, rfl, .inl (by decide), _, _, rfl, rfl, _, 5, rfl, rfl, _, _, rfl, rfl, .inl cb, _, 2147483647, rfl, rfl, m2, ?_⟩
          generalize (cell % 2147483629 + 13) * (t * t + 7 * t + 5) = x1
          have b1 := bndM x1 2147483647 (by decide) (by decide)
          have p3 : (0 : Int) ≤ 3 ∧ (3 : Int) ≤ 1000000 ∧ (x1 % 2147483647).natAbs < 2 ^ 64 := ⟨by decide, by decide, by omega⟩
          refine ⟨_, rfl, _, 3, rfl, rfl, p3, .int t, rfl, 40692, t, rfl, rfl, .inl (by decide), _, _, rfl, rfl, _, 2147483587, rfl, rfl, m3, _, 69621, rfl, rfl, .inr (by decide), _, 2147483399, rfl, rfl, m4, ?_⟩
          refine ⟨_, rfl, _, 64, rfl, rfl, (show (0 : Int) < 64 ∧ (64 : Int) < 1073741824 by decide), .int n, rfl, _, n, rfl, rfl, n0, ?_⟩
          exact fin _ (Int.emod_nonneg _ (by omega)) (Int.emod_lt_of_pos _ n0)
theorem ok_pick {f f1 : Addr} {fd fd1 : FuncData} (F : Fun K "_law_pick" "_law_pick" sPick f fd) (F1 : Fun K "_law_draw" "_law_draw" sDraw f1 fd1) (b1 : Binds K fd1 ["_law_pen_here", "_law_many_here"] []) (g1 : mg "_law_draw" = some (.ref f1)) (B : Bi mg) :
    FnOk P w K mg base CX0 2 f fd ["_law_pen_here", "_law_bag"] (spPick K) := by
  have G1 : FnOk P w K mg base CX0 1 f1 fd1 ["_law_pen_here", "_law_many_here"] spDraw := ok_draw F1 B
  refine F.ok scPick (fun vs H Q E h => ?_) (fun cdv A outer s H vs Q E hr h => ?_)
  · obtain ⟨p, c, a, T, xs, rfl, _⟩ := h; rfl
  · obtain ⟨p, c, a, T, xs, rfl, hp, T7, hx, nap, ne, xl, q⟩ := h
    refine ⟨_, pss_one (ps_ret (pe_ix ix_list (pv 1) (pe_call G1 hr (by rfl) g1 F1.kp b1 .nil pass0 (pa_cons (pv 0) (pa_cons (pe_callB call_len_seq (by rfl) B.len PySem.boot_len (pa_cons (pv 1) pa_nil)) pa_nil))) (fun _ _ => rfl))), ?_⟩
    have lp : 0 < xs.length := List.length_pos_iff.mpr ne
    refine ⟨.ref a, rfl, .ref p, rfl, .ref a, rfl, a, xs, rfl, .inl hx, p, c, _, T, rfl, hp, by omega, by omega, T7, fun i H' h0 h1 e hp' => ?_⟩
    have hlt : i.toNat < xs.length := by omega
    obtain ⟨y, hy⟩ : ∃ y, xs[i.toNat]? = some y := ⟨_, List.getElem?_eq_getElem hlt⟩
    refine ⟨a, xs, i, y, rfl, rfl, e.l nap hx, ?_, ?_⟩
    · have z : ((i.toNat : Nat) : Int) = i := by omega
      rw [← z]
      exact atI_nat hy
    · exact q _ H' (List.mem_of_getElem? hy) e hp'
end
end Wb

set_option Elab.async false
set_option linter.all false
set_option maxRecDepth 100000
set_option maxHeartbeats 4000000
namespace TS
open PySem PyProof.Rows
section
variable {prog : Program} {w : World} {A : Around} {E : Value → Shared → Prop} {s : Shared}
/-- sorted of a list of tuples that are held against one another by a rank -/
theorem sorted_rank {l : Addr} {vs : List Value} {r : Value → Int} {Q : Value → Shared → Prop} (hl : s.heap.IsList l vs.toArray) (h64 : vs.length < 64)
    (hK : ∀ (h' : Heap), (∀ b o, s.heap.get? b = some o → o.cls = .type "tuple" → h'.get? b = some o) → 2 ≤ vs.length → ∀ (A' : Around) (E' : Value → Shared → Prop) (Q' : SortKind → Shared → Prop), (∀ κ, Cmp prog w A' { s with heap := h' } κ (pairsOf vs) r → Q' κ { s with heap := h' }) →
      wpAny (model prog w) A' (keyKind' vs.toArray) Q' E' { s with heap := h' })
    (h : ∀ out : Array Value, out.toList.Perm vs → out.toList.Pairwise (fun u v => r u ≤ r v) → Q (.ref (s.heap.objs.size + 1)) { s with heap := sortedAll s.heap vs out }) :
    wpAny (model prog w) A (call (.builtin "sorted") [.ref l]) Q E s := by
  refine Calls.call_function_entry kind_sorted plain_sorted entry_sorted (args_sorted1 _) ?_
  unfold Builtin.«sorted»
  refine wpAny_bind (m := checkCount "sorted" 1 1 _) (wpAny_pure ?_)
  refine wpAny_bind (collect_list hl ?_ (by rw [sizeLine_eq]; omega))
  refine wpAny_bind (wpAny_newList ?_ (by rw [sizeLine_eq]; omega))
  have hsz : ((s.heap.push (seqObj "list" #[] 0)).update s.heap.objs.size (Obj.mapSeq (· ++ vs.toArray))).objs.size = s.heap.objs.size + 1 := by
    rw [Heap.size_update, size_push']
  have hoL : (((s.heap.push (seqObj "list" #[] 0)).update s.heap.objs.size (Obj.mapSeq (· ++ vs.toArray))).push (seqObj "list" vs.toArray 0)).get? (s.heap.objs.size + 1) = some (seqObj "list" vs.toArray 0) := by
    rw [← hsz]; exact Heap.get?_push_size _ rfl
  have keep : ∀ b o, s.heap.get? b = some o → o.cls = .type "tuple" → (((s.heap.push (seqObj "list" #[] 0)).update s.heap.objs.size (Obj.mapSeq (· ++ vs.toArray))).push (seqObj "list" vs.toArray 0)).get? b = some o := fun b o q _ => by
    have hlt : b < s.heap.objs.size := Heap.lt_size q
    rw [Heap.get?_push_ne _ _ _ (by rw [hsz]; exact Nat.ne_of_lt (Nat.lt_succ_of_lt hlt)), Heap.get?_update_ne _ _ _ _ (Nat.ne_of_lt hlt), Heap.get?_push_ne _ _ _ (Nat.ne_of_lt hlt)]
    exact q
  show wpAny _ _ _ _ _ { s with heap := ((s.heap.push (seqObj "list" #[] 0)).update s.heap.objs.size (Obj.mapSeq (· ++ vs.toArray))).push (seqObj "list" vs.toArray 0) }
  rw [hsz]
  refine wpAny_bind (wpAny_holding (wpAny_call_entry slot_list_sort ⟨_, hoL, rfl⟩ entry_list_sort (SK.plain_sort (r := r) hoL h64 (fun h2 Q' hQ => ?_) fun ps out h1 h2 h3 => ⟨_, rfl, ?_⟩) (args_list_sort _)))
  · refine hK _ (fun b o e hc => ?_) h2 _ _ _ hQ
    have e1 := keep b o e hc
    refine midHeap_old ?_ e1
    rintro rfl
    rw [hoL] at e1
    have e' : seqObj "list" vs.toArray 0 = o := Option.some.inj e1
    rw [← e'] at hc
    have c' : Value.type "list" = Value.type "tuple" := hc
    injection c' with c''
    exact absurd c'' (by decide)
  · obtain ⟨p, o⟩ := out_rank h1 h2 h3
    exact wpAny_pure ⟨_, rfl, h out p o⟩
theorem eqBool_same {v : Value} {Q : Bool → Shared → Prop} (h : Q true s) : wpAny (model prog w) A (eqBool v v) Q E s := by
  unfold eqBool
  refine wpAny_holding ?_
  rw [if_pos (beq_self_eq_true v)]
  first
    | exact wpAny_bind (wpAny_rule (wpAny_pure h))
    | exact wpAny_pure h
    | exact wpAny_bind (wpAny_rule h)
/-- a gap's tuple, by the places it leads from and to -/
def G4 (h : Heap) (v : Value) (k : Int × Int) : Prop := ∃ (a : Addr) (o : Obj) (t u : Tok) (q : Int) (z : Tok) (x : Value) (n : Nat), v = .ref a ∧ h.get? a = some o ∧ o.cls = .type "tuple" ∧ o.data = .seq #[.int k.1 t, .int k.2 u, .int q z, x] n
theorem G4.keeps {h h' : Heap} {v : Value} {k : Int × Int} (x : G4 h v k) (kp : ∀ b o, h.get? b = some o → o.cls = .type "tuple" → h'.get? b = some o) : G4 h' v k := by
  obtain ⟨a, o, t, u, q, z, y, n, e, ho, hc, hd⟩ := x
  exact ⟨a, o, t, u, q, z, y, n, e, kp _ _ ho hc, hc, hd⟩
theorem g4_firsts {h : Heap} {k : Value → Int × Int} : ∀ vs : List Value, (∀ v ∈ vs, G4 h v (k v)) → ∃ fs, PySem.W.KatTups h vs fs ∧ fs.length = vs.length ∧ ∀ f, f ∈ fs → ∃ n t, f = Value.int n t
  | [], _ => ⟨[], PySem.W.KatTups.nil, rfl, fun f hf => by simp at hf⟩
  | v :: vs, x => by
    obtain ⟨fs, kt, hl, hi⟩ := g4_firsts vs fun u hu => x u (List.mem_cons_of_mem _ hu)
    obtain ⟨a, o, t, u, q, z, y, n, e, ho, hc, hd⟩ := x v (List.mem_cons_self ..)
    subst e
    refine ⟨.int (k (.ref a)).1 t :: fs, PySem.W.KatTups.cons ho hc hd rfl kt, by simp [hl], fun f hf => ?_⟩
    rcases List.mem_cons.mp hf with rfl | hf
    · exact ⟨_, _, rfl⟩
    · exact hi f hf
/-- a rank of pairs of places below 4 -/
def rk4 (k : Int × Int) : Int := 4 * k.1 + k.2
theorem g4_kind {vs : List Value} {k : Value → Int × Int} (h2 : 2 ≤ vs.length) (x : ∀ v ∈ vs, G4 s.heap v (k v)) (bd : ∀ v ∈ vs, 0 ≤ (k v).1 ∧ (k v).1 < 4 ∧ 0 ≤ (k v).2 ∧ (k v).2 < 4) (inj : ∀ v ∈ vs, ∀ u ∈ vs, k v = k u → v = u) (Q : SortKind → Shared → Prop)
    (h : ∀ κ, Cmp prog w A s κ (pairsOf vs) (fun v => rk4 (k v)) → Q κ s) : wpAny (model prog w) A (keyKind' vs.toArray) Q E s := by
  obtain ⟨fs, kt, hl, hi⟩ := g4_firsts vs x
  refine PySem.W.kat_kind (T := Value.type "int") kt (by omega) (fun f hf => ?_) rfl (h _ ?_)
  · obtain ⟨n, t, rfl⟩ := hi f hf
    exact PySem.W.Looks.of_pure rfl
  · intro p q hp hq Q' E' hQ
    rw [pairsOf_toList] at hp hq
    have mp := (mem_zip_self hp).2
    have mq := (mem_zip_self hq).2
    obtain ⟨p1, p2, p3, p4⟩ := bd _ mp
    obtain ⟨q1, q2, q3, q4⟩ := bd _ mq
    have ij := inj _ mp _ mq
    obtain ⟨a, o, t, u, c, z, y, n, e, ho, hc, hd⟩ := x _ mp
    obtain ⟨a', o', t', u', c', z', y', n', e', ho', hc', hd'⟩ := x _ mq
    have hQ' : Q' (decide (rk4 (k p.1) < rk4 (k q.1))) s := hQ
    unfold rk4 at hQ'
    generalize k p.1 = kp at p1 p2 p3 p4 hQ' hd ij
    generalize k q.1 = kq at q1 q2 q3 q4 hQ' hd' ij
    rw [e, e'] at ij
    rw [e, e']
    refine PySem.W.kat_lt ho hd ho' hd' ?_
    show PySem.W.KatLex prog w A _ (decide (4 < 4)) _ [(.int kp.1 t, .int kq.1 t'), (.int kp.2 u, .int kq.2 u'), (.int c z, .int c' z'), (y, y')] 0 s
    refine PySem.W.kat_cons (wpAny_eqBool_int ?_)
    refine PySem.W.kat_go (fun e1 => ?_) (fun e1 => ?_)
    · have ex : kp.1 = kq.1 := by simpa using e1
      refine PySem.W.kat_yes (PySem.W.kat_cons (wpAny_eqBool_int ?_))
      refine PySem.W.kat_go (fun e2 => ?_) (fun e2 => ?_)
      · have ey : kp.2 = kq.2 := by simpa using e2
        have same : Value.ref a = Value.ref a' := ij (Prod.ext ex ey)
        cases same
        rw [ho] at ho'
        cases ho'
        have E1 : Data.seq #[Value.int kp.1 t, .int kp.2 u, .int c z, y] n = Data.seq #[Value.int kq.1 t', .int kq.2 u', .int c' z', y'] n' := hd.symm.trans hd'
        injection E1 with E2 _
        have E3 := congrArg Array.toList E2
        simp only [List.cons.injEq, Value.int.injEq] at E3
        obtain ⟨_, _, ⟨rfl, rfl⟩, rfl, _⟩ := E3
        have d : decide (4 * kp.1 + kp.2 < 4 * kq.1 + kq.2) = false := decide_eq_false (by omega)
        rw [d] at hQ'
        refine PySem.W.kat_yes (PySem.W.kat_cons (eqBool_same ?_))
        refine PySem.W.kat_yes (PySem.W.kat_cons (eqBool_same ?_))
        exact PySem.W.kat_yes (PySem.W.kat_nil hQ')
      · have ey : ¬ kp.2 = kq.2 := by simpa using e2
        have d : decide (4 * kp.1 + kp.2 < 4 * kq.1 + kq.2) = decide (kp.2 < kq.2) := decide_eq_decide.mpr (by omega)
        rw [d] at hQ'
        exact PySem.W.kat_no (oneLt_ints _ hQ')
    · have ex : ¬ kp.1 = kq.1 := by simpa using e1
      have d : decide (4 * kp.1 + kp.2 < 4 * kq.1 + kq.2) = decide (kp.1 < kq.1) := decide_eq_decide.mpr (by omega)
      rw [d] at hQ'
      exact PySem.W.kat_no (oneLt_ints _ hQ')
end
end TS
namespace Wb
open PySem PySem.Spec PyProof.Rows L2
/-- sorted(xs), xs a list of gaps' tuples, no two of which lead from and to the same places -/
def rSortG (K : PySem.W.Frag) : List V → Hp → VK → Prop := fun vs H Q => ∃ (a : Addr) (xs : List V) (k : V → Int × Int), vs = [V.ref a] ∧ SqL K H a xs ∧ xs.length < 64 ∧
  (∀ x ∈ xs, ∃ (t : Addr) (q : Int) (y : V), x = .ref t ∧ SqT K H t [.int (k x).1, .int (k x).2, .int q, y] ∧ 0 ≤ (k x).1 ∧ (k x).1 < 4 ∧ 0 ≤ (k x).2 ∧ (k x).2 < 4) ∧ (∀ x ∈ xs, ∀ y ∈ xs, k x = k y → x = y) ∧
  ∀ (ys : List V) (p : Addr), ys.Perm xs → ys.Pairwise (fun x y => TS.rk4 (k x) ≤ TS.rk4 (k y)) → H p = none → Q (.ref p) (upd H p (.lst ys))
theorem bkV_back {us : List Value} (h : ∀ u ∈ us, ∃ a, u = Value.ref a) : ∀ u ∈ us, ∀ v ∈ us, bkV u = bkV v → u = v := fun u hu v hv e => by
  obtain ⟨a, rfl⟩ := h u hu
  obtain ⟨b, rfl⟩ := h v hv
  have e' : V.ref a = V.ref b := e
  cases e'
  rfl
theorem cr_sortG {X : Cx} : CallR X (.builtin "sorted") (rSortG X.K) := by
  intro pins s σ H vs us Q I r h
  obtain ⟨a, xs, k, rfl, hs, h64, hx, inj, q⟩ := h
  obtain ⟨its, rv, hl, hz⟩ := I.list hs
  rw [Vals.ref1 r]
  obtain ⟨e1, e2⟩ := bkV_refs rv fun x m => by
    obtain ⟨t, _, _, e, _⟩ := hx x m
    exact ⟨t, e⟩
  have mem : ∀ v ∈ its, bkV v ∈ xs := fun v hv => by rw [e1]; exact List.mem_map.mpr ⟨_, hv, rfl⟩
  have g4 : ∀ v ∈ its, TS.G4 s.heap v (k (bkV v)) := fun v hv => by
    have hm := mem v hv
    obtain ⟨t, rfl⟩ := e2 v hv
    obtain ⟨t', c, y, e, ht, _⟩ := hx _ hm
    cases e
    obtain ⟨its2, r2, ⟨o, ho, hc, n, hd⟩, _⟩ := I.tuple ht
    cases r2 with
    | cons ra r2 =>
      cases r2 with
      | cons rb r2 =>
        cases r2 with
        | cons rc r2 =>
          cases r2 with
          | cons rd r2 =>
            cases r2
            obtain ⟨t1, rfl⟩ := ra
            obtain ⟨t2, rfl⟩ := rb
            obtain ⟨t3, rfl⟩ := rc
            exact ⟨_, o, t1, t2, c, t3, _, n, rfl, ho, hc, hd⟩
  refine TS.sorted_rank (r := fun v => TS.rk4 (k (bkV v))) hl.isList (by rw [← rv.length]; exact h64) (fun h' kp h2 A' E' Q' hQ => ?_) fun out h1 h2 => ?_
  · refine TS.g4_kind (s := { s with heap := h' }) (k := fun v => k (bkV v)) h2 (fun v hv => (g4 v hv).keeps kp) (fun v hv => ?_) (fun v hv u hu e => ?_) Q' hQ
    · obtain ⟨_, _, _, _, _, b⟩ := hx _ (mem v hv)
      exact b
    · exact bkV_back e2 v hv u hu (inj _ (mem v hv) _ (mem u hu) e)
  · obtain ⟨ep, he'⟩ := PyProof.Rows.sortedAll_at s.heap its out
    have h3 : ∀ u ∈ out.toList, ∃ a, u = Value.ref a := fun u hu => e2 u (h1.mem_iff.mp hu)
    have hp : (out.toList.map bkV).Perm xs := by
      rw [e1]
      exact h1.map bkV
    have hlen : (out.toList.map bkV).length ≤ sizeLine := by
      rw [hp.length_eq]
      exact hz
    refine ⟨.ref _, upd H (s.heap.objs.size + 1) (.lst (out.toList.map bkV)), I.laid (t' := s.toks) (fun _ _ => PyProof.Rows.sortedAll_old) (Nat.le_succ _) ⟨hlen, out.toList, ep, bkV_vals h3, he'⟩, rfl, q _ _ hp ?_ (I.hok.fresh (Nat.le_succ _))⟩
    rw [List.pairwise_map]
    exact h2
/-- sorted(xs), xs a list of unlike words of as many places each -/
def rSortW (K : PySem.W.Frag) : List V → Hp → VK → Prop := fun vs H Q => ∃ (a : Addr) (xs : List V) (ws : List (List Int)) (d : Nat), vs = [V.ref a] ∧ SqL K H a xs ∧ xs.length < 64 ∧ Paired (fun v ns => ∃ t, v = V.ref t ∧ H t = some (.tup (ns.map V.int))) xs ws ∧ (∀ ns ∈ ws, ns.length = d ∧ TS.Bd 4 ns) ∧ ws.Nodup ∧
  ∀ (ys : List V) (us : List (List Int)) (p : Addr), ys.length = xs.length → Paired (fun v ns => ∃ t, v = V.ref t ∧ H t = some (.tup (ns.map V.int))) ys us → us.Perm ws → us.Pairwise (fun u v => TS.code 4 u ≤ TS.code 4 v) → H p = none → Q (.ref p) (upd H p (.lst ys))
theorem cr_sortW {X : Cx} : CallR X (.builtin "sorted") (rSortW X.K) := by
  intro pins s σ H vs us Q I r h
  obtain ⟨a, xs, ws, d, rfl, hs, h64, hp, hb, nd, q⟩ := h
  obtain ⟨its, rv, hl, hz⟩ := I.list hs
  rw [Vals.ref1 r]
  have raw : ∀ {t : Addr} {ns : List Int}, H t = some (.tup (ns.map V.int)) → TS.TupInts s.heap (.ref t) ns := fun ht => tupI_raw I (show SqT X.K H _ _ from .inl (.inl ht))
  have pr : ∀ {xs : List V} {us : List Value} {ws : List (List Int)}, Vals xs us → Paired (fun v ns => ∃ t, v = V.ref t ∧ H t = some (.tup (ns.map V.int))) xs ws →
      us.map (TS.intsOf s.heap) = ws ∧ ∀ u ∈ us, ∃ t ns, u = Value.ref t ∧ H t = some (.tup (ns.map V.int)) ∧ TS.intsOf s.heap u = ns ∧ ns ∈ ws := by
    intro xs us ws rv
    induction rv generalizing ws with
    | nil =>
      intro hp
      cases hp
      exact ⟨rfl, fun u hu => absurd hu List.not_mem_nil⟩
    | cons r1 _ ih =>
      intro hp
      cases hp with
      | cons h1 h2 =>
        obtain ⟨t, rfl, ht⟩ := h1
        cases r1
        obtain ⟨i1, i2⟩ := ih h2
        have e := (raw ht).ints
        refine ⟨by rw [List.map_cons, i1, e], fun u hu => ?_⟩
        rcases List.mem_cons.mp hu with rfl | hu
        · exact ⟨t, _, rfl, ht, e, List.mem_cons_self⟩
        · obtain ⟨t', ns, a1, a2, a3, a4⟩ := i2 u hu
          exact ⟨t', ns, a1, a2, a3, List.mem_cons_of_mem _ a4⟩
  obtain ⟨e1, e2⟩ := pr rv hp
  have xsl : its.length = ws.length := by rw [← e1, List.length_map]
  have xw : xs.length = its.length := rv.length
  have ok : TS.TupsOk s.heap d 4 its := fun v hv => by
    obtain ⟨t, ns, rfl, ht, e, hm⟩ := e2 v hv
    exact ⟨ns, raw ht, hb ns hm⟩
  refine TS.sorted_rank (r := fun v => TS.code 4 (TS.intsOf s.heap v)) hl.isList (by omega) (fun h' kp h2 A' E' Q' hQ => ?_) fun out h1 h2 => ?_
  · have d1 : 1 ≤ d := Nat.pos_of_ne_zero fun z => by
      subst z
      have emp : ∀ ns ∈ ws, ns = [] := fun ns hn => List.eq_nil_of_length_eq_zero (hb ns hn).1
      match ws, xsl, nd, emp with
      | [], l, _, _ => rw [l] at h2; simp at h2
      | [_], l, _, _ => rw [l] at h2; simp at h2
      | x :: y :: r, _, n, em =>
        have zx := em x (by simp)
        have zy := em y (by simp)
        rw [zx, zy] at n
        simp at n
    refine TS.kind_tups (s := { s with heap := h' }) d1 h2 (ok.keeps kp) _ (fun v hv ns t => ?_) Q' hQ
    obtain ⟨ns0, t0, _⟩ := ok v hv
    have e : ns = ns0 := t.ints.symm.trans (t0.keeps kp).ints
    rw [e, t0.ints]
  · obtain ⟨ep, he'⟩ := PyProof.Rows.sortedAll_at s.heap its out
    have h3 : ∀ u ∈ out.toList, ∃ a, u = Value.ref a := fun u hu => by
      obtain ⟨t, _, rfl, _⟩ := e2 u (h1.mem_iff.mp hu)
      exact ⟨t, rfl⟩
    have ol : out.toList.length = its.length := h1.length_eq
    refine ⟨.ref _, upd H (s.heap.objs.size + 1) (.lst (out.toList.map bkV)), I.laid (t' := s.toks) (fun _ _ => PyProof.Rows.sortedAll_old) (Nat.le_succ _) ⟨by rw [List.length_map, ol, ← xw]; exact hz, out.toList, ep, bkV_vals h3, he'⟩, rfl, q _ (out.toList.map (TS.intsOf s.heap)) _ (by rw [List.length_map, ol, xw]) ?_ ?_ ?_ (I.hok.fresh (Nat.le_succ _))⟩
    · have go : ∀ us : List Value, (∀ u ∈ us, u ∈ its) → Paired (fun v ns => ∃ t, v = V.ref t ∧ H t = some (.tup (ns.map V.int))) (us.map bkV) (us.map (TS.intsOf s.heap)) := by
        intro us
        induction us with
        | nil => intro _; exact .nil
        | cons u us ih =>
          intro hu
          obtain ⟨t, ns, rfl, ht, e, _⟩ := e2 u (hu u List.mem_cons_self)
          exact .cons ⟨t, rfl, by rw [e]; exact ht⟩ (ih fun v hv => hu v (List.mem_cons_of_mem _ hv))
      exact go _ fun u hu => h1.mem_iff.mp hu
    · rw [← e1]
      exact h1.map _
    · rw [List.pairwise_map]
      exact h2
end Wb

set_option Elab.async false
set_option linter.all false
set_option maxRecDepth 100000
set_option maxHeartbeats 4000000
set_option pp.maxSteps 600
set_option pp.deepTerms false
namespace Wb
open PySem PySem.Spec PyProof.Rows L2
theorem inAll_nil : InAll [] [] := ⟨rfl, fun i n m h => by simp at h⟩
theorem inAll_snoc {xs ms : List Int} {x m : Int} (h : InAll xs ms) (h0 : 0 ≤ x) (h1 : x < m) : InAll (xs ++ [x]) (ms ++ [m]) := by
  refine ⟨by rw [List.length_append, List.length_append, h.1]; rfl, fun i a b ha hb => ?_⟩
  by_cases hi : i < xs.length
  · rw [List.getElem?_append_left hi] at ha
    rw [List.getElem?_append_left (by rw [← h.1]; exact hi)] at hb
    exact h.2 i a b ha hb
  · rw [List.getElem?_append_right (by omega)] at ha
    rw [List.getElem?_append_right (by rw [← h.1]; omega)] at hb
    by_cases e : i - xs.length = 0
    · rw [e] at ha
      rw [← h.1, e] at hb
      cases ha
      cases hb
      exact ⟨h0, h1⟩
    · rw [List.getElem?_eq_none (by simp; omega)] at ha
      cases ha
theorem inAll_take {xs ms : List Int} (h : InAll xs ms) (k : Nat) : InAll (xs.take k) (ms.take k) := by
  refine ⟨by rw [List.length_take, List.length_take, h.1], fun i a b ha hb => ?_⟩
  rw [List.getElem?_take] at ha hb
  split at ha
  · rename_i hk
    rw [if_pos hk] at hb
    exact h.2 i a b ha hb
  · cases ha
/-- [draw(pen, one) for one in a list of ints] -/
theorem lc_draws {K : PySem.W.Frag} {vs : List Nat} {i : Nat} {σ : L2.St} {H : Hp} {Q : VK} {tl : TE} {wds : List Int} {p c : Addr} {T : Int} (hp : PenAt H p c T)
    (ha : ∀ Q' : VK, (∀ a H1, Exx p H H1 → PenAt H1 p c T → SqL K H1 a (wds.map V.int) → a ≠ p → Q' (.ref a) H1) → tl σ H Q')
    (hT : T ≤ 9000000) (hw : ∀ x ∈ wds, 1 ≤ x ∧ x ≤ 1000000) (hl : wds.length ≤ 100)
    (h0 : ∀ x, ((wipe σ vs).set i (some x))[0]? = some (some (.ref p))) (hi : ∀ x, ((wipe σ vs).set i (some x))[i]? = some (some x)) (hwp : ∀ x, wipe ((wipe σ vs).set i (some x)) vs = wipe σ vs)
    (q : ∀ H' D xs, Exx p H H' → PenAt H' p c (T + (wds.length : Nat)) → H D = none → H' D = some (.lst (xs.map V.int)) → InAll xs wds → Q (.ref D) H') :
    tLc (iList K tl) (gName i) tYes (tCall spDraw [] E0 (tCons (tVar 0) (tCons (tVar i) tNil))) vs σ H Q := by
  refine ha _ fun a H1 x1 hp1 ha1 nap => ⟨a, rfl, ⟨_, ha1⟩, fun D hD => ?_⟩
  have nDp : D ≠ p := hp1.new1 hD
  have nDc : D ≠ c := hp1.new2 hD
  refine lc_list (K := K) (a := a) (xs := wds.map V.int) (fun m H' => ∃ xs : List Int, Exx p H1 H' ∧ PenAt H' p c (T + (m : Nat)) ∧ H' D = some (.lst (xs.map V.int)) ∧ InAll xs (wds.take m)) ⟨[], Exx.ex (Evl.Ex.new hD), ?_, upd_same, inAll_nil⟩ ?_ ?_ ?_
  · have := hp1.put (o := .lst []) nDp nDc
    simpa using this
  · rintro m H' _ ⟨_, x, _⟩
    exact x.l nap ha1
  · rintro m x H2 hm ⟨xs, x2, hp2, hD2, hin⟩
    obtain ⟨wd, hwd, rfl⟩ := get_map_int hm
    have ml : m < wds.length := (List.getElem?_eq_some_iff.mp hwd).1
    obtain ⟨w1, w2⟩ := hw wd (List.mem_of_getElem? hwd)
    refine ⟨hwp _, ?_⟩
    refine ⟨.ref p, h0 _, .int wd, hi _, p, c, wd, _, rfl, hp2, w1, w2, by omega, fun r H3 r0 r1 x3 hp3 => ?_⟩
    have hD3 := x3 _ _ nDp hD2
    have xl : xs.length = m := by
      have := hin.1
      rw [List.length_take] at this
      omega
    refine ⟨_, hD3, Nat.lt_of_le_of_lt (by rw [List.length_map, xl]; omega : (xs.map V.int).length ≤ 100) (by decide), xs ++ [r], (x2.trans x3).mut hD, (hp3.put nDp nDc).mono (by omega), ?_, ?_⟩
    · rw [upd_same, List.map_append]
      rfl
    · rw [take_succ_get hwd]
      exact inAll_snoc hin r0 r1
  · rintro H2 ⟨xs, x2, hp2, hD2, hin⟩
    rw [List.length_map] at hp2 hin
    rw [List.take_length] at hin
    exact q H2 D xs (x1.trans x2) hp2 (fresh_exx x1 hp1.here hD) hD2 hin
def rTupK (K : PySem.W.Frag) : List V → Hp → VK → Prop := fun xs H Q => ∃ p ys, xs = [.ref p] ∧ ((SqL K H p ys ∧ ∀ l, H l = none → Q (.ref l) (upd H l (.tup ys))) ∨ (SqT K H p ys ∧ Q (.ref p) H))
theorem call_tupK {X : Cx} : CallR X (.type "tuple") (rTupK X.K) := call_tuple_of
/-! ### codes and the tuples' order -/
theorem lex_of_code {B : Int} : ∀ {u w : List Int}, u.length = w.length → TS.Bd B u → TS.Bd B w → TS.code B u ≤ TS.code B w → u ≠ w → HT.lexLt u w = true
  | [], [], _, _, _, _, ne => absurd rfl ne
  | x :: u, y :: w, hl, hu, hw, hc, ne => by
    have hl' : u.length = w.length := by simpa using hl
    have hu' : TS.Bd B u := fun m hm => hu m (List.mem_cons_of_mem _ hm)
    have hw' : TS.Bd B w := fun m hm => hw m (List.mem_cons_of_mem _ hm)
    rw [HT.lexLt_cons]
    by_cases e : x = y
    · subst e
      rw [if_pos rfl]
      refine lex_of_code hl' hu' hw' ?_ (fun z => ne (by rw [z]))
      apply Int.not_lt.mp
      intro z
      have := (TS.code_same (d := x) hl'.symm).mpr z
      omega
    · rw [if_neg e]
      apply decide_eq_true
      apply Int.not_le.mp
      intro z
      have := TS.code_lt hl'.symm hw' hu' (show y < x by omega)
      omega
  | [], _ :: _, hl, _, _, _, _ => by simp at hl
  | _ :: _, [], hl, _, _, _, _ => by simp at hl
theorem nodup_le {α : Type} [DecidableEq α] : ∀ {xs ys : List α}, xs.Nodup → (∀ x ∈ xs, x ∈ ys) → xs.length ≤ ys.length
  | [], _, _, _ => Nat.zero_le _
  | x :: xs, ys, hn, h => by
    rw [List.nodup_cons] at hn
    have hx : x ∈ ys := h x List.mem_cons_self
    have ih := nodup_le (xs := xs) (ys := ys.erase x) hn.2 (fun y hy => (List.mem_erase_of_ne (fun (e : y = x) => hn.1 (by rw [← e]; exact hy))).mpr (h y (List.mem_cons_of_mem _ hy)))
    rw [List.length_erase_of_mem hx] at ih
    have := List.length_pos_of_mem hx
    rw [List.length_cons]
    omega
theorem le_sum : ∀ {xs : List Nat} {x : Nat}, x ∈ xs → x ≤ xs.sum
  | y :: xs, x, h => by
    rw [List.sum_cons]
    rcases List.mem_cons.mp h with rfl | h
    · exact Nat.le_add_right _ _
    · have := le_sum h
      omega
theorem keys_of {K : PySem.W.Frag} {H : Hp} : ∀ {vs : List V} {ws : List Word}, Paired (Wd K H) vs ws → ∃ ks : List (Addr × List Int), vs = ks.map (fun p => V.ref p.1) ∧ ks.map (·.2) = ws ∧ ∀ p ∈ ks, H p.1 = some (.tup (p.2.map V.int))
  | [], [], _ => ⟨[], rfl, rfl, fun p hp => (by cases hp)⟩
  | v :: vs, w :: ws, h => by
    cases h with
    | cons r t =>
      obtain ⟨ks, h1, h2, h3⟩ := keys_of t
      obtain ⟨a, rfl, ha⟩ := r
      refine ⟨(a, w) :: ks, by rw [h1]; rfl, by rw [← h2]; rfl, fun p hp => ?_⟩
      rcases List.mem_cons.mp hp with rfl | hp
      · exact ha
      · exact h3 p hp
theorem rows_of_keys {K : PySem.W.Frag} {H : Hp} : ∀ {ks : List (Addr × List Int)}, (∀ p ∈ ks, H p.1 = some (.tup (p.2.map V.int))) → Paired (Wd K H) (ks.map (fun p => V.ref p.1)) (ks.map (·.2))
  | [], _ => .nil
  | k :: ks, h => .cons ⟨k.1, rfl, h k List.mem_cons_self⟩ (rows_of_keys fun p hp => h p (List.mem_cons_of_mem _ hp))
theorem take_map_succ {bases : List Word} {m : Nat} {b : Word} (k : Nat) (h : bases[m]? = some b) : (bases.take (m + 1)).map (fun u => u.take k) = (bases.take m).map (fun u => u.take k) ++ [b.take k] := by
  rw [take_succ_get h, List.map_append]
  rfl
theorem tcb1 {r : List V → Hp → VK → Prop} {X : TE} {σ : L2.St} {H : Hp} {Q : VK} (h : X σ H (fun x H1 => r [x] H1 Q)) : tCB r (tCons X tNil) σ H Q := h
theorem tcons1 {X : TE} {σ : L2.St} {H : Hp} {Q : List V → Hp → Prop} (h : X σ H (fun x H1 => Q [x] H1)) : tCons X tNil σ H Q := h
theorem tyes1 {σ : L2.St} {H : Hp} {E F : Hp → Prop} (h : E H) : tYes σ H (fun b H3 => if b = true then E H3 else F H3) := h
end Wb

set_option Elab.async false
set_option linter.all false
set_option maxRecDepth 100000
set_option maxHeartbeats 4000000
set_option pp.maxSteps 600
set_option pp.deepTerms false
namespace Wb
open PySem PySem.Spec PyProof.Rows L2
/-! ### data that is small: it can be compared and written -/
structure Fine (d : PyData) (n L : Nat) : Prop where
  lay : d.canLay0 = true
  sho : d.showable = true
  dep : d.depth ≤ n
  len : d.shown.length ≤ L
structure FineAll (ds : List PyData) (n S : Nat) : Prop where
  lay : PyData.canLayAll0 ds = true
  sho : PyData.showableAll ds = true
  dep : PyData.depthAll ds ≤ n
  len : piled (PyData.shownAll ds) ≤ S
theorem FineAll.nil {n : Nat} : FineAll [] n 0 := ⟨rfl, rfl, Nat.zero_le _, Nat.le_refl _⟩
theorem FineAll.cons {d : PyData} {ds : List PyData} {n L S : Nat} (h : Fine d n L) (t : FineAll ds n S) : FineAll (d :: ds) n (L + 2 + S) := by
  obtain ⟨a1, a2, a3, a4⟩ := h
  obtain ⟨b1, b2, b3, b4⟩ := t
  refine ⟨by simp [PyData.canLayAll0, a1, b1], by simp [PyData.showableAll, a2, b2], by simp only [PyData.depthAll]; omega, ?_⟩
  simp only [PyData.shownAll, piled_cons]
  omega
theorem FineAll.rep {n B : Nat} : ∀ {ds : List PyData}, (∀ d ∈ ds, Fine d n B) → FineAll ds n (ds.length * (B + 2))
  | [], _ => by simpa using FineAll.nil
  | d :: ds, h => by
    have := FineAll.cons (h d List.mem_cons_self) (FineAll.rep fun d' hd => h d' (List.mem_cons_of_mem _ hd))
    rw [List.length_cons, Nat.succ_mul, Nat.add_comm]
    exact this
theorem FineAll.mono {ds : List PyData} {n S S' : Nat} (h : FineAll ds n S) (l : S ≤ S') : FineAll ds n S' := ⟨h.1, h.2, h.3, Nat.le_trans h.4 l⟩
theorem Fine.mono {d : PyData} {n n' L L' : Nat} (h : Fine d n L) (a : n ≤ n') (b : L ≤ L') : Fine d n' L' := ⟨h.1, h.2, Nat.le_trans h.3 a, Nat.le_trans h.4 b⟩
theorem join_le (ts : List Str) : (Str.join ", " ts).length ≤ piled ts := by
  cases ts with
  | nil => exact Nat.zero_le _
  | cons t ts =>
    have := join_length_add (t :: ts) (by simp)
    omega
theorem textFrom_le : ∀ (ts : List Str) (k : Nat) (acc : Str), (textFrom k acc ts).length ≤ acc.length + piled ts
  | [], k, acc => by show acc.length ≤ _; omega
  | t :: ts, k, acc => by
    have h := textFrom_le ts (k + 1) (acc ++ (if k > 0 then ", " else "" : String) ++ t)
    have e : (acc ++ (if k > 0 then ", " else "" : String) ++ t).length = acc.length + (if k > 0 then 2 else 0) + t.length := by
      rw [strLen_append, strLen_append]
      split <;> rfl
    have e2 : (if k > 0 then 2 else 0 : Nat) ≤ 2 := by split <;> omega
    rw [piled_cons]
    show (textFrom (k + 1) _ ts).length ≤ _
    omega
theorem fine_tup {ds : List PyData} {n S : Nat} (h : FineAll ds n S) : Fine (.tuple ds) (n + 1) (S + 3) := by
  obtain ⟨b1, b2, b3, b4⟩ := h
  refine ⟨by simpa only [PyData.canLay0] using b1, by simpa only [PyData.showable] using b2, by simp only [PyData.depth]; omega, ?_⟩
  simp only [PyData.shown]
  unfold tupleText
  rw [strLen_append, strLen_append]
  have e1 : ((("(" : String) : Str)).length = 1 := rfl
  have e3 : (((if (PyData.shownAll ds).length == 1 then ",)" else ")" : String) : Str)).length ≤ 2 := by split <;> decide
  have := join_le (PyData.shownAll ds)
  omega
theorem fine_lst {ds : List PyData} {n S : Nat} (h : FineAll ds n S) : Fine (.list ds) (n + 1) (S + 3) := by
  obtain ⟨b1, b2, b3, b4⟩ := h
  refine ⟨by simpa only [PyData.canLay0] using b1, by simpa only [PyData.showable] using b2, by simp only [PyData.depth]; omega, ?_⟩
  simp only [PyData.shown]
  unfold listText
  rw [strLen_append]
  have e1 : ((("]" : String) : Str)).length = 1 := rfl
  have e2 : ((("[" : String) : Str)).length = 1 := rfl
  have := textFrom_le (PyData.shownAll ds) 0 "["
  omega
theorem fine_int {i : Int} (h : i.natAbs < 10 ^ 7) : Fine (.int i) 0 8 := by
  refine ⟨by simp only [PyData.canLay0], ?_, by simp only [PyData.depth]; omega, ?_⟩
  · simp only [PyData.showable]
    refine decide_eq_true ?_
    by_cases z : i.natAbs = 0
    · rw [z]; decide
    · refine (Nat.log2_lt z).mpr (Nat.lt_of_lt_of_le h ?_)
      exact Nat.le_trans (show 10 ^ 7 ≤ 2 ^ 24 by decide) (Nat.pow_le_pow_right (by decide) (by decide))
  · simp only [PyData.shown]
    rw [PySem.ofString_length]
    exact int_text_length_le10 (k := 7) (by decide) h
theorem Fine.shaped {d : PyData} {n L : Nat} (h : Fine d n L) (hn : n ≤ 64) : SeqAt.shaped d = true := by
  unfold SeqAt.shaped
  rw [h.lay, Bool.true_and]
  exact decide_eq_true (Nat.le_trans h.dep hn)
/-! ### words, gaps, bolts, locks, steps as data -/
def dW (w : Word) : PyData := .tuple (w.map .int)
def dWs (ws : List Word) : PyData := .tuple (ws.map dW)
def dG (g : Gap) : PyData := .tuple [.int g.frm, .int g.to_, .int g.price, dWs g.ways]
def dGs (gs : List Gap) : PyData := .tuple (gs.map dG)
def dB (b : Bolt) : PyData := .tuple [.int b.many, dGs b.gaps]
def dL (l : Lock) : PyData := .tuple (l.map dB)
section
variable {K : PySem.W.Frag} {H : Hp}
theorem dp_all {α : Type} {F : V → α → Prop} {f : α → PyData} (h : ∀ v x, F v x → Dp K H v (f x)) : ∀ {vs : List V} {xs : List α}, Paired F vs xs → DpAll K H vs (xs.map f)
  | _, _, .nil => .nil
  | _, _, .cons r t => .cons (h _ _ r) (dp_all h t)
theorem dp_W {v : V} {u : Word} (h : Wd K H v u) : Dp K H v (dW u) := by
  obtain ⟨a, rfl, ha⟩ := h
  exact .tup (.inl (.inl ha)) (dp_ints u)
theorem dp_G {v : V} {g : Gap} (h : GapAt K H v g) : Dp K H v (dG g) := by
  obtain ⟨a, b, ws, rfl, h1, h2, h3⟩ := h
  exact .tup h1 (.cons (.int _) (.cons (.int _) (.cons (.int _) (.cons (.tup h2 (dp_all (F := Wd K H) (f := dW) (fun _ _ => dp_W) h3)) .nil))))
theorem dp_B {v : V} {b : Bolt} (h : BoltAt K H v b) : Dp K H v (dB b) := by
  obtain ⟨a, c, gs, rfl, h1, h2, h3⟩ := h
  exact .tup h1 (.cons (.int _) (.cons (.tup h2 (dp_all (F := GapAt K H) (f := dG) (fun _ _ => dp_G) h3)) .nil))
theorem dp_L {v : V} {l : Lock} (h : LockAt K H v l) : Dp K H v (dL l) := by
  obtain ⟨a, bs, rfl, h1, h2⟩ := h
  exact .tup h1 (dp_all (F := BoltAt K H) (f := dB) (fun _ _ => dp_B) h2)
end
theorem fine_W {u : Word} {B : Int} {n : Nat} (hb : ∀ x ∈ u, 0 ≤ x ∧ x < B) (hB : B ≤ 10) (hn : u.length ≤ n) : Fine (dW u) 1 (10 * n + 3) := by
  have h : FineAll (u.map PyData.int) 0 ((u.map PyData.int).length * (8 + 2)) := FineAll.rep fun d hd => by
    obtain ⟨x, hx, rfl⟩ := List.mem_map.mp hd
    have := hb x hx
    have h10 : x.natAbs < 10 := by omega
    exact fine_int (Nat.lt_trans h10 (by decide))
  refine (fine_tup h).mono (Nat.le_refl _) ?_
  rw [List.length_map]
  omega
theorem fine_small {x : Int} (h0 : 0 ≤ x) (h1 : x ≤ 1000000) : Fine (.int x) 0 8 := fine_int (by
  have h : x.natAbs ≤ 1000000 := by omega
  exact Nat.lt_of_le_of_lt h (by decide))
theorem manys_le {l : Lock} (ok : LockOk l) {k : Nat} {b : Bolt} (h : l[k]? = some b) : b.many ≤ 4 := (ok.bolts k b h).m1
theorem fine_way {l : Lock} (ok : LockOk l) {k : Nat} {b : Bolt} {g : Gap} {u : Word} (hb : l[k]? = some b) (hg : g ∈ b.gaps) (hu : u ∈ g.ways) : Fine (dW u) 1 603 := by
  have G := (ok.bolts k b hb).gaps g hg
  obtain ⟨h1, h2⟩ := G.words u hu
  have kl : k < l.length := (List.getElem?_eq_some_iff.mp hb).1
  have l60 := ok.n1
  have ml : (manysOf (l.take k)).length = k := by
    unfold manysOf
    rw [List.length_map, List.length_take]
    omega
  refine (fine_W (B := 4) (n := 60) (fun x hx => ?_) (by decide) (by omega)).mono (Nat.le_refl _) (Nat.le_refl _)
  obtain ⟨i, hi⟩ := List.mem_iff_getElem?.mp hx
  have il : i < u.length := (List.getElem?_eq_some_iff.mp hi).1
  have il2 : i < l.length := by omega
  have hm : (manysOf (l.take k))[i]? = some l[i].many := by
    unfold manysOf
    rw [List.getElem?_map, List.getElem?_take, if_pos (by omega), List.getElem?_eq_getElem il2]
    rfl
  have := h2 i x _ hi hm
  have := manys_le ok (List.getElem?_eq_getElem il2)
  omega
theorem fine_G {l : Lock} (ok : LockOk l) {k : Nat} {b : Bolt} {g : Gap} (hb : l[k]? = some b) (hg : g ∈ b.gaps) : Fine (dG g) 3 5000 := by
  have BO := ok.bolts k b hb
  have G := BO.gaps g hg
  have m1 := BO.m1
  have h1 : FineAll (g.ways.map dW) 1 ((g.ways.map dW).length * (603 + 2)) := FineAll.rep fun d hd => by
    obtain ⟨u, hu, rfl⟩ := List.mem_map.mp hd
    exact fine_way ok hb hg hu
  have h2 := fine_tup h1
  have f8 := G.few
  rw [List.length_map] at h2
  have a1 := fine_small G.f0 (show g.frm ≤ 1000000 by have := G.f1; omega)
  have a2 := fine_small G.t0 (show g.to_ ≤ 1000000 by have := G.t1; omega)
  have a3 := fine_small (show 0 ≤ g.price by have := G.p0; omega) G.p1
  have w2 := a1.mono (Nat.zero_le 2) (Nat.le_refl 8)
  refine (fine_tup (FineAll.cons (a1.mono (Nat.zero_le 2) (Nat.le_refl 8)) (FineAll.cons (a2.mono (Nat.zero_le 2) (Nat.le_refl 8)) (FineAll.cons (a3.mono (Nat.zero_le 2) (Nat.le_refl 8)) (FineAll.cons (h2 : Fine (dWs g.ways) 2 _) FineAll.nil))))).mono (Nat.le_refl _) ?_
  omega
theorem codes_len {gs : List Gap} {m : Int} (hm : m ≤ 4) (h : ∀ g ∈ gs, 0 ≤ g.frm ∧ g.frm < m ∧ 0 ≤ g.to_ ∧ g.to_ < m) (r : gs.Pairwise (fun g h => lexLt2 g.frm g.to_ h.frm h.to_)) : gs.length ≤ 16 := by
  have n1 : (gs.map fun g => (4 * g.frm + g.to_).toNat).Nodup := by
    rw [List.Nodup, List.pairwise_map]
    refine List.Pairwise.imp_of_mem ?_ r
    intro g g' hg hg' hl
    have b1 := h g hg
    have b2 := h g' hg'
    rcases hl with hl | ⟨hl, hl'⟩ <;> omega
  have := nodup_le (ys := List.range 16) n1 fun x hx => by
    obtain ⟨g, hg, rfl⟩ := List.mem_map.mp hx
    have b1 := h g hg
    rw [List.mem_range]
    omega
  rw [List.length_map, List.length_range] at this
  exact this
theorem gaps_16 {l : Lock} (ok : LockOk l) {k : Nat} {b : Bolt} (hb : l[k]? = some b) : b.gaps.length ≤ 16 := by
  have BO := ok.bolts k b hb
  exact codes_len BO.m1 (fun g hg => by
    have G := BO.gaps g hg
    exact ⟨G.f0, G.f1, G.t0, G.t1⟩) BO.rise
theorem fine_B {l : Lock} (ok : LockOk l) {k : Nat} {b : Bolt} (hb : l[k]? = some b) : Fine (dB b) 5 81000 := by
  have BO := ok.bolts k b hb
  have h1 : FineAll (b.gaps.map dG) 3 ((b.gaps.map dG).length * (5000 + 2)) := FineAll.rep fun d hd => by
    obtain ⟨g, hg, rfl⟩ := List.mem_map.mp hd
    exact fine_G ok hb hg
  have h2 := fine_tup h1
  have g16 := gaps_16 ok hb
  rw [List.length_map] at h2
  have a1 := fine_small (show 0 ≤ b.many by have := BO.m0; omega) (show b.many ≤ 1000000 by have := BO.m1; omega)
  refine (fine_tup (FineAll.cons (a1.mono (Nat.zero_le 4) (Nat.le_refl 8)) (FineAll.cons (h2 : Fine (dGs b.gaps) 4 _) FineAll.nil))).mono (Nat.le_refl _) ?_
  omega
theorem fine_L {l : Lock} (ok : LockOk l) : Fine (dL l) 6 5000000 := by
  have h1 : FineAll (l.map dB) 5 ((l.map dB).length * (81000 + 2)) := FineAll.rep fun d hd => by
    obtain ⟨b, hb, rfl⟩ := List.mem_map.mp hd
    obtain ⟨k, hk⟩ := List.mem_iff_getElem?.mp hb
    exact fine_B ok hk
  have h2 := fine_tup h1
  have l60 := ok.n1
  rw [List.length_map] at h2
  refine h2.mono (Nat.le_refl _) ?_
  omega
end Wb

set_option Elab.async false
set_option linter.all false
set_option maxRecDepth 100000
set_option maxHeartbeats 4000000
set_option pp.maxSteps 600
set_option pp.deepTerms false
namespace Wb
open PySem PySem.Spec PyProof.Rows L2
abbrev sShuf : Stmt := topS 31
abbrev sPrc : Stmt := topS 32
abbrev sCuts : Stmt := topS 34
theorem scShuf : FnScope ["_law_pen_here", "_law_bag", "_law_left", "_law_found"] ["_law_pen_here", "_law_bag"] (defScope sShuf) := ⟨rfl, rfl, rfl, by decide +kernel, rfl, by decide +kernel, by decide +kernel⟩
theorem scPrc : FnScope ["_law_pen_here", "_law_dear"] ["_law_pen_here", "_law_dear"] (defScope sPrc) := ⟨rfl, rfl, rfl, by decide +kernel, rfl, by decide +kernel, by decide +kernel⟩
theorem scCuts : FnScope ["_law_words", "_law_many_here", "_law_found", "_law_word"] ["_law_words", "_law_many_here"] (defScope sCuts) := ⟨rfl, rfl, rfl, by decide +kernel, rfl, by decide +kernel, by decide +kernel⟩
/-- words of small ints -/
def SmallW (ws : List Word) : Prop := ∀ w ∈ ws, w.length ≤ 60 ∧ ∀ x ∈ w, 0 ≤ x ∧ x < 10
theorem fine_ws {ws : List Word} (h : SmallW ws) (hl : ws.length ≤ 100) : Fine (.list (ws.map dW)) 2 70000 := by
  have : FineAll (ws.map dW) 1 ((ws.map dW).length * (603 + 2)) := FineAll.rep fun d hd => by
    obtain ⟨w, hw, rfl⟩ := List.mem_map.mp hd
    exact fine_W (B := 10) (n := 60) (h w hw).2 (by decide) (h w hw).1
  refine (fine_lst this).mono (by decide) ?_
  rw [List.length_map]
  omega
theorem dp_ws {K : PySem.W.Frag} {H : Hp} {xs : List V} {ws : List Word} (h : Paired (Wd K H) xs ws) : DpAll K H xs (ws.map dW) := dp_all (F := Wd K H) (f := dW) (fun _ _ => dp_W) h
theorem erase_perm {α : Type} : ∀ {xs : List α} {i : Nat} {x : α}, xs[i]? = some x → (x :: xs.eraseIdx i).Perm xs
  | y :: ys, 0, x, h => by
    cases h
    exact List.Perm.refl _
  | y :: ys, i + 1, x, h => by
    have ih := erase_perm (xs := ys) (i := i) (x := x) h
    exact (List.Perm.swap y x _).trans (ih.cons y)
  | [], _, _, h => by cases h
theorem paired_erase {α β : Type} {R : α → β → Prop} : ∀ {xs : List α} {ys : List β} (i : Nat), Paired R xs ys → Paired R (xs.eraseIdx i) (ys.eraseIdx i)
  | _, _, _, .nil => .nil
  | _, _, 0, .cons _ t => t
  | _, _, i + 1, .cons r t => .cons r (paired_erase i t)
def spShuf (K : PySem.W.Frag) : Sp := fun vs H Q _ => ∃ (p c a : Addr) (T : Int) (xs : List V) (ws : List Word), vs = [.ref p, .ref a] ∧ PenAt H p c T ∧ T ≤ 9000000 ∧ SqL K H a xs ∧ Paired (Wd K H) xs ws ∧ SmallW ws ∧ xs.length ≤ 60 ∧
  ∀ H' z ys us, Exx p H H' → PenAt H' p c (T + 60) → H z = none → H' z = some (.lst ys) → Paired (Wd K H') ys us → us.Perm ws → Q (.ref z) H'
def spPrc : Sp := fun vs H Q _ => ∃ (p c : Addr) (dear T : Int), vs = [.ref p, .int dear] ∧ PenAt H p c T ∧ T ≤ 9000000 ∧ 1 ≤ dear ∧ dear ≤ 1000000 ∧ ∀ i H', 1 ≤ i → i ≤ 1000000 → Exx p H H' → PenAt H' p c (T + 3) → Q (.int i) H'
section
variable {P : Program} {w : World} {K : PySem.W.Frag} {mg : Str → Option Value} {base : Heap}
theorem ok_shuf {f f1 : Addr} {fd fd1 : FuncData} (F : Fun K "_law_shuffled" "_law_shuffled" sShuf f fd) (F1 : Fun K "_law_draw" "_law_draw" sDraw f1 fd1) (b1 : Binds K fd1 ["_law_pen_here", "_law_many_here"] []) (g1 : mg "_law_draw" = some (.ref f1)) (B : Bi mg) :
    FnOk P w K mg base CX0 2 f fd ["_law_pen_here", "_law_bag"] (spShuf K) := by
  have G1 : FnOk P w K mg base CX0 1 f1 fd1 ["_law_pen_here", "_law_many_here"] spDraw := ok_draw F1 B
  refine F.ok scShuf (fun vs H Q E h => ?_) (fun cdv A outer s H vs Q E hr h => ?_)
  · obtain ⟨p, c, a, T, xs, ws, rfl, _⟩ := h; rfl
  · obtain ⟨p, c, a, T, xs, ws, rfl, hp, T9, ha, hxs, sm, x60, q⟩ := h
    refine ⟨_, pss_cons (ps_par (by rfl) scShuf.nd (i := 2) (j := 3) rfl rfl (by decide) rfl rfl (pa_cons (pe_callTy call_list_of (by rfl) B.list PyProof.Rows.boot_list (pa_cons (pv 1) pa_nil)) (pa_cons (pe_lst pa_nil) pa_nil)) (by rfl))
      (pss_cons (ps_while PassesOwn.never (pt_cmpR (op_neD hr.units) (pv 2) (pe_lst pa_nil) (nomark _))
        (pss_one (ps_expr (pe_bm PySem.F.plainAttrs_list PySem.F.slot_list_append PySem.F.type_list_append mt_append (pv 3)
          (pa_cons (pe_bm PySem.F.plainAttrs_list PySem.F.slot_list_pop PySem.F.type_list_pop mt_popAt (pv 2) (pa_cons (pe_call G1 hr (by rfl) g1 F1.kp b1 .nil pass0 (pa_cons (pv 0) (pa_cons (pe_callB call_len_seq (by rfl) B.len PySem.boot_len (pa_cons (pv 2) pa_nil)) pa_nil))) pa_nil)) pa_nil)))))
      (pss_one (ps_ret (pv 3)))), ?_⟩
    have xl : xs.length = ws.length := Paired.len hxs
    refine ⟨.ref a, rfl, a, xs, rfl, .inl ha, fun l nl => ?_⟩
    have e1 := Evl.Ex.new (o := .lst xs) nl
    have g1' : (upd H l (.lst xs)) l = some (.lst xs) := upd_same
    have nlp : l ≠ p := hp.new1 nl
    have nlc : l ≠ c := hp.new2 nl
    have hp1 := hp.ex e1
    generalize upd H l (.lst xs) = H1 at e1 g1' hp1
    refine ⟨Nat.zero_le _, fun z nz => ?_⟩
    have e2 := Evl.Ex.new (o := .lst []) nz
    have g2' : (upd H1 z (.lst [])) z = some (.lst []) := upd_same
    have nzp : z ≠ p := hp1.new1 nz
    have nzc : z ≠ c := hp1.new2 nz
    have nzl : z ≠ l := fun y => by rw [y, g1'] at nz; cases nz
    have nz0 : H z = none := Evl.fresh_back e1 nz
    have hp2 := hp1.ex e2
    generalize upd H1 z (.lst []) = H2 at e2 g2' hp2
    have e12 := e1.trans e2
    refine ⟨.ref l, .ref z, rfl, ?_⟩
    refine ⟨fun m σ H' => ∃ (ls fs : List V) (lw fw : List Word), σ = [some (.ref p), some (.ref a), some (.ref l), some (.ref z)] ∧ ls.length = m ∧ H' l = some (.lst ls) ∧ H' z = some (.lst fs) ∧ Paired (Wd K H') ls lw ∧ Paired (Wd K H') fs fw ∧ (fw ++ lw).Perm ws ∧ Exx p H H' ∧ PenAt H' p c (T + (fs.length : Nat)),
      ⟨xs.length, xs, [], ws, [], rfl, rfl, e2 _ _ g1', g2', Paired.imp (fun _ _ => wd_ex e12) hxs, .nil, List.Perm.refl _, Exx.ex e12, by simpa using hp2⟩, ?_⟩
    rintro m σ H3 ⟨ls, fs, lw, fw, rfl, lm, hl3, hz3, hls, hfs, pm, x3, hp3⟩
    have lsl : ls.length = lw.length := Paired.len hls
    have fsl : fs.length = fw.length := Paired.len hfs
    have tot : fw.length + lw.length = ws.length := by rw [← List.length_append]; exact pm.length_eq
    have sml : SmallW lw := fun w hw => sm w (pm.mem_iff.mp (List.mem_append_right _ hw))
    refine ⟨.ref l, rfl, Nat.zero_le _, fun e ne => ?_⟩
    have e4 := Evl.Ex.new (o := .lst []) ne
    have ge : (upd H3 e (.lst [])) e = some (.lst []) := upd_same
    generalize upd H3 e (.lst []) = H4 at e4 ge
    have hl4 := e4 _ _ hl3
    have hz4 := e4 _ _ hz3
    have hp4 := hp3.ex e4
    refine ⟨.list (lw.map dW), .list [], .lst (.inl (.inl hl4)) (dp_ws (Paired.imp (fun _ _ => wd_ex e4) hls)), .lst (.inl (.inl ge)) .nil, (fine_ws sml (by omega)).shaped (by decide), (by decide), _, rfl, ?_⟩
    cases lw with
    | nil =>
      refine iteF ?_
      have l0 : ls = [] := List.eq_nil_of_length_eq_zero (by simpa using lsl)
      refine ⟨.ref z, rfl, ?_⟩
      rw [List.append_nil] at pm
      exact q H4 z fs fw (x3.trans (Exx.ex e4)) (hp4.mono (by omega)) nz0 hz4 (Paired.imp (fun _ _ => wd_ex e4) hfs) pm
    | cons w0 lw' =>
      refine iteT ?_
      have lp : 0 < ls.length := by rw [lsl]; exact Nat.succ_pos _
      refine ⟨fun σ' H' => ∃ (ls' fs' : List V) (lw2 fw2 : List Word), σ' = [some (.ref p), some (.ref a), some (.ref l), some (.ref z)] ∧ ls'.length + 1 = m ∧ H' l = some (.lst ls') ∧ H' z = some (.lst fs') ∧ Paired (Wd K H') ls' lw2 ∧ Paired (Wd K H') fs' fw2 ∧ (fw2 ++ lw2).Perm ws ∧ Exx p H H' ∧ PenAt H' p c (T + (fs'.length : Nat)), fun σ' H' h => ?_, ?_⟩
      · obtain ⟨ls', fs', lw2, fw2, a1, a2, rest⟩ := h
        exact ⟨m - 1, by omega, ls', fs', lw2, fw2, a1, by omega, rest⟩
      · refine ⟨.ref z, rfl, .inl ⟨rfl, _, SqL.of hz4⟩, .ref l, rfl, .inl ⟨rfl, _, SqL.of hl4⟩, .ref p, rfl, .ref l, rfl, l, ls, rfl, .inl (SqL.of hl4), p, c, ((ls.length : Nat) : Int), T + (fs.length : Nat), rfl, hp4, by omega, by omega, by omega, fun i H5 i0 i1 x5 hp5 => ?_⟩
        have hl5 := x5 _ _ nlp hl4
        have hz5 := x5 _ _ nzp hz4
        have il : i.toNat < ls.length := by omega
        obtain ⟨y, hy⟩ : ∃ y, ls[i.toNat]? = some y := ⟨_, List.getElem?_eq_getElem il⟩
        have tx5 : TX K H3 H5 := (TX.ex e4).trans (hp4.tx x5)
        have hls5 : Paired (Wd K H5) ls (w0 :: lw') := Paired.imp (fun _ _ => Wd.mono tx5) hls
        have hfs5 : Paired (Wd K H5) fs fw := Paired.imp (fun _ _ => Wd.mono tx5) hfs
        obtain ⟨u, hu, huw⟩ := Paired.get1 hls5 hy
        refine ⟨l, ls, i, i.toNat, y, rfl, rfl, hl5, by omega, by omega, seqIndex_of i0 i1, hy, ?_⟩
        have hl6 : (upd H5 l (.lst (ls.eraseIdx i.toNat))) l = some (.lst (ls.eraseIdx i.toNat)) := upd_same
        have hz6 : (upd H5 l (.lst (ls.eraseIdx i.toNat))) z = some (.lst fs) := by rw [upd_ne nzl]; exact hz5
        have tx6 : TX K H5 (upd H5 l (.lst (ls.eraseIdx i.toNat))) := TX.put hl5
        have x6 : Exx p H (upd H5 l (.lst (ls.eraseIdx i.toNat))) := (x3.trans ((Exx.ex e4).trans x5)).mut nl
        have hp6 := hp5.put (o := .lst (ls.eraseIdx i.toNat)) nlp nlc
        generalize upd H5 l (.lst (ls.eraseIdx i.toNat)) = H6 at hl6 hz6 tx6 x6 hp6
        refine ⟨z, fs, y, rfl, rfl, hz6, Nat.lt_of_le_of_lt (by omega : fs.length ≤ 60) (by decide), ?_⟩
        have tx7 : TX K H6 (upd H6 z (.lst (fs ++ [y]))) := TX.put hz6
        refine ⟨ls.eraseIdx i.toNat, fs ++ [y], (w0 :: lw').eraseIdx i.toNat, fw ++ [u], rfl, ?_, by rw [upd_ne (Ne.symm nzl)]; exact hl6, upd_same, ?_, ?_, ?_, x6.mut nz0, ?_⟩
        · rw [List.length_eraseIdx, if_pos il]
          omega
        · exact Paired.imp (fun _ _ => Wd.mono (tx6.trans tx7)) (paired_erase _ hls5)
        · exact Paired.imp (fun _ _ => Wd.mono (tx6.trans tx7)) (paired_app1 hfs5 huw)
        · refine List.Perm.trans ?_ pm
          rw [List.append_assoc]
          exact List.Perm.append_left fw (erase_perm hu)
        · refine (hp6.put (o := .lst (fs ++ [y])) nzp nzc).mono ?_
          rw [List.length_append, List.length_singleton]
          omega
theorem ok_prc {f f1 f2 : Addr} {fd fd1 fd2 : FuncData} (F : Fun K "_law_price" "_law_price" sPrc f fd) (F1 : Fun K "_law_draw" "_law_draw" sDraw f1 fd1) (b1 : Binds K fd1 ["_law_pen_here", "_law_many_here"] []) (g1 : mg "_law_draw" = some (.ref f1))
    (F2 : Fun K "_law_pick" "_law_pick" sPick f2 fd2) (b2 : Binds K fd2 ["_law_pen_here", "_law_bag"] []) (g2 : mg "_law_pick" = some (.ref f2)) (B : Bi mg) : FnOk P w K mg base CX0 3 f fd ["_law_pen_here", "_law_dear"] spPrc := by
  have G1 : FnOk P w K mg base CX0 1 f1 fd1 ["_law_pen_here", "_law_many_here"] spDraw := ok_draw F1 B
  have G2 : FnOk P w K mg base CX0 2 f2 fd2 ["_law_pen_here", "_law_bag"] (spPick K) := ok_pick F2 F1 b1 g1 B
  refine F.ok scPrc (fun vs H Q E h => ?_) (fun cdv A outer s H vs Q E hr h => ?_)
  · obtain ⟨p, c, dear, T, rfl, _⟩ := h; rfl
  · obtain ⟨p, c, dear, T, rfl, hp, T9, d1, d2, q⟩ := h
    have hr1 : Room 1 _ := hr.mono (by decide)
    refine ⟨_, pss_one (ps_ret (pe_call G2 hr (by rfl) g2 F2.kp b2 .nil pass0 (pa_cons (pv 0) (pa_cons (pe_lst (pa_cons pe_int (pa_cons pe_int (pa_cons pe_int (pa_cons pe_int
      (pa_cons (pe_op op_add pe_int (pe_call G1 hr1 (by rfl) g1 F1.kp b1 .nil pass0 (pa_cons (pv 0) (pa_cons pe_int pa_nil))))
      (pa_cons (pe_op op_add pe_int (pe_call G1 hr1 (by rfl) g1 F1.kp b1 .nil pass0 (pa_cons (pv 0) (pa_cons (pv 1) pa_nil)))) pa_nil))))))) pa_nil)))), ?_⟩
    refine ⟨.ref p, rfl, .ref p, rfl, p, c, 9, _, rfl, hp, by decide, by decide, by omega, fun q1 H1 a1 a2 x1 hp1 => ⟨1, q1, rfl, rfl, ?_⟩⟩
    refine ⟨.ref p, rfl, .int dear, rfl, p, c, dear, _, rfl, hp1, d1, d2, by omega, fun q2 H2 a3 a4 x2 hp2 => ⟨1, q2, rfl, rfl, ?_⟩⟩
    refine ⟨(by show 6 ≤ sizeLine; decide), fun L hL => ?_⟩
    have nLp : L ≠ p := hp2.new1 hL
    have e3 := Evl.Ex.new (o := .lst [.int 1, .int 1, .int 2, .int 3, .int (1 + q1), .int (1 + q2)]) hL
    have gL : (upd H2 L (.lst [.int 1, .int 1, .int 2, .int 3, .int (1 + q1), .int (1 + q2)])) L = some (.lst [.int 1, .int 1, .int 2, .int 3, .int (1 + q1), .int (1 + q2)]) := upd_same
    have hp3 := hp2.ex e3
    generalize upd H2 L (.lst [.int 1, .int 1, .int 2, .int 3, .int (1 + q1), .int (1 + q2)]) = H3 at e3 gL hp3
    refine ⟨p, c, L, _, _, rfl, hp3, by omega, .inl (.inl gL), nLp, (by simp), (by show 6 ≤ 1000000; decide), fun pr H4 hpr x4 hp4 => ?_⟩
    obtain ⟨pi, rfl, pi1, pi2⟩ : ∃ pi, pr = .int pi ∧ 1 ≤ pi ∧ pi ≤ 1000000 := by
      simp only [List.mem_cons, List.not_mem_nil, or_false] at hpr
      rcases hpr with rfl | rfl | rfl | rfl | rfl | rfl
      · exact ⟨_, rfl, by decide, by decide⟩
      · exact ⟨_, rfl, by decide, by decide⟩
      · exact ⟨_, rfl, by decide, by decide⟩
      · exact ⟨_, rfl, by decide, by decide⟩
      · exact ⟨_, rfl, by omega, by omega⟩
      · exact ⟨_, rfl, by omega, by omega⟩
    exact q pi H4 pi1 pi2 (x1.trans (x2.trans ((Exx.ex e3).trans x4))) (hp4.mono (by omega))
end
end Wb

set_option Elab.async false
set_option linter.all false
set_option maxRecDepth 100000
set_option maxHeartbeats 4000000
set_option pp.maxSteps 600
set_option pp.deepTerms false
namespace Wb
open PySem PySem.Spec PyProof.Rows L2
abbrev sBases : Stmt := topS 33
abbrev sMany : Stmt := topS 35
abbrev nBases : List Str := ["_law_pen_here", "_law_counts", "_law_most", "_law_found", "_law_k", "_law_count"]
theorem scBases : FnScope nBases ["_law_pen_here", "_law_counts", "_law_most"] (defScope sBases) := ⟨rfl, rfl, rfl, by decide +kernel, rfl, by decide +kernel, by decide +kernel⟩
theorem scMany : FnScope ["_law_pen_here", "_law_low"] ["_law_pen_here", "_law_low"] (defScope sMany) := ⟨rfl, rfl, rfl, by decide +kernel, rfl, by decide +kernel, by decide +kernel⟩
theorem tasg1 {X : TE} {g : TG} {D : Ends} {σ : L2.St} {H : Hp} (h : X σ H (fun x H1 => g x σ H1 D.nx)) : tAsg X g D σ H := h
theorem tseq1 {t u : TS} {D : Ends} {σ : L2.St} {H : Hp} (h : t { D with nx := fun σ' H' => u D σ' H' } σ H) : tSeq t u D σ H := h
theorem nopart1 {σ : L2.St} {H : Hp} {F : Option Int → Hp → Prop} (h : F none H) : tNoPart σ H F := h
/-! ### parts of tuples, tuples together: a tuple of ours -/
theorem cutV_whole {xs : List V} {lo hi : Option Int} (h : HT.sIx xs.length 0 lo = 0 ∧ HT.sIx xs.length xs.length hi = xs.length) : cutV xs lo hi = xs := by
  unfold cutV
  rw [h.1, h.2, List.drop_zero, Nat.sub_zero, List.take_length]
theorem mem_cutV {xs : List V} {lo hi : Option Int} {x : V} (h : x ∈ cutV xs lo hi) : x ∈ xs := by
  unfold cutV at h
  exact List.mem_of_mem_drop (List.mem_of_mem_take h)
section
variable {K : PySem.W.Frag} {H : Hp} {Q : VK} {a b : Addr} {xs ys : List V}
theorem sl_own {lo hi : Option Int} (ha : H a = some (.tup xs)) (q : ∀ H' z, Evl.Ex H H' → H' z = some (.tup (cutV xs lo hi)) → Q (.ref z) H') : rSlA K (.ref a) lo hi H Q := by
  refine ⟨a, xs, rfl, .inl (.inl ha), fun h => ?_, fun _ t nt => ?_⟩
  · exact q H a (Evl.Ex.refl H) (by rw [cutV_whole h]; exact ha)
  · exact q _ t (Evl.Ex.new nt) upd_same
theorem cat_own (ha : H a = some (.tup xs)) (hb : H b = some (.tup ys)) (hz : xs.length + ys.length ≤ sizeLine) (q : ∀ H' z, Evl.Ex H H' → H' z = some (.tup (xs ++ ys)) → Q (.ref z) H') : rCatA K (.ref a) (.ref b) H Q := by
  refine ⟨a, b, xs, ys, rfl, rfl, .inl (.inl ha), .inl (.inl hb), hz, fun h => ?_, fun _ h => ?_, fun _ _ t nt => ?_⟩
  · exact q H b (Evl.Ex.refl H) (by rw [h]; exact hb)
  · exact q H a (Evl.Ex.refl H) (by rw [h, List.append_nil]; exact ha)
  · exact q _ t (Evl.Ex.new nt) upd_same
end
theorem eqv_ints : ∀ u w : List Int, PyData.eqvAll (u.map .int) (w.map .int) = decide (u = w)
  | [], [] => by simp [PyData.eqvAll]
  | [], y :: w => by simp [PyData.eqvAll]
  | x :: u, [] => by simp [PyData.eqvAll]
  | x :: u, y :: w => by
    simp only [List.map_cons, PyData.eqvAll, PyData.eqv, eqv_ints u w]
    by_cases h : x = y
    · subst h; simp
    · simp [h]
theorem eqv_W (u w : Word) : PyData.eqv (dW u) (dW w) = decide (u = w) := by
  unfold dW
  simp only [PyData.eqv, eqv_ints]
theorem any_W (ws : List Word) (w : Word) : ((ws.map dW).any fun z => PyData.eqv z (dW w)) = decide (w ∈ ws) := by
  rw [List.any_map, Bool.eq_iff_iff]
  simp only [List.any_eq_true, Function.comp, eqv_W, decide_eq_true_eq]
  constructor
  · rintro ⟨x, hx, rfl⟩
    exact hx
  · intro h
    exact ⟨w, h, rfl⟩
def spBases (K : PySem.W.Frag) : Sp := fun vs H Q _ => ∃ (p c W : Addr) (most T : Int) (wds : List Int), vs = [.ref p, .ref W, .int most] ∧ PenAt H p c T ∧ T ≤ 8000000 ∧ H W = some (.lst (wds.map V.int)) ∧ W ≠ p ∧ 1 ≤ most ∧ most ≤ 3 ∧ wds.length ≤ 60 ∧ (∀ x ∈ wds, 1 ≤ x ∧ x ≤ 4) ∧
  ∀ H' z bvs bases, Exx p H H' → PenAt H' p c (T + 200) → H z = none → H' z = some (.lst bvs) → Paired (Wd K H') bvs bases → bases.length ≤ 3 → (∀ u ∈ bases, InAll u wds) → Q (.ref z) H'
def spCuts (K : PySem.W.Frag) : Sp := fun vs H Q _ => ∃ (a : Addr) (m : Nat) (xs : List V) (ws : List Word), vs = [.ref a, .int (m : Nat)] ∧ SqL K H a xs ∧ Paired (Wd K H) xs ws ∧ SmallW ws ∧ ws.length ≤ 60 ∧
  ∀ H' z ys us, Evl.Ex H H' → H z = none → H' z = some (.lst ys) → Paired (Wd K H') ys us → us.Nodup → (∀ u ∈ us, ∃ w ∈ ws, u = w.take m) → us.length ≤ ws.length → Q (.ref z) H'
def spMany : Sp := fun vs H Q _ => ∃ (p c : Addr) (T : Int), vs = [.ref p, .int 1] ∧ PenAt H p c T ∧ T ≤ 9000000 ∧ ∀ i H', 1 ≤ i → i ≤ 60 → Exx p H H' → PenAt H' p c (T + 2) → Q (.int i) H'
section
variable {P : Program} {w : World} {K : PySem.W.Frag} {mg : Str → Option Value} {base : Heap}
theorem ok_bases {f f1 : Addr} {fd fd1 : FuncData} (F : Fun K "_law_bases" "_law_bases" sBases f fd) (F1 : Fun K "_law_draw" "_law_draw" sDraw f1 fd1) (b1 : Binds K fd1 ["_law_pen_here", "_law_many_here"] []) (g1 : mg "_law_draw" = some (.ref f1)) (B : Bi mg) :
    FnOk P w K mg base CX0 2 f fd ["_law_pen_here", "_law_counts", "_law_most"] (spBases K) := by
  have G1 : FnOk P w K mg base CX0 1 f1 fd1 ["_law_pen_here", "_law_many_here"] spDraw := ok_draw F1 B
  refine F.ok scBases (fun vs H Q E h => ?_) (fun cdv A outer s H vs Q E hr h => ?_)
  · obtain ⟨p, c, W, most, T, wds, rfl, _⟩ := h; rfl
  · obtain ⟨p, c, W, most, T, wds, rfl, hp, T9, hW, nWp, m1, m3, w60, hw, q⟩ := h
    refine ⟨_, pss_cons (ps_set (i := 3) scBases.nd rfl (.inl rfl) (pe_lst pa_nil))
      (pss_cons (ps_for PassesOwn.never rfl (pi_range1 (by rfl) B.range (pa_cons (pe_op op_add pe_int (pe_call G1 hr (by rfl) g1 F1.kp b1 .nil pass0 (pa_cons (pv 0) (pa_cons (pv 2) pa_nil)))) pa_nil)) (pg_name (i := 4) scBases.nd rfl (.inl rfl))
        (pss_one (ps_expr (pe_bm PySem.F.plainAttrs_list PySem.F.slot_list_append PySem.F.type_list_append mt_append (pv 3) (pa_cons
          (pe_callTy (r := rTupK K) call_tupK (by rfl) B.tuple PyProof.Rows.boot_tuple (pa_cons
            (pe_lc (own := [("_law_count", 5)]) (wi := iList K (tVar 1)) (g := gName 5) rfl scBases.nd (pi_list (pv 1)) (blkOk_by (own := [("_law_count", 5)]) (N := nBases) (sc := defScope sBases) (by decide +kernel))
              (fun _ _ _ _ _ => pg_name (i := 5) scBases.nd rfl (Or.inl rfl)) (fun _ _ _ _ _ => pts_nil)
              (fun _ _ _ _ _ => pe_call G1 hr (by rfl) g1 F1.kp b1 .nil pass0 (pa_cons (pv 0) (pa_cons (pv 5) pa_nil)))) pa_nil)) pa_nil)))))
      (pss_one (ps_ret (pv 3)))), ?_⟩
    refine ⟨Nat.zero_le _, fun z nz => ?_⟩
    have e1 := Evl.Ex.new (o := .lst []) nz
    have gz : (upd H z (.lst [])) z = some (.lst []) := upd_same
    have nzp : z ≠ p := hp.new1 nz
    have nzc : z ≠ c := hp.new2 nz
    have nzW : W ≠ z := fun y => by rw [← y, hW] at nz; cases nz
    have hp1 := hp.ex e1
    generalize upd H z (.lst []) = H1 at e1 gz hp1
    refine ⟨.ref p, rfl, .int most, rfl, p, c, most, _, rfl, hp1, m1, by omega, by omega, fun r H2 r0 r1 x2 hp2 => ⟨1, r, rfl, rfl, _, rfl, by omega, by omega, ?_⟩⟩
    have hw1 : ∀ x ∈ wds, 1 ≤ x ∧ x ≤ 1000000 := fun x hx => by have := hw x hx; omega
    refine for_range (lo := 0) (n := (1 + r).toNat) (fun i σ H' => ∃ (bvs : List V) (bases : List Word) (y4 y5 : Option V), σ = [some (.ref p), some (.ref W), some (.int most), some (.ref z), y4, y5] ∧ Exx p H H' ∧ PenAt H' p c (T + 1 + 60 * (i : Nat)) ∧ H' W = some (.lst (wds.map V.int)) ∧ H' z = some (.lst bvs) ∧ Paired (Wd K H') bvs bases ∧ bases.length ≤ i ∧ ∀ u ∈ bases, InAll u wds)
      ⟨[], [], none, none, rfl, (Exx.ex e1).trans x2, by simpa using hp2, x2 _ _ nWp (e1 _ _ hW), x2 _ _ nzp gz, .nil, Nat.le_refl _, fun u hu => (by cases hu)⟩ ?_ ?_
    · rintro i σ H3 hi ⟨bvs, bases, y4, y5, rfl, x3, hp3, hW3, hz3, hbv, bl, hb⟩
      refine ⟨.ref z, rfl, .inl ⟨rfl, _, SqL.of hz3⟩, ?_⟩
      refine tcons1 ?_
      refine tcb1 ?_
      refine lc_draws (K := K) (vs := [5]) (i := 5) (wds := wds) (p := p) (c := c) hp3 ?_ (by omega) hw1 (by omega) ?_ ?_ ?_ ?_
      · exact fun Q' h => ⟨.ref W, rfl, h W H3 (Exx.refl p H3) hp3 (.inl (.inl hW3)) nWp⟩
      · exact fun _ => rfl
      · exact fun _ => rfl
      · exact fun _ => rfl
      intro H4 D xs x4 hp4 nD hD hin
      refine ⟨D, _, rfl, .inl ⟨.inl (.inl hD), fun t nt => ?_⟩⟩
      have e5 := Evl.Ex.new (o := .tup (xs.map V.int)) nt
      have gt : (upd H4 t (.tup (xs.map V.int))) t = some (.tup (xs.map V.int)) := upd_same
      have hp5 := hp4.ex e5
      generalize upd H4 t (.tup (xs.map V.int)) = H5 at e5 gt hp5
      have hz5 := e5 _ _ (x4 _ _ nzp hz3)
      have hW5 := e5 _ _ (x4 _ _ nWp hW3)
      have bvl : bvs.length = bases.length := Paired.len hbv
      have tx5 : TX K H3 H5 := (hp3.tx x4).trans (TX.ex e5)
      refine ⟨z, bvs, _, rfl, rfl, hz5, Nat.lt_of_le_of_lt (by omega : bvs.length ≤ 3) (by decide), ?_⟩
      refine ⟨bvs ++ [.ref t], bases ++ [xs], _, _, rfl, (x3.trans (x4.trans (Exx.ex e5))).mut nz, (hp5.put nzp nzc).mono (by omega), by rw [upd_ne nzW]; exact hW5, upd_same, ?_, by rw [List.length_append, List.length_singleton]; omega, ?_⟩
      · exact Paired.imp (fun _ _ => Wd.mono (TX.put hz5)) (paired_app1 (Paired.imp (fun _ _ => Wd.mono tx5) hbv) ⟨t, rfl, gt⟩)
      · intro u hu
        rcases List.mem_append.mp hu with h | h
        · exact hb u h
        · rw [List.mem_singleton.mp h]; exact hin
    · rintro σ H3 ⟨bvs, bases, y4, y5, rfl, x3, hp3, hW3, hz3, hbv, bl, hb⟩
      exact ⟨.ref z, rfl, q H3 z bvs bases x3 (hp3.mono (by omega)) nz hz3 hbv (by omega) hb⟩
theorem ok_cuts {f : Addr} {fd : FuncData} (F : Fun K "_law_cuts" "_law_cuts" sCuts f fd) : FnOk P w K mg base CX0 1 f fd ["_law_words", "_law_many_here"] (spCuts K) := by
  refine F.ok scCuts (fun vs H Q E h => ?_) (fun cdv A outer s H vs Q E hr h => ?_)
  · obtain ⟨a, m, xs, ws, rfl, _⟩ := h; rfl
  · obtain ⟨a, m, xs, ws, rfl, ha, hxs, sm, w60, q⟩ := h
    have hu65 : A.units + 3 + 65 < cLine := by
      have := hr.un
      have : (A.deeper (envOfC "_law_cuts" (defScope sCuts) s.heap.objs.size f cdv)).units = A.units + 3 := rfl
      omega
    refine ⟨_, pss_cons (ps_set (i := 2) scCuts.nd rfl (.inl rfl) (pe_lst pa_nil))
      (pss_cons (ps_for PassesOwn.never rfl (pi_list (pv 0)) (pg_name (i := 3) scCuts.nd rfl (.inl rfl))
        (pss_one (ps_if (pt_cmpR (op_notInD hu65) (pe_slice (r := rSlA K) sl_tupA (pv 3) po_none (po_some (pv 1))) (pv 2) rfl)
          (pss_one (ps_expr (pe_bm PySem.F.plainAttrs_list PySem.F.slot_list_append PySem.F.type_list_append mt_append (pv 2) (pa_cons (pe_slice (r := rSlA K) sl_tupA (pv 3) po_none (po_some (pv 1))) pa_nil)))) pss_nil)))
      (pss_one (ps_ret (pv 2)))), ?_⟩
    have xl : xs.length = ws.length := Paired.len hxs
    refine ⟨Nat.zero_le _, fun z nz => ?_⟩
    have e1 := Evl.Ex.new (o := .lst []) nz
    have gz : (upd H z (.lst [])) z = some (.lst []) := upd_same
    generalize upd H z (.lst []) = H1 at e1 gz
    have nza : ∀ ys, SqL K H a ys → True := fun _ _ => trivial
    refine ⟨.ref a, rfl, a, rfl, ⟨xs, Evl.ex_l e1 ha⟩, ?_⟩
    refine for_list (K := K) (a := a) (xs := xs) (fun i σ H' => ∃ (ys : List V) (us : List Word) (y3 : Option V), σ = [some (.ref a), some (.int (m : Nat)), some (.ref z), y3] ∧ Evl.Ex H H' ∧ H' z = some (.lst ys) ∧ Paired (Wd K H') ys us ∧ us.Nodup ∧ (∀ u ∈ us, ∃ w ∈ ws, u = w.take m) ∧ us.length ≤ i)
      ⟨[], [], none, rfl, e1, gz, .nil, List.nodup_nil, fun u hu => (by cases hu), Nat.le_refl _⟩ ?_ ?_ ?_
    · rintro i σ H2 _ ⟨_, _, _, _, e2, _⟩
      exact Evl.ex_l e2 ha
    · rintro i x σ H2 hx ⟨ys, us, y3, rfl, e2, hz2, hys, nd, hus, ul⟩
      obtain ⟨w0, hw0, hxw⟩ := Paired.get1 hxs hx
      obtain ⟨ax, rfl, hax⟩ := hxw
      have hw0m := List.mem_of_getElem? hw0
      have il : i < ws.length := (List.getElem?_eq_some_iff.mp hw0).1
      have ysl : ys.length = us.length := Paired.len hys
      refine ⟨.ref ax, rfl, .int (m : Nat), rfl, (m : Nat), rfl, ?_⟩
      refine sl_own (K := K) (lo := none) (hi := some (m : Nat)) (e2 _ _ hax) fun H3 z3 e3 s3 => ?_
      rw [cut_take, ← List.map_take] at s3
      have smu : SmallW us := fun u hu => by
        obtain ⟨w', hw', rfl⟩ := hus u hu
        obtain ⟨h1, h2⟩ := sm w' hw'
        exact ⟨by rw [List.length_take]; omega, fun x hx => h2 x (List.mem_of_mem_take hx)⟩
      have smt : SmallW [w0.take m] := fun u hu => by
        rw [List.mem_singleton.mp hu]
        obtain ⟨h1, h2⟩ := sm w0 hw0m
        exact ⟨by rw [List.length_take]; omega, fun x hx => h2 x (List.mem_of_mem_take hx)⟩
      have ft : Fine (dW (w0.take m)) 1 603 := fine_W (B := 10) (n := 60) (smt _ (by simp)).2 (by decide) (smt _ (by simp)).1
      have hys3 : Paired (Wd K H3) ys us := Paired.imp (fun _ _ => wd_ex e3) hys
      refine ⟨.ref z, rfl, dW (w0.take m), us.map dW, dp_W ⟨z3, rfl, s3⟩, .lst (.inl (.inl (e3 _ _ hz2))) (dp_ws hys3), ft.shaped (by decide), (fine_ws smu (by omega)).shaped (by decide), _, rfl, ?_⟩
      rw [any_W]
      refine ite2 (fun hc => ?_) (fun _ => ?_)
      · have hn : w0.take m ∉ us := fun z => by
          rw [decide_eq_true z] at hc
          cases hc
        have hz3 := e3 _ _ hz2
        refine ⟨.ref z, rfl, .inl ⟨rfl, _, SqL.of hz3⟩, .ref ax, rfl, .int (m : Nat), rfl, (m : Nat), rfl, ?_⟩
        refine sl_own (K := K) (lo := none) (hi := some (m : Nat)) ((e2.trans e3) _ _ hax) fun H4 z4 e4 s4 => ?_
        rw [cut_take, ← List.map_take] at s4
        have hz4 := e4 _ _ hz3
        refine ⟨z, ys, _, rfl, rfl, hz4, Nat.lt_of_le_of_lt (by omega : ys.length ≤ 60) (by decide), ?_⟩
        refine ⟨ys ++ [.ref z4], us ++ [w0.take m], _, rfl, (e2.trans (e3.trans e4)).mut nz, upd_same, ?_, ?_, ?_, by rw [List.length_append, List.length_singleton]; omega⟩
        · exact Paired.imp (fun _ _ => Wd.mono (TX.put hz4)) (paired_app1 (Paired.imp (fun _ _ => wd_ex e4) hys3) ⟨z4, rfl, s4⟩)
        · rw [List.nodup_append]
          refine ⟨nd, by simp, fun a ha b hb => ?_⟩
          rw [List.mem_singleton.mp hb]
          exact fun e => hn (e ▸ ha)
        · intro u hu
          rcases List.mem_append.mp hu with h | h
          · exact hus u h
          · exact ⟨w0, hw0m, List.mem_singleton.mp h⟩
      · exact ⟨ys, us, _, rfl, e2.trans e3, e3 _ _ hz2, hys3, nd, hus, by omega⟩
    · rintro σ H2 ⟨ys, us, y3, rfl, e2, hz2, hys, nd, hus, ul⟩
      exact ⟨.ref z, rfl, q H2 z ys us e2 nz hz2 hys nd hus (by omega)⟩
theorem ok_many {f f1 : Addr} {fd fd1 : FuncData} (F : Fun K "_law_many" "_law_many" sMany f fd) (F1 : Fun K "_law_draw" "_law_draw" sDraw f1 fd1) (b1 : Binds K fd1 ["_law_pen_here", "_law_many_here"] []) (g1 : mg "_law_draw" = some (.ref f1)) (B : Bi mg) :
    FnOk P w K mg base CX0 2 f fd ["_law_pen_here", "_law_low"] spMany := by
  have G1 : FnOk P w K mg base CX0 1 f1 fd1 ["_law_pen_here", "_law_many_here"] spDraw := ok_draw F1 B
  refine F.ok scMany (fun vs H Q E h => ?_) (fun cdv A outer s H vs Q E hr h => ?_)
  · obtain ⟨p, c, T, rfl, _⟩ := h; rfl
  · obtain ⟨p, c, T, rfl, hp, T9, q⟩ := h
    refine ⟨_, pss_one (ps_ret (pe_op op_add (pv 1) (pe_call G1 hr (by rfl) g1 F1.kp b1 .nil pass0 (pa_cons (pv 0) (pa_cons (pe_ix ix_list (pe_lst (pa_cons (pe_op op_sub pe_int (pv 1)) (pa_cons (pe_op op_sub pe_int (pv 1)) (pa_cons (pe_op op_sub pe_int (pv 1)) (pa_cons (pe_op op_sub pe_int (pv 1)) pa_nil)))))
      (pe_call G1 hr (by rfl) g1 F1.kp b1 .nil pass0 (pa_cons (pv 0) (pa_cons pe_int pa_nil))) (fun _ _ => rfl)) pa_nil))))), ?_⟩
    refine ⟨.int 1, rfl, .ref p, rfl, .int 1, rfl, 8, 1, rfl, rfl, .int 1, rfl, 8, 1, rfl, rfl, .int 1, rfl, 8, 1, rfl, rfl, .int 1, rfl, 61, 1, rfl, rfl, (by show 4 ≤ sizeLine; decide), fun L nL => ?_⟩
    have e1 := Evl.Ex.new (o := .lst [.int (8 - 1), .int (8 - 1), .int (8 - 1), .int (61 - 1)]) nL
    have gL : (upd H L (.lst [.int (8 - 1), .int (8 - 1), .int (8 - 1), .int (61 - 1)])) L = some (.lst [.int (8 - 1), .int (8 - 1), .int (8 - 1), .int (61 - 1)]) := upd_same
    have nLp : L ≠ p := hp.new1 nL
    have hp1 := hp.ex e1
    generalize upd H L (.lst [.int (8 - 1), .int (8 - 1), .int (8 - 1), .int (61 - 1)]) = H1 at e1 gL hp1
    refine ⟨.ref p, rfl, p, c, 4, _, rfl, hp1, by decide, by decide, by omega, fun r H2 r0 r1 x2 hp2 => ?_⟩
    have gL2 := x2 _ _ nLp gL
    obtain ⟨y, hy, y1, y60⟩ : ∃ y : Int, atI [V.int (8 - 1), .int (8 - 1), .int (8 - 1), .int (61 - 1)] r = some (.int y) ∧ 1 ≤ y ∧ y ≤ 60 := by
      have : r = 0 ∨ r = 1 ∨ r = 2 ∨ r = 3 := by omega
      rcases this with rfl | rfl | rfl | rfl
      · exact ⟨_, atI_nat (j := 0) rfl, by decide, by decide⟩
      · exact ⟨_, atI_nat (j := 1) rfl, by decide, by decide⟩
      · exact ⟨_, atI_nat (j := 2) rfl, by decide, by decide⟩
      · exact ⟨_, atI_nat (j := 3) rfl, by decide, by decide⟩
    refine ⟨L, _, r, .int y, rfl, rfl, .inl (.inl gL2), hy, ?_⟩
    refine ⟨p, c, y, _, rfl, hp2, y1, by omega, by omega, fun d H3 d0 d1 x3 hp3 => ?_⟩
    exact ⟨1, d, rfl, rfl, q (1 + d) H3 (by omega) (by omega) ((Exx.ex e1).trans (x2.trans x3)) (hp3.mono (by omega))⟩
end
end Wb

set_option Elab.async false
set_option linter.all false
set_option maxRecDepth 100000
set_option maxHeartbeats 4000000
set_option pp.maxSteps 600
set_option pp.deepTerms false
namespace Wb
open PySem PySem.Spec PyProof.Rows L2
abbrev sGaps : Stmt := topS 36
abbrev nGaps : List Str := ["_law_pen_here", "_law_count", "_law_words", "_law_dear", "_law_pairs", "_law_found", "_law_left", "_law_here", "_law_there", "_law_bag"]
theorem scGaps : FnScope nGaps ["_law_pen_here", "_law_count", "_law_words", "_law_dear"] (defScope sGaps) := ⟨rfl, rfl, rfl, by decide +kernel, rfl, by decide +kernel, by decide +kernel⟩
/-- gaps as they are drawn: left so many ways of eight -/
structure DrawnU (wide : Int) (ws : List Word) (gs : List Gap) (left : Int) : Prop where
  each : ∀ g ∈ gs, (0 ≤ g.frm ∧ g.frm < wide) ∧ (0 ≤ g.to_ ∧ g.to_ < wide) ∧ g.frm ≠ g.to_ ∧ (1 ≤ g.price ∧ g.price ≤ 1000000) ∧ g.ways.Pairwise (fun u w => HT.lexLt u w = true) ∧ ∀ w ∈ g.ways, w ∈ ws
  sum : (((gs.map (fun g => g.ways.length)).sum : Nat) : Int) + left = 8
  left0 : 0 ≤ left
structure Drawn (wide : Int) (ws : List Word) (gs : List Gap) (left : Int) : Prop extends DrawnU wide ws gs left where
  rise : gs.Pairwise (fun g h => lexLt2 g.frm g.to_ h.frm h.to_)
def gKey (g : Gap) : Word := [g.frm, g.to_]
/-- a gap's own tuple -/
def FoundAt (H : Hp) (x : V) (g : Gap) : Prop := ∃ (t : Addr) (q : Int) (y : V), x = .ref t ∧ H t = some (.tup [.int g.frm, .int g.to_, .int q, y])
/-! ### a lock whose tuples are all tracked as such -/
def GapS (K : PySem.W.Frag) (H : Hp) (v : V) (g : Gap) : Prop := ∃ a b ws, v = .ref a ∧ H a = some (.tup [.int g.frm, .int g.to_, .int g.price, .ref b]) ∧ H b = some (.tup ws) ∧ Paired (Wd K H) ws g.ways
def BoltS (K : PySem.W.Frag) (H : Hp) (v : V) (b : Bolt) : Prop := ∃ a c gs, v = .ref a ∧ H a = some (.tup [.int b.many, .ref c]) ∧ H c = some (.tup gs) ∧ Paired (GapS K H) gs b.gaps
def LockS (K : PySem.W.Frag) (H : Hp) (v : V) (l : Lock) : Prop := ∃ a bs, v = .ref a ∧ H a = some (.tup bs) ∧ Paired (BoltS K H) bs l
section
variable {K : PySem.W.Frag} {H H' : Hp} {v : V}
theorem GapS.mono (e : TX K H H') {g : Gap} (h : GapS K H v g) : GapS K H' v g := by
  obtain ⟨a, b, ws, r, q1, q2, q3⟩ := h
  exact ⟨a, b, ws, r, e.2 _ _ q1, e.2 _ _ q2, Paired.imp (fun _ _ => Wd.mono e) q3⟩
theorem BoltS.mono (e : TX K H H') {b : Bolt} (h : BoltS K H v b) : BoltS K H' v b := by
  obtain ⟨a, c, gs, r, q1, q2, q3⟩ := h
  exact ⟨a, c, gs, r, e.2 _ _ q1, e.2 _ _ q2, Paired.imp (fun _ _ => GapS.mono e) q3⟩
theorem LockS.mono (e : TX K H H') {l : Lock} (h : LockS K H v l) : LockS K H' v l := by
  obtain ⟨a, bs, r, q1, q2⟩ := h
  exact ⟨a, bs, r, e.2 _ _ q1, Paired.imp (fun _ _ => BoltS.mono e) q2⟩
theorem GapS.at_ {g : Gap} (h : GapS K H v g) : GapAt K H v g := by
  obtain ⟨a, b, ws, r, q1, q2, q3⟩ := h
  exact ⟨a, b, ws, r, .inl (.inl q1), .inl (.inl q2), q3⟩
theorem BoltS.at_ {b : Bolt} (h : BoltS K H v b) : BoltAt K H v b := by
  obtain ⟨a, c, gs, r, q1, q2, q3⟩ := h
  exact ⟨a, c, gs, r, .inl (.inl q1), .inl (.inl q2), Paired.imp (fun _ _ => GapS.at_) q3⟩
theorem LockS.at_ {l : Lock} (h : LockS K H v l) : LockAt K H v l := by
  obtain ⟨a, bs, r, q1, q2⟩ := h
  exact ⟨a, bs, r, .inl (.inl q1), Paired.imp (fun _ _ => BoltS.at_) q2⟩
end
def GF (K : PySem.W.Frag) (H : Hp) (x : V) (g : Gap) : Prop := GapS K H x g ∧ FoundAt H x g
theorem GF.mono {K : PySem.W.Frag} {H H' : Hp} (e : TX K H H') {x : V} {g : Gap} (h : GF K H x g) : GF K H' x g := by
  obtain ⟨h1, t, q, y, rfl, h2⟩ := h
  exact ⟨GapS.mono e h1, t, q, y, rfl, e.2 _ _ h2⟩
def kH (H : Hp) : V → Int × Int
  | .ref t => (match H t with
    | some (.tup (.int i :: .int j :: _)) => (i, j)
    | _ => (0, 0))
  | _ => (0, 0)
theorem kH_of {H : Hp} {x : V} {g : Gap} (h : FoundAt H x g) : kH H x = (g.frm, g.to_) := by
  obtain ⟨t, q, y, rfl, ht⟩ := h
  simp only [kH, ht]
theorem paired_perm {α β : Type} {R : α → β → Prop} {xs xs' : List α} (h : xs'.Perm xs) : ∀ {ys : List β}, Paired R xs ys → ∃ ys', ys'.Perm ys ∧ Paired R xs' ys' := by
  induction h with
  | nil => intro ys p; cases p; exact ⟨[], List.Perm.refl _, .nil⟩
  | cons x _ ih =>
    intro ys p
    cases p with
    | cons r t =>
      obtain ⟨ys', h1, h2⟩ := ih t
      exact ⟨_, h1.cons _, .cons r h2⟩
  | swap x y l =>
    intro ys p
    cases p with
    | cons r t =>
      cases t with
      | cons r2 t2 => exact ⟨_, List.Perm.swap _ _ _, .cons r2 (.cons r t2)⟩
  | trans _ _ ih1 ih2 =>
    intro ys p
    obtain ⟨ys2, a1, a2⟩ := ih2 p
    obtain ⟨ys3, b1, b2⟩ := ih1 a2
    exact ⟨ys3, b1.trans a1, b2⟩
theorem lex_pairwise {ws us : List Word} {d : Nat} (pm : us.Perm ws) (nd : ws.Nodup) (hb : ∀ w ∈ ws, w.length = d ∧ TS.Bd 4 w) (pw : us.Pairwise (fun u v => TS.code 4 u ≤ TS.code 4 v)) : us.Pairwise (fun u w => HT.lexLt u w = true) := by
  have ndu : us.Nodup := pm.nodup_iff.mpr nd
  rw [List.pairwise_iff_getElem]
  intro i j hi hj hij
  have ne := List.pairwise_iff_getElem.mp ndu i j hi hj hij
  have cd := List.pairwise_iff_getElem.mp pw i j hi hj hij
  obtain ⟨a1, a2⟩ := hb us[i] (pm.mem_iff.mp (List.getElem_mem hi))
  obtain ⟨a3, a4⟩ := hb us[j] (pm.mem_iff.mp (List.getElem_mem hj))
  exact lex_of_code (by omega) a2 a4 cd ne
def spGaps (K : PySem.W.Frag) : Sp := fun vs H Q _ => ∃ (p c wl : Addr) (wide dear T : Int) (us : List V) (ws : List Word) (d : Nat), vs = [.ref p, .int wide, .ref wl, .int dear] ∧ PenAt H p c T ∧ T ≤ 8000000 ∧ 2 ≤ wide ∧ wide ≤ 4 ∧ 1 ≤ dear ∧ dear ≤ 1000000 ∧ wl ≠ p ∧
  H wl = some (.lst us) ∧ Paired (Wd K H) us ws ∧ ws.length ≤ 8 ∧ ws.Nodup ∧ d ≤ 60 ∧ (∀ w ∈ ws, w.length = d ∧ TS.Bd 4 w) ∧
  ∀ H' a gvs gs left, Exx p H H' → PenAt H' p c (T + 2000) → H' a = some (.tup gvs) → Paired (GapS K H') gvs gs → Drawn wide ws gs left → Q (.ref a) H'
section
variable {P : Program} {w : World} {K : PySem.W.Frag} {mg : Str → Option Value} {base : Heap}
theorem ok_gaps {f f1 f2 f3 f4 : Addr} {fd fd1 fd2 fd3 fd4 : FuncData} (F : Fun K "_law_gaps" "_law_gaps" sGaps f fd) (F1 : Fun K "_law_draw" "_law_draw" sDraw f1 fd1) (b1 : Binds K fd1 ["_law_pen_here", "_law_many_here"] []) (g1 : mg "_law_draw" = some (.ref f1))
    (F2 : Fun K "_law_pick" "_law_pick" sPick f2 fd2) (b2 : Binds K fd2 ["_law_pen_here", "_law_bag"] []) (g2 : mg "_law_pick" = some (.ref f2))
    (F3 : Fun K "_law_shuffled" "_law_shuffled" sShuf f3 fd3) (b3 : Binds K fd3 ["_law_pen_here", "_law_bag"] []) (g3 : mg "_law_shuffled" = some (.ref f3))
    (F4 : Fun K "_law_price" "_law_price" sPrc f4 fd4) (b4 : Binds K fd4 ["_law_pen_here", "_law_dear"] []) (g4 : mg "_law_price" = some (.ref f4)) (B : Bi mg) :
    FnOk P w K mg base CX0 4 f fd ["_law_pen_here", "_law_count", "_law_words", "_law_dear"] (spGaps K) := by
  have G1 : FnOk P w K mg base CX0 1 f1 fd1 ["_law_pen_here", "_law_many_here"] spDraw := ok_draw F1 B
  have G2 : FnOk P w K mg base CX0 2 f2 fd2 ["_law_pen_here", "_law_bag"] (spPick K) := ok_pick F2 F1 b1 g1 B
  have G3 : FnOk P w K mg base CX0 2 f3 fd3 ["_law_pen_here", "_law_bag"] (spShuf K) := ok_shuf F3 F1 b1 g1 B
  have G4 : FnOk P w K mg base CX0 3 f4 fd4 ["_law_pen_here", "_law_dear"] spPrc := ok_prc F4 F1 b1 g1 F2 b2 g2 B
  refine F.ok scGaps (fun vs H Q E h => ?_) (fun cdv A outer s H vs Q E hr h => ?_)
  · obtain ⟨p, c, wl, wide, dear, T, us, ws, d, rfl, _⟩ := h; rfl
  · obtain ⟨p, c, wl, wide, dear, T, us, ws, d, rfl, hp, T8, w2, w4, d1, d2, nwp, hwl, hws, w8, wnd, d60, hbd, q⟩ := h
    have hr1 : Room 1 _ := hr.mono (by decide)
    have hr2 : Room 2 _ := hr.mono (by decide)
    refine ⟨_, pss_cons (ps_par3 (by rfl) scGaps.nd (i := 4) (j := 5) (l := 6) rfl rfl rfl (by decide) (by decide) (by decide) rfl rfl rfl (pa_cons (pe_lst pa_nil) (pa_cons (pe_lst pa_nil) (pa_cons pe_int pa_nil))) (by rfl))
      (pss_cons (ps_for PassesOwn.never rfl (pi_range1 (by rfl) B.range (pa_cons (pv 1) pa_nil)) (pg_name (i := 7) scGaps.nd rfl (.inr rfl))
        (pss_one (ps_set (i := 4) scGaps.nd rfl (.inl rfl) (pe_op op_cat (pv 4) (pe_lc (own := [("_law_there", 8)]) (g := gName 8) rfl scGaps.nd (pi_range1 (by rfl) B.range (pa_cons (pv 1) pa_nil)) (blkOk_by (own := [("_law_there", 8)]) (N := nGaps) (sc := defScope sGaps) (by decide +kernel))
            (fun _ _ _ _ _ => pg_name (i := 8) scGaps.nd rfl (Or.inl rfl)) (fun _ _ _ _ _ => pts_one (pt_cmpR op_ne (pv 8) (pv 7) (nomark _)))
            (fun _ _ _ _ _ => pe_tup (pa_cons (pv 7) (pa_cons (pv 8) pa_nil))))))))
      (pss_cons (ps_for PassesOwn.never rfl (pi_list (pe_call G3 hr2 (by rfl) g3 F3.kp b3 .nil pass0 (pa_cons (pv 0) (pa_cons (pv 4) pa_nil)))) (pg_tup rfl (pgs_cons (pg_name (i := 7) scGaps.nd rfl (.inr rfl)) (pgs_cons (pg_name (i := 8) scGaps.nd rfl (.inl rfl)) pgs_nil)))
        (pss_one (ps_if (pt_cmpR op_gt (pe_call G1 hr1 (by rfl) g1 F1.kp b1 .nil pass0 (pa_cons (pv 0) (pa_cons pe_int pa_nil))) pe_int (nomark _))
          (pss_cons (ps_set (i := 9) scGaps.nd rfl (.inl rfl) (pe_slice sl_list (pe_callB cr_sortW (by rfl) B.sorted boot_sorted (pa_cons (pe_slice sl_list (pe_call G3 hr2 (by rfl) g3 F3.kp b3 .nil pass0 (pa_cons (pv 0) (pa_cons (pv 2) pa_nil))) po_none
              (po_some (pe_call G2 hr2 (by rfl) g2 F2.kp b2 .nil pass0 (pa_cons (pv 0) (pa_cons (pe_lst (pa_cons pe_int (pa_cons pe_int (pa_cons pe_int (pa_cons pe_int (pa_cons pe_int pa_nil)))))) pa_nil))))) pa_nil)) po_none (po_some (pv 6))))
          (pss_cons (ps_set (i := 6) scGaps.nd rfl (.inl rfl) (pe_op op_sub (pv 6) (pe_callB call_len_seq (by rfl) B.len PySem.boot_len (pa_cons (pv 9) pa_nil))))
          (pss_one (ps_expr (pe_bm PySem.F.plainAttrs_list PySem.F.slot_list_append PySem.F.type_list_append mt_append (pv 5) (pa_cons (pe_tup (pa_cons (pv 7) (pa_cons (pv 8) (pa_cons (pe_call G4 hr (by rfl) g4 F4.kp b4 .nil pass0 (pa_cons (pv 0) (pa_cons (pv 3) pa_nil)))
              (pa_cons (pe_callTy call_tuple_of (by rfl) B.tuple PyProof.Rows.boot_tuple (pa_cons (pv 9) pa_nil)) pa_nil))))) pa_nil)))))) pss_nil)))
      (pss_one (ps_ret (pe_callTy call_tuple_of (by rfl) B.tuple PyProof.Rows.boot_tuple (pa_cons (pe_callB cr_sortG (by rfl) B.sorted boot_sorted (pa_cons (pv 5) pa_nil)) pa_nil)))))), ?_⟩
    have ul : us.length = ws.length := Paired.len hws
    have smw : SmallW ws := fun u hu => by
      obtain ⟨h1, h2⟩ := hbd u hu
      exact ⟨by omega, fun x hx => by have := h2 x hx; omega⟩
    refine ⟨Nat.zero_le _, fun pl0 npl0 => ⟨Nat.zero_le _, fun fl nfl => ?_⟩⟩
    have e1 := Evl.Ex.new (o := .lst []) npl0
    have gp1 : (upd H pl0 (.lst [])) pl0 = some (.lst []) := upd_same
    generalize upd H pl0 (.lst []) = H1 at nfl e1 gp1
    have e2 := Evl.Ex.new (o := .lst []) nfl
    have gf2 : (upd H1 fl (.lst [])) fl = some (.lst []) := upd_same
    generalize upd H1 fl (.lst []) = H3 at e2 gf2
    have e13 := e1.trans e2
    have gp3 := e2 _ _ gp1
    have gf3 := gf2
    have hp3 := hp.ex e13
    have nfl0 : H fl = none := Evl.fresh_back e1 nfl
    have nflp : fl ≠ p := fun z => hp.here (z ▸ nfl0)
    have nflc : fl ≠ c := (hp.ex e1).new2 nfl
    refine ⟨.ref pl0, .ref fl, .int 8, rfl, ?_⟩
    -- the pairs
    refine ⟨.int wide, rfl, wide, rfl, by omega, by omega, ?_⟩
    refine for_range (lo := 0) (n := wide.toNat) (fun i σ H' => ∃ (pl : Addr) (pvs : List V) (ps : List Word) (y7 y8 y9 : Option V), σ = [some (.ref p), some (.int wide), some (.ref wl), some (.int dear), some (.ref pl), some (.ref fl), some (.int 8), y7, y8, y9] ∧ Evl.Ex H3 H' ∧ H' pl = some (.lst pvs) ∧ Paired (Wd K H') pvs ps ∧ ps.Nodup ∧ ps.length ≤ 4 * i ∧ ∀ u ∈ ps, ∃ a b : Int, u = [a, b] ∧ a ≠ b ∧ 0 ≤ a ∧ a < (i : Int) ∧ 0 ≤ b ∧ b < wide)
      ⟨pl0, [], [], none, none, none, rfl, Evl.Ex.refl _, gp3, .nil, List.nodup_nil, Nat.le_refl _, fun u hu => (by cases hu)⟩ ?_ ?_
    · rintro i σ H4 hi ⟨pl, pvs, ps, y7, y8, y9, rfl, e4, hpl4, hpv4, pnd, pln, hps⟩
      have ei : (0 : Int) + (i : Nat) = (i : Int) := by omega
      rw [ei]
      refine ⟨.ref pl, rfl, ?_⟩
      refine ⟨.int wide, rfl, wide, rfl, by omega, by omega, fun D hD => ?_⟩
      refine lc_range (lo := 0) (n := wide.toNat) (fun m H' => ∃ (rvs : List V) (rs : List Word), Evl.Ex H4 H' ∧ H' D = some (.lst rvs) ∧ Paired (Wd K H') rvs rs ∧ rs.Nodup ∧ rs.length ≤ m ∧ ∀ u ∈ rs, ∃ b : Int, u = [(i : Int), b] ∧ (i : Int) ≠ b ∧ 0 ≤ b ∧ b < (m : Int))
        ⟨[], [], Evl.Ex.new hD, upd_same, .nil, List.nodup_nil, Nat.le_refl _, fun u hu => (by cases hu)⟩ ?_ ?_
      · rintro m H5 hm ⟨rvs, rs, e5, hD5, hrv, rnd, rl, hrs⟩
        have em : (0 : Int) + (m : Nat) = (m : Int) := by omega
        rw [em]
        refine ⟨rfl, ?_⟩
        refine ⟨.int (m : Nat), rfl, .int (i : Nat), rfl, rfl, _, rfl, ?_⟩
        have step : ∀ u ∈ rs, ∃ b : Int, u = [(i : Int), b] ∧ (i : Int) ≠ b ∧ 0 ≤ b ∧ b < ((m + 1 : Nat) : Int) := fun u hu => by
          obtain ⟨b, e, n, b0, b1⟩ := hrs u hu
          exact ⟨b, e, n, b0, by omega⟩
        refine ite2 (fun hc => ?_) (fun _ => ⟨rvs, rs, e5, hD5, hrv, rnd, by omega, step⟩)
        have ne : (i : Int) ≠ (m : Int) := fun z => by
          rw [z] at hc
          simp at hc
        refine ⟨.int (i : Nat), rfl, .int (m : Nat), rfl, (by show 2 ≤ sizeLine; decide), fun t nt => ?_⟩
        have e6 := Evl.Ex.new (o := .tup [.int (i : Nat), .int (m : Nat)]) nt
        have g6 : (upd H5 t (.tup [.int (i : Nat), .int (m : Nat)])) t = some (.tup ([(i : Int), (m : Int)].map V.int)) := upd_same
        generalize upd H5 t (.tup [.int (i : Nat), .int (m : Nat)]) = H6 at e6 g6
        have hD6 := e6 _ _ hD5
        have rvl : rvs.length = rs.length := Paired.len hrv
        refine ⟨_, hD6, Nat.lt_of_le_of_lt (by omega : rvs.length ≤ 4) (by decide), rvs ++ [.ref t], rs ++ [[(i : Int), (m : Int)]], (e5.trans e6).mut hD, upd_same, ?_, ?_, by rw [List.length_append, List.length_singleton]; omega, ?_⟩
        · exact Paired.imp (fun _ _ => Wd.mono (TX.put hD6)) (paired_app1 (Paired.imp (fun _ _ => wd_ex e6) hrv) ⟨t, rfl, g6⟩)
        · rw [List.nodup_append]
          refine ⟨rnd, by simp, fun a ha b hb => ?_⟩
          rw [List.mem_singleton.mp hb]
          obtain ⟨b', rfl, _, _, b1⟩ := hrs a ha
          intro z
          injection z with _ z
          injection z with z _
          omega
        · intro u hu
          rcases List.mem_append.mp hu with h | h
          · exact step u h
          · exact ⟨m, List.mem_singleton.mp h, ne, by omega, by omega⟩
      · rintro H5 ⟨rvs, rs, e5, hD5, hrv, rnd, rl, hrs⟩
        have rvl : rvs.length = rs.length := Paired.len hrv
        have pvl : pvs.length = ps.length := Paired.len hpv4
        refine ⟨pl, D, _, _, rfl, rfl, e5 _ _ hpl4, hD5, Nat.le_trans (by omega : pvs.length + rvs.length ≤ 20) (by decide), fun pl2 npl2 => ?_⟩
        have e6 := Evl.Ex.new (o := .lst (pvs ++ rvs)) npl2
        refine ⟨pl2, pvs ++ rvs, ps ++ rs, _, _, _, rfl, e4.trans (e5.trans e6), upd_same, Paired.app (Paired.imp (fun _ _ => wd_ex (e5.trans e6)) hpv4) (Paired.imp (fun _ _ => wd_ex e6) hrv), ?_, by rw [List.length_append]; omega, ?_⟩
        · rw [List.nodup_append]
          refine ⟨pnd, rnd, fun a ha b hb => ?_⟩
          obtain ⟨a1, a2, rfl, _, _, a3, _⟩ := hps a ha
          obtain ⟨b', rfl, _⟩ := hrs b hb
          intro z
          injection z with z _
          omega
        · intro u hu
          rcases List.mem_append.mp hu with h | h
          · obtain ⟨a, b, e, n, a0, a1, b0, b1⟩ := hps u h
            exact ⟨a, b, e, n, a0, by omega, b0, b1⟩
          · obtain ⟨b, e, n, b0, b1⟩ := hrs u h
            exact ⟨i, b, e, n, by omega, by omega, b0, by omega⟩
    · rintro σ H4 ⟨pl, pvs, ps, y7, y8, y9, rfl, e4, hpl4, hpv4, pnd, pln, hps⟩
      have e04 := e13.trans e4
      have hp4 := hp3.ex e4
      have pvl : pvs.length = ps.length := Paired.len hpv4
      have smp : SmallW ps := fun u hu => by
        obtain ⟨a, b, rfl, _, a0, a1, b0, b1⟩ := hps u hu
        refine ⟨by simp, fun x hx => ?_⟩
        simp only [List.mem_cons, List.not_mem_nil, or_false] at hx
        rcases hx with rfl | rfl
        · omega
        · omega
      refine ⟨.ref p, rfl, .ref pl, rfl, p, c, pl, T, pvs, ps, rfl, hp4, by omega, SqL.of hpl4, hpv4, smp, by omega, fun H5 z sv su x5 hp5 nz hz hsv pm => ?_⟩
      have nzp : z ≠ p := hp4.new1 nz
      have snd : su.Nodup := pm.nodup_iff.mpr pnd
      have svl : sv.length = su.length := Paired.len hsv
      have sul : su.length ≤ 16 := by have := pm.length_eq; omega
      have x05 : Exx p H H5 := (Exx.ex e04).trans x5
      have gf5 := x5 _ _ nflp (e4 _ _ gf3)
      have hwl5 := x05 _ _ nwp hwl
      have hws5 : Paired (Wd K H5) us ws := Paired.imp (fun _ _ => Wd.mono (hp.tx x05)) hws
      refine ⟨z, rfl, ⟨sv, SqL.of hz⟩, ?_⟩
      have nfz : fl ≠ z := fun y => by rw [← y, e4 _ _ gf3] at nz; cases nz
      have nfw : fl ≠ wl := fun y => by rw [← y, nfl0] at hwl; cases hwl
      refine for_list (K := K) (a := z) (xs := sv) (fun i σ H' => ∃ (gvs : List V) (gs : List Gap) (left : Int) (y7 y8 y9 : Option V), σ = [some (.ref p), some (.int wide), some (.ref wl), some (.int dear), some (.ref pl), some (.ref fl), some (.int left), y7, y8, y9] ∧ Exx p H H' ∧ PenAt H' p c (T + 60 + 100 * (i : Nat)) ∧ H' z = some (.lst sv) ∧ Paired (Wd K H') sv su ∧ H' wl = some (.lst us) ∧ Paired (Wd K H') us ws ∧
          H' fl = some (.lst gvs) ∧ Paired (GF K H') gvs gs ∧ DrawnU wide ws gs left ∧ (gs.map gKey).Sublist (su.take i))
        ⟨[], [], 8, _, _, _, rfl, x05, by simpa using hp5, hz, hsv, hwl5, hws5, gf5, .nil, ⟨fun g hg => (by cases hg), by decide, by decide⟩, List.nil_sublist _⟩ ?_ ?_ ?_
      · rintro i σ H' _ ⟨_, _, _, _, _, _, _, _, _, h, _⟩
        exact SqL.of h
      · rintro i x σ H6 hx ⟨gvs, gs, left, y7, y8, y9, rfl, x6, hp6, hz6, hsv6, hwl6, hws6, hf6, hg6, hd6, sub6⟩
        obtain ⟨u0, hu0, hxw⟩ := Paired.get1 hsv6 hx
        obtain ⟨tx, rfl, htx⟩ := hxw
        have il : i < su.length := (List.getElem?_eq_some_iff.mp hu0).1
        obtain ⟨h0, t0, rfl, hne, h00, h01, t00, t01⟩ := hps u0 (pm.mem_iff.mp (List.mem_of_getElem? hu0))
        have h01' : h0 < wide := by omega
        have gvl : gvs.length = gs.length := Paired.len hg6
        have gsl : gs.length ≤ i := by
          have := sub6.length_le
          rw [List.length_map, List.length_take] at this
          omega
        refine ⟨tx, _, rfl, .inl (.inl htx), rfl, _, _, rfl, _, _, rfl, rfl, ?_⟩
        refine ⟨.ref p, rfl, p, c, 5, _, rfl, hp6, by decide, by decide, by omega, fun r H7 _ _ x7 hp7 => ?_⟩
        refine ⟨r, 0, rfl, rfl, _, rfl, ?_⟩
        have subS : (gs.map gKey).Sublist (su.take (i + 1)) := by
          rw [take_succ_get hu0]
          exact sub6.trans (List.sublist_append_left _ _)
        have tx7 := hp6.tx (K := K) x7
        refine ite2 (fun _ => ?_) (fun _ => ?_)
        · have hwl7 := x7 _ _ nwp hwl6
          have hws7 : Paired (Wd K H7) us ws := Paired.imp (fun _ _ => Wd.mono tx7) hws6
          have hf7 := x7 _ _ nflp hf6
          have hz7 := x7 _ _ nzp hz6
          refine ⟨.ref p, rfl, .ref wl, rfl, p, c, wl, _, us, ws, rfl, hp7, by omega, SqL.of hwl7, hws7, smw, by omega, fun H8 z8 bv bu x8 hp8 nz8 hz8 hbv bpm => ?_⟩
          have nz8p : z8 ≠ p := hp7.new1 nz8
          have bvl : bv.length = bu.length := Paired.len hbv
          have bul : bu.length = ws.length := bpm.length_eq
          have bnd : bu.Nodup := bpm.nodup_iff.mpr wnd
          -- how many
          refine ⟨.ref p, rfl, (by show 5 ≤ sizeLine; decide), fun L nL => ?_⟩
          have e9 := Evl.Ex.new (o := .lst [.int 1, .int 1, .int 2, .int 2, .int 0]) nL
          have gL : (upd H8 L (.lst [.int 1, .int 1, .int 2, .int 2, .int 0])) L = some (.lst [.int 1, .int 1, .int 2, .int 2, .int 0]) := upd_same
          have nLp : L ≠ p := hp8.new1 nL
          have hp9 := hp8.ex e9
          generalize upd H8 L (.lst [.int 1, .int 1, .int 2, .int 2, .int 0]) = H9 at e9 gL hp9
          refine ⟨p, c, L, _, _, rfl, hp9, by omega, .inl (.inl gL), nLp, (by simp), (by show 5 ≤ 1000000; decide), fun mv H10 hmv x10 hp10 => ?_⟩
          obtain ⟨m, rfl⟩ : ∃ m : Nat, mv = .int (m : Nat) := by
            simp only [List.mem_cons, List.not_mem_nil, or_false] at hmv
            rcases hmv with rfl | rfl | rfl | rfl | rfl
            · exact ⟨1, rfl⟩
            · exact ⟨1, rfl⟩
            · exact ⟨2, rfl⟩
            · exact ⟨2, rfl⟩
            · exact ⟨0, rfl⟩
          have x810 : Exx p H8 H10 := (Exx.ex e9).trans x10
          have hz10 := x810 _ _ nz8p hz8
          have hbv10 : Paired (Wd K H10) bv bu := Paired.imp (fun _ _ => Wd.mono (hp8.tx x810)) hbv
          refine ⟨(m : Nat), rfl, z8, bv, rfl, SqL.of hz10, fun S nS => ?_⟩
          rw [cut_take]
          have e11 := Evl.Ex.new (o := .lst (bv.take m)) nS
          have gS : (upd H10 S (.lst (bv.take m))) S = some (.lst (bv.take m)) := upd_same
          have hp11 := hp10.ex e11
          generalize upd H10 S (.lst (bv.take m)) = H11 at e11 gS hp11
          have hbt : Paired (Wd K H11) (bv.take m) (bu.take m) := Paired.takeN m (Paired.imp (fun _ _ => wd_ex e11) hbv10)
          have sbt : ∀ w ∈ bu.take m, w ∈ ws := fun w hw => bpm.mem_iff.mp (List.mem_of_mem_take hw)
          have tnd : (bu.take m).Nodup := (List.take_sublist m bu).nodup bnd
          have tl : (bv.take m).length ≤ 8 := by rw [List.length_take]; omega
          refine ⟨S, bv.take m, bu.take m, d, rfl, SqL.of gS, by omega, hbt, fun w hw => hbd w (sbt w hw), tnd, fun ov ou O ol hov opm opw nO => ?_⟩
          have e12 := Evl.Ex.new (o := .lst ov) nO
          have gO : (upd H11 O (.lst ov)) O = some (.lst ov) := upd_same
          have hp12 := hp11.ex e12
          generalize upd H11 O (.lst ov) = H12 at e12 gO hp12
          have ovu : ov.length = ou.length := Paired.len hov
          have left0 := hd6.left0
          obtain ⟨ln, hln⟩ : ∃ ln : Nat, left = (ln : Int) := ⟨left.toNat, by omega⟩
          subst hln
          refine ⟨.int (ln : Nat), rfl, (ln : Nat), rfl, O, ov, rfl, SqL.of gO, fun B9 nB9 => ?_⟩
          rw [cut_take]
          have e13' := Evl.Ex.new (o := .lst (ov.take ln)) nB9
          have gB : (upd H12 B9 (.lst (ov.take ln))) B9 = some (.lst (ov.take ln)) := upd_same
          have hp13 := hp12.ex e13'
          generalize upd H12 B9 (.lst (ov.take ln)) = H13 at e13' gB hp13
          have nB9p : B9 ≠ p := hp12.new1 nB9
          refine ⟨.int (ln : Nat), rfl, .ref B9, rfl, B9, _, rfl, .inl (SqL.of gB), (ln : Int), _, rfl, rfl, ?_⟩
          have hbag : Paired (Wd K H13) (ov.take ln) (ou.take ln) := Paired.takeN ln (Paired.imp (fun _ _ => wd_ex (e12.trans e13')) hov)
          have x713 : Exx p H7 H13 := x8.trans (x810.trans (Exx.ex (e11.trans (e12.trans e13'))))
          have hf13 := x713 _ _ nflp hf7
          -- the gap
          refine ⟨.ref fl, rfl, .inl ⟨rfl, _, SqL.of hf13⟩, .int h0, rfl, .int t0, rfl, ?_⟩
          refine ⟨.ref p, rfl, .int dear, rfl, p, c, dear, _, rfl, hp13, by omega, d1, d2, fun pr H14 pr1 pr2 x14 hp14 => ?_⟩
          have gB14 := x14 _ _ nB9p gB
          refine ⟨.ref B9, rfl, B9, _, rfl, .inl ⟨.inl (.inl gB14), fun W nW => ?_⟩⟩
          have e15 := Evl.Ex.new (o := .tup (ov.take ln)) nW
          have gW : (upd H14 W (.tup (ov.take ln))) W = some (.tup (ov.take ln)) := upd_same
          have hp15 := hp14.ex e15
          generalize upd H14 W (.tup (ov.take ln)) = H15 at e15 gW hp15
          refine ⟨(by show 4 ≤ sizeLine; decide), fun G nG => ?_⟩
          have e16 := Evl.Ex.new (o := .tup [.int h0, .int t0, .int pr, .ref W]) nG
          have gG : (upd H15 G (.tup [.int h0, .int t0, .int pr, .ref W])) G = some (.tup [.int h0, .int t0, .int pr, .ref W]) := upd_same
          have hp16 := hp15.ex e16
          generalize upd H15 G (.tup [.int h0, .int t0, .int pr, .ref W]) = H16 at e16 gG hp16
          have x1316 : Exx p H13 H16 := x14.trans (Exx.ex (e15.trans e16))
          have x716 := x713.trans x1316
          have x616 : Exx p H6 H16 := x7.trans x716
          have tx616 := hp6.tx (K := K) x616
          have hf16 := x616 _ _ nflp hf6
          refine ⟨fl, gvs, _, rfl, rfl, hf16, Nat.lt_of_le_of_lt (by omega : gvs.length ≤ 16) (by decide), ?_⟩
          let g : Gap := ⟨h0, t0, pr, ou.take ln⟩
          have txp : TX K H16 (upd H16 fl (.lst (gvs ++ [.ref G]))) := TX.put hf16
          have hbag16 : Paired (Wd K H16) (ov.take ln) (ou.take ln) := Paired.imp (fun _ _ => Wd.mono (hp13.tx x1316)) hbag
          have gAt : GF K H16 (.ref G) g := ⟨⟨G, W, ov.take ln, rfl, gG, e16 _ _ gW, hbag16⟩, G, pr, .ref W, rfl, gG⟩
          have otl : (ov.take ln).length = (ou.take ln).length := Paired.len hbag16
          refine ⟨gvs ++ [.ref G], gs ++ [g], (ln : Int) - ((ov.take ln).length : Int), _, _, _, rfl, (x6.trans x616).mut nfl0, (hp16.put nflp nflc).mono (by omega), by rw [upd_ne (Ne.symm nfz)]; exact x616 _ _ nzp hz6, Paired.imp (fun _ _ => Wd.mono (tx616.trans txp)) hsv6, by rw [upd_ne (Ne.symm nfw)]; exact x616 _ _ nwp hwl6, Paired.imp (fun _ _ => Wd.mono (tx616.trans txp)) hws6, upd_same, ?_, ⟨?_, ?_, ?_⟩, ?_⟩
          · exact Paired.imp (fun _ _ => GF.mono txp) (paired_app1 (Paired.imp (fun _ _ => GF.mono tx616) hg6) gAt)
          · intro g' hg'
            rcases List.mem_append.mp hg' with h | h
            · exact hd6.each g' h
            · rw [List.mem_singleton.mp h]
              refine ⟨⟨h00, h01'⟩, ⟨t00, t01⟩, hne, ⟨pr1, pr2⟩, ?_, ?_⟩
              · exact (lex_pairwise opm tnd (fun w hw => hbd w (sbt w hw)) opw).sublist (List.take_sublist ln ou)
              · exact fun w hw => sbt w (opm.mem_iff.mp (List.mem_of_mem_take hw))
          · have h := hd6.sum
            rw [List.map_append, List.sum_append, otl]
            simp only [List.map_cons, List.map_nil, List.sum_cons, List.sum_nil]
            show ((((gs.map (fun g => g.ways.length)).sum + ((ou.take ln).length + 0) : Nat)) : Int) + ((ln : Int) - ((ou.take ln).length : Int)) = 8
            omega
          · have : (ov.take ln).length ≤ ln := by rw [List.length_take]; exact Nat.min_le_left _ _
            omega
          · rw [take_succ_get hu0, List.map_append]
            exact List.Sublist.append sub6 (List.Sublist.refl _)
        · exact ⟨gvs, gs, left, _, _, _, rfl, x6.trans x7, hp7.mono (by omega), x7 _ _ nzp hz6, Paired.imp (fun _ _ => Wd.mono tx7) hsv6, x7 _ _ nwp hwl6, Paired.imp (fun _ _ => Wd.mono tx7) hws6, x7 _ _ nflp hf6, Paired.imp (fun _ _ => GF.mono tx7) hg6, hd6, subS⟩
      · rintro σ H6 ⟨gvs, gs, left, y7, y8, y9, rfl, x6, hp6, hz6, hsv6, hwl6, hws6, hf6, hg6, hd6, sub6⟩
        rw [svl, List.take_length] at sub6
        have gvl : gvs.length = gs.length := Paired.len hg6
        have gsl : gs.length ≤ 16 := by
          have := sub6.length_le
          rw [List.length_map] at this
          omega
        have gnd : (gs.map gKey).Nodup := sub6.nodup snd
        have kx : ∀ x ∈ gvs, ∃ g ∈ gs, GF K H6 x g ∧ kH H6 x = (g.frm, g.to_) := fun x hx => by
          obtain ⟨i, hi⟩ := List.mem_iff_getElem?.mp hx
          obtain ⟨g, hg, hgf⟩ := Paired.get1 hg6 hi
          exact ⟨g, List.mem_of_getElem? hg, hgf, kH_of hgf.2⟩
        refine ⟨.ref fl, rfl, fl, gvs, kH H6, rfl, SqL.of hf6, by omega, fun x hx => ?_, fun x hx y hy e => ?_, fun ys O pmy pw nO => ?_⟩
        · obtain ⟨g, hg, ⟨_, t, q0, y0, rfl, ht⟩, hk⟩ := kx x hx
          obtain ⟨⟨a1, a2⟩, ⟨a3, a4⟩, _⟩ := hd6.each g hg
          refine ⟨t, q0, y0, rfl, ?_, ?_⟩
          · rw [hk]
            exact .inl (.inl ht)
          · rw [hk]
            exact ⟨a1, by show g.frm < 4; omega, a3, by show g.to_ < 4; omega⟩
        · obtain ⟨i, hi⟩ := List.mem_iff_getElem?.mp hx
          obtain ⟨j, hj⟩ := List.mem_iff_getElem?.mp hy
          obtain ⟨g, hg, hgf⟩ := Paired.get1 hg6 hi
          obtain ⟨g', hg', hgf'⟩ := Paired.get1 hg6 hj
          rw [kH_of hgf.2, kH_of hgf'.2] at e
          have ek : gKey g = gKey g' := by
            have q1 : g.frm = g'.frm := congrArg Prod.fst e
            have q2 : g.to_ = g'.to_ := congrArg Prod.snd e
            unfold gKey
            rw [q1, q2]
          have e1 : (gs.map gKey)[i]? = some (gKey g) := by rw [List.getElem?_map, hg]; rfl
          have e2 : (gs.map gKey)[j]? = some (gKey g) := by rw [List.getElem?_map, hg', ek]; rfl
          have il := (List.getElem?_eq_some_iff.mp e1).1
          have ij : i = j := (List.getElem?_inj il gnd).mp (e1.trans e2.symm)
          subst ij
          rw [hi] at hj
          exact Option.some.inj hj
        · obtain ⟨gs2, gpm, hgy⟩ := paired_perm pmy hg6
          have e7 := Evl.Ex.new (o := .lst ys) nO
          have gO : (upd H6 O (.lst ys)) O = some (.lst ys) := upd_same
          have hp7 := hp6.ex e7
          generalize upd H6 O (.lst ys) = H7 at e7 gO hp7
          refine ⟨O, ys, rfl, .inl ⟨.inl (.inl gO), fun t nt => ?_⟩⟩
          have e8 := Evl.Ex.new (o := .tup ys) nt
          have gt : (upd H7 t (.tup ys)) t = some (.tup ys) := upd_same
          have hp8 := hp7.ex e8
          generalize upd H7 t (.tup ys) = H8 at e8 gt hp8
          refine q H8 t ys gs2 left (x6.trans (Exx.ex (e7.trans e8))) (hp8.mono (by omega)) gt (Paired.imp (fun _ _ h => GapS.mono (TX.ex (e7.trans e8)) h.1) hgy) ⟨⟨fun g hg => hd6.each g (gpm.mem_iff.mp hg), ?_, hd6.left0⟩, ?_⟩
          · rw [(gpm.map (fun g => g.ways.length)).sum_nat]
            exact hd6.sum
          · have nd2 : (gs2.map gKey).Nodup := (gpm.map gKey).nodup_iff.mpr gnd
            rw [List.pairwise_iff_getElem]
            intro i j hi hj hij
            have ysl : ys.length = gs2.length := Paired.len hgy
            obtain ⟨gi, hgi, fi⟩ := Paired.get1 hgy (List.getElem?_eq_getElem (show i < ys.length by omega))
            obtain ⟨gj, hgj, fj⟩ := Paired.get1 hgy (List.getElem?_eq_getElem (show j < ys.length by omega))
            have c := List.pairwise_iff_getElem.mp pw i j (by omega) (by omega) hij
            rw [kH_of fi.2, kH_of fj.2] at c
            have ei : gs2[i] = gi := by rw [List.getElem?_eq_getElem hi] at hgi; exact Option.some.inj hgi
            have ej : gs2[j] = gj := by rw [List.getElem?_eq_getElem hj] at hgj; exact Option.some.inj hgj
            have ne := List.pairwise_iff_getElem.mp nd2 i j (by rw [List.length_map]; exact hi) (by rw [List.length_map]; exact hj) hij
            rw [List.getElem_map, List.getElem_map, ei, ej] at ne
            rw [ei, ej]
            obtain ⟨⟨a1, a2⟩, ⟨a3, a4⟩, _⟩ := hd6.each gi (gpm.mem_iff.mp (by rw [← ei]; exact List.getElem_mem hi))
            obtain ⟨⟨b1, b2⟩, ⟨b3, b4⟩, _⟩ := hd6.each gj (gpm.mem_iff.mp (by rw [← ej]; exact List.getElem_mem hj))
            unfold TS.rk4 at c
            have c' : 4 * gi.frm + gi.to_ ≤ 4 * gj.frm + gj.to_ := c
            unfold gKey at ne
            have ne' : ¬ (gi.frm = gj.frm ∧ gi.to_ = gj.to_) := fun z => ne (by rw [z.1, z.2])
            unfold lexLt2
            omega
end
end Wb

set_option Elab.async false
set_option linter.all false
set_option maxRecDepth 100000
set_option maxHeartbeats 4000000
set_option pp.maxSteps 600
set_option pp.deepTerms false
namespace Wb
open PySem PySem.Spec PyProof.Rows L2
abbrev sLock : Stmt := topS 37
abbrev nLock : List Str := ["_law_pen_here", "_law_many_here", "_law_top", "_law_dear", "_law_k", "_law_counts", "_law_bolts", "_law_spare", "_law_bases_here", "_law_words", "_law_count"]
theorem scLock : FnScope nLock ["_law_pen_here", "_law_many_here", "_law_top", "_law_dear"] (defScope sLock) := ⟨rfl, rfl, rfl, by decide +kernel, rfl, by decide +kernel, by decide +kernel⟩
/-! ### locks as they are drawn -/
structure BGood (wds : List Int) (srcs : List Word) (k : Nat) (b : Bolt) : Prop where
  many : wds[k]? = some b.many
  ex : ∃ ws left, Drawn b.many ws b.gaps left ∧ ∀ w ∈ ws, InAll w (wds.take k) ∧ ∃ s ∈ srcs, w = s.take k
theorem BGood.mono {wds : List Int} {srcs srcs' : List Word} {k : Nat} {b : Bolt} (h : BGood wds srcs k b) (hs : ∀ s ∈ srcs, s ∈ srcs') : BGood wds srcs' k b := by
  obtain ⟨m, ws, left, a, d⟩ := h
  refine ⟨m, ws, left, a, fun w hw => ?_⟩
  obtain ⟨h1, s, h2, h3⟩ := d w hw
  exact ⟨h1, s, hs s h2, h3⟩
theorem lockOk_drawn {wds : List Int} {srcs : List Word} {l : Lock} (hl : l.length = wds.length) (h0 : 1 ≤ l.length) (h60 : l.length ≤ 60) (hw : ∀ x ∈ wds, 2 ≤ x ∧ x ≤ 4) (hs : srcs.length ≤ 8)
    (hb : ∀ k b, l[k]? = some b → BGood wds srcs k b) : LockOk l := by
  have mk : ∀ k, k ≤ l.length → manysOf (l.take k) = wds.take k := by
    intro k hk
    apply List.ext_getElem?
    intro i
    unfold manysOf
    rw [List.getElem?_map, List.getElem?_take, List.getElem?_take]
    by_cases hi : i < k
    · rw [if_pos hi, if_pos hi]
      have hil : i < l.length := by omega
      rw [List.getElem?_eq_getElem hil]
      rw [(hb i l[i] (List.getElem?_eq_getElem hil)).many]
      rfl
    · rw [if_neg hi, if_neg hi]
      rfl
  refine ⟨h0, h60, fun k b hk => ?_, fun k ws hk hn hc => ?_⟩
  · have kl : k < l.length := (List.getElem?_eq_some_iff.mp hk).1
    obtain ⟨hm, ws, left, hd, hws⟩ := hb k b hk
    rw [mk k (Nat.le_of_lt kl)]
    have hm2 := hw _ (List.mem_of_getElem? hm)
    have sum8 : (b.gaps.map (fun g => g.ways.length)).sum ≤ 8 := by
      have h1 := hd.sum
      have h2 := hd.left0
      omega
    refine ⟨hm2.1, hm2.2, fun g hg => ?_, hd.rise, sum8⟩
    obtain ⟨⟨a1, a2⟩, ⟨a3, a4⟩, a5, ⟨a6, a7⟩, a8, a9⟩ := hd.each g hg
    have g8 : g.ways.length ≤ 8 := by
      have : g.ways.length ≤ (b.gaps.map (fun g => g.ways.length)).sum := le_sum (List.mem_map.mpr ⟨g, hg, rfl⟩)
      omega
    refine ⟨a1, a2, a3, a4, a5, a6, a7, g8, fun w' hw' => ?_, a8⟩
    have := (hws w' (a9 w' hw')).1
    exact ⟨this.1, this.2⟩
  · have : ws.length ≤ (srcs.map (fun s => s.take k)).length := by
      refine nodup_le hn fun w' hw' => ?_
      obtain ⟨j, b, g, u, hj, hbj, hg, hu, rfl⟩ := hc w' hw'
      obtain ⟨_, ws', left, hd, hws⟩ := hb j b hbj
      obtain ⟨_, s, hs', rfl⟩ := hws u ((hd.each g hg).2.2.2.2.2 u hu)
      refine List.mem_map.mpr ⟨s, hs', ?_⟩
      rw [List.take_take, Nat.min_eq_left hj]
    rw [List.length_map] at this
    omega

def spLock (K : PySem.W.Frag) : Sp := fun vs H Q _ => ∃ (p c : Addr) (many dear T : Int), vs = [.ref p, .int many, .int 4, .int dear] ∧ PenAt H p c T ∧ T ≤ 7000000 ∧ 1 ≤ many ∧ many ≤ 60 ∧ 1 ≤ dear ∧ dear ≤ 1000000 ∧
  ∀ H' v l, Exx p H H' → PenAt H' p c (T + 160000) → LockS K H' v l → LockOk l → (l.length : Int) = many → Q v H'
theorem small_in {wds : List Int} {u : Word} (h : InAll u wds) (hl : wds.length ≤ 60) (hw : ∀ x ∈ wds, 2 ≤ x ∧ x ≤ 4) : u.length ≤ 60 ∧ ∀ x ∈ u, 0 ≤ x ∧ x < 4 := by
  refine ⟨by have := h.1; omega, fun x hx => ?_⟩
  obtain ⟨j, hj, rfl⟩ := List.getElem_of_mem hx
  have hjk : j < wds.length := by have := h.1; omega
  have := h.2 j _ _ (List.getElem?_eq_getElem hj) (List.getElem?_eq_getElem hjk)
  have h4 := hw wds[j] (List.getElem_mem hjk)
  omega
section
variable {P : Program} {w : World} {K : PySem.W.Frag} {mg : Str → Option Value} {base : Heap}
theorem ok_lock {f f1 f2 f3 f4 f5 f6 f7 : Addr} {fd fd1 fd2 fd3 fd4 fd5 fd6 fd7 : FuncData} (F : Fun K "_law_lock" "_law_lock" sLock f fd) (F1 : Fun K "_law_draw" "_law_draw" sDraw f1 fd1) (b1 : Binds K fd1 ["_law_pen_here", "_law_many_here"] []) (g1 : mg "_law_draw" = some (.ref f1))
    (F2 : Fun K "_law_pick" "_law_pick" sPick f2 fd2) (b2 : Binds K fd2 ["_law_pen_here", "_law_bag"] []) (g2 : mg "_law_pick" = some (.ref f2))
    (F3 : Fun K "_law_shuffled" "_law_shuffled" sShuf f3 fd3) (b3 : Binds K fd3 ["_law_pen_here", "_law_bag"] []) (g3 : mg "_law_shuffled" = some (.ref f3))
    (F4 : Fun K "_law_price" "_law_price" sPrc f4 fd4) (b4 : Binds K fd4 ["_law_pen_here", "_law_dear"] []) (g4 : mg "_law_price" = some (.ref f4))
    (F5 : Fun K "_law_bases" "_law_bases" sBases f5 fd5) (b5 : Binds K fd5 ["_law_pen_here", "_law_counts", "_law_most"] []) (g5 : mg "_law_bases" = some (.ref f5))
    (F6 : Fun K "_law_cuts" "_law_cuts" sCuts f6 fd6) (b6 : Binds K fd6 ["_law_words", "_law_many_here"] []) (g6 : mg "_law_cuts" = some (.ref f6))
    (F7 : Fun K "_law_gaps" "_law_gaps" sGaps f7 fd7) (b7 : Binds K fd7 ["_law_pen_here", "_law_count", "_law_words", "_law_dear"] []) (g7 : mg "_law_gaps" = some (.ref f7)) (B : Bi mg) :
    FnOk P w K mg base CX0 5 f fd ["_law_pen_here", "_law_many_here", "_law_top", "_law_dear"] (spLock K) := by
  have G1 : FnOk P w K mg base CX0 1 f1 fd1 ["_law_pen_here", "_law_many_here"] spDraw := ok_draw F1 B
  have G5 : FnOk P w K mg base CX0 2 f5 fd5 ["_law_pen_here", "_law_counts", "_law_most"] (spBases K) := ok_bases F5 F1 b1 g1 B
  have G6 : FnOk P w K mg base CX0 1 f6 fd6 ["_law_words", "_law_many_here"] (spCuts K) := ok_cuts F6
  have G7 : FnOk P w K mg base CX0 4 f7 fd7 ["_law_pen_here", "_law_count", "_law_words", "_law_dear"] (spGaps K) := ok_gaps F7 F1 b1 g1 F2 b2 g2 F3 b3 g3 F4 b4 g4 B
  refine F.ok scLock (fun vs H Q E h => ?_) (fun cdv A outer s H vs Q E hr h => ?_)
  · obtain ⟨p, c, many, dear, T, rfl, _⟩ := h; rfl
  · obtain ⟨p, c, many, dear, T, rfl, hp, T8, m1, m60, dd1, dd2, q⟩ := h
    have hr1 : Room 1 _ := hr.mono (by decide)
    have hr2 : Room 2 _ := hr.mono (by decide)
    refine ⟨_, pss_cons (ps_par3 (by rfl) scLock.nd (i := 5) (j := 6) (l := 7) rfl rfl rfl (by decide) (by decide) (by decide) rfl rfl rfl (pa_cons (pe_lc (own := [("_law_k", 4)]) (g := gName 4) rfl scLock.nd (pi_range1 (by rfl) B.range (pa_cons (pv 1) pa_nil)) (blkOk_by (own := [("_law_k", 4)]) (N := nLock) (sc := defScope sLock) (by decide +kernel)) (fun _ _ _ _ _ => pg_name (i := 4) scLock.nd rfl (Or.inl rfl)) (fun _ _ _ _ _ => pts_nil) (fun _ _ _ _ _ => pe_op op_add pe_int (pe_call G1 hr1 (by rfl) g1 F1.kp b1 .nil pass0 (pa_cons (pv 0) (pa_cons (pe_op op_sub (pv 2) pe_int) pa_nil))))) (pa_cons (pe_lst pa_nil) (pa_cons pe_int pa_nil))) (by rfl))
      (pss_cons (ps_set (i := 8) scLock.nd rfl (.inl rfl) (pe_call G5 hr2 (by rfl) g5 F5.kp b5 .nil pass0 (pa_cons (pv 0) (pa_cons (pv 5) (pa_cons pe_int pa_nil)))))
      (pss_cons (ps_for PassesOwn.never rfl (pi_range1 (by rfl) B.range (pa_cons (pv 1) pa_nil)) (pg_name (i := 4) scLock.nd rfl (.inl rfl))
        (pss_cons (ps_set (i := 9) scLock.nd rfl (.inl rfl) (pe_call G6 hr1 (by rfl) g6 F6.kp b6 .nil pass0 (pa_cons (pv 8) (pa_cons (pv 4) pa_nil))))
        (Evl.pss_cut (ps_if (PW.pt (pw_and (pt_cmpR op_gt (pv 4) pe_int (nomark _)) (pw_and (pt_cmpR op_gt (pv 7) pe_int (nomark _)) (pw_and1 (pt_cmpR op_eq (pe_call G1 hr1 (by rfl) g1 F1.kp b1 .nil pass0 (pa_cons (pv 0) (pa_cons pe_int pa_nil))) pe_int (nomark _))))))
            (pss_cons (ps_set (i := 9) scLock.nd rfl (.inl rfl) (pe_call G6 hr1 (by rfl) g6 F6.kp b6 .nil pass0 (pa_cons (pe_op op_cat (pv 9) (pe_lst (pa_cons (pe_callTy (r := rTupK K) call_tupK (by rfl) B.tuple PyProof.Rows.boot_tuple (pa_cons
                (pe_lc (own := [("_law_count", 10)]) (g := gName 10) rfl scLock.nd (pi_list (pe_slice sl_list (pv 5) po_none (po_some (pv 4)))) (blkOk_by (own := [("_law_count", 10)]) (N := nLock) (sc := defScope sLock) (by decide +kernel))
                  (fun _ _ _ _ _ => pg_name (i := 10) scLock.nd rfl (Or.inl rfl)) (fun _ _ _ _ _ => pts_nil)
                  (fun _ _ _ _ _ => pe_call G1 hr1 (by rfl) g1 F1.kp b1 .nil pass0 (pa_cons (pv 0) (pa_cons (pv 10) pa_nil)))) pa_nil)) pa_nil))) (pa_cons (pv 4) pa_nil))))
            (pss_one (ps_set (i := 7) scLock.nd rfl (.inl rfl) (pe_op op_sub (pv 7) pe_int)))) pss_nil)
        (pss_one (ps_expr (pe_bm PySem.F.plainAttrs_list PySem.F.slot_list_append PySem.F.type_list_append mt_append (pv 6) (pa_cons
          (pe_tup (pa_cons (pe_ix ix_list (pv 5) (pv 4) (fun _ _ => rfl)) (pa_cons (pe_call G7 hr (by rfl) g7 F7.kp b7 .nil pass0 (pa_cons (pv 0) (pa_cons (pe_ix ix_list (pv 5) (pv 4) (fun _ _ => rfl)) (pa_cons (pv 9) (pa_cons (pv 3) pa_nil))))) pa_nil))) pa_nil)))))))
      (pss_one (ps_ret (pe_callTy (r := rTupK K) call_tupK (by rfl) B.tuple PyProof.Rows.boot_tuple (pa_cons (pv 6) pa_nil)))))), ?_⟩
    refine ⟨.int many, rfl, many, rfl, by omega, by omega, fun W nW => ?_⟩
    have nWp : W ≠ p := hp.new1 nW
    have nWc : W ≠ c := hp.new2 nW
    refine lc_range (lo := 0) (n := many.toNat) (fun i H' => ∃ wds : List Int, Exx p H H' ∧ PenAt H' p c (T + (i : Nat)) ∧ H' W = some (.lst (wds.map V.int)) ∧ wds.length = i ∧ ∀ x ∈ wds, 2 ≤ x ∧ x ≤ 4) ⟨[], Exx.ex (Evl.Ex.new nW), ?_, upd_same, rfl, fun x hx => (by cases hx)⟩ ?_ ?_
    · have := hp.put (o := .lst []) nWp nWc
      simpa using this
    · rintro i H1 hi ⟨wds, x1, hp1, hW1, wl, hw⟩
      refine ⟨rfl, ?_⟩
      refine ⟨.ref p, rfl, .int 4, rfl, 4, 1, rfl, rfl, p, c, _, _, rfl, hp1, (by decide : (1 : Int) ≤ 4 - 1), (by decide : (4 : Int) - 1 ≤ 1000000), by omega, fun r H2 r0 r1 x2 hp2 => ?_⟩
      refine ⟨2, r, rfl, rfl, _, x2 _ _ nWp hW1, Nat.lt_of_le_of_lt (by rw [List.length_map, wl]; omega : (wds.map V.int).length ≤ 60) (by decide), wds ++ [2 + r], (x1.trans x2).mut nW, (hp2.put nWp nWc).mono (by omega), by rw [upd_same, List.map_append]; rfl, by rw [List.length_append, wl]; rfl, ?_⟩
      intro x hx
      rcases List.mem_append.mp hx with h | h
      · exact hw x h
      · have : x = 2 + r := by simpa using h
        omega
    · rintro H1 ⟨wds, x1, hp1, hW1, wl, hw⟩
      refine ⟨Nat.zero_le _, fun bl nbl => ?_⟩
      have nblp : bl ≠ p := hp1.new1 nbl
      have nblc : bl ≠ c := hp1.new2 nbl
      have nblW : bl ≠ W := fun z => by rw [z, hW1] at nbl; cases nbl
      have e2 := Evl.Ex.new (o := .lst []) nbl
      have hbl2 : (upd H1 bl (.lst [])) bl = some (.lst []) := upd_same
      generalize upd H1 bl (.lst []) = H3 at e2 hbl2
      refine ⟨.ref W, .ref bl, .int 4, rfl, ?_⟩
      have hW3 : H3 W = some (.lst (wds.map V.int)) := e2 _ _ hW1
      have hp3 := hp1.ex e2
      have x3 : Exx p H H3 := x1.trans (Exx.ex e2)
      have nbl0 : H bl = none := fresh_exx x1 hp1.here nbl
      have wlen : (wds.length : Int) = many := by omega
      have wds60 : wds.length ≤ 60 := by omega
      have hw1 : ∀ x ∈ wds, 1 ≤ x ∧ x ≤ 1000000 := fun x hx => by have := hw x hx; omega
      refine ⟨.ref p, rfl, .ref W, rfl, p, c, W, 3, _, wds, rfl, hp3, by omega, hW3, nWp, by decide, by decide, wds60, (fun x hx => by have := hw x hx; omega), fun H4 bs bvs bases x4 hp4 nbs hbs hbv bl3 hb => ?_⟩
      have nbsp : bs ≠ p := hp3.new1 nbs
      have nbsbl : bs ≠ bl := fun z => by rw [z, hbl2] at nbs; cases nbs
      have nbsW : bs ≠ W := fun z => by rw [z, hW3] at nbs; cases nbs
      have hW4 := x4 _ _ nWp hW3
      have hbl4 := x4 _ _ nblp hbl2
      have smb : SmallW bases := fun u hu => by
        obtain ⟨a, b⟩ := small_in (hb u hu) wds60 hw
        exact ⟨a, fun x hx => by have := b x hx; omega⟩
      -- the bolts
      refine ⟨.int many, rfl, many, rfl, by omega, by omega, ?_⟩
      refine for_range (lo := 0) (n := many.toNat) (fun k σ H' => ∃ (spare : Int) (lvs : List V) (l : Lock) (srcs : List Word) (y4 y9 y10 : Option V), σ = [some (.ref p), some (.int many), some (.int 4), some (.int dear), y4, some (.ref W), some (.ref bl), some (.int spare), some (.ref bs), y9, y10] ∧
          Exx p H H' ∧ PenAt H' p c (T + 300 + 2200 * (k : Nat)) ∧ H' W = some (.lst (wds.map V.int)) ∧ H' bs = some (.lst bvs) ∧ Paired (Wd K H') bvs bases ∧ H' bl = some (.lst lvs) ∧ Paired (BoltS K H') lvs l ∧ l.length = k ∧
          (∀ s ∈ bases, s ∈ srcs) ∧ (srcs.length : Int) + spare ≤ 8 ∧ 0 ≤ spare ∧ ∀ j b, l[j]? = some b → BGood wds srcs j b)
        ⟨4, [], [], bases, _, _, _, rfl, x3.trans x4, hp4.mono (by omega), hW4, hbs, hbv, hbl4, .nil, rfl, fun s h => h, by omega, by decide, fun j b h => by simp at h⟩ ?_ ?_
      · rintro k σ H6 hk ⟨spare, lvs, l, srcs, y4, y9, y10, rfl, x6, hp6, hW6, hbs6, hbv6, hbl6, hlv6, ll, hsub, hspare, spare0, hgood⟩
        have ek : (0 : Int) + (k : Nat) = ((k : Nat) : Int) := by omega
        rw [ek]
        have kl : k < wds.length := by omega
        refine ⟨.ref bs, rfl, .int (k : Nat), rfl, bs, k, bvs, bases, rfl, SqL.of hbs6, hbv6, smb, by omega, fun H7 wlA wv us e7 nwl hwl7 hwv7 und hus ulen => ?_⟩
        have hp7 := hp6.ex e7
        have nwlp : wlA ≠ p := hp6.new1 nwl
        have w0 : ∀ u ∈ us, InAll u (wds.take k) ∧ ∃ s ∈ srcs, u = s.take k := fun u hu => by
          obtain ⟨b0, hb0, rfl⟩ := hus u hu
          exact ⟨inAll_take (hb b0 hb0) k, b0, hsub b0 hb0, rfl⟩
        refine ⟨fun σ' H' => ∃ (spare' : Int) (wlB : Addr) (vs' : List V) (words : List Word) (srcs' : List Word) (y10 : Option V), σ' = [some (.ref p), some (.int many), some (.int 4), some (.int dear), some (.int (k : Nat)), some (.ref W), some (.ref bl), some (.int spare'), some (.ref bs), some (.ref wlB), y10] ∧
            Exx p H6 H' ∧ PenAt H' p c (T + 300 + 2200 * (k : Nat) + 70) ∧ wlB ≠ p ∧ H' wlB = some (.lst vs') ∧ Paired (Wd K H') vs' words ∧ words.length ≤ 4 ∧ words.Nodup ∧ (∀ u ∈ words, InAll u (wds.take k) ∧ ∃ s ∈ srcs', u = s.take k) ∧ (∀ s ∈ srcs, s ∈ srcs') ∧ (srcs'.length : Int) + spare' ≤ 8 ∧ 0 ≤ spare', ?_, ?_⟩
        · have same : ∀ {Hx : Hp} {z10 : Option V}, Exx p H7 Hx → PenAt Hx p c (T + 300 + 2200 * (k : Nat) + 70) → ∃ (spare' : Int) (wlB : Addr) (vs' : List V) (words : List Word) (srcs' : List Word) (y10 : Option V), ([some (.ref p), some (.int many), some (.int 4), some (.int dear), some (.int (k : Nat)), some (.ref W), some (.ref bl), some (.int spare), some (.ref bs), some (.ref wlA), z10] : L2.St) = [some (.ref p), some (.int many), some (.int 4), some (.int dear), some (.int (k : Nat)), some (.ref W), some (.ref bl), some (.int spare'), some (.ref bs), some (.ref wlB), y10] ∧
              Exx p H6 Hx ∧ PenAt Hx p c (T + 300 + 2200 * (k : Nat) + 70) ∧ wlB ≠ p ∧ Hx wlB = some (.lst vs') ∧ Paired (Wd K Hx) vs' words ∧ words.length ≤ 4 ∧ words.Nodup ∧ (∀ u ∈ words, InAll u (wds.take k) ∧ ∃ s ∈ srcs', u = s.take k) ∧ (∀ s ∈ srcs, s ∈ srcs') ∧ (srcs'.length : Int) + spare' ≤ 8 ∧ 0 ≤ spare' := by
            intro Hx z10 ex hpx
            exact ⟨spare, wlA, wv, us, srcs, _, rfl, (Exx.ex e7).trans ex, hpx, nwlp, ex _ _ nwlp hwl7, Paired.imp (fun _ _ => Wd.mono (hp7.tx ex)) hwv7, by omega, und, w0, fun s h => h, hspare, spare0⟩
          refine ⟨.int (k : Nat), rfl, (k : Nat), 0, rfl, rfl, _, rfl, ?_⟩
          refine ite2 (fun _ => ?_) (fun _ => same (Exx.refl p H7) (hp7.mono (by omega)))
          refine ⟨.int spare, rfl, spare, 0, rfl, rfl, _, rfl, ?_⟩
          refine ite2 (fun hgt => ?_) (fun _ => same (Exx.refl p H7) (hp7.mono (by omega)))
          have hgt' : 0 < spare := of_decide_eq_true hgt
          refine ⟨.ref p, rfl, p, c, 4, _, rfl, hp7, by decide, by decide, by omega, fun r' H8 _ _ x8 hp8 => ?_⟩
          refine ⟨rfl, _, rfl, ?_⟩
          refine ite2 (fun _ => ?_) (fun _ => same x8 (hp8.mono (by omega)))
          -- one word more
          have hwl8 := x8 _ _ nwlp hwl7
          have hW8 : H8 W = some (.lst (wds.map V.int)) := x8 _ _ nWp (e7 _ _ hW6)
          have hwv8 : Paired (Wd K H8) wv us := Paired.imp (fun _ _ => Wd.mono (hp7.tx x8)) hwv7
          refine ⟨.ref wlA, rfl, ?_⟩
          refine tcons1 ?_
          refine tcb1 ?_
          refine lc_draws (K := K) (vs := [10]) (i := 10) (wds := wds.take k) (p := p) (c := c) (T := T + 300 + 2200 * (k : Nat) + 1) (hp8.mono (by omega)) ?_ (by omega) (fun x hx => hw1 x (List.mem_of_mem_take hx)) (by rw [List.length_take]; omega) ?_ ?_ ?_ ?_
          rotate_left
          · exact fun _ => rfl
          · exact fun _ => rfl
          · exact fun _ => rfl
          rotate_left
          · intro Q' h
            refine ⟨.ref W, rfl, .int (k : Nat), rfl, (k : Nat), rfl, W, _, rfl, .inl (.inl hW8), fun S nS => ?_⟩
            rw [cut_take, ← List.map_take]
            have e9 := Evl.Ex.new (o := .lst ((wds.take k).map V.int)) nS
            exact h S _ (Exx.ex e9) ((hp8.ex e9).mono (by omega)) (.inl (.inl upd_same)) (hp8.new1 nS)
          · intro H9 D xs x9 hp9 nD hD hin
            have hpt : (((wds.take k).length : Nat) : Int) ≤ 60 := by rw [List.length_take]; omega
            refine ⟨D, _, rfl, .inl ⟨.inl (.inl hD), fun t nt => ?_⟩⟩
            have e10 := Evl.Ex.new (o := .tup (xs.map V.int)) nt
            have gt : (upd H9 t (.tup (xs.map V.int))) t = some (.tup (xs.map V.int)) := upd_same
            generalize upd H9 t (.tup (xs.map V.int)) = H10 at e10 gt
            refine ⟨(by show 1 ≤ sizeLine; decide), fun one n1 => ?_⟩
            have e11 := Evl.Ex.new (o := .lst [.ref t]) n1
            have g1' : (upd H10 one (.lst [.ref t])) one = some (.lst [.ref t]) := upd_same
            generalize upd H10 one (.lst [.ref t]) = H11 at e11 g1'
            have x811 : Exx p H8 H11 := x9.trans (Exx.ex (e10.trans e11))
            have hwl11 := x811 _ _ nwlp hwl8
            have wvl : wv.length = us.length := Paired.len hwv8
            refine ⟨wlA, one, _, _, rfl, rfl, hwl11, g1', Nat.le_trans (by rw [List.length_singleton]; omega : wv.length + [V.ref t].length ≤ 10) (by decide), fun cat nc => ?_⟩
            have e12 := Evl.Ex.new (o := .lst (wv ++ [.ref t])) nc
            have gc : (upd H11 cat (.lst (wv ++ [.ref t]))) cat = some (.lst (wv ++ [.ref t])) := upd_same
            generalize upd H11 cat (.lst (wv ++ [.ref t])) = H12 at e12 gc
            have x812 : Exx p H8 H12 := x811.trans (Exx.ex e12)
            have hpw : Paired (Wd K H12) (wv ++ [.ref t]) (us ++ [xs]) := paired_app1 (Paired.imp (fun _ _ => Wd.mono (hp8.tx x812)) hwv8) ⟨t, rfl, (e11.trans e12) _ _ gt⟩
            have xl : xs.length = k := by
              have := hin.1
              rw [List.length_take] at this
              omega
            have wk4 : ∀ x ∈ wds.take k, 2 ≤ x ∧ x ≤ 4 := fun x hx => hw x (List.mem_of_mem_take hx)
            have sm2 : SmallW (us ++ [xs]) := fun u hu => by
              have : InAll u (wds.take k) := by
                rcases List.mem_append.mp hu with h | h
                · exact (w0 u h).1
                · rw [List.mem_singleton.mp h]; exact hin
              obtain ⟨a, b⟩ := small_in this (by rw [List.length_take]; omega) wk4
              exact ⟨a, fun x hx => by have := b x hx; omega⟩
            refine ⟨.int (k : Nat), rfl, cat, k, _, _, rfl, SqL.of gc, hpw, sm2, by rw [List.length_append, List.length_singleton]; omega, fun H13 wlB vs' words e13 nwB hwB hv' wnd hws' wl4 => ?_⟩
            refine ⟨.int spare, rfl, spare, 1, rfl, rfl, ?_⟩
            have hp13 := (hp9.ex (e10.trans (e11.trans (e12.trans e13))))
            have nwBp : wlB ≠ p := (hp9.ex (e10.trans (e11.trans e12))).new1 nwB
            refine ⟨spare - 1, wlB, vs', words, srcs ++ [xs], _, rfl, (Exx.ex e7).trans (x8.trans (x812.trans (Exx.ex e13))), hp13.mono (by omega), nwBp, hwB, hv', by rw [List.length_append, List.length_singleton] at wl4; omega, wnd, ?_, fun s h => List.mem_append_left _ h, by rw [List.length_append, List.length_singleton]; omega, by omega⟩
            intro u hu
            obtain ⟨w', hw', rfl⟩ := hws' u hu
            rcases List.mem_append.mp hw' with h | h
            · obtain ⟨h1, s', h2, h3⟩ := w0 w' h
              have lw : w'.length = k := by
                have := h1.1
                rw [List.length_take] at this
                omega
              rw [List.take_of_length_le (by omega)]
              exact ⟨h1, s', List.mem_append_left _ h2, h3⟩
            · rw [List.mem_singleton.mp h, List.take_of_length_le (by omega)]
              exact ⟨hin, xs, List.mem_append_right _ (by simp), by rw [List.take_of_length_le (by omega)]⟩
        · rintro σ' H8 ⟨spare', wlB, vs', words, srcs', z10, rfl, x8, hp8, nwBp, hwB8, hv8, wd4, wnd, hwords, hsrcs, hspare', spare0'⟩
          have hW8 : H8 W = some (.lst (wds.map V.int)) := x8 _ _ nWp hW6
          have hbl8 : H8 bl = some (.lst lvs) := x8 _ _ nblp hbl6
          obtain ⟨wd, hwd⟩ : ∃ wd, wds[k]? = some wd := ⟨wds[k], List.getElem?_eq_getElem kl⟩
          have hwd2 := hw wd (List.mem_of_getElem? hwd)
          have wk4 : ∀ x ∈ wds.take k, 2 ≤ x ∧ x ≤ 4 := fun x hx => hw x (List.mem_of_mem_take hx)
          have bd : ∀ u ∈ words, u.length = k ∧ TS.Bd 4 u := fun u hu => by
            obtain ⟨h1, _⟩ := hwords u hu
            obtain ⟨_, b⟩ := small_in h1 (by rw [List.length_take]; omega) wk4
            have := h1.1
            rw [List.length_take] at this
            exact ⟨by omega, b⟩
          refine ⟨.ref bl, rfl, .inl ⟨rfl, _, SqL.of hbl8⟩, ?_⟩
          refine ⟨.ref W, rfl, .int (k : Nat), rfl, W, _, (k : Nat), .int wd, rfl, rfl, .inl (.inl hW8), atI_nat (map_int_get hwd), ?_⟩
          refine ⟨.ref p, rfl, .ref W, rfl, .int (k : Nat), rfl, W, _, (k : Nat), .int wd, rfl, rfl, .inl (.inl hW8), atI_nat (map_int_get hwd), ?_⟩
          refine ⟨.ref wlB, rfl, .int dear, rfl, p, c, wlB, wd, dear, _, vs', words, k, rfl, hp8, by omega, hwd2.1, hwd2.2, dd1, dd2, nwBp, hwB8, hv8, by omega, wnd, by omega, bd, fun H11 ga gvs gs left x11 hp11 hga hgv hdr => ?_⟩
          refine ⟨(by show 2 ≤ sizeLine; decide), fun bt nbt => ?_⟩
          have e12 := Evl.Ex.new (o := .tup [.int wd, .ref ga]) nbt
          have hbt : (upd H11 bt (.tup [.int wd, .ref ga])) bt = some (.tup [.int wd, .ref ga]) := upd_same
          have hp12 := hp11.ex e12
          generalize upd H11 bt (.tup [.int wd, .ref ga]) = H12 at e12 hbt hp12
          have x812 : Exx p H8 H12 := x11.trans (Exx.ex e12)
          have x612 : Exx p H6 H12 := x8.trans x812
          have hbl12 : H12 bl = some (.lst lvs) := x812 _ _ nblp hbl8
          have tx612 : TX K H6 H12 := hp6.tx x612
          have lvl : lvs.length = l.length := Paired.len hlv6
          have hW12 := x612 _ _ nWp hW6
          have hbs12 := x612 _ _ nbsp hbs6
          have nWbl : W ≠ bl := fun z => nblW z.symm
          have bAt : BoltS K H12 (.ref bt) ⟨wd, gs⟩ := ⟨bt, ga, gvs, rfl, hbt, e12 _ _ hga, Paired.imp (fun _ _ => GapS.mono (TX.ex e12)) hgv⟩
          refine ⟨bl, lvs, _, rfl, rfl, hbl12, Nat.lt_of_le_of_lt (by omega : lvs.length ≤ 60) (by decide), ?_⟩
          refine ⟨spare', lvs ++ [.ref bt], l ++ [⟨wd, gs⟩], srcs', _, _, _, rfl, (x6.trans x612).mut nbl0, (hp12.put nblp nblc).mono (by omega), by rw [upd_ne nWbl]; exact hW12, by rw [upd_ne nbsbl]; exact hbs12, ?_, upd_same, ?_, by rw [List.length_append, ll]; rfl, fun s hs => hsrcs s (hsub s hs), hspare', spare0', ?_⟩
          · exact Paired.imp (fun _ _ => Wd.mono (tx612.trans (TX.put hbl12))) hbv6
          · exact Paired.imp (fun _ _ => BoltS.mono (TX.put hbl12)) (paired_app1 (Paired.imp (fun _ _ => BoltS.mono tx612) hlv6) bAt)
          · intro j b hj
            by_cases hjl : j < l.length
            · rw [List.getElem?_append_left hjl] at hj
              exact (hgood j b hj).mono hsrcs
            · rw [List.getElem?_append_right (by omega)] at hj
              have : j = l.length := by
                by_cases e : j - l.length = 0
                · omega
                · rw [List.getElem?_eq_none (by simp; omega)] at hj; cases hj
              subst this
              rw [Nat.sub_self] at hj
              have eb : b = ⟨wd, gs⟩ := (Option.some.inj hj).symm
              subst eb
              rw [ll]
              exact ⟨hwd, words, left, hdr, hwords⟩
      · rintro σ H6 ⟨spare, lvs, l, srcs, y4, y9, y10, rfl, x6, hp6, hW6, hbs6, hbv6, hbl6, hlv6, ll, hsub, hspare, spare0, hgood⟩
        refine ⟨.ref bl, rfl, bl, lvs, rfl, .inl ⟨.inl (.inl hbl6), fun lt nlt => ?_⟩⟩
        have e7 := Evl.Ex.new (o := .tup lvs) nlt
        have lw : l.length = wds.length := by omega
        refine q _ (.ref lt) l (x6.trans (Exx.ex e7)) ((hp6.ex e7).mono (by omega)) ⟨lt, lvs, rfl, upd_same, Paired.imp (fun _ _ => BoltS.mono (TX.ex e7)) hlv6⟩ (lockOk_drawn lw (by omega) (by omega) hw (by omega) hgood) (by omega)
end
end Wb

set_option Elab.async false
set_option linter.all false
set_option maxRecDepth 100000
set_option maxHeartbeats 4000000
set_option pp.maxSteps 600
set_option pp.deepTerms false
namespace Wb
open PySem PySem.Spec PyProof.Rows L2
/-! ### bolts that are right one by one, however many words they ask -/
structure BoltsN (n : Nat) (l : Lock) : Prop where
  n0 : 1 ≤ l.length
  n1 : l.length ≤ n
  bolts : ∀ (k : Nat) (b : Bolt), l[k]? = some b → BoltOk (manysOf (l.take k)) b
theorem LockOk.toN {l : Lock} (ok : LockOk l) : BoltsN 60 l := ⟨ok.n0, ok.n1, ok.bolts⟩
theorem BoltsN.mono {n m : Nat} {l : Lock} (b : BoltsN n l) (h : n ≤ m) : BoltsN m l := ⟨b.n0, Nat.le_trans b.n1 h, b.bolts⟩
def allCuts (l : Lock) (k : Nat) : List Word := (l.drop k).flatMap fun b => b.gaps.flatMap fun g => g.ways.map fun w => w.take k
theorem mem_allCuts {l : Lock} {k : Nat} {w : Word} : w ∈ allCuts l k ↔ cutsFrom l k w := by
  unfold allCuts cutsFrom
  simp only [List.mem_flatMap, List.mem_map]
  constructor
  · rintro ⟨b, hb, g, hg, u, hu, rfl⟩
    obtain ⟨i, hi⟩ := List.mem_iff_getElem?.mp hb
    rw [List.getElem?_drop] at hi
    exact ⟨k + i, b, g, u, Nat.le_add_right _ _, hi, hg, hu, rfl⟩
  · rintro ⟨j, b, g, u, hj, hb, hg, hu, rfl⟩
    refine ⟨b, List.mem_iff_getElem?.mpr ⟨j - k, ?_⟩, g, hg, u, hu, rfl⟩
    rw [List.getElem?_drop, show k + (j - k) = j by omega]
    exact hb
def adds (ws us : List Word) : List Word := us.foldl addW ws
theorem adds_mem : ∀ {us ws : List Word} {u : Word}, u ∈ adds ws us ↔ u ∈ ws ∨ u ∈ us
  | [], ws, u => by simp [adds]
  | x :: us, ws, u => by
    show u ∈ adds (addW ws x) us ↔ _
    rw [adds_mem, mem_addW, List.mem_cons, or_assoc]
theorem adds_nodup : ∀ {us ws : List Word}, ws.Nodup → (adds ws us).Nodup
  | [], _, h => h
  | x :: us, ws, h => by
    show (adds (addW ws x) us).Nodup
    exact adds_nodup (nodup_addW h)
def wordsL (l : Lock) (k : Nat) : List Word := adds [] (allCuts l k)
theorem wordsL_at (l : Lock) (k : Nat) : WordsAt l k (wordsL l k) := ⟨adds_nodup List.nodup_nil, fun w => by unfold wordsL; rw [adds_mem, mem_allCuts]; simp⟩
theorem words_same {l : Lock} {k : Nat} {ws us : List Word} (h : WordsAt l k ws) (h' : WordsAt l k us) : ws.length = us.length :=
  Nat.le_antisymm (nodup_le h.1 fun w hw => (h'.2 w).mpr ((h.2 w).mp hw)) (nodup_le h'.1 fun w hw => (h.2 w).mpr ((h'.2 w).mp hw))
theorem flatMap_le {α β : Type} {f : α → List β} {c : Nat} : ∀ {xs : List α}, (∀ x ∈ xs, (f x).length ≤ c) → (xs.flatMap f).length ≤ c * xs.length
  | [], _ => by simp
  | x :: xs, h => by
    rw [List.flatMap_cons, List.length_append, List.length_cons]
    have h1 := h x List.mem_cons_self
    have h2 := flatMap_le (xs := xs) fun y hy => h y (List.mem_cons_of_mem _ hy)
    rw [Nat.mul_succ]
    omega
theorem gapsCut_len (k : Nat) : ∀ gs : List Gap, (gs.flatMap fun g => g.ways.map fun w => w.take k).length = (gs.map fun g => g.ways.length).sum
  | [] => rfl
  | g :: gs => by
    rw [List.flatMap_cons, List.length_append, List.length_map, gapsCut_len k gs, List.map_cons, List.sum_cons]
theorem allCuts_len {n : Nat} {l : Lock} (ok : BoltsN n l) (k : Nat) : (allCuts l k).length ≤ 8 * n := by
  have h : (allCuts l k).length ≤ 8 * (l.drop k).length := by
    refine flatMap_le fun b hb => ?_
    rw [gapsCut_len]
    obtain ⟨i, hi⟩ := List.mem_iff_getElem?.mp hb
    rw [List.getElem?_drop] at hi
    exact (ok.bolts _ b hi).few
  have h1 := ok.n1
  rw [List.length_drop] at h
  have : 8 * (l.length - k) ≤ 8 * n := Nat.mul_le_mul_left 8 (by omega)
  omega
theorem few_cutsN {n : Nat} {l : Lock} (ok : BoltsN n l) {k : Nat} {cur : List Word} (h1 : cur.Nodup) (h2 : ∀ u ∈ cur, cutsFrom l k u) : cur.length ≤ 8 * n :=
  Nat.le_trans (nodup_le h1 fun u hu => mem_allCuts.mpr (h2 u hu)) (allCuts_len ok k)
/-! ### the first bolt whose words are too many -/
def badAt (l : Lock) (k : Nat) : Bool := decide (8 < (wordsL l k).length)
def firstBad (l : Lock) : Option Nat := (List.range l.length).find? (badAt l)
theorem bad_iff {l : Lock} {k : Nat} {ws : List Word} (h : WordsAt l k ws) : badAt l k = decide (8 < ws.length) := by
  unfold badAt
  rw [words_same (wordsL_at l k) h]
theorem firstBad_none {l : Lock} (hn : ∀ k, k < l.length → badAt l k = false) : firstBad l = none := by
  unfold firstBad
  rw [List.find?_eq_none]
  intro k hk
  rw [hn k (List.mem_range.mp hk)]
  exact Bool.false_ne_true
theorem firstBad_some {l : Lock} {i : Nat} (hi : i < l.length) (hb : badAt l i = true) (hn : ∀ k, k < i → badAt l k = false) : firstBad l = some i := by
  unfold firstBad
  rw [List.find?_range_eq_some]
  refine ⟨hb, List.mem_range.mpr hi, fun j hj => ?_⟩
  rw [hn j hj]
  rfl
theorem lockOk_of {l : Lock} (ok : BoltsN 60 l) (h : firstBad l = none) : LockOk l := by
  refine ⟨ok.n0, ok.n1, ok.bolts, fun k ws hk hn hc => ?_⟩
  unfold firstBad at h
  rw [List.find?_eq_none] at h
  have hb := h k (List.mem_range.mpr hk)
  unfold badAt at hb
  have : ws.length ≤ (wordsL l k).length := nodup_le hn fun w hw => ((wordsL_at l k).2 w).mpr (hc w hw)
  have : ¬ 8 < (wordsL l k).length := fun z => hb (decide_eq_true z)
  omega
theorem LockOk.noBad {l : Lock} (ok : LockOk l) : firstBad l = none := firstBad_none fun k hk => by
  unfold badAt
  have := ok.words k (wordsL l k) hk (wordsL_at l k).1 (fun w hw => ((wordsL_at l k).2 w).mp hw)
  exact decide_eq_false (by omega)
/-- what is wrong with bolts that are right one by one -/
def faultD (l : Lock) : Option PyData := if 60 < l.length then some (.tuple [.str "lock"]) else (firstBad l).map fun k => .tuple [.str "words", .int (k : Nat)]
theorem LockOk.faultD {l : Lock} (ok : LockOk l) : faultD l = none := by
  unfold Wb.faultD
  have := ok.n1
  rw [if_neg (by omega), ok.noBad]
  rfl
theorem lockOk_fault {n : Nat} {l : Lock} (ok : BoltsN n l) (h : Wb.faultD l = none) : LockOk l := by
  unfold Wb.faultD at h
  by_cases c : 60 < l.length
  · rw [if_pos c] at h
    cases h
  · rw [if_neg c, Option.map_eq_none_iff] at h
    exact lockOk_of ⟨ok.n0, by omega, ok.bolts⟩ h
/-! ### a lock upon another -/
def upG (st : Word) (g : Gap) : Gap := ⟨g.frm, g.to_, g.price, g.ways.map (st ++ ·)⟩
def upB (st : Word) (b : Bolt) : Bolt := ⟨b.many, b.gaps.map (upG st)⟩
def uponL (l s : Lock) (st : Word) : Lock := l ++ s.map (upB st)
theorem lex_app : ∀ (st a b : Word), HT.lexLt (st ++ a) (st ++ b) = HT.lexLt a b
  | [], _, _ => rfl
  | x :: st, a, b => by
    rw [List.cons_append, List.cons_append, HT.lexLt_cons, if_pos rfl, lex_app st a b]
theorem manys_app (l s : Lock) : manysOf (l ++ s) = manysOf l ++ manysOf s := by unfold manysOf; rw [List.map_append]
theorem manys_up (s : Lock) (st : Word) : manysOf (s.map (upB st)) = manysOf s := by
  unfold manysOf
  rw [List.map_map]
  rfl
theorem manys_cnt (l : Lock) : (manysOf l).length = l.length := by unfold manysOf; rw [List.length_map]
theorem inAll_app {a b ms ns : List Int} (h : InAll a ms) (h' : InAll b ns) : InAll (a ++ b) (ms ++ ns) := by
  have e := h.1
  refine ⟨by rw [List.length_append, List.length_append, h.1, h'.1], fun i x m hx hm => ?_⟩
  by_cases c : i < a.length
  · rw [List.getElem?_append_left c] at hx
    rw [List.getElem?_append_left (by omega)] at hm
    exact h.2 i x m hx hm
  · rw [List.getElem?_append_right (by omega)] at hx
    rw [List.getElem?_append_right (by omega), ← e] at hm
    exact h'.2 _ x m hx hm
theorem upG_ok {ms ns : List Int} {many : Int} {g : Gap} {st : Word} (hin : InAll st ms) (G : GapOk ns many g) : GapOk (ms ++ ns) many (upG st g) := by
  refine ⟨G.f0, G.f1, G.t0, G.t1, G.ne, G.p0, G.p1, by unfold upG; rw [List.length_map]; exact G.few, fun w hw => ?_, ?_⟩
  · obtain ⟨u, hu, rfl⟩ := List.mem_map.mp hw
    have z := inAll_app hin ⟨(G.words u hu).1, (G.words u hu).2⟩
    exact ⟨z.1, z.2⟩
  · show (g.ways.map (st ++ ·)).Pairwise _
    rw [List.pairwise_map]
    exact G.rise.imp fun {a b} h => by rw [lex_app]; exact h
theorem upB_ok {ms ns : List Int} {b : Bolt} {st : Word} (hin : InAll st ms) (B : BoltOk ns b) : BoltOk (ms ++ ns) (upB st b) := by
  refine ⟨B.m0, B.m1, fun g hg => ?_, ?_, ?_⟩
  · obtain ⟨u, hu, rfl⟩ := List.mem_map.mp hg
    exact upG_ok hin (B.gaps u hu)
  · show (b.gaps.map (upG st)).Pairwise _
    rw [List.pairwise_map]
    exact B.rise
  · show ((b.gaps.map (upG st)).map fun g => g.ways.length).sum ≤ 8
    rw [List.map_map]
    have e : ((fun g : Gap => g.ways.length) ∘ upG st) = fun g : Gap => g.ways.length := by
      funext g
      show (g.ways.map (st ++ ·)).length = _
      rw [List.length_map]
    rw [e]
    exact B.few
theorem upon_len (l s : Lock) (st : Word) : (uponL l s st).length = l.length + s.length := by unfold uponL; rw [List.length_append, List.length_map]
theorem upon_bolts {n m : Nat} {l s : Lock} {st : Word} (ok : BoltsN n l) (ok2 : BoltsN m s) (hin : InAll st (manysOf l)) : BoltsN (n + m) (uponL l s st) := by
  have h0 := ok.n0
  have h1 := ok.n1
  have h2 := ok2.n1
  refine ⟨by rw [upon_len]; omega, by rw [upon_len]; omega, fun k b hb => ?_⟩
  unfold uponL at hb ⊢
  by_cases c : k < l.length
  · rw [List.getElem?_append_left c] at hb
    rw [List.take_append_of_le_length (by omega)]
    exact ok.bolts k b hb
  · rw [List.getElem?_append_right (by omega), List.getElem?_map] at hb
    cases e : s[k - l.length]? with
    | none => rw [e] at hb; cases hb
    | some b2 =>
      rw [e] at hb
      cases hb
      rw [List.take_append, List.take_of_length_le (by omega), manys_app, ← List.map_take, manys_up]
      exact upB_ok hin (ok2.bolts _ b2 e)
/-! ### the steps there -/
end Wb

set_option Elab.async false
set_option linter.all false
set_option maxRecDepth 100000
set_option maxHeartbeats 4000000
set_option pp.maxSteps 600
set_option pp.deepTerms false
namespace Wb
open PySem PySem.Spec PyProof.Rows L2
/-! ### things of whatever kind: data, with dicts {} and {0: 1} within -/
def one0 : List (Key × V) := [(.inl 0, .int 1)]
mutual
inductive Th (K : PySem.W.Frag) (H : Hp) : V → PyData → Prop where
  | non : Th K H .non .none
  | bl (b : Bool) : Th K H (.bl b) (.bool b)
  | int (i : Int) : Th K H (.int i) (.int i)
  | str (x : Str) : Th K H (.str x) (.str x)
  | d0 {a : Addr} : H a = some (.dK []) → Th K H (.ref a) (.dict [])
  | d1 {a : Addr} : H a = some (.dK one0) → Th K H (.ref a) (.dict [(.int 0, .int 1)])
  | lst {a : Addr} {xs : List V} {ds : List PyData} : H a = some (.lst xs) → ThAll K H xs ds → Th K H (.ref a) (.list ds)
  | tup {a : Addr} {xs : List V} {ds : List PyData} : Rd H a (.tup xs) → ThAll K H xs ds → Th K H (.ref a) (.tuple ds)
inductive ThAll (K : PySem.W.Frag) (H : Hp) : List V → List PyData → Prop where
  | nil : ThAll K H [] []
  | cons {v : V} {d : PyData} {vs : List V} {ds : List PyData} : Th K H v d → ThAll K H vs ds → ThAll K H (v :: vs) (d :: ds)
end
/-- what such things lean on stays -/
structure TK (K : PySem.W.Frag) (H H' : Hp) : Prop where
  t : ∀ a xs, Rd H a (.tup xs) → Rd H' a (.tup xs)
  l : ∀ a xs, H a = some (.lst xs) → H' a = some (.lst xs)
  d0 : ∀ a, H a = some (.dK []) → H' a = some (.dK [])
  d1 : ∀ a, H a = some (.dK one0) → H' a = some (.dK one0)
section
variable {K : PySem.W.Frag} {H H' : Hp} {p c : Addr} {T : Int}
theorem rd_ex {G G' : Hp} (e : Evl.Ex G G') {a : Addr} {u : HO} (h : Rd G a u) : Rd G' a u := h.imp (fun z => e _ _ z) fun ⟨o, z⟩ => ⟨o, e _ _ z⟩
theorem TK.ex (e : Evl.Ex H H') : TK K H H' := ⟨fun _ _ h => rd_ex e h, fun _ _ h => e _ _ h, fun _ h => e _ _ h, fun _ h => e _ _ h⟩
theorem TK.refl (K : PySem.W.Frag) (H : Hp) : TK K H H := TK.ex (Evl.Ex.refl H)
theorem TK.trans {H1 : Hp} (a : TK K H H1) (b : TK K H1 H') : TK K H H' := ⟨fun x o h => b.t x o (a.t x o h), fun x o h => b.l x o (a.l x o h), fun x h => b.d0 x (a.d0 x h), fun x h => b.d1 x (a.d1 x h)⟩
mutual
theorem Th.keep (e : TK K H H') : ∀ {v : V} {d : PyData}, Th K H v d → Th K H' v d
  | _, _, .non => .non
  | _, _, .bl b => .bl b
  | _, _, .int i => .int i
  | _, _, .str x => .str x
  | _, _, .d0 h => .d0 (e.d0 _ h)
  | _, _, .d1 h => .d1 (e.d1 _ h)
  | _, _, .lst h a => .lst (e.l _ _ h) (ThAll.keep e a)
  | _, _, .tup h a => .tup (e.t _ _ h) (ThAll.keep e a)
theorem ThAll.keep (e : TK K H H') : ∀ {vs : List V} {ds : List PyData}, ThAll K H vs ds → ThAll K H' vs ds
  | _, _, .nil => .nil
  | _, _, .cons h a => .cons (Th.keep e h) (ThAll.keep e a)
end
theorem Th.ex (e : Evl.Ex H H') {v : V} {d : PyData} (h : Th K H v d) : Th K H' v d := h.keep (TK.ex e)
theorem ThAll.paired : ∀ {vs : List V} {ds : List PyData}, ThAll K H vs ds → Paired (Th K H) vs ds
  | _, _, .nil => .nil
  | _, _, .cons h t => .cons h (ThAll.paired t)
theorem thAll : ∀ {vs : List V} {ds : List PyData}, Paired (Th K H) vs ds → ThAll K H vs ds
  | _, _, .nil => .nil
  | _, _, .cons h t => .cons h (thAll t)
def tyS : PyData → String
  | .none => "NoneType"
  | .bool _ => "bool"
  | .int _ => "int"
  | .str _ => "str"
  | .list _ => "list"
  | .tuple _ => "tuple"
  | .dict _ => "dict"
theorem tyx_lst {a : Addr} {xs : List V} (h : SqL K H a xs) : TyX K H (.ref a) (.type "list") := by
  rcases h with (h | ⟨o, h⟩) | ⟨o, its, n, h, c, _⟩
  · exact .base (.lst h)
  · exact .base (.frz h)
  · exact .kList h c
theorem Th.ty {v : V} {d : PyData} (h : Th K H v d) : TyX K H v (.type (tyS d)) := by
  cases h with
  | non => exact .base .non
  | bl b => exact .base (.bl b)
  | int i => exact .base (.int i)
  | str x => exact .base (.str x)
  | d0 h => exact .base (.dK h)
  | d1 h => exact .base (.dK h)
  | lst h _ => exact tyx_lst (.inl (.inl h))
  | tup h _ => exact tyx_tup (.inl h)
def isInt : PyData → Bool
  | .int _ => true
  | .bool _ => true
  | _ => false
def isBool : PyData → Bool
  | .bool _ => true
  | _ => false
def isTup : PyData → Bool
  | .tuple _ => true
  | _ => false
def isLst : PyData → Bool
  | .list _ => true
  | _ => false
def isStr : PyData → Bool
  | .str _ => true
  | _ => false
theorem kit_int (d : PyData) : kitB (tyS d) "int" = some (isInt d) := by cases d <;> (simp only [tyS, isInt]; decide +kernel)
theorem kit_bool (d : PyData) : kitB (tyS d) "bool" = some (isBool d) := by cases d <;> (simp only [tyS, isBool]; decide +kernel)
theorem kit_tup (d : PyData) : kitB (tyS d) "tuple" = some (isTup d) := by cases d <;> (simp only [tyS, isTup]; decide +kernel)
theorem kit_lst (d : PyData) : kitB (tyS d) "list" = some (isLst d) := by cases d <;> (simp only [tyS, isLst]; decide +kernel)
theorem kit_str (d : PyData) : kitB (tyS d) "str" = some (isStr d) := by cases d <;> (simp only [tyS, isStr]; decide +kernel)
theorem Th.itemsS {v : V} {ds : List PyData} (h : Th K H v (.tuple ds)) : ∃ a xs, v = .ref a ∧ Rd H a (.tup xs) ∧ Paired (Th K H) xs ds := by
  cases h with
  | tup h a => exact ⟨_, _, rfl, h, a.paired⟩
theorem Th.items {v : V} {ds : List PyData} (h : Th K H v (.tuple ds)) : ∃ a xs, v = .ref a ∧ SqT K H a xs ∧ Paired (Th K H) xs ds := by
  obtain ⟨a, xs, e, h, t⟩ := h.itemsS
  exact ⟨a, xs, e, .inl h, t⟩
theorem Th.tupI {a : Addr} {xs : List V} {ds : List PyData} (h : H a = some (.tup xs)) (hi : Paired (Th K H) xs ds) : Th K H (.ref a) (.tuple ds) := .tup (.inl h) (thAll hi)
end
end Wb

set_option Elab.async false
set_option linter.all false
set_option maxRecDepth 100000
set_option maxHeartbeats 4000000
set_option pp.maxSteps 600
set_option pp.deepTerms false
namespace Wb
open PySem PySem.Spec PyProof.Rows L2
def itemsD : PyData → List PyData
  | .tuple ds => ds
  | _ => []
def placeB : PyData → Int → Bool
  | .int i, m => decide (0 ≤ i) && decide (i < m)
  | _, _ => false
def allP : List PyData → List Int → Bool
  | d :: ds, m :: ms => placeB d m && allP ds ms
  | _, _ => true
def placesB (d : PyData) (ms : List Int) : Bool := isTup d && (decide ((itemsD d).length = ms.length) && allP (itemsD d) ms)
theorem allP_bad : ∀ {ds : List PyData} {ms : List Int} {i : Nat} {d : PyData} {m : Int}, ds[i]? = some d → ms[i]? = some m → placeB d m = false → allP ds ms = false
  | _ :: _, _ :: _, 0, d, m, h1, h2, h => by
    simp at h1 h2
    subst h1 h2
    simp [allP, h]
  | _ :: _, _ :: _, i + 1, d, m, h1, h2, h => by
    have := allP_bad (i := i) (by simpa using h1) (by simpa using h2) h
    simp [allP, this]
  | [], _, _, _, _, h1, _, _ => by simp at h1
  | _ :: _, [], _, _, _, _, h2, _ => by simp at h2
theorem allP_all : ∀ {ds : List PyData} {ms : List Int}, (∀ (i : Nat) (d : PyData) (m : Int), ds[i]? = some d → ms[i]? = some m → placeB d m = true) → allP ds ms = true
  | d :: ds, m :: ms, h => by
    have h0 := h 0 d m rfl rfl
    have := allP_all (ds := ds) (ms := ms) fun i d' m' a b => h (i + 1) d' m' (by simpa using a) (by simpa using b)
    simp [allP, h0, this]
  | [], _, _ => by simp [allP]
  | _ :: _, [], _ => by simp [allP]
def isNon : PyData → Bool
  | .none => true
  | _ => false
section
variable {K : PySem.W.Frag} {H : Hp}
theorem tup_of {d : PyData} (h : isTup d = true) : ∃ ds, d = .tuple ds := by
  cases d <;> first
    | exact ⟨_, rfl⟩
    | cases h
/-- the value of a thing is no int or bool that its data isn't -/
theorem Th.int_of {v : V} {d : PyData} (h : Th K H v d) (hi : isInt d = true) (hb : isBool d = false) : ∃ i, d = .int i ∧ v = .int i := by
  cases d <;> first
    | (cases hi; done)
    | (cases hb; done)
    | skip
  rename_i i
  refine ⟨i, rfl, ?_⟩
  cases h
  rfl
theorem Th.non_iff {v : V} {d : PyData} (h : Th K H v d) : decide (v = .non) = isNon d := by
  cases h <;> simp [isNon]
end
def spTupG (K : PySem.W.Frag) : Sp := fun vs H Q _ => ∃ (v : V) (d : PyData) (l h : Int), vs = [v, .int l, .int h] ∧ Th K H v d ∧ Q (.bl (isTup d && (decide (l ≤ ((itemsD d).length : Int)) && decide (((itemsD d).length : Int) ≤ h)))) H
section
variable {P : Program} {w : World} {K : PySem.W.Frag} {mg : Str → Option Value} {base : Heap}
theorem ok_tupG {f : Addr} {fd : FuncData} (F : Fun K "is_tuple_of" "is_tuple_of" sTupOf f fd) (B : Bi mg) : FnOk P w K mg base CX0 1 f fd ["thing", "low", "high"] (spTupG K) := by
  refine F.ok scTupOf (fun vs H Q E h => ?_) (fun cdv A outer s H vs Q E hr h => ?_)
  · obtain ⟨v, d, l, m, rfl, _⟩ := h; rfl
  · obtain ⟨v, d, l, m, rfl, hv, q⟩ := h
    refine ⟨_, pss_one (ps_ret (pe_and (pe_callB call_isi (by rfl) B.isi boot_isinstance (pa_cons (pv 0) (pa_cons (pe_bltn (v := .ty "tuple") (by rfl) B.tuple (by decide +kernel) rfl) pa_nil)))
      (pe_one (pe_chain op_le op_le (pv 1) (pe_callB call_len_seq (by rfl) B.len PySem.boot_len (pa_cons (pv 0) pa_nil)) (pv 2))))), ?_⟩
    refine ⟨v, rfl, v, .ty "tuple", .type (tyS d), .type "tuple", isTup d, rfl, .ty _, hv.ty, kit_ty (kit_tup d), isTup d, rfl, ?_⟩
    cases ht : isTup d with
    | false =>
      rw [ht] at q
      rw [if_neg Bool.false_ne_true]
      exact q
    | true =>
      rw [ht] at q
      rw [if_pos rfl]
      obtain ⟨ds, rfl⟩ := tup_of ht
      obtain ⟨a, xs, rfl, hx, hi⟩ := hv.items
      have e : ((itemsD (.tuple ds)).length : Int) = xs.length := by rw [(Paired.len hi)]; rfl
      rw [e] at q
      refine ⟨.int l, rfl, .ref a, rfl, a, xs, rfl, .inr hx, l, xs.length, rfl, rfl, decide (l ≤ (xs.length : Int)), rfl, ?_⟩
      by_cases h1 : l ≤ (xs.length : Int)
      · rw [if_pos (decide_eq_true h1)]
        refine ⟨.int m, rfl, xs.length, m, rfl, rfl, ?_⟩
        rw [decide_eq_true h1] at q
        exact q
      · rw [if_neg (by rw [decide_eq_false h1]; exact Bool.false_ne_true)]
        rw [decide_eq_false h1] at q
        exact q
end
def wholeB : PyData → Int → Int → Bool
  | .int i, l, m => decide (l ≤ i) && decide (i ≤ m)
  | _, _, _ => false
def plainInt : PyData → Bool
  | .int _ => true
  | _ => false
theorem plain_eq (d : PyData) : (isInt d && !isBool d) = plainInt d := by cases d <;> rfl
def spWholeG (K : PySem.W.Frag) : Sp := fun vs H Q _ => ∃ (v : V) (d : PyData), vs = [v] ∧ Th K H v d ∧ Q (.bl (plainInt d)) H
def spWholeInG (K : PySem.W.Frag) : Sp := fun vs H Q _ => ∃ (v : V) (d : PyData) (l m : Int), vs = [v, .int l, .int m] ∧ Th K H v d ∧ Q (.bl (wholeB d l m)) H
section
variable {P : Program} {w : World} {K : PySem.W.Frag} {mg : Str → Option Value} {base : Heap}
theorem ok_wholeG {f : Addr} {fd : FuncData} (F : Fun K "is_whole" "is_whole" sWhole f fd) (B : Bi mg) : FnOk P w K mg base CX0 1 f fd ["thing"] (spWholeG K) := by
  refine F.ok scWhole (fun vs H Q E h => ?_) (fun cdv A outer s H vs Q E hr h => ?_)
  · obtain ⟨v, d, rfl, _⟩ := h; rfl
  · obtain ⟨v, d, rfl, hv, q⟩ := h
    refine ⟨_, pss_one (ps_ret (pe_and (pe_callB call_isi (by rfl) B.isi boot_isinstance (pa_cons (pv 0) (pa_cons (pe_bltn (v := .ty "int") (by rfl) B.int (by decide +kernel) rfl) pa_nil)))
      (pe_one (pe_not (pe_callB call_isi (by rfl) B.isi boot_isinstance (pa_cons (pv 0) (pa_cons (pe_bltn (v := .ty "bool") (by rfl) B.bool (by decide +kernel) rfl) pa_nil))))))), ?_⟩
    refine ⟨v, rfl, v, .ty "int", .type (tyS d), .type "int", isInt d, rfl, .ty _, hv.ty, kit_ty (kit_int d), isInt d, rfl, ?_⟩
    rw [← plain_eq] at q
    cases hi : isInt d with
    | false =>
      rw [hi] at q
      rw [if_neg Bool.false_ne_true]
      exact q
    | true =>
      rw [hi] at q
      rw [if_pos rfl]
      exact ⟨v, rfl, v, .ty "bool", .type (tyS d), .type "bool", isBool d, rfl, .ty _, hv.ty, kit_ty (kit_bool d), isBool d, rfl, q⟩
theorem plain_of {v : V} {d : PyData} {H : Hp} (h : Th K H v d) (hp : plainInt d = true) : ∃ i, d = .int i ∧ v = .int i := by
  cases d <;> first
    | (cases hp; done)
    | skip
  rename_i i
  refine ⟨i, rfl, ?_⟩
  cases h
  rfl
theorem ok_wholeInG {f f1 : Addr} {fd fd1 : FuncData} (F : Fun K "is_whole_in" "is_whole_in" sWholeIn f fd) (F1 : Fun K "is_whole" "is_whole" sWhole f1 fd1) (b1 : Binds K fd1 ["thing"] []) (g1 : mg "is_whole" = some (.ref f1)) (B : Bi mg) :
    FnOk P w K mg base CX0 2 f fd ["thing", "low", "high"] (spWholeInG K) := by
  have G1 : FnOk P w K mg base CX0 1 f1 fd1 ["thing"] (spWholeG K) := ok_wholeG F1 B
  refine F.ok scWholeIn (fun vs H Q E h => ?_) (fun cdv A outer s H vs Q E hr h => ?_)
  · obtain ⟨v, d, l, m, rfl, _⟩ := h; rfl
  · obtain ⟨v, d, l, m, rfl, hv, q⟩ := h
    refine ⟨_, pss_one (ps_ret (pe_and (pe_call G1 hr (by rfl) g1 F1.kp b1 .nil pass0 (pa_cons (pv 0) pa_nil)) (pe_one (pe_chain op_le op_le (pv 1) (pv 0) (pv 2))))), ?_⟩
    refine ⟨v, rfl, v, d, rfl, hv, plainInt d, rfl, ?_⟩
    cases hp : plainInt d with
    | false =>
      rw [if_neg Bool.false_ne_true]
      have z : wholeB d l m = false := by
        cases d <;> first
          | rfl
          | cases hp
      rw [z] at q
      exact q
    | true =>
      rw [if_pos rfl]
      obtain ⟨i, rfl, rfl⟩ := plain_of hv hp
      have z : wholeB (.int i) l m = (decide (l ≤ i) && decide (i ≤ m)) := rfl
      rw [z] at q
      refine ⟨.int l, rfl, .int i, rfl, l, i, rfl, rfl, decide (l ≤ i), rfl, ?_⟩
      by_cases h1 : l ≤ i
      · rw [if_pos (decide_eq_true h1)]
        refine ⟨.int m, rfl, i, m, rfl, rfl, ?_⟩
        rw [decide_eq_true h1] at q
        exact q
      · rw [if_neg (by rw [decide_eq_false h1]; exact Bool.false_ne_true)]
        rw [decide_eq_false h1] at q
        exact q
def spPlacesG (K : PySem.W.Frag) : Sp := fun vs H Q _ => ∃ (v : V) (d : PyData) (b : Addr) (m : Bool) (ms : List Int), vs = [v, .ref b] ∧ Th K H v d ∧ SqX K m H b (ms.map V.int) ∧ ∀ H', Evl.Ex H H' → Q (.bl (placesB d ms)) H'
theorem ok_placesG {f f1 : Addr} {fd fd1 : FuncData} (F : Fun K "are_places" "are_places" sPlaces f fd) (F1 : Fun K "is_tuple_of" "is_tuple_of" sTupOf f1 fd1) (b1 : Binds K fd1 ["thing", "low", "high"] []) (g1 : mg "is_tuple_of" = some (.ref f1)) (B : Bi mg) :
    FnOk P w K mg base CX0 2 f fd ["thing", "manys"] (spPlacesG K) := by
  have G1 : FnOk P w K mg base CX0 1 f1 fd1 ["thing", "low", "high"] (spTupG K) := ok_tupG F1 B
  refine F.ok scPlaces (fun vs H Q E h => ?_) (fun cdv A outer s H vs Q E hr h => ?_)
  · obtain ⟨v, d, b, m, ms, rfl, _⟩ := h; rfl
  · obtain ⟨v, d, b, mm, ms, rfl, hv, hy, q⟩ := h
    refine ⟨_, pss_cons (ps_if (pt_not (pt_val (pe_call G1 hr (by rfl) g1 F1.kp b1 .nil pass0 (pa_cons (pv 0) (pa_cons (pe_callB call_len_seq (by rfl) B.len PySem.boot_len (pa_cons (pv 1) pa_nil)) (pa_cons (pe_callB call_len_seq (by rfl) B.len PySem.boot_len (pa_cons (pv 1) pa_nil)) pa_nil))))))
        (pss_one (ps_ret pe_bl)) pss_nil)
      (pss_cons (ps_for PassesOwn.never rfl (pi_zipX (by rfl) B.zip (pa_cons (pv 0) (pa_cons (pv 1) pa_nil))) (pg_tup rfl (pgs_cons (pg_name (i := 2) scPlaces.nd rfl (.inl rfl)) (pgs_cons (pg_name (i := 3) scPlaces.nd rfl (.inl rfl)) pgs_nil)))
        (pss_one (ps_if (PW.pt (pw_or (pt_val (pe_callB call_isi (by rfl) B.isi boot_isinstance (pa_cons (pv 2) (pa_cons (pe_bltn (v := .ty "bool") (by rfl) B.bool (by decide +kernel) rfl) pa_nil))))
            (pw_or (pt_not (pt_val (pe_callB call_isi (by rfl) B.isi boot_isinstance (pa_cons (pv 2) (pa_cons (pe_bltn (v := .ty "int") (by rfl) B.int (by decide +kernel) rfl) pa_nil)))))
              (pw_or1 (pt_not (pt_chain op_le op_lt pe_int (pv 2) (pv 3)))))))
          (pss_one (ps_ret pe_bl)) pss_nil)))
      (pss_one (ps_ret pe_bl))), ?_⟩
    refine ⟨v, rfl, .ref b, rfl, b, _, rfl, sqx_seq hy, .ref b, rfl, b, _, rfl, sqx_seq hy, v, d, _, _, rfl, hv, _, rfl, ?_⟩
    have lm : ((ms.map V.int).length) = ms.length := List.length_map ..
    cases ht : isTup d with
    | false =>
      have z : placesB d ms = false := by unfold placesB; rw [ht]; rfl
      rw [z] at q
      refine iteT ?_
      exact q H (Evl.Ex.refl H)
    | true =>
      obtain ⟨ds, rfl⟩ := tup_of ht
      obtain ⟨a, xs, rfl, hx, hi⟩ := hv.items
      have xl := (Paired.len hi)
      by_cases hl : ds.length = ms.length
      · have z : (decide (((ms.map V.int).length : Int) ≤ ((itemsD (.tuple ds)).length : Int)) && decide (((itemsD (.tuple ds)).length : Int) ≤ ((ms.map V.int).length : Int))) = true := by
          rw [lm]
          show (decide ((ms.length : Int) ≤ (ds.length : Int)) && decide ((ds.length : Int) ≤ (ms.length : Int))) = true
          rw [hl]
          simp
        rw [z]
        refine iteF ?_
        have pB : placesB (.tuple ds) ms = allP ds ms := by
          show (true && (decide (ds.length = ms.length) && allP ds ms)) = _
          rw [decide_eq_true hl]
          simp
        rw [pB] at q
        refine ⟨.ref a, rfl, .ref b, rfl, false, mm, a, b, xs, ms.map V.int, rfl, hx, hy, ?_⟩
        refine for_it (walk_zx (l := false) (m := mm) (xs := xs) (ys := ms.map V.int) (by rw [lm, xl, hl])) (fun i σ H' => ∃ y2 y3, σ = [some (.ref a), some (.ref b), y2, y3] ∧ Evl.Ex H H' ∧ ∀ j d m, j < i → ds[j]? = some d → ms[j]? = some m → placeB d m = true) ⟨none, none, rfl, Evl.Ex.refl H, fun j _ _ z => absurd z (Nat.not_lt_zero j)⟩ ?_ ?_ ?_
        · rintro i σ H' _ ⟨_, _, _, e, _⟩
          exact ⟨Evl.ex_t e hx, sqx_ex e hy⟩
        · rintro i v σ H1 H2 hii ⟨y2, y3, rfl, e, hall⟩ ⟨T, x, y, rfl, nT, rfl, ex, ey⟩
          obtain ⟨k, hk, rfl⟩ := get_map_int ey
          obtain ⟨dx, hdx, hth⟩ := Paired.get1 hi ex
          have e2 : Evl.Ex H (upd H1 T (.tup [x, .int k])) := e.trans (Evl.Ex.new nT)
          have hth2 := hth.keep (TK.ex e2)
          refine ⟨T, [x, .int k], rfl, .inl (.inl upd_same), rfl, x, [.int k], rfl, .int k, [], rfl, rfl, ?_⟩
          refine ⟨x, rfl, x, .ty "bool", .type (tyS dx), .type "bool", isBool dx, rfl, .ty _, hth2.ty, kit_ty (kit_bool dx), isBool dx, rfl, ?_⟩
          have bad : placeB dx k = false → Q (.bl false) (upd H1 T (.tup [x, .int k])) := fun z => by
            have := q _ e2
            rw [allP_bad hdx hk z] at this
            exact this
          cases hb : isBool dx with
          | true =>
            refine iteT (iteT ?_)
            refine bad ?_
            cases dx <;> first
              | rfl
              | cases hb
          | false =>
            refine iteF ?_
            refine ⟨x, rfl, x, .ty "int", .type (tyS dx), .type "int", isInt dx, rfl, .ty _, hth2.ty, kit_ty (kit_int dx), isInt dx, rfl, ?_⟩
            cases hn : isInt dx with
            | false =>
              refine iteT (iteT ?_)
              refine bad ?_
              cases dx <;> first
                | rfl
                | cases hn
            | true =>
              refine iteF ?_
              obtain ⟨n, rfl, rfl⟩ := hth.int_of hn hb
              refine ⟨.int n, rfl, 0, n, rfl, rfl, decide ((0:Int) ≤ n), rfl, ?_⟩
              by_cases h0 : (0 : Int) ≤ n
              · rw [if_pos (decide_eq_true h0)]
                refine ⟨.int k, rfl, n, k, rfl, rfl, decide (n < k), rfl, ?_⟩
                by_cases h1 : n < k
                · rw [decide_eq_true h1]
                  refine iteF ?_
                  refine ⟨_, _, rfl, e2, fun j d m hj hd hm => ?_⟩
                  by_cases hji : j = i
                  · subst hji
                    rw [hdx] at hd
                    rw [hk] at hm
                    cases hd
                    cases hm
                    show (decide (0 ≤ n) && decide (n < k)) = true
                    rw [decide_eq_true h0, decide_eq_true h1]
                    rfl
                  · exact hall j d m (by omega) hd hm
                · rw [decide_eq_false h1]
                  refine iteT ?_
                  refine bad ?_
                  show (decide (0 ≤ n) && decide (n < k)) = false
                  rw [decide_eq_false h1]
                  simp
              · rw [if_neg (by rw [decide_eq_false h0]; exact Bool.false_ne_true)]
                refine ⟨false, rfl, ?_⟩
                refine iteT ?_
                refine bad ?_
                show (decide (0 ≤ n) && decide (n < k)) = false
                rw [decide_eq_false h0]
                rfl
        · rintro σ H' ⟨y2, y3, rfl, e, hall⟩
          have z2 : allP ds ms = true := allP_all fun i d m hd hm => hall i d m (by
            have := (List.getElem?_eq_some_iff.mp hd).1
            omega) hd hm
          have := q H' e
          rw [z2] at this
          exact this
      · have z : (decide (((ms.map V.int).length : Int) ≤ ((itemsD (.tuple ds)).length : Int)) && decide (((itemsD (.tuple ds)).length : Int) ≤ ((ms.map V.int).length : Int))) = false := by
          rw [lm]
          show (decide ((ms.length : Int) ≤ (ds.length : Int)) && decide ((ds.length : Int) ≤ (ms.length : Int))) = false
          rw [Bool.and_eq_false_iff]
          by_cases h : (ms.length : Int) ≤ ds.length
          · exact .inr (decide_eq_false (by omega))
          · exact .inl (decide_eq_false h)
        rw [z]
        have pB : placesB (.tuple ds) ms = false := by
          show (true && (decide (ds.length = ms.length) && allP ds ms)) = false
          rw [decide_eq_false hl]
          rfl
        rw [pB] at q
        refine iteT ?_
        exact q H (Evl.Ex.refl H)
end
end Wb

set_option Elab.async false
set_option linter.all false
set_option maxRecDepth 100000
set_option maxHeartbeats 4000000
set_option pp.maxSteps 600
set_option pp.deepTerms false
namespace Wb
open PySem PySem.Spec PyProof.Rows L2
/-! ### several clauses, each with a name for what it caught -/
/-- a clause: its class, the name's slot, its suite -/
abbrev Cls3 := Value × Nat × (Addr → Value → Option Addr → TS)
/-- a suite's ends, where the name in slot i is gone -/
def unname (i : Nat) (D : Ends) : Ends := { nx := fun τ G => D.nx (τ.set i none) G, rt := D.rt, bk := fun τ G => D.bk (τ.set i none) G, ct := fun τ G => D.ct (τ.set i none) G }
def wEach (K : PySem.W.Frag) (n : Nat) (out : WX) (D : Ends) : List Cls3 → WX
  | [] => out
  | cl :: more => fun kl dd τ G => ∃ t : Bool, PySem.W.exmOne K kl cl.1 = some t ∧ (t = true → ∀ p, G p = none → τ.length = n → cl.2.2 p kl dd (unname cl.2.1 D) (τ.set cl.2.1 (some (.ref p))) G) ∧ (t = false → wEach K n out D more kl dd τ G)
inductive Each (X : Cx) : List ExceptHandler → List Cls3 → Prop
  | nil : Each X [] []
  | cons {x n : Str} {c : Value} {i : Nat} {ts : Addr → Value → Option Addr → TS} {st0 : Stmt} {sts : List Stmt} {p1 p2 : Pos} {hs : List ExceptHandler} {cls : List Cls3} (nm : Names X x c) (at_ : X.N[i]? = some n) (kd : X.env.kindOf n = some .local)
      (go : ∀ (p : Addr) (o : Obj) (kl : Value) (dd : Option Addr) (pn : List (Addr × Obj)), Zc kl dd o → (∃ us, o.data = .fields us) → PSs (X.suite p ((p, o) :: pn)) (st0 :: sts) (ts p kl dd)) (more : Each X hs cls) :
      Each X (.ExceptHandler (some (.Name x p1)) (some n) (st0 :: sts) p2 :: hs) ((c, i, ts) :: cls)
section
variable {X : Cx} {body : List Stmt} {hd0 : ExceptHandler} {hds : List ExceptHandler} {cls : List Cls3} {pos : Pos} {tb : WX → TS} {out : WX}
theorem ps_try_each (stk : X.stack = X.env :: X.outer) (fr : X.env.frame = some X.env.locals) (nodup : X.N.Nodup) (tk : Takes X out)
    (run : ∀ (W : WX) (pn : List (Addr × Obj)) (xe : Value → Shared → Prop), Takes (X.tr pn xe) W → PassesOwn (model X.prog X.w) X.A X.env xe → PSs (X.tr pn xe) body (tb W))
    (each : Each X (hd0 :: hds) cls) : PS X (.Try body (hd0 :: hds) [] [] pos) (fun D τ G => tb (wEach X.K X.N.length out D cls) D τ G) := by
  constructor
  intro pins t0 τ G D I0 ask
  have fine := I0.ok
  have frames : X.A.frames = some (X.env :: X.outer) := by rw [fine.frames, stk]
  apply wpAny_Try_except
  have inner := (run (wEach X.K X.N.length out D cls) (X.pn ++ pins) (fun e t1 => wpAny (model X.prog X.w) X.A (noteFrame e X.env)
    (fun _ t2 => wpAny (model X.prog X.w) X.A (setFlight e none) (fun _ t3 => wpAny (model X.prog X.w) X.A (handleBy e X.env (hd0 :: hds)) (SP X pins D) X.xe t3) X.xe t2) X.xe t1) ?thrown PassesOwn.looking).run [] t0 τ G D (I0.toTry _) ask
  case thrown =>
    intro u t1 xx
    obtain ⟨p, B, tI, pins1, τ1, G1, kl, dd, rfl, J1, newb, ups, sky1, noG, eos, ages, wish⟩ := xx
    have J : Inv X pins τ1 G1 tI := J1.ofTry fine
    rw [stk] at sky1
    show wpAny (model X.prog X.w) X.A (noteFrame (.ref p) X.env) _ _ _
    apply Sky.land Zc.steady frames fr sky1
    intro hh fly up2
    obtain ⟨ob, us, obAt, obZ, obD⟩ := fly.there
    have noFrame : ∀ {h : Heap} {o : Obj} {vs : Array Value}, h.FunFrames B (X.env :: X.outer) → h.get? p = some o → o.data = .fields vs → p ∉ frs (X.env :: X.outer) := by
      intro h o vs ff e1 e2 hm
      obtain ⟨_, o2, e3, no⟩ := ff.mem hm
      rw [e1] at e3
      cases e3
      exact no _ e2
    have out1 := noFrame fly.2.2.1 obAt obD
    have neL : p ≠ X.env.locals := by
      intro z
      exact out1 (List.mem_filterMap.mpr ⟨X.env, List.mem_cons_self, by rw [fr, z]⟩)
    have neF : p ∉ X.fs := by
      intro hm
      obtain ⟨e, he, q⟩ := List.mem_filterMap.mp hm
      exact out1 (List.mem_filterMap.mpr ⟨e, List.mem_cons_of_mem _ he, q⟩)
    have Jh : Inv X pins τ1 G1 { t1 with heap := hh } := J.landed newb fly.1 (ups.trans up2) eos ages
    have Sh := Jh.suite obAt obD noG neL neF
    -- the clauses, one after the other
    have walk : ∀ {hs : List ExceptHandler} {cl : List Cls3}, Each X hs cl → wEach X.K X.N.length out D cl kl dd τ1 G1 → wpAny (model X.prog X.w) X.A (handleBy (.ref p) X.env hs) (SP X pins D) X.xe { t1 with heap := hh } := by
      intro hs cl ok
      induction ok with
      | nil =>
        intro wish1
        apply wpAny_handleBy_nil
        obtain ⟨_, _, _, o2, v2, T, _, _, q1, _, q2, q3, _⟩ := id fly
        unfold PySem.passOn
        apply wpAny_bind (wpAny_field q1 q2 q3 _)
        rw [if_neg (show ¬ ((Value.ref T == Value.none) = true) from by simp)]
        have lift : wpAny (model X.prog X.w) X.A (setFlight (.ref p) X.env.frame) (fun _ t4 => wpAny (model X.prog X.w) X.A (throw (.ref p) : Sem Flow) (SP X pins D) X.xe t4) X.xe { t1 with heap := hh } := by
          rw [fr]
          apply HandSPX.setFlight_upZ fly
          intro h4 held up4
          apply wpAny_throw
          apply tk
          exact ⟨p, B, tI, pins, τ1, G1, kl, dd, rfl, J, newb, (ups.trans up2).trans up4, .inr (.inr (by rw [stk]; exact held)), noG, eos, ages, wish1⟩
        first
          | exact wpAny_bind (wpAny_pure (wpAny_bind lift))
          | exact wpAny_bind lift
      | @cons x n c i ts st0 sts p1 p2 hs2 cl2 nm at_ kd go more ih =>
        intro wish1
        obtain ⟨t, is_, yes, no⟩ := wish1
        refine wpAny_handleBy_cons (codeAny_handlers_test ?_) (fun z => nomatch z)
        have looks := PySem.W.exm_one (M := model X.prog X.w) Jh.kIn (fun A' Q' E' t' keep q => wpAny_typeOf_ref (keep _ _ obAt) (by rw [obZ.1]; exact q)) is_
        have name : ∀ {Q' E' : Value → Shared → Prop}, Q' c { t1 with heap := hh } → wpAny (model X.prog X.w) (X.A.mark (some (.ref p))) (eval (.Name x p1) X.env) Q' E' { t1 with heap := hh } := by
          intro Q' E' q
          obtain ⟨gl, nd, own | ⟨non, blt, nn⟩⟩ := nm
          · exact ld_glob (X := X.suite p ((p, ob) :: (X.pn ++ pins))) Sh gl own q nd
          · exact ld_blt (X := X.suite p ((p, ob) :: (X.pn ++ pins))) Sh gl non blt q nn nd
        apply name
        apply looks.here
        cases t with
        | false =>
          show wpAny _ X.A (handleBy (.ref p) X.env hs2) _ _ _
          exact ih (no rfl)
        | true =>
          apply codeAny_handlers_suite_as
          apply HandSPX.lands_againZ fly
          intro h4 fly4 up4
          obtain ⟨o4, v4, q1, q2, q3⟩ := fly4.there
          have J4 : Inv X pins τ1 G1 { t1 with heap := h4 } := J.landed newb fly4.1 ((ups.trans up2).trans up4) eos ages
          have S4 := J4.suite q1 q3 noG neL neF
          refine store_ok (X := X.suite p ((p, o4) :: (X.pn ++ pins))) (v := .ref p) S4 nodup at_ (.inl kd) rfl (fun t5 S5 => ?_) (.inr kd)
          have ran := (go p o4 kl dd (X.pn ++ pins) q2 ⟨_, q3⟩).run [] t5 _ G1 _ S5 (yes rfl p noG J.len)
          apply wpAny_mono ran ?_ (fun _ _ z => False.elim z)
          intro fl t6 sp6
          have leave : ∀ {τ6 : L2.St} {G6 : Hp} {Q6 : Shared → Prop}, Inv (X.suite p ((p, o4) :: (X.pn ++ pins))) [] τ6 G6 t6 → (∀ t7, Inv X pins (τ6.set i none) G6 t7 → Q6 t7) →
              wpAny (model X.prog X.w) X.A (do bindName X.env n .none; unbindBehindTheSuite X.env n p2) (fun _ t7 => Q6 t7) X.xe t6 := by
            intro τ6 G6 Q6 S6 hq
            exact gone_ok (S6.unsuite fine) nodup at_ kd hq
          cases fl with
          | next =>
            obtain ⟨τ6, G6, S6, q6⟩ := sp6
            exact leave S6 fun t7 J7 => ⟨_, _, J7, q6⟩
          | brk =>
            obtain ⟨τ6, G6, S6, q6⟩ := sp6
            exact leave S6 fun t7 J7 => ⟨_, _, J7, q6⟩
          | cont =>
            obtain ⟨τ6, G6, S6, q6⟩ := sp6
            exact leave S6 fun t7 J7 => ⟨_, _, J7, q6⟩
          | ret u6 =>
            obtain ⟨v6, τ6, G6, S6, r6, q6⟩ := sp6
            exact leave S6 fun t7 J7 => ⟨_, _, _, J7, r6, q6⟩
    exact walk each wish
  refine wpAny_mono inner (fun fl t1 sp1 => ?_) (fun _ _ z => z)
  cases fl with
  | next =>
    obtain ⟨τ1, G1, J1, q⟩ := sp1
    exact wpAny_execs_nil ⟨τ1, G1, J1.ofTry fine, q⟩
  | brk =>
    obtain ⟨τ1, G1, J1, q⟩ := sp1
    exact ⟨τ1, G1, J1.ofTry fine, q⟩
  | cont =>
    obtain ⟨τ1, G1, J1, q⟩ := sp1
    exact ⟨τ1, G1, J1.ofTry fine, q⟩
  | ret u =>
    obtain ⟨v1, τ1, G1, J1, r1, q⟩ := sp1
    exact ⟨v1, τ1, G1, J1.ofTry fine, r1, q⟩
end
/-- isinstance(e, c), e what this clause caught, of whatever class -/
def rIsO (K : PySem.W.Frag) (kl : Value) (dd : Option Addr) (p : Addr) : List V → Hp → VK → Prop := fun xs H Q => ∃ (D : Addr) (c : V) (cv : Value) (b : Bool), kl = .ref D ∧ dd = none ∧ ExcC K D ∧ xs = [.ref p, c] ∧ (∀ u, RelV c u → u = cv) ∧ PySem.W.kitOne K (.ref D) cv = some b ∧ Q (.bl b) H
theorem call_isO {X : Cx} {p : Addr} {o : Obj} {kl : Value} {dd : Option Addr} {pn : List (Addr × Obj)} (z : Zc kl dd o) (fs : ∃ us, o.data = .fields us) : CallR (X.suite p ((p, o) :: pn)) (.builtin "isinstance") (rIsO X.K kl dd p) := by
  intro pins t τ G xs us Q I r h
  obtain ⟨D, c, cv, b, rfl, rfl, C, e, k1, k2, q⟩ := h
  exact call_isE C z fs pins t τ G xs us Q I r ⟨c, cv, b, e, k1, k2, q⟩
/-! ### raise X(), X an own class of exceptions without a call of its own -/
theorem pmk_own0 {X : Cx} {C : Addr} {bmB : List Value} {B newId initId : String} {x : Str} {p pos : Pos} (F : ExcBaseFacts B newId initId bmB) (q : PySem.W.excIn X.K C bmB newId = true) (gC : X.mg x = some (.ref C))
    (kC : PySem.W.keepIn X.K (.ref C) = true) (r : Raises X (.ref C)) (hg : Gl X x) (hdb : (x == ("__debug__" : Str)) = false := by decide) : PMk X (.Call (.Name x p) [] [] pos) (fun _ G Q => Q (.ref C) none G) := by
  intro pins t τ G Q I h
  apply wpAny_Call_Name_kw
  apply ld_glob I hg gC _ hdb
  apply PySem.W.callWith_K0 I.kIn kC
  obtain ⟨bm, N, nm, qn, bs, hdct, sn, sub, ab, col, dd, k0, k1, k2, k3, k5, mN, hC, hN, hni, T⟩ := exc_obj I.kIn q
  exact wpAny_call_exc_subT F T hC hN hni (fun h1 e hm => mk_of I hm r h (I.hok.gone hm.new)) (Nat.zero_le _)
end Wb

set_option Elab.async false
set_option linter.all false
set_option maxRecDepth 100000
set_option maxHeartbeats 4000000
set_option pp.maxSteps 600
set_option pp.deepTerms false
namespace Wb
open PySem PySem.Spec PyProof.Rows L2
/-! ### the words of bolts that are right one by one -/
theorem cutsFrom_lenN {l : Lock} (ok : BoltsN 60 l) {k : Nat} {w : Word} (hk : k ≤ l.length) (h : cutsFrom l k w) : w.length = k := by
  obtain ⟨j, b, g, u, hj, hb, hg, hu, rfl⟩ := h
  have lu := (((ok.bolts j b hb).gaps g hg).words u hu).1
  have lj : j < l.length := (List.getElem?_eq_some_iff.mp hb).1
  unfold manysOf at lu
  rw [List.length_map, List.length_take] at lu
  rw [List.length_take]
  omega
/-- the words at k: those at k + 1 cut, and the bolt's own -/
theorem cuts_stepN {l : Lock} (ok : BoltsN 60 l) {k : Nat} {b : Bolt} (hb : l[k]? = some b) (w : Word) :
    cutsFrom l k w ↔ (∃ u, cutsFrom l (k + 1) u ∧ w = u.take k) ∨ ∃ g ∈ b.gaps, w ∈ g.ways := by
  constructor
  · rintro ⟨j, b', g, u, hj, hb', hg, hu, rfl⟩
    by_cases e : j = k
    · subst e
      rw [hb] at hb'
      cases hb'
      have lu := (((ok.bolts j b hb).gaps g hg).words u hu).1
      have lj : j < l.length := (List.getElem?_eq_some_iff.mp hb).1
      unfold manysOf at lu
      rw [List.length_map, List.length_take] at lu
      refine .inr ⟨g, hg, ?_⟩
      rw [List.take_of_length_le (by omega)]
      exact hu
    · refine .inl ⟨u.take (k + 1), ⟨j, b', g, u, by omega, hb', hg, hu, rfl⟩, ?_⟩
      rw [List.take_take, Nat.min_eq_left (Nat.le_succ k)]
  · rintro (⟨u, ⟨j, b', g, u', hj, hb', hg, hu, rfl⟩, rfl⟩ | ⟨g, hg, hw⟩)
    · refine ⟨j, b', g, u', by omega, hb', hg, hu, ?_⟩
      rw [List.take_take, Nat.min_eq_left (Nat.le_succ k)]
    · have lu := (((ok.bolts k b hb).gaps g hg).words w hw).1
      have lj : k < l.length := (List.getElem?_eq_some_iff.mp hb).1
      unfold manysOf at lu
      rw [List.length_map, List.length_take] at lu
      refine ⟨k, b, g, w, Nat.le_refl _, hb, hg, hw, ?_⟩
      rw [List.take_of_length_le (by omega)]
def spWordsN (K : PySem.W.Frag) : Sp := fun vs H Q _ => ∃ (v : V) (l : Lock), vs = [v] ∧ LockAt K H v l ∧ BoltsN 60 l ∧
  ∀ H' p (rs : List Addr), Evl.Ex H H' → H p = none → H' p = some (.lst (rs.map V.ref)) → rs.length = l.length →
    (∀ k r, rs[k]? = some r → H r = none ∧ ∃ ws, RowAt K H' r ws ∧ WordsAt l k ws) → Q (.ref p) H'

section
variable {P : Program} {w : World} {K : PySem.W.Frag} {mg : Str → Option Value} {base : Heap}
theorem few_cutsS {l : Lock} (ok : BoltsN 60 l) {k : Nat} (hk : k < l.length) {cur : List Word} (h1 : cur.Nodup) (h2 : ∀ u ∈ cur, cutsFrom l k u) : cur.length < sizeLine :=
  Nat.lt_of_le_of_lt (few_cutsN ok h1 h2) (by decide)
theorem ok_wordsN {f : Addr} {fd : FuncData} (F : Fun K "words_of" "words_of" sWords f fd) (B : Bi mg) : FnOk P w K mg base CX0 1 f fd ["lock"] (spWordsN K) := by
  refine F.ok scWords (fun vs H Q E h => ?_) (fun cdv A outer s H vs Q E hr h => ?_)
  · obtain ⟨v, l, rfl, _⟩ := h; rfl
  · obtain ⟨v, l, rfl, ⟨a, bs, rfl, hx, hp⟩, ok, q⟩ := h
    have hu := hu_of hr
    refine ⟨_, pss_cons (ps_set (i := 1) scWords.nd rfl (.inl rfl) (pe_lst pa_nil))
      (pss_cons (ps_set (i := 2) scWords.nd rfl (.inl rfl) (pe_lst pa_nil))
      (pss_cons (ps_for PassesOwn.never rfl (pi_revR (by rfl) B.rev (prg_1 (by rfl) B.range (pe_callB call_len_seq (by rfl) B.len PySem.boot_len (pa_cons (pv 0) pa_nil)))) (pg_name (i := 3) scWords.nd rfl (.inl rfl))
        (pss_cons (ps_set (i := 4) scWords.nd rfl (.inl rfl) pe_dnewT)
        (pss_cons (ps_for PassesOwn.never rfl (pi_list (pv 2)) (pg_name (i := 5) scWords.nd rfl (.inl rfl))
          (pss_one (ps_dput hu (pv 4) (pe_slice sl_tupA (pv 5) po_none (po_some (pv 3))) pe_bl rfl)))
        (pss_cons (ps_for PassesOwn.never rfl (pi_tup (pe_ix ix_tup (pe_ix ix_tup (pv 0) (pv 3) (fun _ _ => rfl)) pe_int (fun _ _ => rfl))) (pg_name (i := 6) scWords.nd rfl (.inl rfl))
          (pss_one (ps_for PassesOwn.never rfl (pi_tup (pe_ix ix_tup (pv 6) pe_int (fun _ _ => rfl))) (pg_name (i := 7) scWords.nd rfl (.inl rfl))
            (pss_one (ps_dput hu (pv 4) (pv 7) pe_bl rfl)))))
        (pss_cons (ps_set (i := 2) scWords.nd rfl (.inl rfl) (pe_callTy (call_list_dT rfl) (by rfl) B.list (PyProof.Rows.boot_list) (pa_cons (pv 4) pa_nil)))
        (pss_one (ps_expr (pe_bm PySem.F.plainAttrs_list PySem.F.slot_list_append PySem.F.type_list_append mt_append (pv 1) (pa_cons (pv 2) pa_nil)))))))))
      (pss_one (ps_ret (pe_revL (pv 1)))))), ?_⟩
    have bl : bs.length = l.length := Paired.len hp
    have n60 := ok.n1
    refine ⟨Nat.zero_le _, fun r0 nr0 => ?_⟩
    refine ⟨Nat.zero_le _, fun a0 na0 => ?_⟩
    have x1 : Evl.Ex H (upd H r0 (.lst [])) := Evl.Ex.new nr0
    have na0' : H a0 = none := Evl.fresh_back x1 na0
    have nar : r0 ≠ a0 := fun z => by rw [← z, upd_same] at na0; cases na0
    refine ⟨.ref a, rfl, a, bs, rfl, .inr (Evl.ex_t (x1.trans (Evl.Ex.new na0)) hx), _, rfl, by omega, by omega, by omega, by omega, ?_⟩
    refine for_rangeC (lo := _) (c := -1) (n := _) (fun i σ H' => ∃ (aA : Addr) (rs : List Addr) (ws : List Word) (y3 y4 y5 y6 y7 : Option V), σ = [some (.ref a), some (.ref r0), some (.ref aA), y3, y4, y5, y6, y7] ∧
        Evl.Ex H H' ∧ RowAt K H' aA ws ∧ WordsAt l (l.length - i) ws ∧ H' r0 = some (.lst (rs.map V.ref)) ∧ rs.length = i ∧
        ∀ j r, rs[j]? = some r → r ≠ r0 ∧ H r = none ∧ ∃ ws', RowAt K H' r ws' ∧ WordsAt l (l.length - 1 - j) ws')
      ⟨a0, [], [], none, none, none, none, none, rfl, x1.trans (Evl.Ex.new na0), ⟨[], upd_same, .nil⟩, ⟨List.nodup_nil, fun w => ?_⟩, by rw [upd_ne nar, upd_same]; rfl, rfl, fun j r e => by simp at e⟩ ?_ ?_
    · constructor
      · intro z; cases z
      · rintro ⟨j, b, g, u, hj, hb, _⟩
        have := (List.getElem?_eq_some_iff.mp hb).1
        omega
    · rintro i σ H1 hi ⟨aA, rs, ws, y3, y4, y5, y6, y7, rfl, e1, hA, hW, hR, hl, hrs⟩
      have hi' : i < l.length := by omega
      -- the bolt's number
      have ek : (0 : Int) + (((((bs.length : Nat) : Int) - 0).toNat : Nat) : Int) - 1 + (i : Nat) * (-1) = ((l.length - 1 - i : Nat) : Int) := by rw [bl]; omega
      rw [ek]
      generalize hk : l.length - 1 - i = k at *
      have hkl : k < l.length := by omega
      have hk1 : l.length - i = k + 1 := by omega
      rw [hk1] at hW
      obtain ⟨b, hb⟩ : ∃ b, l[k]? = some b := ⟨l[k], List.getElem?_eq_getElem hkl⟩
      obtain ⟨vb, hvb, hba⟩ := Paired.get2 hp hb
      obtain ⟨us, hAu, hAp⟩ := hA
      have ul : us.length = ws.length := Paired.len hAp
      intro d nd
      have nd0 : H d = none := Evl.fresh_back e1 nd
      have ndr : d ≠ r0 := fun z => by rw [z, hR] at nd; cases nd
      have e2 : Evl.Ex H1 (upd H1 d (.dT [])) := Evl.Ex.new nd
      -- the words above, cut
      refine ⟨.ref aA, rfl, aA, rfl, ⟨us, .inl (.inl (e2 _ _ hAu))⟩, for_list (K := K) (a := aA) (xs := us) (fun j σ H' => ∃ (cur : List Word) (y5 : Option V), σ = [some (.ref a), some (.ref r0), some (.ref aA), some (.int (k : Nat)), some (.ref d), y5, y6, y7] ∧
          Evl.Ex H1 H' ∧ H' d = some (.dT (kws cur fun _ => .bl true)) ∧ cur.Nodup ∧ ∀ u, u ∈ cur ↔ ∃ t ∈ ws.take j, u = t.take k) ⟨[], y5, rfl, e2, upd_same, List.nodup_nil, fun u => by simp⟩ ?_ ?_ ?_⟩
      · rintro j σ H' _ ⟨cur, z5, _, e, _⟩
        exact .inl (.inl (e _ _ hAu))
      · rintro j x σ H' hj ⟨cur, z5, rfl, e3, hd, nc, hc⟩
        obtain ⟨t, ht, ⟨ax, rfl, hax⟩⟩ := Paired.get1 hAp hj
        have htw : t ∈ ws := List.mem_of_getElem? ht
        have hcut : cutsFrom l (k + 1) t := (hW.2 t).mp htw
        have lt1 : t.length = k + 1 := cutsFrom_lenN ok (by omega) hcut
        have hcur : ∀ u ∈ cur, cutsFrom l k u := by
          intro u hu
          obtain ⟨t', ht', rfl⟩ := (hc u).mp hu
          exact (cuts_stepN ok hb _).mpr (.inl ⟨t', (hW.2 t').mp (List.mem_of_mem_take ht'), rfl⟩)
        have lc := few_cutsS ok hkl nc hcur
        refine ⟨.ref d, rfl, .ref ax, rfl, .int (k : Nat), rfl, (k : Nat), rfl, ax, _, rfl, .inl (.inl (e3 _ _ hax)), fun z => absurd (slice_whole z.2) (by rw [List.length_map]; omega), fun _ p np => ?_⟩
        rw [cut_take, ← List.map_take]
        have npd : p ≠ d := fun z => by rw [z, hd] at np; cases np
        have e4 := Evl.Ex.new (o := .tup ((t.take k).map V.int)) np
        refine ⟨d, _, rfl, DPut.t (k := keyW (t.take k)) (e4 _ _ hd) (by rw [keyW_kV]; exact upd_same) (by rw [kws_len]; exact lc), ?_⟩
        refine ⟨addW cur (t.take k), _, rfl, (e3.trans e4).mut nd, by rw [upd_same, put_kws], nodup_addW nc, fun u => ?_⟩
        rw [mem_addW, hc u, take_succ_get ht]
        constructor
        · rintro (⟨t', h1, h2⟩ | rfl)
          · exact ⟨t', List.mem_append_left _ h1, h2⟩
          · exact ⟨t, by simp, rfl⟩
        · rintro ⟨t', h1, h2⟩
          rcases List.mem_append.mp h1 with h1 | h1
          · exact .inl ⟨t', h1, h2⟩
          · have : t' = t := by simpa using h1
            subst this
            exact .inr h2
      · rintro σ H2 ⟨cur0, z5, rfl, e3, hd, nc0, hc0⟩
        rw [ul, List.take_length] at hc0
        obtain ⟨ab, cg, gs, rfl, hb1, hb2, hb3⟩ := hba
        have e13 := e1.trans e3
        have gl : gs.length = b.gaps.length := Paired.len hb3
        -- the bolt's own ways
        refine ⟨.ref a, rfl, .int (k : Nat), rfl, a, bs, (k : Nat), .ref ab, rfl, rfl, Evl.ex_t e13 hx, atI_nat hvb, ab, _, 1, .ref cg, rfl, rfl, Evl.ex_t e13 hb1, atI_nat (j := 1) rfl, cg, rfl, ⟨gs, Evl.ex_t e13 hb2⟩,
          for_tup (K := K) (a := cg) (xs := gs) (fun j σ H' => ∃ (cur : List Word) (y6 y7 : Option V), σ = [some (.ref a), some (.ref r0), some (.ref aA), some (.int (k : Nat)), some (.ref d), z5, y6, y7] ∧
            Evl.Ex H1 H' ∧ H' d = some (.dT (kws cur fun _ => .bl true)) ∧ cur.Nodup ∧ ∀ u, u ∈ cur ↔ (∃ t ∈ ws, u = t.take k) ∨ ∃ g ∈ b.gaps.take j, u ∈ g.ways) ⟨cur0, y6, y7, rfl, e3, hd, nc0, fun u => by rw [hc0]; simp⟩ ?_ ?_ ?_⟩
        · rintro j σ H' _ ⟨cur, _, _, _, e, _⟩
          exact Evl.ex_t (e1.trans e) hb2
        · rintro j x σ H' hj ⟨cur, z6, z7, rfl, e4, hd4, nc, hc⟩
          obtain ⟨g, hgj, ⟨ag, bg, wv, rfl, hg1, hg2, hg3⟩⟩ := Paired.get1 hb3 hj
          have hgm : g ∈ b.gaps := List.mem_of_getElem? hgj
          have e14 := e1.trans e4
          have wl : wv.length = g.ways.length := Paired.len hg3
          refine ⟨.ref ag, rfl, ag, _, 3, .ref bg, rfl, rfl, Evl.ex_t e14 hg1, atI_nat (j := 3) rfl, bg, rfl, ⟨wv, Evl.ex_t e14 hg2⟩,
            for_tup (K := K) (a := bg) (xs := wv) (fun m σ H' => ∃ (cur : List Word) (y7 : Option V), σ = [some (.ref a), some (.ref r0), some (.ref aA), some (.int (k : Nat)), some (.ref d), z5, some (.ref ag), y7] ∧
              Evl.Ex H1 H' ∧ H' d = some (.dT (kws cur fun _ => .bl true)) ∧ cur.Nodup ∧ ∀ u, u ∈ cur ↔ ((∃ t ∈ ws, u = t.take k) ∨ ∃ g ∈ b.gaps.take j, u ∈ g.ways) ∨ u ∈ g.ways.take m) ⟨cur, z7, rfl, e4, hd4, nc, fun u => by rw [hc]; simp⟩ ?_ ?_ ?_⟩
          · rintro m σ H' _ ⟨_, _, _, e, _⟩
            exact Evl.ex_t (e1.trans e) hg2
          · rintro m x σ H3 hm ⟨cur, z7, rfl, e5, hd5, nc, hc⟩
            obtain ⟨t, ht, ⟨ax, rfl, hax⟩⟩ := Paired.get1 hg3 hm
            have hcur : ∀ u ∈ cur, cutsFrom l k u := by
              intro u hu
              rcases (hc u).mp hu with (⟨t', ht', rfl⟩ | ⟨g', hg', hu'⟩) | hu'
              · exact (cuts_stepN ok hb _).mpr (.inl ⟨t', (hW.2 t').mp ht', rfl⟩)
              · exact (cuts_stepN ok hb _).mpr (.inr ⟨g', List.mem_of_mem_take hg', hu'⟩)
              · exact (cuts_stepN ok hb _).mpr (.inr ⟨g, hgm, List.mem_of_mem_take hu'⟩)
            have lc := few_cutsS ok hkl nc hcur
            refine ⟨.ref d, rfl, .ref ax, rfl, d, _, rfl, DPut.t (k := keyW t) hd5 (by rw [keyW_kV]; exact (e1.trans e5) _ _ hax) (by rw [kws_len]; exact lc), ?_⟩
            refine ⟨addW cur t, _, rfl, e5.mut nd, by rw [upd_same, put_kws], nodup_addW nc, fun u => ?_⟩
            rw [mem_addW, hc u, take_succ_get ht, List.mem_append, or_assoc]
            simp
          · rintro σ H3 ⟨cur, z7, rfl, e5, hd5, nc, hc⟩
            refine ⟨cur, _, _, rfl, e5, hd5, nc, fun u => ?_⟩
            rw [hc u, wl, List.take_length, take_succ_get hgj, or_assoc]
            simp only [List.mem_append, List.mem_singleton]
            constructor
            · rintro (h | ⟨g', h1, h2⟩ | h)
              · exact .inl h
              · exact .inr ⟨g', .inl h1, h2⟩
              · exact .inr ⟨g, .inr rfl, h⟩
            · rintro (h | ⟨g', h1 | h1, h2⟩)
              · exact .inl h
              · exact .inr (.inl ⟨g', h1, h2⟩)
              · exact .inr (.inr (h1 ▸ h2))
        · rintro σ H2 ⟨cur, z6, z7, rfl, e4, hd4, nc, hc⟩
          rw [gl, List.take_length] at hc
          have hcur : ∀ u, u ∈ cur ↔ cutsFrom l k u := by
            intro u
            rw [hc u, cuts_stepN ok hb u]
            constructor
            · rintro (⟨t, h1, h2⟩ | h)
              · exact .inl ⟨t, (hW.2 t).mp h1, h2⟩
              · exact .inr h
            · rintro (⟨t, h1, h2⟩ | h)
              · exact .inl ⟨t, (hW.2 t).mpr h1, h2⟩
              · exact .inr h
          refine ⟨.ref d, rfl, d, _, rfl, .inl hd4, fun p qs np hk' => ?_⟩
          have hrows := isKeys_rows (K := K) hk'
          have e5 := Evl.Ex.new (o := .lst (qs.map V.ref)) np
          have npr : p ≠ r0 := fun z => by rw [z, e4 _ _ hR] at np; cases np
          have hR5 : (upd H2 p (.lst (qs.map V.ref))) r0 = some (.lst (rs.map V.ref)) := e5 _ _ (e4 _ _ hR)
          refine ⟨.ref r0, rfl, .inl ⟨rfl, _, SqL.of hR5⟩, .ref p, rfl, r0, _, _, rfl, rfl, hR5, ?_, ?_⟩
          · rw [List.length_map, hl]
            exact Nat.lt_of_lt_of_le (show i < 61 by omega) (by decide)
          · have e15 : Evl.Ex H1 (upd H2 p (.lst (qs.map V.ref))) := e4.trans e5
            have keep : ∀ {r : Addr} {ws' : List Word} {Hx : Hp}, r ≠ r0 → RowAt K Hx r ws' → Hx r0 ≠ none → (∀ xs, Hx r0 ≠ some (.tup xs)) → ∀ o, RowAt K (upd Hx r0 o) r ws' := by
              rintro r ws' Hx hne ⟨us', h1, h2⟩ _ ht o
              refine ⟨us', by rw [upd_ne hne]; exact h1, Paired.imp (fun v w' h => ?_) h2⟩
              obtain ⟨ax, rfl, hax⟩ := h
              exact ⟨ax, rfl, by rw [upd_ne (fun z => ht _ (z ▸ hax))]; exact hax⟩
            have nn : (upd H2 p (.lst (qs.map V.ref))) r0 ≠ none := by rw [hR5]; exact fun z => nomatch z
            have nt : ∀ xs, (upd H2 p (.lst (qs.map V.ref))) r0 ≠ some (.tup xs) := fun xs z => by rw [hR5] at z; cases z
            have hP : RowAt K (upd H2 p (.lst (qs.map V.ref))) p cur := ⟨qs.map V.ref, upd_same, Paired.imp (fun _ _ => wd_ex e5) hrows⟩
            have hWk : WordsAt l k cur := ⟨nc, hcur⟩
            refine ⟨p, rs ++ [p], cur, _, _, _, _, _, rfl, (e1.trans e15).mut nr0, keep npr hP nn nt _, ?_, by rw [upd_same, List.map_append]; rfl, by simp [hl], ?_⟩
            · rw [show l.length - (i + 1) = k by omega]
              exact hWk
            · intro j r hj
              by_cases hjl : j < rs.length
              · rw [List.getElem?_append_left hjl] at hj
                obtain ⟨h1, h0, ws', h2, h3⟩ := hrs j r hj
                exact ⟨h1, h0, ws', keep h1 (h2.ex e15) nn nt _, h3⟩
              · rw [List.getElem?_append_right (by omega)] at hj
                have : j = rs.length := by
                  by_cases e : j - rs.length = 0
                  · omega
                  · rw [List.getElem?_eq_none (by simp; omega)] at hj; cases hj
                subst this
                rw [Nat.sub_self] at hj
                have er : r = p := (Option.some.inj hj).symm
                subst er
                exact ⟨npr, Evl.fresh_back (e1.trans e4) np, cur, keep npr hP nn nt _, by rw [hl, hk]; exact hWk⟩
    · rintro σ H1 ⟨aA, rs, ws, y3, y4, y5, y6, y7, rfl, e1, hA, hW, hR, hl, hrs⟩
      have hl' : rs.length = l.length := by rw [hl, bl]; omega
      refine ⟨.ref r0, rfl, r0, _, rfl, .inl (.inl hR), fun p np => ?_⟩
      rw [← List.map_reverse]
      have e2 := Evl.Ex.new (o := .lst (rs.reverse.map V.ref)) np
      refine q _ p rs.reverse (e1.trans e2) (Evl.fresh_back e1 np) upd_same (by rw [List.length_reverse, hl']) ?_
      intro k r hk
      have hk2 : k < rs.reverse.length := (List.getElem?_eq_some_iff.mp hk).1
      rw [List.length_reverse] at hk2
      rw [List.getElem?_reverse hk2] at hk
      obtain ⟨_, h0, ws', h2, h3⟩ := hrs _ r hk
      refine ⟨h0, ws', h2.ex e2, ?_⟩
      rw [show l.length - 1 - (rs.length - 1 - k) = k by omega] at h3
      exact h3
end
end Wb

set_option Elab.async false
set_option linter.all false
set_option maxRecDepth 100000
set_option maxHeartbeats 4000000
set_option pp.maxSteps 600
set_option pp.deepTerms false
namespace Wb
open PySem PySem.Spec PyProof.Rows L2
/-! ### what is wrong with a thing that is asked whether it is a lock -/
abbrev lockF : PyData := .tuple [.str "lock"]
/-- things that are no locks, and what is wrong with them -/
abbrev gapZ : PyData := .tuple [.int 0, .int 0, .int 1, .tuple []]
def BadB (d : PyData) : Prop := d = .tuple [.int 5, .tuple []] ∨ d = .tuple [.int 2, .tuple [gapZ]]
def BadD (d f : PyData) : Prop := (d = .int 5 ∧ f = lockF) ∨ (d = .tuple [] ∧ f = lockF) ∨ (∃ b, BadB b ∧ d = .tuple [b] ∧ f = .tuple [.str "bolt", .int 0])
def spFaultN (K : PySem.W.Frag) : Sp := fun vs H Q _ => ∃ (v : V) (l : Lock), vs = [v] ∧ LockAt K H v l ∧ BoltsN 120 l ∧ (faultD l = none → ∀ H', Evl.Ex H H' → Q .non H') ∧ ∀ d, faultD l = some d → ∀ H' z, Evl.Ex H H' → Dp K H' (.ref z) d → Q (.ref z) H'
def spFaultB (K : PySem.W.Frag) : Sp := fun vs H Q _ => ∃ (v : V) (d f : PyData), vs = [v] ∧ Th K H v d ∧ BadD d f ∧ ∀ H' z, Evl.Ex H H' → Dp K H' (.ref z) f → Q (.ref z) H'
def spGapZ (K : PySem.W.Frag) : Sp := fun vs H Q _ => ∃ (v : V) (b : Addr), vs = [v, .int 2, .ref b] ∧ Th K H v gapZ ∧ ∀ H', Evl.Ex H H' → Q (.bl false) H'
def spBoltB (K : PySem.W.Frag) : Sp := fun vs H Q _ => ∃ (v : V) (d : PyData) (b : Addr), vs = [v, .ref b] ∧ Th K H v d ∧ BadB d ∧ ∀ H', Evl.Ex H H' → Q (.bl false) H'
section
variable {P : Program} {w : World} {K : PySem.W.Frag} {mg : Str → Option Value} {base : Heap}
theorem fnOk_or {CX : CXT} {k : Nat} {f : Addr} {fd : FuncData} {ps : List Str} {sp sp' : Sp} (F : FnOk P w K mg base CX k f fd ps sp) (G : FnOk P w K mg base CX k f fd ps sp') : FnOk P w K mg base CX k f fd ps (fun vs H Q E => sp vs H Q E ∨ sp' vs H Q E) :=
  ⟨fun vs H Q E h => h.elim (F.len vs H Q E) (G.len vs H Q E), fun A outer s H args us vs Q E a b c d h => h.elim (F.run A outer s H args us vs Q E a b c d) (G.run A outer s H args us vs Q E a b c d)⟩
theorem ok_faultN (D : Pr K mg) : FnOk P w K mg base CX0 6 D.f19 D.d19 ["thing"] (spFaultN K) := by
  have G3 : FnOk P w K mg base CX0 1 D.f3 D.d3 ["thing", "low", "high"] (spTupOf K) := ok_tupOf D.F3 D.B
  have G20 : FnOk P w K mg base CX0 5 D.f20 D.d20 ["thing", "below"] (spBolt K) := ok_bolt D.F20 D.F3 D.b3 D.g3 D.F4 D.b4 D.g4 D.F2 D.b2 D.g2 D.F22 D.b22 D.g22 D.F1 D.b1 D.g1 D.F21 D.b21 D.g21 D.B D.N
  have G10 : FnOk P w K mg base CX0 1 D.f10 D.d10 ["lock"] (spWordsN K) := ok_wordsN D.F10 D.B
  obtain ⟨tb, eb⟩ := D.N.bolts
  obtain ⟨tw, ew⟩ := D.N.words
  refine D.F19.ok scFault (fun vs H Q E h => ?_) (fun cdv A outer s H vs Q E hr h => ?_)
  · obtain ⟨v, l, rfl, _⟩ := h; rfl
  · obtain ⟨v, l, rfl, ⟨a, bs, rfl, hx, hp⟩, ok, q1, q2⟩ := h
    have hr1 : Room 1 _ := hr.mono (by decide)
    refine ⟨_, pss_cons (ps_if (pt_not (pt_val (pe_call G3 hr1 (by rfl) D.g3 D.F3.kp D.b3 .nil pass0 (pa_cons (pv 0) (pa_cons pe_int (pa_cons (pe_glob (v := .int 60) (by rfl) eb ⟨_, rfl⟩) pa_nil)))))) (pss_one (ps_ret (pe_tup (pa_cons pe_str pa_nil)))) pss_nil)
      (pss_cons (ps_set (i := 1) scFault.nd rfl (.inl rfl) (pe_lst pa_nil))
      (pss_cons (ps_for PassesOwn.never rfl (pi_enumT (by rfl) D.B.enum (pa_cons (pv 0) pa_nil)) (pg_tup rfl (pgs_cons (pg_name (i := 2) scFault.nd rfl (.inl rfl)) (pgs_cons (pg_name (i := 3) scFault.nd rfl (.inl rfl)) pgs_nil)))
        (pss_cons (ps_if (pt_not (pt_val (pe_call G20 hr (by rfl) D.g20 D.F20.kp D.b20 .nil pass0 (pa_cons (pv 3) (pa_cons (pv 1) pa_nil))))) pss_never pss_nil)
        (pss_one (ps_expr (pe_bm PySem.F.plainAttrs_list PySem.F.slot_list_append PySem.F.type_list_append mt_append (pv 1) (pa_cons (pe_ix ix_tup (pv 3) pe_int (fun _ _ => rfl)) pa_nil))))))
      (pss_cons (ps_for PassesOwn.never rfl (pi_enum (by rfl) D.B.enum (pa_cons (pe_call G10 hr1 (by rfl) D.g10 D.F10.kp D.b10 .nil pass0 (pa_cons (pv 0) pa_nil)) pa_nil)) (pg_tup rfl (pgs_cons (pg_name (i := 2) scFault.nd rfl (.inl rfl)) (pgs_cons (pg_name (i := 4) scFault.nd rfl (.inl rfl)) pgs_nil)))
        (pss_one (ps_if (pt_cmpR op_gt (pe_callB call_len_seq (by rfl) D.B.len PySem.boot_len (pa_cons (pv 4) pa_nil)) (pe_glob (v := .int 8) (by rfl) ew ⟨_, rfl⟩) (nomark _)) (pss_one (ps_ret (pe_tup (pa_cons pe_str (pa_cons (pv 2) pa_nil))))) pss_nil)))
      (pss_one (ps_ret pe_non))))), ?_⟩
    have bl : bs.length = l.length := Paired.len hp
    have n0 := ok.n0
    have n60 := ok.n1
    refine ⟨.ref a, rfl, a, bs, 1, 60, rfl, hx, _, rfl, ?_⟩
    have z1 : decide ((1 : Int) ≤ (bs.length : Int)) = true := decide_eq_true (by omega)
    rw [z1]
    by_cases c60 : 60 < l.length
    · have z2 : decide ((bs.length : Int) ≤ 60) = false := decide_eq_false (by omega)
      rw [z2]
      refine iteT ?_
      refine ⟨(by show 1 ≤ sizeLine; decide), fun z nz => ?_⟩
      exact q2 _ (by unfold faultD; rw [if_pos c60]) _ z (Evl.Ex.new nz) (.tup (.inl (.inl upd_same)) (.cons (.str _) .nil))
    have z2 : decide ((bs.length : Int) ≤ 60) = true := decide_eq_true (by omega)
    rw [z2]
    refine iteF ?_
    have ok : BoltsN 60 l := ⟨ok.n0, by omega, ok.bolts⟩
    have n60 := ok.n1
    refine ⟨Nat.zero_le _, fun r0 nr0 => ?_⟩
    have x1 : Evl.Ex H (upd H r0 (.lst [])) := Evl.Ex.new nr0
    refine ⟨.ref a, rfl, a, bs, rfl, Evl.ex_t x1 hx, ?_⟩
    refine for_it (walk_et (xs := bs)) (fun i σ H' => ∃ (y2 y3 y4 : Option V), σ = [some (.ref a), some (.ref r0), y2, y3, y4] ∧ Evl.Ex H H' ∧ H' r0 = some (.lst (((manysOf l).take i).map V.int))) ⟨none, none, none, rfl, x1, upd_same⟩ ?_ ?_ ?_
    · rintro i σ H' _ ⟨_, _, _, _, e, _⟩
      exact Evl.ex_t e hx
    · rintro i v σ H1 H2 hi ⟨y2, y3, y4, rfl, e1, hR⟩ ⟨T, x, y, rfl, nT, rfl, ex, ey⟩
      cases ex
      have ey' : bs[i]? = some y := ey
      obtain ⟨b, hb, hba⟩ := Paired.get1 hp ey'
      have e2 := Evl.Ex.new (o := .tup [.int (i : Nat), y]) nT
      generalize hH2 : upd H1 T (.tup [.int (i : Nat), y]) = H2 at e2
      have hT2 : H2 T = some (.tup [.int (i : Nat), y]) := by rw [← hH2]; exact upd_same
      have e12 := e1.trans e2
      have hR2 := e2 _ _ hR
      have bok := ok.bolts i b hb
      refine ⟨T, _, rfl, .inl (.inl hT2), rfl, _, _, rfl, _, _, rfl, rfl, ?_⟩
      refine ⟨y, rfl, .ref r0, rfl, y, r0, b, manysOf (l.take i), rfl, hba.mono (TX.ex e12), ?_, bok, fun H3 e3 => ?_⟩
      · rw [manysOf_take]
        exact .inl (.inl hR2)
      refine ⟨true, rfl, iteF ?_⟩
      obtain ⟨ab, cg, gs, rfl, hb1, hb2, hb3⟩ := hba
      have hR3 := e3 _ _ hR2
      refine ⟨.ref r0, rfl, .inl ⟨rfl, _, SqL.of hR3⟩, .ref ab, rfl, ab, _, 0, .int b.many, rfl, rfl, Evl.ex_t (e12.trans e3) hb1, atI_nat (j := 0) rfl, r0, _, _, rfl, rfl, hR3, ?_, ?_⟩
      · rw [List.length_map, List.length_take]
        have : i < 61 := by rw [bl] at hi; omega
        exact Nat.lt_of_le_of_lt (Nat.min_le_left _ _) (Nat.lt_of_lt_of_le this (by decide))
      · have mm : (manysOf l)[i]? = some b.many := by
          unfold manysOf
          rw [List.getElem?_map, hb]
          rfl
        refine ⟨_, _, _, rfl, (e12.trans e3).mut nr0, ?_⟩
        rw [upd_same, take_succ_get mm, List.map_append]
        rfl
    · rintro σ H1 ⟨y2, y3, y4, rfl, e1, hR⟩
      refine ⟨.ref a, rfl, .ref a, l, rfl, ⟨a, bs, rfl, Evl.ex_t e1 hx, Paired.imp (fun _ _ => BoltAt.mono (TX.ex e1)) hp⟩, ok, fun H2 pw rs e2 npw hpw rl hrs => ?_⟩
      refine ⟨pw, rs.map V.ref, rfl, .inl (.inl hpw), ?_⟩
      refine for_it (walk_enum (xs := rs.map V.ref)) (fun i σ H' => ∃ (y2 y3 y4 : Option V), σ = [some (.ref a), some (.ref r0), y2, y3, y4] ∧ Evl.Ex H2 H' ∧ ∀ k, k < i → badAt l k = false) ⟨_, _, _, rfl, Evl.Ex.refl _, fun k hk => absurd hk (Nat.not_lt_zero k)⟩ ?_ ?_ ?_
      · rintro i σ H' _ ⟨_, _, _, _, e, _⟩
        exact .inl (.inl (e _ _ hpw))
      · rintro i v σ H3 H4 hi ⟨z2, z3, z4, rfl, e3, nb⟩ ⟨T, x, y, rfl, nT, rfl, ex, ey⟩
        cases ex
        rw [List.length_map, rl] at hi
        obtain ⟨r, hr1', rfl⟩ : ∃ r, rs[i]? = some r ∧ y = .ref r := by
          have ey' : (rs.map V.ref)[i]? = some y := ey
          rw [List.getElem?_map] at ey'
          cases e : rs[i]? with
          | none => rw [e] at ey'; cases ey'
          | some r => rw [e] at ey'; exact ⟨r, rfl, (Option.some.inj ey').symm⟩
        obtain ⟨_, ws, ⟨us, hus, hup⟩, hW⟩ := hrs i r hr1'
        have ul : us.length = ws.length := Paired.len hup
        have e4 := Evl.Ex.new (o := .tup [.int (i : Nat), .ref r]) nT
        refine ⟨T, _, rfl, .inl (.inl upd_same), rfl, _, _, rfl, _, _, rfl, rfl, ?_⟩
        refine ⟨.ref r, rfl, r, us, rfl, .inl (.inl (.inl ((e3.trans e4) _ _ hus))), _, 8, rfl, rfl, _, rfl, ?_⟩
        refine ite2 (fun hc => ?_) (fun hc => ?_)
        · have c8 : (8 : Int) < (us.length : Int) := of_decide_eq_true hc
          have hb : badAt l i = true := by rw [bad_iff hW]; exact decide_eq_true (by omega)
          refine ⟨.int (i : Nat), rfl, (by show 2 ≤ sizeLine; decide), fun z nz => ?_⟩
          refine q2 _ ?_ _ z (((e1.trans e2).trans (e3.trans e4)).trans (Evl.Ex.new nz)) (.tup (.inl (.inl upd_same)) (.cons (.str _) (.cons (.int _) .nil)))
          unfold faultD
          rw [if_neg (by omega), firstBad_some hi hb nb]
          rfl
        · have c8 : ¬ (8 : Int) < (us.length : Int) := fun z => hc (decide_eq_true z)
          have hb : badAt l i = false := by rw [bad_iff hW]; exact decide_eq_false (by omega)
          refine ⟨_, _, _, rfl, e3.trans e4, fun k hk => ?_⟩
          by_cases e : k = i
          · rw [e]; exact hb
          · exact nb k (by omega)
      · rintro σ H3 ⟨z2, z3, z4, rfl, e3, nb⟩
        refine q1 ?_ H3 ((e1.trans e2).trans e3)
        unfold faultD
        rw [if_neg (by omega), firstBad_none fun k hk => nb k (by rw [List.length_map, rl]; exact hk)]
        rfl
theorem ok_gapZ (D : Pr K mg) : FnOk P w K mg base CX0 3 D.f21 D.d21 ["thing", "many", "below"] (spGapZ K) := by
  have G1 : FnOk P w K mg base CX0 1 D.f3 D.d3 ["thing", "low", "high"] (spTupG K) := ok_tupG D.F3 D.B
  have G2 : FnOk P w K mg base CX0 2 D.f4 D.d4 ["thing", "manys"] (spPlaces K) := ok_places D.F4 D.F3 D.b3 D.g3 D.B
  refine D.F21.ok scGap (fun vs H Q E h => ?_) (fun cdv A outer s H vs Q E hr h => ?_)
  · obtain ⟨v, b, rfl, _⟩ := h; rfl
  · obtain ⟨v, b, rfl, hv, q⟩ := h
    have hr1 : Room 1 _ := hr.mono (by decide)
    have hr2 : Room 2 _ := hr.mono (by decide)
    refine ⟨_, pss_cons (ps_if (pt_not (pt_val (pe_call G1 hr1 (by rfl) D.g3 D.F3.kp D.b3 .nil pass0 (pa_cons (pv 0) (pa_cons pe_int (pa_cons pe_int pa_nil)))))) (pss_one (ps_ret pe_bl)) pss_nil)
      (pss_cons (ps_asg (pv 0) (pg_tup rfl (pgs_cons (pg_name (i := 3) scGap.nd rfl (.inl rfl)) (pgs_cons (pg_name (i := 4) scGap.nd rfl (.inl rfl)) (pgs_cons (pg_name (i := 5) scGap.nd rfl (.inl rfl)) (pgs_cons (pg_name (i := 6) scGap.nd rfl (.inl rfl)) pgs_nil))))))
      (pss_cons (ps_if (PW.pt (pw_or (pt_not (pt_val (pe_call G2 hr2 (by rfl) D.g4 D.F4.kp D.b4 .nil pass0 (pa_cons (pe_tup (pa_cons (pv 3) (pa_cons (pv 4) pa_nil))) (pa_cons (pe_tup (pa_cons (pv 1) (pa_cons (pv 1) pa_nil))) pa_nil)))))
          (pw_or1 (pt_cmpR op_eq (pv 3) (pv 4) (nomark _))))) (pss_one (ps_ret pe_bl)) pss_nil) pss_never)), ?_⟩
    obtain ⟨a, xs, rfl, ha, hi⟩ := hv.items
    obtain ⟨x0, x1, x2, x3, rfl⟩ : ∃ x0 x1 x2 x3, xs = [x0, x1, x2, x3] := by
      have := Paired.len hi
      match xs, this with
      | [x0, x1, x2, x3], _ => exact ⟨x0, x1, x2, x3, rfl⟩
    cases hi with
    | cons t0 t1 =>
      cases t1 with
      | cons t1 t2 =>
        obtain ⟨_, ei, rfl⟩ := Th.int_of t0 rfl rfl
        cases ei
        obtain ⟨_, ei, rfl⟩ := Th.int_of t1 rfl rfl
        cases ei
        refine ⟨.ref a, rfl, .ref a, _, 4, 4, rfl, hv, true, rfl, ?_⟩
        refine iteF ?_
        refine ⟨.ref a, rfl, a, _, rfl, ha, rfl, _, _, rfl, _, _, rfl, _, _, rfl, _, _, rfl, rfl, ?_⟩
        refine ⟨.int 0, rfl, .int 0, rfl, (by show 2 ≤ sizeLine; decide), fun p1 n1 => ?_⟩
        refine ⟨.int 2, rfl, .int 2, rfl, (by show 2 ≤ sizeLine; decide), fun p2 n2 => ?_⟩
        have x1 : Evl.Ex H (upd H p1 (.tup [.int 0, .int 0])) := Evl.Ex.new n1
        have x2 := Evl.Ex.new (o := .tup [V.int 2, .int 2]) n2
        refine ⟨p1, p2, false, [0, 0], [2, 2], rfl, .inl (.inl (x2 _ _ upd_same)), (Or.inl (Or.inl upd_same)), inAll_two (by decide) (by decide) (by decide) (by decide), fun H' x3 => ?_⟩
        refine ⟨true, rfl, ?_⟩
        refine iteF ?_
        refine ⟨.int 0, rfl, .int 0, rfl, rfl, true, rfl, ?_⟩
        exact iteT (q _ ((x1.trans x2).trans x3))
theorem ok_boltB (D : Pr K mg) : FnOk P w K mg base CX0 4 D.f20 D.d20 ["thing", "below"] (spBoltB K) := by
  have G1 : FnOk P w K mg base CX0 1 D.f3 D.d3 ["thing", "low", "high"] (spTupG K) := ok_tupG D.F3 D.B
  have G3 : FnOk P w K mg base CX0 2 D.f2 D.d2 ["thing", "low", "high"] (spWholeInG K) := ok_wholeInG D.F2 D.F1 D.b1 D.g1 D.B
  have G6 : FnOk P w K mg base CX0 3 D.f21 D.d21 ["thing", "many", "below"] (spGapZ K) := ok_gapZ D
  obtain ⟨tf, ef⟩ := D.N.fewest
  obtain ⟨tl, el⟩ := D.N.places
  refine D.F20.ok scBolt (fun vs H Q E h => ?_) (fun cdv A outer s H vs Q E hr h => ?_)
  · obtain ⟨v, d, b, rfl, _⟩ := h; rfl
  · obtain ⟨v, d, b, rfl, hv, hd, q⟩ := h
    have hr1 : Room 1 _ := hr.mono (by decide)
    have hr2 : Room 2 _ := hr.mono (by decide)
    have hr3 : Room 3 _ := hr.mono (by decide)
    refine ⟨_, pss_cons (ps_if (pt_not (pt_val (pe_call G1 hr1 (by rfl) D.g3 D.F3.kp D.b3 .nil pass0 (pa_cons (pv 0) (pa_cons pe_int (pa_cons pe_int pa_nil)))))) (pss_one (ps_ret pe_bl)) pss_nil)
      (pss_cons (ps_asg (pv 0) (pg_tup rfl (pgs_cons (pg_name (i := 2) scBolt.nd rfl (.inl rfl)) (pgs_cons (pg_name (i := 3) scBolt.nd rfl (.inl rfl)) pgs_nil))))
      (pss_cons (ps_if (PW.pt (pw_or (pt_not (pt_val (pe_call G3 hr2 (by rfl) D.g2 D.F2.kp D.b2 .nil pass0 (pa_cons (pv 2) (pa_cons (pe_glob (v := .int 2) (by rfl) ef ⟨_, rfl⟩) (pa_cons (pe_glob (v := .int 4) (by rfl) el ⟨_, rfl⟩) pa_nil))))))
          (pw_or1 (pt_not (pt_val (pe_callB call_isi (by rfl) D.B.isi boot_isinstance (pa_cons (pv 3) (pa_cons (pe_bltn (v := .ty "tuple") (by rfl) D.B.tuple (by decide +kernel) rfl) pa_nil)))))))) (pss_one (ps_ret pe_bl)) pss_nil)
      (pss_cons (ps_set (i := 4) scBolt.nd rfl (.inl rfl) pe_int)
      (pss_cons (ps_set (i := 5) scBolt.nd rfl (.inl rfl) (pe_tup (pa_cons (pe_un un_neg pe_int) (pa_cons (pe_un un_neg pe_int) pa_nil))))
      (pss_cons (ps_for PassesOwn.never rfl (pi_tup (pv 3)) (pg_name (i := 6) scBolt.nd rfl (.inl rfl))
        (pss_cons (ps_if (PW.pt (pw_or (pt_not (pt_val (pe_call G6 hr3 (by rfl) D.g21 D.F21.kp D.b21 .nil pass0 (pa_cons (pv 6) (pa_cons (pv 2) (pa_cons (pv 1) pa_nil))))))
            (pw_or1 (pt_cmpR (op_leT hr.units0) (pe_slice sl_tupA (pv 6) po_none (po_some pe_int)) (pv 5) (nomark _))))) (pss_one (ps_ret pe_bl)) pss_nil)
        pss_never)) pss_never))))), ?_⟩
    have two : ∃ x0 x1 d0 d1, d = .tuple [d0, d1] ∧ ∃ a, v = .ref a ∧ SqT K H a [x0, x1] ∧ Th K H x0 d0 ∧ Th K H x1 d1 := by
      have z : ∃ d0 d1, d = .tuple [d0, d1] := by
        rcases hd with rfl | rfl
        · exact ⟨_, _, rfl⟩
        · exact ⟨_, _, rfl⟩
      obtain ⟨d0, d1, rfl⟩ := z
      obtain ⟨a, xs, rfl, ha, hi⟩ := hv.items
      cases hi with
      | cons t0 t1 =>
        cases t1 with
        | cons t1 t2 =>
          cases t2
          exact ⟨_, _, _, _, rfl, a, rfl, ha, t0, t1⟩
    obtain ⟨x0, x1, d0, d1, rfl, a, rfl, ha, t0, t1⟩ := two
    refine ⟨.ref a, rfl, .ref a, _, 2, 2, rfl, hv, true, rfl, ?_⟩
    refine iteF ?_
    refine ⟨.ref a, rfl, a, _, rfl, ha, rfl, _, _, rfl, _, _, rfl, rfl, ?_⟩
    rcases hd with e | e
    · cases e
      refine ⟨x0, rfl, x0, .int 5, 2, 4, rfl, t0, false, rfl, ?_⟩
      exact iteT (q _ (Evl.Ex.refl _))
    · cases e
      refine ⟨x0, rfl, x0, .int 2, 2, 4, rfl, t0, true, rfl, ?_⟩
      refine iteF ?_
      obtain ⟨c, gs, rfl, hc, hg⟩ := t1.items
      obtain ⟨_, ei, rfl⟩ := Th.int_of t0 rfl rfl
      cases ei
      refine ⟨.ref c, rfl, .ref c, .ty "tuple", .type "tuple", .type "tuple", true, rfl, .ty _, tyx_tup hc, kit_ty (by decide +kernel), true, rfl, ?_⟩
      refine iteF ?_
      refine ⟨1, rfl, 1, rfl, (by show 2 ≤ sizeLine; decide), fun p0 n0 => ?_⟩
      have x1 : Evl.Ex H (upd H p0 (.tup [.int (-1), .int (-1)])) := Evl.Ex.new n0
      refine ⟨.ref c, rfl, c, rfl, ⟨_, Evl.ex_t x1 hc⟩, for_tup (K := K) (a := c) (xs := gs)
        (fun i σ H' => i = 0 ∧ ∃ (y6 : Option V), σ = [some (.ref a), some (.ref b), some (.int 2), some (.ref c), some (.int 0), some (.ref p0), y6] ∧ Evl.Ex H H') ⟨rfl, none, rfl, x1⟩ ?_ ?_ ?_⟩
      · rintro i σ H' _ ⟨_, _, _, e⟩
        exact Evl.ex_t e hc
      · rintro i x σ H' hi ⟨rfl, y6, rfl, e⟩
        obtain ⟨d, hd, td⟩ := Paired.get1 hg hi
        have ed : some gapZ = some d := hd
        cases ed
        refine ⟨x, rfl, .int 2, rfl, .ref b, rfl, x, b, rfl, td.ex e, fun H2 e2 => ?_⟩
        refine ⟨false, rfl, iteT ?_⟩
        exact q _ (e.trans e2)
      · rintro σ H' ⟨z, _⟩
        rw [Paired.len hg] at z
        cases z
theorem ok_faultB (D : Pr K mg) : FnOk P w K mg base CX0 6 D.f19 D.d19 ["thing"] (spFaultB K) := by
  have G3 : FnOk P w K mg base CX0 1 D.f3 D.d3 ["thing", "low", "high"] (spTupG K) := ok_tupG D.F3 D.B
  have G20 : FnOk P w K mg base CX0 4 D.f20 D.d20 ["thing", "below"] (spBoltB K) := ok_boltB D
  obtain ⟨tb, eb⟩ := D.N.bolts
  refine D.F19.ok scFault (fun vs H Q E h => ?_) (fun cdv A outer s H vs Q E hr h => ?_)
  · obtain ⟨v, d, f, rfl, _⟩ := h; rfl
  · obtain ⟨v, d, f, rfl, hv, hb, q⟩ := h
    have hr1 : Room 1 _ := hr.mono (by decide)
    have hr3 : Room 4 _ := hr.mono (by decide)
    refine ⟨_, pss_cons (ps_if (pt_not (pt_val (pe_call G3 hr1 (by rfl) D.g3 D.F3.kp D.b3 .nil pass0 (pa_cons (pv 0) (pa_cons pe_int (pa_cons (pe_glob (v := .int 60) (by rfl) eb ⟨_, rfl⟩) pa_nil)))))) (pss_one (ps_ret (pe_tup (pa_cons pe_str pa_nil)))) pss_nil)
      (pss_cons (ps_set (i := 1) scFault.nd rfl (.inl rfl) (pe_lst pa_nil))
      (pss_cons (ps_for PassesOwn.never rfl (pi_enumT (by rfl) D.B.enum (pa_cons (pv 0) pa_nil)) (pg_tup rfl (pgs_cons (pg_name (i := 2) scFault.nd rfl (.inl rfl)) (pgs_cons (pg_name (i := 3) scFault.nd rfl (.inl rfl)) pgs_nil)))
        (pss_cons (ps_if (pt_not (pt_val (pe_call G20 hr3 (by rfl) D.g20 D.F20.kp D.b20 .nil pass0 (pa_cons (pv 3) (pa_cons (pv 1) pa_nil))))) (pss_one (ps_ret (pe_tup (pa_cons pe_str (pa_cons (pv 2) pa_nil))))) pss_nil) pss_never))
      pss_never)), ?_⟩
    rcases hb with ⟨rfl, rfl⟩ | ⟨rfl, rfl⟩ | ⟨bd, hbd, rfl, rfl⟩
    · refine ⟨v, rfl, v, _, 1, 60, rfl, hv, false, rfl, ?_⟩
      refine iteT ?_
      exact ⟨(by show 1 ≤ sizeLine; decide), fun z nz => q _ z (Evl.Ex.new nz) (.tup (.inl (.inl upd_same)) (.cons (.str _) .nil))⟩
    · refine ⟨v, rfl, v, _, 1, 60, rfl, hv, false, rfl, ?_⟩
      refine iteT ?_
      exact ⟨(by show 1 ≤ sizeLine; decide), fun z nz => q _ z (Evl.Ex.new nz) (.tup (.inl (.inl upd_same)) (.cons (.str _) .nil))⟩
    · refine ⟨v, rfl, v, _, 1, 60, rfl, hv, true, rfl, ?_⟩
      refine iteF ?_
      obtain ⟨a, xs, rfl, ha, hi⟩ := hv.items
      obtain ⟨x0, rfl⟩ : ∃ x0, xs = [x0] := by
        have := Paired.len hi
        match xs, this with
        | [x0], _ => exact ⟨x0, rfl⟩
      cases hi with
      | cons t0 _ =>
        refine ⟨Nat.zero_le _, fun r0 nr0 => ?_⟩
        have x1 : Evl.Ex H (upd H r0 (.lst [])) := Evl.Ex.new nr0
        refine ⟨.ref a, rfl, a, _, rfl, Evl.ex_t x1 ha, ?_⟩
        refine for_it (walk_et (xs := [x0])) (fun i σ H' => i = 0 ∧ ∃ (y2 y3 y4 : Option V), σ = [some (.ref a), some (.ref r0), y2, y3, y4] ∧ Evl.Ex H H') ⟨rfl, none, none, none, rfl, x1⟩ ?_ ?_ ?_
        · rintro i σ H' _ ⟨_, _, _, _, _, e⟩
          exact Evl.ex_t e ha
        · rintro i v σ H1 H2 hi ⟨rfl, y2, y3, y4, rfl, e1⟩ ⟨T, x, y, rfl, nT, rfl, ex, ey⟩
          cases ex
          have ey' : [x0][0]? = some y := ey
          cases ey'
          have e2 := Evl.Ex.new (o := .tup [.int ((0 : Nat) : Int), x0]) nT
          refine ⟨T, _, rfl, .inl (.inl upd_same), rfl, _, _, rfl, _, _, rfl, rfl, ?_⟩
          refine ⟨x0, rfl, .ref r0, rfl, x0, bd, r0, rfl, t0.ex (e1.trans e2), hbd, fun H3 e3 => ?_⟩
          refine ⟨false, rfl, iteT ?_⟩
          refine ⟨.int ((0 : Nat) : Int), rfl, (by show 2 ≤ sizeLine; decide), fun z nz => ?_⟩
          exact q _ z (((e1.trans e2).trans e3).trans (Evl.Ex.new nz)) (.tup (.inl (.inl upd_same)) (.cons (.str _) (.cons (.int _) .nil)))
        · rintro σ H1 ⟨z, _⟩
          cases z
end
end Wb

set_option Elab.async false
set_option linter.all false
set_option maxRecDepth 100000
set_option maxHeartbeats 4000000
set_option pp.maxSteps 900
set_option pp.deepTerms false
namespace Wb
open PySem PySem.Spec PyProof.Rows L2
def clsBody : Stmt → List Stmt
  | .ClassDef _ _ _ b .. => b
  | _ => []
abbrev sNlInit : Stmt := (clsBody (topS 7)).getD 0 (.Pass ⟨0, 0, 0, 0⟩)
theorem scNlInit : FnScope ["self", "fault"] ["self", "fault"] (defScope sNlInit) := ⟨rfl, rfl, rfl, by decide +kernel, rfl, by decide +kernel, by decide +kernel⟩
/-- the class of what is no lock, and its __init__ -/
structure NlC (K : PySem.W.Frag) (mg : Str → Option Value) where
  C : Addr
  f : Addr
  fd : FuncData
  g : mg "NoLock" = some (.ref C)
  T : OexC K C
  i : PySem.W.findIn K (.ref C) "__init__" = some (some (.ref f))
  t : PySem.W.typeIn K (.ref f) = some (.type "function")
  no : PySem.W.findIn K (.ref C) "fault" = some none
  F : Fun K "__init__" "NoLock.__init__" sNlInit f fd
  b : Binds K fd ["self", "fault"] []
/-- an own class of refusals -/
structure XcK (K : PySem.W.Frag) (mg : Str → Option Value) (nm : Str) where
  C : Addr
  g : mg nm = some (.ref C)
  q : PySem.W.excIn K C [.type "ValueError", .type "Exception", .type "BaseException", .type "object"] "ValueError.__new__" = true
  k : PySem.W.keepIn K (.ref C) = true
  s : PySem.W.subIn K (.ref C) (.type "BaseException") = some true
  t : PySem.W.typeIn K (.ref C) = some (.type "type")
section
variable {K : PySem.W.Frag} {H H' : Hp}
mutual
theorem dpEx (e : Evl.Ex H H') : ∀ {v : V} {d : PyData}, Dp K H v d → Dp K H' v d
  | _, _, .non => .non
  | _, _, .bl b => .bl b
  | _, _, .int i => .int i
  | _, _, .str x => .str x
  | _, _, .lst h a => .lst (Evl.ex_l e h) (dpExAll e a)
  | _, _, .tup h a => .tup (Evl.ex_t e h) (dpExAll e a)
theorem dpExAll (e : Evl.Ex H H') : ∀ {vs : List V} {ds : List PyData}, DpAll K H vs ds → DpAll K H' vs ds
  | _, _, .nil => .nil
  | _, _, .cons h a => .cons (dpEx e h) (dpExAll e a)
end
end
def spNlInit (K : PySem.W.Frag) (C : Addr) : Sp := fun vs H Q _ => ∃ (a : Addr) (v : V), vs = [.ref a, v] ∧ H a = some (exo a C none) ∧ OexC K C ∧ PySem.W.findIn K (.ref C) "fault" = some none ∧
  ∀ dx, H dx = none → dx ≠ a → Q .non (upd (upd H dx (exd dx [("fault", v)])) a (exo a C (some dx)))
/-- refused, with what is wrong -/
def RaiseF (K : PySem.W.Frag) (C : Addr) (d : PyData) (H : Hp) (E : XK) : Prop := ∀ H' e z, Evl.Ex H H' → H e = none → H' e = some (.xd [("fault", .ref z)]) → Dp K H' (.ref z) d → E (.ref C) (some e) H'
/-- what asks whether it is a lock: bolts that are right one by one, or a thing that is none -/
def spNeedX (K : PySem.W.Frag) (C : Addr) : Sp := fun vs H Q E => ∃ v : V, vs = [v] ∧ ((∃ l : Lock, LockAt K H v l ∧ BoltsN 120 l ∧ (faultD l = none → ∀ H', Evl.Ex H H' → Q .non H') ∧ ∀ d, faultD l = some d → RaiseF K C d H E) ∨
  ∃ d f, Th K H v d ∧ BadD d f ∧ RaiseF K C f H E)
section
variable {P : Program} {w : World} {K : PySem.W.Frag} {mg : Str → Option Value} {base : Heap}
theorem ok_nlInit (N : NlC K mg) : FnOk P w K mg base CX0 1 N.f N.fd ["self", "fault"] (spNlInit K N.C) := by
  refine N.F.ok scNlInit (fun vs H Q E h => ?_) (fun cdv A outer s H vs Q E hr h => ?_)
  · obtain ⟨a, v, rfl, _⟩ := h; rfl
  · obtain ⟨a, v, rfl, ha, T, no, q⟩ := h
    refine ⟨_, pss_one (ps_ost (pv 0) (pv 1)), ?_⟩
    exact ⟨v, rfl, .ref a, rfl, a, N.C, rfl, T, no, .inl ⟨ha, fun dx nd ne => q dx nd ne⟩⟩
theorem raisedF (N : NlC K mg) {H : Hp} {v : V} {E : XK} (q : ∀ H' e, H e = none → H' e = some (.xd [("fault", v)]) → Evl.Ex H H' → E (.ref N.C) (some e) H') :
    [v].length ≤ 1000 ∧ ∀ a, H a = none → spNlInit K N.C (.ref a :: ([v] ++ [])) (upd H a (exo a N.C none))
      (fun z H2 => z = .non ∧ ∃ (d : Addr) (fs : List (Str × V)), H2 a = some (exo a N.C (some d)) ∧ H2 d = some (exd d fs) ∧ H d = none ∧ E (.ref N.C) (some d) (upd (del H2 a) d (.xd fs))) (fun _ _ _ => False) := by
  refine ⟨by simp, fun a na => ⟨a, v, rfl, upd_same, N.T, N.no, fun dx nd ne => ?_⟩⟩
  have ndx : H dx = none := by
    rw [upd_ne ne] at nd
    exact nd
  refine ⟨rfl, dx, [("fault", v)], upd_same, by rw [upd_ne ne, upd_same], ndx, q _ dx ndx upd_same ?_⟩
  intro b o hb
  have b1 : b ≠ a := fun z => by rw [z, na] at hb; cases hb
  have b2 : b ≠ dx := fun z => by rw [z, ndx] at hb; cases hb
  rw [upd_ne b2, del_ne b1, upd_ne b1, upd_ne b2, upd_ne b1]
  exact hb
theorem ok_needX (D : Pr K mg) (N : NlC K mg) : FnOk P w K mg base (L2.CX P w) 7 D.f24 D.d24 ["lock"] (spNeedX K N.C) := by
  have GF : FnOk P w K mg base CX0 6 D.f19 D.d19 ["thing"] (fun vs H Q E => spFaultN K vs H Q E ∨ spFaultB K vs H Q E) := fnOk_or (ok_faultN D) (ok_faultB D)
  have GN : FnOk P w K mg base CX0 1 N.f N.fd ["self", "fault"] (spNlInit K N.C) := ok_nlInit N
  refine D.F24.okX scNeedL (fun vs H Q E h => ?_) (fun cdv A outer s H vs Q E hr h => ?_)
  · obtain ⟨v, rfl, _⟩ := h; rfl
  · obtain ⟨v, rfl, h⟩ := h
    have hr2 : Room 2 _ := hr.mono (by decide)
    refine ⟨_, pss_cons (ps_set (i := 1) scNeedL.nd rfl (.inl rfl) (pe_call GF hr (by rfl) D.g19 D.F19.kp D.b19 .nil pass0 (pa_cons (pv 0) pa_nil)))
      (pss_one (ps_if (pt_cmpR op_notN (pv 1) pe_non (nomark _)) (pss_one (ps_raise rfl (takes_of rfl rfl rfl rfl) (pmk_oex N.T N.i N.t GN hr2 N.b .nil pass0 (by rfl) N.g (pa_cons (pv 1) pa_nil)))) pss_nil)), ?_⟩
    rcases h with ⟨l, hl, ok, q1, q2⟩ | ⟨d, f, hv, hb, q⟩
    · refine ⟨v, rfl, .inl ⟨v, l, rfl, hl, ok, fun h H1 e1 => ?_, fun d hd H1 z e1 dz => ?_⟩⟩
      · refine ⟨.non, rfl, rfl, false, rfl, iteF ?_⟩
        exact q1 h H1 e1
      · refine ⟨.ref z, rfl, rfl, true, rfl, iteT ?_⟩
        refine ⟨.ref z, rfl, ?_⟩
        exact raisedF N fun H' e ne he ex => q2 d hd H' e z (e1.trans ex) (Evl.fresh_back e1 ne) he (dpEx ex dz)
    · refine ⟨v, rfl, .inr ⟨v, d, f, rfl, hv, hb, fun H1 z e1 dz => ?_⟩⟩
      refine ⟨.ref z, rfl, rfl, true, rfl, iteT ?_⟩
      refine ⟨.ref z, rfl, ?_⟩
      exact raisedF N fun H' e ne he ex => q H' e z (e1.trans ex) (Evl.fresh_back e1 ne) he (dpEx ex dz)
end
end Wb

set_option Elab.async false
set_option linter.all false
set_option maxRecDepth 100000
set_option maxHeartbeats 4000000
set_option pp.maxSteps 900
set_option pp.deepTerms false
namespace Wb
open PySem PySem.Spec PyProof.Rows L2
/-! ### dicts whose keys are tuples of whole numbers and, last, a word -/
abbrev NKey := List Int × List Int
/-- the key as the model has it -/
def nk (k : NKey) : NestedKey := .tup (k.1.map NestedKey.num ++ [.tup (k.2.map NestedKey.num)])
theorem nums_inj {a b : List Int} (h : a.map NestedKey.num = b.map NestedKey.num) : a = b := (List.map_inj_right (fun _ _ e => NestedKey.num.inj e)).mp h
theorem nk_inj {a b : NKey} (h : nk a = nk b) : a = b := by
  obtain ⟨a1, a2⟩ := a
  obtain ⟨b1, b2⟩ := b
  have z := NestedKey.tup.inj h
  obtain ⟨z1, z2⟩ := List.append_inj' z rfl
  have z3 := NestedKey.tup.inj (List.cons.inj z2).1
  have y1 : a1 = b1 := nums_inj z1
  have y2 : a2 = b2 := nums_inj z3
  rw [y1, y2]
/-- the key's own tuple stands at q -/
def KAt (H : Hp) (q : Addr) (k : NKey) : Prop := ∃ b, H q = some (.tup (k.1.map V.int ++ [.ref b])) ∧ H b = some (.tup (k.2.map V.int))
theorem KAt.keep {H H' : Hp} {q : Addr} {k : NKey} (e : ∀ b xs, H b = some (.tup xs) → H' b = some (.tup xs)) (h : KAt H q k) : KAt H' q k := by
  obtain ⟨b, h1, h2⟩ := h
  exact ⟨b, e _ _ h1, e _ _ h2⟩
section
variable {P : Program} {w : World} {H : Hp} {h : Heap}
theorem nums_are : ∀ {ns : List Int} {us : List Value}, Vals (ns.map V.int) us → NestedAll h (ns.map NestedKey.num) us
  | [], _, r => by cases r; exact .nil
  | n :: ns, _, r => by
    cases r with
    | cons r1 r2 =>
      obtain ⟨t, rfl⟩ := r1
      exact .cons (.int n t) (nums_are r2)
theorem nestedAll_app : ∀ {ks ls : List NestedKey} {us vs : List Value}, NestedAll h ks us → NestedAll h ls vs → NestedAll h (ks ++ ls) (us ++ vs)
  | [], _, _, _, a, b => by cases a; exact b
  | _ :: _, _, _, _, a, b => by
    cases a with
    | cons a1 a2 => exact .cons a1 (nestedAll_app a2 b)
theorem vals_split : ∀ {xs ys : List V} {us : List Value}, Vals (xs ++ ys) us → ∃ u1 u2, us = u1 ++ u2 ∧ Vals xs u1 ∧ Vals ys u2
  | [], ys, us, r => ⟨[], us, rfl, .nil, r⟩
  | x :: xs, ys, us, r => by
    cases r with
    | cons r1 r2 =>
      obtain ⟨u1, u2, rfl, h1, h2⟩ := vals_split r2
      exact ⟨_ :: u1, u2, rfl, .cons r1 h1, h2⟩
theorem depth_nums : ∀ ns : List Int, NestedKey.depthAll (ns.map NestedKey.num) = 0
  | [] => rfl
  | n :: ns => by
    show max 0 (NestedKey.depthAll (ns.map NestedKey.num)) = 0
    rw [depth_nums ns]
    rfl
theorem depth_app : ∀ ks ls : List NestedKey, NestedKey.depthAll (ks ++ ls) = max (NestedKey.depthAll ks) (NestedKey.depthAll ls)
  | [], ls => (Nat.zero_max _).symm
  | k :: ks, ls => by
    show max k.depth (NestedKey.depthAll (ks ++ ls)) = max (max k.depth (NestedKey.depthAll ks)) _
    rw [depth_app ks ls, Nat.max_assoc]
theorem nk_depth (k : NKey) : (nk k).depth ≤ 8 := by
  show NestedKey.depthAll (k.1.map NestedKey.num ++ [.tup (k.2.map NestedKey.num)]) + 1 ≤ 8
  rw [depth_app, depth_nums]
  show max 0 (max (NestedKey.depthAll (k.2.map NestedKey.num) + 1) 0) + 1 ≤ 8
  rw [depth_nums]
  decide
theorem nk_is (ok : HOk P w H h) {q : Addr} {k : NKey} (hk : KAt H q k) : (nestedKind P w).is h (nk k) q := by
  obtain ⟨b, h1, h2⟩ := hk
  obtain ⟨_, us, r, o, e1, e2, n, e3⟩ := (show ObjOk P w H h q (.tup (k.1.map V.int ++ [.ref b])) from ok q _ h1)
  obtain ⟨_, vs, r', o', d1, d2, n', d3⟩ := (show ObjOk P w H h b (.tup (k.2.map V.int)) from ok b _ h2)
  obtain ⟨u1, u2, rfl, r1, r2⟩ := vals_split r
  refine ⟨.tup e1 e2 e3 ?_, nk_depth k⟩
  have z : (u1 ++ u2).toArray.toList = u1 ++ u2 := by simp
  rw [z]
  refine nestedAll_app (nums_are r1) ?_
  cases r2 with
  | cons a1 a2 =>
    cases a2
    cases a1
    exact .cons (.tup d1 d2 d3 (by rw [show vs.toArray.toList = vs by simp]; exact nums_are r')) .nil
end
/-! ### such a dict's object -/
def DN (P : Program) (w : World) (a : Addr) (xs : List (NestedKey × Addr × Value)) : HO := .ext fun h => (a == sysModules) = false ∧ xs.length ≤ sizeLine ∧ ∃ o es ep, h.get? a = some o ∧ o.ExactDict ∧ o.data = .dict es ep ∧ es.toList = xs.map (entryOfKey (nestedKind P w)) ∧ (xs.map (·.1)).Nodup
abbrev NRel (H : Hp) (p : NKey × V) (q : NestedKey × Addr × Value) : Prop := q.1 = nk p.1 ∧ KAt H q.2.1 p.1 ∧ RelV p.2 q.2.2
/-- at a stands, or stands locked, a dict with these keys and values -/
def ND (P : Program) (w : World) (H : Hp) (a : Addr) (kvs : List (NKey × V)) : Prop := ∃ xs, Rd H a (DN P w a xs) ∧ Paired (NRel H) kvs xs
/-- .. not locked -/
def NDm (P : Program) (w : World) (H : Hp) (a : Addr) (kvs : List (NKey × V)) : Prop := ∃ xs, H a = some (DN P w a xs) ∧ Paired (NRel H) kvs xs
theorem NRel.keep {H H' : Hp} (e : ∀ b xs, H b = some (.tup xs) → H' b = some (.tup xs)) {p : NKey × V} {q : NestedKey × Addr × Value} (h : NRel H p q) : NRel H' p q := ⟨h.1, h.2.1.keep e, h.2.2⟩
theorem NDm.nd {P : Program} {w : World} {H : Hp} {a : Addr} {kvs : List (NKey × V)} (h : NDm P w H a kvs) : ND P w H a kvs := by
  obtain ⟨xs, h1, h2⟩ := h
  exact ⟨xs, .inl h1, h2⟩
theorem NDm.keep {P : Program} {w : World} {H H' : Hp} {a : Addr} {kvs : List (NKey × V)} (e : ∀ b xs, H b = some (.tup xs) → H' b = some (.tup xs)) (ea : ∀ o, H a = some o → H' a = some o) (h : NDm P w H a kvs) : NDm P w H' a kvs := by
  obtain ⟨xs, h1, h2⟩ := h
  exact ⟨xs, ea _ h1, Paired.mapP h2 fun _ _ => NRel.keep e⟩
theorem ND.keep {P : Program} {w : World} {H H' : Hp} {a : Addr} {kvs : List (NKey × V)} (e : ∀ b xs, H b = some (.tup xs) → H' b = some (.tup xs)) (ea : ∀ o, H a = some o → H' a = some o) (h : ND P w H a kvs) : ND P w H' a kvs := by
  obtain ⟨xs, h1, h2⟩ := h
  exact ⟨xs, h1.imp (ea _) (fun ⟨o, z⟩ => ⟨o, ea _ z⟩), Paired.mapP h2 fun _ _ => NRel.keep e⟩
theorem NDm.ex {P : Program} {w : World} {H H' : Hp} {a : Addr} {kvs : List (NKey × V)} (e : Evl.Ex H H') (h : NDm P w H a kvs) : NDm P w H' a kvs := h.keep (fun _ _ z => e _ _ z) (fun _ z => e _ _ z)
theorem ND.ex {P : Program} {w : World} {H H' : Hp} {a : Addr} {kvs : List (NKey × V)} (e : Evl.Ex H H') (h : ND P w H a kvs) : ND P w H' a kvs := h.keep (fun _ _ z => e _ _ z) (fun _ z => e _ _ z)
theorem nrel_val {H : Hp} {kvs : List (NKey × V)} {xs : List (NestedKey × Addr × Value)} (r : Paired (NRel H) kvs xs) (k : NKey) : RelO (valV kvs k) ((atKey xs (nk k)).map (·.2)) := by
  induction r with
  | nil => exact True.intro
  | @cons p q ps qs h t ih =>
    obtain ⟨e1, _, e3⟩ := h
    by_cases e : p.1 = k
    · have e' : q.1 = nk k := e1.trans (congrArg nk e)
      have b : atKey (q :: qs) (nk k) = some q.2 := by simp [atKey, List.find?_cons, e']
      rw [valV_pos e, b]
      exact e3
    · have e' : ¬ q.1 = nk k := fun z => e (nk_inj (e1.symm.trans z))
      have b : atKey (q :: qs) (nk k) = atKey qs (nk k) := by simp [atKey, List.find?_cons, e']
      rw [valV_neg e, b]
      exact ih
theorem nrel_any {H : Hp} : ∀ {kvs : List (NKey × V)} {xs : List (NestedKey × Addr × Value)}, Paired (NRel H) kvs xs → ∀ k : NKey, (kvs.any fun kv => decide (kv.1 = k)) = (atKey xs (nk k)).isSome := by
  intro kvs xs r k
  rw [valV_any, (nrel_val r k).isSome_eq, Option.isSome_map]
theorem nrel_repl {H : Hp} : ∀ {kvs : List (NKey × V)} {xs : List (NestedKey × Addr × Value)} (_ : Paired (NRel H) kvs xs) (k : NKey) {y : V} {u : Value}, RelV y u →
    Paired (NRel H) (kvs.map fun kv => if kv.1 = k then (kv.1, y) else kv) (xs.map (putAt (nk k) u))
  | _, _, .nil, _, _, _, _ => .nil
  | _, _, .cons (a := p) (b := q) r t, k, y, u, ry => by
    obtain ⟨pk, pv⟩ := p
    obtain ⟨qk, qa, qv⟩ := q
    obtain ⟨e1, e2, e3⟩ := r
    have e1' : qk = nk pk := e1
    subst e1'
    refine .cons ?_ (nrel_repl t k ry)
    by_cases h : pk = k
    · subst h
      simp only [putAt, if_true]
      exact ⟨rfl, e2, ry⟩
    · have h' : ¬ nk pk = nk k := fun z => h (nk_inj z)
      simp only [putAt, if_neg h, if_neg h']
      exact ⟨rfl, e2, e3⟩
theorem nrel_put {H : Hp} {kvs : List (NKey × V)} {xs : List (NestedKey × Addr × Value)} (r : Paired (NRel H) kvs xs) (k : NKey) {b : Addr} {y : V} {u : Value} (hb : KAt H b k) (ry : RelV y u) : Paired (NRel H) (putK kvs k y) (storedH xs (nk k) b u) := by
  unfold putK storedH
  rw [nrel_any r k]
  by_cases q : (atKey xs (nk k)).isSome = true
  · rw [if_pos q, if_pos q]
    exact nrel_repl r k ry
  · rw [if_neg q, if_neg q]
    exact Paired.snoc r ⟨rfl, hb, ry⟩
end Wb

set_option Elab.async false
set_option linter.all false
set_option maxRecDepth 100000
set_option maxHeartbeats 4000000
set_option pp.maxSteps 900
set_option pp.deepTerms false
namespace Wb
open PySem PySem.Spec PyProof.Rows L2
/-! ### rules for such dicts -/
section
variable {P : Program} {w : World} {H : Hp} {h : Heap} {a : Addr} {kvs : List (NKey × V)} {xs : List (NestedKey × Addr × Value)}
theorem dn_rd (ok : HOk P w H h) (e : Rd H a (DN P w a xs)) (r : Paired (NRel H) kvs xs) : xs.length ≤ sizeLine ∧ (a == sysModules) = false ∧ h.DictOfH (nestedKind P w) a xs := by
  obtain ⟨⟨z1, z2, o, es, ep, h1, h2, h3, h4, h5⟩, _, _⟩ := (show ObjOk P w H h a (DN P w a xs) from rd_of ok e)
  refine ⟨z2, z1, o, es, ep, h1, h2, h3, h4, fun x hx => ?_, h5⟩
  obtain ⟨i, hi⟩ := List.mem_iff_getElem?.mp hx
  obtain ⟨p, _, e1, e2, _⟩ := Paired.get2 r hi
  rw [e1]
  exact nk_is ok e2
theorem dn_ok {H' : Hp} {h' : Heap} (z : xs.length ≤ sizeLine) (hd : (a == sysModules) = false) (dd : h'.DictOfH (nestedKind P w) a xs) : ObjOk P w H' h' a (DN P w a xs) := by
  obtain ⟨o, es, ep, h1, h2, h3, h4, _, h5⟩ := dd
  refine ⟨⟨hd, z, o, es, ep, h1, h2, h3, h4, h5⟩, ⟨o, h1⟩, ?_⟩
  rintro g1 g2 ⟨y1, y2, o', es', ep', e1, e2, e3, e4, e5⟩ k
  exact ⟨y1, y2, o', es', ep', k _ e1, e2, e3, e4, e5⟩
theorem nd_len (ok : HOk P w H h) (d : ND P w H a kvs) : kvs.length ≤ sizeLine := by
  obtain ⟨xs, e, r⟩ := d
  rw [Paired.len r]
  exact (dn_rd ok e r).1
end
/-- {} that is to have such keys -/
def tDNewN (P : Program) (w : World) : TE := fun _ H Q => ∀ p, H p = none → Q (.ref p) (upd H p (DN P w p []))
theorem NDm.empty {P : Program} {w : World} {H : Hp} {p : Addr} : NDm P w (upd H p (DN P w p [])) p [] := ⟨[], upd_same, .nil⟩
theorem nd_typeIs {X : Cx} {pins : List (Addr × Obj)} {σ : L2.St} {H : Hp} {s : Shared} {a : Addr} {kvs : List (NKey × V)} (I : Inv X pins σ H s) (d : ND X.prog X.w H a kvs) :
    s.TypeIs (.ref a) "dict" ∧ (∀ b, Value.ref a = .ref b → ∃ ob, s.heap.get? b = some ob ∧ ob.dict = none) ∧ (a == sysModules) = false := by
  obtain ⟨xs, e, r⟩ := d
  obtain ⟨_, hd, dd⟩ := dn_rd I.hok e r
  refine ⟨dd.typeIs, fun b q => ?_, hd⟩
  cases q
  obtain ⟨ob, _, _, h1, h2, _⟩ := dd
  exact ⟨ob, h1, h2.2.1⟩
theorem ty_dictN {X : Cx} : TyOk X "dict" (fun x H => ∃ a kvs, x = .ref a ∧ ND X.prog X.w H a kvs) := by
  intro pins σ H s x v I r h
  obtain ⟨a, kvs, rfl, d⟩ := h
  obtain rfl : v = Value.ref a := r
  obtain ⟨t1, t2, _⟩ := nd_typeIs I d
  exact ⟨t1, t2⟩
theorem nested_room {P : Program} {w : World} {A : Around} (hu : A.units + 9 < cLine) : (nestedKind P w).room A.in1 := by
  show A.in1.units + 8 < cLine
  have : A.in1.units ≤ A.units + 1 := Nat.le_refl _
  omega
section
variable {X : Cx} {pos pos' : Pos}
theorem pe_dnewN : PE X (.Dict [] [] pos) (tDNewN X.prog X.w) := ⟨fun pins s σ H Q I h => by
  have hb : (s.heap.objs.size == sysModules) = false := beq_eq_false_iff_ne.mpr (Ne.symm (Nat.ne_of_lt I.big))
  exact wpAny_Dict_empty ⟨.ref s.heap.objs.size, _, I.laid (a := s.heap.objs.size) (o := DN X.prog X.w s.heap.objs.size []) (t' := s.toks) (fun _ _ q => Heap.get?_push_of_some _ q) (Nat.le_refl _)
    (dn_ok (Nat.zero_le _) hb (Heap.DictOfH.new s.heap)), rfl, h _ (I.hok.fresh (Nat.le_refl _))⟩⟩
end
/-- d[y]; y not in d -/
def tNGet (P : Program) (w : World) (td ty : TE) : TE := fun σ H Q => td σ H fun x H1 => ty σ H1 fun y H2 => ∃ (a b : Addr) (kvs : List (NKey × V)) (k : NKey) (v : V), x = .ref a ∧ y = .ref b ∧ KAt H2 b k ∧ ND P w H2 a kvs ∧ valV kvs k = some v ∧ Q v H2
def tNNotIn (P : Program) (w : World) (ty td : TE) : TE := fun σ H Q => ty σ H fun y H1 => td σ H1 fun x H2 => ∃ (a b : Addr) (kvs : List (NKey × V)) (k : NKey), x = .ref a ∧ y = .ref b ∧ KAt H2 b k ∧ ND P w H2 a kvs ∧ Q (.bl (!(valV kvs k).isSome)) H2
section
variable {X : Cx} {o i e : Expr} {pos : Pos} {td ty : TE}
theorem pe_nget (hu : X.A.units + 9 < cLine) (ho : PE X o td) (hi : PE X i ty) (hs : NoSl i) : PE X (.Subscript o i pos) (tNGet X.prog X.w td ty) := by
  refine ⟨fun pins s σ H Q I h => ?_⟩
  refine subD_of PySem.F.slot_dict_getitem.lookup hs (thn (ho.run pins s σ H _ I h) fun u s1 ⟨x, H1, I1, rx, q1⟩ => thn (hi.run pins s1 σ H1 _ I1 q1) fun iv s2 ⟨y, H2, I2, ry, a, b, kvs, k, v, ex, ey, hk, d, l, q2⟩ => ?_)
  subst ex ey
  obtain rfl : u = Value.ref a := rx
  obtain rfl : iv = Value.ref b := ry
  refine ⟨(nd_typeIs I2 d).1, ?_⟩
  obtain ⟨xs, hx, r⟩ := d
  obtain ⟨z, hd, dd⟩ := dn_rd I2.hok hx r
  obtain ⟨w', hw, rw'⟩ := RelO.some_of (v := v) (o := (atKey xs (nk k)).map (·.2)) (by rw [← l]; exact nrel_val r k)
  obtain ⟨p, hp, hp2⟩ := Option.map_eq_some_iff.mp hw
  refine wpAny_getItem_heap (nested_room hu) (nk_is I2.hok hk) dd hp ?_
  rw [hp2]
  exact ⟨v, H2, I2.tok _, rw', q2⟩
theorem pc_nnotin (hu : X.A.units + 9 < cLine) (hi : PE X i ty) (ho : PE X o td) : PC X .NotIn i o (tNNotIn X.prog X.w ty td) := by
  refine ⟨fun pins s σ H Q I h => ?_⟩
  refine thn (hi.run pins s σ H _ I h) fun iv s1 ⟨y, H1, I1, ry, q1⟩ => thn (ho.run pins s1 σ H1 _ I1 q1) fun u s2 ⟨x, H2, I2, rx, a, b, kvs, k, ex, ey, hk, d, q2⟩ => ?_
  subst ex ey
  obtain rfl : u = Value.ref a := rx
  obtain rfl : iv = Value.ref b := ry
  obtain ⟨xs, hx, r⟩ := d
  obtain ⟨z, hd, dd⟩ := dn_rd I2.hok hx r
  refine wpAny_notIn_heap (nested_room hu) (nk_is I2.hok hk) hd dd ?_
  have q := (nrel_val r k).isSome_eq
  rw [Option.isSome_map] at q
  rw [← q]
  exact ⟨.bl (!(valV kvs k).isSome), H2, I2.tok _, rfl, q2⟩
end
/-- d.get(y, x) -/
def rGetN (P : Program) (w : World) : V → List V → Hp → VK → Prop := fun x vs H Q => ∃ (a b : Addr) (z : V) (kvs : List (NKey × V)) (k : NKey), x = .ref a ∧ vs = [.ref b, z] ∧ KAt H b k ∧ ND P w H a kvs ∧ Q ((valV kvs k).getD z) H
theorem mt_getN {X : Cx} (hu : X.A.units + 9 < cLine) : MtR X "dict.get" (rGetN X.prog X.w) := by
  intro pins s σ H x vs v us Q I rx rv h
  obtain ⟨a, b, z, kvs, k, rfl, rfl, hk, d, q⟩ := h
  obtain rfl : v = Value.ref a := rx
  obtain ⟨u1, u2, rfl, r1, r2⟩ := vals2 rv
  obtain rfl : u1 = Value.ref b := r1
  obtain ⟨xs, hx, r⟩ := d
  obtain ⟨zl, hd, dd⟩ := dn_rd I.hok hx r
  refine call_meetsIn PySem.F.slot_dict_get dd.typeIs PySem.F.entry_dict_get (PySem.F.args_dict_get_3 _ _ _) (meetsH_dict_get_default (nestedKind X.prog X.w) a b hd u2) ⟨nested_room hu, nk k, xs, nk_is I.hok hk, dd, ?_⟩
  exact ⟨_, _, I.tok _, (nrel_val r k).getD r2, q⟩
/-! ### d.update([(key, value) ..]) -/
def putsN (cur new : List (NKey × V)) : List (NKey × V) := new.foldl (fun acc kv => putK acc kv.1 kv.2) cur
theorem putsN_len : ∀ (new cur : List (NKey × V)), (putsN cur new).length ≤ cur.length + new.length
  | [], cur => Nat.le_refl _
  | p :: r, cur => by
    have h1 := putsN_len r (putK cur p.1 p.2)
    have h2 := length_putK cur p.1 p.2
    show (putsN (putK cur p.1 p.2) r).length ≤ _
    rw [List.length_cons]
    omega
/-- a tuple of a key and its value -/
def PairN (H : Hp) (p : Addr) (kv : NKey × V) : Prop := ∃ b, H p = some (.tup [.ref b, kv.2]) ∧ KAt H b kv.1
def rUpdN (P : Program) (w : World) : V → List V → Hp → VK → Prop := fun x vs H Q => ∃ (d l : Addr) (cur new : List (NKey × V)) (ps : List Addr), x = .ref d ∧ vs = [.ref l] ∧ NDm P w H d cur ∧ H l = some (.lst (ps.map V.ref)) ∧ Paired (PairN H) ps new ∧
  cur.length + new.length ≤ sizeLine ∧ ∀ xs, NDm P w (upd H d (DN P w d xs)) d (putsN cur new) → Q .non (upd H d (DN P w d xs))
section
variable {X : Cx}
theorem pairsN {pins : List (Addr × Obj)} {σ : L2.St} {H : Hp} {s : Shared} (I : Inv X pins σ H s) : ∀ {ps : List Addr} {new : List (NKey × V)}, Paired (PairN H) ps new →
    ∃ prs : List (NestedKey × Addr × Value), prs.length = ps.length ∧ Paired (NRel H) new prs ∧
      ∀ (j : Nat) (q : NestedKey × Addr × Value), prs[j]? = some q → ∃ p, ps[j]? = some p ∧ PairAt s.heap p (.ref q.2.1) q.2.2
  | _, _, .nil => ⟨[], rfl, .nil, fun j q e => by simp at e⟩
  | _, _, .cons (a := p) (b := u) h t => by
    obtain ⟨prs, hl, hp, hq⟩ := pairsN I t
    obtain ⟨b, h1, h2⟩ := h
    obtain ⟨_, its, rv, o, e1, e2, n, e3⟩ := (show ObjOk X.prog X.w H s.heap p (.tup [.ref b, u.2]) from I.hok p _ h1)
    obtain ⟨v1, v2, rfl, r1, r2⟩ := vals2 rv
    obtain rfl : v1 = Value.ref b := r1
    refine ⟨(nk u.1, b, v2) :: prs, by rw [List.length_cons, List.length_cons, hl], .cons ⟨rfl, h2, r2⟩ hp, fun j q e => ?_⟩
    cases j with
    | zero =>
      have e' : (nk u.1, b, v2) = q := Option.some.inj e
      subst e'
      exact ⟨p, rfl, .inl ⟨o, e1, e2, n, e3⟩⟩
    | succ j => exact hq j q e
theorem nrel_puts {H : Hp} : ∀ {new : List (NKey × V)} {prs : List (NestedKey × Addr × Value)} {cur : List (NKey × V)} {xs : List (NestedKey × Addr × Value)}, Paired (NRel H) new prs → Paired (NRel H) cur xs → Paired (NRel H) (putsN cur new) (storedAllH xs prs)
  | _, _, _, _, .nil, h => h
  | _, _, cur, xs, .cons (a := p) (b := q) (l₁ := new) (l₂ := prs) r t, h => by
    obtain ⟨pk, pv⟩ := p
    obtain ⟨qk, qa, qv⟩ := q
    obtain ⟨e1, e2, e3⟩ := r
    have e1' : qk = nk pk := e1
    subst e1'
    show Paired (NRel H) (putsN (putK cur pk pv) new) (storedAllH (storedH xs (nk pk) qa qv) prs)
    exact nrel_puts t (nrel_put h pk e2 e3)
theorem mt_updN (hc : X.calm = true) (hu : X.A.units + 9 < cLine) : MtR X "dict.update" (rUpdN X.prog X.w) := by
  intro pins s σ H x vs v us Q I rx rv h
  obtain ⟨d, l, cur, new, ps, rfl, rfl, ⟨xs, hd, rel⟩, hl, hp, hz, q⟩ := h
  obtain rfl : v = Value.ref d := rx
  obtain ⟨u, rfl, ru⟩ := rv.one
  obtain rfl : u = Value.ref l := ru
  obtain ⟨zl, its, n, r, _, hle⟩ := I.lstM hl
  have ei := refs_at r
  subst ei
  obtain ⟨z, hdm, dd⟩ := dn_rd I.hok (.inl hd) rel
  obtain ⟨prs, pl, hpw, hpp⟩ := pairsN I hp
  have pwl : ps.length = new.length := Paired.len hp
  have xl : cur.length = xs.length := Paired.length rel
  have ndl : d ≠ l := ne_of hd hl (fun z => nomatch z)
  have tupAt : ∀ {b : Addr} {ys : List V}, H b = some (.tup ys) → b ≠ d := fun hb => ne_of hb hd (fun z => nomatch z)
  have keyStay : ∀ (h' : Heap), (∀ b o, b ≠ d → b ∉ ([] : List Addr) → s.heap.get? b = some o → h'.get? b = some o) → ∀ (k : NKey) (b : Addr), KAt H b k → (nestedKind X.prog X.w).is h' (nk k) b := by
    intro h' hk k b hb
    exact HeapKind.Stays.but nestedKind_stays (let ⟨o, es, ep, e1, _, e3, _⟩ := dd; ⟨o, es, ep, e1, e3⟩) h' hk _ _ (nk_is I.hok hb)
  let Ts : Nat → Addr := fun j => ps.getD j 0
  have tsAt : ∀ {j : Nat} {p : Addr}, ps[j]? = some p → Ts j = p := fun {j p} e => by
    show ps.getD j 0 = p
    rw [List.getD_eq_getElem?_getD, e]
    rfl
  have qsAt : ∀ {j : Nat} {k v : Value}, (prs.map fun q => (Value.ref q.2.1, q.2.2))[j]? = some (k, v) → ∃ q, prs[j]? = some q ∧ k = .ref q.2.1 ∧ v = q.2.2 := fun {j k v} e => by
    rw [List.getElem?_map] at e
    cases hq : prs[j]? with
    | none => rw [hq] at e; cases e
    | some q =>
      rw [hq] at e
      have e' : (Value.ref q.2.1, q.2.2) = (k, v) := Option.some.inj e
      cases e'
      exact ⟨q, rfl, rfl, rfl⟩
  have ql : (prs.map fun q => (Value.ref q.2.1, q.2.2)).length = ps.length := by rw [List.length_map, pl]
  refine call_update_pairsH (knd := nestedKind X.prog X.w) (acc := xs) (ps := prs) (PairArg.list l (ps.map Value.ref).toArray Ts (prs.map fun q => (Value.ref q.2.1, q.2.2))) (I.ok.hd hc) (nested_room hu)
    ⟨⟨_, n, hle, rfl, rfl, rfl⟩, by simp [pl], fun j k v e => ?_⟩ (fun hm => ?_) ⟨by rw [List.length_map], fun i key v e => ?_⟩ (fun h' hk x hx => ?_) dd (by rw [← xl, ql, pwl]; exact hz) fun h' tk dd' hk => ?_
  · obtain ⟨q', hq, rfl, rfl⟩ := qsAt e
    obtain ⟨p, h1, h2⟩ := hpp j q' hq
    refine ⟨?_, by rw [tsAt h1]; exact h2⟩
    rw [tsAt h1]
    simp [h1]
  · rcases List.mem_cons.mp hm with e | hm
    · exact ndl e
    · obtain ⟨j, hj, e⟩ := List.mem_map.mp hm
      rw [List.mem_range, ql] at hj
      have hp1 : ps[j]? = some (ps[j]'hj) := List.getElem?_eq_getElem hj
      rw [tsAt hp1] at e
      obtain ⟨u, _, b, h1, _⟩ := Paired.get1 hp hp1
      exact tupAt h1 e
  · obtain ⟨q', hq, rfl, rfl⟩ := qsAt e
    exact ⟨q'.1, q'.2.1, hq, rfl⟩
  · rcases List.mem_append.mp hx with hx | hx
    · obtain ⟨i, hi⟩ := List.mem_iff_getElem?.mp hx
      obtain ⟨p, hp1, e1, e2, _⟩ := Paired.get2 rel hi
      rw [e1]
      exact keyStay h' hk _ _ e2
    · obtain ⟨i, hi⟩ := List.mem_iff_getElem?.mp hx
      obtain ⟨u, hu1, e1, e2, _⟩ := Paired.get2 hpw hi
      rw [e1]
      exact keyStay h' hk _ _ e2
  · have r2 := nrel_puts hpw rel
    have lN : (storedAllH xs prs).length ≤ sizeLine := by
      rw [← Paired.len r2]
      exact Nat.le_trans (putsN_len new cur) hz
    have he : ∃ o, h'.get? d = some o := let ⟨o, _, _, e1, _⟩ := dd'; ⟨o, e1⟩
    refine ⟨.non, _, I.write (x := d) (e := d) (by rw [hd]; exact True.intro) (.inl rfl) (fun b u hb e => hk b u hb (by simp) e) he (dn_ok lN hdm dd'), rfl, q _ ⟨_, upd_same, Paired.mapP r2 fun _ _ => NRel.keep fun b ys e => ?_⟩⟩
    rw [upd_ne (tupAt e)]
    exact e
end
end Wb

set_option Elab.async false
set_option linter.all false
set_option maxRecDepth 100000
set_option maxHeartbeats 4000000
set_option pp.maxSteps 900
set_option pp.deepTerms false
namespace L2
open PySem PySem.Spec PyProof.Rows
/-! ### {k: v for .. in .. for .. in ..}: the two loops -/
section
variable {P : Program} {w : World} {A : Around} {R : Result → Shared → Prop} {s : Shared} {kx vx g0 e0 g1 e1 : Expr} {c0 c1 : List Expr} {sc : Scope} {pos : Pos} {it : Value} {D : Addr} {env : Env}
/-- all tests of a clause, one after another -/
abbrev clauseT (cs : List Expr) (env : Env) : Sem Bool := forIn cs true fun c b =>
  if b = true then do
    let z ← isTrue c env (eval c env)
    pure (ForInStep.yield z)
  else pure (ForInStep.yield b)
abbrev two (kx vx g0 e0 g1 e1 : Expr) (c0 c1 : List Expr) (sc : Scope) (pos : Pos) : Expr := .DictComp kx vx [⟨g0, e0, c0, 0⟩, ⟨g1, e1, c1, 0⟩] sc pos
abbrev Err (P : Program) (w : World) (A : Around) (R : Result → Shared → Prop) (env : Env) : Value → Shared → Prop := notedBy (model P w) A env fun x z => R (.error x) z
theorem two_outer (fold : ∀ x, foldedSetIterable e1 env x = pure x) (G : Nat → Shared → Prop)
    (step : ∀ n s, G n s → wpAny (model P w) A (pyNext it) (fun r a => match r with
      | none => R (.ok .next) a
      | some v => wpAny (model P w) A (letOwnedTupleGo g0 it v) (fun _ b => wpAny (model P w) A (assign g0 env v) (fun _ c => wpAny (model P w) A (clauseT c0 env) (fun ok d =>
          if ok = true then wpAny (model P w) A (eval e1 env) (fun x d1 => wpAny (model P w) A (pyIter x) (fun y d2 => codeAny (model P w) A (.compStart (two kx vx g0 e0 g1 e1 c0 c1 sc pos) 1 y (.ref D) env)
            (fun q z => match q with
              | .ok _ => ∃ m, m < n ∧ G m z
              | .error _ => False) d2) (Err P w A R env) d1) (Err P w A R env) d
          else ∃ m, m < n ∧ G m d) (Err P w A R env) c) (Err P w A R env) b) (Err P w A R env) a) (Err P w A R env) s)
    (n : Nat) (h : G n s) : codeAny (model P w) A (.compLoop (two kx vx g0 e0 g1 e1 c0 c1 sc pos) 0 it (.ref D) env) R s := by
  refine codeAny_loop rfl G ?_ n h
  intro n s hG
  show wpAny _ A (Sem.onRaise (compTurn (two kx vx g0 e0 g1 e1 c0 c1 sc pos) 0 it (.ref D) env) _) _ _ s
  refine wpAny_noted ?_
  show wpAny _ A (standAt e0.pos >>= _) _ _ s
  refine wpAny_bind ?_
  refine wpAny_standAt ?_
  refine wpAny_bind ?_
  refine wpAny_mono (step n s hG) ?_ (fun _ _ z => z)
  intro r a ha
  cases r with
  | none => exact wpAny_pure ha
  | some v =>
    refine wpAny_bind ?_
    refine wpAny_mono ha ?_ (fun _ _ z => z)
    intro _ b hb
    refine wpAny_bind ?_
    refine wpAny_mono hb ?_ (fun _ _ z => z)
    intro _ c hc
    refine wpAny_bind ?_
    refine wpAny_mono hc ?_ (fun _ _ z => z)
    intro ok d hd
    cases ok
    · exact wpAny_pure ⟨rfl, hd⟩
    · apply wpAny_bind
      refine wpAny_mono hd ?_ (fun _ _ z => z)
      intro x d1 hx
      refine wpAny_bind ?_
      refine wpAny_standAt ?_
      refine wpAny_bind ?_
      refine wpAny_of_eq (fold x) ?_
      refine wpAny_bind ?_
      refine wpAny_holding ?_
      refine wpAny_mono hx ?_ (fun _ _ z => z)
      intro y d2 hy
      refine wpAny_bind ?_
      refine wpAny_runOwn ?_
      rw [Around.mark_none]
      refine codeAny_mono hy ?_
      intro q z hq
      cases q with
      | error x => exact hq.elim
      | ok f =>
        first
          | exact wpAny_pure ⟨rfl, hq⟩
          | exact wpAny_bind (wpAny_pure (wpAny_pure ⟨rfl, hq⟩))
theorem two_inner (G : Nat → Shared → Prop)
    (step : ∀ n s, G n s → wpAny (model P w) A (pyNext it) (fun r a => match r with
      | none => R (.ok .next) a
      | some v => wpAny (model P w) A (letOwnedTupleGo g1 it v) (fun _ b => wpAny (model P w) A (assign g1 env v) (fun _ c => wpAny (model P w) A (clauseT c1 env) (fun ok d =>
          if ok = true then wpAny (model P w) A (eval kx env) (fun k d1 => wpAny (model P w) A (eval vx env) (fun y d2 => wpAny (model P w) A (dictSet D k y) (fun _ z => ∃ m, m < n ∧ G m z) (Err P w A R env) d2) (Err P w A R env) d1) (Err P w A R env) d
          else ∃ m, m < n ∧ G m d) (Err P w A R env) c) (Err P w A R env) b) (Err P w A R env) a) (Err P w A R env) s)
    (n : Nat) (h : G n s) : codeAny (model P w) A (.compLoop (two kx vx g0 e0 g1 e1 c0 c1 sc pos) 1 it (.ref D) env) R s := by
  refine codeAny_loop rfl G ?_ n h
  intro n s hG
  show wpAny _ A (Sem.onRaise (compTurn (two kx vx g0 e0 g1 e1 c0 c1 sc pos) 1 it (.ref D) env) _) _ _ s
  refine wpAny_noted ?_
  show wpAny _ A (standAt e1.pos >>= _) _ _ s
  refine wpAny_bind ?_
  refine wpAny_standAt ?_
  refine wpAny_bind ?_
  refine wpAny_mono (step n s hG) ?_ (fun _ _ z => z)
  intro r a ha
  cases r with
  | none => exact wpAny_pure ha
  | some v =>
    refine wpAny_bind ?_
    refine wpAny_mono ha ?_ (fun _ _ z => z)
    intro _ b hb
    refine wpAny_bind ?_
    refine wpAny_mono hb ?_ (fun _ _ z => z)
    intro _ c hc
    refine wpAny_bind ?_
    refine wpAny_mono hc ?_ (fun _ _ z => z)
    intro ok d hd
    cases ok
    · exact wpAny_pure ⟨rfl, hd⟩
    · apply wpAny_bind
      refine wpAny_bind ?_
      refine wpAny_mono hd ?_ (fun _ _ z => z)
      intro k d1 hk
      refine wpAny_bind ?_
      refine wpAny_holding ?_
      refine wpAny_mono hk ?_ (fun _ _ z => z)
      intro y d2 hy
      refine wpAny_bind ?_
      refine wpAny_standAt ?_
      refine wpAny_holding ?_
      refine wpAny_mono hy ?_ (fun _ _ z => z)
      intro _ z hz
      exact wpAny_pure ⟨rfl, hz⟩
theorem two_start (h0 : codeAny (model P w) A (.compLoop (two kx vx g0 e0 g1 e1 c0 c1 sc pos) 1 it (.ref D) env) R s)
    (h : wpAny (model P w) A (pyIter it) (fun y z => codeAny (model P w) A (.compLoop (two kx vx g0 e0 g1 e1 c0 c1 sc pos) 1 y (.ref D) env) R z) (Err P w A R env) s) :
    codeAny (model P w) A (.compStart (two kx vx g0 e0 g1 e1 c0 c1 sc pos) 1 it (.ref D) env) R s := by
  refine codeAny_of_tree ?_
  show wpAny _ _ (Sem.onRaise (compStart (two kx vx g0 e0 g1 e1 c0 c1 sc pos) 1 it (.ref D) env) _) _ _ s
  refine wpAny_notedAt ?_
  unfold compStart
  show wpAny _ _ (ask >>= _) _ _ s
  refine wpAny_bind ?_
  refine wpAny_askSetting ?_
  refine wpAny_ite ?_
  split
  · first
      | exact wpAny_bind (wpAny_pure (wpAny_pure (And.intro rfl h0)))
      | exact wpAny_pure (And.intro rfl h0)
  · apply wpAny_bind
    refine wpAny_rule ?_
    first
      | (apply wpAny_bind; apply wpAny_standAt; apply wpAny_bind; exact wpAny_mono h (fun y z q => wpAny_pure (And.intro rfl q)) (fun _ _ z => z))
      | (show wpAny _ _ (standAt e1.pos >>= _) _ _ s; apply wpAny_bind; apply wpAny_standAt; apply wpAny_bind; exact wpAny_mono h (fun y z q => wpAny_pure (And.intro rfl q)) (fun _ _ z => z))
end
end L2

set_option Elab.async false
set_option linter.all false
set_option maxRecDepth 100000
set_option maxHeartbeats 4000000
set_option pp.maxSteps 600
set_option pp.deepTerms false
namespace L2
open PySem PySem.Spec PyProof.Rows
/-! ### {k: v for .. in .. for .. in ..}, keys that are tuples of whole numbers and a word -/
open Wb (NKey nk KAt DN NDm nested_room nk_is dn_rd dn_ok nrel_put)
theorem dN_set {X : Cx} {pins : List (Addr × Obj)} {σ : L2.St} {H : Hp} {s : Shared} {E : Value → Shared → Prop} {D q : Addr} {kvs : List (NKey × V)} {k : NKey} {v : V} {r : Value} {Q : Unit → Shared → Prop} (hu : X.A.units + 9 < cLine)
    (I : Inv X pins σ H s) (hD : NDm X.prog X.w H D kvs) (hz : kvs.length < sizeLine) (hq : KAt H q k) (rv : RelV v r)
    (go : ∀ xs s', NDm X.prog X.w (upd H D (DN X.prog X.w D xs)) D (putK kvs k v) → Inv X pins σ (upd H D (DN X.prog X.w D xs)) s' → Q () s') : wpAny (model X.prog X.w) X.A (dictSet D (.ref q) r) Q E s := by
  obtain ⟨xs, hx, rel⟩ := hD
  obtain ⟨z, hd, dd⟩ := dn_rd I.hok (.inl hx) rel
  have r2 := nrel_put rel k hq rv
  have n2 : (storedH xs (nk k) q r).length ≤ sizeLine := by
    have := length_putK kvs k v
    rw [← Wb.Paired.len r2]
    omega
  apply wpAny_dictSet_heap (hsz := z) (show (nestedKind X.prog X.w).room X.A from (by show X.A.units + 8 < cLine; omega)) (nk_is I.hok hq) dd
  intro h' dd' hs
  have he : ∃ o, h'.get? D = some o := let ⟨o, _, _, e1, _⟩ := dd'; ⟨o, e1⟩
  refine go _ _ ⟨_, upd_same, Paired.mapP r2 ?_⟩ (d_write I (by rw [hx]; exact True.intro) hs he (dn_ok n2 hd dd'))
  intro _ _ y
  refine Wb.NRel.keep ?_ y
  intro b ys e
  rw [upd_ne (ne_of e hx (fun z => nomatch z))]
  exact e
section
variable {X : Cx}
/-- the inner loop of tDcN: behind the outer clause's store and tests -/
def tDcNin (P : Program) (w : World) (wi1 : TI) (g1 : TG) (tt1 : TT) (tk tv : TE) (vs1 : List Nat) (D : Addr) (Nx : Hp → Prop) (σ2 : L2.St) (H3 : Hp) : Prop :=
  wi1 σ2 H3 fun J1 H4 => ∃ W1 : Nat → Nat → Hp → Prop, (∃ m, W1 0 m H4) ∧ ∀ j k H, W1 j k H →
    (J1.stop j H ∧ Nx H) ∨ (J1.go j H ∧ ∃ Nx1 : Hp → Prop, (∀ H', Nx1 H' → ∃ k', k' < k ∧ W1 (j + 1) k' H') ∧ ∀ x H', J1.yld j H x H' → g1 x (wipe σ2 vs1) H' fun σ3 H5 => wipe σ3 vs1 = wipe σ2 vs1 ∧ tt1 σ3 H5 fun b H6 =>
      if b = true then tk σ3 H6 fun y H7 => tv σ3 H7 fun z H8 => ∃ kvs key q, y = .ref q ∧ KAt H8 q key ∧ NDm P w H8 D kvs ∧ kvs.length < sizeLine ∧ ∀ xs, NDm P w (upd H8 D (DN P w D xs)) D (putK kvs key z) → Nx1 (upd H8 D (DN P w D xs))
      else Nx1 H6)
def tDcN (P : Program) (w : World) (wi : TI) (g : TG) (tt : TT) (wi1 : TI) (g1 : TG) (tt1 : TT) (tk tv : TE) (vs vs1 : List Nat) : TE := fun σ H Q => wi σ H fun J H1 => ∀ D, H1 D = none → ∃ W : Nat → Nat → Hp → Prop, (∃ m, W 0 m (upd H1 D (DN P w D []))) ∧ ∀ i m H, W i m H →
  (J.stop i H ∧ Q (.ref D) H) ∨ (J.go i H ∧ ∃ Nx : Hp → Prop, (∀ H', Nx H' → ∃ m', m' < m ∧ W (i + 1) m' H') ∧ ∀ x H', J.yld i H x H' → g x (wipe σ vs) H' fun σ2 H2 => wipe σ2 vs = wipe σ vs ∧ tt σ2 H2 fun b H3 =>
    if b = true then tDcNin P w wi1 g1 tt1 tk tv vs1 D Nx σ2 H3 else Nx H3)
theorem dcn_core {pins : List (Addr × Obj)} {s : Shared} {σ : L2.St} {H : Hp} {Q : VK} {kx vx tg iter tg1 iter1 : Expr} {ifs ifs1 : List Expr} {sc : Scope} {own : List (Str × Nat)} {vs1 : List Nat} {pos pos' : Pos} {wi wi1 : TI} {g g1 : TG} {tt tt1 : TT} {tk tv : TE}
    {use : Option (Value → Sem Unit)} {Qf : Value → Shared → Prop} (hu : X.A.units + 9 < cLine) (hc : X.calm = true) (hN : X.N.Nodup) (I : Inv X pins σ H s) (hi : PI X tg iter wi) (ok : BlkOk X.N X.env.scope sc own) (hv : ∀ i ∈ vs1, i ∈ own.map (·.2))
    (pgs : ∀ (s : Shared) (H : Hp) (C : Addr) (cl : List (Str × Addr)) (fp : List Addr), PG (X.blk s H sc (compEnvC sc cl C X.env) fp) tg g)
    (pts : ∀ (s : Shared) (H : Hp) (C : Addr) (cl : List (Str × Addr)) (fp : List Addr), PTs (X.blk s H sc (compEnvC sc cl C X.env) fp) ifs tt)
    (pks : ∀ (s : Shared) (H : Hp) (C : Addr) (cl : List (Str × Addr)) (fp : List Addr), PE (X.blk s H sc (compEnvC sc cl C X.env) fp) kx tk)
    (pes : ∀ (s : Shared) (H : Hp) (C : Addr) (cl : List (Str × Addr)) (fp : List Addr), PE (X.blk s H sc (compEnvC sc cl C X.env) fp) vx tv)
    (pis1 : ∀ (s : Shared) (H : Hp) (C : Addr) (cl : List (Str × Addr)) (fp : List Addr), PI (X.blk s H sc (compEnvC sc cl C X.env) fp) tg1 iter1 wi1)
    (pgs1 : ∀ (s : Shared) (H : Hp) (C : Addr) (cl : List (Str × Addr)) (fp : List Addr), PG (X.blk s H sc (compEnvC sc cl C X.env) fp) tg1 g1)
    (pts1 : ∀ (s : Shared) (H : Hp) (C : Addr) (cl : List (Str × Addr)) (fp : List Addr), PTs (X.blk s H sc (compEnvC sc cl C X.env) fp) ifs1 tt1)
    (hs : ∀ x, foldedSetIterable iter X.env x = pure x) (hs1 : ∀ env x, foldedSetIterable iter1 env x = pure x) (h : tDcN X.prog X.w wi g tt wi1 g1 tt1 tk tv (own.map (·.2)) vs1 σ H Q)
    (fin0 : ∀ D C s' m H', Inv X pins σ H' s' → Q (.ref D) H' → s'.heap.Ns C m → FpOk X pins H' C → compPost (model X.prog X.w) X.A X.xe use Qf (.ref D) C (.ok .next) s') :
    wpAny (model X.prog X.w) X.A (comprehension (two kx vx tg iter tg1 iter1 ifs ifs1 sc pos) sc X.env pos' newDict false (eval iter X.env) use) Qf X.xe s := by
  have frees : ∀ y ∈ sc.names, y.2 = .free → ∃ c, X.env.cells.lookup y.1 = some c := by
    intro y hy e
    cases ok.free y hy e with
    | inl k => exact I.ok.has _ (.inl k)
    | inr k => exact I.ok.has _ (.inr k)
  apply wpAny_comprehension_free (use := use) rfl hs (closure_ok frees) ok.kind (fun y hy e => by rw [ok.uniq y hy, e])
  refine thn (hi.run pins s σ H _ I h) ?_
  intro xv s1 hx
  refine thn hx ?_
  rintro itv s2 ⟨it, fp, tn, J, H2, rfl, I2, T, st2, f2, q⟩
  refine wpAny_newObj_type (newEnv_comp ?_)
  obtain ⟨D, hD⟩ : ∃ D, s2.heap.objs.size = D := ⟨_, rfl⟩
  have hDn : H2 D = none := I2.hok.fresh (Nat.le_of_eq hD)
  obtain ⟨W, ⟨m0, w0⟩, turn⟩ := q D hDn
  obtain ⟨s3, hs3⟩ : ∃ s3 : Shared, ({ s2 with heap := s2.heap.push { cls := .type "dict", data := .dict #[] } } : Shared) = s3 := ⟨_, rfl⟩
  rw [hD, hs3]
  have h3 : s3.heap = s2.heap.push { cls := .type "dict", data := .dict #[] } := by rw [← hs3]
  have I3 : Inv X pins σ (upd H2 D (DN X.prog X.w D [])) s3 := by
    subst hs3
    apply I2.laid (t' := s2.toks) (fun b o e => Heap.get?_push_of_some _ e) (Nat.le_of_eq hD)
    subst hD
    exact dn_ok (Nat.zero_le _) (beq_eq_false_iff_ne.mpr (Ne.symm (Nat.ne_of_lt I2.big))) (Heap.DictOfH.new s2.heap)
  have below : ∀ b ∈ fp, b < s2.heap.objs.size := by
    intro b hb
    obtain ⟨o, e, _⟩ := T.obj _ _ st2 b hb
    exact Heap.lt_size e
  have f3 : ∀ b ∈ fp, FpOk X pins (upd H2 D (DN X.prog X.w D [])) b ∧ b < s3.heap.objs.size := by
    intro b hb
    have lt := below b hb
    refine ⟨⟨?_, (f2 b hb).2⟩, by rw [h3, Heap.size_push]; exact Nat.lt_succ_of_lt lt⟩
    rw [upd_ne (by subst hD; exact Nat.ne_of_lt lt)]
    exact (f2 b hb).1
  have st3 : tn 0 s3.heap := by
    apply T.keep _ _ _ st2
    intro b _ o e
    rw [h3]
    exact Heap.get?_push_of_some _ e
  have I4 := block_start I3 ok hN f3
  have pg := pgs s3 (upd H2 D (DN X.prog X.w D [])) s3.heap.objs.size (cellsFrom (s3.heap.objs.size + 1) sc.names (cloFrom X.env.cells sc.names [])) fp
  have pg1 := pgs1 s3 (upd H2 D (DN X.prog X.w D [])) s3.heap.objs.size (cellsFrom (s3.heap.objs.size + 1) sc.names (cloFrom X.env.cells sc.names [])) fp
  have pt1 := pts1 s3 (upd H2 D (DN X.prog X.w D [])) s3.heap.objs.size (cellsFrom (s3.heap.objs.size + 1) sc.names (cloFrom X.env.cells sc.names [])) fp
  have pi1 := pis1 s3 (upd H2 D (DN X.prog X.w D [])) s3.heap.objs.size (cellsFrom (s3.heap.objs.size + 1) sc.names (cloFrom X.env.cells sc.names [])) fp
  have pt := pts s3 (upd H2 D (DN X.prog X.w D [])) s3.heap.objs.size (cellsFrom (s3.heap.objs.size + 1) sc.names (cloFrom X.env.cells sc.names [])) fp
  have pk := pks s3 (upd H2 D (DN X.prog X.w D [])) s3.heap.objs.size (cellsFrom (s3.heap.objs.size + 1) sc.names (cloFrom X.env.cells sc.names [])) fp
  have pe := pes s3 (upd H2 D (DN X.prog X.w D [])) s3.heap.objs.size (cellsFrom (s3.heap.objs.size + 1) sc.names (cloFrom X.env.cells sc.names [])) fp
  show codeAny _ _ (.compStart (two kx vx tg iter tg1 iter1 ifs ifs1 sc pos) 0 (.ref it) (.ref D) (compEnvC sc (cellsFrom (s3.heap.objs.size + 1) sc.names (cloFrom X.env.cells sc.names [])) s3.heap.objs.size X.env)) _ { s3 with heap := pushCells (s3.heap.push { cls := .type "dict", data := .dict #[] }) sc.names }
  have none3 : ∀ b ∈ fp, (upd H2 D (DN X.prog X.w D [])) b = none := fun b hb => (f3 b hb).1.1
  generalize hce : compEnvC sc (cellsFrom (s3.heap.objs.size + 1) sc.names (cloFrom X.env.cells sc.names [])) s3.heap.objs.size X.env = ce at I4 pg pt pk pe pg1 pt1 pi1 ⊢
  have cL : ce.locals = s3.heap.objs.size := by rw [← hce]; rfl
  generalize hH3 : upd H2 D (DN X.prog X.w D []) = H3 at I3 I4 pg pt pk pe pg1 pt1 pi1 w0 none3 f3
  generalize hs4 : ({ s3 with heap := pushCells (s3.heap.push { cls := .type "dict", data := .dict #[] }) sc.names } : Shared) = s4 at I4 ⊢
  have st4 : tn 0 s4.heap := by
    apply T.keep _ _ _ st3
    intro b _ o e
    rw [← hs4]
    exact pushCells_keeps _ _ _ _ (Heap.get?_push_of_some _ e)
  have stat : ∀ {σ' : L2.St} {H' : Hp} {s' : Shared}, Inv (X.blk s3 H3 sc ce fp) [] σ' H' s' → (∀ b ∈ fp, H' b = none) → ∀ b ∈ fp, FpOk (X.blk s3 H3 sc ce fp) [] H' b := by
    intro σ' H' s' I' hn b hb
    refine ⟨hn b hb, (I'.ok.exf b hb).1, I'.ok.exfs b hb, .inl hb, fun x c e => (I'.ok.exf b hb).2 x c e, ?_⟩
    intro p hp
    exact absurd (show p ∈ ([] : List (Addr × Obj)) ++ [] from hp) (by simp)
  refine (fun loop => codeAny_compStart_dict loop (T.self X.A 0 _ _ _ st4 loop)) ?_
  apply two_outer (hs1 ce) (fun n s' => ∃ i H', Inv (X.blk s3 H3 sc ce fp) [] (wipe σ (own.map (·.2))) H' s' ∧ tn i s'.heap ∧ (∀ b ∈ fp, H' b = none) ∧ W i n H') _ m0 ⟨0, H3, I4, st4, none3, w0⟩
  rintro n s5 ⟨i, H5, I5, st5, n5, w5⟩
  rcases turn i n H5 w5 with ⟨stop, qq⟩ | ⟨go, Nx, hNx, step⟩
  · refine thnF (T.done (X.blk s3 H3 sc ce fp) rfl rfl rfl hc i [] s5 _ H5 (fun _ _ => False) I5 (stat I5 n5) st5 stop) ?_
    rintro r s6 ⟨rfl, I6⟩
    have I7 : Inv X pins σ H5 s6 := I3.call' (ch := fp) I6.os I6.base I6.hok I6.bare (fun b hb => by
      have z := (f3 b hb).1
      exact ⟨z.2.2.2.1, z.2.1, z.2.2.2.2.1, z.2.2.2.2.2⟩)
    have nC : H5 s3.heap.objs.size = none := by
      rw [← cL]
      exact I6.free
    obtain ⟨m, hn, _⟩ := I6.loc
    have hn' : s6.heap.Ns s3.heap.objs.size m := by
      rw [← cL]
      exact hn
    exact fin0 D s3.heap.objs.size s6 m H5 I7 qq hn' (I3.fpOk (b := s3.heap.objs.size) (Nat.le_refl _) nC)
  · refine thnF (T.item (X.blk s3 H3 sc ce fp) rfl rfl rfl hc i [] s5 _ H5 (fun _ _ => False) I5 (stat I5 n5) st5 go) ?_
    rintro r s6 ⟨u, rfl, h6⟩
    refine thnF h6 ?_
    rintro _ s7 ⟨x, H7, I7, r7, y7, st7, n7⟩
    have I7p := I7.pinned (stat I7 n7) (T.obj _ _ st7)
    refine thnF (pg.run _ s7 _ H7 x u _ I7p r7 (step x H7 y7)) ?_
    rintro _ s8 ⟨σ8, H8, I8, hw8, q8⟩
    refine thnF (pt.run _ s8 σ8 H8 _ I8 q8) ?_
    rintro b s9 ⟨H9, I9, q9⟩
    have turnEnd : ∀ {σ9 : L2.St} {s' : Shared} {H' : Hp}, Inv (X.blk s3 H3 sc ce fp) ([] ++ pinsAt fp s7.heap) σ9 H' s' → (wipe σ (own.map (·.2))).length = σ9.length → (∀ (j : Nat) v, (wipe σ (own.map (·.2)))[j]? = some (some v) → σ9[j]? = some (some v)) → Nx H' →
        ∃ m, m < n ∧ ∃ i H', Inv (X.blk s3 H3 sc ce fp) [] (wipe σ (own.map (·.2))) H' s' ∧ tn i s'.heap ∧ (∀ b ∈ fp, H' b = none) ∧ W i m H' := by
      intro σ9 s' H' I' hl hk nx
      obtain ⟨m', hm, w'⟩ := hNx H' nx
      have stay : ∀ b ∈ fp, ∀ o, s7.heap.get? b = some o → s'.heap.get? b = some o ∧ H' b = none := by
        intro b hb o e
        have z := I'.pin (b, o) (List.mem_append_right _ (List.mem_append_right _ (mem_pinsAt hb e)))
        exact ⟨z.1, z.2.1⟩
      refine ⟨m', hm, i + 1, H', (I'.unpinned (pins := [])).weak hl hk, T.keep _ _ _ st7 (fun b hb o e => (stay b hb o e).1), ?_, w'⟩
      intro b hb
      obtain ⟨o, e, _⟩ := T.obj _ _ st7 b hb
      exact (stay b hb o e).2
    have l8 : (wipe σ (own.map (·.2))).length = σ8.length := by rw [← hw8, wipe_length]
    have k8 : ∀ (j : Nat) v, (wipe σ (own.map (·.2)))[j]? = some (some v) → σ8[j]? = some (some v) := by
      intro j v e
      rw [← hw8] at e
      exact (wipe_some e).1
    have k9 : ∀ (j : Nat) v, (wipe σ (own.map (·.2)))[j]? = some (some v) → (wipe σ8 vs1)[j]? = some (some v) := by
      intro j v e
      rw [← hw8] at e
      obtain ⟨e1, e2⟩ := wipe_some e
      rw [wipe_out (fun z => e2 (hv j z))]
      exact e1
    cases b
    · simp only [Bool.false_eq_true, if_false] at q9 ⊢
      exact turnEnd I9 l8 k8 q9
    · simp only [if_true] at q9 ⊢
      refine thnF (pi1.run _ s9 σ8 H9 _ I9 q9) ?_
      intro xv s10 hx
      refine thnF hx ?_
      rintro itv s11 ⟨it1, fp1, tn1, J1, H11, rfl, I11, T1, st11, f11, W1, ⟨m1, w1⟩, turn1⟩
      have stat1 : ∀ {H' : Hp}, (∀ b ∈ fp1, H' b = none) → ∀ b ∈ fp1, FpOk (X.blk s3 H3 sc ce fp) ([] ++ pinsAt fp s7.heap) H' b := by
        intro H' hn b hb
        exact ⟨hn b hb, (f11 b hb).2⟩
      have inner : codeAny (model X.prog X.w) X.A (.compLoop (two kx vx tg iter tg1 iter1 ifs ifs1 sc pos) 1 (.ref it1) (.ref D) ce)
          (fun r s' => match r with
            | .ok _ => ∃ m, m < n ∧ ∃ i H', Inv (X.blk s3 H3 sc ce fp) [] (wipe σ (own.map (·.2))) H' s' ∧ tn i s'.heap ∧ (∀ b ∈ fp, H' b = none) ∧ W i m H'
            | .error _ => False) s11 := by
        apply two_inner (fun k s' => ∃ j H', Inv (X.blk s3 H3 sc ce fp) ([] ++ pinsAt fp s7.heap) (wipe σ8 vs1) H' s' ∧ tn1 j s'.heap ∧ (∀ b ∈ fp1, H' b = none) ∧ W1 j k H') _ m1
          ⟨0, H11, I11.weak (wipe_length _ _) (fun j v e => (wipe_some e).1), st11, fun b hb => (f11 b hb).1, w1⟩
        rintro k s12 ⟨j, H12, I12, st12, n12, w12⟩
        rcases turn1 j k H12 w12 with ⟨stop1, nx1⟩ | ⟨go1, Nx1, hNx1, step1⟩
        · refine thnF (T1.done (X.blk s3 H3 sc ce fp) rfl rfl rfl hc j _ s12 (wipe σ8 vs1) H12 (fun _ _ => False) I12 (stat1 n12) st12 stop1) ?_
          rintro r s13 ⟨rfl, I13⟩
          exact turnEnd I13 (l8.trans (wipe_length σ8 vs1).symm) k9 nx1
        · refine thnF (T1.item (X.blk s3 H3 sc ce fp) rfl rfl rfl hc j _ s12 (wipe σ8 vs1) H12 (fun _ _ => False) I12 (stat1 n12) st12 go1) ?_
          rintro r s13 ⟨u1, rfl, h13⟩
          refine thnF h13 ?_
          rintro _ s14 ⟨x1, H14, I14, r14, y14, st14, n14⟩
          have I14p := I14.pinned (stat1 n14) (T1.obj _ _ st14)
          refine thnF (pg1.run _ s14 (wipe σ8 vs1) H14 x1 u1 _ I14p r14 (step1 x1 H14 y14)) ?_
          rintro _ s15 ⟨σ15, H15, I15, hw15, q15⟩
          refine thnF (pt1.run _ s15 σ15 H15 _ I15 q15) ?_
          rintro b1 s16 ⟨H16, I16, q16⟩
          have fin1 : ∀ {s' : Shared} {H' : Hp}, Inv (X.blk s3 H3 sc ce fp) (([] ++ pinsAt fp s7.heap) ++ pinsAt fp1 s14.heap) σ15 H' s' → Nx1 H' →
              ∃ m, m < k ∧ ∃ j H', Inv (X.blk s3 H3 sc ce fp) ([] ++ pinsAt fp s7.heap) (wipe σ8 vs1) H' s' ∧ tn1 j s'.heap ∧ (∀ b ∈ fp1, H' b = none) ∧ W1 j m H' := by
            intro s' H' I' nx
            obtain ⟨m', hm, w'⟩ := hNx1 H' nx
            have stay : ∀ b ∈ fp1, ∀ o, s14.heap.get? b = some o → s'.heap.get? b = some o ∧ H' b = none := by
              intro b hb o e
              have z := I'.pin (b, o) (List.mem_append_right _ (List.mem_append_right _ (mem_pinsAt hb e)))
              exact ⟨z.1, z.2.1⟩
            refine ⟨m', hm, j + 1, H', I'.unpinned.weak (by rw [← hw15, wipe_length]) ?_, T1.keep _ _ _ st14 (fun b hb o e => (stay b hb o e).1), ?_, w'⟩
            · intro j v e
              rw [← hw15] at e
              exact (wipe_some e).1
            · intro b hb
              obtain ⟨o, e, _⟩ := T1.obj _ _ st14 b hb
              exact (stay b hb o e).2
          cases b1
          · simp only [Bool.false_eq_true, if_false] at q16 ⊢
            exact fin1 I16 q16
          · simp only [if_true] at q16 ⊢
            refine thnF (pk.run _ s16 σ15 H16 _ I16 q16) ?_
            rintro z s17 ⟨yk, H17, I17, r17, q17⟩
            refine thnF (pe.run _ s17 σ15 H17 _ I17 q17) ?_
            rintro z2 s18 ⟨yv, H18, I18, r18, kvs, key, kq, rfl, hkq, hD18, hz18, nx⟩
            cases r17
            exact dN_set (X := X.blk s3 H3 sc ce fp) hu I18 hD18 hz18 hkq r18 (fun xs s19 nd I19 => fin1 I19 (nx xs nd))
      exact two_start inner (T1.self X.A 0 _ _ _ st11 inner)
theorem pe_dcN {kx vx tg iter tg1 iter1 : Expr} {ifs ifs1 : List Expr} {sc : Scope} {own : List (Str × Nat)} {vs1 : List Nat} {pos : Pos} {wi wi1 : TI} {g g1 : TG} {tt tt1 : TT} {tk tv : TE} (hu : X.A.units + 9 < cLine) (hc : X.calm = true) (hN : X.N.Nodup) (hi : PI X tg iter wi) (ok : BlkOk X.N X.env.scope sc own) (hv : ∀ i ∈ vs1, i ∈ own.map (·.2))
    (pgs : ∀ (s : Shared) (H : Hp) (C : Addr) (cl : List (Str × Addr)) (fp : List Addr), PG (X.blk s H sc (compEnvC sc cl C X.env) fp) tg g)
    (pts : ∀ (s : Shared) (H : Hp) (C : Addr) (cl : List (Str × Addr)) (fp : List Addr), PTs (X.blk s H sc (compEnvC sc cl C X.env) fp) ifs tt)
    (pks : ∀ (s : Shared) (H : Hp) (C : Addr) (cl : List (Str × Addr)) (fp : List Addr), PE (X.blk s H sc (compEnvC sc cl C X.env) fp) kx tk)
    (pes : ∀ (s : Shared) (H : Hp) (C : Addr) (cl : List (Str × Addr)) (fp : List Addr), PE (X.blk s H sc (compEnvC sc cl C X.env) fp) vx tv)
    (pis1 : ∀ (s : Shared) (H : Hp) (C : Addr) (cl : List (Str × Addr)) (fp : List Addr), PI (X.blk s H sc (compEnvC sc cl C X.env) fp) tg1 iter1 wi1)
    (pgs1 : ∀ (s : Shared) (H : Hp) (C : Addr) (cl : List (Str × Addr)) (fp : List Addr), PG (X.blk s H sc (compEnvC sc cl C X.env) fp) tg1 g1)
    (pts1 : ∀ (s : Shared) (H : Hp) (C : Addr) (cl : List (Str × Addr)) (fp : List Addr), PTs (X.blk s H sc (compEnvC sc cl C X.env) fp) ifs1 tt1)
    (hs : ∀ x, foldedSetIterable iter X.env x = pure x := by intro _; rfl) (hs1 : ∀ env x, foldedSetIterable iter1 env x = pure x := by intro _ _; rfl) : PE X (.DictComp kx vx [⟨tg, iter, ifs, 0⟩, ⟨tg1, iter1, ifs1, 0⟩] sc pos) (tDcN X.prog X.w wi g tt wi1 g1 tt1 tk tv (own.map (·.2)) vs1) := by
  constructor
  intro pins s σ H Q I h
  rw [arm_eval_DictComp]
  apply dcn_core hu hc hN I hi ok hv pgs pts pks pes pis1 pgs1 pts1 hs hs1 h
  intro D C s' m H' I' q hn f
  refine ⟨m, hn, ?_⟩
  intro h'' sb
  obtain ⟨g0, g1, g2, g3, g4, g5⟩ := f
  exact ⟨.ref D, H', I'.turned (t' := s'.toks) (fun b o hb e => (sb.2 b hb).trans e) g0 g1 g3 g4 g5, rfl, q⟩
/-- name = {..} on one line, the name a local -/
theorem ps_setDcN {i : Nat} {y : Str} {py : Pos} {kx vx tg iter tg1 iter1 : Expr} {ifs ifs1 : List Expr} {sc : Scope} {own : List (Str × Nat)} {vs1 : List Nat} {pos spos : Pos} {wi wi1 : TI} {g g1 : TG} {tt tt1 : TT} {tk tv : TE} (hu : X.A.units + 9 < cLine) (hc : X.calm = true) (hN : X.N.Nodup)
    (hy : X.N[i]? = some y) (hyl : X.env.scope.names.lookup y = some .local) (hsw : swapsWith (.DictComp kx vx [⟨tg, iter, ifs, 0⟩, ⟨tg1, iter1, ifs1, 0⟩] sc pos) (some (.Name y py)) spos.line X.env = pure true) (hi : PI X tg iter wi) (ok : BlkOk X.N X.env.scope sc own) (hv : ∀ i ∈ vs1, i ∈ own.map (·.2))
    (pgs : ∀ (s : Shared) (H : Hp) (C : Addr) (cl : List (Str × Addr)) (fp : List Addr), PG (X.blk s H sc (compEnvC sc cl C X.env) fp) tg g)
    (pts : ∀ (s : Shared) (H : Hp) (C : Addr) (cl : List (Str × Addr)) (fp : List Addr), PTs (X.blk s H sc (compEnvC sc cl C X.env) fp) ifs tt)
    (pks : ∀ (s : Shared) (H : Hp) (C : Addr) (cl : List (Str × Addr)) (fp : List Addr), PE (X.blk s H sc (compEnvC sc cl C X.env) fp) kx tk)
    (pes : ∀ (s : Shared) (H : Hp) (C : Addr) (cl : List (Str × Addr)) (fp : List Addr), PE (X.blk s H sc (compEnvC sc cl C X.env) fp) vx tv)
    (pis1 : ∀ (s : Shared) (H : Hp) (C : Addr) (cl : List (Str × Addr)) (fp : List Addr), PI (X.blk s H sc (compEnvC sc cl C X.env) fp) tg1 iter1 wi1)
    (pgs1 : ∀ (s : Shared) (H : Hp) (C : Addr) (cl : List (Str × Addr)) (fp : List Addr), PG (X.blk s H sc (compEnvC sc cl C X.env) fp) tg1 g1)
    (pts1 : ∀ (s : Shared) (H : Hp) (C : Addr) (cl : List (Str × Addr)) (fp : List Addr), PTs (X.blk s H sc (compEnvC sc cl C X.env) fp) ifs1 tt1)
    (hs : ∀ x, foldedSetIterable iter X.env x = pure x := by intro _; rfl) (hs1 : ∀ env x, foldedSetIterable iter1 env x = pure x := by intro _ _; rfl) :
    PS X (.Assign [.Name y py] (.DictComp kx vx [⟨tg, iter, ifs, 0⟩, ⟨tg1, iter1, ifs1, 0⟩] sc pos) spos) (tAsg (tDcN X.prog X.w wi g tt wi1 g1 tt1 tk tv (own.map (·.2)) vs1) (gName i)) := by
  constructor
  intro pins s σ H D I h
  rw [exec_Assign_Name_used _ _ _ _ hsw]
  apply wpAny_bind
  apply wpAny_standAt
  apply wpAny_bind
  show wpAny _ X.A (do let _ ← comprehension (.DictComp kx vx [⟨tg, iter, ifs, 0⟩, ⟨tg1, iter1, ifs1, 0⟩] sc pos) sc X.env (firstIterPos [⟨tg, iter, ifs, 0⟩, ⟨tg1, iter1, ifs1, 0⟩] pos) newDict false (eval iter X.env) (some (assign (.Name y py) X.env))) _ _ s
  have h' : tDcN X.prog X.w wi g tt wi1 g1 tt1 tk tv (own.map (·.2)) vs1 σ H (fun x H1 => gName i x σ H1 D.nx) := h
  apply wpAny_bind
  refine thn (dcn_core (Qf := fun _ s' => SP X pins D .next s') hu hc hN I hi ok hv pgs pts pks pes pis1 pgs1 pts1 hs hs1 h' ?_) (fun _ s' hq => wpAny_pure (wpAny_pure hq))
  intro L C s' m H' I' q hn f
  show wpAny _ _ (assign (.Name y py) X.env (.ref L)) _ _ _
  apply wpAny_assign_Name
  refine store_ok2 (v := V.ref L) I' hN hy (.inl hyl) rfl ?_ (.inr hyl)
  rintro s2 I2 ⟨a, sb, ha⟩
  obtain ⟨g0, g1, g2, g3, g4, g5⟩ := f
  have apart : C ≠ a := by
    cases ha with
    | inl z => rw [z]; exact g1
    | inr z => exact fun e => g4 y a z e.symm
  refine ⟨m, hn.sameBut sb apart, ?_⟩
  intro h3 sb3
  exact ⟨_, H', I2.turned (t' := s2.toks) (fun b o hb e => (sb3.2 b hb).trans e) g0 g1 g3 g4 g5, q⟩
end
end L2

set_option Elab.async false
set_option linter.all false
set_option maxRecDepth 100000
set_option maxHeartbeats 4000000
set_option pp.maxSteps 900
set_option pp.deepTerms false
namespace Wb
open PySem PySem.Spec PyProof.Rows L2
/-! ### for key in d: the tuples that are keys, one after another; d locked -/
def Itkn (P : Program) (w : World) (d : Addr) (o : Obj) (xs : List (NestedKey × Addr × Value)) : It where
  go i H := H d = some (.frz o (DN P w d xs)) ∧ i < xs.length
  yld i H x H' := H' = H ∧ ∃ e, xs[i]? = some e ∧ x = .ref e.2.1
  stop i H := H d = some (.frz o (DN P w d xs)) ∧ xs.length ≤ i
theorem frzN {X : Cx} {pins : List (Addr × Obj)} {σ : L2.St} {H : Hp} {s : Shared} {d : Addr} {o : Obj} {xs : List (NestedKey × Addr × Value)} (I : Inv X pins σ H s) (h : H d = some (.frz o (DN X.prog X.w d xs))) :
    (d == sysModules) = false ∧ s.heap.get? d = some o ∧ o.ExactDict ∧ ∃ (es : Array DictEntry) (ep : Nat), o.data = .dict es ep ∧ es.size = xs.length ∧ ∀ (i : Nat) (e : NestedKey × Addr × Value), xs[i]? = some e → ∃ en : DictEntry, es[i]? = some en ∧ en.key = .ref e.2.1 := by
  obtain ⟨hg, ⟨z1, z2, o', es, ep, e1, e2, e3, e4, _⟩, _⟩ := I.hok d _ h
  rw [hg] at e1
  cases e1
  refine ⟨z1, hg, e2, es, ep, e3, size_of_entries e4, ?_⟩
  intro i e he
  have q := entry_at e4 i
  rw [he] at q
  exact ⟨_, q, rfl⟩
theorem turn_keysN {P : Program} {w : World} {K : PySem.W.Frag} {tg : Expr} {d : Addr} {o : Obj} {es : Array DictEntry} {ep : Nat} {xs : List (NestedKey × Addr × Value)} (it : Addr) (hod : o.data = .dict es ep) :
    Turn P w K tg (Itkn P w d o xs) [it] it (fun i h => h.IsKeyIter it d i xs.length ep) where
  mem := List.mem_singleton.mpr rfl
  obj := by
    intro i h st b hb
    obtain rfl : b = it := List.mem_singleton.mp hb
    obtain ⟨oi, e, c, dd⟩ := st
    refine ⟨oi, e, ?_⟩
    intro v z
    rw [dd] at z
    cases z
  keep := by
    intro i h h' st k
    exact st.at (fun oi e => k it (List.mem_singleton.mpr rfl) oi e)
  item := by
    rintro X rfl rfl rfl hc i pins s σ H E I hf st ⟨hd, hi⟩
    obtain ⟨f0, f1, f2, f3, f4, f5⟩ := hf it (List.mem_singleton.mpr rfl)
    obtain ⟨hs, hgd, hx, es', ep', hdt, hsz, ent⟩ := frzN I hd
    obtain ⟨rfl, rfl⟩ := dict_ep hod hdt
    obtain ⟨e, he⟩ : ∃ e, xs[i]? = some e := ⟨xs[i], List.getElem?_eq_getElem hi⟩
    obtain ⟨en, hen, hkey⟩ := ent i e he
    refine next_key_item st hgd hdt hsz hen ?_
    intro h' st' sb
    have I1 : Inv X pins σ H { s with heap := h' } := I.turned (t' := s.toks) (fun b ob hb e => (sb.2 b hb).trans e) f0 f1 f3 f4 f5
    obtain ⟨oi, e1, c, dd⟩ := id st'
    exact ⟨en.key, rfl, go_of (s := { s with heap := h' }) e1 c dd (by decide) ⟨.ref e.2.1, H, I1, hkey, ⟨rfl, e, he, rfl⟩, st', fun b hb => (hf b hb).1⟩⟩
  done := by
    rintro X rfl rfl rfl hc i pins s σ H E I hf st ⟨hd, hi⟩
    obtain ⟨f0, f1, f2, f3, f4, f5⟩ := hf it (List.mem_singleton.mpr rfl)
    obtain ⟨hs, hgd, hx, es', ep', hdt, hsz, ent⟩ := frzN I hd
    obtain ⟨rfl, rfl⟩ := dict_ep hod hdt
    refine next_key_end (I.ok.hd hc) st hgd hdt hsz hi ?_
    intro h' eb
    exact ⟨rfl, I.turned (t' := s.toks) (fun b ob hb e => eb b ob hb e) f0 f1 f3 f4 f5⟩
  self := by
    intro A i s Q E st h
    exact (turn_keysT (P := P) (w := w) (K := K) (tg := tg) (d := d) (o := o) (es := es) (ep := ep) (kvs := xs.map fun _ => ([], .non)) it hod).self A i s Q E (by rw [List.length_map]; exact st) h
def iKeysN (P : Program) (w : World) (td : TE) : TI := fun σ H R => td σ H fun x H1 => ∃ d o xs, x = .ref d ∧ H1 d = some (.frz o (DN P w d xs)) ∧ R (Itkn P w d o xs) H1
theorem pi_keysN {X : Cx} {tg e : Expr} {td : TE} (he : PE X e td) : PI X tg e (iKeysN X.prog X.w td) := by
  constructor
  intro pins s σ H R I h
  refine thn (he.run pins s σ H _ I h) ?_
  rintro u s1 ⟨x, H1, I1, rx, d, o, xs, rfl, hd, q⟩
  obtain rfl : u = Value.ref d := rx
  obtain ⟨hs, hgd, hx, es, ep, hdt, hsz, ent⟩ := frzN I1 hd
  refine iter_keys hs hgd hx hdt (pi_one (tk := s1.toks) I1 _ (turn_keysN _ hdt) ⟨_, Heap.get?_push_size _ rfl, rfl, ?_⟩ q)
  rw [hsz] <;> rfl
end Wb

set_option Elab.async false
set_option linter.all false
set_option maxRecDepth 100000
set_option maxHeartbeats 4000000
set_option pp.maxSteps 900
set_option pp.deepTerms false
namespace Wb
open PySem PySem.Spec PyProof.Rows L2
/-! ### ways with their prices, as data -/
abbrev NI := NKey × Int
def waysG (pre : List Int) (g : Gap) : List NI := g.ways.map fun w => ((pre ++ [g.frm, g.to_], w), g.price)
def waysB (pre : List Int) (b : Bolt) : List NI := b.gaps.flatMap (waysG pre)
def waysK (l : Lock) (k : Nat) : List NI := match l[k]? with
  | some b => waysB [(k : Int)] b
  | none => []
def waysL (l : Lock) (n : Nat) : List NI := (List.range n).flatMap (waysK l)
def iv (kvs : List NI) : List (NKey × V) := kvs.map fun p => (p.1, .int p.2)
def Uq (kvs : List NI) : Prop := kvs.Pairwise fun p q => p.1 ≠ q.1
def look (kvs : List NI) (k : NKey) : Option Int := (kvs.find? fun p => decide (p.1 = k)).map (·.2)
def leO (o : Option Int) (q : Int) : Bool := match o with
  | some p => decide (p ≤ q)
  | none => false
theorem look_cons (p : NI) (r : List NI) (k : NKey) : look (p :: r) k = if p.1 = k then some p.2 else look r k := by
  unfold look
  rw [List.find?_cons]
  by_cases h : p.1 = k
  · rw [if_pos h, decide_eq_true h]
    rfl
  · rw [if_neg h, decide_eq_false h]
theorem valV_iv : ∀ (kvs : List NI) (k : NKey), valV (iv kvs) k = (look kvs k).map V.int
  | [], _ => rfl
  | p :: r, k => by
    rw [look_cons]
    by_cases h : p.1 = k
    · rw [if_pos h]
      exact valV_pos h
    · rw [if_neg h]
      exact (valV_neg h).trans (valV_iv r k)
theorem look_mem : ∀ {kvs : List NI} {k : NKey} {p : Int}, look kvs k = some p → (k, p) ∈ kvs
  | [], _, _, h => nomatch h
  | q :: r, k, p, h => by
    rw [look_cons] at h
    by_cases e : q.1 = k
    · rw [if_pos e] at h
      cases h
      subst e
      exact List.mem_cons_self
    · rw [if_neg e] at h
      exact List.mem_cons_of_mem _ (look_mem h)
theorem mem_look : ∀ {kvs : List NI} {k : NKey} {p : Int}, Uq kvs → (k, p) ∈ kvs → look kvs k = some p
  | q :: r, k, p, u, h => by
    obtain ⟨u1, u2⟩ := List.pairwise_cons.mp u
    rw [look_cons]
    rcases List.mem_cons.mp h with e | h
    · subst e
      rw [if_pos rfl]
    · rw [if_neg (u1 _ h)]
      exact mem_look u2 h
theorem leO_iff {kvs : List NI} (u : Uq kvs) {k : NKey} {q : Int} : leO (look kvs k) q = true ↔ ∃ p, (k, p) ∈ kvs ∧ p ≤ q := by
  constructor
  · intro h
    cases e : look kvs k with
    | none => rw [e] at h; cases h
    | some p =>
      rw [e] at h
      exact ⟨p, look_mem e, of_decide_eq_true h⟩
  · rintro ⟨p, hp, hq⟩
    rw [mem_look u hp]
    exact decide_eq_true hq
/-! unlike keys -/
theorem lex_irr : ∀ u : Word, HT.lexLt u u = false
  | [] => by decide
  | x :: u => by
    rw [HT.lexLt_cons, if_pos rfl]
    exact lex_irr u
theorem uq_G (pre : List Int) {g : Gap} (h : g.ways.Pairwise fun u w => HT.lexLt u w = true) : Uq (waysG pre g) := by
  unfold Uq waysG
  rw [List.pairwise_map]
  refine h.imp ?_
  intro u w hl e
  have e2 : u = w := (Prod.mk.inj e).2
  subst e2
  rw [lex_irr] at hl
  cases hl
theorem uq_B (pre : List Int) {ms : List Int} {b : Bolt} (ok : BoltOk ms b) : Uq (waysB pre b) := by
  unfold Uq waysB
  rw [List.pairwise_flatMap]
  refine ⟨fun g hg => uq_G pre (ok.gaps g hg).rise, ok.rise.imp ?_⟩
  intro g h hl x hx y hy e
  obtain ⟨u, _, rfl⟩ := List.mem_map.mp hx
  obtain ⟨w, _, rfl⟩ := List.mem_map.mp hy
  have e1 : pre ++ [g.frm, g.to_] = pre ++ [h.frm, h.to_] := (Prod.mk.inj e).1
  have e2 := List.append_cancel_left e1
  have e3 : g.frm = h.frm := (List.cons.inj e2).1
  have e4 : g.to_ = h.to_ := (List.cons.inj (List.cons.inj e2).2).1
  rcases hl with z | ⟨_, z⟩
  · rw [e3] at z; exact Int.lt_irrefl _ z
  · rw [e4] at z; exact Int.lt_irrefl _ z
theorem head_G {pre : List Int} {g : Gap} {x : NI} (h : x ∈ waysG pre g) : ∃ r, x.1.1 = pre ++ r := by
  obtain ⟨u, _, rfl⟩ := List.mem_map.mp h
  exact ⟨_, rfl⟩
theorem mem_K {l : Lock} {k : Nat} {x : NI} (h : x ∈ waysK l k) : ∃ b, l[k]? = some b ∧ x ∈ waysB [(k : Int)] b := by
  unfold waysK at h
  cases e : l[k]? with
  | none => rw [e] at h; cases h
  | some b => rw [e] at h; exact ⟨b, rfl, h⟩
theorem head_K {l : Lock} {k : Nat} {x : NI} (h : x ∈ waysK l k) : x.1.1.head? = some (k : Int) := by
  obtain ⟨b, _, hb⟩ := mem_K h
  obtain ⟨g, _, hg⟩ := List.mem_flatMap.mp hb
  obtain ⟨r, e⟩ := head_G hg
  rw [e]
  rfl
theorem uq_K {l : Lock} (ok : ∀ (k : Nat) (b : Bolt), l[k]? = some b → BoltOk (manysOf (l.take k)) b) (k : Nat) : Uq (waysK l k) := by
  unfold waysK
  cases e : l[k]? with
  | none => exact .nil
  | some b => exact uq_B _ (ok k b e)
theorem uq_L {l : Lock} (ok : ∀ (k : Nat) (b : Bolt), l[k]? = some b → BoltOk (manysOf (l.take k)) b) (n : Nat) : Uq (waysL l n) := by
  unfold Uq waysL
  rw [List.pairwise_flatMap]
  refine ⟨fun k _ => uq_K ok k, List.pairwise_lt_range.imp ?_⟩
  intro k m hl x hx y hy e
  have h1 := head_K hx
  have h2 := head_K hy
  rw [e, h2] at h1
  have z := Option.some.inj h1
  omega
/-! putting unlike keys -/
theorem putK_new {kvs : List NI} {k : NKey} {p : Int} (h : ∀ q ∈ kvs, q.1 ≠ k) : putK (iv kvs) k (.int p) = iv (kvs ++ [(k, p)]) := by
  have e : ((iv kvs).any fun kv => decide (kv.1 = k)) = false := by
    rw [List.any_eq_false]
    intro x hx
    obtain ⟨q, hq, rfl⟩ := List.mem_map.mp hx
    simpa using h q hq
  unfold putK
  rw [e]
  unfold iv
  rw [List.map_append]
  rfl
theorem puts_uq : ∀ {new cur : List NI}, Uq (cur ++ new) → putsN (iv cur) (iv new) = iv (cur ++ new)
  | [], cur, _ => by
    rw [List.append_nil]
    rfl
  | q :: r, cur, u => by
    have h1 : ∀ x ∈ cur, x.1 ≠ q.1 := fun x hx => (List.pairwise_append.mp u).2.2 x hx q List.mem_cons_self
    have u' : Uq ((cur ++ [q]) ++ r) := by
      rw [List.append_assoc]
      exact u
    have e := puts_uq (new := r) (cur := cur ++ [q]) u'
    rw [List.append_assoc] at e
    show putsN (putK (iv cur) q.1 (.int q.2)) (iv r) = _
    rw [putK_new h1]
    exact e
/-! counts -/
theorem waysG_len (pre : List Int) (g : Gap) : (waysG pre g).length = g.ways.length := List.length_map _
theorem waysB_len (pre : List Int) (b : Bolt) : (waysB pre b).length = (b.gaps.map fun g => g.ways.length).sum := by
  unfold waysB
  rw [List.length_flatMap]
  congr 1
  exact List.map_congr_left fun g _ => waysG_len pre g
theorem waysK_len {l : Lock} (ok : ∀ (k : Nat) (b : Bolt), l[k]? = some b → BoltOk (manysOf (l.take k)) b) (k : Nat) : (waysK l k).length ≤ 8 := by
  unfold waysK
  cases e : l[k]? with
  | none => exact Nat.zero_le _
  | some b => rw [waysB_len]; exact (ok k b e).few
theorem waysL_len {l : Lock} (ok : ∀ (k : Nat) (b : Bolt), l[k]? = some b → BoltOk (manysOf (l.take k)) b) : ∀ n, (waysL l n).length ≤ 8 * n
  | 0 => Nat.le_refl _
  | n + 1 => by
    have h := waysL_len ok n
    have h2 := waysK_len ok n
    have e : waysL l (n + 1) = waysL l n ++ waysK l n := by
      unfold waysL
      rw [List.range_succ, List.flatMap_append]
      simp
    rw [e, List.length_append]
    omega
theorem waysL_succ (l : Lock) (n : Nat) : waysL l (n + 1) = waysL l n ++ waysK l n := by
  unfold waysL
  rw [List.range_succ, List.flatMap_append]
  simp
/-! within -/
def withinB (b o : Bolt) : Bool := (waysB [] o).all fun q => leO (look (waysB [] b) q.1) q.2
def withinL (l s : Lock) : Bool := (l.zip s).all fun p => withinB p.1 p.2
def dueL (l s : Lock) : Bool := (waysL s s.length).all fun q => leO (look (waysL l l.length) q.1) q.2
def pushK (k : Nat) (q : NI) : NI := (((k : Int) :: q.1.1, q.1.2), q.2)
theorem waysB_push (k : Nat) (b : Bolt) : waysB [(k : Int)] b = (waysB [] b).map (pushK k) := by
  unfold waysB
  rw [List.map_flatMap]
  congr 1
  funext g
  unfold waysG
  rw [List.map_map]
  rfl
theorem mem_L {l : Lock} {x : NI} : x ∈ waysL l l.length ↔ ∃ k b q, l[k]? = some b ∧ q ∈ waysB [] b ∧ x = pushK k q := by
  constructor
  · intro h
    obtain ⟨k, _, hk⟩ := List.mem_flatMap.mp h
    obtain ⟨b, hb, hx⟩ := mem_K hk
    rw [waysB_push] at hx
    obtain ⟨q, hq, rfl⟩ := List.mem_map.mp hx
    exact ⟨k, b, q, hb, hq, rfl⟩
  · rintro ⟨k, b, q, hb, hq, rfl⟩
    have lt : k < l.length := (List.getElem?_eq_some_iff.mp hb).1
    refine List.mem_flatMap.mpr ⟨k, List.mem_range.mpr lt, ?_⟩
    unfold waysK
    rw [hb]
    show _ ∈ waysB [(k : Int)] b
    rw [waysB_push]
    exact List.mem_map.mpr ⟨q, hq, rfl⟩
theorem due_within {l s : Lock} (okl : LockOk l) (oks : LockOk s) (hl : l.length = s.length) : dueL l s = withinL l s := by
  rw [Bool.eq_iff_iff]
  unfold dueL withinL withinB
  simp only [List.all_eq_true]
  constructor
  · rintro h ⟨b, o⟩ hp q hq
    obtain ⟨k, hk⟩ := List.mem_iff_getElem?.mp hp
    rw [List.getElem?_zip_eq_some] at hk
    obtain ⟨hb, ho⟩ := hk
    obtain ⟨p, hp, hle⟩ := (leO_iff (uq_L okl.bolts _)).mp (h (pushK k q) (mem_L.mpr ⟨k, o, q, ho, hq, rfl⟩))
    obtain ⟨k', b', q', hb', hq', e⟩ := mem_L.mp hp
    have e1 : (k : Int) :: q.1.1 = (k' : Int) :: q'.1.1 := congrArg (·.1.1) e
    have e2 : q.1.2 = q'.1.2 := congrArg (·.1.2) e
    have e3 : p = q'.2 := congrArg (·.2) e
    obtain ⟨e4, e5⟩ := List.cons.inj e1
    have ek : k = k' := by omega
    subst ek
    have hb2 : l[k]? = some b := hb
    rw [hb2] at hb'
    cases hb'
    refine (leO_iff (uq_B [] (okl.bolts k b hb))).mpr ⟨p, ?_, hle⟩
    have z : (q.1, p) = q' := by rw [e3]; exact Prod.ext (Prod.ext e5 e2) rfl
    show (q.1, p) ∈ waysB [] b
    rw [z]
    exact hq'
  · intro h x hx
    obtain ⟨k, o, q, ho, hq, rfl⟩ := mem_L.mp hx
    have lt : k < l.length := by
      rw [hl]
      exact (List.getElem?_eq_some_iff.mp ho).1
    have hb : l[k]? = some l[k] := List.getElem?_eq_getElem lt
    have hz : (l[k], o) ∈ l.zip s := List.mem_of_getElem? (i := k) (by rw [List.getElem?_zip_eq_some]; exact ⟨hb, ho⟩)
    obtain ⟨p, hp, hle⟩ := (leO_iff (uq_B [] (okl.bolts k _ hb))).mp (h (l[k], o) hz q hq)
    exact (leO_iff (uq_L okl.bolts _)).mpr ⟨p, mem_L.mpr ⟨k, l[k], (q.1, p), hb, hp, rfl⟩, hle⟩
end Wb

set_option Elab.async false
set_option linter.all false
set_option maxRecDepth 100000
set_option maxHeartbeats 4000000
set_option pp.maxSteps 900
set_option pp.deepTerms false
namespace Wb
open PySem PySem.Spec PyProof.Rows L2
section
variable {K : PySem.W.Frag} {H : Hp} {Q : VK} {a b : Addr} {xs ys : List V}
theorem sl_any {lo hi : Option Int} (ha : SqT K H a xs) (q : ∀ H' z, Evl.Ex H H' → SqT K H' z (cutV xs lo hi) → Q (.ref z) H') : rSlA K (.ref a) lo hi H Q := by
  refine ⟨a, xs, rfl, ha, fun h => ?_, fun _ t nt => ?_⟩
  · exact q H a (Evl.Ex.refl H) (by rw [cutV_whole h]; exact ha)
  · exact q _ t (Evl.Ex.new nt) (.inl (.inl upd_same))
theorem cat_any (ha : SqT K H a xs) (hb : SqT K H b ys) (hz : xs.length + ys.length ≤ sizeLine) (q : ∀ H' z, Evl.Ex H H' → SqT K H' z (xs ++ ys) → Q (.ref z) H') : rCatA K (.ref a) (.ref b) H Q := by
  refine ⟨a, b, xs, ys, rfl, rfl, ha, hb, hz, fun h => ?_, fun _ h => ?_, fun _ _ t nt => ?_⟩
  · exact q H b (Evl.Ex.refl H) (by rw [h]; exact hb)
  · exact q H a (Evl.Ex.refl H) (by rw [h, List.append_nil]; exact ha)
  · exact q _ t (Evl.Ex.new nt) (.inl (.inl upd_same))
end
theorem cut_drop (xs : List V) {k : Nat} (h : k ≤ xs.length) : cutV xs (some (k : Int)) none = xs.drop k := by
  unfold cutV
  rw [HT.sIx_none, HT.sIx_nat]
  rw [List.take_of_length_le]
  · congr 1
    omega
  · rw [List.length_drop]
    omega
theorem few_of {s : Lock} (ok : LockOk s) {i : Nat} {b : Bolt} (hb : s[i]? = some b) : ∀ g ∈ b.gaps, g.ways.length ≤ 8 ∧ ∀ w ∈ g.ways, w.length ≤ 60 := fun g hg => by
  have G := (ok.bolts i b hb).gaps g hg
  refine ⟨G.few, fun w hw => ?_⟩
  have := (G.words w hw).1
  rw [manys_cnt, List.length_take] at this
  have := ok.n1
  omega
theorem raise_ex {K : PySem.W.Frag} {C : Addr} {d : PyData} {H H1 : Hp} {E : XK} (e1 : Evl.Ex H H1) (h : RaiseF K C d H E) : RaiseF K C d H1 E := fun H' e z ex ne he dz => h H' e z (e1.trans ex) (Evl.fresh_back e1 ne) he dz
end Wb

set_option Elab.async false
set_option linter.all false
set_option maxRecDepth 100000
set_option maxHeartbeats 4000000
set_option pp.maxSteps 900
set_option pp.deepTerms false
namespace Wb
open PySem PySem.Spec PyProof.Rows L2
/-! ### a walk of any body: lists, dicts, one clause or two -/
theorem w_it {J : It} {n : Nat} {G : Hp → Prop} {Y : Nat → Hp → V → Hp → Prop} (wk : Walk J n G Y) {H0 : Hp} {Qd : Hp → Prop} {Body : V → Hp → (Hp → Prop) → Prop} (Pv : Nat → Hp → Prop) (h0 : Pv 0 H0) (hG : ∀ i H, i ≤ n → Pv i H → G H)
    (hs : ∀ i x H H', i < n → Pv i H → Y i H x H' → Body x H' (Pv (i + 1))) (hd : ∀ H, Pv n H → Qd H) :
    ∃ W : Nat → Nat → Hp → Prop, (∃ m, W 0 m H0) ∧ ∀ i m H, W i m H → (J.stop i H ∧ Qd H) ∨ (J.go i H ∧ ∃ Nx : Hp → Prop, (∀ H', Nx H' → ∃ m', m' < m ∧ W (i + 1) m' H') ∧ ∀ x H', J.yld i H x H' → Body x H' Nx) := by
  refine ⟨fun i m H => (m = n - i ∧ i ≤ n) ∧ Pv i H, ⟨n, ⟨rfl, Nat.zero_le _⟩, h0⟩, ?_⟩
  rintro i m H ⟨⟨rfl, hi⟩, p⟩
  have gg := hG i H hi p
  rcases Nat.lt_or_eq_of_le hi with lt | rfl
  · exact .inr ⟨wk.goes i H lt gg, Pv (i + 1), fun H' p' => ⟨n - (i + 1), by omega, ⟨rfl, lt⟩, p'⟩, fun x H' y => hs i x H H' lt p (wk.yields i H x H' lt gg y)⟩
  · exact .inl ⟨wk.stops H gg, hd H p⟩
theorem hu9_of {A : Around} {k : Nat} (hr : Room k A) : A.units + 9 < cLine := Nat.lt_of_le_of_lt (Nat.add_le_add_left (by decide : 9 ≤ 64) _) hr.units
abbrev ownBW : List (Str × Nat) := [("here", 3), ("there", 4), ("price", 5), ("ways", 6), ("way", 7)]
abbrev tPrices (P : Program) (w : World) (K : PySem.W.Frag) : TE := tDcN P w (iTup K (tOp (rIxT K) (tVar 0) (tC (V.int 1)))) (gTup K 4 (gCons (gName 3) (gCons (gName 4) (gCons (gName 5) (gCons (gName 6) gNil))))) tYes (iTup K (tVar 6)) (gName 7) tYes (tTup (tCons (tVar 3) (tCons (tVar 4) (tCons (tVar 7) tNil)))) (tVar 5) [3, 4, 5, 6, 7] [7]
def spBoltW (K : PySem.W.Frag) : Sp := fun vs H Q _ => ∃ (v u : V) (b o : Bolt) (ms ns : List Int), vs = [v, u] ∧ BoltAt K H v b ∧ BoltAt K H u o ∧ BoltOk ms b ∧ BoltOk ns o ∧ ∀ H', Evl.Ex H H' → Q (.bl (withinB b o)) H'
theorem pre_sub {f : Gap → List NI} {gs : List Gap} {i m : Nat} {g : Gap} (hg : gs[i]? = some g) : List.Sublist ((gs.take i).flatMap f ++ (f g).take m) (gs.flatMap f) := by
  obtain ⟨il, e⟩ := List.getElem?_eq_some_iff.mp hg
  have z : gs = gs.take i ++ g :: gs.drop (i + 1) := by
    rw [← e, List.getElem_cons_drop, List.take_append_drop]
  have y : gs.flatMap f = (gs.take i).flatMap f ++ (f g ++ (gs.drop (i + 1)).flatMap f) := by
    rw [← List.flatMap_cons, ← List.flatMap_append, ← z]
  rw [y]
  exact (List.Sublist.refl _).append ((List.take_sublist _ _).trans (List.sublist_append_left _ _))
theorem put_next {f : Gap → List NI} {gs : List Gap} {i m : Nat} {g : Gap} {x : NI} (hg : gs[i]? = some g) (hx : (f g)[m]? = some x) (u : Uq (gs.flatMap f)) :
    putK (iv ((gs.take i).flatMap f ++ (f g).take m)) x.1 (.int x.2) = iv ((gs.take i).flatMap f ++ (f g).take (m + 1)) := by
  have us := List.Pairwise.sublist (pre_sub (f := f) (m := m + 1) hg) u
  rw [take_succ_get hx, ← List.append_assoc] at us ⊢
  exact putK_new fun q hq => (List.pairwise_append.mp us).2.2 q hq x List.mem_cons_self
theorem pre_len {f : Gap → List NI} {gs : List Gap} {i m n : Nat} {g : Gap} (hg : gs[i]? = some g) (h : (gs.flatMap f).length ≤ n) : (iv ((gs.take i).flatMap f ++ (f g).take m)).length ≤ n := by
  have := (pre_sub (f := f) (m := m) hg).length_le
  unfold iv
  rw [List.length_map]
  omega
theorem waysG_at {pre : List Int} {g : Gap} {m : Nat} {w : Word} (h : g.ways[m]? = some w) : (waysG pre g)[m]? = some ((pre ++ [g.frm, g.to_], w), g.price) := by
  unfold waysG
  rw [List.getElem?_map, h]
  rfl
theorem ka_of {H : Hp} {p wa : Addr} {pre : List Int} {w : Word} (hp : H p = some (.tup (pre.map V.int ++ [.ref wa]))) (hw : H wa = some (.tup (w.map V.int))) : KAt H p (pre, w) := ⟨wa, hp, hw⟩
theorem prices_in {P : Program} {w : World} {K : PySem.W.Frag} {H H1 : Hp} {D bg : Addr} {ws : List V} {gaps : List Gap} {g : Gap} {i : Nat} {Nx : Hp → Prop} {y0 y1 y2 y7 : Option V} (hD : H D = none) (u1 : Uq (gaps.flatMap (waysG []))) (n8 : (gaps.flatMap (waysG [])).length ≤ 8) (hgi : gaps[i]? = some g) (e1 : Evl.Ex H H1)
    (k2 : SqT K H bg ws) (k3 : Paired (Wd K H) ws g.ways) (nd1 : NDm P w H1 D (iv ((gaps.take i).flatMap (waysG [])))) (q : ∀ H', Evl.Ex H H' → NDm P w H' D (iv ((gaps.take (i + 1)).flatMap (waysG []))) → Nx H') :
    tDcNin P w (iTup K (tVar 6)) (gName 7) tYes (tTup (tCons (tVar 3) (tCons (tVar 4) (tCons (tVar 7) tNil)))) (tVar 5) [7] D Nx [y0, y1, y2, some (.int g.frm), some (.int g.to_), some (.int g.price), some (.ref bg), y7] H1 := by
  have wl : ws.length = g.ways.length := Paired.len k3
  refine ⟨.ref bg, rfl, bg, rfl, ⟨ws, Evl.ex_t e1 k2⟩, ?_⟩
  refine w_it (walk_tup (K := K) (a := bg) (xs := ws)) (fun m H' => Evl.Ex H H' ∧ NDm P w H' D (iv ((gaps.take i).flatMap (waysG []) ++ (waysG [] g).take m))) ⟨e1, by rw [List.take_zero, List.append_nil]; exact nd1⟩ ?_ ?_ ?_
  · rintro m H2 _ ⟨e2, _⟩
    exact Evl.ex_t e2 k2
  · rintro m x H2 H2' hm ⟨e2, nd2⟩ ⟨rfl, hx2⟩
    obtain ⟨wd, hwd, ⟨wa, rfl, hwa⟩⟩ := Paired.get1 k3 hx2
    refine ⟨rfl, ?_⟩
    refine ⟨.int g.frm, rfl, .int g.to_, rfl, .ref wa, rfl, (by show 3 ≤ sizeLine; decide), fun p np => ?_⟩
    have e3 := Evl.Ex.new (o := .tup [.int g.frm, .int g.to_, .ref wa]) np
    have gp : (upd H2' p (.tup [.int g.frm, .int g.to_, .ref wa])) p = some (.tup [.int g.frm, .int g.to_, .ref wa]) := upd_same
    generalize upd H2' p (.tup [.int g.frm, .int g.to_, .ref wa]) = H3 at e3 gp
    have e03 := e2.trans e3
    refine ⟨.int g.price, rfl, _, ([g.frm, g.to_], wd), p, rfl, ka_of (pre := [g.frm, g.to_]) gp (e03 _ _ hwa), nd2.ex e3, ?_, fun xs nd => ⟨e03.mut hD, ?_⟩⟩
    · exact Nat.lt_of_le_of_lt (pre_len hgi n8) (by decide)
    · have z := put_next (f := waysG []) (m := m) hgi (waysG_at hwd) u1
      exact z ▸ nd
  · rintro H2 ⟨e2, nd2⟩
    refine q _ e2 ?_
    rw [wl] at nd2
    rw [take_succ_get hgi, List.flatMap_append]
    have z : (waysG [] g).take g.ways.length = waysG [] g := List.take_of_length_le (by rw [waysG_len]; exact Nat.le_refl _)
    rw [z] at nd2
    simpa using nd2
theorem prices_read {P : Program} {w : World} {K : PySem.W.Frag} {H : Hp} {Q : VK} {a c : Addr} {gs : List V} {b : Bolt} {ms : List Int} {y1 y2 y3 y4 y5 y6 y7 : Option V} (hx : SqT K H a [.int b.many, .ref c]) (hc : SqT K H c gs) (hg : Paired (GapAt K H) gs b.gaps) (ok : BoltOk ms b)
    (q : ∀ D H', Evl.Ex H H' → NDm P w H' D (iv (waysB [] b)) → Q (.ref D) H') : tPrices P w K [some (.ref a), y1, y2, y3, y4, y5, y6, y7] H Q := by
  refine ⟨.ref a, rfl, a, _, 1, .ref c, rfl, rfl, hx, atI_nat (j := 1) rfl, c, rfl, ⟨gs, hc⟩, fun D hD => ?_⟩
  have u1 : Uq (b.gaps.flatMap (waysG [])) := uq_B [] ok
  have n8 : (b.gaps.flatMap (waysG [])).length ≤ 8 := by
    show (waysB [] b).length ≤ 8
    rw [waysB_len]
    exact ok.few
  have gl : gs.length = b.gaps.length := Paired.len hg
  refine w_it (walk_tup (K := K) (a := c) (xs := gs)) (fun i H' => Evl.Ex H H' ∧ NDm P w H' D (iv ((b.gaps.take i).flatMap (waysG [])))) ⟨Evl.Ex.new hD, NDm.empty⟩ ?_ ?_ ?_
  · rintro i H1 _ ⟨e1, _⟩
    exact Evl.ex_t e1 hc
  · rintro i x H1 H1' hi ⟨e1, nd1⟩ ⟨rfl, hx1⟩
    obtain ⟨g, hgi, ⟨ag, bg, ws, rfl, k1, k2, k3⟩⟩ := Paired.get1 hg hx1
    have wl : ws.length = g.ways.length := Paired.len k3
    refine ⟨ag, _, rfl, Evl.ex_t e1 k1, rfl, _, _, rfl, _, _, rfl, _, _, rfl, _, _, rfl, rfl, ?_⟩
    refine ⟨rfl, ?_⟩
    exact prices_in (P := P) (w := w) (K := K) hD u1 n8 hgi e1 k2 k3 nd1 fun H2 e2 nd2 => ⟨e2, nd2⟩
  · rintro H1 ⟨e1, nd1⟩
    rw [gl, List.take_length] at nd1
    exact q D H1 e1 nd1
section
variable {P : Program} {w : World} {K : PySem.W.Frag} {mg : Str → Option Value} {base : Heap}
theorem ok_boltW (D : Pr K mg) : FnOk P w K mg base CX0 1 D.f27 D.d27 ["bolt", "other"] (spBoltW K) := by
  refine D.F27.ok scBoltW (fun vs H Q E h => ?_) (fun cdv A outer s H vs Q E hr h => ?_)
  · obtain ⟨v, u, b, o, ms, ns, rfl, _⟩ := h; rfl
  · obtain ⟨v, u, b, o, ms, ns, rfl, ⟨a, c, gs, rfl, hx, hc, hg⟩, ⟨a2, c2, gs2, rfl, hx2, hc2, hg2⟩, ok, ok2, q⟩ := h
    have hu := hu9_of hr
    refine ⟨_, (Evl.pss_cut (ps_setDcN (i := 2) (own := ownBW) (vs1 := [7]) (wi := iTup K (tOp (rIxT K) (tVar 0) (tC (V.int 1)))) (g := gTup K 4 (gCons (gName 3) (gCons (gName 4) (gCons (gName 5) (gCons (gName 6) gNil))))) (wi1 := iTup K (tVar 6)) (g1 := gName 7) (tk := tTup (tCons (tVar 3) (tCons (tVar 4) (tCons (tVar 7) tNil)))) (tv := tVar 5) hu rfl scBoltW.nd rfl rfl rfl
        (pi_tup (pe_ix (r := rIxT K) ix_tup (pv 0) pe_int (fun _ _ => rfl))) (blkOk_by (own := ownBW) (N := nBoltW) (sc := defScope sBoltW) (by decide +kernel)) (by decide)
        (fun _ _ _ _ _ => pg_tup rfl (pgs_cons (pg_name (i := 3) scBoltW.nd rfl (Or.inl rfl)) (pgs_cons (pg_name (i := 4) scBoltW.nd rfl (Or.inl rfl)) (pgs_cons (pg_name (i := 5) scBoltW.nd rfl (Or.inl rfl)) (pgs_cons (pg_name (i := 6) scBoltW.nd rfl (Or.inl rfl)) pgs_nil))))) (fun _ _ _ _ _ => pts_nil)
        (fun _ _ _ _ _ => pe_tup (pa_cons (pv 3) (pa_cons (pv 4) (pa_cons (pv 7) pa_nil)))) (fun _ _ _ _ _ => pv 5) (fun _ _ _ _ _ => pi_tup (pv 6)) (fun _ _ _ _ _ => pg_name (i := 7) scBoltW.nd rfl (Or.inl rfl)) (fun _ _ _ _ _ => pts_nil))
      (pss_cons (ps_for PassesOwn.never rfl (pi_tup (pe_ix ix_tup (pv 1) pe_int (fun _ _ => rfl))) (pg_tup rfl (pgs_cons (pg_name (i := 3) scBoltW.nd rfl (.inl rfl)) (pgs_cons (pg_name (i := 4) scBoltW.nd rfl (.inl rfl)) (pgs_cons (pg_name (i := 5) scBoltW.nd rfl (.inl rfl)) (pgs_cons (pg_name (i := 6) scBoltW.nd rfl (.inl rfl)) pgs_nil)))))
        (pss_one (ps_for PassesOwn.never rfl (pi_tup (pv 6)) (pg_name (i := 7) scBoltW.nd rfl (.inl rfl))
          (pss_one (ps_if (pt_cmpR op_gt (pe_mG (ty := fun x H => ∃ a kvs, x = .ref a ∧ ND P w H a kvs) (r := rGetN P w) ty_dictN PySem.F.plainAttrs_dict PySem.F.slot_dict_get PySem.F.type_dict_get (mt_getN hu) (pv 2) (pa_cons (pe_tup (pa_cons (pv 3) (pa_cons (pv 4) (pa_cons (pv 7) pa_nil)))) (pa_cons (pe_op op_add (pv 5) pe_int) pa_nil))) (pv 5) (nomark _))
            (pss_one (ps_ret pe_bl)) pss_nil)))))
      (pss_one (ps_ret pe_bl)))), ?_⟩
    have gl2 : gs2.length = o.gaps.length := Paired.len hg2
    refine ⟨fun σ H1 => ∃ D, σ = [some (.ref a), some (.ref a2), some (.ref D), none, none, none, none, none] ∧ Evl.Ex H H1 ∧ NDm P w H1 D (iv (waysB [] b)), prices_read (P := P) (w := w) (K := K) (y1 := some (.ref a2)) (y2 := none) (y3 := none) (y4 := none) (y5 := none) (y6 := none) (y7 := none) hx hc hg ok fun D H1 e1 nd1 => ⟨D, rfl, e1, nd1⟩, ?_⟩
    rintro _ H1 ⟨D, rfl, e1, nd1⟩
    refine ⟨.ref a2, rfl, a2, _, 1, .ref c2, rfl, rfl, Evl.ex_t e1 hx2, atI_nat (j := 1) rfl, c2, rfl, ⟨gs2, Evl.ex_t e1 hc2⟩, ?_⟩
    refine for_tup (K := K) (a := c2) (xs := gs2) (fun i σ H' => ∃ (y3 y4 y5 y6 y7 : Option V), σ = [some (.ref a), some (.ref a2), some (.ref D), y3, y4, y5, y6, y7] ∧ Evl.Ex H1 H' ∧
      ((o.gaps.take i).flatMap (waysG [])).all (fun q => leO (look (waysB [] b) q.1) q.2) = true) ⟨none, none, none, none, none, rfl, Evl.Ex.refl _, rfl⟩ ?_ ?_ ?_
    · rintro i σ H' _ ⟨_, _, _, _, _, _, e, _⟩
      exact Evl.ex_t (e1.trans e) hc2
    · rintro i x σ H2 hi ⟨y3, y4, y5, y6, y7, rfl, e2, al⟩
      obtain ⟨g, hgi, ⟨ag, bg, ws, rfl, k1, k2, k3⟩⟩ := Paired.get1 hg2 hi
      have e12 := e1.trans e2
      have wl : ws.length = g.ways.length := Paired.len k3
      refine ⟨ag, _, rfl, Evl.ex_t e12 k1, rfl, _, _, rfl, _, _, rfl, _, _, rfl, _, _, rfl, rfl, ?_⟩
      refine ⟨.ref bg, rfl, bg, rfl, ⟨ws, Evl.ex_t e12 k2⟩, ?_⟩
      refine for_tup (K := K) (a := bg) (xs := ws) (fun m σ H' => ∃ (y7 : Option V), σ = [some (.ref a), some (.ref a2), some (.ref D), some (.int g.frm), some (.int g.to_), some (.int g.price), some (.ref bg), y7] ∧ Evl.Ex H1 H' ∧
        ((o.gaps.take i).flatMap (waysG []) ++ (waysG [] g).take m).all (fun q => leO (look (waysB [] b) q.1) q.2) = true) ⟨y7, rfl, e2, by rw [List.take_zero, List.append_nil]; exact al⟩ ?_ ?_ ?_
      · rintro m σ H' _ ⟨_, _, e, _⟩
        exact Evl.ex_t (e1.trans e) k2
      · rintro m x σ H3 hm ⟨y, rfl, e3, al3⟩
        obtain ⟨wd, hwd, ⟨wa, rfl, hwa⟩⟩ := Paired.get1 k3 hm
        have e13 := e1.trans e3
        have hin : (([g.frm, g.to_], wd), g.price) ∈ waysB [] o := List.mem_flatMap.mpr ⟨g, List.mem_of_getElem? hgi, List.mem_map.mpr ⟨wd, List.mem_of_getElem? hwd, rfl⟩⟩
        refine ⟨.ref D, rfl, ⟨D, _, rfl, (nd1.ex e3).nd⟩, ?_⟩
        refine ⟨.int g.frm, rfl, .int g.to_, rfl, .ref wa, rfl, (by show 3 ≤ sizeLine; decide), fun p np => ?_⟩
        have e4 := Evl.Ex.new (o := .tup [.int g.frm, .int g.to_, .ref wa]) np
        have gp : (upd H3 p (.tup [.int g.frm, .int g.to_, .ref wa])) p = some (.tup [.int g.frm, .int g.to_, .ref wa]) := upd_same
        generalize upd H3 p (.tup [.int g.frm, .int g.to_, .ref wa]) = H4 at e4 gp
        have e34 := e3.trans e4
        refine ⟨.int g.price, rfl, g.price, 1, rfl, rfl, ?_⟩
        refine ⟨D, p, .int (g.price + 1), iv (waysB [] b), ([g.frm, g.to_], wd), rfl, rfl, ka_of (pre := [g.frm, g.to_]) gp ((e1.trans e34) _ _ hwa), (nd1.ex e34).nd, ?_⟩
        rw [valV_iv]
        cases lk : look (waysB [] b) ([g.frm, g.to_], wd) with
        | none =>
          refine ⟨.int g.price, rfl, g.price + 1, g.price, rfl, rfl, decide (g.price < g.price + 1), rfl, ?_⟩
          rw [decide_eq_true (by omega)]
          refine iteT ?_
          have z : withinB b o = false := by
            unfold withinB
            rw [List.all_eq_false]
            exact ⟨_, hin, by rw [lk]; exact Bool.false_ne_true⟩
          rw [← z]
          exact q _ (e1.trans e34)
        | some p0 =>
          refine ⟨.int g.price, rfl, p0, g.price, rfl, rfl, decide (g.price < p0), rfl, ?_⟩
          by_cases hp : p0 ≤ g.price
          · rw [decide_eq_false (by omega)]
            refine iteF ?_
            refine ⟨_, rfl, e34, ?_⟩
            rw [take_succ_get (waysG_at (pre := []) hwd), ← List.append_assoc, List.all_append, al3]
            show (true && (leO (look (waysB [] b) ([g.frm, g.to_], wd)) g.price && true)) = true
            rw [lk]
            simpa [leO] using hp
          · rw [decide_eq_true (by omega)]
            refine iteT ?_
            have z : withinB b o = false := by
              unfold withinB
              rw [List.all_eq_false]
              exact ⟨_, hin, by rw [lk]; simpa [leO] using hp⟩
            rw [← z]
            exact q _ (e1.trans e34)
      · rintro σ H3 ⟨y, rfl, e3, al3⟩
        refine ⟨_, _, _, _, _, rfl, e3, ?_⟩
        have z : (waysG [] g).take g.ways.length = waysG [] g := List.take_of_length_le (by rw [waysG_len]; exact Nat.le_refl _)
        rw [wl, z] at al3
        rw [take_succ_get hgi, List.flatMap_append]
        simpa using al3
    · rintro σ H2 ⟨y3, y4, y5, y6, y7, rfl, e2, al⟩
      rw [gl2, List.take_length] at al
      have z : withinB b o = true := al
      rw [← z]
      exact q _ (e1.trans e2)
end
end Wb

set_option Elab.async false
set_option linter.all false
set_option maxRecDepth 100000
set_option maxHeartbeats 4000000
set_option pp.maxSteps 900
set_option pp.deepTerms false
namespace Wb
open PySem PySem.Spec PyProof.Rows L2
def dI (ms : List Int) : PyData := .list (ms.map .int)
theorem eqv_dI (u w : List Int) : PyData.eqv (dI u) (dI w) = decide (u = w) := by
  show PyData.eqvAll (u.map .int) (w.map .int) = _
  exact eqv_ints u w
theorem fine_dI {ms : List Int} (h : ∀ m ∈ ms, 0 ≤ m ∧ m ≤ 4) (n : ms.length ≤ 60) : Fine (dI ms) 1 1000 := by
  have h1 : FineAll (ms.map PyData.int) 0 ((ms.map PyData.int).length * (8 + 2)) := FineAll.rep fun d hd => by
    obtain ⟨m, hm, rfl⟩ := List.mem_map.mp hd
    have := h m hm
    exact fine_int (by omega)
  have h2 := fine_lst h1
  rw [List.length_map] at h2
  refine h2.mono (Nat.le_refl _) ?_
  omega
theorem manys_in {l : Lock} (ok : LockOk l) : ∀ m ∈ manysOf l, 0 ≤ m ∧ m ≤ 4 := by
  intro m hm
  obtain ⟨b, hb, rfl⟩ := List.mem_map.mp hm
  obtain ⟨k, hk⟩ := List.mem_iff_getElem?.mp hb
  have := (ok.bolts k b hk).m0
  have := (ok.bolts k b hk).m1
  omega
theorem dp_ints' {K : PySem.W.Frag} {H : Hp} {p : Addr} {ms : List Int} (h : H p = some (.lst (ms.map V.int))) : Dp K H (.ref p) (dI ms) := .lst (SqL.of h) (dp_ints ms)
/-- what is_within does, asked of two locks; of things that are no locks -/
def spWithin (K : PySem.W.Frag) (CL CU : Addr) : Sp := fun vs H Q E => ∃ v1 v2 : V, vs = [v1, v2] ∧
  ((∃ d f, Th K H v1 d ∧ BadD d f ∧ RaiseF K CL f H E) ∨ ∃ l, LockAt K H v1 l ∧ LockOk l ∧
    ((∃ d f, Th K H v2 d ∧ BadD d f ∧ RaiseF K CL f H E) ∨ ∃ s, LockAt K H v2 s ∧ LockOk s ∧
      (manysOf l ≠ manysOf s → ∀ H', Evl.Ex H H' → E (.ref CU) none H') ∧ (manysOf l = manysOf s → ∀ H', Evl.Ex H H' → Q (.bl (withinL l s)) H')))
section
variable {P : Program} {w : World} {K : PySem.W.Frag} {mg : Str → Option Value} {base : Heap}
theorem ok_within (D : Pr K mg) (N : NlC K mg) (NU : XcK K mg "Unlike") : FnOk P w K mg base (L2.CX P w) 8 D.f26 D.d26 ["lock", "second"] (spWithin K N.C NU.C) := by
  have B := D.B
  have GL : FnOk P w K mg base (L2.CX P w) 7 D.f24 D.d24 ["lock"] (spNeedX K N.C) := ok_needX D N
  have GM : FnOk P w K mg base CX0 1 D.f23 D.d23 ["lock"] (spManys K) := ok_manys D
  have GB : FnOk P w K mg base CX0 1 D.f27 D.d27 ["bolt", "other"] (spBoltW K) := ok_boltW D
  refine D.F26.okX scWithin (fun vs H Q E h => ?_) (fun cdv A outer s H vs Q E hr h => ?_)
  · obtain ⟨v1, v2, rfl, _⟩ := h; rfl
  · obtain ⟨v1, v2, rfl, h⟩ := h
    have hr1 : Room 1 _ := hr.mono (by decide)
    refine ⟨_, (pss_cons (ps_expr (pe_call GL hr (by rfl) D.g24 D.F24.kp D.b24 .nil (passes_call (W := fun cls dd _ G => E cls dd G) (takes_of rfl rfl rfl rfl) (fun _ _ _ _ z => z)) (pa_cons (pv 0) pa_nil)))
 (pss_cons (ps_expr (pe_call GL hr (by rfl) D.g24 D.F24.kp D.b24 .nil (passes_call (W := fun cls dd _ G => E cls dd G) (takes_of rfl rfl rfl rfl) (fun _ _ _ _ z => z)) (pa_cons (pv 1) pa_nil)))
 (pss_cons (ps_if (pt_cmpR (op_neD hr.units) (pe_call GM hr1 (by rfl) D.g23 D.F23.kp D.b23 .nil pass0 (pa_cons (pv 0) pa_nil)) (pe_call GM hr1 (by rfl) D.g23 D.F23.kp D.b23 .nil pass0 (pa_cons (pv 1) pa_nil)) (nomark _))
    (pss_one (ps_raise rfl (takes_of rfl rfl rfl rfl) (pmk_own0 PySem.F.excBase_ValueError NU.q NU.g NU.k (raises_own NU.s NU.t) (by rfl)))) pss_nil)
 (pss_one (ps_ret (pe_callB (cr_all rfl) (by rfl) B.all boot_all (pa_cons
   (pe_lc (own := [("bolt", 2), ("other", 3)]) (wi := iZipX K (tCons (tVar 0) (tCons (tVar 1) tNil))) (g := gTup K 2 (gCons (gName 2) (gCons (gName 3) gNil))) rfl scWithin.nd (pi_zipX (by rfl) B.zip (pa_cons (pv 0) (pa_cons (pv 1) pa_nil))) (blkOk_by (own := [("bolt", 2), ("other", 3)]) (N := nWithin) (sc := defScope sWithin) (by decide +kernel))
     (fun _ _ _ _ _ => pg_tup rfl (pgs_cons (pg_name (i := 2) scWithin.nd rfl (Or.inl rfl)) (pgs_cons (pg_name (i := 3) scWithin.nd rfl (Or.inl rfl)) pgs_nil))) (fun _ _ _ _ _ => pts_nil)
     (fun _ _ _ _ _ => pe_call GB hr1 (by rfl) D.g27 D.F27.kp D.b27 .nil pass0 (pa_cons (pv 2) (pa_cons (pv 3) pa_nil)))) pa_nil))))))), ?_⟩
    rcases h with ⟨d, f, hd, hb, rf⟩ | ⟨l, hl, ok, h⟩
    · exact ⟨v1, rfl, v1, rfl, .inr ⟨d, f, hd, hb, rf⟩⟩
    refine ⟨v1, rfl, v1, rfl, .inl ⟨l, hl, ok.toN.mono (by decide), fun _ H1 e1 => ?_, fun d hd => absurd hd (by rw [ok.faultD]; exact fun z => nomatch z)⟩⟩
    rcases h with ⟨d, f, hd, hb, rf⟩ | ⟨s, hs, ok2, q1, q2⟩
    · exact ⟨v2, rfl, v2, rfl, .inr ⟨d, f, hd.ex e1, hb, raise_ex e1 rf⟩⟩
    refine ⟨v2, rfl, v2, rfl, .inl ⟨s, hs.mono (TX.ex e1), ok2.toN.mono (by decide), fun _ H2 e2 => ?_, fun d hd => absurd hd (by rw [ok2.faultD]; exact fun z => nomatch z)⟩⟩
    have e02 := e1.trans e2
    refine ⟨v1, rfl, v1, l, rfl, hl.mono (TX.ex e02), ok.n1, fun H3 p3 e3 np3 hp3 => ?_⟩
    refine ⟨v2, rfl, v2, s, rfl, hs.mono (TX.ex (e02.trans e3)), ok2.n1, fun H4 p4 e4 np4 hp4 => ?_⟩
    have f1 := fine_dI (manys_in ok) (by rw [manys_cnt]; exact ok.n1)
    have f2 := fine_dI (manys_in ok2) (by rw [manys_cnt]; exact ok2.n1)
    have e04 := (e02.trans e3).trans e4
    refine ⟨dI (manysOf l), dI (manysOf s), dp_ints' (e4 _ _ hp3), dp_ints' hp4, f1.shaped (by decide), f2.shaped (by decide), ?_⟩
    rw [eqv_dI]
    by_cases c : manysOf l = manysOf s
    · rw [decide_eq_true c]
      refine ⟨_, rfl, iteF ?_⟩
      have hlen : l.length = s.length := by
        have := congrArg List.length c
        rwa [manys_cnt, manys_cnt] at this
      obtain ⟨a, bs, rfl, ha, hbs⟩ := hl
      obtain ⟨a2, cs, rfl, ha2, hcs⟩ := hs
      have bl : bs.length = l.length := Paired.len hbs
      have cl : cs.length = s.length := Paired.len hcs
      have l60 := ok.n1
      refine ⟨.ref a, rfl, .ref a2, rfl, false, false, a, a2, bs, cs, rfl, Evl.ex_t e04 ha, Evl.ex_t e04 ha2, fun R hR => ?_⟩
      refine lc_it (walk_zx (K := K) (l := false) (m := false) (xs := bs) (ys := cs) (by omega)) (fun i H' => Evl.Ex H H' ∧ H' R = some (.lst ((((l.zip s).take i).map fun p => withinB p.1 p.2).map V.bl))) ⟨e04.trans (Evl.Ex.new hR), upd_same⟩ ?_ ?_ ?_
      · rintro i H5 _ ⟨e5, _⟩
        exact ⟨Evl.ex_t e5 ha, Evl.ex_t e5 ha2⟩
      · rintro i x H5 H5' hi ⟨e5, hR5⟩ ⟨T, x, y, rfl, nT, rfl, ex, ey⟩
        obtain ⟨b, hb, hba⟩ := Paired.get1 hbs ex
        obtain ⟨o, ho, hoa⟩ := Paired.get1 hcs ey
        have e6 := Evl.Ex.new (o := .tup [x, y]) nT
        have gT : (upd H5 T (.tup [x, y])) T = some (.tup [x, y]) := upd_same
        generalize upd H5 T (.tup [x, y]) = H6 at e6 gT
        have e06 := e5.trans e6
        refine ⟨T, _, rfl, .inl (.inl gT), rfl, _, _, rfl, _, _, rfl, rfl, ?_⟩
        refine ⟨rfl, x, rfl, y, rfl, x, y, b, o, _, _, rfl, hba.mono (TX.ex e06), hoa.mono (TX.ex e06), ok.bolts i b hb, ok2.bolts i o ho, fun H7 e7 => ?_⟩
        have hR7 := (e6.trans e7) _ _ hR5
        have hz : (l.zip s)[i]? = some (b, o) := by rw [List.getElem?_zip_eq_some]; exact ⟨hb, ho⟩
        refine ⟨_, hR7, ?_, (e06.trans e7).mut (Evl.fresh_back e04 hR), ?_⟩
        · rw [List.length_map, List.length_map, List.length_take]
          exact Nat.lt_of_le_of_lt (by rw [bl] at hi; omega : min i (l.zip s).length ≤ 60) (by decide)
        · rw [upd_same, take_succ_get hz, List.map_append, List.map_append]
          rfl
      · rintro H5 ⟨e5, hR5⟩
        have z : (l.zip s).take bs.length = l.zip s := List.take_of_length_le (by rw [List.length_zip, bl]; omega)
        rw [z] at hR5
        refine ⟨R, (l.zip s).map fun p => withinB p.1 p.2, rfl, SqL.of hR5, ?_⟩
        have y : ((l.zip s).map fun p => withinB p.1 p.2).all id = withinL l s := by
          unfold withinL
          rw [List.all_map]
          rfl
        rw [y]
        exact q2 c _ e5
    · rw [decide_eq_false c]
      refine ⟨_, rfl, iteT ?_⟩
      exact q1 c _ e04
end
end Wb

set_option Elab.async false
set_option linter.all false
set_option maxRecDepth 100000
set_option maxHeartbeats 4000000
set_option pp.maxSteps 900
set_option pp.deepTerms false
namespace Wb
open PySem PySem.Spec PyProof.Rows L2
abbrev sLWaysOf : Stmt := topS 38
abbrev nLWaysOf : List Str := ["_law_lock_here", "_law_found", "_law_k", "_law_here", "_law_there", "_law_price_here", "_law_ways", "_law_way"]
theorem scLWaysOf : FnScope nLWaysOf ["_law_lock_here"] (defScope sLWaysOf) := ⟨rfl, rfl, rfl, by decide +kernel, rfl, by decide +kernel, by decide +kernel⟩
abbrev sLDue : Stmt := topS 39
abbrev nLDue : List Str := ["_law_lock_here", "_law_second", "_law_mine", "_law_theirs", "_law_way"]
theorem scLDue : FnScope nLDue ["_law_lock_here", "_law_second"] (defScope sLDue) := ⟨rfl, rfl, rfl, by decide +kernel, rfl, by decide +kernel, by decide +kernel⟩
theorem PairN.keep {H H' : Hp} (e : ∀ b xs, H b = some (.tup xs) → H' b = some (.tup xs)) {p : Addr} {kv : NKey × V} (h : PairN H p kv) : PairN H' p kv := by
  obtain ⟨b, h1, h2⟩ := h
  exact ⟨b, e _ _ h1, h2.keep e⟩
theorem sub_all {f : Gap → List NI} {gs : List Gap} {j : Nat} {g : Gap} (hg : gs[j]? = some g) : List.Sublist ((gs.take j).flatMap f ++ f g) (gs.flatMap f) := by
  have z := pre_sub (f := f) (m := (f g).length) hg
  rwa [List.take_length] at z
theorem iv_len (kvs : List NI) : (iv kvs).length = kvs.length := List.length_map _
theorem iv_at {kvs : List NI} {m : Nat} {x : NI} (h : kvs[m]? = some x) : (iv kvs)[m]? = some (x.1, .int x.2) := by
  unfold iv
  rw [List.getElem?_map, h]
  rfl
theorem iv_take (kvs : List NI) (m : Nat) : (iv kvs).take m = iv (kvs.take m) := by
  unfold iv
  rw [List.map_take]
def spWaysOf (P : Program) (w : World) (K : PySem.W.Frag) : Sp := fun vs H Q _ => ∃ (v : V) (l : Lock), vs = [v] ∧ LockAt K H v l ∧ LockOk l ∧ ∀ H' D, Evl.Ex H H' → H D = none → NDm P w H' D (iv (waysL l l.length)) → Q (.ref D) H'
section
variable {P : Program} {w : World} {K : PySem.W.Frag} {mg : Str → Option Value} {base : Heap}
/-- one gap's ways with its price, as a list of pairs -/
abbrev tPairsOf (K : PySem.W.Frag) : TE := tLc (iTup K (tVar 6)) (gName 7) tYes (tTup (tCons (tTup (tCons (tVar 2) (tCons (tVar 3) (tCons (tVar 4) (tCons (tVar 7) tNil))))) (tCons (tVar 5) tNil))) [7]
theorem pairs_read {H : Hp} {Q : VK} {k : Nat} {g : Gap} {bg : Addr} {ws : List V} {y0 y1 y7 : Option V} (k2 : SqT K H bg ws) (k3 : Paired (Wd K H) ws g.ways) (few : g.ways.length ≤ 8)
    (q : ∀ H' R (ps : List Addr), Evl.Ex H H' → H' R = some (.lst (ps.map V.ref)) → Paired (PairN H') ps (iv (waysG [(k : Int)] g)) → Q (.ref R) H') :
    tPairsOf K [y0, y1, some (.int (k : Int)), some (.int g.frm), some (.int g.to_), some (.int g.price), some (.ref bg), y7] H Q := by
  have wl : ws.length = g.ways.length := Paired.len k3
  refine ⟨.ref bg, rfl, bg, rfl, ⟨ws, k2⟩, fun R hR => ?_⟩
  refine lc_tup (K := K) (a := bg) (xs := ws) (fun m H' => ∃ ps : List Addr, Evl.Ex H H' ∧ H' R = some (.lst (ps.map V.ref)) ∧ Paired (PairN H') ps (iv ((waysG [(k : Int)] g).take m))) ⟨[], Evl.Ex.new hR, upd_same, by rw [List.take_zero]; exact .nil⟩ ?_ ?_ ?_
  · rintro m H1 _ ⟨_, e1, _⟩
    exact Evl.ex_t e1 k2
  · rintro m x H1 hm ⟨ps, e1, hR1, hps⟩
    obtain ⟨wd, hwd, ⟨wa, rfl, hwa⟩⟩ := Paired.get1 k3 hm
    have pl : ps.length = m := by
      have := Paired.len hps
      rw [iv_len, List.length_take, waysG_len] at this
      have := (List.getElem?_eq_some_iff.mp hwd).1
      omega
    refine ⟨rfl, .int (k : Int), rfl, .int g.frm, rfl, .int g.to_, rfl, .ref wa, rfl, (by show 4 ≤ sizeLine; decide), fun p np => ?_⟩
    have e2 := Evl.Ex.new (o := .tup [.int (k : Int), .int g.frm, .int g.to_, .ref wa]) np
    have gp : (upd H1 p (.tup [.int (k : Int), .int g.frm, .int g.to_, .ref wa])) p = some (.tup [.int (k : Int), .int g.frm, .int g.to_, .ref wa]) := upd_same
    generalize upd H1 p (.tup [.int (k : Int), .int g.frm, .int g.to_, .ref wa]) = H2 at e2 gp
    refine ⟨.int g.price, rfl, (by show 2 ≤ sizeLine; decide), fun t nt => ?_⟩
    have e3 := Evl.Ex.new (o := .tup [.ref p, .int g.price]) nt
    have gt : (upd H2 t (.tup [.ref p, .int g.price])) t = some (.tup [.ref p, .int g.price]) := upd_same
    generalize upd H2 t (.tup [.ref p, .int g.price]) = H3 at e3 gt
    have e23 := e2.trans e3
    have hR3 := e23 _ _ hR1
    have ml : m < g.ways.length := (List.getElem?_eq_some_iff.mp hwd).1
    refine ⟨_, hR3, ?_, ps ++ [t], (e1.trans e23).mut hR, by rw [upd_same, List.map_append]; rfl, ?_⟩
    · rw [List.length_map, pl]
      exact Nat.lt_of_lt_of_le (by omega : m < 9) (by decide)
    · have tk : ∀ b xs, H3 b = some (.tup xs) → (upd H3 R (.lst (ps.map V.ref ++ [.ref t]))) b = some (.tup xs) := fun b xs h => by
        rw [upd_ne (ne_of h hR3 (fun z => nomatch z))]
        exact h
      rw [take_succ_get (waysG_at (pre := [(k : Int)]) hwd)]
      unfold iv
      rw [List.map_append]
      refine paired_app1 (Paired.imp (fun _ _ z => PairN.keep tk (PairN.keep (fun b xs h => e23 _ _ h) z)) hps) (PairN.keep tk ?_)
      exact ⟨p, gt, ka_of (pre := [(k : Int), g.frm, g.to_]) (e3 _ _ gp) ((e1.trans e23) _ _ hwa)⟩
  · rintro H1 ⟨ps, e1, hR1, hps⟩
    have z : (waysG [(k : Int)] g).take ws.length = waysG [(k : Int)] g := List.take_of_length_le (by rw [waysG_len, wl]; exact Nat.le_refl _)
    rw [z] at hps
    exact q H1 R ps e1 hR1 hps
theorem ok_waysOf {f : Addr} {fd : FuncData} (F : Fun K "_law_ways_of" "_law_ways_of" sLWaysOf f fd) (B : Bi mg) : FnOk P w K mg base CX0 1 f fd ["_law_lock_here"] (spWaysOf P w K) := by
  refine F.ok scLWaysOf (fun vs H Q E h => ?_) (fun cdv A outer s H vs Q E hr h => ?_)
  · obtain ⟨v, l, rfl, _⟩ := h; rfl
  · obtain ⟨v, l, rfl, ⟨a, bs, rfl, hx, hp⟩, ok, q⟩ := h
    have hu := hu9_of hr
    refine ⟨_, (Evl.pss_cut (ps_set (i := 1) scLWaysOf.nd rfl (.inl rfl) pe_dnewN)
      (pss_cons (ps_for PassesOwn.never rfl (pi_range1 rfl B.range (pa_cons (pe_callB call_len_seq (by rfl) B.len PySem.boot_len (pa_cons (pv 0) pa_nil)) pa_nil)) (pg_name (i := 2) scLWaysOf.nd rfl (.inr rfl))
        (pss_one (ps_for PassesOwn.never rfl (pi_tup (pe_ix (r := rIxT K) ix_tup (pe_ix (r := rIxT K) ix_tup (pv 0) (pv 2) (fun _ _ => rfl)) pe_int (fun _ _ => rfl))) (pg_tup rfl (pgs_cons (pg_name (i := 3) scLWaysOf.nd rfl (.inr rfl)) (pgs_cons (pg_name (i := 4) scLWaysOf.nd rfl (.inr rfl)) (pgs_cons (pg_name (i := 5) scLWaysOf.nd rfl (.inr rfl)) (pgs_cons (pg_name (i := 6) scLWaysOf.nd rfl (.inl rfl)) pgs_nil)))))
          (pss_one (ps_expr (pe_mG (ty := fun x H => ∃ a kvs, x = .ref a ∧ ND P w H a kvs) (r := rUpdN P w) ty_dictN PySem.F.plainAttrs_dict PySem.F.slot_dict_update PySem.F.type_dict_update (mt_updN rfl hu) (pv 1) (pa_cons
            (pe_lc (own := [("_law_way", 7)]) (wi := iTup K (tVar 6)) (te := tTup (tCons (tTup (tCons (tVar 2) (tCons (tVar 3) (tCons (tVar 4) (tCons (tVar 7) tNil))))) (tCons (tVar 5) tNil))) (g := gName 7) rfl scLWaysOf.nd (pi_tup (pv 6)) (blkOk_by (own := [("_law_way", 7)]) (N := nLWaysOf) (sc := defScope sLWaysOf) (by decide +kernel))
              (fun _ _ _ _ _ => pg_name (i := 7) scLWaysOf.nd rfl (Or.inl rfl)) (fun _ _ _ _ _ => pts_nil)
              (fun _ _ _ _ _ => pe_tup (pa_cons (pe_tup (pa_cons (pv 2) (pa_cons (pv 3) (pa_cons (pv 4) (pa_cons (pv 7) pa_nil))))) (pa_cons (pv 5) pa_nil)))) pa_nil)))))))
      (pss_one (ps_ret (pv 1))))), ?_⟩
    have bl : bs.length = l.length := Paired.len hp
    have l60 := ok.n1
    refine ⟨fun σ H1 => ∃ D, σ = [some (.ref a), some (.ref D), none, none, none, none, none, none] ∧ H D = none ∧ Evl.Ex H H1 ∧ NDm P w H1 D (iv (waysL l 0)), ?_, ?_⟩
    · intro D hD
      exact ⟨D, rfl, hD, Evl.Ex.new hD, NDm.empty⟩
    rintro _ H1 ⟨D, rfl, hD, e1, nd1⟩
    refine ⟨.ref a, rfl, a, bs, rfl, .inr (Evl.ex_t e1 hx), _, rfl, by omega, by omega, ?_⟩
    refine for_range (lo := 0) (n := ((bs.length : Nat) : Int).toNat) (fun k σ H' => ∃ (y2 y3 y4 y5 y6 y7 : Option V), σ = [some (.ref a), some (.ref D), y2, y3, y4, y5, y6, y7] ∧ Evl.Ex H H' ∧ NDm P w H' D (iv (waysL l k))) ⟨none, none, none, none, none, none, rfl, e1, nd1⟩ ?_ ?_
    · rintro k σ H2 hk0 ⟨y2, y3, y4, y5, y6, y7, rfl, e2, nd2⟩
      have hk : k < l.length := by omega
      have ek : (0 : Int) + (k : Nat) = ((k : Nat) : Int) := by omega
      rw [ek]
      obtain ⟨b, hb⟩ : ∃ b, l[k]? = some b := ⟨l[k], List.getElem?_eq_getElem hk⟩
      obtain ⟨x, hx1, ⟨a1, c1, gs, rfl, h1, h2, h3⟩⟩ := Paired.get2 hp hb
      have BO := ok.bolts k b hb
      have gl : gs.length = b.gaps.length := Paired.len h3
      have wk : waysK l k = b.gaps.flatMap (waysG [(k : Int)]) := by
        unfold waysK
        rw [hb]
        rfl
      have ut : Uq (waysL l k ++ b.gaps.flatMap (waysG [(k : Int)])) := by
        rw [← wk, ← waysL_succ]
        exact uq_L ok.bolts _
      have lt : (waysL l k ++ b.gaps.flatMap (waysG [(k : Int)])).length ≤ 480 := by
        rw [← wk, ← waysL_succ]
        have := waysL_len ok.bolts (k + 1)
        omega
      refine ⟨.ref a, rfl, .int (k : Nat), rfl, a, bs, (k : Nat), .ref a1, rfl, rfl, Evl.ex_t e2 hx, atI_nat hx1, a1, _, 1, .ref c1, rfl, rfl, Evl.ex_t e2 h1, atI_nat (j := 1) rfl, c1, rfl, ⟨_, Evl.ex_t e2 h2⟩, ?_⟩
      refine for_tup (K := K) (a := c1) (xs := gs) (fun j σ H' => ∃ (y3 y4 y5 y6 y7 : Option V), σ = [some (.ref a), some (.ref D), some (.int (k : Nat)), y3, y4, y5, y6, y7] ∧ Evl.Ex H H' ∧ NDm P w H' D (iv (waysL l k ++ (b.gaps.take j).flatMap (waysG [(k : Int)])))) ⟨y3, y4, y5, y6, y7, rfl, e2, by simpa using nd2⟩ ?_ ?_ ?_
      · rintro j σ H' _ ⟨_, _, _, _, _, _, e, _⟩
        exact Evl.ex_t e h2
      · rintro j x σ H3 hj ⟨y3, y4, y5, y6, y7, rfl, e3, nd3⟩
        obtain ⟨g, hgj, ⟨ag, bg, ws, rfl, k1, k2, k3⟩⟩ := Paired.get1 h3 hj
        have sb := sub_all (f := waysG [(k : Int)]) hgj
        have sb2 : List.Sublist ((waysL l k ++ (b.gaps.take j).flatMap (waysG [(k : Int)])) ++ waysG [(k : Int)] g) (waysL l k ++ b.gaps.flatMap (waysG [(k : Int)])) := by
          rw [List.append_assoc]
          exact (List.Sublist.refl _).append sb
        have u3 : Uq ((waysL l k ++ (b.gaps.take j).flatMap (waysG [(k : Int)])) ++ waysG [(k : Int)] g) := List.Pairwise.sublist sb2 ut
        have l3 := sb2.length_le
        rw [List.length_append] at l3
        refine ⟨ag, _, rfl, Evl.ex_t e3 k1, rfl, _, _, rfl, _, _, rfl, _, _, rfl, _, _, rfl, rfl, ?_⟩
        refine ⟨.ref D, rfl, ⟨D, _, rfl, nd3.nd⟩, ?_⟩
        refine pairs_read (K := K) (k := k) (g := g) (Evl.ex_t e3 k2) (Paired.imp (fun _ _ => Wd.mono (TX.ex e3)) k3) (BO.gaps g (List.mem_of_getElem? hgj)).few fun H4 R ps e4 hR4 hps => ?_
        refine ⟨D, R, _, _, ps, rfl, rfl, nd3.ex e4, hR4, hps, ?_, fun xs nd4 => ?_⟩
        · rw [iv_len, iv_len]
          exact Nat.le_trans (by omega : _ ≤ 480) (by decide)
        · rw [puts_uq u3] at nd4
          refine ⟨_, _, _, _, _, rfl, (e3.trans e4).mut hD, ?_⟩
          rw [take_succ_get hgj, List.flatMap_append, ← List.append_assoc]
          have z : [g].flatMap (waysG [(k : Int)]) = waysG [(k : Int)] g := by simp
          rw [z]
          exact nd4
      · rintro σ H3 ⟨y3, y4, y5, y6, y7, rfl, e3, nd3⟩
        refine ⟨_, _, _, _, _, _, rfl, e3, ?_⟩
        rw [gl, List.take_length, ← wk, ← waysL_succ] at nd3
        exact nd3
    · rintro σ H2 ⟨y2, y3, y4, y5, y6, y7, rfl, e2, nd2⟩
      have z : ((bs.length : Nat) : Int).toNat = l.length := by omega
      rw [z] at nd2
      exact ⟨.ref D, rfl, q H2 D e2 hD nd2⟩
end
end Wb

set_option Elab.async false
set_option linter.all false
set_option maxRecDepth 100000
set_option maxHeartbeats 4000000
set_option pp.maxSteps 900
set_option pp.deepTerms false
namespace Wb
open PySem PySem.Spec PyProof.Rows L2
/-! ### whether one lock is within another, as the law asks it -/
def dKy (k : NKey) : PyData := .tuple (k.1.map .int ++ [dW k.2])
theorem dpAll_app {K : PySem.W.Frag} {H : Hp} : ∀ {us vs : List V} {ds es : List PyData}, DpAll K H us ds → DpAll K H vs es → DpAll K H (us ++ vs) (ds ++ es)
  | _, _, _, _, .nil, b => b
  | _, _, _, _, .cons x a, b => .cons x (dpAll_app a b)
theorem dp_key {K : PySem.W.Frag} {H : Hp} {q : Addr} {k : NKey} (h : KAt H q k) : Dp K H (.ref q) (dKy k) := by
  obtain ⟨b, h1, h2⟩ := h
  exact .tup (.inl (.inl h1)) (dpAll_app (dp_ints k.1) (.cons (.tup (.inl (.inl h2)) (dp_ints k.2)) .nil))
theorem fine_app {n : Nat} : ∀ {ds es : List PyData} {S T : Nat}, FineAll ds n S → FineAll es n T → FineAll (ds ++ es) n (S + T)
  | [], es, S, T, _, b => b.mono (Nat.le_add_left _ _)
  | d :: ds, es, S, T, ⟨a1, a2, a3, a4⟩, ⟨b1, b2, b3, b4⟩ => by
    simp only [PyData.canLayAll0, Bool.and_eq_true] at a1
    simp only [PyData.showableAll, Bool.and_eq_true] at a2
    simp only [PyData.depthAll] at a3
    simp only [PyData.shownAll, piled_cons] at a4
    have r : FineAll (ds ++ es) n (piled (PyData.shownAll ds) + T) := fine_app ⟨a1.2, a2.2, by omega, Nat.le_refl _⟩ ⟨b1, b2, b3, b4⟩
    obtain ⟨c1, c2, c3, c4⟩ := r
    refine ⟨?_, ?_, ?_, ?_⟩
    · simp only [List.cons_append, PyData.canLayAll0, Bool.and_eq_true]
      exact ⟨a1.1, c1⟩
    · simp only [List.cons_append, PyData.showableAll, Bool.and_eq_true]
      exact ⟨a2.1, c2⟩
    · simp only [List.cons_append, PyData.depthAll]
      omega
    · simp only [List.cons_append, PyData.shownAll, piled_cons]
      omega
theorem fine_key {l : Lock} (ok : LockOk l) {x : NI} (h : x ∈ waysL l l.length) : Fine (dKy x.1) 2 1000 := by
  obtain ⟨k, b, q, hb, hq, rfl⟩ := mem_L.mp h
  obtain ⟨g, hg, hw⟩ := List.mem_flatMap.mp hq
  obtain ⟨u, hu, rfl⟩ := List.mem_map.mp hw
  have BO := ok.bolts k b hb
  have G := BO.gaps g hg
  have m1 := BO.m1
  have l60 := ok.n1
  have kl : k < l.length := (List.getElem?_eq_some_iff.mp hb).1
  have a0 : Fine (.int (k : Int)) 0 8 := fine_small (by omega) (by omega)
  have a1 : Fine (.int g.frm) 0 8 := fine_small G.f0 (by have := G.f1; omega)
  have a2 : Fine (.int g.to_) 0 8 := fine_small G.t0 (by have := G.t1; omega)
  have a3 := fine_way ok hb hg hu
  exact (fine_tup (FineAll.cons (a0.mono (Nat.zero_le 1) (Nat.le_refl _)) (FineAll.cons (a1.mono (Nat.zero_le 1) (Nat.le_refl _)) (FineAll.cons (a2.mono (Nat.zero_le 1) (Nat.le_refl _)) (FineAll.cons a3 FineAll.nil))))).mono (Nat.le_refl _) (by omega)
theorem eqv_nil (ds : List PyData) : PyData.eqv (.list ds) (.list []) = ds.isEmpty := by
  show PyData.eqvAll ds [] = _
  cases ds with
  | nil => simp [PyData.eqvAll]
  | cons d ds => simp [PyData.eqvAll]
/-- a way that lacks, or is dearer -/
def lacks (mine : List NI) (q : NI) : Bool := !leO (look mine q.1) q.2
def lacking (mine theirs : List NI) : List NKey := (theirs.filter (lacks mine)).map (·.1)
theorem lacking_snoc {mine theirs : List NI} {i : Nat} {q : NI} (h : theirs[i]? = some q) : lacking mine (theirs.take (i + 1)) = lacking mine (theirs.take i) ++ (if lacks mine q = true then [q.1] else []) := by
  unfold lacking
  rw [take_succ_get h, List.filter_append, List.map_append]
  congr 1
  by_cases c : lacks mine q = true
  · rw [if_pos c, List.filter_cons, if_pos c]
    rfl
  · rw [if_neg c, List.filter_cons, if_neg c]
    rfl
theorem lacking_none (mine theirs : List NI) : (lacking mine theirs).isEmpty = theirs.all fun q => leO (look mine q.1) q.2 := by
  unfold lacking
  rw [Bool.eq_iff_iff]
  simp only [List.isEmpty_iff, List.map_eq_nil_iff, List.filter_eq_nil_iff, List.all_eq_true, lacks, Bool.not_eq_true', Bool.not_eq_false]
def KyAt (H : Hp) (v : V) (k : NKey) : Prop := ∃ q, v = .ref q ∧ KAt H q k
theorem KyAt.keep {H H' : Hp} (e : ∀ b xs, H b = some (.tup xs) → H' b = some (.tup xs)) {v : V} {k : NKey} (h : KyAt H v k) : KyAt H' v k := by
  obtain ⟨q, r, z⟩ := h
  exact ⟨q, r, z.keep e⟩
theorem dp_keys {K : PySem.W.Frag} {H : Hp} : ∀ {vs : List V} {ks : List NKey}, Paired (KyAt H) vs ks → DpAll K H vs (ks.map dKy)
  | _, _, .nil => .nil
  | _, _, .cons ⟨q, r, z⟩ t => by
    subst r
    exact .cons (dp_key z) (dp_keys t)
def spDue (K : PySem.W.Frag) : Sp := fun vs H Q _ => ∃ (v u : V) (l s : Lock), vs = [v, u] ∧ LockAt K H v l ∧ LockAt K H u s ∧ LockOk l ∧ LockOk s ∧ ∀ H', Evl.Ex H H' → Q (.bl (dueL l s)) H'
theorem walk_keysN {P : Program} {w : World} {d : Addr} {o : Obj} {xs : List (NestedKey × Addr × Value)} : Walk (Itkn P w d o xs) xs.length (fun H => H d = some (.frz o (DN P w d xs))) (fun i H x H' => H' = H ∧ ∃ e, xs[i]? = some e ∧ x = .ref e.2.1) :=
  ⟨fun _ _ hi q => ⟨q, hi⟩, fun _ q => ⟨q, Nat.le_refl _⟩, fun _ _ _ _ _ _ y => y⟩
section
variable {P : Program} {w : World} {K : PySem.W.Frag} {mg : Str → Option Value} {base : Heap}
abbrev tLackTest (P : Program) (w : World) : TT := tOr (tB (tNNotIn P w (tVar 4) (tVar 2))) (tTest (tOp (rI0 fun i j => V.bl (decide (j < i))) (tNGet P w (tVar 2) (tVar 4)) (tNGet P w (tVar 3) (tVar 4))))
theorem ok_due {f f1 : Addr} {fd fd1 : FuncData} (F : Fun K "_law_is_due" "_law_is_due" sLDue f fd) (F1 : Fun K "_law_ways_of" "_law_ways_of" sLWaysOf f1 fd1) (b1 : Binds K fd1 ["_law_lock_here"] []) (g1 : mg "_law_ways_of" = some (.ref f1)) (B : Bi mg) :
    FnOk P w K mg base CX0 2 f fd ["_law_lock_here", "_law_second"] (spDue K) := by
  have G1 : FnOk P w K mg base CX0 1 f1 fd1 ["_law_lock_here"] (spWaysOf P w K) := ok_waysOf F1 B
  refine F.ok scLDue (fun vs H Q E h => ?_) (fun cdv A outer s H vs Q E hr h => ?_)
  · obtain ⟨v, u, l, s, rfl, _⟩ := h; rfl
  · obtain ⟨v, u, l, s, rfl, hl, hs, ok, ok2, q⟩ := h
    have hu := hu9_of hr
    refine ⟨_, (Evl.pss_cut (ps_asg (pe_tup (pa_cons (pe_call G1 hr (by rfl) g1 F1.kp b1 .nil pass0 (pa_cons (pv 0) pa_nil)) (pa_cons (pe_call G1 hr (by rfl) g1 F1.kp b1 .nil pass0 (pa_cons (pv 1) pa_nil)) pa_nil)))
        (pg_tup rfl (pgs_cons (pg_name (i := 2) scLDue.nd rfl (.inr rfl)) (pgs_cons (pg_name (i := 3) scLDue.nd rfl (.inr rfl)) pgs_nil))))
      (pss_one (ps_ret (pe_cmpR (op_eqD hr.units) (pe_lock (pe_lc (own := [("_law_way", 4)]) (wi := iKeysN P w (tVar 3)) (g := gName 4) (te := tVar 4) (tt := tLackTest P w) rfl scLDue.nd (pi_keysN (pv 3)) (blkOk_by (own := [("_law_way", 4)]) (N := nLDue) (sc := defScope sLDue) (by decide +kernel))
          (fun _ _ _ _ _ => pg_name (i := 4) scLDue.nd rfl (Or.inl rfl))
          (fun _ _ _ _ _ => pts_one (PW.pt (pw_or (pt_cmp (pc_nnotin hu (pv 4) (pv 2)) rfl) (pw_or1 (pt_cmpR op_gt (pe_nget hu (pv 2) (pv 4) (fun _ _ => rfl)) (pe_nget hu (pv 3) (pv 4) (fun _ _ => rfl)) (nomark _))))))
          (fun _ _ _ _ _ => pv 4))) (pe_lst pa_nil) (nomark _))))), ?_⟩
    refine ⟨fun σ H1 => ∃ dM dS, σ = [some v, some u, some (.ref dM), some (.ref dS), none] ∧ dM ≠ dS ∧ Evl.Ex H H1 ∧ H dS = none ∧ NDm P w H1 dM (iv (waysL l l.length)) ∧ NDm P w H1 dS (iv (waysL s s.length)), ?_, ?_⟩
    · refine ⟨v, rfl, v, l, rfl, hl, ok, fun H1 dM e1 nM ndM => ?_⟩
      refine ⟨u, rfl, u, s, rfl, hs.mono (TX.ex e1), ok2, fun H2 dS e2 nS ndS => ?_⟩
      refine ⟨(by show 2 ≤ sizeLine; decide), fun t nt => ?_⟩
      have e3 := Evl.Ex.new (o := .tup [.ref dM, .ref dS]) nt
      refine ⟨t, _, rfl, .inl (.inl upd_same), rfl, _, _, rfl, _, _, rfl, rfl, ?_⟩
      refine ⟨dM, dS, rfl, ?_, (e1.trans e2).trans e3, Evl.fresh_back e1 nS, (ndM.ex e2).ex e3, ndS.ex e3⟩
      rintro rfl
      obtain ⟨_, z, _⟩ := ndM
      rw [nS] at z
      cases z
    rintro _ H1 ⟨dM, dS, rfl, ne, e1, nS, ndM, xs, hS, rel⟩
    refine ⟨dS, DN P w dS xs, hS, True.intro, fun od => ?_⟩
    have xl : (waysL s s.length).length = xs.length := by
      rw [← Paired.len rel, iv_len]
    have hL : (upd H1 dS (.frz od (DN P w dS xs))) dS = some (.frz od (DN P w dS xs)) := upd_same
    have tk : ∀ b ys, H1 b = some (.tup ys) → (upd H1 dS (.frz od (DN P w dS xs))) b = some (.tup ys) := fun b ys h => by
      rw [upd_ne (ne_of h hS (fun z => nomatch z))]
      exact h
    have ndL : NDm P w (upd H1 dS (.frz od (DN P w dS xs))) dM (iv (waysL l l.length)) := ndM.keep tk fun o h => by
      rw [upd_ne ne]
      exact h
    have eL : Evl.Ex H (upd H1 dS (.frz od (DN P w dS xs))) := e1.mut nS
    generalize upd H1 dS (.frz od (DN P w dS xs)) = HL at hL tk ndL eL
    refine ⟨.ref dS, rfl, dS, od, xs, rfl, hL, fun R hR => ?_⟩
    refine lc_it (walk_keysN (P := P) (w := w) (d := dS) (o := od) (xs := xs)) (fun i H' => ∃ (acc : List V), Evl.Ex HL H' ∧ H' R = some (.lst acc) ∧ acc.length ≤ i ∧ Paired (KyAt H') acc (lacking (waysL l l.length) ((waysL s s.length).take i))) ⟨[], Evl.Ex.new hR, upd_same, Nat.le_refl _, .nil⟩ ?_ ?_ ?_
    · rintro i H2 _ ⟨_, e2, _⟩
      exact e2 _ _ hL
    · rintro i x H2 H2' hi ⟨acc, e2, hR2, al, hacc⟩ ⟨rfl, e, he, rfl⟩
      have hi4 : i < 480 := by
        have := waysL_len ok2.bolts s.length
        have := ok2.n1
        omega
      obtain ⟨q0, hq0⟩ : ∃ q0, (waysL s s.length)[i]? = some q0 := ⟨_, List.getElem?_eq_getElem (by omega)⟩
      obtain ⟨p, hp, r1, r2, r3⟩ := Paired.get2 rel he
      rw [iv_at hq0] at hp
      cases hp
      have kq : KAt H2' e.2.1 q0.1 := (r2.keep tk).keep fun b ys h => e2 _ _ h
      have nd2 := (ndL.ex e2).nd
      have ndS2 : ND P w H2' dS (iv (waysL s s.length)) := ⟨xs, .inr ⟨od, e2 _ _ hL⟩, Paired.mapP rel fun _ _ => NRel.keep fun b ys h => e2 _ _ (tk b ys h)⟩
      have lS : look (waysL s s.length) q0.1 = some q0.2 := mem_look (uq_L ok2.bolts _) (List.mem_of_getElem? hq0)
      have put : lacks (waysL l l.length) q0 = true → ∃ acc', H2' R = some (.lst acc') ∧ acc'.length < sizeLine ∧ ∃ (acc : List V), Evl.Ex HL (upd H2' R (.lst (acc' ++ [.ref e.2.1]))) ∧ (upd H2' R (.lst (acc' ++ [.ref e.2.1]))) R = some (.lst acc) ∧ acc.length ≤ i + 1 ∧
          Paired (KyAt (upd H2' R (.lst (acc' ++ [.ref e.2.1])))) acc (lacking (waysL l l.length) ((waysL s s.length).take (i + 1))) := by
        intro lk
        refine ⟨acc, hR2, Nat.lt_of_le_of_lt (by omega : acc.length ≤ 480) (by decide), acc ++ [.ref e.2.1], e2.mut hR, upd_same, by rw [List.length_append]; exact Nat.succ_le_succ al, ?_⟩
        have tR : ∀ b ys, H2' b = some (.tup ys) → (upd H2' R (.lst (acc ++ [.ref e.2.1]))) b = some (.tup ys) := fun b ys h => by
          rw [upd_ne (ne_of h hR2 (fun z => nomatch z))]
          exact h
        rw [lacking_snoc hq0, if_pos lk]
        exact paired_app1 (Paired.imp (fun _ _ z => KyAt.keep tR z) hacc) ⟨e.2.1, rfl, kq.keep tR⟩
      have skip : lacks (waysL l l.length) q0 = false → ∃ (acc : List V), Evl.Ex HL H2' ∧ H2' R = some (.lst acc) ∧ acc.length ≤ i + 1 ∧ Paired (KyAt H2') acc (lacking (waysL l l.length) ((waysL s s.length).take (i + 1))) := by
        intro lk
        refine ⟨acc, e2, hR2, Nat.le_succ_of_le al, ?_⟩
        rw [lacking_snoc hq0, if_neg (by rw [lk]; exact Bool.false_ne_true), List.append_nil]
        exact hacc
      refine ⟨rfl, ?_⟩
      refine ⟨.ref e.2.1, rfl, .ref dM, rfl, dM, e.2.1, iv (waysL l l.length), q0.1, rfl, rfl, kq, nd2, _, rfl, ?_⟩
      rw [valV_iv]
      cases lk : look (waysL l l.length) q0.1 with
      | none =>
        refine iteT ?_
        exact ⟨.ref e.2.1, rfl, put (by unfold lacks; rw [lk]; rfl)⟩
      | some p0 =>
        refine iteF ?_
        refine ⟨.ref dM, rfl, .ref e.2.1, rfl, dM, e.2.1, iv (waysL l l.length), q0.1, .int p0, rfl, rfl, kq, nd2, by rw [valV_iv, lk]; rfl, ?_⟩
        refine ⟨.ref dS, rfl, .ref e.2.1, rfl, dS, e.2.1, iv (waysL s s.length), q0.1, .int q0.2, rfl, rfl, kq, ndS2, by rw [valV_iv, lS]; rfl, ?_⟩
        refine ⟨p0, q0.2, rfl, rfl, decide (q0.2 < p0), rfl, ?_⟩
        by_cases c : q0.2 < p0
        · rw [decide_eq_true c]
          refine iteT ?_
          refine ⟨.ref e.2.1, rfl, put ?_⟩
          unfold lacks
          rw [lk]
          show (!decide (p0 ≤ q0.2)) = true
          rw [decide_eq_false (by omega)]
          rfl
        · rw [decide_eq_false c]
          refine iteF (skip ?_)
          unfold lacks
          rw [lk]
          show (!decide (p0 ≤ q0.2)) = false
          rw [decide_eq_true (by omega)]
          rfl
    · rintro H2 ⟨acc, e2, hR2, al, hacc⟩
      rw [← xl, List.take_length] at hacc
      have hL2 := e2 _ _ hL
      refine ⟨hL2, ?_⟩
      have nR : R ≠ dS := fun z => by rw [z, hL] at hR; cases hR
      have tU : ∀ b ys, H2 b = some (.tup ys) → (upd H2 dS (DN P w dS xs)) b = some (.tup ys) := fun b ys h => by
        rw [upd_ne (ne_of h hL2 (fun z => nomatch z))]
        exact h
      have hR3 : (upd H2 dS (DN P w dS xs)) R = some (.lst acc) := by
        rw [upd_ne nR]
        exact hR2
      have e3 : Evl.Ex H (upd H2 dS (DN P w dS xs)) := (eL.trans e2).mut nS
      have hacc3 := Paired.imp (fun _ _ z => KyAt.keep tU z) hacc
      generalize upd H2 dS (DN P w dS xs) = H3 at hR3 e3 hacc3
      refine ⟨Nat.zero_le _, fun p np => ?_⟩
      have e4 := Evl.Ex.new (o := .lst []) np
      have hK : Paired (KyAt (upd H3 p (.lst []))) acc (lacking (waysL l l.length) (waysL s s.length)) := Paired.imp (fun _ _ z => KyAt.keep (fun b ys h => e4 _ _ h) z) hacc3
      have f1 : FineAll ((lacking (waysL l l.length) (waysL s s.length)).map dKy) 2 (((lacking (waysL l l.length) (waysL s s.length)).map dKy).length * (1000 + 2)) := FineAll.rep fun d hd => by
        obtain ⟨k, hk, rfl⟩ := List.mem_map.mp hd
        obtain ⟨x, hx, rfl⟩ := List.mem_map.mp hk
        exact fine_key ok2 (List.mem_filter.mp hx).1
      refine ⟨.list ((lacking (waysL l l.length) (waysL s s.length)).map dKy), .list [], .lst (SqL.of (e4 _ _ hR3)) (dp_keys hK), .lst (SqL.of upd_same) .nil, (fine_lst f1).shaped (by decide), (fine_lst (FineAll.nil (n := 0))).shaped (by decide), ?_⟩
      rw [eqv_nil, List.isEmpty_map, lacking_none]
      exact q _ (e3.trans e4)
end
end Wb

set_option Elab.async false
set_option linter.all false
set_option maxRecDepth 100000
set_option maxHeartbeats 4000000
set_option pp.maxSteps 900
set_option pp.deepTerms false
namespace Wb
open PySem PySem.Spec PyProof.Rows L2
/-! ### a lock some ways of which are out, some prices otherwise: it is a lock -/
structure GapLike (h g : Gap) : Prop where
  f : h.frm = g.frm
  t : h.to_ = g.to_
  p0 : 1 ≤ h.price
  p1 : h.price ≤ 1000000
  w : List.Sublist h.ways g.ways
def Thin (hs gs : List Gap) : Prop := ∃ ms, List.Sublist ms gs ∧ Paired GapLike hs ms
structure BoltLike (c b : Bolt) : Prop where
  m : c.many = b.many
  g : Thin c.gaps b.gaps
theorem paired_pw {α β : Type} {F : α → β → Prop} {R : α → α → Prop} {S : β → β → Prop} (h : ∀ a a' b b', F a b → F a' b' → S b b' → R a a') : ∀ {xs : List α} {ys : List β}, Paired F xs ys → ys.Pairwise S → xs.Pairwise R
  | _, _, .nil, _ => .nil
  | _, _, .cons (a := x) (b := y) (l₁ := xs) (l₂ := ys) r t, p => by
    obtain ⟨p1, p2⟩ := List.pairwise_cons.mp p
    refine List.pairwise_cons.mpr ⟨fun x' hx' => ?_, paired_pw h t p2⟩
    obtain ⟨i, hi⟩ := List.mem_iff_getElem?.mp hx'
    obtain ⟨y', hy', r'⟩ := Paired.get1 t hi
    exact h _ _ _ _ r r' (p1 y' (List.mem_of_getElem? hy'))
theorem sum_sub {l m : List Nat} (h : List.Sublist l m) : l.sum ≤ m.sum := by
  induction h with
  | slnil => exact Nat.le_refl _
  | cons a _ ih => simp only [List.sum_cons]; omega
  | cons_cons a _ ih => simp only [List.sum_cons]; omega
theorem like_sum : ∀ {hs ms : List Gap}, Paired GapLike hs ms → (hs.map fun g => g.ways.length).sum ≤ (ms.map fun g => g.ways.length).sum
  | _, _, .nil => Nat.le_refl _
  | _, _, .cons r t => by
    have := like_sum t
    have := r.w.length_le
    simp only [List.map_cons, List.sum_cons]
    omega
theorem paired_mem {α β : Type} {F : α → β → Prop} {xs : List α} {ys : List β} (h : Paired F xs ys) {x : α} (hx : x ∈ xs) : ∃ y ∈ ys, F x y := by
  obtain ⟨i, hi⟩ := List.mem_iff_getElem?.mp hx
  obtain ⟨y, hy, r⟩ := Paired.get1 h hi
  exact ⟨y, List.mem_of_getElem? hy, r⟩
theorem gap_like {ns : List Int} {m : Int} {h g : Gap} (r : GapLike h g) (ok : GapOk ns m g) : GapOk ns m h :=
  ⟨by rw [r.f]; exact ok.f0, by rw [r.f]; exact ok.f1, by rw [r.t]; exact ok.t0, by rw [r.t]; exact ok.t1, by rw [r.f, r.t]; exact ok.ne, r.p0, r.p1, Nat.le_trans r.w.length_le ok.few,
    fun w hw => ok.words w (r.w.subset hw), ok.rise.sublist r.w⟩
theorem bolt_like {ns : List Int} {c b : Bolt} (r : BoltLike c b) (ok : BoltOk ns b) : BoltOk ns c := by
  obtain ⟨ms, hs, hp⟩ := r.g
  refine ⟨by rw [r.m]; exact ok.m0, by rw [r.m]; exact ok.m1, fun g hg => ?_, ?_, ?_⟩
  · obtain ⟨y, hy, l⟩ := paired_mem hp hg
    rw [r.m]
    exact gap_like l (ok.gaps y (hs.subset hy))
  · refine paired_pw (fun a a' b b' l l' z => ?_) hp (ok.rise.sublist hs)
    rw [l.f, l.t, l'.f, l'.t]
    exact z
  · exact Nat.le_trans (like_sum hp) (Nat.le_trans (sum_sub (hs.map _)) ok.few)
theorem like_manys : ∀ {l' l : Lock}, Paired BoltLike l' l → manysOf l' = manysOf l
  | _, _, .nil => rfl
  | _, _, .cons (a := x) (b := y) r t => by
    unfold manysOf
    rw [List.map_cons, List.map_cons, r.m]
    exact congrArg _ (like_manys t)
theorem paired_take {α β : Type} {F : α → β → Prop} : ∀ {xs : List α} {ys : List β} (k : Nat), Paired F xs ys → Paired F (xs.take k) (ys.take k)
  | _, _, 0, _ => by
    rw [List.take_zero, List.take_zero]
    exact .nil
  | _, _, k + 1, .nil => by
    rw [List.take_nil, List.take_nil]
    exact .nil
  | _, _, k + 1, .cons r t => by
    rw [List.take_succ_cons, List.take_succ_cons]
    exact .cons r (paired_take k t)
theorem lock_like {l' l : Lock} (h : Paired BoltLike l' l) (ok : LockOk l) : LockOk l' := by
  have e : l'.length = l.length := Paired.len h
  refine ⟨by rw [e]; exact ok.n0, by rw [e]; exact ok.n1, fun k c hc => ?_, fun k ws hk nd hw => ?_⟩
  · obtain ⟨b, hb, r⟩ := Paired.get1 h hc
    rw [like_manys (paired_take k h)]
    exact bolt_like r (ok.bolts k b hb)
  · refine ok.words k ws (by omega) nd fun w hw' => ?_
    obtain ⟨j, c, g, u, hj, hc, hg, hu, e2⟩ := hw w hw'
    obtain ⟨b, hb, r⟩ := Paired.get1 h hc
    obtain ⟨ms, hs, hp⟩ := r.g
    obtain ⟨y, hy, lk⟩ := paired_mem hp hg
    exact ⟨j, b, y, u, hj, hb, hs.subset hy, lk.w.subset hu, e2⟩
theorem Thin.nil (gs : List Gap) : Thin [] gs := ⟨[], List.nil_sublist _, .nil⟩
theorem Thin.skip {hs gs : List Gap} {i : Nat} {g : Gap} (h : Thin hs (gs.take i)) (hg : gs[i]? = some g) : Thin hs (gs.take (i + 1)) := by
  obtain ⟨ms, a, b⟩ := h
  rw [take_succ_get hg]
  exact ⟨ms, a.trans (List.sublist_append_left _ _), b⟩
theorem Thin.more {hs gs : List Gap} {i : Nat} {g h' : Gap} (h : Thin hs (gs.take i)) (hg : gs[i]? = some g) (r : GapLike h' g) : Thin (hs ++ [h']) (gs.take (i + 1)) := by
  obtain ⟨ms, a, b⟩ := h
  rw [take_succ_get hg]
  exact ⟨ms ++ [g], a.append (List.Sublist.refl _), paired_app1 b r⟩
theorem Thin.len {hs gs : List Gap} (h : Thin hs gs) : hs.length ≤ gs.length := by
  obtain ⟨ms, a, b⟩ := h
  rw [Paired.len b]
  exact a.length_le
end Wb

set_option Elab.async false
set_option linter.all false
set_option maxRecDepth 100000
set_option maxHeartbeats 8000000
set_option pp.maxSteps 900
set_option pp.deepTerms false
namespace Wb
open PySem PySem.Spec PyProof.Rows L2
abbrev sLOther : Stmt := topS 40
abbrev nLOther : List Str := ["_law_pen_here", "_law_lock_here", "_law_found", "_law_share", "_law_many_here", "_law_gaps_here", "_law_bag", "_law_here", "_law_there", "_law_price_here", "_law_ways"]
theorem scLOther : FnScope nLOther ["_law_pen_here", "_law_lock_here"] (defScope sLOther) := ⟨rfl, rfl, rfl, by decide +kernel, rfl, by decide +kernel, by decide +kernel⟩
def spOther (K : PySem.W.Frag) : Sp := fun vs H Q _ => ∃ (p c : Addr) (T : Int) (v : V) (l : Lock), vs = [.ref p, v] ∧ PenAt H p c T ∧ T ≤ 8000000 ∧ LockS K H v l ∧ LockOk l ∧
  ∀ H' v' l', Exx p H H' → PenAt H' p c (T + 6000) → LockS K H' v' l' → LockOk l' → manysOf l' = manysOf l → Q v' H'
theorem paired_drop {α β : Type} {F : α → β → Prop} : ∀ {xs : List α} {ys : List β} (k : Nat), Paired F xs ys → Paired F (xs.drop k) (ys.drop k)
  | _, _, 0, h => h
  | _, _, k + 1, .nil => by
    rw [List.drop_nil, List.drop_nil]
    exact .nil
  | _, _, k + 1, .cons r t => paired_drop k t
/-- while the gaps of a bolt are gone through: what has been gathered -/
def OtSt (K : PySem.W.Frag) (H : Hp) (p c fl bg : Addr) (T : Int) (lvs : List V) (l' : Lock) (gs : List Gap) (H' : Hp) : Prop := ∃ (bvs : List V) (bgs : List Gap),
  Exx p H H' ∧ PenAt H' p c T ∧ H' fl = some (.lst lvs) ∧ H' bg = some (.lst bvs) ∧ Paired (GapS K H') bvs bgs ∧ Thin bgs gs ∧ Paired (BoltS K H') lvs l'
section
variable {K : PySem.W.Frag} {H H6 H7 : Hp} {p c fl bg : Addr} {T T' : Int} {lvs : List V} {l' : Lock} {gs : List Gap} {j : Nat} {g h : Gap}
theorem OtSt.go (s : OtSt K H p c fl bg T lvs l' gs H6) (x : Exx p H6 H7) (hp : PenAt H7 p c T') (nfp : fl ≠ p) (nbp : bg ≠ p) : OtSt K H p c fl bg T' lvs l' gs H7 := by
  obtain ⟨bvs, bgs, x6, hp6, a, b, d, e, f⟩ := s
  have tx : TX K H6 H7 := hp6.tx x
  exact ⟨bvs, bgs, x6.trans x, hp, x _ _ nfp a, x _ _ nbp b, Paired.imp (fun _ _ => GapS.mono tx) d, e, Paired.imp (fun _ _ => BoltS.mono tx) f⟩
theorem OtSt.skip (s : OtSt K H p c fl bg T lvs l' (gs.take j) H6) (hg : gs[j]? = some g) (h : T ≤ T') : OtSt K H p c fl bg T' lvs l' (gs.take (j + 1)) H6 := by
  obtain ⟨bvs, bgs, x6, hp6, a, b, d, e, f⟩ := s
  exact ⟨bvs, bgs, x6, hp6.mono h, a, b, d, e.skip hg, f⟩
theorem OtSt.more {wz t : Addr} {ws : List V} (s : OtSt K H p c fl bg T lvs l' (gs.take j) H7) (hT : T ≤ T') (hg : gs[j]? = some g) (r : GapLike h g) (hw : H7 wz = some (.tup ws)) (hws : Paired (Wd K H7) ws h.ways) (nt : H7 t = none) (nbg : H bg = none) (nbp : bg ≠ p) (nbc : bg ≠ c) (nbf : bg ≠ fl) (g16 : gs.length ≤ 16) :
    ∃ bvs, (upd H7 t (.tup [.int h.frm, .int h.to_, .int h.price, .ref wz])) bg = some (.lst bvs) ∧ bvs.length < sizeLine ∧
      OtSt K H p c fl bg T' lvs l' (gs.take (j + 1)) (upd (upd H7 t (.tup [.int h.frm, .int h.to_, .int h.price, .ref wz])) bg (.lst (bvs ++ [.ref t]))) := by
  obtain ⟨bvs, bgs, x7, hp7, a, b, d, e, f⟩ := s
  have e8 := Evl.Ex.new (o := .tup [.int h.frm, .int h.to_, .int h.price, .ref wz]) nt
  have gt : (upd H7 t (.tup [.int h.frm, .int h.to_, .int h.price, .ref wz])) t = some (.tup [.int h.frm, .int h.to_, .int h.price, .ref wz]) := upd_same
  have hp8 := hp7.ex e8
  generalize upd H7 t (.tup [.int h.frm, .int h.to_, .int h.price, .ref wz]) = H8 at e8 gt hp8
  have b8 := e8 _ _ b
  have bl := Paired.len d
  have tl := e.len
  rw [List.length_take] at tl
  have tx8 : TX K H7 (upd H8 bg (.lst (bvs ++ [.ref t]))) := (TX.ex e8).trans (TX.put b8)
  refine ⟨bvs, b8, Nat.lt_of_le_of_lt (by omega : bvs.length ≤ 16) (by decide), bvs ++ [.ref t], bgs ++ [h], (x7.trans (Exx.ex e8)).mut nbg, (hp8.put nbp nbc).mono hT, ?_, upd_same, ?_, e.more hg r, Paired.imp (fun _ _ => BoltS.mono tx8) f⟩
  · rw [upd_ne nbf.symm]
    exact e8 _ _ a
  · exact paired_app1 (Paired.imp (fun _ _ => GapS.mono tx8) d) (GapS.mono (TX.put b8) ⟨t, wz, ws, rfl, gt, e8 _ _ hw, Paired.imp (fun _ _ => Wd.mono (TX.ex e8)) hws⟩)
end
theorem cut_one (xs : List V) : cutV xs (some ((1 : Nat) : Int)) none = xs.drop 1 := by
  cases xs with
  | nil => simp [cutV]
  | cons x xs => exact cut_drop (x :: xs) (k := 1) (by simp)
theorem clampM (x : Int) : 1 ≤ (if (if x > 1 then x else 1) < (10 : Int) ^ (6 : Int).toNat then (if x > 1 then x else 1) else (10 : Int) ^ (6 : Int).toNat) ∧ (if (if x > 1 then x else 1) < (10 : Int) ^ (6 : Int).toNat then (if x > 1 then x else 1) else (10 : Int) ^ (6 : Int).toNat) ≤ 1000000 := by
  have e : (10 : Int) ^ (6 : Int).toNat = 1000000 := by decide
  rw [e]
  split <;> split <;> omega
section
variable {P : Program} {w : World} {K : PySem.W.Frag} {mg : Str → Option Value} {base : Heap}
theorem ok_other {f f1 f2 : Addr} {fd fd1 fd2 : FuncData} (F : Fun K "_law_otherwise" "_law_otherwise" sLOther f fd) (F1 : Fun K "_law_draw" "_law_draw" sDraw f1 fd1) (b1 : Binds K fd1 ["_law_pen_here", "_law_many_here"] []) (g1 : mg "_law_draw" = some (.ref f1))
    (F2 : Fun K "_law_pick" "_law_pick" sPick f2 fd2) (b2 : Binds K fd2 ["_law_pen_here", "_law_bag"] []) (g2 : mg "_law_pick" = some (.ref f2)) (B : Bi mg) (mn : mg "min" = none) (mx : mg "max" = none) :
    FnOk P w K mg base CX0 3 f fd ["_law_pen_here", "_law_lock_here"] (spOther K) := by
  have G1 : FnOk P w K mg base CX0 1 f1 fd1 ["_law_pen_here", "_law_many_here"] spDraw := ok_draw F1 B
  have G2 : FnOk P w K mg base CX0 2 f2 fd2 ["_law_pen_here", "_law_bag"] (spPick K) := ok_pick F2 F1 b1 g1 B
  refine F.ok scLOther (fun vs H Q E h => ?_) (fun cdv A outer s H vs Q E hr h => ?_)
  · obtain ⟨p, c, T, v, l, rfl, _⟩ := h; rfl
  · obtain ⟨p, c, T, v, l, rfl, hp, T8, ⟨la, bs, rfl, hla, hbs⟩, ok, q⟩ := h
    have hr1 : Room 1 _ := hr.mono (by decide)
    refine ⟨_, (Evl.pss_cut (ps_par (by rfl) scLOther.nd (i := 2) (j := 3) rfl rfl (by decide) rfl rfl (pa_cons (pe_lst pa_nil) (pa_cons (pe_call G2 hr (by rfl) g2 F2.kp b2 .nil pass0 (pa_cons (pv 0) (pa_cons (pe_lst (pa_cons pe_int (pa_cons pe_int (pa_cons pe_int pa_nil)))) pa_nil))) pa_nil)) (by rfl))
      (pss_cons (ps_for PassesOwn.never rfl (pi_tup (pv 1)) (pg_tup rfl (pgs_cons (pg_name (i := 4) scLOther.nd rfl (.inl rfl)) (pgs_cons (pg_name (i := 5) scLOther.nd rfl (.inl rfl)) pgs_nil)))
        (Evl.pss_cut (ps_set (i := 6) scLOther.nd rfl (.inl rfl) (pe_lst pa_nil))
        (pss_cons (ps_for PassesOwn.never rfl (pi_tup (pv 5)) (pg_tup rfl (pgs_cons (pg_name (i := 7) scLOther.nd rfl (.inl rfl)) (pgs_cons (pg_name (i := 8) scLOther.nd rfl (.inl rfl)) (pgs_cons (pg_name (i := 9) scLOther.nd rfl (.inl rfl)) (pgs_cons (pg_name (i := 10) scLOther.nd rfl (.inl rfl)) pgs_nil)))))
          (Evl.pss_cut (ps_if (pt_cmpR op_eq (pe_call G1 hr1 (by rfl) g1 F1.kp b1 .nil pass0 (pa_cons (pv 0) (pa_cons (pv 3) pa_nil))) pe_int (nomark _))
            (pss_one (ps_set (i := 9) scLOther.nd rfl (.inl rfl) (pe_callB (call_min2 rfl) (by rfl) mn boot_min (pa_cons (pe_op op_pow pe_int pe_int) (pa_cons (pe_callB (call_max2 rfl) (by rfl) mx boot_max (pa_cons pe_int (pa_cons (pe_op op_add (pv 9) (pe_call G2 hr (by rfl) g2 F2.kp b2 .nil pass0 (pa_cons (pv 0) (pa_cons (pe_lst (pa_cons pe_int (pa_cons (pe_un un_neg pe_int) pa_nil))) pa_nil)))) pa_nil))) pa_nil))))) pss_nil)
          (Evl.pss_cut (ps_if (pt_cmpR op_eq (pe_call G1 hr1 (by rfl) g1 F1.kp b1 .nil pass0 (pa_cons (pv 0) (pa_cons (pv 3) pa_nil))) pe_int (nomark _))
            (pss_one (ps_set (i := 10) scLOther.nd rfl (.inl rfl) (pe_slice sl_tupA (pv 10) (po_some pe_int) po_none))) pss_nil)
          (pss_one (ps_if (PW.pt (pw_or (pt_cmpR op_gt (pe_call G1 hr1 (by rfl) g1 F1.kp b1 .nil pass0 (pa_cons (pv 0) (pa_cons (pv 3) pa_nil))) pe_int (nomark _)) (pw_or1 (pt_cmpR op_eq (pe_call G1 hr1 (by rfl) g1 F1.kp b1 .nil pass0 (pa_cons (pv 0) (pa_cons pe_int pa_nil))) pe_int (nomark _)))))
            (pss_one (ps_expr (pe_bm PySem.F.plainAttrs_list PySem.F.slot_list_append PySem.F.type_list_append mt_append (pv 6) (pa_cons (pe_tup (pa_cons (pv 7) (pa_cons (pv 8) (pa_cons (pv 9) (pa_cons (pv 10) pa_nil))))) pa_nil)))) pss_nil)))))
        (pss_one (ps_expr (pe_bm PySem.F.plainAttrs_list PySem.F.slot_list_append PySem.F.type_list_append mt_append (pv 2) (pa_cons (pe_tup (pa_cons (pv 4) (pa_cons (pe_callTy (r := rTupK K) call_tupK (by rfl) B.tuple PyProof.Rows.boot_tuple (pa_cons (pv 6) pa_nil)) pa_nil))) pa_nil)))))))
      (pss_one (ps_ret (pe_callTy (r := rTupK K) call_tupK (by rfl) B.tuple PyProof.Rows.boot_tuple (pa_cons (pv 2) pa_nil)))))), ?_⟩
    have l60 := ok.n1
    have bl : bs.length = l.length := Paired.len hbs
    refine ⟨fun σ H1 => ∃ fl share, σ = [some (.ref p), some (.ref la), some (.ref fl), some (.int share), none, none, none, none, none, none, none] ∧ 1 ≤ share ∧ share ≤ 1000000 ∧ H fl = none ∧ fl ≠ p ∧ fl ≠ c ∧ Exx p H H1 ∧ PenAt H1 p c (T + 1) ∧ H1 fl = some (.lst []), ?_, ?_⟩
    · refine ⟨Nat.zero_le _, fun fl nfl => ?_⟩
      have e1 := Evl.Ex.new (o := .lst []) nfl
      have gf : (upd H fl (.lst [])) fl = some (.lst []) := upd_same
      have nfp := hp.new1 nfl
      have nfc := hp.new2 nfl
      have hp1 := hp.ex e1
      generalize upd H fl (.lst []) = H1 at e1 gf hp1
      refine ⟨.ref p, rfl, (by show 3 ≤ sizeLine; decide), fun L nL => ?_⟩
      have nLp := hp1.new1 nL
      have e2 := Evl.Ex.new (o := .lst [.int 2, .int 9, .int 99]) nL
      have gL : (upd H1 L (.lst [.int 2, .int 9, .int 99])) L = some (.lst [.int 2, .int 9, .int 99]) := upd_same
      have hp2 := hp1.ex e2
      generalize upd H1 L (.lst [.int 2, .int 9, .int 99]) = H2 at e2 gL hp2
      refine ⟨p, c, L, _, _, rfl, hp2, by omega, .inl (.inl gL), nLp, (by simp), (by show 3 ≤ 1000000; decide), fun x H3 hx x3 hp3 => ?_⟩
      obtain ⟨share, rfl, s1, s2⟩ : ∃ share, x = .int share ∧ 1 ≤ share ∧ share ≤ 1000000 := by
        simp only [List.mem_cons, List.not_mem_nil, or_false] at hx
        rcases hx with rfl | rfl | rfl <;> exact ⟨_, rfl, by decide, by decide⟩
      exact ⟨_, _, rfl, fl, share, rfl, s1, s2, nfl, nfp, nfc, (Exx.ex (e1.trans e2)).trans x3, hp3, x3 _ _ nfp (e2 _ _ gf)⟩
    rintro _ H1 ⟨fl, share, rfl, s1, s2, nfl, nfp, nfc, x1, hp1, gf1⟩
    refine ⟨.ref la, rfl, la, rfl, ⟨bs, .inl (.inl ((hp.tx (K := K) x1).2 _ _ hla))⟩, ?_⟩
    refine for_tup (K := K) (a := la) (xs := bs) (fun i σ H' => ∃ (lvs : List V) (l' : Lock) (y4 y5 y6 y7 y8 y9 y10 : Option V), σ = [some (.ref p), some (.ref la), some (.ref fl), some (.int share), y4, y5, y6, y7, y8, y9, y10] ∧ Exx p H H' ∧ PenAt H' p c (T + 1 + 90 * (i : Nat)) ∧ H' fl = some (.lst lvs) ∧ Paired (BoltS K H') lvs l' ∧ Paired BoltLike l' (l.take i))
      ⟨[], [], none, none, none, none, none, none, none, rfl, x1, by simpa using hp1, gf1, .nil, .nil⟩ ?_ ?_ ?_
    · rintro i σ H' _ ⟨_, _, _, _, _, _, _, _, _, _, x, _⟩
      exact .inl (.inl ((hp.tx (K := K) x).2 _ _ hla))
    · rintro i x σ H2 hi ⟨lvs, l', y4, y5, y6, y7, y8, y9, y10, rfl, x2, hp2, gf2, hlv, hlk⟩
      obtain ⟨b, hb, ⟨ab, cb, gs, rfl, k1, k2, k3⟩⟩ := Paired.get1 hbs hi
      have il : i < l.length := (List.getElem?_eq_some_iff.mp hb).1
      have g16 := gaps_16 ok hb
      have gl : gs.length = b.gaps.length := Paired.len k3
      have tx2 : TX K H H2 := hp.tx x2
      have lvl : lvs.length = i := by
        have := Paired.len hlv
        have := Paired.len hlk
        rw [List.length_take] at this
        omega
      refine ⟨ab, _, rfl, .inl (.inl (tx2.2 _ _ k1)), rfl, _, _, rfl, _, _, rfl, rfl, ?_⟩
      refine ⟨fun σ H3 => ∃ bg, σ = [some (.ref p), some (.ref la), some (.ref fl), some (.int share), some (.int b.many), some (.ref cb), some (.ref bg), y7, y8, y9, y10] ∧ H2 bg = none ∧ Evl.Ex H2 H3 ∧ H3 bg = some (.lst []), ⟨Nat.zero_le _, fun bg nbg => ⟨bg, rfl, nbg, Evl.Ex.new nbg, upd_same⟩⟩, ?_⟩
      rintro _ H3 ⟨bg, rfl, nbg2, e3, gb3⟩
      have nbg : H bg = none := fresh_exx x2 hp2.here nbg2
      have nbp := hp2.new1 nbg2
      have nbc := hp2.new2 nbg2
      have nbf : bg ≠ fl := fun z => by rw [z, gf2] at nbg2; cases nbg2
      have st3 : OtSt K H p c fl bg (T + 1 + 90 * (i : Nat)) lvs l' (b.gaps.take 0) H3 := ⟨[], [], x2.trans (Exx.ex e3), hp2.ex e3, e3 _ _ gf2, gb3, .nil, Thin.nil _, Paired.imp (fun _ _ => BoltS.mono (TX.ex e3)) hlv⟩
      refine ⟨.ref cb, rfl, cb, rfl, ⟨gs, .inl (.inl (e3 _ _ (tx2.2 _ _ k2)))⟩, ?_⟩
      refine for_tup (K := K) (a := cb) (xs := gs) (fun j σ H' => ∃ (y7 y8 y9 y10 : Option V), σ = [some (.ref p), some (.ref la), some (.ref fl), some (.int share), some (.int b.many), some (.ref cb), some (.ref bg), y7, y8, y9, y10] ∧ OtSt K H p c fl bg (T + 1 + 90 * (i : Nat) + 5 * (j : Nat)) lvs l' (b.gaps.take j) H')
        ⟨y7, y8, y9, y10, rfl, by simpa using st3⟩ ?_ ?_ ?_
      · rintro j σ H' _ ⟨_, _, _, _, _, _, _, x, _⟩
        exact .inl (.inl ((hp.tx (K := K) x).2 _ _ k2))
      · rintro j x σ H4 hj ⟨y7, y8, y9, y10, rfl, st4⟩
        obtain ⟨g, hgj, ⟨ag, wb, ws, rfl, m1, m2, m3⟩⟩ := Paired.get1 k3 hj
        have jl : j < b.gaps.length := (List.getElem?_eq_some_iff.mp hgj).1
        have gok := (ok.bolts i b hb).gaps g (List.mem_of_getElem? hgj)
        have ⟨_, _, x4, hp4, _⟩ := id st4
        have tx4 : TX K H H4 := hp.tx x4
        refine ⟨ag, _, rfl, .inl (.inl (tx4.2 _ _ m1)), rfl, _, _, rfl, _, _, rfl, _, _, rfl, _, _, rfl, rfl, ?_⟩
        refine ⟨fun σ H5 => ∃ price, σ = [some (.ref p), some (.ref la), some (.ref fl), some (.int share), some (.int b.many), some (.ref cb), some (.ref bg), some (.int g.frm), some (.int g.to_), some (.int price), some (.ref wb)] ∧ 1 ≤ price ∧ price ≤ 1000000 ∧
          OtSt K H p c fl bg (T + 1 + 90 * (i : Nat) + 5 * (j : Nat) + 2) lvs l' (b.gaps.take j) H5, ?_, ?_⟩
        · refine ⟨.ref p, rfl, .int share, rfl, p, c, share, _, rfl, hp4, s1, s2, by omega, fun d H5 d0 d1 x5 hp5 => ?_⟩
          refine ⟨rfl, _, rfl, ?_⟩
          refine ite2 (fun _ => ?_) (fun _ => ?_)
          · have p6 : (0 : Int) ≤ 6 ∧ (6 : Int) ≤ 1000000 ∧ (10 : Int).natAbs < 2 ^ 64 := by decide
            refine ⟨10, 6, rfl, rfl, p6, ?_⟩
            refine ⟨.int g.price, rfl, .ref p, rfl, 1, rfl, (by show 2 ≤ sizeLine; decide), fun L nL => ?_⟩
            have nLp := hp5.new1 nL
            have e6 := Evl.Ex.new (o := .lst [.int 1, .int (-1)]) nL
            have gL : (upd H5 L (.lst [.int 1, .int (-1)])) L = some (.lst [.int 1, .int (-1)]) := upd_same
            have hp6 := hp5.ex e6
            generalize upd H5 L (.lst [.int 1, .int (-1)]) = H6 at e6 gL hp6
            refine ⟨p, c, L, _, _, rfl, hp6, by omega, .inl (.inl gL), nLp, (by simp), (by show 2 ≤ 1000000; decide), fun x H7 hx x7 hp7 => ?_⟩
            obtain ⟨d2, rfl⟩ : ∃ d2, x = .int d2 := by
              simp only [List.mem_cons, List.not_mem_nil, or_false] at hx
              rcases hx with rfl | rfl <;> exact ⟨_, rfl⟩
            refine ⟨g.price, d2, rfl, rfl, 1, g.price + d2, rfl, _, _, rfl, ?_⟩
            have z := clampM (g.price + d2)
            exact ⟨_, rfl, z.1, z.2, st4.go (x5.trans ((Exx.ex e6).trans x7)) (hp7.mono (by omega)) nfp nbp⟩
          · exact ⟨g.price, rfl, gok.p0, gok.p1, st4.go x5 (hp5.mono (by omega)) nfp nbp⟩
        rintro _ H5 ⟨price, rfl, p1, p2, st5⟩
        have ⟨_, _, x05, hp5, _⟩ := id st5
        refine ⟨fun σ H6 => ∃ wz ws' ways', σ = [some (.ref p), some (.ref la), some (.ref fl), some (.int share), some (.int b.many), some (.ref cb), some (.ref bg), some (.int g.frm), some (.int g.to_), some (.int price), some (.ref wz)] ∧ H6 wz = some (.tup ws') ∧ Paired (Wd K H6) ws' ways' ∧
          List.Sublist ways' g.ways ∧ OtSt K H p c fl bg (T + 1 + 90 * (i : Nat) + 5 * (j : Nat) + 3) lvs l' (b.gaps.take j) H6, ?_, ?_⟩
        · refine ⟨.ref p, rfl, .int share, rfl, p, c, share, _, rfl, hp5, s1, s2, by omega, fun d H6 d0 d1 x6 hp6 => ?_⟩
          have st6 := st5.go x6 (hp6.mono (Int.le_refl _)) nfp nbp
          have ⟨_, _, x06, _⟩ := id st6
          have tx6 : TX K H H6 := hp.tx x06
          refine ⟨rfl, _, rfl, ?_⟩
          refine ite2 (fun _ => ?_) (fun _ => ?_)
          · refine ⟨.ref wb, rfl, 1, rfl, ?_⟩
            refine nopart1 ?_
            refine sl_own (K := K) (lo := some ((1 : Nat) : Int)) (hi := none) (tx6.2 _ _ m2) fun H7 z e7 hz => ?_
            rw [cut_one] at hz
            exact ⟨z, ws.drop 1, g.ways.drop 1, rfl, hz, paired_drop 1 (Paired.imp (fun _ _ => Wd.mono (tx6.trans (TX.ex e7))) m3), List.drop_sublist _ _, st6.go (Exx.ex e7) ((hp6.ex e7).mono (by omega)) nfp nbp⟩
          · exact ⟨wb, ws, g.ways, rfl, tx6.2 _ _ m2, Paired.imp (fun _ _ => Wd.mono tx6) m3, List.Sublist.refl _, st6.go (Exx.refl _ _) (hp6.mono (by omega)) nfp nbp⟩
        rintro _ H6 ⟨wz, ws', ways', rfl, hw6, hws6, sub, st6⟩
        have ⟨_, _, x06, hp6, _⟩ := id st6
        have like : GapLike ⟨g.frm, g.to_, price, ways'⟩ g := ⟨rfl, rfl, p1, p2, sub⟩
        have fin : ∀ H7 T7, Exx p H6 H7 → PenAt H7 p c T7 → T7 ≤ T + 1 + 90 * (i : Nat) + 5 * ((j + 1 : Nat) : Int) → ∀ t, H7 t = none → ∃ bvs, (upd H7 t (.tup [.int g.frm, .int g.to_, .int price, .ref wz])) bg = some (.lst bvs) ∧ bvs.length < sizeLine ∧
            OtSt K H p c fl bg (T + 1 + 90 * (i : Nat) + 5 * ((j + 1 : Nat) : Int)) lvs l' (b.gaps.take (j + 1)) (upd (upd H7 t (.tup [.int g.frm, .int g.to_, .int price, .ref wz])) bg (.lst (bvs ++ [.ref t]))) := by
          intro H7 T7 x7 hp7 hT t nt
          have tx7 : TX K H6 H7 := hp6.tx x7
          exact (st6.go x7 hp7 nfp nbp).more (h := ⟨g.frm, g.to_, price, ways'⟩) hT hgj like (tx7.2 _ _ hw6) (Paired.imp (fun _ _ => Wd.mono tx7) hws6) nt nbg nbp nbc nbf g16
        refine ⟨.ref p, rfl, .int share, rfl, p, c, share, _, rfl, hp6, s1, s2, by omega, fun d H7 d0 d1 x7 hp7 => ?_⟩
        refine ⟨d, 0, rfl, rfl, _, rfl, ?_⟩
        refine ite2 (fun _ => ?_) (fun _ => ?_)
        · refine iteT ?_
          have ⟨_, _, _, _, _, gb7, _⟩ := st6.go x7 (hp7.mono (Int.le_refl _)) nfp nbp
          refine ⟨.ref bg, rfl, .inl ⟨rfl, _, SqL.of gb7⟩, .int g.frm, rfl, .int g.to_, rfl, .int price, rfl, .ref wz, rfl, (by show 4 ≤ sizeLine; decide), fun t nt => ?_⟩
          obtain ⟨bvs, h1, h2, h3⟩ := fin H7 _ x7 hp7 (by omega) t nt
          exact ⟨bg, bvs, _, rfl, rfl, h1, h2, _, _, _, _, rfl, h3⟩
        · refine ⟨.ref p, rfl, p, c, 2, _, rfl, hp7, by decide, by decide, by omega, fun d' H8 d0' d1' x8 hp8 => ?_⟩
          refine ⟨rfl, _, rfl, ?_⟩
          refine ite2 (fun _ => ?_) (fun _ => ?_)
          · have ⟨_, _, _, _, _, gb8, _⟩ := st6.go (x7.trans x8) (hp8.mono (Int.le_refl _)) nfp nbp
            refine ⟨.ref bg, rfl, .inl ⟨rfl, _, SqL.of gb8⟩, .int g.frm, rfl, .int g.to_, rfl, .int price, rfl, .ref wz, rfl, (by show 4 ≤ sizeLine; decide), fun t nt => ?_⟩
            obtain ⟨bvs, h1, h2, h3⟩ := fin H8 _ (x7.trans x8) hp8 (by omega) t nt
            exact ⟨bg, bvs, _, rfl, rfl, h1, h2, _, _, _, _, rfl, h3⟩
          · exact ⟨_, _, _, _, rfl, (st6.go (x7.trans x8) hp8 nfp nbp).skip hgj (by omega)⟩
      · rintro σ H4 ⟨y7, y8, y9, y10, rfl, bvs, bgs, x4, hp4, gf4, gb4, hbg, thin, hlv4⟩
        rw [gl, List.take_length] at thin
        refine ⟨.ref fl, rfl, .inl ⟨rfl, _, SqL.of gf4⟩, .int b.many, rfl, .ref bg, rfl, bg, bvs, rfl, .inl ⟨SqL.of gb4, fun t nt => ?_⟩⟩
        have e5 := Evl.Ex.new (o := .tup bvs) nt
        have gt : (upd H4 t (.tup bvs)) t = some (.tup bvs) := upd_same
        have hp5 := hp4.ex e5
        generalize upd H4 t (.tup bvs) = H5 at e5 gt hp5
        refine ⟨(by show 2 ≤ sizeLine; decide), fun t2 nt2 => ?_⟩
        have e6 := Evl.Ex.new (o := .tup [.int b.many, .ref t]) nt2
        have gt2 : (upd H5 t2 (.tup [.int b.many, .ref t])) t2 = some (.tup [.int b.many, .ref t]) := upd_same
        have hp6 := hp5.ex e6
        generalize upd H5 t2 (.tup [.int b.many, .ref t]) = H6 at e6 gt2 hp6
        have e46 := e5.trans e6
        have gf6 := e46 _ _ gf4
        have tx6 : TX K H4 (upd H6 fl (.lst (lvs ++ [.ref t2]))) := (TX.ex e46).trans (TX.put gf6)
        refine ⟨fl, lvs, _, rfl, rfl, gf6, Nat.lt_of_le_of_lt (by omega : lvs.length ≤ 60) (by decide), lvs ++ [.ref t2], l' ++ [⟨b.many, bgs⟩], _, _, _, _, _, _, _, rfl, (x4.trans (Exx.ex e46)).mut nfl, (hp6.put nfp nfc).mono (by omega), upd_same, ?_, ?_⟩
        · exact paired_app1 (Paired.imp (fun _ _ => BoltS.mono tx6) hlv4) (BoltS.mono (TX.put gf6) ⟨t2, t, bvs, rfl, gt2, e6 _ _ gt, Paired.imp (fun _ _ => GapS.mono (TX.ex e46)) hbg⟩)
        · rw [take_succ_get hb]
          exact paired_app1 hlk ⟨rfl, thin⟩
    · rintro σ H2 ⟨lvs, l', y4, y5, y6, y7, y8, y9, y10, rfl, x2, hp2, gf2, hlv, hlk⟩
      rw [bl, List.take_length] at hlk
      have ll : l'.length = l.length := Paired.len hlk
      have lvl : lvs.length = l'.length := Paired.len hlv
      refine ⟨.ref fl, rfl, fl, lvs, rfl, .inl ⟨SqL.of gf2, fun t nt => ?_⟩⟩
      have e3 := Evl.Ex.new (o := .tup lvs) nt
      exact q _ (.ref t) l' (x2.trans (Exx.ex e3)) ((hp2.ex e3).mono (by omega)) ⟨t, lvs, rfl, upd_same, Paired.imp (fun _ _ => BoltS.mono (TX.ex e3)) hlv⟩ (lock_like hlk ok) (like_manys hlk)
end
end Wb

set_option Elab.async false
set_option linter.all false
set_option maxRecDepth 100000
set_option maxHeartbeats 8000000
set_option pp.maxSteps 900
set_option pp.deepTerms false
namespace Wb
open PySem PySem.Spec PyProof.Rows L2
abbrev sLOfC : Stmt := topS 41
abbrev nLOfC : List Str := ["_law_pen_here", "_law_lock_here", "_law_bases_here", "_law_bolt", "_law_k"]
theorem scLOfC : FnScope nLOfC ["_law_pen_here", "_law_lock_here"] (defScope sLOfC) := ⟨rfl, rfl, rfl, by decide +kernel, rfl, by decide +kernel, by decide +kernel⟩
theorem manys_drawn {wds : List Int} {srcs : List Word} {l : Lock} (hl : l.length = wds.length) (hb : ∀ k b, l[k]? = some b → BGood wds srcs k b) : manysOf l = wds := by
  apply List.ext_getElem?
  intro i
  unfold manysOf
  rw [List.getElem?_map]
  by_cases hi : i < l.length
  · rw [List.getElem?_eq_getElem hi, (hb i l[i] (List.getElem?_eq_getElem hi)).many]
    rfl
  · rw [List.getElem?_eq_none (by omega), List.getElem?_eq_none (by omega)]
    rfl
def spOfC (K : PySem.W.Frag) : Sp := fun vs H Q _ => ∃ (p c : Addr) (T : Int) (v : V) (l : Lock), vs = [.ref p, v] ∧ PenAt H p c T ∧ T ≤ 7000000 ∧ LockS K H v l ∧ LockOk l ∧
  ∀ H' v' l', Exx p H H' → PenAt H' p c (T + 130000) → LockS K H' v' l' → LockOk l' → manysOf l' = manysOf l → Q v' H'
section
variable {P : Program} {w : World} {K : PySem.W.Frag} {mg : Str → Option Value} {base : Heap}
theorem ok_ofc {f f1 f2 f3 f4 f5 f6 f7 : Addr} {fd fd1 fd2 fd3 fd4 fd5 fd6 fd7 : FuncData} (F : Fun K "_law_of_counts" "_law_of_counts" sLOfC f fd) (F1 : Fun K "_law_draw" "_law_draw" sDraw f1 fd1) (b1 : Binds K fd1 ["_law_pen_here", "_law_many_here"] []) (g1 : mg "_law_draw" = some (.ref f1))
    (F2 : Fun K "_law_pick" "_law_pick" sPick f2 fd2) (b2 : Binds K fd2 ["_law_pen_here", "_law_bag"] []) (g2 : mg "_law_pick" = some (.ref f2))
    (F3 : Fun K "_law_shuffled" "_law_shuffled" sShuf f3 fd3) (b3 : Binds K fd3 ["_law_pen_here", "_law_bag"] []) (g3 : mg "_law_shuffled" = some (.ref f3))
    (F4 : Fun K "_law_price" "_law_price" sPrc f4 fd4) (b4 : Binds K fd4 ["_law_pen_here", "_law_dear"] []) (g4 : mg "_law_price" = some (.ref f4))
    (F5 : Fun K "_law_bases" "_law_bases" sBases f5 fd5) (b5 : Binds K fd5 ["_law_pen_here", "_law_counts", "_law_most"] []) (g5 : mg "_law_bases" = some (.ref f5))
    (F6 : Fun K "_law_cuts" "_law_cuts" sCuts f6 fd6) (b6 : Binds K fd6 ["_law_words", "_law_many_here"] []) (g6 : mg "_law_cuts" = some (.ref f6))
    (F7 : Fun K "_law_gaps" "_law_gaps" sGaps f7 fd7) (b7 : Binds K fd7 ["_law_pen_here", "_law_count", "_law_words", "_law_dear"] []) (g7 : mg "_law_gaps" = some (.ref f7)) (B : Bi mg) :
    FnOk P w K mg base CX0 5 f fd ["_law_pen_here", "_law_lock_here"] (spOfC K) := by
  have G5 : FnOk P w K mg base CX0 2 f5 fd5 ["_law_pen_here", "_law_counts", "_law_most"] (spBases K) := ok_bases F5 F1 b1 g1 B
  have G6 : FnOk P w K mg base CX0 1 f6 fd6 ["_law_words", "_law_many_here"] (spCuts K) := ok_cuts F6
  have G7 : FnOk P w K mg base CX0 4 f7 fd7 ["_law_pen_here", "_law_count", "_law_words", "_law_dear"] (spGaps K) := ok_gaps F7 F1 b1 g1 F2 b2 g2 F3 b3 g3 F4 b4 g4 B
  refine F.ok scLOfC (fun vs H Q E h => ?_) (fun cdv A outer s H vs Q E hr h => ?_)
  · obtain ⟨p, c, T, v, l, rfl, _⟩ := h; rfl
  · obtain ⟨p, c, T, v, l, rfl, hp, T8, ⟨la, bs, rfl, hla, hbs⟩, ok, q⟩ := h
    have hr1 : Room 1 _ := hr.mono (by decide)
    have hr2 : Room 2 _ := hr.mono (by decide)
    refine ⟨_, (Evl.pss_cut (ps_set (i := 2) scLOfC.nd rfl (.inr rfl) (pe_call G5 hr2 (by rfl) g5 F5.kp b5 .nil pass0 (pa_cons (pv 0) (pa_cons (pe_lc (own := [("_law_bolt", 3)]) (wi := iTup K (tVar 1)) (g := gName 3) (te := tOp (rIxT K) (tVar 3) (tC (V.int 0))) rfl scLOfC.nd (pi_tup (pv 1)) (blkOk_by (own := [("_law_bolt", 3)]) (N := nLOfC) (sc := defScope sLOfC) (by decide +kernel))
          (fun _ _ _ _ _ => pg_name (i := 3) scLOfC.nd rfl (Or.inl rfl)) (fun _ _ _ _ _ => pts_nil) (fun _ _ _ _ _ => pe_ix (r := rIxT K) ix_tup (pv 3) pe_int (fun _ _ => rfl))) (pa_cons pe_int pa_nil)))))
      (pss_one (ps_ret (pe_callTy (r := rTupK K) call_tupK (by rfl) B.tuple PyProof.Rows.boot_tuple (pa_cons (pe_lc (own := [("_law_k", 4)]) (g := gName 4) rfl scLOfC.nd (pi_range1 rfl B.range (pa_cons (pe_callB call_len_seq (by rfl) B.len PySem.boot_len (pa_cons (pv 1) pa_nil)) pa_nil)) (blkOk_by (own := [("_law_k", 4)]) (N := nLOfC) (sc := defScope sLOfC) (by decide +kernel))
          (fun _ _ _ _ _ => pg_name (i := 4) scLOfC.nd rfl (Or.inl rfl)) (fun _ _ _ _ _ => pts_nil)
          (fun _ _ _ _ _ => pe_tup (pa_cons (pe_ix (r := rIxT K) ix_tup (pe_ix (r := rIxT K) ix_tup (pv 1) (pv 4) (fun _ _ => rfl)) pe_int (fun _ _ => rfl)) (pa_cons (pe_call G7 hr (by rfl) g7 F7.kp b7 .nil pass0 (pa_cons (pv 0) (pa_cons (pe_ix (r := rIxT K) ix_tup (pe_ix (r := rIxT K) ix_tup (pv 1) (pv 4) (fun _ _ => rfl)) pe_int (fun _ _ => rfl))
            (pa_cons (pe_call G6 hr1 (by rfl) g6 F6.kp b6 .nil pass0 (pa_cons (pv 2) (pa_cons (pv 4) pa_nil))) (pa_cons pe_int pa_nil))))) pa_nil)))) pa_nil))))), ?_⟩
    have l60 := ok.n1
    have l1 := ok.n0
    have bl : bs.length = l.length := Paired.len hbs
    have wl : (manysOf l).length = l.length := manys_cnt l
    have wb : ∀ x ∈ manysOf l, 2 ≤ x ∧ x ≤ 4 := fun x hx => by
      obtain ⟨b, hb, rfl⟩ := List.mem_map.mp hx
      obtain ⟨k, hk⟩ := List.mem_iff_getElem?.mp hb
      exact ⟨(ok.bolts k b hk).m0, (ok.bolts k b hk).m1⟩
    refine ⟨fun σ H1 => ∃ bz bvs bases, σ = [some (.ref p), some (.ref la), some (.ref bz), none, none] ∧ bz ≠ p ∧ Exx p H H1 ∧ PenAt H1 p c (T + 200) ∧ H1 bz = some (.lst bvs) ∧ Paired (Wd K H1) bvs bases ∧ bases.length ≤ 3 ∧ ∀ u ∈ bases, InAll u (manysOf l), ?_, ?_⟩
    · refine ⟨.ref p, rfl, .ref la, rfl, la, rfl, ⟨bs, .inl (.inl hla)⟩, fun W nW => ?_⟩
      have nWp := hp.new1 nW
      refine lc_tup (K := K) (a := la) (xs := bs) (fun i H' => Evl.Ex H H' ∧ H' W = some (.lst (((manysOf l).take i).map V.int))) ⟨Evl.Ex.new nW, upd_same⟩ ?_ ?_ ?_
      · rintro i H1 _ ⟨e1, _⟩
        exact .inl (.inl (e1 _ _ hla))
      · rintro i x H1 hi ⟨e1, hW1⟩
        obtain ⟨b, hb, ⟨ab, cb, gs, rfl, k1, k2, k3⟩⟩ := Paired.get1 hbs hi
        have il : i < l.length := (List.getElem?_eq_some_iff.mp hb).1
        have hm : (manysOf l)[i]? = some b.many := by
          unfold manysOf
          rw [List.getElem?_map, hb]
          rfl
        refine ⟨rfl, .ref ab, rfl, ab, _, 0, .int b.many, rfl, rfl, .inl (.inl (e1 _ _ k1)), atI_nat (j := 0) rfl, _, hW1, ?_, e1.mut nW, ?_⟩
        · rw [List.length_map, List.length_take]
          exact Nat.lt_of_le_of_lt (by omega : min i (manysOf l).length ≤ 60) (by decide)
        · rw [upd_same, take_succ_get hm, List.map_append]
          rfl
      · rintro H1 ⟨e1, hW1⟩
        rw [bl, ← wl, List.take_length] at hW1
        refine ⟨p, c, W, 2, T, manysOf l, rfl, hp.ex e1, by omega, hW1, nWp, by decide, by decide, by omega, (fun x hx => by have := wb x hx; omega), fun H2 bz bvs bases x2 hp2 nbz hbz hbv bl3 hb => ?_⟩
        exact ⟨bz, bvs, bases, rfl, (hp.ex e1).new1 nbz, (Exx.ex e1).trans x2, hp2, hbz, hbv, bl3, hb⟩
    rintro _ H1 ⟨bz, bvs, bases, rfl, nbz, x1, hp1, hbz1, hbv1, bl3, hb⟩
    have smb : SmallW bases := fun u hu => by
      obtain ⟨a, b⟩ := small_in (hb u hu) (by omega) wb
      exact ⟨a, fun x hx => by have := b x hx; omega⟩
    have tx1 : TX K H H1 := hp.tx x1
    refine ⟨.ref la, rfl, la, bs, rfl, .inr (.inl (.inl (tx1.2 _ _ hla))), _, rfl, by omega, by omega, fun R nR => ?_⟩
    have nRp := hp1.new1 nR
    have nRc := hp1.new2 nR
    have nRz : bz ≠ R := fun z => by rw [← z, hbz1] at nR; cases nR
    have nR0 : H R = none := fresh_exx x1 hp1.here nR
    refine lc_range (lo := 0) (n := ((bs.length : Nat) : Int).toNat) (fun k H' => ∃ lvs l', Exx p H H' ∧ PenAt H' p c (T + 210 + 2010 * (k : Nat)) ∧ H' R = some (.lst lvs) ∧ Paired (BoltS K H') lvs l' ∧ l'.length = k ∧ H' bz = some (.lst bvs) ∧ Paired (Wd K H') bvs bases ∧ ∀ j b, l'[j]? = some b → BGood (manysOf l) bases j b)
      ⟨[], [], (x1.trans (Exx.refl _ _)).mut nR0, (hp1.put nRp nRc).mono (by omega), upd_same, .nil, rfl, by rw [upd_ne nRz]; exact hbz1, Paired.imp (fun _ _ z => by
        obtain ⟨a, r, h⟩ := z
        refine ⟨a, r, ?_⟩
        rw [upd_ne (fun y => by rw [← y, h] at nR; cases nR)]
        exact h) hbv1, fun j b h => by simp at h⟩ ?_ ?_
    · rintro k H6 hk ⟨lvs, l', x6, hp6, hR6, hlv6, ll, hbz6, hbv6, hgood⟩
      have ek : (0 : Int) + (k : Nat) = ((k : Nat) : Int) := by omega
      rw [ek]
      have kl : k < l.length := by omega
      obtain ⟨b, hbk⟩ : ∃ b, l[k]? = some b := ⟨l[k], List.getElem?_eq_getElem kl⟩
      obtain ⟨x, hx1, ⟨ab, cb, gs0, rfl, k1, k2, k3⟩⟩ := Paired.get2 hbs hbk
      have hwd : (manysOf l)[k]? = some b.many := by
        unfold manysOf
        rw [List.getElem?_map, hbk]
        rfl
      have tx6 : TX K H H6 := hp.tx x6
      have bm := wb b.many (List.mem_of_getElem? hwd)
      have wk4 : ∀ x ∈ (manysOf l).take k, 2 ≤ x ∧ x ≤ 4 := fun x hx => wb x (List.mem_of_mem_take hx)
      refine ⟨rfl, .ref la, rfl, .int (k : Nat), rfl, la, bs, (k : Nat), .ref ab, rfl, rfl, .inl (.inl (tx6.2 _ _ hla)), atI_nat hx1, ab, _, 0, .int b.many, rfl, rfl, .inl (.inl (tx6.2 _ _ k1)), atI_nat (j := 0) rfl, ?_⟩
      refine ⟨.ref p, rfl, .ref la, rfl, .int (k : Nat), rfl, la, bs, (k : Nat), .ref ab, rfl, rfl, .inl (.inl (tx6.2 _ _ hla)), atI_nat hx1, ab, _, 0, .int b.many, rfl, rfl, .inl (.inl (tx6.2 _ _ k1)), atI_nat (j := 0) rfl, ?_⟩
      refine ⟨.ref bz, rfl, .int (k : Nat), rfl, bz, k, bvs, bases, rfl, SqL.of hbz6, hbv6, smb, by omega, fun H7 wlA wv us e7 nwl hwl7 hwv7 und hus ulen => ?_⟩
      have hp7 := hp6.ex e7
      have nwlp : wlA ≠ p := hp6.new1 nwl
      have w0 : ∀ u ∈ us, InAll u ((manysOf l).take k) ∧ ∃ s ∈ bases, u = s.take k := fun u hu => by
        obtain ⟨b0, hb0, rfl⟩ := hus u hu
        exact ⟨inAll_take (hb b0 hb0) k, b0, hb0, rfl⟩
      have bd : ∀ u ∈ us, u.length = k ∧ TS.Bd 4 u := fun u hu => by
        obtain ⟨h1, _⟩ := w0 u hu
        obtain ⟨_, b⟩ := small_in h1 (by rw [List.length_take]; omega) wk4
        have := h1.1
        rw [List.length_take] at this
        exact ⟨by omega, b⟩
      refine ⟨p, c, wlA, b.many, 9, _, wv, us, k, rfl, hp7, by omega, bm.1, bm.2, by decide, by decide, nwlp, hwl7, hwv7, by omega, und, by omega, bd, fun H11 ga gvs gs left x11 hp11 hga hgv hdr => ?_⟩
      refine ⟨(by show 2 ≤ sizeLine; decide), fun bt nbt => ?_⟩
      have e12 := Evl.Ex.new (o := .tup [.int b.many, .ref ga]) nbt
      have hbt : (upd H11 bt (.tup [.int b.many, .ref ga])) bt = some (.tup [.int b.many, .ref ga]) := upd_same
      have hp12 := hp11.ex e12
      generalize upd H11 bt (.tup [.int b.many, .ref ga]) = H12 at e12 hbt hp12
      have x612 : Exx p H6 H12 := (Exx.ex e7).trans (x11.trans (Exx.ex e12))
      have tx612 : TX K H6 H12 := hp6.tx x612
      have hR12 := x612 _ _ nRp hR6
      have hbz12 := x612 _ _ nbz hbz6
      have lvl : lvs.length = l'.length := Paired.len hlv6
      have bAt : BoltS K H12 (.ref bt) ⟨b.many, gs⟩ := ⟨bt, ga, gvs, rfl, hbt, e12 _ _ hga, Paired.imp (fun _ _ => GapS.mono (TX.ex e12)) hgv⟩
      refine ⟨lvs, hR12, Nat.lt_of_le_of_lt (by omega : lvs.length ≤ 60) (by decide), lvs ++ [.ref bt], l' ++ [⟨b.many, gs⟩], (x6.trans x612).mut nR0, (hp12.put nRp nRc).mono (by omega), upd_same, ?_, by rw [List.length_append, ll]; rfl, by rw [upd_ne nRz]; exact hbz12, ?_, ?_⟩
      · exact Paired.imp (fun _ _ => BoltS.mono (TX.put hR12)) (paired_app1 (Paired.imp (fun _ _ => BoltS.mono tx612) hlv6) bAt)
      · exact Paired.imp (fun _ _ => Wd.mono (tx612.trans (TX.put hR12))) hbv6
      · intro j b' hj
        by_cases hjl : j < l'.length
        · rw [List.getElem?_append_left hjl] at hj
          exact hgood j b' hj
        · rw [List.getElem?_append_right (by omega)] at hj
          have : j = l'.length := by
            by_cases e : j - l'.length = 0
            · omega
            · rw [List.getElem?_eq_none (by simp; omega)] at hj; cases hj
          subst this
          rw [Nat.sub_self] at hj
          have eb : b' = ⟨b.many, gs⟩ := (Option.some.inj hj).symm
          subst eb
          rw [ll]
          exact ⟨hwd, us, left, hdr, w0⟩
    · rintro H6 ⟨lvs, l', x6, hp6, hR6, hlv6, ll, hbz6, hbv6, hgood⟩
      have lw : l'.length = (manysOf l).length := by omega
      refine ⟨R, lvs, rfl, .inl ⟨SqL.of hR6, fun t nt => ?_⟩⟩
      have e7 := Evl.Ex.new (o := .tup lvs) nt
      exact q _ (.ref t) l' (x6.trans (Exx.ex e7)) ((hp6.ex e7).mono (by omega)) ⟨t, lvs, rfl, upd_same, Paired.imp (fun _ _ => BoltS.mono (TX.ex e7)) hlv6⟩ (lockOk_drawn lw (by omega) (by omega) wb (by omega) hgood) (manys_drawn lw hgood)
end
end Wb

set_option Elab.async false
set_option linter.all false
set_option maxRecDepth 100000
set_option maxHeartbeats 8000000
set_option pp.maxSteps 900
set_option pp.deepTerms false
namespace Wb
open PySem PySem.Spec PyProof.Rows L2
abbrev sRefd : Stmt := topS 42
abbrev nRefd : List Str := ["_law_lock_here", "_law_second", "e"]
theorem scRefd : FnScope nRefd ["_law_lock_here", "_law_second"] (defScope sRefd) := ⟨rfl, rfl, rfl, by decide +kernel, rfl, by decide +kernel, by decide +kernel⟩
/-- the two classes of refusals, as the law holds them against others -/
structure TwoU (K : PySem.W.Frag) (CL CU : Addr) : Prop where
  xl : XfC K CL
  no : PySem.W.findIn K (.ref CL) "fault" = some none
  eu : ExcC K CU
  ku : PySem.W.kitOne K (.ref CU) (.type "ValueError") = some true
  tl : PySem.W.exmOne K (.ref CL) (.ref CL) = some true
  tu : PySem.W.exmOne K (.ref CU) (.ref CU) = some true
  tx : PySem.W.exmOne K (.ref CL) (.ref CU) = some false
/-- refused: what is told of it -/
def ToldF (K : PySem.W.Frag) (f : PyData) (H : Hp) (Q : VK) : Prop := ∀ H' t z, Evl.Ex H H' → H' t = some (.tup [.str "fault", .ref z]) → Dp K H' (.ref z) f → Q (.ref t) H'
def ToldU (H : Hp) (Q : VK) : Prop := ∀ H' t, Evl.Ex H H' → H' t = some (.tup [.str "unlike", .bl true]) → Q (.ref t) H'
def spRefd (K : PySem.W.Frag) : Sp := fun vs H Q _ => ∃ v1 v2 : V, vs = [v1, v2] ∧
  ((∃ d f, Th K H v1 d ∧ BadD d f ∧ ToldF K f H Q) ∨ ∃ l, LockAt K H v1 l ∧ LockOk l ∧ ((∃ d f, Th K H v2 d ∧ BadD d f ∧ ToldF K f H Q) ∨ ∃ s, LockAt K H v2 s ∧ LockOk s ∧ manysOf l ≠ manysOf s ∧ ToldU H Q))
section
variable {P : Program} {w : World} {K : PySem.W.Frag} {mg : Str → Option Value} {base : Heap}
theorem ok_refd (D : Pr K mg) (N : NlC K mg) (NU : XcK K mg "Unlike") (TU : TwoU K N.C NU.C) {f : Addr} {fd : FuncData} (F : Fun K "_law_refused" "_law_refused" sRefd f fd) (ve : mg "ValueError" = none) : FnOk P w K mg base CX0 9 f fd ["_law_lock_here", "_law_second"] (spRefd K) := by
  have GW : FnOk P w K mg base (L2.CX P w) 8 D.f26 D.d26 ["lock", "second"] (spWithin K N.C NU.C) := ok_within D N NU
  refine F.ok scRefd (fun vs H Q E h => ?_) (fun cdv A outer s H vs Q E hr h => ?_)
  · obtain ⟨v1, v2, rfl, _⟩ := h; rfl
  · obtain ⟨v1, v2, rfl, h⟩ := h
    refine ⟨_, pss_one (ps_try_each (X := (cxOf CX0 P w K mg base nRefd "_law_refused" (defScope sRefd) f cdv A outer s H E).nox)
      (cls := [(.ref NU.C, 2, _), (.ref N.C, 2, _)]) (out := fun _ _ _ _ => False)
      (tb := fun W => tRet fun σ H Q => ∃ Ech : XK, (∀ cls d σ' H', Ech cls d H' → W cls d σ' H') ∧ tCall (spWithin K N.C NU.C) [] Ech (tCons (tVar 0) (tCons (tVar 1) tNil)) σ H Q)
      rfl rfl scRefd.nd LamX.takes0 (fun W pn xe tk _ => ?_)
      (.cons (n := "e") ⟨rfl, by decide, .inl NU.g⟩ rfl rfl (fun p o kl dd pn z fs => pss_one (ps_ret (pe_tup (pa_cons pe_str (pa_cons (pe_callB (call_isO z fs) (by rfl) D.B.isi boot_isinstance (pa_cons (pv 2) (pa_cons (pe_bltn (v := .ty "ValueError") (by rfl) ve boot_ValueError rfl) pa_nil))) pa_nil)))))
      (.cons (n := "e") ⟨rfl, by decide, .inl N.g⟩ rfl rfl (fun p o kl dd pn z fs => pss_one (ps_ret (pe_tup (pa_cons pe_str (pa_cons (pe_xf TU.xl TU.no z fs (pv 2)) pa_nil))))) .nil))), ?_⟩
    · refine pss_one (ps_ret ⟨fun pins s' σ H' Q' I h' => ?_⟩)
      obtain ⟨Ech, hW, h2⟩ := h'
      exact (pe_call GW hr (by rfl) D.g26 D.F26.kp D.b26 .nil (passes_call (W := W) tk hW) (pa_cons (pv 0) (pa_cons (pv 1) pa_nil))).run pins s' σ H' Q' I h2
    · refine ⟨fun cls d H' => (cls = .ref N.C ∧ ∃ (dd z : Addr), d = some dd ∧ H' dd = some (.xd [("fault", .ref z)]) ∧ ∀ t, H' t = none → Q (.ref t) (upd H' t (.tup [.str "fault", .ref z]))) ∨ (cls = .ref NU.C ∧ d = none ∧ ∀ t, H' t = none → Q (.ref t) (upd H' t (.tup [.str "unlike", .bl true]))), fun cls d σ' H' hx => ?_, ?_⟩
      · rcases hx with ⟨rfl, dd, z, rfl, hdd, hq⟩ | ⟨rfl, rfl, hq⟩
        · refine ⟨false, TU.tx, fun z => absurd z Bool.false_ne_true, fun _ => ⟨true, TU.tl, fun _ p np ln => ?_, fun z => absurd z (Ne.symm Bool.false_ne_true)⟩⟩
          obtain ⟨x0, x1, x2, rfl⟩ : ∃ x0 x1 x2, σ' = [x0, x1, x2] := by
            match σ', ln with
            | [x0, x1, x2], _ => exact ⟨x0, x1, x2, rfl⟩
          refine ⟨.ref p, rfl, rfl, rfl, dd, _, .ref z, rfl, hdd, rfl, ?_⟩
          exact ⟨(by show 2 ≤ sizeLine; decide), fun t nt => hq t nt⟩
        · refine ⟨true, TU.tu, fun _ p np ln => ?_, fun z => absurd z (Ne.symm Bool.false_ne_true)⟩
          obtain ⟨x0, x1, x2, rfl⟩ : ∃ x0 x1 x2, σ' = [x0, x1, x2] := by
            match σ', ln with
            | [x0, x1, x2], _ => exact ⟨x0, x1, x2, rfl⟩
          refine ⟨.ref p, rfl, NU.C, .ty "ValueError", .type "ValueError", true, rfl, rfl, TU.eu, rfl, fun u e => e, TU.ku, ?_⟩
          exact ⟨(by show 2 ≤ sizeLine; decide), fun t nt => hq t nt⟩
      · have raise : ∀ {f}, ToldF K f H Q → RaiseF K N.C f H (fun cls d H' => (cls = .ref N.C ∧ ∃ (dd z : Addr), d = some dd ∧ H' dd = some (.xd [("fault", .ref z)]) ∧ ∀ t, H' t = none → Q (.ref t) (upd H' t (.tup [.str "fault", .ref z]))) ∨ (cls = .ref NU.C ∧ d = none ∧ ∀ t, H' t = none → Q (.ref t) (upd H' t (.tup [.str "unlike", .bl true])))) := by
          intro f tf H' e z ex ne he dz
          exact .inl ⟨rfl, e, z, rfl, he, fun t nt => tf _ t z (ex.trans (Evl.Ex.new nt)) upd_same (dpEx (Evl.Ex.new nt) dz)⟩
        refine ⟨v1, rfl, v2, rfl, v1, v2, rfl, ?_⟩
        rcases h with ⟨d, f, hd, hb, tf⟩ | ⟨l, hl, ok, h⟩
        · exact .inl ⟨d, f, hd, hb, raise tf⟩
        refine .inr ⟨l, hl, ok, ?_⟩
        rcases h with ⟨d, f, hd, hb, tf⟩ | ⟨s, hs, ok2, ne, tu⟩
        · exact .inl ⟨d, f, hd, hb, raise tf⟩
        refine .inr ⟨s, hs, ok2, fun _ H' ex => .inr ⟨rfl, rfl, fun t nt => tu _ t (ex.trans (Evl.Ex.new nt)) upd_same⟩, fun e => absurd e ne⟩
end
end Wb

set_option Elab.async false
set_option linter.all false
set_option maxRecDepth 100000
set_option maxHeartbeats 8000000
set_option pp.maxSteps 900
set_option pp.deepTerms false
namespace Wb
open PySem PySem.Spec PyProof.Rows L2
abbrev sLaw : Stmt := topS 43
abbrev nLaw : List Str := ["_law_script", "_law_pen_here", "_law_bout", "_law_lock_here", "_law_second", "_law_one", "_law_other", "_law_due", "_law_kept", "_law_spot", "_law_wide", "_law_k"]
theorem scLaw : FnScope nLaw ["_law_script"] (defScope sLaw) := ⟨rfl, rfl, rfl, by decide +kernel, rfl, by decide +kernel, by decide +kernel⟩
structure Ld (K : PySem.W.Frag) (mg : Str → Option Value) where
  f28 : Addr
  d28 : FuncData
  F28 : Fun K "_law_pen" "_law_pen" sPen f28 d28
  b28 : Binds K d28 ["_law_script"] []
  g28 : mg "_law_pen" = some (.ref f28)
  f29 : Addr
  d29 : FuncData
  F29 : Fun K "_law_draw" "_law_draw" sDraw f29 d29
  b29 : Binds K d29 ["_law_pen_here", "_law_many_here"] []
  g29 : mg "_law_draw" = some (.ref f29)
  f30 : Addr
  d30 : FuncData
  F30 : Fun K "_law_pick" "_law_pick" sPick f30 d30
  b30 : Binds K d30 ["_law_pen_here", "_law_bag"] []
  g30 : mg "_law_pick" = some (.ref f30)
  f31 : Addr
  d31 : FuncData
  F31 : Fun K "_law_shuffled" "_law_shuffled" sShuf f31 d31
  b31 : Binds K d31 ["_law_pen_here", "_law_bag"] []
  g31 : mg "_law_shuffled" = some (.ref f31)
  f32 : Addr
  d32 : FuncData
  F32 : Fun K "_law_price" "_law_price" sPrc f32 d32
  b32 : Binds K d32 ["_law_pen_here", "_law_dear"] []
  g32 : mg "_law_price" = some (.ref f32)
  f33 : Addr
  d33 : FuncData
  F33 : Fun K "_law_bases" "_law_bases" sBases f33 d33
  b33 : Binds K d33 ["_law_pen_here", "_law_counts", "_law_most"] []
  g33 : mg "_law_bases" = some (.ref f33)
  f34 : Addr
  d34 : FuncData
  F34 : Fun K "_law_cuts" "_law_cuts" sCuts f34 d34
  b34 : Binds K d34 ["_law_words", "_law_many_here"] []
  g34 : mg "_law_cuts" = some (.ref f34)
  f35 : Addr
  d35 : FuncData
  F35 : Fun K "_law_many" "_law_many" sMany f35 d35
  b35 : Binds K d35 ["_law_pen_here", "_law_low"] []
  g35 : mg "_law_many" = some (.ref f35)
  f36 : Addr
  d36 : FuncData
  F36 : Fun K "_law_gaps" "_law_gaps" sGaps f36 d36
  b36 : Binds K d36 ["_law_pen_here", "_law_count", "_law_words", "_law_dear"] []
  g36 : mg "_law_gaps" = some (.ref f36)
  f37 : Addr
  d37 : FuncData
  F37 : Fun K "_law_lock" "_law_lock" sLock f37 d37
  b37 : Binds K d37 ["_law_pen_here", "_law_many_here", "_law_top", "_law_dear"] []
  g37 : mg "_law_lock" = some (.ref f37)
  f38 : Addr
  d38 : FuncData
  F38 : Fun K "_law_ways_of" "_law_ways_of" sLWaysOf f38 d38
  b38 : Binds K d38 ["_law_lock_here"] []
  g38 : mg "_law_ways_of" = some (.ref f38)
  f39 : Addr
  d39 : FuncData
  F39 : Fun K "_law_is_due" "_law_is_due" sLDue f39 d39
  b39 : Binds K d39 ["_law_lock_here", "_law_second"] []
  g39 : mg "_law_is_due" = some (.ref f39)
  f40 : Addr
  d40 : FuncData
  F40 : Fun K "_law_otherwise" "_law_otherwise" sLOther f40 d40
  b40 : Binds K d40 ["_law_pen_here", "_law_lock_here"] []
  g40 : mg "_law_otherwise" = some (.ref f40)
  f41 : Addr
  d41 : FuncData
  F41 : Fun K "_law_of_counts" "_law_of_counts" sLOfC f41 d41
  b41 : Binds K d41 ["_law_pen_here", "_law_lock_here"] []
  g41 : mg "_law_of_counts" = some (.ref f41)
  f42 : Addr
  d42 : FuncData
  F42 : Fun K "_law_refused" "_law_refused" sRefd f42 d42
  b42 : Binds K d42 ["_law_lock_here", "_law_second"] []
  g42 : mg "_law_refused" = some (.ref f42)
  ve : mg "ValueError" = none
  mn : mg "min" = none
  mx : mg "max" = none
def spLaw (K : PySem.W.Frag) : Sp := fun vs H Q _ => ∃ (a : Addr) (ns : List Int), vs = [.ref a] ∧ SqL K H a (ns.map V.int) ∧ ∀ H', Q (.bl true) H'
/-! ### repr of a truth -/
theorem call_repr_bool {X : Cx} (hc : X.calm = true) : CallR X (.builtin "repr") (fun xs H Q => ∃ b : Bool, xs = [.bl b] ∧ Q (.str (PyData.bool b).shown) H) := by
  intro pins s σ H xs us Q I r h
  obtain ⟨b, rfl, q⟩ := h
  obtain ⟨u, rfl, ru⟩ := r.one
  cases ru
  have fin : ∀ (tk : Nat) (u : Tok), EP X pins σ Q (.str (PyData.bool b).shown u) { s with toks := tk } := fun tk u => ⟨.str (PyData.bool b).shown, H, I.kept (t' := tk) (fun _ _ e => e), ⟨u, rfl⟩, q⟩
  exact P.repr_of_bool (by have := fin (s.toks + 1) s.toks; cases b <;> simpa [PyData.shown] using this)
/-! ### locks of other counts of places -/
def bareL (l : Lock) : Lock := l.map fun b => ⟨b.many, []⟩
theorem bolt_bare {ns : List Int} {b : Bolt} (h : 2 ≤ b.many ∧ b.many ≤ 4) (n : b.gaps = []) : BoltOk ns b :=
  ⟨h.1, h.2, fun g hg => (by rw [n] at hg; exact nomatch hg), (by rw [n]; exact .nil), (by rw [n]; exact Nat.zero_le _)⟩
theorem app_ok {l m : Lock} (ok : LockOk l) (n : (l ++ m).length ≤ 60) (h : ∀ b ∈ m, (2 ≤ b.many ∧ b.many ≤ 4) ∧ b.gaps = []) : LockOk (l ++ m) := by
  have l1 := ok.n0
  refine ⟨by rw [List.length_append]; omega, n, fun k b hb => ?_, fun k ws hk nd hw => ?_⟩
  · by_cases c : k < l.length
    · rw [List.getElem?_append_left c] at hb
      rw [List.take_append_of_le_length (Nat.le_of_lt c)]
      exact ok.bolts k b hb
    · rw [List.getElem?_append_right (by omega)] at hb
      obtain ⟨h1, h2⟩ := h b (List.mem_of_getElem? hb)
      exact bolt_bare h1 h2
  · have low : ∀ u ∈ ws, cutsFrom l k u := fun u hu => by
      obtain ⟨j, b, g, y, hj, hb, hg, hy, e⟩ := hw u hu
      by_cases c : j < l.length
      · rw [List.getElem?_append_left c] at hb
        exact ⟨j, b, g, y, hj, hb, hg, hy, e⟩
      · rw [List.getElem?_append_right (by omega)] at hb
        rw [(h b (List.mem_of_getElem? hb)).2] at hg
        cases hg
    by_cases c : k < l.length
    · exact ok.words k ws c nd low
    · cases ws with
      | nil => exact Nat.zero_le _
      | cons u ws =>
        obtain ⟨j, b, _, _, hj, hb, _⟩ := low u List.mem_cons_self
        have := (List.getElem?_eq_some_iff.mp hb).1
        omega
theorem bare_ok {l : Lock} (n0 : 1 ≤ l.length) (n1 : l.length ≤ 60) (h : ∀ b ∈ l, (2 ≤ b.many ∧ b.many ≤ 4) ∧ b.gaps = []) : LockOk l := by
  refine ⟨n0, n1, fun k b hb => ?_, fun k ws hk nd hw => ?_⟩
  · obtain ⟨h1, h2⟩ := h b (List.mem_of_getElem? hb)
    exact bolt_bare h1 h2
  · cases ws with
    | nil => exact Nat.zero_le _
    | cons u ws =>
      obtain ⟨j, b, g, _, _, hb, hg, _⟩ := hw u List.mem_cons_self
      rw [(h b (List.mem_of_getElem? hb)).2] at hg
      cases hg
def wideL (l : Lock) (k : Nat) (m : Int) : Lock := (l.take k ++ [⟨m, []⟩]) ++ l.drop (k + 1)
theorem wide_len {l : Lock} {k : Nat} {m : Int} (h : k < l.length) : (wideL l k m).length = l.length := by
  unfold wideL
  rw [List.length_append, List.length_append, List.length_take, List.length_drop, List.length_singleton]
  omega
theorem wide_mem {l : Lock} {k : Nat} {m : Int} {b : Bolt} (h : b ∈ wideL l k m) : b ∈ l ∨ b.many = m := by
  unfold wideL at h
  rcases List.mem_append.mp h with h | h
  · rcases List.mem_append.mp h with h | h
    · exact .inl (List.mem_of_mem_take h)
    · rw [List.mem_singleton.mp h]; exact .inr rfl
  · exact .inl (List.mem_of_mem_drop h)
theorem wide_at {l : Lock} {k : Nat} {m : Int} (h : k < l.length) : (wideL l k m)[k]? = some ⟨m, []⟩ := by
  unfold wideL
  have e : (l.take k).length = k := by rw [List.length_take]; omega
  rw [List.getElem?_append_left (by rw [List.length_append, e]; exact Nat.lt_succ_self _), List.getElem?_append_right (by omega), e, Nat.sub_self]
  rfl
theorem manys_bare (l : Lock) : manysOf (bareL l) = manysOf l := by
  unfold manysOf bareL
  rw [List.map_map]
  rfl
theorem wide_ne {l : Lock} {k : Nat} {m : Int} {b : Bolt} (hb : l[k]? = some b) (h : b.many ≠ m) : manysOf l ≠ manysOf (bareL (wideL l k m)) := by
  intro e
  have kl := (List.getElem?_eq_some_iff.mp hb).1
  have z := congrArg (fun xs => xs[k]?) e
  rw [manys_bare] at z
  unfold manysOf at z
  simp only [List.getElem?_map, hb, wide_at kl] at z
  exact h (Option.some.inj z)
theorem manys_len_ne {l m : Lock} (h : l.length ≠ m.length) : manysOf l ≠ manysOf m := fun e => h (by
  have := congrArg List.length e
  rwa [manys_cnt, manys_cnt] at this)
theorem cut_last1 (xs : List V) : cutV xs none (some (-1)) = xs.dropLast := by
  unfold cutV
  rw [HT.sIx_none]
  have e : HT.sIx xs.length xs.length (some (-1)) = xs.length - 1 := by
    show (if (-1 : Int) < 0 then ((-1 : Int) + (xs.length : Int)).toNat else min (-1 : Int).toNat xs.length) = _
    rw [if_pos (by decide)]
    omega
  rw [e, List.drop_zero, List.dropLast_eq_take, Nat.sub_zero]
theorem cut_last2 (xs : List V) (h : 1 ≤ xs.length) : cutV xs (some (-1)) none = xs.drop (xs.length - 1) := by
  unfold cutV
  rw [HT.sIx_none]
  have e : HT.sIx xs.length 0 (some (-1)) = xs.length - 1 := by
    show (if (-1 : Int) < 0 then ((-1 : Int) + (xs.length : Int)).toNat else min (-1 : Int).toNat xs.length) = _
    rw [if_pos (by decide)]
    omega
  rw [e, List.take_of_length_le]
  rw [List.length_drop]
  omega
theorem cut_both (xs : List V) (h : 1 ≤ xs.length) : cutV xs none (some (-1)) ++ cutV xs (some (-1)) none = xs := by
  rw [cut_last1, cut_last2 xs h, List.dropLast_eq_take, List.take_append_drop]
theorem dp_bare {K : PySem.W.Frag} {H : Hp} {t z : Addr} {m : Int} (ht : H t = some (.tup [.int m, .ref z])) (hz : H z = some (.tup [])) : BoltAt K H (.ref t) ⟨m, []⟩ := ⟨t, z, [], rfl, .inl (.inl ht), .inl (.inl hz), .nil⟩
end Wb

set_option Elab.async false
set_option linter.all false
set_option maxRecDepth 100000
set_option maxHeartbeats 16000000
set_option pp.maxSteps 900
set_option pp.deepTerms false
namespace Wb
open PySem PySem.Spec PyProof.Rows L2
section
variable {P : Program} {w : World} {K : PySem.W.Frag} {mg : Str → Option Value} {base : Heap}
theorem ok_law {f : Addr} {fd : FuncData} (F : Fun K "law" "law" sLaw f fd) (D : Pr K mg) (L : Ld K mg) (N : NlC K mg) (NU : XcK K mg "Unlike") (TU : TwoU K N.C NU.C) : FnG P w K mg base 10 f fd ["_law_script"] (spLaw K) := by
  have B := D.B
  have GW : FnOk P w K mg base (L2.CX P w) 8 D.f26 D.d26 ["lock", "second"] (spWithin K N.C NU.C) := ok_within D N NU
  have G28 : FnOk P w K mg base CX0 1 L.f28 L.d28 ["_law_script"] (spPen K) := ok_pen L.F28 B
  have G29 : FnOk P w K mg base CX0 1 L.f29 L.d29 ["_law_pen_here", "_law_many_here"] spDraw := ok_draw L.F29 B
  have G30 : FnOk P w K mg base CX0 2 L.f30 L.d30 ["_law_pen_here", "_law_bag"] (spPick K) := ok_pick L.F30 L.F29 L.b29 L.g29 B
  have G35 : FnOk P w K mg base CX0 2 L.f35 L.d35 ["_law_pen_here", "_law_low"] spMany := ok_many L.F35 L.F29 L.b29 L.g29 B
  have G37 : FnOk P w K mg base CX0 5 L.f37 L.d37 ["_law_pen_here", "_law_many_here", "_law_top", "_law_dear"] (spLock K) := ok_lock L.F37 L.F29 L.b29 L.g29 L.F30 L.b30 L.g30 L.F31 L.b31 L.g31 L.F32 L.b32 L.g32 L.F33 L.b33 L.g33 L.F34 L.b34 L.g34 L.F36 L.b36 L.g36 B
  have G39 : FnOk P w K mg base CX0 2 L.f39 L.d39 ["_law_lock_here", "_law_second"] (spDue K) := ok_due L.F39 L.F38 L.b38 L.g38 B
  have G40 : FnOk P w K mg base CX0 3 L.f40 L.d40 ["_law_pen_here", "_law_lock_here"] (spOther K) := ok_other L.F40 L.F29 L.b29 L.g29 L.F30 L.b30 L.g30 B L.mn L.mx
  have G41 : FnOk P w K mg base CX0 5 L.f41 L.d41 ["_law_pen_here", "_law_lock_here"] (spOfC K) := ok_ofc L.F41 L.F29 L.b29 L.g29 L.F30 L.b30 L.g30 L.F31 L.b31 L.g31 L.F32 L.b32 L.g32 L.F33 L.b33 L.g33 L.F34 L.b34 L.g34 L.F36 L.b36 L.g36 B
  have G42 : FnOk P w K mg base CX0 9 L.f42 L.d42 ["_law_lock_here", "_law_second"] (spRefd K) := ok_refd D N NU TU L.F42 L.ve
  refine fnG_ok F scLaw (fun vs H Q E h => ?_) (fun cdv A outer s H vs Q E hgd hr h => ?_)
  · obtain ⟨a, ns, rfl, _⟩ := h; rfl
  · obtain ⟨a, ns, rfl, hS, q⟩ := h
    have hr1 : Room 1 _ := hr.mono (by decide)
    have hr2 : Room 2 _ := hr.mono (by decide)
    have hr3 : Room 3 _ := hr.mono (by decide)
    have hr5 : Room 5 _ := hr.mono (by decide)
    have hr8 : Room 8 _ := hr.mono (by decide)
    have hg' : (A.deeper (envOfC "law" (defScope sLaw) s.heap.objs.size f cdv)).guards = some [] := hgd
    refine ⟨_, (pss_cons (ps_set (i := 1) scLaw.nd rfl (.inl rfl) (pe_call G28 hr1 (by rfl) L.g28 L.F28.kp L.b28 .nil pass0 (pa_cons (pv 0) pa_nil)))
 (pss_cons (ps_for PassesOwn.never rfl (pi_range1 (by rfl) B.range (pa_cons pe_int pa_nil)) (pg_name (i := 2) scLaw.nd rfl (.inl rfl))
 (Evl.pss_cut (ps_set (i := 3) scLaw.nd rfl (.inl rfl) (pe_call G37 hr5 (by rfl) L.g37 L.F37.kp L.b37 .nil pass0 (pa_cons (pv 1) (pa_cons (pe_call G35 hr2 (by rfl) L.g35 L.F35.kp L.b35 .nil pass0 (pa_cons (pv 1) (pa_cons pe_int pa_nil))) (pa_cons pe_int (pa_cons (pe_call G30 hr2 (by rfl) L.g30 L.F30.kp L.b30 .nil pass0 (pa_cons (pv 1) (pa_cons (pe_lst (pa_cons pe_int (pa_cons (pe_op op_pow pe_int pe_int) pa_nil))) pa_nil))) pa_nil))))))
 (Evl.pss_cut (ps_set (i := 4) scLaw.nd rfl (.inl rfl) (pe_call G30 hr2 (by rfl) L.g30 L.F30.kp L.b30 .nil pass0 (pa_cons (pv 1) (pa_cons (pe_lst (pa_cons (pe_call G40 hr3 (by rfl) L.g40 L.F40.kp L.b40 .nil pass0 (pa_cons (pv 1) (pa_cons (pv 3) pa_nil))) (pa_cons (pe_call G40 hr3 (by rfl) L.g40 L.F40.kp L.b40 .nil pass0 (pa_cons (pv 1) (pa_cons (pv 3) pa_nil))) (pa_cons (pv 3) (pa_cons (pe_call G41 hr5 (by rfl) L.g41 L.F41.kp L.b41 .nil pass0 (pa_cons (pv 1) (pa_cons (pv 3) pa_nil))) pa_nil))))) pa_nil))))
 (pss_cons (ps_for PassesOwn.never rfl (pi_list (pe_lst (pa_cons (pe_tup (pa_cons (pv 3) (pa_cons (pv 4) pa_nil))) (pa_cons (pe_tup (pa_cons (pv 4) (pa_cons (pv 3) pa_nil))) (pa_cons (pe_tup (pa_cons (pv 3) (pa_cons (pv 3) pa_nil))) pa_nil))))) (pg_tup rfl (pgs_cons (pg_name (i := 5) scLaw.nd rfl (.inl rfl)) (pgs_cons (pg_name (i := 6) scLaw.nd rfl (.inl rfl)) pgs_nil)))
 (Evl.pss_cut (ps_par (by rfl) scLaw.nd (i := 7) (j := 8) rfl rfl (by decide) rfl rfl (pa_cons (pe_call G39 hr2 (by rfl) L.g39 L.F39.kp L.b39 .nil pass0 (pa_cons (pv 5) (pa_cons (pv 6) pa_nil))) (pa_cons (pe_callB (call_repr_data hr.units hg') (by rfl) B.repr boot_repr (pa_cons (pe_tup (pa_cons (pv 5) (pa_cons (pv 6) pa_nil))) pa_nil)) pa_nil)) (by rfl))
 (pss_one (ps_if (PW.pt (pw_or (pt_cmpR op_ne (pe_callB (call_repr_bool rfl) (by rfl) B.repr boot_repr (pa_cons (pe_call GW hr8 (by rfl) D.g26 D.F26.kp D.b26 .nil (passes_call (W := fun _ _ _ _ => False) LamX.takes0 (fun _ _ _ _ z => z)) (pa_cons (pv 5) (pa_cons (pv 6) pa_nil))) pa_nil)) (pe_callB (call_repr_bool rfl) (by rfl) B.repr boot_repr (pa_cons (pv 7) pa_nil)) (nomark _)) (pw_or1 (pt_cmpR op_ne (pe_callB (call_repr_data hr.units hg') (by rfl) B.repr boot_repr (pa_cons (pe_tup (pa_cons (pv 5) (pa_cons (pv 6) pa_nil))) pa_nil)) (pv 8) (nomark _)))))
 (pss_one (ps_ret pe_bl))
 pss_nil))))
 (Evl.pss_cut (ps_set (i := 9) scLaw.nd rfl (.inl rfl) (pe_call G29 hr1 (by rfl) L.g29 L.F29.kp L.b29 .nil pass0 (pa_cons (pv 1) (pa_cons (pe_callB call_len_seq (by rfl) B.len PySem.boot_len (pa_cons (pv 3) pa_nil)) pa_nil))))
 (Evl.pss_cut (ps_set (i := 10) scLaw.nd rfl (.inr rfl) (pe_op (r := rCatA K) op_catA (pe_op (r := rCatA K) op_catA (pe_slice (r := rSlA K) sl_tupA (pv 3) po_none (po_some (pv 9))) (pe_tup (pa_cons (pe_tup (pa_cons (pe_op op_add pe_int (pe_op op_mod (pe_op op_sub (pe_ix (r := rIxT K) ix_tup (pe_ix (r := rIxT K) ix_tup (pv 3) (pv 9) (fun _ _ => rfl)) pe_int (fun _ _ => rfl)) pe_int) pe_int)) (pa_cons (pe_tup pa_nil) pa_nil))) pa_nil))) (pe_slice (r := rSlA K) sl_tupA (pv 3) (po_some (pe_op op_add (pv 9) pe_int)) po_none)))
 (Evl.pss_cut (ps_set (i := 10) scLaw.nd rfl (.inr rfl) (pe_callTy (r := rTupK K) call_tupK (by rfl) B.tuple PyProof.Rows.boot_tuple (pa_cons (pe_lc (own := [("_law_k", 11)]) (te := tTup (tCons (tOp (rIxT K) (tOp (rIxT K) (tVar 10) (tVar 11)) (tC (V.int 0))) (tCons (tTup tNil) tNil))) (g := gName 11) rfl scLaw.nd (pi_range1 (by rfl) B.range (pa_cons (pe_callB call_len_seq (by rfl) B.len PySem.boot_len (pa_cons (pv 10) pa_nil)) pa_nil)) (blkOk_by (own := [("_law_k", 11)]) (N := nLaw) (sc := defScope sLaw) (by decide +kernel)) (fun _ _ _ _ _ => (pg_name (i := 11) scLaw.nd rfl (.inl rfl))) (fun _ _ _ _ _ => pts_nil) (fun _ _ _ _ _ => (pe_tup (pa_cons (pe_ix (r := rIxT K) ix_tup (pe_ix (r := rIxT K) ix_tup (pv 10) (pv 11) (fun _ _ => rfl)) pe_int (fun _ _ => rfl)) (pa_cons (pe_tup pa_nil) pa_nil))))) pa_nil)))
 (pss_cons (ps_for PassesOwn.never rfl (pi_list (pe_lst (pa_cons (pv 10) (pa_cons (pe_op (r := rCatA K) op_catA (pe_op (r := rCatA K) op_catA (pe_slice (r := rSlA K) sl_tupA (pv 3) po_none (po_some (pe_un un_neg pe_int))) (pe_slice (r := rSlA K) sl_tupA (pv 3) (po_some (pe_un un_neg pe_int)) po_none)) (pe_tup (pa_cons (pe_tup (pa_cons pe_int (pa_cons (pe_tup pa_nil) pa_nil))) pa_nil))) (pa_cons (pe_op (r := rCatA K) op_catA (pe_slice (r := rSlA K) sl_tupA (pv 10) po_none (po_some (pe_un un_neg pe_int))) (pe_tup (pa_cons (pe_tup (pa_cons pe_int (pa_cons (pe_tup pa_nil) pa_nil))) (pa_cons (pe_tup (pa_cons pe_int (pa_cons (pe_tup pa_nil) pa_nil))) pa_nil)))) pa_nil))))) (pg_name (i := 6) scLaw.nd rfl (.inl rfl))
 (pss_one (ps_if (PW.pt (pw_and (pt_cmpR op_le (pe_callB call_len_seq (by rfl) B.len PySem.boot_len (pa_cons (pv 6) pa_nil)) pe_int (nomark _)) (pw_and1 (pt_cmpR (op_neD hr.units) (pe_call G42 hr (by rfl) L.g42 L.F42.kp L.b42 .nil pass0 (pa_cons (pv 3) (pa_cons (pv 6) pa_nil))) (pe_tup (pa_cons pe_str (pa_cons pe_bl pa_nil))) (nomark _)))))
 (pss_one (ps_ret pe_bl))
 pss_nil)))
 (Evl.pss_cut (ps_if (pt_cmpR (op_neD hr.units) (pe_call G42 hr (by rfl) L.g42 L.F42.kp L.b42 .nil pass0 (pa_cons (pv 10) (pa_cons (pe_tup (pa_cons (pe_tup (pa_cons pe_int (pa_cons (pe_tup (pa_cons (pe_tup (pa_cons pe_int (pa_cons pe_int (pa_cons pe_int (pa_cons (pe_tup pa_nil) pa_nil))))) pa_nil)) pa_nil))) pa_nil)) pa_nil))) (pe_tup (pa_cons pe_str (pa_cons (pe_tup (pa_cons pe_str (pa_cons pe_int pa_nil))) pa_nil))) (nomark _))
 (pss_one (ps_ret pe_bl))
 pss_nil)
 (pss_one (ps_if (PW.pt (pw_or (pt_cmpR (op_neD hr.units) (pe_call G42 hr (by rfl) L.g42 L.F42.kp L.b42 .nil pass0 (pa_cons (pe_tup pa_nil) (pa_cons pe_int pa_nil))) (pe_tup (pa_cons pe_str (pa_cons (pe_tup (pa_cons pe_str pa_nil)) pa_nil))) (nomark _)) (pw_or1 (pt_cmpR (op_neD hr.units) (pe_call G42 hr (by rfl) L.g42 L.F42.kp L.b42 .nil pass0 (pa_cons (pe_tup (pa_cons (pe_tup (pa_cons pe_int (pa_cons (pe_tup pa_nil) pa_nil))) pa_nil)) (pa_cons (pe_tup pa_nil) pa_nil))) (pe_tup (pa_cons pe_str (pa_cons (pe_tup (pa_cons pe_str (pa_cons pe_int pa_nil))) pa_nil))) (nomark _)))))
 (pss_one (ps_ret pe_bl))
 pss_nil)))))))))))
 (pss_one (ps_ret pe_bl)))), ?_⟩
    have p6 : (0 : Int) ≤ 6 ∧ (6 : Int) ≤ 1000000 ∧ (10 : Int).natAbs < 2 ^ 64 := by decide
    refine ⟨.ref a, rfl, a, ns, rfl, hS, fun H1 p e1 np hpc => ?_⟩
    obtain ⟨c, hp1⟩ := hpc
    refine ⟨5, rfl, by decide, by decide, ?_⟩
    refine for_range (lo := 0) (n := 5) (fun t σ H' => ∃ y2 y3 y4 y5 y6 y7 y8 y9 y10 y11 : Option V, σ = [some (.ref a), some (.ref p), y2, y3, y4, y5, y6, y7, y8, y9, y10, y11] ∧ PenAt H' p c (400000 * (t : Nat)))
      ⟨none, none, none, none, none, none, none, none, none, none, rfl, by simpa using hp1⟩ ?_ ?_
    · rintro t σ H2 ht ⟨y2, y3, y4, y5, y6, y7, y8, y9, y10, y11, rfl, hp2⟩
      refine ⟨fun σ' H' => ∃ (la : Addr) (bs : List V) (l : Lock), σ' = [some (.ref a), some (.ref p), some (.int (0 + (t : Nat))), some (.ref la), y4, y5, y6, y7, y8, y9, y10, y11] ∧ PenAt H' p c (400000 * (t : Nat) + 160010) ∧ H' la = some (.tup bs) ∧ Paired (BoltS K H') bs l ∧ LockOk l, ?_, ?_⟩
      · refine ⟨.ref p, rfl, .ref p, rfl, p, c, _, rfl, hp2, by omega, fun m H3 m1 m60 x3 hp3 => ?_⟩
        refine ⟨.ref p, rfl, 10, 6, rfl, rfl, p6, (by show 2 ≤ sizeLine; decide), fun B0 nB => ?_⟩
        have nBp := hp3.new1 nB
        have e4 := Evl.Ex.new (o := .lst [.int 9, .int (10 ^ Int.toNat 6)]) nB
        have gB : (upd H3 B0 (.lst [.int 9, .int (10 ^ Int.toNat 6)])) B0 = some (.lst [.int 9, .int (10 ^ Int.toNat 6)]) := upd_same
        have hp4 := hp3.ex e4
        generalize upd H3 B0 (.lst [.int 9, .int (10 ^ Int.toNat 6)]) = H4 at e4 gB hp4
        refine ⟨p, c, B0, _, _, rfl, hp4, by omega, .inl (.inl gB), nBp, (by simp), (by show 2 ≤ 1000000; decide), fun x H5 hx x5 hp5 => ?_⟩
        obtain ⟨dear, rfl, d1, d2⟩ : ∃ dear, x = .int dear ∧ 1 ≤ dear ∧ dear ≤ 1000000 := by
          simp only [List.mem_cons, List.not_mem_nil, or_false] at hx
          rcases hx with rfl | rfl
          · exact ⟨_, rfl, by decide, by decide⟩
          · exact ⟨_, rfl, by decide, by decide⟩
        refine ⟨p, c, m, dear, _, rfl, hp5, by omega, m1, m60, d1, d2, fun H6 v l x6 hp6 hL ok hl => ?_⟩
        obtain ⟨la, bs, rfl, h1, h2⟩ := hL
        exact ⟨la, bs, l, rfl, hp6.mono (by omega), h1, h2, ok⟩
      rintro _ H3 ⟨la, bs, l, rfl, hp3, hla, hbs, ok⟩
      have hL3 : LockS K H3 (.ref la) l := ⟨la, bs, rfl, hla, hbs⟩
      have l60 := ok.n1
      have l1 := ok.n0
      have bl : bs.length = l.length := Paired.len hbs
      refine ⟨fun σ' H' => ∃ (v2 : V) (l2 : Lock), σ' = [some (.ref a), some (.ref p), some (.int (0 + (t : Nat))), some (.ref la), some v2, y5, y6, y7, y8, y9, y10, y11] ∧ Exx p H3 H' ∧ PenAt H' p c (400000 * (t : Nat) + 305000) ∧ LockS K H' v2 l2 ∧ LockOk l2 ∧ manysOf l2 = manysOf l, ?_, ?_⟩
      · refine ⟨.ref p, rfl, .ref p, rfl, .ref la, rfl, p, c, _, .ref la, l, rfl, hp3, by omega, hL3, ok, fun H4 v4 l4 x4 hp4 hL4 ok4 m4 => ?_⟩
        have hL34 := hL3.mono (hp3.tx (K := K) x4)
        refine ⟨.ref p, rfl, .ref la, rfl, p, c, _, .ref la, l, rfl, hp4, by omega, hL34, ok, fun H5 v5 l5 x5 hp5 hL5 ok5 m5 => ?_⟩
        have hL35 := hL34.mono (hp4.tx (K := K) x5)
        have hL45 := hL4.mono (hp4.tx (K := K) x5)
        refine ⟨.ref la, rfl, .ref p, rfl, .ref la, rfl, p, c, _, .ref la, l, rfl, hp5, by omega, hL35, ok, fun H6 v6 l6 x6 hp6 hL6 ok6 m6 => ?_⟩
        have tx56 := hp5.tx (K := K) x6
        refine ⟨(by show 4 ≤ sizeLine; decide), fun B0 nB => ?_⟩
        have nBp := hp6.new1 nB
        have e7 := Evl.Ex.new (o := .lst [v4, v5, .ref la, v6]) nB
        have gB : (upd H6 B0 (.lst [v4, v5, .ref la, v6])) B0 = some (.lst [v4, v5, .ref la, v6]) := upd_same
        have hp7 := hp6.ex e7
        generalize upd H6 B0 (.lst [v4, v5, .ref la, v6]) = H7 at e7 gB hp7
        refine ⟨p, c, B0, _, _, rfl, hp7, by omega, .inl (.inl gB), nBp, (by simp), (by show 4 ≤ 1000000; decide), fun x H8 hx x8 hp8 => ?_⟩
        have tx58 : TX K H5 H8 := (tx56.trans (TX.ex e7)).trans (hp7.tx x8)
        have tx68 : TX K H6 H8 := (TX.ex e7).trans (hp7.tx x8)
        have X38 : Exx p H3 H8 := x4.trans (x5.trans (x6.trans ((Exx.ex e7).trans x8)))
        simp only [List.mem_cons, List.not_mem_nil, or_false] at hx
        rcases hx with rfl | rfl | rfl | rfl
        · exact ⟨_, l4, rfl, X38, hp8.mono (by omega), hL45.mono tx58, ok4, m4⟩
        · exact ⟨_, l5, rfl, X38, hp8.mono (by omega), hL5.mono tx58, ok5, m5⟩
        · exact ⟨_, l, rfl, X38, hp8.mono (by omega), hL35.mono tx58, ok, rfl⟩
        · exact ⟨_, l6, rfl, X38, hp8.mono (by omega), hL6.mono tx68, ok6, m6⟩
      rintro _ H4 ⟨v2, l2, rfl, x4, hp4, hL2, ok2, m2⟩
      have hL4 := hL3.mono (hp3.tx (K := K) x4)
      -- pairs
      refine ⟨.ref la, rfl, v2, rfl, (by show 2 ≤ sizeLine; decide), fun t1 n1 => ?_⟩
      have e5 := Evl.Ex.new (o := .tup [.ref la, v2]) n1
      have g1 : (upd H4 t1 (.tup [.ref la, v2])) t1 = some (.tup [.ref la, v2]) := upd_same
      generalize upd H4 t1 (.tup [.ref la, v2]) = H5 at e5 g1
      refine ⟨v2, rfl, .ref la, rfl, (by show 2 ≤ sizeLine; decide), fun t2 n2 => ?_⟩
      have e6 := Evl.Ex.new (o := .tup [v2, .ref la]) n2
      have g2 : (upd H5 t2 (.tup [v2, .ref la])) t2 = some (.tup [v2, .ref la]) := upd_same
      generalize upd H5 t2 (.tup [v2, .ref la]) = H6 at e6 g2
      refine ⟨.ref la, rfl, .ref la, rfl, (by show 2 ≤ sizeLine; decide), fun t3 n3 => ?_⟩
      have e7 := Evl.Ex.new (o := .tup [.ref la, .ref la]) n3
      have g3 : (upd H6 t3 (.tup [.ref la, .ref la])) t3 = some (.tup [.ref la, .ref la]) := upd_same
      generalize upd H6 t3 (.tup [.ref la, .ref la]) = H7 at e7 g3
      refine ⟨(by show 3 ≤ sizeLine; decide), fun B0 nB => ?_⟩
      have e8 := Evl.Ex.new (o := .lst [.ref t1, .ref t2, .ref t3]) nB
      have gB : (upd H7 B0 (.lst [.ref t1, .ref t2, .ref t3])) B0 = some (.lst [.ref t1, .ref t2, .ref t3]) := upd_same
      generalize upd H7 B0 (.lst [.ref t1, .ref t2, .ref t3]) = H8 at e8 gB
      have e48 : Evl.Ex H4 H8 := e5.trans (e6.trans (e7.trans e8))
      have hL8 : LockAt K H8 (.ref la) l := (hL4.mono (TX.ex e48)).at_
      have hL28 : LockAt K H8 v2 l2 := (hL2.mono (TX.ex e48)).at_
      have each : ∀ (i : Nat) (x : V), ([.ref t1, .ref t2, .ref t3] : List V)[i]? = some x → ∃ (tt : Addr) (u1 u2 : V) (k1 k2 : Lock), x = .ref tt ∧ H8 tt = some (.tup [u1, u2]) ∧ LockAt K H8 u1 k1 ∧ LockOk k1 ∧ LockAt K H8 u2 k2 ∧ LockOk k2 ∧ manysOf k1 = manysOf k2 := by
        intro i x hx
        match i, hx with
        | 0, hx =>
          cases hx
          exact ⟨t1, _, _, l, l2, rfl, (e6.trans (e7.trans e8)) _ _ g1, hL8, ok, hL28, ok2, m2.symm⟩
        | 1, hx =>
          cases hx
          exact ⟨t2, _, _, l2, l, rfl, (e7.trans e8) _ _ g2, hL28, ok2, hL8, ok, m2⟩
        | 2, hx =>
          cases hx
          exact ⟨t3, _, _, l, l, rfl, e8 _ _ g3, hL8, ok, hL8, ok, rfl⟩
        | i + 3, hx => simp at hx
      refine ⟨B0, rfl, ⟨_, .inl (.inl gB)⟩, ?_⟩
      refine for_it (walk_list (K := K) (a := B0) (xs := [.ref t1, .ref t2, .ref t3])) (fun i σ H' => ∃ y5 y6 y7 y8 : Option V, σ = [some (.ref a), some (.ref p), some (.int (0 + (t : Nat))), some (.ref la), some v2, y5, y6, y7, y8, y9, y10, y11] ∧ Evl.Ex H8 H') ⟨y5, y6, y7, y8, rfl, Evl.Ex.refl _⟩ ?_ ?_ ?_
      · rintro i σ H' _ ⟨_, _, _, _, _, e⟩
        exact .inl (.inl (e _ _ gB))
      · rintro i x σ H9 H9' hi ⟨y5, y6, y7, y8, rfl, e9⟩ ⟨rfl, hx⟩
        obtain ⟨tt, u1, u2, k1, k2, rfl, htt, a1, o1, a2, o2, mm⟩ := each i x hx
        refine ⟨tt, _, rfl, .inl (.inl (e9 _ _ htt)), rfl, _, _, rfl, _, _, rfl, rfl, ?_⟩
        have f12 : Fine (.tuple [dL k1, dL k2]) 7 10000100 := (fine_tup (FineAll.cons (fine_L o1) (FineAll.cons (fine_L o2) FineAll.nil))).mono (Nat.le_refl _) (by decide)
        refine ⟨fun σ' H' => σ' = [some (.ref a), some (.ref p), some (.int (0 + (t : Nat))), some (.ref la), some v2, some u1, some u2, some (.bl (dueL k1 k2)), some (.str (PyData.tuple [dL k1, dL k2]).shown), y9, y10, y11] ∧ Evl.Ex H8 H', ?_, ?_⟩
        · refine ⟨u1, rfl, u2, rfl, u1, u2, k1, k2, rfl, a1.mono (TX.ex e9), a2.mono (TX.ex e9), o1, o2, fun H10 e10 => ?_⟩
          refine ⟨u1, rfl, u2, rfl, (by show 2 ≤ sizeLine; decide), fun z nz => ?_⟩
          have e11 := Evl.Ex.new (o := .tup [u1, u2]) nz
          have ex := (e9.trans e10).trans e11
          refine ⟨z, .tuple [dL k1, dL k2], rfl, .tup (.inl (.inl upd_same)) (.cons (dp_L (a1.mono (TX.ex ex))) (.cons (dp_L (a2.mono (TX.ex ex))) .nil)), f12.sho, PyData.hasDict_of_canLay _ f12.lay, Nat.le_trans f12.dep (by decide), Nat.le_trans f12.len (by decide), ?_⟩
          exact ⟨_, _, rfl, rfl, ex⟩
        rintro _ H10 ⟨rfl, e10⟩
        refine ⟨u1, rfl, u2, rfl, u1, u2, rfl, .inr ⟨k1, a1.mono (TX.ex e10), o1, .inr ⟨k2, a2.mono (TX.ex e10), o2, fun ne => absurd mm ne, fun _ H11 e11 => ?_⟩⟩⟩
        have e811 := e10.trans e11
        have hlen : k1.length = k2.length := by
          have := congrArg List.length mm
          rwa [manys_cnt, manys_cnt] at this
        refine ⟨withinL k1 k2, rfl, .bl (dueL k1 k2), rfl, dueL k1 k2, rfl, ?_⟩
        rw [due_within o1 o2 hlen]
        refine ⟨rfl, _, rfl, ?_⟩
        refine ite2 (fun hc => absurd hc (by simp)) (fun _ => ?_)
        refine ⟨u1, rfl, u2, rfl, (by show 2 ≤ sizeLine; decide), fun z nz => ?_⟩
        have e12 := Evl.Ex.new (o := .tup [u1, u2]) nz
        have ex := e811.trans e12
        refine ⟨z, .tuple [dL k1, dL k2], rfl, .tup (.inl (.inl upd_same)) (.cons (dp_L (a1.mono (TX.ex ex))) (.cons (dp_L (a2.mono (TX.ex ex))) .nil)), f12.sho, PyData.hasDict_of_canLay _ f12.lay, Nat.le_trans f12.dep (by decide), Nat.le_trans f12.len (by decide), ?_⟩
        refine ⟨.str (PyData.tuple [dL k1, dL k2]).shown, rfl, rfl, _, rfl, ?_⟩
        refine ite2 (fun hc => absurd hc (by simp)) (fun _ => ?_)
        exact ⟨_, _, _, _, rfl, ex⟩
      rintro σ H9 ⟨y5, y6, y7, y8, rfl, e9⟩
      have e49 := e48.trans e9
      have hL9 := hL4.mono (TX.ex e49)
      have hp9 := hp4.ex e49
      obtain ⟨la', bs', ela, hla9, hbs9⟩ := id hL9
      cases ela
      have bl' : bs'.length = l.length := Paired.len hbs9
      -- the spot
      refine ⟨fun σ' H' => ∃ k : Nat, σ' = [some (.ref a), some (.ref p), some (.int (0 + (t : Nat))), some (.ref la), some v2, y5, y6, y7, y8, some (.int (k : Int)), y10, y11] ∧ k < l.length ∧ PenAt H' p c (400000 * (t : Nat) + 305001) ∧ LockS K H' (.ref la) l, ?_, ?_⟩
      · refine ⟨.ref p, rfl, .ref la, rfl, la, bs', rfl, .inr (.inl (.inl hla9)), p, c, _, _, rfl, hp9, by omega, by omega, by omega, fun k H10 k0 k1 x10 hp10 => ?_⟩
        refine ⟨k.toNat, ?_, by omega, hp10.mono (by omega), hL9.mono (hp9.tx (K := K) x10)⟩
        have z : ((k.toNat : Nat) : Int) = k := by omega
        rw [z]
        rfl
      rintro _ H10 ⟨k, rfl, kl, hp10, hL10⟩
      obtain ⟨la'', bs'', ela, hla10, hbs10⟩ := id hL10
      cases ela
      have bl'' : bs''.length = l.length := Paired.len hbs10
      have hbA : Paired (BoltAt K H10) bs'' l := Paired.imp (fun _ _ => BoltS.at_) hbs10
      obtain ⟨b, hb⟩ : ∃ b, l[k]? = some b := ⟨l[k], List.getElem?_eq_getElem kl⟩
      obtain ⟨xb, hxb, ⟨ab, cb, gsb, rfl, k1, k2, k3⟩⟩ := Paired.get2 hbs10 hb
      have bm0 := (ok.bolts k b hb).m0
      have bm1 := (ok.bolts k b hb).m1
      have mm0 : 2 ≤ (2 + (b.many - 1) % 3) := by omega
      have mm1 : (2 + (b.many - 1) % 3) ≤ 4 := by omega
      have mmn : b.many ≠ (2 + (b.many - 1) % 3) := by omega
      refine ⟨fun σ' H' => ∃ (z : Addr) (ws : List V), σ' = [some (.ref a), some (.ref p), some (.int (0 + (t : Nat))), some (.ref la), some v2, y5, y6, y7, y8, some (.int (k : Int)), some (.ref z), y11] ∧ Evl.Ex H10 H' ∧ SqT K H' z ws ∧ Paired (BoltAt K H') ws (wideL l k (2 + (b.many - 1) % 3)), ?_, ?_⟩
      · refine ⟨.ref la, rfl, ?_⟩
        refine nopart1 ?_
        refine ⟨.int (k : Int), rfl, (k : Int), rfl, ?_⟩
        refine sl_any (K := K) (lo := none) (hi := some (k : Int)) (.inl (.inl hla10)) fun H11 z11 e11 s11 => ?_
        rw [cut_take] at s11
        refine ⟨.ref la, rfl, .int (k : Int), rfl, la, bs'', (k : Int), .ref ab, rfl, rfl, .inl (.inl (e11 _ _ hla10)), atI_nat hxb, ab, _, 0, .int b.many, rfl, rfl, .inl (.inl (e11 _ _ k1)), atI_nat (j := 0) rfl, b.many, 1, rfl, rfl, b.many - 1, 3, rfl, rfl, (show (0 : Int) < 3 by decide), 2, (b.many - 1) % 3, rfl, rfl, ?_⟩
        refine ⟨Nat.zero_le _, fun z0 nz0 => ?_⟩
        have e12 := Evl.Ex.new (o := .tup []) nz0
        have g0 : (upd H11 z0 (.tup [])) z0 = some (.tup []) := upd_same
        generalize upd H11 z0 (.tup []) = H12 at e12 g0
        refine ⟨(by show 2 ≤ sizeLine; decide), fun nb nnb => ?_⟩
        have e13 := Evl.Ex.new (o := .tup [.int (2 + (b.many - 1) % 3), .ref z0]) nnb
        have gnb : (upd H12 nb (.tup [.int (2 + (b.many - 1) % 3), .ref z0])) nb = some (.tup [.int (2 + (b.many - 1) % 3), .ref z0]) := upd_same
        generalize upd H12 nb (.tup [.int (2 + (b.many - 1) % 3), .ref z0]) = H13 at e13 gnb
        refine ⟨(by show 1 ≤ sizeLine; decide), fun one none_ => ?_⟩
        have e14 := Evl.Ex.new (o := .tup [.ref nb]) none_
        have gone : (upd H13 one (.tup [.ref nb])) one = some (.tup [.ref nb]) := upd_same
        generalize upd H13 one (.tup [.ref nb]) = H14 at e14 gone
        have e1114 := e12.trans (e13.trans e14)
        have bz : (bs''.take k).length = k := by rw [List.length_take]; omega
        refine cat_any (K := K) (Evl.ex_t e1114 s11) (.inl (.inl gone)) (Nat.le_trans (by rw [bz]; exact Nat.succ_le_succ (by omega : k ≤ 60) : (bs''.take k).length + [V.ref nb].length ≤ 61) (by decide)) fun H15 z15 e15 s15 => ?_
        have e1015 := (e11.trans e1114).trans e15
        refine ⟨.ref la, rfl, .int (k : Int), rfl, (k : Int), 1, rfl, rfl, (k : Int) + 1, rfl, ?_⟩
        refine nopart1 ?_
        have ek : (k : Int) + 1 = ((k + 1 : Nat) : Int) := by omega
        rw [ek]
        refine sl_any (K := K) (lo := some ((k + 1 : Nat) : Int)) (hi := none) (.inl (.inl (e1015 _ _ hla10))) fun H16 z16 e16 s16 => ?_
        rw [cut_drop _ (by omega)] at s16
        refine cat_any (K := K) (Evl.ex_t e16 s15) s16 (Nat.le_trans (by rw [List.length_append, bz, List.length_drop, List.length_singleton]; omega : (bs''.take k ++ [V.ref nb]).length + (bs''.drop (k + 1)).length ≤ 61) (by decide)) fun H17 z17 e17 s17 => ?_
        have e1017 := (e1015.trans e16).trans e17
        refine ⟨z17, _, rfl, e1017, s17, ?_⟩
        have hbA17 : Paired (BoltAt K H17) bs'' l := Paired.imp (fun _ _ => BoltAt.mono (TX.ex e1017)) hbA
        have e1317 := ((e14.trans e15).trans e16).trans e17
        unfold wideL
        exact Paired.app (Paired.app (paired_take k hbA17) (.cons (dp_bare (e1317 _ _ gnb) ((e13.trans e1317) _ _ g0)) .nil)) (paired_drop (k + 1) hbA17)
      rintro _ H11 ⟨z, ws, rfl, e11, hz, hws⟩
      -- all without gaps
      obtain ⟨W, eW⟩ : ∃ W, W = bareL (wideL l k (2 + (b.many - 1) % 3)) := ⟨_, rfl⟩
      have wdl : (wideL l k (2 + (b.many - 1) % 3)).length = l.length := wide_len kl
      have Wl : W.length = l.length := by
        rw [eW]
        unfold bareL
        rw [List.length_map, wdl]
      have Wb : ∀ b ∈ W, (2 ≤ b.many ∧ b.many ≤ 4) ∧ b.gaps = [] := by
        intro x hx
        rw [eW] at hx
        obtain ⟨y, hy, rfl⟩ := List.mem_map.mp hx
        refine ⟨?_, rfl⟩
        rcases wide_mem hy with h | h
        · obtain ⟨j, hj⟩ := List.mem_iff_getElem?.mp h
          exact ⟨(ok.bolts j y hj).m0, (ok.bolts j y hj).m1⟩
        · show 2 ≤ y.many ∧ y.many ≤ 4
          rw [h]
          exact ⟨mm0, mm1⟩
      have okW : LockOk W := bare_ok (by omega) (by omega) Wb
      have neW : manysOf l ≠ manysOf W := by
        rw [eW]
        exact wide_ne hb mmn
      have wsl : ws.length = l.length := (Paired.len hws).trans wdl
      refine ⟨fun σ' H' => ∃ (z : Addr) (ws : List V), σ' = [some (.ref a), some (.ref p), some (.int (0 + (t : Nat))), some (.ref la), some v2, y5, y6, y7, y8, some (.int (k : Int)), some (.ref z), y11] ∧ Evl.Ex H11 H' ∧ SqT K H' z ws ∧ Paired (BoltAt K H') ws W, ?_, ?_⟩
      · refine ⟨.ref z, rfl, z, ws, rfl, .inr hz, _, rfl, by omega, by omega, fun R nR => ?_⟩
        refine lc_range (lo := 0) (n := ((ws.length : Nat) : Int).toNat) (fun i H' => ∃ vvs : List V, Evl.Ex H11 H' ∧ H' R = some (.lst vvs) ∧ Paired (BoltAt K H') vvs (W.take i)) ⟨[], Evl.Ex.new nR, upd_same, .nil⟩ ?_ ?_
        · rintro i H12 hi ⟨vvs, e12, hR12, hvv⟩
          have ei : (0 : Int) + (i : Nat) = ((i : Nat) : Int) := by omega
          rw [ei]
          have il : i < ws.length := by omega
          obtain ⟨b2, hb2, ⟨ab2, cb2, gs2, eb2, q1, q2, q3⟩⟩ := Paired.get1 hws (List.getElem?_eq_getElem il)
          have hxi : ws[i]? = some (.ref ab2) := by rw [List.getElem?_eq_getElem il, eb2]
          have hW : W[i]? = some ⟨b2.many, []⟩ := by
            rw [eW]
            unfold bareL
            rw [List.getElem?_map, hb2]
            rfl
          have vl : vvs.length = i := by
            have := Paired.len hvv
            rw [List.length_take] at this
            omega
          refine ⟨rfl, .ref z, rfl, .int (i : Nat), rfl, z, ws, (i : Nat), .ref ab2, rfl, rfl, Evl.ex_t e12 hz, atI_nat hxi, ab2, _, 0, .int b2.many, rfl, rfl, Evl.ex_t e12 q1, atI_nat (j := 0) rfl, ?_⟩
          refine ⟨Nat.zero_le _, fun z0 nz0 => ?_⟩
          have e13 := Evl.Ex.new (o := .tup []) nz0
          have g0 : (upd H12 z0 (.tup [])) z0 = some (.tup []) := upd_same
          generalize upd H12 z0 (.tup []) = H13 at e13 g0
          refine ⟨(by show 2 ≤ sizeLine; decide), fun nb nnb => ?_⟩
          have e14 := Evl.Ex.new (o := .tup [.int b2.many, .ref z0]) nnb
          have gnb : (upd H13 nb (.tup [.int b2.many, .ref z0])) nb = some (.tup [.int b2.many, .ref z0]) := upd_same
          generalize upd H13 nb (.tup [.int b2.many, .ref z0]) = H14 at e14 gnb
          have e1214 := e13.trans e14
          have hR14 := e1214 _ _ hR12
          refine ⟨vvs, hR14, Nat.lt_of_le_of_lt (by omega : vvs.length ≤ 60) (by decide), vvs ++ [.ref nb], (e12.trans e1214).mut nR, upd_same, ?_⟩
          rw [take_succ_get hW]
          exact paired_app1 (Paired.imp (fun _ _ h => (h.mono (TX.ex e1214)).mono (TX.put hR14)) hvv) (BoltAt.mono (TX.put hR14) (dp_bare gnb (e14 _ _ g0)))
        · rintro H12 ⟨vvs, e12, hR12, hvv⟩
          have en : ((ws.length : Nat) : Int).toNat = W.length := by omega
          rw [en, List.take_length] at hvv
          refine ⟨R, vvs, rfl, .inl ⟨SqL.of hR12, fun t' nt' => ?_⟩⟩
          have e13 := Evl.Ex.new (o := .tup vvs) nt'
          exact ⟨t', vvs, rfl, e12.trans e13, .inl (.inl upd_same), Paired.imp (fun _ _ => BoltAt.mono (TX.ex e13)) hvv⟩
      rintro _ H12 ⟨z2, ws2, rfl, e12, hz2, hws2⟩
      have ws2l : ws2.length = l.length := (Paired.len hws2).trans Wl
      have e1012 := e11.trans e12
      have hla12 := e1012 _ _ hla10
      have hbA12 : Paired (BoltAt K H12) bs'' l := Paired.imp (fun _ _ => BoltAt.mono (TX.ex e1012)) hbA
      -- other counts
      refine ⟨.ref z2, rfl, ?_⟩
      refine ⟨.ref la, rfl, ?_⟩
      refine nopart1 ?_
      refine ⟨1, rfl, -1, rfl, ?_⟩
      refine sl_any (K := K) (lo := none) (hi := some (-1)) (.inl (.inl hla12)) fun H13 s1 e13 hs1 => ?_
      refine ⟨.ref la, rfl, 1, rfl, -1, rfl, ?_⟩
      refine nopart1 ?_
      refine sl_any (K := K) (lo := some (-1)) (hi := none) (.inl (.inl (e13 _ _ hla12))) fun H14 s2 e14 hs2 => ?_
      refine cat_any (K := K) (Evl.ex_t e14 hs1) hs2 (Nat.le_trans (by
        have h1 := cutV_length bs'' none (some (-1))
        have h2 := cutV_length bs'' (some (-1)) none
        omega : _ ≤ 120) (by decide)) fun H15 s3 e15 hs3 => ?_
      rw [cut_both bs'' (by omega)] at hs3
      refine ⟨Nat.zero_le _, fun z0 nz0 => ?_⟩
      have e16 := Evl.Ex.new (o := .tup []) nz0
      have g0 : (upd H15 z0 (.tup [])) z0 = some (.tup []) := upd_same
      generalize upd H15 z0 (.tup []) = H16 at e16 g0
      refine ⟨(by show 2 ≤ sizeLine; decide), fun nb nnb => ?_⟩
      have e17 := Evl.Ex.new (o := .tup [.int 2, .ref z0]) nnb
      have gnb : (upd H16 nb (.tup [.int 2, .ref z0])) nb = some (.tup [.int 2, .ref z0]) := upd_same
      generalize upd H16 nb (.tup [.int 2, .ref z0]) = H17 at e17 gnb
      refine ⟨(by show 1 ≤ sizeLine; decide), fun one none_ => ?_⟩
      have e18 := Evl.Ex.new (o := .tup [.ref nb]) none_
      have gone : (upd H17 one (.tup [.ref nb])) one = some (.tup [.ref nb]) := upd_same
      generalize upd H17 one (.tup [.ref nb]) = H18 at e18 gone
      have e1518 := e16.trans (e17.trans e18)
      refine cat_any (K := K) (Evl.ex_t e1518 hs3) (.inl (.inl gone)) (Nat.le_trans (by rw [List.length_singleton]; omega : bs''.length + [V.ref nb].length ≤ 61) (by decide)) fun H19 s4 e19 hs4 => ?_
      have e1519 := e1518.trans e19
      have e1219 : Evl.Ex H12 H19 := e13.trans (e14.trans (e15.trans e1519))
      -- the third
      refine ⟨.ref z2, rfl, ?_⟩
      refine nopart1 ?_
      refine ⟨1, rfl, -1, rfl, ?_⟩
      refine sl_any (K := K) (lo := none) (hi := some (-1)) (Evl.ex_t e1219 hz2) fun H20 s5 e20 hs5 => ?_
      rw [cut_last1] at hs5
      refine ⟨Nat.zero_le _, fun z3 nz3 => ?_⟩
      have e21 := Evl.Ex.new (o := .tup []) nz3
      have g3 : (upd H20 z3 (.tup [])) z3 = some (.tup []) := upd_same
      generalize upd H20 z3 (.tup []) = H21 at e21 g3
      refine ⟨(by show 2 ≤ sizeLine; decide), fun n2 nn2 => ?_⟩
      have e22 := Evl.Ex.new (o := .tup [.int 2, .ref z3]) nn2
      have gn2 : (upd H21 n2 (.tup [.int 2, .ref z3])) n2 = some (.tup [.int 2, .ref z3]) := upd_same
      generalize upd H21 n2 (.tup [.int 2, .ref z3]) = H22 at e22 gn2
      refine ⟨Nat.zero_le _, fun z4 nz4 => ?_⟩
      have e23 := Evl.Ex.new (o := .tup []) nz4
      have g4 : (upd H22 z4 (.tup [])) z4 = some (.tup []) := upd_same
      generalize upd H22 z4 (.tup []) = H23 at e23 g4
      refine ⟨(by show 2 ≤ sizeLine; decide), fun n3 nn3 => ?_⟩
      have e24 := Evl.Ex.new (o := .tup [.int 3, .ref z4]) nn3
      have gn3 : (upd H23 n3 (.tup [.int 3, .ref z4])) n3 = some (.tup [.int 3, .ref z4]) := upd_same
      generalize upd H23 n3 (.tup [.int 3, .ref z4]) = H24 at e24 gn3
      refine ⟨(by show 2 ≤ sizeLine; decide), fun two ntwo => ?_⟩
      have e25 := Evl.Ex.new (o := .tup [.ref n2, .ref n3]) ntwo
      have gtwo : (upd H24 two (.tup [.ref n2, .ref n3])) two = some (.tup [.ref n2, .ref n3]) := upd_same
      generalize upd H24 two (.tup [.ref n2, .ref n3]) = H25 at e25 gtwo
      have e2025 := e21.trans (e22.trans (e23.trans (e24.trans e25)))
      refine cat_any (K := K) (Evl.ex_t e2025 hs5) (.inl (.inl gtwo)) (Nat.le_trans (by rw [List.length_dropLast]; exact Nat.add_le_add_right (by omega : ws2.length - 1 ≤ 60) 2 : ws2.dropLast.length + [V.ref n2, V.ref n3].length ≤ 62) (by decide)) fun H26 s6 e26 hs6 => ?_
      have e2026 := e2025.trans e26
      refine ⟨(by show 3 ≤ sizeLine; decide), fun B0 nB => ?_⟩
      have e27 := Evl.Ex.new (o := .lst [.ref z2, .ref s4, .ref s6]) nB
      have gB : (upd H26 B0 (.lst [.ref z2, .ref s4, .ref s6])) B0 = some (.lst [.ref z2, .ref s4, .ref s6]) := upd_same
      generalize upd H26 B0 (.lst [.ref z2, .ref s4, .ref s6]) = H27 at e27 gB
      have e1927 := e20.trans (e2026.trans e27)
      have e1227 := e1219.trans e1927
      have hl27 : LockAt K H27 (.ref la) l := ⟨la, bs'', rfl, .inl (.inl (e1227 _ _ hla12)), Paired.imp (fun _ _ => BoltAt.mono (TX.ex e1227)) hbA12⟩
      have hW27 : LockAt K H27 (.ref z2) W := ⟨z2, ws2, rfl, Evl.ex_t e1227 hz2, Paired.imp (fun _ _ => BoltAt.mono (TX.ex e1227)) hws2⟩
      have e1727 := e18.trans (e19.trans e1927)
      have e2227 := ((e23.trans (e24.trans e25)).trans e26).trans e27
      have e2427 := (e25.trans e26).trans e27
      have hA27 : Paired (BoltAt K H27) (bs'' ++ [V.ref nb]) (l ++ [⟨2, []⟩]) := Paired.app (Paired.imp (fun _ _ => BoltAt.mono (TX.ex e1227)) hbA12) (.cons (dp_bare (e1727 _ _ gnb) ((e17.trans e1727) _ _ g0)) .nil)
      have hB27 : Paired (BoltAt K H27) (ws2.dropLast ++ [V.ref n2, V.ref n3]) (W.dropLast ++ [⟨2, []⟩, ⟨3, []⟩]) := by
        refine Paired.app ?_ (.cons (dp_bare (e2227 _ _ gn2) ((e22.trans e2227) _ _ g3)) (.cons (dp_bare (e2427 _ _ gn3) ((e24.trans e2427) _ _ g4)) .nil))
        rw [List.dropLast_eq_take, List.dropLast_eq_take, ws2l, Wl]
        exact paired_take _ (Paired.imp (fun _ _ => BoltAt.mono (TX.ex e1227)) hws2)
      have WB : ∀ b ∈ (W.dropLast ++ [⟨2, []⟩, ⟨3, []⟩] : Lock), (2 ≤ b.many ∧ b.many ≤ 4) ∧ b.gaps = [] := by
        intro x hx
        rcases List.mem_append.mp hx with h | h
        · exact Wb x ((List.dropLast_sublist W).subset h)
        · simp only [List.mem_cons, List.not_mem_nil, or_false] at h
          rcases h with rfl | rfl
          · exact ⟨⟨by decide, by decide⟩, rfl⟩
          · exact ⟨⟨by decide, by decide⟩, rfl⟩
      have each : ∀ (i : Nat) (x : V), ([.ref z2, .ref s4, .ref s6] : List V)[i]? = some x → ∃ (xa : Addr) (xs : List V) (m : Lock), x = .ref xa ∧ SqT K H27 xa xs ∧ Paired (BoltAt K H27) xs m ∧ (m.length ≤ 60 → LockOk m) ∧ manysOf l ≠ manysOf m := by
        intro i x hx
        match i, hx with
        | 0, hx =>
          cases hx
          exact ⟨z2, ws2, W, rfl, Evl.ex_t e1227 hz2, Paired.imp (fun _ _ => BoltAt.mono (TX.ex e1227)) hws2, fun _ => okW, neW⟩
        | 1, hx =>
          cases hx
          refine ⟨s4, _, _, rfl, Evl.ex_t e1927 hs4, hA27, fun n => app_ok ok n fun b hb => ?_, manys_len_ne (by rw [List.length_append, List.length_singleton]; omega)⟩
          rw [List.mem_singleton.mp hb]
          exact ⟨⟨by decide, by decide⟩, rfl⟩
        | 2, hx =>
          cases hx
          refine ⟨s6, _, _, rfl, Evl.ex_t e27 hs6, hB27, fun n => bare_ok (by rw [List.length_append]; exact Nat.le_trans (by decide : 1 ≤ 2) (Nat.le_add_left 2 _)) n WB, manys_len_ne ?_⟩
          rw [List.length_append, List.length_dropLast, Wl]
          show l.length ≠ l.length - 1 + 2
          omega
        | i + 3, hx => simp at hx
      refine ⟨B0, rfl, ⟨_, .inl (.inl gB)⟩, ?_⟩
      refine for_it (walk_list (K := K) (a := B0) (xs := [.ref z2, .ref s4, .ref s6])) (fun i σ H' => ∃ y6 : Option V, σ = [some (.ref a), some (.ref p), some (.int (0 + (t : Nat))), some (.ref la), some v2, y5, y6, y7, y8, some (.int (k : Int)), some (.ref z2), y11] ∧ Evl.Ex H27 H') ⟨y6, rfl, Evl.Ex.refl _⟩ ?_ ?_ ?_
      · rintro i σ H' _ ⟨_, _, e⟩
        exact .inl (.inl (e _ _ gB))
      · rintro i x σ H28 H28' hi ⟨y6, rfl, e28⟩ ⟨rfl, hx⟩
        obtain ⟨xa, xs, m, rfl, hxa, hxm, okm, nem⟩ := each i x hx
        have xl : xs.length = m.length := Paired.len hxm
        refine ⟨.ref xa, rfl, xa, xs, rfl, .inr (Evl.ex_t e28 hxa), xs.length, 60, rfl, rfl, _, rfl, ?_⟩
        refine ite2 (fun hc => ?_) (fun _ => ?_)
        · have n60 : m.length ≤ 60 := by
            have := of_decide_eq_true hc
            omega
          refine ⟨.ref la, rfl, .ref xa, rfl, .ref la, .ref xa, rfl, .inr ⟨l, hl27.mono (TX.ex e28), ok, .inr ⟨m, ⟨xa, xs, rfl, Evl.ex_t e28 hxa, Paired.imp (fun _ _ => BoltAt.mono (TX.ex e28)) hxm⟩, okm n60, nem, fun H29 tt e29 htt => ?_⟩⟩⟩
          refine ⟨(by show 2 ≤ sizeLine; decide), fun z5 nz5 => ?_⟩
          have e30 := Evl.Ex.new (o := .tup [.str "unlike", .bl true]) nz5
          refine ⟨.tuple [.str "unlike", .bool true], .tuple [.str "unlike", .bool true], .tup (.inl (.inl (e30 _ _ htt))) (.cons (.str _) (.cons (.bl _) .nil)), .tup (.inl (.inl upd_same)) (.cons (.str _) (.cons (.bl _) .nil)), (by decide +kernel), (by decide +kernel), _, rfl, ?_⟩
          refine ite2 (fun hc => absurd hc (by rw [SeqAt.eqv_refl _ (by decide +kernel)]; simp)) (fun _ => ?_)
          exact ⟨_, rfl, e28.trans (e29.trans e30)⟩
        · refine iteF ?_
          exact ⟨_, rfl, e28⟩
      rintro σ H28 ⟨y6', rfl, e28⟩
      -- refusals
      have toldF : ∀ (H' : Hp) (t' z' : Addr) (f' : PyData), H' t' = some (.tup [.str "fault", .ref z']) → Dp K H' (.ref z') f' → Dp K H' (.ref t') (.tuple [.str "fault", f']) := fun H' t' z' f' h1 h2 => .tup (.inl (.inl h1)) (.cons (.str _) (.cons h2 .nil))
      have fB : SeqAt.shaped (.tuple [.str "fault", .tuple [.str "bolt", .int 0]]) = true := by decide +kernel
      have fL : SeqAt.shaped (.tuple [.str "fault", .tuple [.str "lock"]]) = true := by decide +kernel
      have cB : (PyData.tuple [.str "fault", .tuple [.str "bolt", .int 0]]).canLay0 = true := by decide +kernel
      have cL : (PyData.tuple [.str "fault", .tuple [.str "lock"]]).canLay0 = true := by decide +kernel
      have hW28 : LockAt K H28 (.ref z2) W := hW27.mono (TX.ex e28)
      have hp28 : PenAt H28 p c (400000 * (t : Nat) + 305001) := hp10.ex ((e1012.trans e1227).trans e28)
      refine ⟨fun σ' H' => σ' = [some (.ref a), some (.ref p), some (.int (0 + (t : Nat))), some (.ref la), some v2, y5, y6', y7, y8, some (.int (k : Int)), some (.ref z2), y11] ∧ Evl.Ex H28 H', ?_, ?_⟩
      · refine ⟨.ref z2, rfl, Nat.zero_le _, fun c0 m0 => ?_⟩
        have e29 := Evl.Ex.new (o := .tup []) m0
        have h0 : (upd H28 c0 (.tup [])) c0 = some (.tup []) := upd_same
        generalize upd H28 c0 (.tup []) = H29 at e29 h0
        refine ⟨(by show 4 ≤ sizeLine; decide), fun c1 m1 => ?_⟩
        have e30 := Evl.Ex.new (o := .tup [.int 0, .int 0, .int 1, .ref c0]) m1
        have h1 : (upd H29 c1 (.tup [.int 0, .int 0, .int 1, .ref c0])) c1 = some (.tup [.int 0, .int 0, .int 1, .ref c0]) := upd_same
        generalize upd H29 c1 (.tup [.int 0, .int 0, .int 1, .ref c0]) = H30 at e30 h1
        refine ⟨(by show 1 ≤ sizeLine; decide), fun c2 m2 => ?_⟩
        have e31 := Evl.Ex.new (o := .tup [.ref c1]) m2
        have h2 : (upd H30 c2 (.tup [.ref c1])) c2 = some (.tup [.ref c1]) := upd_same
        generalize upd H30 c2 (.tup [.ref c1]) = H31 at e31 h2
        refine ⟨(by show 2 ≤ sizeLine; decide), fun c3 m3 => ?_⟩
        have e32 := Evl.Ex.new (o := .tup [.int 2, .ref c2]) m3
        have h3 : (upd H31 c3 (.tup [.int 2, .ref c2])) c3 = some (.tup [.int 2, .ref c2]) := upd_same
        generalize upd H31 c3 (.tup [.int 2, .ref c2]) = H32 at e32 h3
        refine ⟨(by show 1 ≤ sizeLine; decide), fun c4 m4 => ?_⟩
        have e33 := Evl.Ex.new (o := .tup [.ref c3]) m4
        have h4 : (upd H32 c4 (.tup [.ref c3])) c4 = some (.tup [.ref c3]) := upd_same
        generalize upd H32 c4 (.tup [.ref c3]) = H33 at e33 h4
        have e2833 := e29.trans (e30.trans (e31.trans (e32.trans e33)))
        have th : Th K H33 (.ref c4) (.tuple [.tuple [.int 2, .tuple [gapZ]]]) :=
          .tupI h4 (.cons (.tupI (e33 _ _ h3) (.cons (.int _) (.cons (.tupI ((e32.trans e33) _ _ h2) (.cons (.tupI ((e31.trans (e32.trans e33)) _ _ h1) (.cons (.int _) (.cons (.int _) (.cons (.int _) (.cons (.tupI ((e30.trans (e31.trans (e32.trans e33))) _ _ h0) .nil) .nil))))) .nil)) .nil))) .nil)
        refine ⟨.ref z2, .ref c4, rfl, .inr ⟨W, hW28.mono (TX.ex e2833), okW, .inl ⟨_, _, th, .inr (.inr ⟨_, .inr rfl, rfl, rfl⟩), fun H34 tt zz e34 htt dz => ?_⟩⟩⟩
        refine ⟨(by show 2 ≤ sizeLine; decide), fun q1 nq1 => ?_⟩
        have e35 := Evl.Ex.new (o := .tup [.str "bolt", .int 0]) nq1
        have gq1 : (upd H34 q1 (.tup [.str "bolt", .int 0])) q1 = some (.tup [.str "bolt", .int 0]) := upd_same
        generalize upd H34 q1 (.tup [.str "bolt", .int 0]) = H35 at e35 gq1
        refine ⟨(by show 2 ≤ sizeLine; decide), fun q2 nq2 => ?_⟩
        have e36 := Evl.Ex.new (o := .tup [.str "fault", .ref q1]) nq2
        refine ⟨.tuple [.str "fault", .tuple [.str "bolt", .int 0]], .tuple [.str "fault", .tuple [.str "bolt", .int 0]], toldF _ tt zz _ ((e35.trans e36) _ _ htt) (dpEx (e35.trans e36) dz), .tup (.inl (.inl upd_same)) (.cons (.str _) (.cons (.tup (.inl (.inl (e36 _ _ gq1))) (.cons (.str _) (.cons (.int _) .nil))) .nil)), fB, fB, _, rfl, ?_⟩
        refine ite2 (fun hc => absurd hc (by rw [SeqAt.eqv_refl _ cB]; simp)) (fun _ => ?_)
        exact ⟨rfl, e2833.trans (e34.trans (e35.trans e36))⟩
      rintro _ H33 ⟨rfl, e33⟩
      refine ⟨Nat.zero_le _, fun c0 m0 => ?_⟩
      have e34 := Evl.Ex.new (o := .tup []) m0
      have h0 : (upd H33 c0 (.tup [])) c0 = some (.tup []) := upd_same
      generalize upd H33 c0 (.tup []) = H34 at e34 h0
      refine ⟨.ref c0, .int 5, rfl, .inl ⟨_, _, .tupI h0 .nil, .inr (.inl ⟨rfl, rfl⟩), fun H35 tt zz e35 htt dz => ?_⟩⟩
      refine ⟨(by show 1 ≤ sizeLine; decide), fun q1 nq1 => ?_⟩
      have e36 := Evl.Ex.new (o := .tup [.str "lock"]) nq1
      have gq1 : (upd H35 q1 (.tup [.str "lock"])) q1 = some (.tup [.str "lock"]) := upd_same
      generalize upd H35 q1 (.tup [.str "lock"]) = H36 at e36 gq1
      refine ⟨(by show 2 ≤ sizeLine; decide), fun q2 nq2 => ?_⟩
      have e37 := Evl.Ex.new (o := .tup [.str "fault", .ref q1]) nq2
      refine ⟨.tuple [.str "fault", .tuple [.str "lock"]], .tuple [.str "fault", .tuple [.str "lock"]], toldF _ tt zz _ ((e36.trans e37) _ _ htt) (dpEx (e36.trans e37) dz), .tup (.inl (.inl upd_same)) (.cons (.str _) (.cons (.tup (.inl (.inl (e37 _ _ gq1))) (.cons (.str _) .nil)) .nil)), fL, fL, _, rfl, ?_⟩
      refine ite2 (fun hc => absurd hc (by rw [SeqAt.eqv_refl _ cL]; simp)) (fun _ => ?_)
      generalize upd H36 q2 (.tup [.str "fault", .ref q1]) = H37 at e37
      have e3337 := e34.trans (e35.trans (e36.trans e37))
      refine ⟨Nat.zero_le _, fun c1 m1 => ?_⟩
      have e38 := Evl.Ex.new (o := .tup []) m1
      have h1 : (upd H37 c1 (.tup [])) c1 = some (.tup []) := upd_same
      generalize upd H37 c1 (.tup []) = H38 at e38 h1
      refine ⟨(by show 2 ≤ sizeLine; decide), fun c2 m2 => ?_⟩
      have e39 := Evl.Ex.new (o := .tup [.int 5, .ref c1]) m2
      have h2 : (upd H38 c2 (.tup [.int 5, .ref c1])) c2 = some (.tup [.int 5, .ref c1]) := upd_same
      generalize upd H38 c2 (.tup [.int 5, .ref c1]) = H39 at e39 h2
      refine ⟨(by show 1 ≤ sizeLine; decide), fun c3 m3 => ?_⟩
      have e40 := Evl.Ex.new (o := .tup [.ref c2]) m3
      have h3 : (upd H39 c3 (.tup [.ref c2])) c3 = some (.tup [.ref c2]) := upd_same
      generalize upd H39 c3 (.tup [.ref c2]) = H40 at e40 h3
      refine ⟨Nat.zero_le _, fun c4 m4 => ?_⟩
      have e41 := Evl.Ex.new (o := .tup []) m4
      have th : Th K (upd H40 c4 (.tup [])) (.ref c3) (.tuple [.tuple [.int 5, .tuple []]]) :=
        .tupI (e41 _ _ h3) (.cons (.tupI ((e40.trans e41) _ _ h2) (.cons (.int _) (.cons (.tupI ((e39.trans (e40.trans e41)) _ _ h1) .nil) .nil))) .nil)
      refine ⟨.ref c3, .ref c4, rfl, .inl ⟨_, _, th, .inr (.inr ⟨_, .inl rfl, rfl, rfl⟩), fun H42 tt zz e42 htt dz => ?_⟩⟩
      refine ⟨(by show 2 ≤ sizeLine; decide), fun q3 nq3 => ?_⟩
      have e43 := Evl.Ex.new (o := .tup [.str "bolt", .int 0]) nq3
      have gq3 : (upd H42 q3 (.tup [.str "bolt", .int 0])) q3 = some (.tup [.str "bolt", .int 0]) := upd_same
      generalize upd H42 q3 (.tup [.str "bolt", .int 0]) = H43 at e43 gq3
      refine ⟨(by show 2 ≤ sizeLine; decide), fun q4 nq4 => ?_⟩
      have e44 := Evl.Ex.new (o := .tup [.str "fault", .ref q3]) nq4
      refine ⟨.tuple [.str "fault", .tuple [.str "bolt", .int 0]], .tuple [.str "fault", .tuple [.str "bolt", .int 0]], toldF _ tt zz _ ((e43.trans e44) _ _ htt) (dpEx (e43.trans e44) dz), .tup (.inl (.inl upd_same)) (.cons (.str _) (.cons (.tup (.inl (.inl (e44 _ _ gq3))) (.cons (.str _) (.cons (.int _) .nil))) .nil)), fB, fB, _, rfl, ?_⟩
      refine ite2 (fun hc => absurd hc (by rw [SeqAt.eqv_refl _ cB]; simp)) (fun _ => ?_)
      have all := e33.trans (e3337.trans (e38.trans (e39.trans (e40.trans (e41.trans (e42.trans (e43.trans e44)))))))
      exact ⟨_, _, _, _, _, _, _, _, _, _, rfl, (hp28.ex all).mono (by omega)⟩
    · rintro σ H2 ⟨y2, y3, y4, y5, y6, y7, y8, y9, y10, y11, rfl, hp2⟩
      exact q H2
end
end Wb

set_option Elab.async false
set_option linter.all false
set_option maxRecDepth 100000
set_option maxHeartbeats 4000000
set_option pp.maxSteps 600
set_option pp.deepTerms false
namespace Wb
open PySem PySem.Spec PyProof.Rows L2
section
variable {P : Program} {w : World} {K : PySem.W.Frag} {mg mb : Str → Option Value} {k : Nat} {fa a : Addr} {fd : FuncData} {x : Str} {sp : Sp} {t : Shared} {vs : List Value} {ns : List Int}
/-- from a heap that tracks at most the script -/
theorem top_core (kin : K.In t.heap) (mns : t.heap.Ns mainGlobals mg) (bns : t.heap.Ns builtinsNs mb)
    (bok : ∀ y : Str, y ≠ "__name__" → mb y = bootBuiltins y) (nol : t.heap.NoLimit) (gen0 : t.gens = #[])
    (oa : t.heap.get? a = some { cls := .type "list", data := .seq vs.toArray }) (rv : Vals (ns.map V.int) vs) (room : Room k callerA) (gu : callerA.guards = some [])
    (prom : ∀ bs : Heap, K.In bs → bs.Ns mainGlobals mg → FnG P w K mg bs k fa fd [x] sp) (bnd : ∀ (t' : Shared) (u : Value), BindsTo t' fd ⟨[u], []⟩ [(x, u)])
    (I : Hp) (only : Only I) (due : sp [.ref a] I (fun v _ => v = .bl true) fun _ _ _ => False) (iok : HOk P w I t.heap) (at_a : ∀ b, I b ≠ none → b = a) (free_a : I a ≠ none → K.lookup a = none) :
    codeAny (model P w) callerA (.call (.ref fa) ⟨[.ref a], []⟩) (fun r t' => r = .ok (.ret (.bool true)) ∧ OldK t.heap t'.heap ∧ t'.os = t.os ∧ AllBare t'.gens) t := by
  have keep : ∀ {b : Addr} {o : Obj}, I b = none → t.heap.get? b = some o → (hidT t.heap I).get? b = some o := fun n e => hidT_get e n
  have isA : ∀ {b : Addr}, I b ≠ none → t.heap.get? b = some { cls := .type "list", data := .seq vs.toArray } := fun {b} n => by
    rw [at_a b n]
    exact oa
  have nsI : ∀ {b : Addr} {m : Str → Option Value}, t.heap.Ns b m → (hidT t.heap I).Ns b m := by
    intro b m h
    obtain ⟨o, es, ep, e1, e2, e3⟩ := h
    refine ⟨o, es, ep, keep ?_ e1, e2, e3⟩
    refine Classical.byContradiction fun n => ?_
    have z := isA n
    rw [e1] at z
    cases z
    have z2 : Data.seq vs.toArray _ = Data.dict es ep := e2
    cases z2
  have kinI : K.In (hidT t.heap I) := by
    intro b o e
    refine keep (Classical.byContradiction fun n => ?_) (kin b o e)
    have z := free_a (by rw [← at_a b n]; exact n)
    rw [← at_a b n, e] at z
    cases z
  have nolI : (hidT t.heap I).NoLimit := by
    obtain ⟨mc, h1, h2⟩ := nol
    exact ⟨mc, nsI h1, h2⟩
  have mod : Mod K mg (hidT t.heap I) := ⟨kinI, nsI mns, ⟨mb, nsI bns, bok⟩, nolI⟩
  have env : Env0 P w K mg (hidT t.heap I) callerA [] t I :=
    ⟨rfl, mod, fun b o e => of_hidT e, Nat.le_of_eq (hidT_size _ _), trivial, (fun b hb => absurd hb (List.not_mem_nil)), iok, .of_eq gen0⟩
  refine codeAny_mono ((prom _ kinI (nsI mns)).go callerA [] t I ⟨[.ref a], []⟩ [.ref a] [.ref a] _ _ gu room env (bnd t (.ref a)) (.cons rfl .nil) due) ?_
  intro r t' h
  cases r with
  | error e => exact False.elim h
  | ok fl =>
    cases fl with
    | next => exact False.elim h
    | brk => exact False.elim h
    | cont => exact False.elim h
    | ret u =>
      obtain ⟨v, I', eos, bare, un, iok', rr, hv⟩ := h
      have hv' : v = .bl true := hv
      rw [hv'] at rr
      have hu : u = Value.bool true := rr
      rw [hu]
      refine ⟨rfl, OldK.of_keep fun b o e => ?_, eos, bare⟩
      rcases only b with z | ⟨ob, xs, z⟩
      · exact un.keep b o e z (by intro h; exact absurd h List.not_mem_nil) (by simp)
      · obtain ⟨e1, _⟩ := iok b _ z
        obtain ⟨e2, _⟩ := iok' b _ (un.frzs b ob _ z)
        rw [e] at e1
        cases e1
        exact e2
theorem call_top (kin : K.In t.heap) (mns : t.heap.Ns mainGlobals mg) (bns : t.heap.Ns builtinsNs mb)
    (bok : ∀ y : Str, y ≠ "__name__" → mb y = bootBuiltins y) (nol : t.heap.NoLimit) (gen0 : t.gens = #[])
    (oa : t.heap.get? a = some { cls := .type "list", data := .seq vs.toArray }) (iv : IntsAre vs ns) (len : ns.length ≤ sizeLine) (room : Room k callerA) (gu : callerA.guards = some [])
    (prom : ∀ bs : Heap, K.In bs → bs.Ns mainGlobals mg → FnG P w K mg bs k fa fd [x] sp) (bnd : ∀ (t' : Shared) (u : Value), BindsTo t' fd ⟨[u], []⟩ [(x, u)])
    (due : ∀ I : Hp, SqL K I a (ns.map V.int) → sp [.ref a] I (fun v _ => v = .bl true) fun _ _ _ => False) :
    codeAny (model P w) callerA (.call (.ref fa) ⟨[.ref a], []⟩) (fun r t' => r = .ok (.ret (.bool true)) ∧ OldK t.heap t'.heap ∧ t'.os = t.os ∧ AllBare t'.gens) t := by
  have rv := vals_ints iv
  have lv := iv.length
  cases hk : K.lookup a with
  | some o =>
    have e := kin a o hk
    rw [oa] at e
    cases e
    have hS : SqL K (fun _ => none) a (ns.map V.int) := .inr ⟨_, vs.toArray, _, hk, rfl, rfl, rfl, (by rw [List.size_toArray, lv]; exact len), (by simpa using rv)⟩
    exact top_core kin mns bns bok nol gen0 oa rv room gu prom bnd (fun _ => none) (fun _ => .inl rfl) (due _ hS) (fun b u z => (by cases z)) (fun b z => absurd rfl z) (fun z => absurd rfl z)
  | none =>
    have one : ∀ b, b ≠ a → (fun b => if b = a then some (HO.frz { cls := .type "list", data := .seq vs.toArray } (.lst (ns.map V.int))) else none : Hp) b = none := fun b n => if_neg n
    have two : (fun b => if b = a then some (HO.frz { cls := .type "list", data := .seq vs.toArray } (.lst (ns.map V.int))) else none : Hp) a = some (HO.frz { cls := .type "list", data := .seq vs.toArray } (.lst (ns.map V.int))) := if_pos rfl
    generalize (fun b => if b = a then some (HO.frz { cls := .type "list", data := .seq vs.toArray } (.lst (ns.map V.int))) else none : Hp) = I at one two
    have hS : SqL K I a (ns.map V.int) := .inl (.inr ⟨_, two⟩)
    have at_a : ∀ b, I b ≠ none → b = a := fun b n => Classical.byContradiction fun z => n (one b z)
    refine top_core kin mns bns bok nol gen0 oa rv room gu prom bnd I ?_ (due I hS) ?_ at_a (fun _ => hk)
    · intro b
      by_cases z : b = a
      · rw [z]
        exact .inr ⟨_, _, two⟩
      · exact .inl (one b z)
    · intro b u z
      have e := at_a b (by rw [z]; exact fun y => nomatch y)
      subst e
      rw [two] at z
      cases z
      exact ⟨oa, (by rw [List.length_map]; exact len), vs, _, rv, oa⟩
end
theorem walk_top {l : PySem.W.OpenLaw} {n k : Nat} {q : Program} {loose : List Str} {XP : (Str → Option Value) → Heap → Prop} {YP : World → Heap → Prop} {d : DefRec} {K : Params → PySem.W.Frag} {sp : World → Sp} {x : Str}
    (hn : l.most = some n) (hn2 : n ≤ sizeLine) (hd : d.params.defaults = []) (room : Room k callerA) (gu : callerA.guards = some [])
    (hY : ∀ (w : World) (h : Heap), YP w h → (K w.params).In h)
    (F : ∀ (w : World) (mg : Str → Option Value) (fa : Addr) (h : Heap), (K w.params).In h → h.Ns mainGlobals mg → mg d.name = some (.ref fa) → ∃ fd : FuncData,
      (∀ (t : Shared) (u : Value), BindsTo t fd ⟨[u], []⟩ [(x, u)]) ∧ ∀ bs : Heap, (K w.params).In bs → bs.Ns mainGlobals mg → FnG l.prog w (K w.params) mg bs k fa fd [x] (sp w))
    (due : ∀ (w : World) (I : Hp) (a : Addr) (ns : List Int), SqL (K w.params) I a (ns.map V.int) → sp w [.ref a] I (fun v _ => v = .bl true) fun _ _ _ => False) :
    PySem.W.WalkO q loose XP YP l.row.toRowW d [] (fun f vs => PySem.call f vs) := by
  refine Att.attach_call hn hd ?_
  intro w t0 t mg mb fa o pm cd doc a vs ns G Y ho hdt hcd hmg oa iv hl gen0
  obtain ⟨fd, hb, hF⟩ := F w mg fa _ (hY w _ Y) G.T.g hmg
  exact call_top (hY w _ Y) G.T.g G.T.b G.T.builtins G.T.nolimit gen0 oa iv (Nat.le_trans hl hn2) room gu hF hb fun I hS => due w I a ns hS
end Wb

set_option Elab.async false
set_option linter.all false
set_option maxRecDepth 100000
set_option maxHeartbeats 4000000
namespace Wb
open PySem PySem.Spec PyProof.Rows L2 LamX
theorem all_facts {pr : Program} {w : World} {K : PySem.W.Frag} {h : Heap} {mg : Str → Option Value} {fa : Addr} (X : K.In h) (G : h.Ns mainGlobals mg) (hfa : mg "law" = some (.ref fa))
    {f1 : Addr} {oc1 kV1 dc1 pm1 cd1 ct1 : Value} {od1 an1 : Option Addr} {sl1 : Array (Option Value)}
    (a1 : PySem.W.nsIn K mainGlobals "is_whole" = some (some (.ref f1)))
    (l1 : K.lookup f1 = some ⟨oc1, od1, .func (PySem.W.fnOf "is_whole" "is_whole" (defArgs sWhole) (defBody sWhole) (defScope sWhole) .none kV1 dc1 pm1 an1 cd1 ct1), sl1⟩)
    (c1 : PySem.W.codeIn K cd1 "is_whole" = true) (k1 : PySem.W.keepIn K (.ref f1) = true)
    {f2 : Addr} {oc2 kV2 dc2 pm2 cd2 ct2 : Value} {od2 an2 : Option Addr} {sl2 : Array (Option Value)}
    (a2 : PySem.W.nsIn K mainGlobals "is_whole_in" = some (some (.ref f2)))
    (l2 : K.lookup f2 = some ⟨oc2, od2, .func (PySem.W.fnOf "is_whole_in" "is_whole_in" (defArgs sWholeIn) (defBody sWholeIn) (defScope sWholeIn) .none kV2 dc2 pm2 an2 cd2 ct2), sl2⟩)
    (c2 : PySem.W.codeIn K cd2 "is_whole_in" = true) (k2 : PySem.W.keepIn K (.ref f2) = true)
    {f3 : Addr} {oc3 kV3 dc3 pm3 cd3 ct3 : Value} {od3 an3 : Option Addr} {sl3 : Array (Option Value)}
    (a3 : PySem.W.nsIn K mainGlobals "is_tuple_of" = some (some (.ref f3)))
    (l3 : K.lookup f3 = some ⟨oc3, od3, .func (PySem.W.fnOf "is_tuple_of" "is_tuple_of" (defArgs sTupOf) (defBody sTupOf) (defScope sTupOf) .none kV3 dc3 pm3 an3 cd3 ct3), sl3⟩)
    (c3 : PySem.W.codeIn K cd3 "is_tuple_of" = true) (k3 : PySem.W.keepIn K (.ref f3) = true)
    {f4 : Addr} {oc4 kV4 dc4 pm4 cd4 ct4 : Value} {od4 an4 : Option Addr} {sl4 : Array (Option Value)}
    (a4 : PySem.W.nsIn K mainGlobals "are_places" = some (some (.ref f4)))
    (l4 : K.lookup f4 = some ⟨oc4, od4, .func (PySem.W.fnOf "are_places" "are_places" (defArgs sPlaces) (defBody sPlaces) (defScope sPlaces) .none kV4 dc4 pm4 an4 cd4 ct4), sl4⟩)
    (c4 : PySem.W.codeIn K cd4 "are_places" = true) (k4 : PySem.W.keepIn K (.ref f4) = true)
    {f10 : Addr} {oc10 kV10 dc10 pm10 cd10 ct10 : Value} {od10 an10 : Option Addr} {sl10 : Array (Option Value)}
    (a10 : PySem.W.nsIn K mainGlobals "words_of" = some (some (.ref f10)))
    (l10 : K.lookup f10 = some ⟨oc10, od10, .func (PySem.W.fnOf "words_of" "words_of" (defArgs sWords) (defBody sWords) (defScope sWords) .none kV10 dc10 pm10 an10 cd10 ct10), sl10⟩)
    (c10 : PySem.W.codeIn K cd10 "words_of" = true) (k10 : PySem.W.keepIn K (.ref f10) = true)
    {f18 : Addr} {oc18 kV18 dc18 pm18 cd18 ct18 : Value} {od18 an18 : Option Addr} {sl18 : Array (Option Value)}
    (a18 : PySem.W.nsIn K mainGlobals "fault_of" = some (some (.ref f18)))
    (l18 : K.lookup f18 = some ⟨oc18, od18, .func (PySem.W.fnOf "fault_of" "fault_of" (defArgs sFault) (defBody sFault) (defScope sFault) .none kV18 dc18 pm18 an18 cd18 ct18), sl18⟩)
    (c18 : PySem.W.codeIn K cd18 "fault_of" = true) (k18 : PySem.W.keepIn K (.ref f18) = true)
    {f19 : Addr} {oc19 kV19 dc19 pm19 cd19 ct19 : Value} {od19 an19 : Option Addr} {sl19 : Array (Option Value)}
    (a19 : PySem.W.nsIn K mainGlobals "is_bolt" = some (some (.ref f19)))
    (l19 : K.lookup f19 = some ⟨oc19, od19, .func (PySem.W.fnOf "is_bolt" "is_bolt" (defArgs sBolt) (defBody sBolt) (defScope sBolt) .none kV19 dc19 pm19 an19 cd19 ct19), sl19⟩)
    (c19 : PySem.W.codeIn K cd19 "is_bolt" = true) (k19 : PySem.W.keepIn K (.ref f19) = true)
    {f20 : Addr} {oc20 kV20 dc20 pm20 cd20 ct20 : Value} {od20 an20 : Option Addr} {sl20 : Array (Option Value)}
    (a20 : PySem.W.nsIn K mainGlobals "is_gap" = some (some (.ref f20)))
    (l20 : K.lookup f20 = some ⟨oc20, od20, .func (PySem.W.fnOf "is_gap" "is_gap" (defArgs sGap) (defBody sGap) (defScope sGap) .none kV20 dc20 pm20 an20 cd20 ct20), sl20⟩)
    (c20 : PySem.W.codeIn K cd20 "is_gap" = true) (k20 : PySem.W.keepIn K (.ref f20) = true)
    {f21 : Addr} {oc21 kV21 dc21 pm21 cd21 ct21 : Value} {od21 an21 : Option Addr} {sl21 : Array (Option Value)}
    (a21 : PySem.W.nsIn K mainGlobals "are_ways" = some (some (.ref f21)))
    (l21 : K.lookup f21 = some ⟨oc21, od21, .func (PySem.W.fnOf "are_ways" "are_ways" (defArgs sWays) (defBody sWays) (defScope sWays) .none kV21 dc21 pm21 an21 cd21 ct21), sl21⟩)
    (c21 : PySem.W.codeIn K cd21 "are_ways" = true) (k21 : PySem.W.keepIn K (.ref f21) = true)
    {f22 : Addr} {oc22 kV22 dc22 pm22 cd22 ct22 : Value} {od22 an22 : Option Addr} {sl22 : Array (Option Value)}
    (a22 : PySem.W.nsIn K mainGlobals "manys_of" = some (some (.ref f22)))
    (l22 : K.lookup f22 = some ⟨oc22, od22, .func (PySem.W.fnOf "manys_of" "manys_of" (defArgs sManys) (defBody sManys) (defScope sManys) .none kV22 dc22 pm22 an22 cd22 ct22), sl22⟩)
    (c22 : PySem.W.codeIn K cd22 "manys_of" = true) (k22 : PySem.W.keepIn K (.ref f22) = true)
    {f23 : Addr} {oc23 kV23 dc23 pm23 cd23 ct23 : Value} {od23 an23 : Option Addr} {sl23 : Array (Option Value)}
    (a23 : PySem.W.nsIn K mainGlobals "need_lock" = some (some (.ref f23)))
    (l23 : K.lookup f23 = some ⟨oc23, od23, .func (PySem.W.fnOf "need_lock" "need_lock" (defArgs sNeedL) (defBody sNeedL) (defScope sNeedL) .none kV23 dc23 pm23 an23 cd23 ct23), sl23⟩)
    (c23 : PySem.W.codeIn K cd23 "need_lock" = true) (k23 : PySem.W.keepIn K (.ref f23) = true)
    {f25 : Addr} {oc25 kV25 dc25 pm25 cd25 ct25 : Value} {od25 an25 : Option Addr} {sl25 : Array (Option Value)}
    (a25 : PySem.W.nsIn K mainGlobals "is_within" = some (some (.ref f25)))
    (l25 : K.lookup f25 = some ⟨oc25, od25, .func (PySem.W.fnOf "is_within" "is_within" (defArgs sWithin) (defBody sWithin) (defScope sWithin) .none kV25 dc25 pm25 an25 cd25 ct25), sl25⟩)
    (c25 : PySem.W.codeIn K cd25 "is_within" = true) (k25 : PySem.W.keepIn K (.ref f25) = true)
    {f26 : Addr} {oc26 kV26 dc26 pm26 cd26 ct26 : Value} {od26 an26 : Option Addr} {sl26 : Array (Option Value)}
    (a26 : PySem.W.nsIn K mainGlobals "is_bolt_within" = some (some (.ref f26)))
    (l26 : K.lookup f26 = some ⟨oc26, od26, .func (PySem.W.fnOf "is_bolt_within" "is_bolt_within" (defArgs sBoltW) (defBody sBoltW) (defScope sBoltW) .none kV26 dc26 pm26 an26 cd26 ct26), sl26⟩)
    (c26 : PySem.W.codeIn K cd26 "is_bolt_within" = true) (k26 : PySem.W.keepIn K (.ref f26) = true)
    {f28 : Addr} {oc28 kV28 dc28 pm28 cd28 ct28 : Value} {od28 an28 : Option Addr} {sl28 : Array (Option Value)}
    (a28 : PySem.W.nsIn K mainGlobals "_law_pen" = some (some (.ref f28)))
    (l28 : K.lookup f28 = some ⟨oc28, od28, .func (PySem.W.fnOf "_law_pen" "_law_pen" (defArgs sPen) (defBody sPen) (defScope sPen) .none kV28 dc28 pm28 an28 cd28 ct28), sl28⟩)
    (c28 : PySem.W.codeIn K cd28 "_law_pen" = true) (k28 : PySem.W.keepIn K (.ref f28) = true)
    {f29 : Addr} {oc29 kV29 dc29 pm29 cd29 ct29 : Value} {od29 an29 : Option Addr} {sl29 : Array (Option Value)}
    (a29 : PySem.W.nsIn K mainGlobals "_law_draw" = some (some (.ref f29)))
    (l29 : K.lookup f29 = some ⟨oc29, od29, .func (PySem.W.fnOf "_law_draw" "_law_draw" (defArgs sDraw) (defBody sDraw) (defScope sDraw) .none kV29 dc29 pm29 an29 cd29 ct29), sl29⟩)
    (c29 : PySem.W.codeIn K cd29 "_law_draw" = true) (k29 : PySem.W.keepIn K (.ref f29) = true)
    {f30 : Addr} {oc30 kV30 dc30 pm30 cd30 ct30 : Value} {od30 an30 : Option Addr} {sl30 : Array (Option Value)}
    (a30 : PySem.W.nsIn K mainGlobals "_law_pick" = some (some (.ref f30)))
    (l30 : K.lookup f30 = some ⟨oc30, od30, .func (PySem.W.fnOf "_law_pick" "_law_pick" (defArgs sPick) (defBody sPick) (defScope sPick) .none kV30 dc30 pm30 an30 cd30 ct30), sl30⟩)
    (c30 : PySem.W.codeIn K cd30 "_law_pick" = true) (k30 : PySem.W.keepIn K (.ref f30) = true)
    {f31 : Addr} {oc31 kV31 dc31 pm31 cd31 ct31 : Value} {od31 an31 : Option Addr} {sl31 : Array (Option Value)}
    (a31 : PySem.W.nsIn K mainGlobals "_law_shuffled" = some (some (.ref f31)))
    (l31 : K.lookup f31 = some ⟨oc31, od31, .func (PySem.W.fnOf "_law_shuffled" "_law_shuffled" (defArgs sShuf) (defBody sShuf) (defScope sShuf) .none kV31 dc31 pm31 an31 cd31 ct31), sl31⟩)
    (c31 : PySem.W.codeIn K cd31 "_law_shuffled" = true) (k31 : PySem.W.keepIn K (.ref f31) = true)
    {f32 : Addr} {oc32 kV32 dc32 pm32 cd32 ct32 : Value} {od32 an32 : Option Addr} {sl32 : Array (Option Value)}
    (a32 : PySem.W.nsIn K mainGlobals "_law_price" = some (some (.ref f32)))
    (l32 : K.lookup f32 = some ⟨oc32, od32, .func (PySem.W.fnOf "_law_price" "_law_price" (defArgs sPrc) (defBody sPrc) (defScope sPrc) .none kV32 dc32 pm32 an32 cd32 ct32), sl32⟩)
    (c32 : PySem.W.codeIn K cd32 "_law_price" = true) (k32 : PySem.W.keepIn K (.ref f32) = true)
    {f33 : Addr} {oc33 kV33 dc33 pm33 cd33 ct33 : Value} {od33 an33 : Option Addr} {sl33 : Array (Option Value)}
    (a33 : PySem.W.nsIn K mainGlobals "_law_bases" = some (some (.ref f33)))
    (l33 : K.lookup f33 = some ⟨oc33, od33, .func (PySem.W.fnOf "_law_bases" "_law_bases" (defArgs sBases) (defBody sBases) (defScope sBases) .none kV33 dc33 pm33 an33 cd33 ct33), sl33⟩)
    (c33 : PySem.W.codeIn K cd33 "_law_bases" = true) (k33 : PySem.W.keepIn K (.ref f33) = true)
    {f34 : Addr} {oc34 kV34 dc34 pm34 cd34 ct34 : Value} {od34 an34 : Option Addr} {sl34 : Array (Option Value)}
    (a34 : PySem.W.nsIn K mainGlobals "_law_cuts" = some (some (.ref f34)))
    (l34 : K.lookup f34 = some ⟨oc34, od34, .func (PySem.W.fnOf "_law_cuts" "_law_cuts" (defArgs sCuts) (defBody sCuts) (defScope sCuts) .none kV34 dc34 pm34 an34 cd34 ct34), sl34⟩)
    (c34 : PySem.W.codeIn K cd34 "_law_cuts" = true) (k34 : PySem.W.keepIn K (.ref f34) = true)
    {f35 : Addr} {oc35 kV35 dc35 pm35 cd35 ct35 : Value} {od35 an35 : Option Addr} {sl35 : Array (Option Value)}
    (a35 : PySem.W.nsIn K mainGlobals "_law_many" = some (some (.ref f35)))
    (l35 : K.lookup f35 = some ⟨oc35, od35, .func (PySem.W.fnOf "_law_many" "_law_many" (defArgs sMany) (defBody sMany) (defScope sMany) .none kV35 dc35 pm35 an35 cd35 ct35), sl35⟩)
    (c35 : PySem.W.codeIn K cd35 "_law_many" = true) (k35 : PySem.W.keepIn K (.ref f35) = true)
    {f36 : Addr} {oc36 kV36 dc36 pm36 cd36 ct36 : Value} {od36 an36 : Option Addr} {sl36 : Array (Option Value)}
    (a36 : PySem.W.nsIn K mainGlobals "_law_gaps" = some (some (.ref f36)))
    (l36 : K.lookup f36 = some ⟨oc36, od36, .func (PySem.W.fnOf "_law_gaps" "_law_gaps" (defArgs sGaps) (defBody sGaps) (defScope sGaps) .none kV36 dc36 pm36 an36 cd36 ct36), sl36⟩)
    (c36 : PySem.W.codeIn K cd36 "_law_gaps" = true) (k36 : PySem.W.keepIn K (.ref f36) = true)
    {f37 : Addr} {oc37 kV37 dc37 pm37 cd37 ct37 : Value} {od37 an37 : Option Addr} {sl37 : Array (Option Value)}
    (a37 : PySem.W.nsIn K mainGlobals "_law_lock" = some (some (.ref f37)))
    (l37 : K.lookup f37 = some ⟨oc37, od37, .func (PySem.W.fnOf "_law_lock" "_law_lock" (defArgs sLock) (defBody sLock) (defScope sLock) .none kV37 dc37 pm37 an37 cd37 ct37), sl37⟩)
    (c37 : PySem.W.codeIn K cd37 "_law_lock" = true) (k37 : PySem.W.keepIn K (.ref f37) = true)
    {f38 : Addr} {oc38 kV38 dc38 pm38 cd38 ct38 : Value} {od38 an38 : Option Addr} {sl38 : Array (Option Value)}
    (a38 : PySem.W.nsIn K mainGlobals "_law_ways_of" = some (some (.ref f38)))
    (l38 : K.lookup f38 = some ⟨oc38, od38, .func (PySem.W.fnOf "_law_ways_of" "_law_ways_of" (defArgs sLWaysOf) (defBody sLWaysOf) (defScope sLWaysOf) .none kV38 dc38 pm38 an38 cd38 ct38), sl38⟩)
    (c38 : PySem.W.codeIn K cd38 "_law_ways_of" = true) (k38 : PySem.W.keepIn K (.ref f38) = true)
    {f39 : Addr} {oc39 kV39 dc39 pm39 cd39 ct39 : Value} {od39 an39 : Option Addr} {sl39 : Array (Option Value)}
    (a39 : PySem.W.nsIn K mainGlobals "_law_is_due" = some (some (.ref f39)))
    (l39 : K.lookup f39 = some ⟨oc39, od39, .func (PySem.W.fnOf "_law_is_due" "_law_is_due" (defArgs sLDue) (defBody sLDue) (defScope sLDue) .none kV39 dc39 pm39 an39 cd39 ct39), sl39⟩)
    (c39 : PySem.W.codeIn K cd39 "_law_is_due" = true) (k39 : PySem.W.keepIn K (.ref f39) = true)
    {f40 : Addr} {oc40 kV40 dc40 pm40 cd40 ct40 : Value} {od40 an40 : Option Addr} {sl40 : Array (Option Value)}
    (a40 : PySem.W.nsIn K mainGlobals "_law_otherwise" = some (some (.ref f40)))
    (l40 : K.lookup f40 = some ⟨oc40, od40, .func (PySem.W.fnOf "_law_otherwise" "_law_otherwise" (defArgs sLOther) (defBody sLOther) (defScope sLOther) .none kV40 dc40 pm40 an40 cd40 ct40), sl40⟩)
    (c40 : PySem.W.codeIn K cd40 "_law_otherwise" = true) (k40 : PySem.W.keepIn K (.ref f40) = true)
    {f41 : Addr} {oc41 kV41 dc41 pm41 cd41 ct41 : Value} {od41 an41 : Option Addr} {sl41 : Array (Option Value)}
    (a41 : PySem.W.nsIn K mainGlobals "_law_of_counts" = some (some (.ref f41)))
    (l41 : K.lookup f41 = some ⟨oc41, od41, .func (PySem.W.fnOf "_law_of_counts" "_law_of_counts" (defArgs sLOfC) (defBody sLOfC) (defScope sLOfC) .none kV41 dc41 pm41 an41 cd41 ct41), sl41⟩)
    (c41 : PySem.W.codeIn K cd41 "_law_of_counts" = true) (k41 : PySem.W.keepIn K (.ref f41) = true)
    {f42 : Addr} {oc42 kV42 dc42 pm42 cd42 ct42 : Value} {od42 an42 : Option Addr} {sl42 : Array (Option Value)}
    (a42 : PySem.W.nsIn K mainGlobals "_law_refused" = some (some (.ref f42)))
    (l42 : K.lookup f42 = some ⟨oc42, od42, .func (PySem.W.fnOf "_law_refused" "_law_refused" (defArgs sRefd) (defBody sRefd) (defScope sRefd) .none kV42 dc42 pm42 an42 cd42 ct42), sl42⟩)
    (c42 : PySem.W.codeIn K cd42 "_law_refused" = true) (k42 : PySem.W.keepIn K (.ref f42) = true)
    {f43 : Addr} {oc43 kV43 dc43 pm43 cd43 ct43 : Value} {od43 an43 : Option Addr} {sl43 : Array (Option Value)}
    (a43 : PySem.W.nsIn K mainGlobals "law" = some (some (.ref f43)))
    (l43 : K.lookup f43 = some ⟨oc43, od43, .func (PySem.W.fnOf "law" "law" (defArgs sLaw) (defBody sLaw) (defScope sLaw) .none kV43 dc43 pm43 an43 cd43 ct43), sl43⟩)
    (c43 : PySem.W.codeIn K cd43 "law" = true) (k43 : PySem.W.keepIn K (.ref f43) = true)
    {t0 : Tok} (n0 : PySem.W.nsIn K mainGlobals "MOST_BOLTS" = some (some (.int 60 t0)))
    {t1 : Tok} (n1 : PySem.W.nsIn K mainGlobals "FEWEST_PLACES" = some (some (.int 2 t1)))
    {t2 : Tok} (n2 : PySem.W.nsIn K mainGlobals "MOST_PLACES" = some (some (.int 4 t2)))
    {t3 : Tok} (n3 : PySem.W.nsIn K mainGlobals "MOST_WAYS" = some (some (.int 8 t3)))
    {t4 : Tok} (n4 : PySem.W.nsIn K mainGlobals "MOST_WORDS" = some (some (.int 8 t4)))
    {t5 : Tok} (n5 : PySem.W.nsIn K mainGlobals "MOST_PRICE" = some (some (.int 1000000 t5)))
    (z0 : PySem.W.nsIn K mainGlobals "isinstance" = some none)
    (z1 : PySem.W.nsIn K mainGlobals "int" = some none)
    (z2 : PySem.W.nsIn K mainGlobals "bool" = some none)
    (z3 : PySem.W.nsIn K mainGlobals "tuple" = some none)
    (z4 : PySem.W.nsIn K mainGlobals "list" = some none)
    (z5 : PySem.W.nsIn K mainGlobals "len" = some none)
    (z6 : PySem.W.nsIn K mainGlobals "zip" = some none)
    (z7 : PySem.W.nsIn K mainGlobals "all" = some none)
    (z8 : PySem.W.nsIn K mainGlobals "range" = some none)
    (z9 : PySem.W.nsIn K mainGlobals "reversed" = some none)
    (z10 : PySem.W.nsIn K mainGlobals "enumerate" = some none)
    (z11 : PySem.W.nsIn K mainGlobals "sorted" = some none)
    (z12 : PySem.W.nsIn K mainGlobals "set" = some none)
    (z13 : PySem.W.nsIn K mainGlobals "abs" = some none)
    (z14 : PySem.W.nsIn K mainGlobals "repr" = some none)
    (zv : PySem.W.nsIn K mainGlobals "ValueError" = some none) (zs : PySem.W.nsIn K mainGlobals "min" = some none) (zx : PySem.W.nsIn K mainGlobals "max" = some none)
    {CS : Addr} (xSa : PySem.W.nsIn K mainGlobals "Unlike" = some (some (.ref CS))) (xSq : PySem.W.excIn K CS [.type "ValueError", .type "Exception", .type "BaseException", .type "object"] "ValueError.__new__" = true) (xSk : PySem.W.keepIn K (.ref CS) = true)
    (xSs : PySem.W.subIn K (.ref CS) (.type "BaseException") = some true) (xSt : PySem.W.typeIn K (.ref CS) = some (.type "type"))
    (xS1 : PySem.W.findIn K (.ref CS) "__getattribute__" = some (some (.builtin "BaseException.__getattribute__"))) (xS2 : PySem.W.findIn K (.ref CS) "__getattr__" = some none) (xS3 : PySem.W.hasDictIn K CS = true)
    (xS4 : PySem.W.findIn K (.ref CS) "__class__" = some (some (.builtin "object.__class__"))) (xS5 : PySem.W.mroIn K CS (.type "object") = some true)
    (xS6 : PySem.W.kitOne K (.ref CS) (.type "ValueError") = some true) (xS7 : PySem.W.exmOne K (.ref CS) (.ref CS) = some true)
    {CL BO : Addr} {nm q : Str} {NN : Addr} {bs : List Value} {sn : List Str} {sub : List Value} {ab : Bool} {col : Option Bool} {dd : Option Addr} {m0 m1 m2 m3 m5 : Option Value}
    (xLa : PySem.W.nsIn K mainGlobals "NoLock" = some (some (.ref CL)))
    (xLl : K.lookup CL = some (excClassObj nm q CL NN bs [.ref BO, .type "ValueError", .type "Exception", .type "BaseException", .type "object"] true sn sub ab col dd m0 m1 m2 m3 m5 "ValueError.__new__"))
    (xL0 : PySem.W.findIn K (.ref CL) "__setattr__" = some (some (.builtin "object.__setattr__"))) (xL1 : PySem.W.findIn K (.ref CL) "__getattribute__" = some (some (.builtin "BaseException.__getattribute__"))) (xL2 : PySem.W.findIn K (.ref CL) "__getattr__" = some none) (xLn : PySem.W.findIn K (.ref CL) "fault" = some none)
    (xLk : PySem.W.keepIn K (.ref CL) = true) (xLs : PySem.W.subIn K (.ref CL) (.type "BaseException") = some true) (xLt : PySem.W.typeIn K (.ref CL) = some (.type "type")) (xL3 : PySem.W.hasDictIn K CL = true)
    {fm : Addr} {ocm kVm dcm pmm cdm ctm : Value} {odm anm : Option Addr} {slm : Array (Option Value)}
    (xLi : PySem.W.findIn K (.ref CL) "__init__" = some (some (.ref fm))) (xLf : PySem.W.typeIn K (.ref fm) = some (.type "function"))
    (lm : K.lookup fm = some ⟨ocm, odm, .func (PySem.W.fnOf "__init__" "NoLock.__init__" (defArgs sNlInit) (defBody sNlInit) (defScope sNlInit) .none kVm dcm pmm anm cdm ctm), slm⟩) (cm : PySem.W.codeIn K cdm "NoLock.__init__" = true) (km : PySem.W.keepIn K (.ref fm) = true)
    (y1 : PySem.W.specialIn K (.builtin "object.__class__") "__get__" = some (some (.builtin "getset_descriptor.__get__"))) (y2 : PySem.W.takesIn K (.builtin "object.__class__") = some true)
    (y3 : PySem.W.exmOne K (.ref CL) (.ref CL) = some true) (y4 : PySem.W.exmOne K (.ref CL) (.ref CS) = some false) :
    ∃ fd : FuncData, (∀ (t : Shared) (u : Value), BindsTo t fd ⟨[u], []⟩ [("_law_script", u)]) ∧ ∀ bs : Heap, K.In bs → bs.Ns mainGlobals mg → FnG pr w K mg bs 10 fa fd ["_law_script"] (spLaw K) := by
  have e := hfa.symm.trans (PySem.W.mg_of X G a43)
  cases e
  have F1 := fun_mk (st := sWhole) l1 c1 k1
  have F2 := fun_mk (st := sWholeIn) l2 c2 k2
  have F3 := fun_mk (st := sTupOf) l3 c3 k3
  have F4 := fun_mk (st := sPlaces) l4 c4 k4
  have F10 := fun_mk (st := sWords) l10 c10 k10
  have F18 := fun_mk (st := sFault) l18 c18 k18
  have F19 := fun_mk (st := sBolt) l19 c19 k19
  have F20 := fun_mk (st := sGap) l20 c20 k20
  have F21 := fun_mk (st := sWays) l21 c21 k21
  have F22 := fun_mk (st := sManys) l22 c22 k22
  have F23 := fun_mk (st := sNeedL) l23 c23 k23
  have F25 := fun_mk (st := sWithin) l25 c25 k25
  have F26 := fun_mk (st := sBoltW) l26 c26 k26
  have F28 := fun_mk (st := sPen) l28 c28 k28
  have F29 := fun_mk (st := sDraw) l29 c29 k29
  have F30 := fun_mk (st := sPick) l30 c30 k30
  have F31 := fun_mk (st := sShuf) l31 c31 k31
  have F32 := fun_mk (st := sPrc) l32 c32 k32
  have F33 := fun_mk (st := sBases) l33 c33 k33
  have F34 := fun_mk (st := sCuts) l34 c34 k34
  have F35 := fun_mk (st := sMany) l35 c35 k35
  have F36 := fun_mk (st := sGaps) l36 c36 k36
  have F37 := fun_mk (st := sLock) l37 c37 k37
  have F38 := fun_mk (st := sLWaysOf) l38 c38 k38
  have F39 := fun_mk (st := sLDue) l39 c39 k39
  have F40 := fun_mk (st := sLOther) l40 c40 k40
  have F41 := fun_mk (st := sLOfC) l41 c41 k41
  have F42 := fun_mk (st := sRefd) l42 c42 k42
  have F43 := fun_mk (st := sLaw) l43 c43 k43
  have Fm := fun_mk (st := sNlInit) lm cm km
  have b1 := F1.binds (ps := ["thing"]) fun _ _ _ _ _ _ us hl => match us, hl with | [_], _ => rfl
  have b2 := F2.binds (ps := ["thing", "low", "high"]) fun _ _ _ _ _ _ us hl => match us, hl with | [_, _, _], _ => rfl
  have b3 := F3.binds (ps := ["thing", "low", "high"]) fun _ _ _ _ _ _ us hl => match us, hl with | [_, _, _], _ => rfl
  have b4 := F4.binds (ps := ["thing", "manys"]) fun _ _ _ _ _ _ us hl => match us, hl with | [_, _], _ => rfl
  have b10 := F10.binds (ps := ["lock"]) fun _ _ _ _ _ _ us hl => match us, hl with | [_], _ => rfl
  have b18 := F18.binds (ps := ["thing"]) fun _ _ _ _ _ _ us hl => match us, hl with | [_], _ => rfl
  have b19 := F19.binds (ps := ["thing", "below"]) fun _ _ _ _ _ _ us hl => match us, hl with | [_, _], _ => rfl
  have b20 := F20.binds (ps := ["thing", "many", "below"]) fun _ _ _ _ _ _ us hl => match us, hl with | [_, _, _], _ => rfl
  have b21 := F21.binds (ps := ["thing", "below"]) fun _ _ _ _ _ _ us hl => match us, hl with | [_, _], _ => rfl
  have b22 := F22.binds (ps := ["lock"]) fun _ _ _ _ _ _ us hl => match us, hl with | [_], _ => rfl
  have b23 := F23.binds (ps := ["lock"]) fun _ _ _ _ _ _ us hl => match us, hl with | [_], _ => rfl
  have b25 := F25.binds (ps := ["lock", "second"]) fun _ _ _ _ _ _ us hl => match us, hl with | [_, _], _ => rfl
  have b26 := F26.binds (ps := ["bolt", "other"]) fun _ _ _ _ _ _ us hl => match us, hl with | [_, _], _ => rfl
  have b28 := F28.binds (ps := ["_law_script"]) fun _ _ _ _ _ _ us hl => match us, hl with | [_], _ => rfl
  have b29 := F29.binds (ps := ["_law_pen_here", "_law_many_here"]) fun _ _ _ _ _ _ us hl => match us, hl with | [_, _], _ => rfl
  have b30 := F30.binds (ps := ["_law_pen_here", "_law_bag"]) fun _ _ _ _ _ _ us hl => match us, hl with | [_, _], _ => rfl
  have b31 := F31.binds (ps := ["_law_pen_here", "_law_bag"]) fun _ _ _ _ _ _ us hl => match us, hl with | [_, _], _ => rfl
  have b32 := F32.binds (ps := ["_law_pen_here", "_law_dear"]) fun _ _ _ _ _ _ us hl => match us, hl with | [_, _], _ => rfl
  have b33 := F33.binds (ps := ["_law_pen_here", "_law_counts", "_law_most"]) fun _ _ _ _ _ _ us hl => match us, hl with | [_, _, _], _ => rfl
  have b34 := F34.binds (ps := ["_law_words", "_law_many_here"]) fun _ _ _ _ _ _ us hl => match us, hl with | [_, _], _ => rfl
  have b35 := F35.binds (ps := ["_law_pen_here", "_law_low"]) fun _ _ _ _ _ _ us hl => match us, hl with | [_, _], _ => rfl
  have b36 := F36.binds (ps := ["_law_pen_here", "_law_count", "_law_words", "_law_dear"]) fun _ _ _ _ _ _ us hl => match us, hl with | [_, _, _, _], _ => rfl
  have b37 := F37.binds (ps := ["_law_pen_here", "_law_many_here", "_law_top", "_law_dear"]) fun _ _ _ _ _ _ us hl => match us, hl with | [_, _, _, _], _ => rfl
  have b38 := F38.binds (ps := ["_law_lock_here"]) fun _ _ _ _ _ _ us hl => match us, hl with | [_], _ => rfl
  have b39 := F39.binds (ps := ["_law_lock_here", "_law_second"]) fun _ _ _ _ _ _ us hl => match us, hl with | [_, _], _ => rfl
  have b40 := F40.binds (ps := ["_law_pen_here", "_law_lock_here"]) fun _ _ _ _ _ _ us hl => match us, hl with | [_, _], _ => rfl
  have b41 := F41.binds (ps := ["_law_pen_here", "_law_lock_here"]) fun _ _ _ _ _ _ us hl => match us, hl with | [_, _], _ => rfl
  have b42 := F42.binds (ps := ["_law_lock_here", "_law_second"]) fun _ _ _ _ _ _ us hl => match us, hl with | [_, _], _ => rfl
  have bm := Fm.binds (ps := ["self", "fault"]) fun _ _ _ _ _ _ us hl => match us, hl with | [_, _], _ => rfl
  have B : Bi mg := ⟨PySem.W.mg_none_of X G z0, PySem.W.mg_none_of X G z1, PySem.W.mg_none_of X G z2, PySem.W.mg_none_of X G z3, PySem.W.mg_none_of X G z4, PySem.W.mg_none_of X G z5, PySem.W.mg_none_of X G z6, PySem.W.mg_none_of X G z7, PySem.W.mg_none_of X G z8, PySem.W.mg_none_of X G z9, PySem.W.mg_none_of X G z10, PySem.W.mg_none_of X G z11, PySem.W.mg_none_of X G z12, PySem.W.mg_none_of X G z13, PySem.W.mg_none_of X G z14⟩
  have Nm : Nu mg := ⟨⟨_, PySem.W.mg_of X G n0⟩, ⟨_, PySem.W.mg_of X G n1⟩, ⟨_, PySem.W.mg_of X G n2⟩, ⟨_, PySem.W.mg_of X G n3⟩, ⟨_, PySem.W.mg_of X G n4⟩, ⟨_, PySem.W.mg_of X G n5⟩⟩
  have D : Pr K mg := ⟨_, _, F1, b1, PySem.W.mg_of X G a1, _, _, F2, b2, PySem.W.mg_of X G a2, _, _, F3, b3, PySem.W.mg_of X G a3, _, _, F4, b4, PySem.W.mg_of X G a4, _, _, F10, b10, PySem.W.mg_of X G a10, _, _, F18, b18, PySem.W.mg_of X G a18, _, _, F19, b19, PySem.W.mg_of X G a19, _, _, F20, b20, PySem.W.mg_of X G a20, _, _, F21, b21, PySem.W.mg_of X G a21, _, _, F22, b22, PySem.W.mg_of X G a22, _, _, F23, b23, PySem.W.mg_of X G a23, _, _, F25, b25, PySem.W.mg_of X G a25, _, _, F26, b26, PySem.W.mg_of X G a26, B, Nm⟩
  let L : Ld K mg := ⟨_, _, F28, b28, PySem.W.mg_of X G a28, _, _, F29, b29, PySem.W.mg_of X G a29, _, _, F30, b30, PySem.W.mg_of X G a30, _, _, F31, b31, PySem.W.mg_of X G a31, _, _, F32, b32, PySem.W.mg_of X G a32, _, _, F33, b33, PySem.W.mg_of X G a33, _, _, F34, b34, PySem.W.mg_of X G a34, _, _, F35, b35, PySem.W.mg_of X G a35, _, _, F36, b36, PySem.W.mg_of X G a36, _, _, F37, b37, PySem.W.mg_of X G a37, _, _, F38, b38, PySem.W.mg_of X G a38, _, _, F39, b39, PySem.W.mg_of X G a39, _, _, F40, b40, PySem.W.mg_of X G a40, _, _, F41, b41, PySem.W.mg_of X G a41, _, _, F42, b42, PySem.W.mg_of X G a42, PySem.W.mg_none_of X G zv, PySem.W.mg_none_of X G zs, PySem.W.mg_none_of X G zx⟩
  have T : OexC K CL := ⟨⟨nm, q, NN, bs, _, sn, sub, ab, col, dd, m0, m1, m2, m3, m5, xLl, by rfl⟩, xL0, xLs, xLt, xLk⟩
  let N : NlC K mg := ⟨CL, fm, _, PySem.W.mg_of X G xLa, T, xLi, xLf, xLn, Fm, bm⟩
  let NS : XcK K mg "Unlike" := ⟨CS, PySem.W.mg_of X G xSa, xSq, xSk, xSs, xSt⟩
  have T2 : TwoU K N.C NS.C := ⟨⟨xL1, xL2, xLs, xL3⟩, xLn, ⟨xS1, xS2, xSs, xS3, xS4, y1, y2, xS5⟩, xS6, y3, xS7, y4⟩
  exact ⟨_, fun t u => .of_eq rfl, fun bs _ _ => ok_law F43 D L N NS T2⟩
end Wb

set_option Elab.async false
set_option linter.all false
set_option maxRecDepth 100000
open PySem PySem.W PyProof.Rows
set_option maxHeartbeats 0 in
theorem PySem.Challenge.cw_waitbolts_k54_locks_within_one_another_holds : PySem.Challenge.rw_waitbolts_k54_locks_within_one_another.Holds := by
  w_on; o_law; k_head; (case hw => w_witness2)
  k_fill
  refine Wb.walk_top (l := PySem.Challenge.rw_waitbolts_k54_locks_within_one_another) (n := 63) (k := 10) (x := "_law_script") (sp := fun w => Wb.spLaw _) rfl (by decide) rfl ⟨rfl, by decide, by decide⟩ rfl (fun w h Y => PySem.W.kIn_of Y) ?F (fun w I a ns hS => ⟨a, ns, rfl, hS, fun _ => rfl⟩)
  case F =>
    intro w mg fa h KX G hmg
    refine' Wb.all_facts KX G hmg ?a1 ?l1 ?c1 ?k1 ?a2 ?l2 ?c2 ?k2 ?a3 ?l3 ?c3 ?k3 ?a4 ?l4 ?c4 ?k4 ?a10 ?l10 ?c10 ?k10 ?a18 ?l18 ?c18 ?k18 ?a19 ?l19 ?c19 ?k19 ?a20 ?l20 ?c20 ?k20 ?a21 ?l21 ?c21 ?k21 ?a22 ?l22 ?c22 ?k22 ?a23 ?l23 ?c23 ?k23 ?a25 ?l25 ?c25 ?k25 ?a26 ?l26 ?c26 ?k26 ?a28 ?l28 ?c28 ?k28 ?a29 ?l29 ?c29 ?k29 ?a30 ?l30 ?c30 ?k30 ?a31 ?l31 ?c31 ?k31 ?a32 ?l32 ?c32 ?k32 ?a33 ?l33 ?c33 ?k33 ?a34 ?l34 ?c34 ?k34 ?a35 ?l35 ?c35 ?k35 ?a36 ?l36 ?c36 ?k36 ?a37 ?l37 ?c37 ?k37 ?a38 ?l38 ?c38 ?k38 ?a39 ?l39 ?c39 ?k39 ?a40 ?l40 ?c40 ?k40 ?a41 ?l41 ?c41 ?k41 ?a42 ?l42 ?c42 ?k42 ?a43 ?l43 ?c43 ?k43 ?n0 ?n1 ?n2 ?n3 ?n4 ?n5 ?z0 ?z1 ?z2 ?z3 ?z4 ?z5 ?z6 ?z7 ?z8 ?z9 ?z10 ?z11 ?z12 ?z13 ?z14 ?zv ?zs ?zx ?xSa ?xSq ?xSk ?xSs ?xSt ?xS1 ?xS2 ?xS3 ?xS4 ?xS5 ?xS6 ?xS7 ?xLa ?xLl ?xL0 ?xL1 ?xL2 ?xLn ?xLk ?xLs ?xLt ?xL3 ?xLi ?xLf ?lm ?cm ?km ?y1 ?y2 ?y3 ?y4
    (case a1 => first | k_is | rfl | kernel_rfl)
    (case l1 => first | k_is | rfl | kernel_rfl)
    (case c1 => first | k_is | rfl | kernel_rfl)
    (case k1 => first | k_is | rfl | kernel_rfl)
    (case a2 => first | k_is | rfl | kernel_rfl)
    (case l2 => first | k_is | rfl | kernel_rfl)
    (case c2 => first | k_is | rfl | kernel_rfl)
    (case k2 => first | k_is | rfl | kernel_rfl)
    (case a3 => first | k_is | rfl | kernel_rfl)
    (case l3 => first | k_is | rfl | kernel_rfl)
    (case c3 => first | k_is | rfl | kernel_rfl)
    (case k3 => first | k_is | rfl | kernel_rfl)
    (case a4 => first | k_is | rfl | kernel_rfl)
    (case l4 => first | k_is | rfl | kernel_rfl)
    (case c4 => first | k_is | rfl | kernel_rfl)
    (case k4 => first | k_is | rfl | kernel_rfl)
    (case a10 => first | k_is | rfl | kernel_rfl)
    (case l10 => first | k_is | rfl | kernel_rfl)
    (case c10 => first | k_is | rfl | kernel_rfl)
    (case k10 => first | k_is | rfl | kernel_rfl)
    (case a18 => first | k_is | rfl | kernel_rfl)
    (case l18 => first | k_is | rfl | kernel_rfl)
    (case c18 => first | k_is | rfl | kernel_rfl)
    (case k18 => first | k_is | rfl | kernel_rfl)
    (case a19 => first | k_is | rfl | kernel_rfl)
    (case l19 => first | k_is | rfl | kernel_rfl)
    (case c19 => first | k_is | rfl | kernel_rfl)
    (case k19 => first | k_is | rfl | kernel_rfl)
    (case a20 => first | k_is | rfl | kernel_rfl)
    (case l20 => first | k_is | rfl | kernel_rfl)
    (case c20 => first | k_is | rfl | kernel_rfl)
    (case k20 => first | k_is | rfl | kernel_rfl)
    (case a21 => first | k_is | rfl | kernel_rfl)
    (case l21 => first | k_is | rfl | kernel_rfl)
    (case c21 => first | k_is | rfl | kernel_rfl)
    (case k21 => first | k_is | rfl | kernel_rfl)
    (case a22 => first | k_is | rfl | kernel_rfl)
    (case l22 => first | k_is | rfl | kernel_rfl)
    (case c22 => first | k_is | rfl | kernel_rfl)
    (case k22 => first | k_is | rfl | kernel_rfl)
    (case a23 => first | k_is | rfl | kernel_rfl)
    (case l23 => first | k_is | rfl | kernel_rfl)
    (case c23 => first | k_is | rfl | kernel_rfl)
    (case k23 => first | k_is | rfl | kernel_rfl)
    (case a25 => first | k_is | rfl | kernel_rfl)
    (case l25 => first | k_is | rfl | kernel_rfl)
    (case c25 => first | k_is | rfl | kernel_rfl)
    (case k25 => first | k_is | rfl | kernel_rfl)
    (case a26 => first | k_is | rfl | kernel_rfl)
    (case l26 => first | k_is | rfl | kernel_rfl)
    (case c26 => first | k_is | rfl | kernel_rfl)
    (case k26 => first | k_is | rfl | kernel_rfl)
    (case a28 => first | k_is | rfl | kernel_rfl)
    (case l28 => first | k_is | rfl | kernel_rfl)
    (case c28 => first | k_is | rfl | kernel_rfl)
    (case k28 => first | k_is | rfl | kernel_rfl)
    (case a29 => first | k_is | rfl | kernel_rfl)
    (case l29 => first | k_is | rfl | kernel_rfl)
    (case c29 => first | k_is | rfl | kernel_rfl)
    (case k29 => first | k_is | rfl | kernel_rfl)
    (case a30 => first | k_is | rfl | kernel_rfl)
    (case l30 => first | k_is | rfl | kernel_rfl)
    (case c30 => first | k_is | rfl | kernel_rfl)
    (case k30 => first | k_is | rfl | kernel_rfl)
    (case a31 => first | k_is | rfl | kernel_rfl)
    (case l31 => first | k_is | rfl | kernel_rfl)
    (case c31 => first | k_is | rfl | kernel_rfl)
    (case k31 => first | k_is | rfl | kernel_rfl)
    (case a32 => first | k_is | rfl | kernel_rfl)
    (case l32 => first | k_is | rfl | kernel_rfl)
    (case c32 => first | k_is | rfl | kernel_rfl)
    (case k32 => first | k_is | rfl | kernel_rfl)
    (case a33 => first | k_is | rfl | kernel_rfl)
    (case l33 => first | k_is | rfl | kernel_rfl)
    (case c33 => first | k_is | rfl | kernel_rfl)
    (case k33 => first | k_is | rfl | kernel_rfl)
    (case a34 => first | k_is | rfl | kernel_rfl)
    (case l34 => first | k_is | rfl | kernel_rfl)
    (case c34 => first | k_is | rfl | kernel_rfl)
    (case k34 => first | k_is | rfl | kernel_rfl)
    (case a35 => first | k_is | rfl | kernel_rfl)
    (case l35 => first | k_is | rfl | kernel_rfl)
    (case c35 => first | k_is | rfl | kernel_rfl)
    (case k35 => first | k_is | rfl | kernel_rfl)
    (case a36 => first | k_is | rfl | kernel_rfl)
    (case l36 => first | k_is | rfl | kernel_rfl)
    (case c36 => first | k_is | rfl | kernel_rfl)
    (case k36 => first | k_is | rfl | kernel_rfl)
    (case a37 => first | k_is | rfl | kernel_rfl)
    (case l37 => first | k_is | rfl | kernel_rfl)
    (case c37 => first | k_is | rfl | kernel_rfl)
    (case k37 => first | k_is | rfl | kernel_rfl)
    (case a38 => first | k_is | rfl | kernel_rfl)
    (case l38 => first | k_is | rfl | kernel_rfl)
    (case c38 => first | k_is | rfl | kernel_rfl)
    (case k38 => first | k_is | rfl | kernel_rfl)
    (case a39 => first | k_is | rfl | kernel_rfl)
    (case l39 => first | k_is | rfl | kernel_rfl)
    (case c39 => first | k_is | rfl | kernel_rfl)
    (case k39 => first | k_is | rfl | kernel_rfl)
    (case a40 => first | k_is | rfl | kernel_rfl)
    (case l40 => first | k_is | rfl | kernel_rfl)
    (case c40 => first | k_is | rfl | kernel_rfl)
    (case k40 => first | k_is | rfl | kernel_rfl)
    (case a41 => first | k_is | rfl | kernel_rfl)
    (case l41 => first | k_is | rfl | kernel_rfl)
    (case c41 => first | k_is | rfl | kernel_rfl)
    (case k41 => first | k_is | rfl | kernel_rfl)
    (case a42 => first | k_is | rfl | kernel_rfl)
    (case l42 => first | k_is | rfl | kernel_rfl)
    (case c42 => first | k_is | rfl | kernel_rfl)
    (case k42 => first | k_is | rfl | kernel_rfl)
    (case a43 => first | k_is | rfl | kernel_rfl)
    (case l43 => first | k_is | rfl | kernel_rfl)
    (case c43 => first | k_is | rfl | kernel_rfl)
    (case k43 => first | k_is | rfl | kernel_rfl)
    (case n0 => first | k_is | rfl | kernel_rfl)
    (case n1 => first | k_is | rfl | kernel_rfl)
    (case n2 => first | k_is | rfl | kernel_rfl)
    (case n3 => first | k_is | rfl | kernel_rfl)
    (case n4 => first | k_is | rfl | kernel_rfl)
    (case n5 => first | k_is | rfl | kernel_rfl)
    (case z0 => first | k_is | rfl | kernel_rfl)
    (case z1 => first | k_is | rfl | kernel_rfl)
    (case z2 => first | k_is | rfl | kernel_rfl)
    (case z3 => first | k_is | rfl | kernel_rfl)
    (case z4 => first | k_is | rfl | kernel_rfl)
    (case z5 => first | k_is | rfl | kernel_rfl)
    (case z6 => first | k_is | rfl | kernel_rfl)
    (case z7 => first | k_is | rfl | kernel_rfl)
    (case z8 => first | k_is | rfl | kernel_rfl)
    (case z9 => first | k_is | rfl | kernel_rfl)
    (case z10 => first | k_is | rfl | kernel_rfl)
    (case z11 => first | k_is | rfl | kernel_rfl)
    (case z12 => first | k_is | rfl | kernel_rfl)
    (case z13 => first | k_is | rfl | kernel_rfl)
    (case z14 => first | k_is | rfl | kernel_rfl)
    (case zv => first | k_is | rfl | kernel_rfl)
    (case zs => first | k_is | rfl | kernel_rfl)
    (case zx => first | k_is | rfl | kernel_rfl)
    (case xSa => first | k_is | rfl | kernel_rfl)
    (case xSq => first | k_is | rfl | kernel_rfl)
    (case xSk => first | k_is | rfl | kernel_rfl)
    (case xSs => first | k_is | rfl | kernel_rfl)
    (case xSt => first | k_is | rfl | kernel_rfl)
    (case xS1 => first | k_is | rfl | kernel_rfl)
    (case xS2 => first | k_is | rfl | kernel_rfl)
    (case xS3 => first | k_is | rfl | kernel_rfl)
    (case xS4 => first | k_is | rfl | kernel_rfl)
    (case xS5 => first | k_is | rfl | kernel_rfl)
    (case xS6 => first | k_is | rfl | kernel_rfl)
    (case xS7 => first | k_is | rfl | kernel_rfl)
    (case xLa => first | k_is | rfl | kernel_rfl)
    (case xLl => first | k_is | rfl | kernel_rfl)
    (case xL0 => first | k_is | rfl | kernel_rfl)
    (case xL1 => first | k_is | rfl | kernel_rfl)
    (case xL2 => first | k_is | rfl | kernel_rfl)
    (case xLn => first | k_is | rfl | kernel_rfl)
    (case xLk => first | k_is | rfl | kernel_rfl)
    (case xLs => first | k_is | rfl | kernel_rfl)
    (case xLt => first | k_is | rfl | kernel_rfl)
    (case xL3 => first | k_is | rfl | kernel_rfl)
    (case xLi => first | k_is | rfl | kernel_rfl)
    (case xLf => first | k_is | rfl | kernel_rfl)
    (case lm => first | k_is | rfl | kernel_rfl)
    (case cm => first | k_is | rfl | kernel_rfl)
    (case km => first | k_is | rfl | kernel_rfl)
    (case y1 => first | k_is | rfl | kernel_rfl)
    (case y2 => first | k_is | rfl | kernel_rfl)
    (case y3 => first | k_is | rfl | kernel_rfl)
    (case y4 => first | k_is | rfl | kernel_rfl)

