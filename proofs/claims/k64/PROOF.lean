import PyProof.Rows.All
import Wide.All
import OpenK.AllK
import Wide.FinOn
import PySem.Challenge.RW_waitbolts_k64_what_can_be_come_to_from_w
import HandS.Evl
import HandS.Ends
import HandS.Words
import HandS.TupSets
import PyProof.ReprRoads
import PyProof.P3In
import KE.GoesEnum
import HandS.Walk
import HandS.Zip
import KE.GoesMore
import PyProof.EnumMake
import HandS.TupLe
import HandS.TupAny
import HandS.Deep
import HandS.DictComp
import HandS.IsInst
import HandS.RevRange
import HandS.Conv
import HandS.Style
import HandS.Wide
import HandS.WideMore
import HandS.Dict
import HandS.Comp
import HandS.Flow
import HandS.WordsList
import HandS.WordsDict
import HandS.Exc
import HandS.ExcOwn
import PyProof.DictFindH
import HandS.More
import HandS.Sort
import HandS.Keys
import HandS.WideBits
import HandS.Iter
import HandS.Small
import KE.KDictDisplayH
import HandS.ReCall
import HandS.TupLen
import KE.KDictPairs
import KE.KeyNested
import KE.KDictKeyed
import HandS.ExcInit
import HandS.ExcField
import HandS.ExcIs
import HandS.ExcValue
import HandS.WordsExc
import HandS.ExcBuiltin
import HandS.TryMany
import HandS.Lambda
import PyProof.SumWalkG
import PyProof.ListOps
import PyProof.WalkInts
import PyProof.NeKinds
import HandS.List
import HandS.TupMul
import HandS.Gcd
import PyProof.EqAt
import PyProof.ConsumeWalk
import PyProof.FactsTree
import HandS.RaiseMore
set_option Elab.async false
set_option linter.all false
set_option maxRecDepth 100000
set_option maxHeartbeats 2000000
namespace Wb
open PySem PySem.Spec PyProof.Rows L2

/-! ### promises that know that no repr runs around them -/
structure FnG (P : Program) (w : World) (K : PySem.W.Frag) (mg : Str → Option Value) (base : Heap) (k : Nat) (f : Addr) (fd : FuncData) (ps : List Str) (sp : Sp) : Prop where
  len : ∀ vs H Q E, sp vs H Q E → vs.length = ps.length
  go : ∀ (A : Around) (outer : List Env) (s : Shared) (H : Hp) (args : Args) (us : List Value) (vs : List V) (Q : VK) (E : XK),
    A.guards = some [] → Room k A → Env0 P w K mg base A outer s H → BindsTo s fd args (ps.zip us) → Vals vs us → sp vs H Q E →
    codeAny (model P w) A (.call (.ref f) args) (CR CX0 outer P w H s Q E) s

section
variable {P : Program} {w : World} {K : PySem.W.Frag} {mg : Str → Option Value} {base : Heap}
theorem fnG_ok {x qual : Str} {st : Stmt} {f : Addr} {fd : FuncData} {N ps : List Str} {k : Nat} {sp : Sp} (F : Fun K x qual st f fd)
    (S : FnScope N ps (defScope st)) (len : ∀ vs H Q E, sp vs H Q E → vs.length = ps.length)
    (hbody : ∀ (cdv : Value) (A : Around) (outer : List Env) (s : Shared) (H : Hp) (vs : List V) (Q : VK) (E : XK), A.guards = some [] →
      Room k (A.deeper (envOfC qual (defScope st) s.heap.objs.size f cdv)) → sp vs H Q E →
      ∃ t, PSs (cxOf CX0 P w K mg base N qual (defScope st) f cdv A outer s H E).nox (defBody st) t ∧
        t { nx := fun _ H' => Q .non H', rt := Q } (start N vs) H) : FnG P w K mg base (k + 1) f fd ps sp := by
  obtain ⟨oc, od, kV, doc, pm, an, cdv, ct, osl, rfl, lk, hcd⟩ := F.ex
  refine ⟨len, ?_⟩
  intro A outer s H args us vs Q E hgd hr e0 hb r hsp
  have e1 : K.In s.heap := e0.mod.kin.keeps (fun b o e => (e0.bs b o e).1)
  have e2 : s.heap.NoLimit := e0.mod.nolimit.keeps (fun b o e => (e0.bs b o e).1)
  have kinds : ∀ y ∈ ps.zip us, (defScope st).names.lookup y.1 = some .local ∨
      ((defScope st).names.lookup y.1 = some .cell ∧ ((cellsFrom (s.heap.objs.size + 1) (defScope st).names []).lookup y.1).isSome = true) := by
    rintro ⟨n, v⟩ hy
    cases S.par n (List.of_mem_zip hy).1 with
    | inl q => exact .inl q
    | inr q => exact .inr ⟨q, PySem.W.cellsFrom_some _ _ _ (.inl q)⟩
  apply codeAny_call_function hr.depth (e1 _ _ lk) rfl S.co S.gen rfl (PySem.W.codeRec_of e1 hcd)
  apply hb
  apply wpAny_newFunctionEnv_cells S.kind kinds
  intro env he s1 x
  subst he
  refine ⟨e2.keeps x.toInCall.keep, codeAny_func ?_⟩
  obtain ⟨t, ht, hq⟩ := hbody cdv A outer s H vs Q E hgd (hr.deeper _) hsp
  have I := inv_start (CX := CX0) (P := P) (w := w) (qual := qual) (E := E) S hr.hd e0 (len _ _ _ _ hsp) r x
  apply wpAny_mono (ht.nox.run [] s1 (start N vs) H _ I hq)
  · intro fl s' hs
    cases fl
    case next =>
      obtain ⟨σ', H', J, q⟩ := hs
      exact ⟨V.non, H', J.os, J.bare, J.base, J.hok, rfl, q⟩
    case brk => obtain ⟨_, _, _, q⟩ := hs; exact q.elim
    case cont => obtain ⟨_, _, _, q⟩ := hs; exact q.elim
    case ret u =>
      obtain ⟨v, σ', H', J, rv, q⟩ := hs
      exact ⟨v, H', J.os, J.bare, J.base, J.hok, rv, q⟩
  · intro e s' hs
    exact hs
end

section
variable {X : Cx}
/-! ### repr of data -/
def rRepr (K : PySem.W.Frag) : List V → Hp → VK → Prop := fun xs H Q => ∃ (a : Addr) (d : PyData), xs = [.ref a] ∧ Dp K H (.ref a) d ∧ d.showable = true ∧ d.hasDict = false ∧ d.depth ≤ 20 ∧ d.shown.length ≤ sizeLine ∧ Q (.str d.shown) H
theorem call_repr_data (hu : X.A.units + 64 < cLine) (hg : X.A.guards = some []) : CallR X (.builtin "repr") (rRepr X.K) := by
  intro pins s σ H xs us Q I r h
  obtain ⟨a, d, rfl, hd, h1, h2, h3, h4, q⟩ := h
  cases r with
  | cons r1 r2 =>
    cases r2
    obtain ⟨as, rd⟩ := Dp.reads I d _ _ hd r1
    cases r1
    refine repr_of_reads' rd h1 (fun z => by rw [h2] at z; cases z) hg (by omega) (fun _ _ e => e) (fun h' u tk hk => ?_) h4
    exact ⟨.str d.shown, H, I.kept (t' := tk) hk, ⟨u, rfl⟩, q⟩
/-! ### x in a tuple of data -/
def rInTD (K : PySem.W.Frag) : R2 := fun x y H Q => ∃ d ds, Dp K H x d ∧ Dp K H y (.tuple ds) ∧ SeqAt.shaped d = true ∧ SeqAt.shaped (.tuple ds) = true ∧ Q (.bl (ds.any fun z => PyData.eqv z d)) H
theorem op_inTD (hu : X.A.units + 65 < cLine) : OpR X (compareOp .In) (rInTD X.K) := by
  intro pins s σ H x y v u Q I rx ry h
  obtain ⟨d, ds, hd, he, sd, se, q⟩ := h
  obtain ⟨as, r1⟩ := Dp.reads I d x v hd rx
  obtain ⟨bs, r2⟩ := Dp.reads I (.tuple ds) y u he ry
  have hdp := SeqAt.depth_of_shaped sd
  have hcl : PyData.canLayAll0 ds = true := by
    have z := SeqAt.canLay_of_shaped se
    simpa [PyData.canLay0] using z
  refine SeqAt.in_tuple_reads r2 r1 hcl (SeqAt.canLay_of_shaped sd) (by show X.A.units + 1 + min _ _ < cLine; omega) ⟨.bl _, H, I, rfl, q⟩
end
end Wb

set_option Elab.async false
set_option linter.all false
set_option maxRecDepth 100000
set_option maxHeartbeats 2000000
namespace Wb
open PySem PySem.Spec PyProof.Rows L2

/-! ### a list or a tuple that is read: l tells which -/
def SqX (K : PySem.W.Frag) (l : Bool) (H : Hp) (a : Addr) (xs : List V) : Prop := if l = true then SqL K H a xs else SqT K H a xs
def ItAt (l : Bool) (h : Heap) (it a : Addr) (i : Nat) : Prop := if l = true then h.IsListIter it a i else h.IsTupleIter it a i
def SqAt (l : Bool) (h : Heap) (a : Addr) (us : Array Value) : Prop := if l = true then h.IsList a us else h.IsTuple a us
def itObj (l : Bool) (a : Addr) : Obj := if l = true then { cls := .type "list_iterator", data := .fields #[.ref a, .int 0 0] } else { cls := .type "tuple_iterator", data := .fields #[.ref a, .int 0 0] }

theorem itObj_at (l : Bool) {h : Heap} {it a : Addr} (e : h.get? it = some (itObj l a)) : ItAt l h it a 0 := by
  cases l
  · exact ⟨_, e, rfl, rfl⟩
  · exact ⟨_, e, rfl, rfl⟩
theorem ItAt.obj {l : Bool} {h : Heap} {it a : Addr} {i : Nat} (x : ItAt l h it a i) : ∃ o, h.get? it = some o ∧ ∀ v, o.data ≠ .cell v := by
  cases l
  · obtain ⟨o, e, _, d⟩ := x
    exact ⟨o, e, fun v q => by rw [d] at q; cases q⟩
  · obtain ⟨o, e, _, d⟩ := x
    exact ⟨o, e, fun v q => by rw [d] at q; cases q⟩
theorem ItAt.keep {l : Bool} {h h' : Heap} {it a : Addr} {i : Nat} (x : ItAt l h it a i) (k : ∀ o, h.get? it = some o → h'.get? it = some o) : ItAt l h' it a i := by
  cases l
  · exact Heap.IsTupleIter.at x k
  · exact Heap.IsListIter.at x k
theorem draws_at {prog : Program} {w : World} {A : Around} (hh : A.handled = none) (l : Bool) (it a : Addr) (hne : a ≠ it) (us : Array Value) :
    Draws prog w A it [it, a] us.size (fun i v => us[i]? = some v) (fun i h => ItAt l h it a i ∧ SqAt l h a us) := by
  cases l
  · exact Draws.tuple hh it a hne us
  · exact Draws.list hh it a hne us
theorem begins_at (l : Bool) (a : Addr) (us : Array Value) : Begins (.ref a) (itObj l a) (fun h => SqAt l h a us) := by
  cases l
  · exact begins_tuple a us
  · exact begins_list a us
section
variable {X : Cx} {pins : List (Addr × Obj)} {σ : L2.St} {H : Hp} {s : Shared}
theorem sqx_vals (I : Inv X pins σ H s) {l : Bool} {a : Addr} {xs : List V} (h : SqX X.K l H a xs) : ∃ us : List Value, Vals xs us ∧ SqAt l s.heap a us.toArray ∧ a < s.heap.objs.size := by
  cases l
  · obtain ⟨us, r, p, _⟩ := I.tuple (a := a) (xs := xs) h
    have p' : s.heap.IsTuple a us.toArray := p
    obtain ⟨o, e, _⟩ := p
    exact ⟨us, r, p', Heap.lt_size e⟩
  · obtain ⟨us, r, p, _⟩ := I.list (a := a) (xs := xs) h
    exact ⟨us, r, p.isList, p.lt⟩
theorem sqx_one (I : Inv X pins σ H s) {l : Bool} {a : Addr} {xs ys : List V} (h : SqX X.K l H a xs) (h' : SqX X.K l H a ys) : xs = ys := by
  cases l
  · exact I.tuple_inj (a := a) h h'
  · exact I.list_inj (a := a) h h'
end

/-! ### zip over any two of them -/
def Itzx (K : PySem.W.Frag) (l m : Bool) (a b : Addr) : It :=
  ⟨fun i H => ∃ (xs ys : List V) (x y : V), SqX K l H a xs ∧ SqX K m H b ys ∧ xs[i]? = some x ∧ ys[i]? = some y,
   fun i H v H' => ∃ T x y, v = .ref T ∧ H T = none ∧ H' = upd H T (.tup [x, y]) ∧ (∀ xs, SqX K l H a xs → xs[i]? = some x) ∧ ∀ ys, SqX K m H b ys → ys[i]? = some y,
   fun i H => ∃ xs ys : List V, SqX K l H a xs ∧ SqX K m H b ys ∧ (i = xs.length ∧ i ≤ ys.length ∨ i = ys.length ∧ i ≤ xs.length)⟩
structure Apart5 (z TI TO i1 i2 a b : Addr) : Prop where
  sep : ZipSep2 z TI TO i1 i2 [i1, a] [i2, b]
  n1 : a ≠ i1
  n2 : b ≠ i2
theorem turn_zx {P : Program} {w : World} {K : PySem.W.Frag} {elts : List Expr} {kk : Nat} {tpos : Pos} {a b z TI TO i1 i2 : Addr} {l m : Bool} (D : Apart5 z TI TO i1 i2 a b) :
    Turn P w K (.Tuple elts kk tpos) (Itzx K l m a b) [z, TI, TO, i1, i2] z
      (fun i h => IsZip h z TI TO .none ∧ IsTupOf2 h TI (.ref i1) (.ref i2) ∧ (∃ x y, IsTupOf2 h TO x y) ∧ ItAt l h i1 a i ∧ ItAt m h i2 b i) where
  mem := by simp
  obj := by
    rintro i h ⟨q1, q2, ⟨x, y, q3⟩, q4, q5⟩ c hc
    simp only [List.mem_cons, List.not_mem_nil, or_false] at hc
    rcases hc with rfl | rfl | rfl | rfl | rfl
    · exact ⟨_, q1, fun v q => nomatch q⟩
    · exact ⟨_, q2, fun v q => nomatch q⟩
    · exact ⟨_, q3, fun v q => nomatch q⟩
    · exact q4.obj
    · exact q5.obj
  keep := by
    rintro i h h' ⟨q1, q2, ⟨x, y, q3⟩, q4, q5⟩ k
    exact ⟨k _ (by simp) _ q1, k _ (by simp) _ q2, ⟨x, y, k _ (by simp) _ q3⟩, q4.keep (k i1 (by simp)), q5.keep (k i2 (by simp))⟩
  item := by
    intro X hP hw hK hc i pins s σ H E I hf st hg
    subst hP hw hK
    obtain ⟨q1, q2, ⟨x0, y0, q3⟩, q4, q5⟩ := st
    obtain ⟨xs, ys, x, y, hx, hy, ex, ey⟩ := hg
    obtain ⟨us, r1, p1, lt1⟩ := sqx_vals I hx
    obtain ⟨vs, r2, p2, lt2⟩ := sqx_vals I hy
    obtain ⟨u, hu, ru⟩ := r1.get ex
    obtain ⟨v, hv, rv⟩ := r2.get ey
    have hh : X.A.in1.handled = none := I.ok.hd hc
    have g1 := draws_at (prog := X.prog) (w := X.w) hh l i1 a D.n1 us.toArray
    have g2 := draws_at (prog := X.prog) (w := X.w) hh m i2 b D.n2 vs.toArray
    have b1 : i < us.toArray.size := by
      have := (List.getElem?_eq_some_iff.mp hu).1
      simpa using this
    have b2 : i < vs.toArray.size := by
      have := (List.getElem?_eq_some_iff.mp hv).1
      simpa using this
    have zl : z < s.heap.objs.size := Heap.lt_size q1
    refine wpAny_pyNext_zipD2_item D.sep g1 g2 q1 q2 q3 ⟨q4, p1⟩ ⟨q5, p2⟩ b1 b2 ?_
    intro u' v' h' tk eu ev z' TO' t1 t2 hT hsz hk
    have eu' : u' = u := by
      have e : us[i]? = some u' := by simpa using eu
      exact Option.some.inj (e.symm.trans hu)
    have ev' : v' = v := by
      have e : vs[i]? = some v' := by simpa using ev
      exact Option.some.inj (e.symm.trans hv)
    subst eu'
    subst ev'
    refine ⟨_, rfl, wpAny_letOwnedTupleGo_zip (s := { s with heap := h', toks := tk }) z' ?_⟩
    intro h2 z2 sb
    have keepT : h2.get? s.heap.objs.size = some { cls := .type "tuple", data := .seq #[u', v'] } := (sb.2 _ (Nat.ne_of_gt zl)).trans hT
    have all : ∀ c o, c ∉ [z, TI, TO, i1, i2] → s.heap.get? c = some o → h2.get? c = some o := by
      intro c o hc e
      simp only [List.mem_cons, List.not_mem_nil, or_false, not_or] at hc
      exact (sb.2 c hc.1).trans (hk c o hc.1 hc.2.2.1 hc.2.2.2.1 hc.2.2.2.2 e)
    have new : ObjOk X.prog X.w (upd H s.heap.objs.size (.tup [x, y])) h2 s.heap.objs.size (.tup [x, y]) :=
      ⟨(by decide : 2 ≤ sizeLine), [u', v'], Paired.cons ru (Paired.cons rv Paired.nil), ⟨_, keepT, rfl, _, rfl⟩⟩
    have J := I.turnedNew (t' := tk) all hf (Nat.le_refl _) new
    refine ⟨.ref s.heap.objs.size, _, J, rfl, ⟨_, x, y, rfl, I.hok.fresh (Nat.le_refl _), rfl, fun xs' h1 => ?_, fun ys' h1 => ?_⟩, ⟨z2, ?_, ⟨u', v', ?_⟩, ?_, ?_⟩, fun c hc => ?_⟩
    · rw [sqx_one I h1 hx]; exact ex
    · rw [sqx_one I h1 hy]; exact ey
    · exact (sb.2 _ D.sep.TIz).trans (hk _ _ D.sep.TIz D.sep.TITO D.sep.TIi1 D.sep.TIi2 q2)
    · exact (sb.2 _ D.sep.TOz).trans TO'
    · exact t1.1.keep fun o e => (sb.2 _ (Ne.symm D.sep.zi1)).trans e
    · exact t2.1.keep fun o e => (sb.2 _ (Ne.symm D.sep.zi2)).trans e
    · have hlt : c < s.heap.objs.size := by
        simp only [List.mem_cons, List.not_mem_nil, or_false] at hc
        rcases hc with rfl | rfl | rfl | rfl | rfl
        · exact zl
        · exact Heap.lt_size q2
        · exact Heap.lt_size q3
        · obtain ⟨o, e, _⟩ := q4.obj; exact Heap.lt_size e
        · obtain ⟨o, e, _⟩ := q5.obj; exact Heap.lt_size e
      rw [upd_ne (Nat.ne_of_lt hlt)]
      exact (hf c hc).1
  done := by
    intro X hP hw hK hc i pins s σ H E I hf st hg
    subst hP hw hK
    obtain ⟨q1, q2, ⟨x0, y0, q3⟩, q4, q5⟩ := st
    obtain ⟨xs, ys, hx, hy, he⟩ := hg
    obtain ⟨us, r1, p1, lt1⟩ := sqx_vals I hx
    obtain ⟨vs, r2, p2, lt2⟩ := sqx_vals I hy
    have hh : X.A.in1.handled = none := I.ok.hd hc
    have g1 := draws_at (prog := X.prog) (w := X.w) hh l i1 a D.n1 us.toArray
    have g2 := draws_at (prog := X.prog) (w := X.w) hh m i2 b D.n2 vs.toArray
    have e1 : us.toArray.size = xs.length := by rw [List.size_toArray, r1.length]
    have e2 : vs.toArray.size = ys.length := by rw [List.size_toArray, r2.length]
    refine wpAny_pyNext_zipD2_end D.sep g1 g2 q1 q2 q3 ⟨q4, p1⟩ ⟨q5, p2⟩ (by omega) (by omega) (by omega) ?_
    intro h' tk hk
    refine ⟨rfl, I.turnedL (t' := tk) (ch := [z, TI, TO, i1, i2]) (fun c o hc e => ?_) hf⟩
    simp only [List.mem_cons, List.not_mem_nil, or_false, not_or] at hc
    exact hk c o hc.1 hc.2.2.1 hc.2.2.2.1 hc.2.2.2.2 e
  self := fun A i s Q E st h => wpAny_pyIter_zip st.1 h

def iZipX (K : PySem.W.Frag) (ta : TA) : TI := fun σ H R => ta σ H fun vs H1 => ∃ l m a b xs ys, vs = [.ref a, .ref b] ∧ SqX K l H1 a xs ∧ SqX K m H1 b ys ∧ R (Itzx K l m a b) H1
theorem pi_zipX {X : Cx} {e e2 : Expr} {ta : TA} {p pos tpos : Pos} {elts : List Expr} {kk : Nat} (hg : Gl X "zip") (hm : X.mg "zip" = none) (ha : PA X [e, e2] ta)
    (hs : starEach [e, e2] X.env = (false, eval e X.env) :: starEach [e2] X.env := by rfl) (hpl : (backTo pos (starEach [e2] X.env)).any (·.1) = false := by rfl) :
    PI X (.Tuple elts kk tpos) (.Call (.Name "zip" p) [e, e2] [] pos) (iZipX X.K ta) := by
  constructor
  intro pins s σ H R I h
  refine Call_ (ld_blt I hg hm PyProof.Rows.boot_zip (PyProof.Rows.callWith_type1 (thn (ha.run pos pins s σ H _ I h) ?_) hs hpl))
  rintro us s1 ⟨vs, H1, I1, r1, l, m, a, b, xs, ys, rfl, hx, hy, q⟩
  obtain ⟨us1, w1, p1, lt1⟩ := sqx_vals I1 hx
  obtain ⟨us2, w2, p2, lt2⟩ := sqx_vals I1 hy
  rcases r1 with _ | ⟨ra, r1⟩
  rcases r1 with _ | ⟨rb, r1⟩
  cases r1
  cases ra
  cases rb
  refine zip_begins2 (begins_at l a us1.toArray) (begins_at m b us2.toArray) p1 p2 ?_
  intro h' hz hTI hTO h1 h2 hsz hk
  refine wpAny_pyIter_zip hz ?_
  have I2 : Inv X pins σ H1 { s1 with heap := h' } := I1.kept (t' := s1.toks) hk
  have D : Apart5 (s1.heap.objs.size + 4) (s1.heap.objs.size + 2) (s1.heap.objs.size + 3) s1.heap.objs.size (s1.heap.objs.size + 1) a b :=
    ⟨zip_sep2 (N := s1.heap.objs.size) (fp1 := [a]) (fp2 := [b]) (by simpa using lt1) (by simpa using lt2), Nat.ne_of_lt lt1, Nat.ne_of_lt (Nat.lt_succ_of_lt lt2)⟩
  refine ⟨s1.heap.objs.size + 4, [s1.heap.objs.size + 4, s1.heap.objs.size + 2, s1.heap.objs.size + 3, s1.heap.objs.size, s1.heap.objs.size + 1], _, _, H1, rfl, I2, turn_zx D, ⟨hz, hTI, ⟨_, _, hTO⟩, itObj_at l h1, itObj_at m h2⟩, ?_, q⟩
  intro c hc
  have hle : s1.heap.objs.size ≤ c := by
    simp only [List.mem_cons, List.not_mem_nil, or_false] at hc
    rcases hc with rfl | rfl | rfl | rfl | rfl
    · exact Nat.le_add_right _ _
    · exact Nat.le_add_right _ _
    · exact Nat.le_add_right _ _
    · exact Nat.le_refl _
    · exact Nat.le_add_right _ _
  exact I1.fpOk hle (I1.hok.fresh hle)
theorem walk_zx {K : PySem.W.Frag} {l m : Bool} {a b : Addr} {xs ys : List V} (hl : xs.length = ys.length) :
    Walk (Itzx K l m a b) xs.length (fun H => SqX K l H a xs ∧ SqX K m H b ys) (YPair (fun i => xs[i]?) (fun i => ys[i]?)) := by
  refine ⟨fun i H hi q => ?_, fun H q => ⟨xs, ys, q.1, q.2, .inl ⟨rfl, by omega⟩⟩, fun i H v H' hi q y => ?_⟩
  · have h2 : i < ys.length := by omega
    exact ⟨xs, ys, xs[i], ys[i], q.1, q.2, by simp [hi], by simp [h2]⟩
  · obtain ⟨T, x, z, h1, h2, h3, h4, h5⟩ := y
    exact ⟨T, x, z, h1, h2, h3, h4 xs q.1, h5 ys q.2⟩

/-! ### enumerate over either -/
def Itex (K : PySem.W.Frag) (l : Bool) (a : Addr) : It :=
  ⟨fun i H => ∃ (xs : List V) (x : V), SqX K l H a xs ∧ xs[i]? = some x,
   fun i H v H' => ∃ T x, v = .ref T ∧ H T = none ∧ H' = upd H T (.tup [.int (i : Nat), x]) ∧ ∀ xs, SqX K l H a xs → xs[i]? = some x,
   fun i H => ∃ xs : List V, SqX K l H a xs ∧ i = xs.length⟩
end Wb

set_option Elab.async false
set_option linter.all false
set_option maxRecDepth 100000
set_option maxHeartbeats 2000000
namespace Wb
open PySem PySem.Spec PyProof.Rows L2
open AutoSeq1 (wpAny_loadPart')

theorem meets_enumT (a : Addr) (us : Array Value) (n : Nat) (dct : Option Addr) (sl : Array (Option Value)) :
    Meets (Builtin.«enumerate.__new__» ⟨[.type "enumerate", .ref a], []⟩) (fun _ R s => s.heap.get? a = some { cls := .type "tuple", dict := dct, data := .seq us n, slots := sl } ∧
      R (.ok (.ret (.ref (s.heap.push (itObj false a)).objs.size)))
        { s with heap := (s.heap.push (itObj false a)).push { cls := .type "enumerate", data := .fields #[.none, .bool false, .ref s.heap.objs.size, rawInt 0, .none, .none] } }) := by
  apply Meets.of_wp
  intro prog w A R s h
  obtain ⟨hp, g, d, tk, os⟩ := s
  obtain ⟨hl, h⟩ := h
  have hsub := sub_enumerate
  have hT : Heap.IsTuple (Shared.heap ⟨hp, g, d, tk, os⟩) a us := ⟨_, hl, rfl, n, rfl⟩
  wp_walk using wpAny_loadPart' hl
  apply wpAny_stack_any
  intro st
  apply wpAny_pure
  split
  · rename_i c _ _ _ _ _
    cases (c == Value.type "enumerate") <;> wp_walk using wpAny_loadPart' hl, wpAny_pyIter_tuple hT
    · exact ⟨_, rfl, h⟩
    · exact ⟨_, rfl, h⟩
  · wp_walk using wpAny_loadPart' hl, wpAny_pyIter_tuple hT
    exact ⟨_, rfl, h⟩
theorem call_enumT {prog : Program} {w : World} {A : Around} {E : Value → Shared → Prop} {s : Shared} {a : Addr} {us : Array Value} {Q : Value → Shared → Prop} (hT : s.heap.IsTuple a us)
    (h : ∀ h', IsEnum h' (s.heap.objs.size + 1) s.heap.objs.size 0 .none → ItAt false h' s.heap.objs.size a 0 → (∀ b o, s.heap.get? b = some o → h'.get? b = some o) → Q (.ref (s.heap.objs.size + 1)) { s with heap := h' }) :
    wpAny (model prog w) A (call (.type "enumerate") [.ref a]) Q E s := by
  obtain ⟨⟨c, dct, dt, sl⟩, hl, hc, n, hd⟩ := hT
  have hc' : c = .type "tuple" := hc
  have hd' : dt = .seq us n := hd
  subst hc' hd'
  refine callType_new F.called_enumerate (by decide) (F.typeCall_enumerate_1 _) (F.newCall_enumerate_1 _) (fun obj => F.args_object_init_2 obj _) F.entry_enumerate_new (meets_enumT a us n dct sl) ⟨hl, ?_⟩
  have sz : (s.heap.push (itObj false a)).objs.size = s.heap.objs.size + 1 := Heap.size_push ..
  have e0 := Heap.get?_push_size (s.heap.push (itObj false a)) (o := { cls := .type "enumerate", data := .fields #[.none, .bool false, .ref s.heap.objs.size, rawInt 0, .none, .none] }) rfl
  rw [sz] at e0
  show _ ∧ _
  rw [sz]
  exact ⟨⟨_, e0, rfl⟩, h _ e0 (itObj_at false (Heap.get?_push_of_some _ (Heap.get?_push_size _ rfl))) fun b o x => Heap.get?_push_of_some _ (Heap.get?_push_of_some _ x)⟩

/-- the tuple at a, item by item, each in a new pair with its number -/
def Itet (K : PySem.W.Frag) (a : Addr) : It :=
  ⟨fun i H => ∃ (xs : List V) (x : V), SqT K H a xs ∧ xs[i]? = some x,
   fun i H v H' => ∃ T x, v = .ref T ∧ H T = none ∧ H' = upd H T (.tup [.int (i : Nat), x]) ∧ ∀ xs, SqT K H a xs → xs[i]? = some x,
   fun i H => ∃ xs : List V, SqT K H a xs ∧ i = xs.length⟩
theorem turn_et {P : Program} {w : World} {K : PySem.W.Frag} {elts : List Expr} {kk : Nat} {tpos : Pos} (a e it : Addr) (hne : e ≠ it) (hea : e ≠ a) (hia : a ≠ it) :
    Turn P w K (.Tuple elts kk tpos) (Itet K a) [e, it] e (fun i h => (∃ old, IsEnum h e it ((i : Nat) : Int) old) ∧ ItAt false h it a i) where
  mem := by simp
  obj := by
    rintro i h ⟨⟨old, q1⟩, q2⟩ b hb
    simp only [List.mem_cons, List.not_mem_nil, or_false] at hb
    rcases hb with rfl | rfl
    · exact ⟨_, q1, fun v q => nomatch q⟩
    · exact q2.obj
  keep := by
    rintro i h h' ⟨⟨old, q1⟩, q2⟩ k
    exact ⟨⟨old, k _ (by simp) _ q1⟩, q2.keep (k it (by simp))⟩
  item := by
    intro X hP hw hK hc i pins s σ H E I hf st hg
    subst hP hw hK
    obtain ⟨⟨old, q1⟩, q2⟩ := st
    obtain ⟨xs, x, hx, ex⟩ := hg
    obtain ⟨us, r1, p1, lt1⟩ := sqx_vals (l := false) I hx
    obtain ⟨u, hu, ru⟩ := r1.get ex
    have hh : X.A.in1.handled = none := I.ok.hd hc
    have g1 := draws_at (prog := X.prog) (w := X.w) hh false it a hia us.toArray
    have b1 : i < us.toArray.size := by
      have := (List.getElem?_eq_some_iff.mp hu).1
      simpa using this
    have el : e < s.heap.objs.size := Heap.lt_size q1
    have il : it < s.heap.objs.size := by obtain ⟨o, z, _⟩ := q2.obj; exact Heap.lt_size z
    refine wpAny_pyNext_enum_itemC g1 q1 ⟨q2, p1⟩ b1 hne (by simp [hne, hea]) ?_
    intro u' h' tk eu ho t1 hT hsz hk
    have eu' : u' = u := by
      have z : us[i]? = some u' := by simpa using eu
      exact Option.some.inj (z.symm.trans hu)
    subst eu'
    refine ⟨_, rfl, wpAny_letOwnedTupleGo_enum (s := { s with heap := h', toks := tk + 1 }) ho ?_⟩
    intro h2 he' sb
    have keepT := (sb.2 _ (Nat.ne_of_gt el)).trans hT
    have all : ∀ c o, c ∉ [e, it] → s.heap.get? c = some o → h2.get? c = some o := by
      intro c o hc z
      simp only [List.mem_cons, List.not_mem_nil, or_false, not_or] at hc
      exact (sb.2 c hc.1).trans (hk c o hc.1 hc.2 z)
    have new : ObjOk X.prog X.w (upd H s.heap.objs.size (.tup [.int (i : Nat), x])) h2 s.heap.objs.size (.tup [.int (i : Nat), x]) :=
      ⟨(by decide : 2 ≤ sizeLine), [.int i tk, u'], Paired.cons ⟨_, rfl⟩ (Paired.cons ru Paired.nil), ⟨_, keepT, rfl, _, rfl⟩⟩
    have J := I.turnedNew (t' := tk + 1) all hf (Nat.le_refl _) new
    refine ⟨.ref s.heap.objs.size, _, J, rfl, ⟨_, x, rfl, I.hok.fresh (Nat.le_refl _), rfl, fun xs' h1 => ?_⟩, ⟨⟨u', ?_⟩, ?_⟩, fun c hc => ?_⟩
    · rw [sqx_one (l := false) I h1 hx]; exact ex
    · have z : ((i + 1 : Nat) : Int) = (i : Int) + 1 := by omega
      rw [z]
      exact he'
    · exact t1.1.keep fun o z => (sb.2 _ (Ne.symm hne)).trans z
    · have hlt : c < s.heap.objs.size := by
        simp only [List.mem_cons, List.not_mem_nil, or_false] at hc
        rcases hc with rfl | rfl
        · exact el
        · exact il
      rw [upd_ne (Nat.ne_of_lt hlt)]
      exact (hf c hc).1
  done := by
    intro X hP hw hK hc i pins s σ H E I hf st hg
    subst hP hw hK
    obtain ⟨⟨old, q1⟩, q2⟩ := st
    obtain ⟨xs, hx, he⟩ := hg
    obtain ⟨us, r1, p1, lt1⟩ := sqx_vals (l := false) I hx
    have hh : X.A.in1.handled = none := I.ok.hd hc
    have g1 := draws_at (prog := X.prog) (w := X.w) hh false it a hia us.toArray
    have e1 : us.toArray.size = i := by rw [List.size_toArray, ← r1.length, he]
    refine wpAny_pyNext_enum_endD g1 q1 (by rw [e1]; exact ⟨q2, p1⟩) ?_
    intro h' eb
    obtain ⟨f0, f1, f2, f3, f4, f5⟩ := hf it (by simp)
    exact ⟨rfl, I.turned (t' := s.toks) (fun b o hb q => eb b o hb q) f0 f1 f3 f4 f5⟩
  self := by
    rintro A i s Q E ⟨⟨old, q1⟩, _⟩ h
    exact wpAny_pyIter_enum q1 h
def iEnumT (K : PySem.W.Frag) (ta : TA) : TI := fun σ H R => ta σ H fun vs H1 => ∃ a xs, vs = [.ref a] ∧ SqT K H1 a xs ∧ R (Itet K a) H1
theorem pi_enumT {X : Cx} {e : Expr} {ta : TA} {p pos tpos : Pos} {elts : List Expr} {kk : Nat} (hg : Gl X "enumerate") (hm : X.mg "enumerate" = none) (ha : PA X [e] ta)
    (hs : starEach [e] X.env = [(false, eval e X.env)] := by rfl) : PI X (.Tuple elts kk tpos) (.Call (.Name "enumerate" p) [e] [] pos) (iEnumT X.K ta) := by
  constructor
  intro pins s σ H R I h
  refine Call_ (ld_blt I hg hm boot_enumerate (PyProof.Rows.callWith_type1 (thn (ha.run pos pins s σ H _ I h) ?_) hs rfl))
  rintro us s1 ⟨vs, H1, I1, r1, a, xs, rfl, hx, q⟩
  obtain ⟨us1, w1, p1, lt1⟩ := sqx_vals (l := false) I1 hx
  rcases r1 with _ | ⟨ra, r1⟩
  cases r1
  cases ra
  refine call_enumT p1 ?_
  intro h' he hit hk
  refine wpAny_pyIter_enum he ?_
  have I2 : Inv X pins σ H1 { s1 with heap := h' } := I1.kept (t' := s1.toks) hk
  refine ⟨s1.heap.objs.size + 1, [s1.heap.objs.size + 1, s1.heap.objs.size], _, _, H1, rfl, I2, turn_et a _ _ (Nat.succ_ne_self _) (Nat.ne_of_gt (Nat.lt_succ_of_lt lt1)) (Nat.ne_of_lt lt1), ⟨⟨.none, he⟩, hit⟩, ?_, q⟩
  intro c hc
  have hle : s1.heap.objs.size ≤ c := by
    simp only [List.mem_cons, List.not_mem_nil, or_false] at hc
    rcases hc with rfl | rfl
    · exact Nat.le_add_right _ _
    · exact Nat.le_refl _
  exact I1.fpOk hle (I1.hok.fresh hle)
theorem walk_et {K : PySem.W.Frag} {a : Addr} {xs : List V} : Walk (Itet K a) xs.length (fun H => SqT K H a xs) (YPair (fun i => some (.int (i : Nat))) (fun i => xs[i]?)) := by
  refine ⟨fun i H hi q => ⟨xs, xs[i], q, by simp [hi]⟩, fun H q => ⟨xs, q, rfl⟩, fun i H v H' hi q y => ?_⟩
  obtain ⟨T, x, h1, h2, h3, h4⟩ := y
  exact ⟨T, .int (i : Nat), x, h1, h2, h3, rfl, h4 xs q⟩
end Wb

set_option Elab.async false
set_option linter.all false
set_option maxRecDepth 100000
set_option maxHeartbeats 2000000
namespace L2
open PySem PySem.Spec PyProof.Rows
section
variable {P : Program} {w : World} {A : Around} {E : Value → Shared → Prop} {s : Shared}
/-- sorted of a set of one tuple, whatever its length -/
theorem sorted_lone {a : Addr} {q : Addr × List Int} {es : Array (Int × Value)} {ep : Nat} {t : SetTable} {Q : Value → Shared → Prop} (R : SetTR P w s.heap a [q] es ep t) (hh : A.handled = none)
    (hQ : ∀ (s' : Shared) (p : Addr) (c : Nat), (∀ b o, s.heap.get? b = some o → s'.heap.get? b = some o) → s'.gens = s.gens → s'.os = s.os → s.heap.objs.size ≤ p →
      s'.heap.get? p = some (seqObj "list" #[.ref q.1] c) → Q (.ref p) s') : wpAny (model P w) A (call (.builtin "sorted") [.ref a]) Q E s := by
  obtain ⟨o, ho, hex, hd⟩ := R.ob
  have sz1 := R.size
  apply Calls.call_function_entry kind_sorted plain_sorted entry_sorted (args_sorted1 _)
  unfold Builtin.«sorted»
  apply wpAny_bind (m := checkCount "sorted" 1 1 _)
  apply wpAny_pure
  apply wpAny_bind
  apply collect_set (A := A.in1) hh ⟨o, ho, hex.1, hd⟩ R.fits (by unfold scanBound; simp at sz1; omega) R.tab.ris R.led
  intro s1 vs k1 hz g1 o1 pm
  have rows1 : es.toList.map (·.2) = [Value.ref q.1] := by
    rw [R.rows]
    rfl
  rw [rows1] at pm
  have evs : vs = [Value.ref q.1] := List.perm_singleton.mp pm
  subst evs
  apply wpAny_bind
  refine wpAny_newList ?_ (show 1 ≤ sizeLine by decide)
  have hoL : (s1.heap.push (seqObj "list" #[Value.ref q.1] 0)).get? s1.heap.objs.size = some (seqObj "list" [Value.ref q.1].toArray 0) := Heap.get?_push_size _ rfl
  apply wpAny_bind
  apply wpAny_holding
  refine wpAny_call_entry (s := { s1 with heap := s1.heap.push (seqObj "list" #[Value.ref q.1] 0) }) slot_list_sort (self := .ref s1.heap.objs.size) ⟨_, hoL, rfl⟩ entry_list_sort ?_ (args_list_sort _)
  refine SK.plain_sort (r := fun _ => 0) hoL (show 1 < 64 by decide) (fun h2 => absurd (show 2 ≤ 1 from h2) (by decide)) ?_
  intro ps out h1 h2 h3
  have eout : out.toList = [Value.ref q.1] := by
    rw [h1]
    have z := h2.map Prod.snd
    exact List.perm_singleton.mp z
  obtain ⟨c, hc⟩ := sortedHeap_at (vs := [Value.ref q.1]) (out := out) hoL
  have eo2 : out = #[Value.ref q.1] := by
    have z := congrArg List.toArray eout
    simpa using z
  subst eo2
  refine ⟨_, rfl, wpAny_pure ⟨_, rfl, hQ _ s1.heap.objs.size c (fun b u e => ?_) g1 o1 hz hc⟩⟩
  have e1 := k1 b u e
  have lt1 := Heap.lt_size e1
  show (sortedHeap (s1.heap.push (seqObj "list" #[Value.ref q.1] 0)) s1.heap.objs.size [Value.ref q.1] #[Value.ref q.1]).get? b = some u
  rw [sortedHeap_old (Nat.ne_of_lt lt1) (by rw [size_push']; exact Nat.lt_succ_of_lt lt1)]
  exact Heap.get?_push_of_some _ e1
end
section
variable {X : Cx}
/-- sorted(set) of tuples of as many ints each -/
def rSortedW (K : PySem.W.Frag) (P : Program) (w : World) : List V → Hp → VK → Prop := fun vs H Q => ∃ (a : Addr) (L : List (Addr × List Int)) (d : Nat) (B : Int), vs = [V.ref a] ∧ H a = some (SetTO P w a L) ∧
  (∀ p ∈ L, SqT K H p.1 (p.2.map V.int)) ∧ (∀ p ∈ L, p.2.length = d ∧ TS.Bd B p.2) ∧ L ≠ [] ∧
  ∀ (L' : List (Addr × List Int)) (p : Addr), L'.Perm L → (L'.map (·.2)).Nodup → L'.length < 64 → L'.Pairwise (fun q r => TS.code B q.2 ≤ TS.code B r.2) → H p = none → Q (.ref p) (upd H p (.lst (L'.map fun q => V.ref q.1)))
theorem cr_sortedW (hc : X.calm = true) : CallR X (.builtin "sorted") (rSortedW X.K X.prog X.w) := by
  intro pins s σ H vs us Q I r h
  obtain ⟨a, L, d, B, e1, ha, hk, hB, hne, q⟩ := h
  by_cases hd : 1 ≤ d
  · exact cr_sortedT hc pins s σ H vs us Q I r ⟨a, L, d, B, e1, ha, hk, hd, hB, q⟩
  · subst e1
    have R0 : SetT0 X.prog X.w s.heap a L := (I.hok a _ ha).1
    obtain ⟨es, ep, t, R⟩ := R0.full fun p hp => I.isT (hk p hp)
    have emp : ∀ p ∈ L, p.2 = [] := fun p hp => List.eq_nil_of_length_eq_zero (by have := (hB p hp).1; omega)
    obtain ⟨p0, rfl⟩ : ∃ p0, L = [p0] := by
      cases L with
      | nil => exact absurd rfl hne
      | cons p0 L1 =>
        cases L1 with
        | nil => exact ⟨p0, rfl⟩
        | cons p1 L2 =>
          exfalso
          have nd := R.nd
          have z0 := emp p0 (by simp)
          have z1 := emp p1 (by simp)
          simp [z0, z1] at nd
    rw [Vals.ref1 r]
    refine sorted_lone R (I.ok.hd hc) ?_
    intro s' p c k g o hp hg
    have hn : H p = none := I.hok.fresh hp
    have J : Inv X pins σ (upd H p (.lst [V.ref p0.1])) { s with heap := s'.heap, gens := s'.gens, drawn := s'.drawn, toks := s'.toks } :=
      I.call (ch := []) (Un.laid k hp hn) (I.hok.laid k hp ⟨(by show 1 ≤ sizeLine; decide), [Value.ref p0.1], c, Paired.cons rfl Paired.nil, hg⟩) (by rw [g]; exact I.bare) (fun _ z => nomatch z)
    have e : s' = { s with heap := s'.heap, gens := s'.gens, drawn := s'.drawn, toks := s'.toks } := by
      cases s'; cases s; cases o; rfl
    rw [e]
    exact ⟨.ref p, _, J, rfl, q [p0] p (List.Perm.refl _) (by simp) (show 1 < 64 by decide) (by simp) hn⟩
end
end L2

set_option Elab.async false
set_option linter.all false
set_option maxRecDepth 100000
set_option maxHeartbeats 2000000
namespace Wb
open PySem PySem.Spec PyProof.Rows L2

/-! ### data -/
abbrev Word := List Int
structure Gap where
  frm : Int
  to_ : Int
  price : Int
  ways : List Word
structure Bolt where
  many : Int
  gaps : List Gap
abbrev Lock := List Bolt

/-- tuples that are read stay -/
def TX (K : PySem.W.Frag) (H H' : Hp) : Prop := (∀ a xs, SqT K H a xs → SqT K H' a xs) ∧ ∀ a xs, H a = some (.tup xs) → H' a = some (.tup xs)
theorem TX.refl (K : PySem.W.Frag) (H : Hp) : TX K H H := ⟨fun _ _ h => h, fun _ _ h => h⟩
theorem TX.trans {K : PySem.W.Frag} {H H1 H2 : Hp} (a : TX K H H1) (b : TX K H1 H2) : TX K H H2 := ⟨fun x o h => b.1 x o (a.1 x o h), fun x o h => b.2 x o (a.2 x o h)⟩
theorem TX.ex {K : PySem.W.Frag} {H H' : Hp} (e : Evl.Ex H H') : TX K H H' := ⟨fun _ _ h => Evl.ex_t e h, fun _ _ h => e _ _ h⟩
/-- all but what stands at p is kept -/
def Exx (p : Addr) (H H' : Hp) : Prop := ∀ a o, a ≠ p → H a = some o → H' a = some o
theorem Exx.refl (p : Addr) (H : Hp) : Exx p H H := fun _ _ _ h => h
theorem Exx.trans {p : Addr} {H H1 H2 : Hp} (a : Exx p H H1) (b : Exx p H1 H2) : Exx p H H2 := fun x o n h => b x o n (a x o n h)
theorem Exx.ex {p : Addr} {H H' : Hp} (e : Evl.Ex H H') : Exx p H H' := fun a o _ h => e a o h
theorem Exx.put {p : Addr} {H : Hp} {o : HO} : Exx p H (upd H p o) := fun a u n h => by rw [upd_ne n]; exact h
theorem Exx.new {p q : Addr} {H : Hp} {o : HO} (h : H q = none) : Exx p H (upd H q o) := Exx.ex (Evl.Ex.new h)
/-- .. where p is no tuple -/
theorem Exx.tx {K : PySem.W.Frag} {p : Addr} {H H' : Hp} (e : Exx p H H') (np : ∀ xs, ¬ Rd H p (.tup xs)) : TX K H H' := by
  refine ⟨fun a xs h => ?_, fun a xs h => e a _ (fun z => np xs (.inl (z ▸ h))) h⟩
  rcases h with h | h
  · have na : a ≠ p := fun z => np xs (z ▸ h)
    rcases h with h | ⟨o, h⟩
    · exact .inl (.inl (e a _ na h))
    · exact .inl (.inr ⟨o, e a _ na h⟩)
  · exact .inr h
theorem Exx.l {K : PySem.W.Frag} {p a : Addr} {H H' : Hp} {xs : List V} (e : Exx p H H') (na : a ≠ p) (h : SqL K H a xs) : SqL K H' a xs := by
  rcases h with (h | ⟨o, h⟩) | h
  · exact .inl (.inl (e a _ na h))
  · exact .inl (.inr ⟨o, e a _ na h⟩)
  · exact .inr h

def Wd (K : PySem.W.Frag) (H : Hp) (v : V) (ns : Word) : Prop := ∃ a, v = .ref a ∧ H a = some (.tup (ns.map V.int))
def GapAt (K : PySem.W.Frag) (H : Hp) (v : V) (g : Gap) : Prop :=
  ∃ a b ws, v = .ref a ∧ SqT K H a [.int g.frm, .int g.to_, .int g.price, .ref b] ∧ SqT K H b ws ∧ Paired (Wd K H) ws g.ways
def BoltAt (K : PySem.W.Frag) (H : Hp) (v : V) (b : Bolt) : Prop := ∃ a c gs, v = .ref a ∧ SqT K H a [.int b.many, .ref c] ∧ SqT K H c gs ∧ Paired (GapAt K H) gs b.gaps
def LockAt (K : PySem.W.Frag) (H : Hp) (v : V) (l : Lock) : Prop := ∃ a bs, v = .ref a ∧ SqT K H a bs ∧ Paired (BoltAt K H) bs l

theorem Paired.imp {α β : Type} {F G : α → β → Prop} (f : ∀ a b, F a b → G a b) : ∀ {l₁ : List α} {l₂ : List β}, Paired F l₁ l₂ → Paired G l₁ l₂
  | _, _, .nil => .nil
  | _, _, .cons r t => .cons (f _ _ r) (Paired.imp f t)
section
variable {K : PySem.W.Frag} {H H' : Hp} {v : V}
theorem Wd.mono (e : TX K H H') {ns : Word} (h : Wd K H v ns) : Wd K H' v ns := by
  obtain ⟨a, r, q⟩ := h
  exact ⟨a, r, e.2 _ _ q⟩
theorem GapAt.mono (e : TX K H H') {g : Gap} (h : GapAt K H v g) : GapAt K H' v g := by
  obtain ⟨a, b, ws, r, q1, q2, q3⟩ := h
  exact ⟨a, b, ws, r, e.1 _ _ q1, e.1 _ _ q2, Paired.imp (fun _ _ => Wd.mono e) q3⟩
theorem BoltAt.mono (e : TX K H H') {b : Bolt} (h : BoltAt K H v b) : BoltAt K H' v b := by
  obtain ⟨a, c, gs, r, q1, q2, q3⟩ := h
  exact ⟨a, c, gs, r, e.1 _ _ q1, e.1 _ _ q2, Paired.imp (fun _ _ => GapAt.mono e) q3⟩
theorem LockAt.mono (e : TX K H H') {l : Lock} (h : LockAt K H v l) : LockAt K H' v l := by
  obtain ⟨a, bs, r, q1, q2⟩ := h
  exact ⟨a, bs, r, e.1 _ _ q1, Paired.imp (fun _ _ => BoltAt.mono e) q2⟩
end
section
variable {α β : Type} {R : α → β → Prop}
theorem Paired.get1 : ∀ {xs : List α} {ys : List β} {i : Nat} {x : α}, Paired R xs ys → xs[i]? = some x → ∃ y, ys[i]? = some y ∧ R x y
  | _, _, _, _, .nil, e => by simp at e
  | _, _, 0, _, .cons r _, e => by simp at e; subst e; exact ⟨_, rfl, r⟩
  | _, _, i + 1, x, .cons _ t, e => by
    obtain ⟨u, h1, h2⟩ := Paired.get1 (i := i) (x := x) t (by simpa using e)
    exact ⟨u, by simpa using h1, h2⟩
theorem Paired.get2 : ∀ {xs : List α} {ys : List β} {i : Nat} {y : β}, Paired R xs ys → ys[i]? = some y → ∃ x, xs[i]? = some x ∧ R x y
  | _, _, _, _, .nil, e => by simp at e
  | _, _, 0, _, .cons r _, e => by simp at e; subst e; exact ⟨_, rfl, r⟩
  | _, _, i + 1, y, .cons _ t, e => by
    obtain ⟨u, h1, h2⟩ := Paired.get2 (i := i) (y := y) t (by simpa using e)
    exact ⟨u, by simpa using h1, h2⟩
theorem Paired.len {xs : List α} {ys : List β} (h : Paired R xs ys) : xs.length = ys.length := Paired.length h
theorem Paired.app : ∀ {xs : List α} {ys : List β} {xs' : List α} {ys' : List β}, Paired R xs ys → Paired R xs' ys' → Paired R (xs ++ xs') (ys ++ ys')
  | _, _, _, _, .nil, s => s
  | _, _, _, _, .cons r t, s => .cons r (Paired.app t s)
theorem Paired.takeN : ∀ {xs : List α} {ys : List β} (n : Nat), Paired R xs ys → Paired R (xs.take n) (ys.take n)
  | _, _, 0, _ => .nil
  | _, _, _ + 1, .nil => .nil
  | _, _, n + 1, .cons r t => .cons r (Paired.takeN n t)
end
theorem take_succ_get {α : Type} {xs : List α} {i : Nat} {x : α} (h : xs[i]? = some x) : xs.take (i + 1) = xs.take i ++ [x] := by
  rw [List.take_add_one, h]
  rfl
theorem get_map_int {ns : List Int} {i : Nat} {x : V} (h : (ns.map V.int)[i]? = some x) : ∃ n, ns[i]? = some n ∧ x = .int n := by
  rw [List.getElem?_map] at h
  cases e : ns[i]? with
  | none => rw [e] at h; cases h
  | some n => rw [e] at h; exact ⟨n, rfl, (Option.some.inj h).symm⟩
theorem map_int_get {ns : List Int} {i : Nat} {n : Int} (h : ns[i]? = some n) : (ns.map V.int)[i]? = some (.int n) := by
  rw [List.getElem?_map, h]
  rfl

/-! ### what a lock must be -/
def lexLt2 (a b c d : Int) : Prop := a < c ∨ (a = c ∧ b < d)
structure GapOk (manys : List Int) (many : Int) (g : Gap) : Prop where
  f0 : 0 ≤ g.frm
  f1 : g.frm < many
  t0 : 0 ≤ g.to_
  t1 : g.to_ < many
  ne : g.frm ≠ g.to_
  p0 : 1 ≤ g.price
  p1 : g.price ≤ 1000000
  few : g.ways.length ≤ 8
  words : ∀ w ∈ g.ways, w.length = manys.length ∧ ∀ (i : Nat) (x m : Int), w[i]? = some x → manys[i]? = some m → 0 ≤ x ∧ x < m
  rise : g.ways.Pairwise (fun u w => HT.lexLt u w = true)
structure BoltOk (manys : List Int) (b : Bolt) : Prop where
  m0 : 2 ≤ b.many
  m1 : b.many ≤ 4
  gaps : ∀ g ∈ b.gaps, GapOk manys b.many g
  rise : b.gaps.Pairwise (fun g h => lexLt2 g.frm g.to_ h.frm h.to_)
  few : (b.gaps.map (fun g => g.ways.length)).sum ≤ 8
def manysOf (l : Lock) : List Int := l.map (·.many)
/-- the ways of the bolts numbered k and more, cut to k places -/
def cutsFrom (l : Lock) (k : Nat) (w : Word) : Prop := ∃ (j : Nat) (b : Bolt) (g : Gap) (u : Word), k ≤ j ∧ l[j]? = some b ∧ g ∈ b.gaps ∧ u ∈ g.ways ∧ w = u.take k
structure LockOk (l : Lock) : Prop where
  n0 : 1 ≤ l.length
  n1 : l.length ≤ 60
  bolts : ∀ (k : Nat) (b : Bolt), l[k]? = some b → BoltOk (manysOf (l.take k)) b
  words : ∀ (k : Nat) (ws : List Word), k < l.length → ws.Nodup → (∀ w ∈ ws, cutsFrom l k w) → ws.length ≤ 8
end Wb

set_option Elab.async false
set_option linter.all false
set_option maxRecDepth 100000
set_option maxHeartbeats 4000000
set_option pp.maxSteps 600
set_option pp.deepTerms false
namespace Wb
open PySem PySem.Spec PyProof.Rows L2
def topS (i : Nat) : Stmt := PySem.Challenge.pw_waitbolts_k64_what_can_be_come_to_from_w.main.body.getD i (.Pass ⟨0, 0, 0, 0⟩)
abbrev sWhole : Stmt := topS 2
abbrev sWholeIn : Stmt := topS 3
abbrev sTupOf : Stmt := topS 4
abbrev sPlaces : Stmt := topS 5
theorem scWhole : FnScope ["thing"] ["thing"] (defScope sWhole) := ⟨rfl, rfl, rfl, by decide +kernel, rfl, by decide +kernel, by decide +kernel⟩
theorem scWholeIn : FnScope ["thing", "low", "high"] ["thing", "low", "high"] (defScope sWholeIn) := ⟨rfl, rfl, rfl, by decide +kernel, rfl, by decide +kernel, by decide +kernel⟩
theorem scTupOf : FnScope ["thing", "low", "high"] ["thing", "low", "high"] (defScope sTupOf) := ⟨rfl, rfl, rfl, by decide +kernel, rfl, by decide +kernel, by decide +kernel⟩
theorem scPlaces : FnScope ["thing", "manys", "place", "many"] ["thing", "manys"] (defScope sPlaces) := ⟨rfl, rfl, rfl, by decide +kernel, rfl, by decide +kernel, by decide +kernel⟩

/-- the built-in names are the built-in ones -/
structure Bi (mg : Str → Option Value) : Prop where
  isi : mg "isinstance" = none
  int : mg "int" = none
  bool : mg "bool" = none
  tuple : mg "tuple" = none
  list : mg "list" = none
  len : mg "len" = none
  zip : mg "zip" = none
  all : mg "all" = none
  range : mg "range" = none
  rev : mg "reversed" = none
  enum : mg "enumerate" = none
  sorted : mg "sorted" = none
  set : mg "set" = none
  abs : mg "abs" = none
  repr : mg "repr" = none

theorem tyx_tup {K : PySem.W.Frag} {H : Hp} {a : Addr} {xs : List V} (h : SqT K H a xs) : TyX K H (.ref a) (.type "tuple") := by
  rcases h with (h | ⟨o, h⟩) | ⟨o, its, n, h, c, _⟩
  · exact .base (.tup h)
  · exact .fTuple h
  · exact .kTuple h c
theorem tyx_int {K : PySem.W.Frag} {H : Hp} (i : Int) : TyX K H (.int i) (.type "int") := .base (.int i)

/-! ### promises -/
def spWhole : Sp := fun vs H Q _ => ∃ i : Int, vs = [.int i] ∧ Q (.bl true) H
def spWholeIn : Sp := fun vs H Q _ => ∃ i l h : Int, vs = [.int i, .int l, .int h] ∧ Q (.bl (decide (l ≤ i) && decide (i ≤ h))) H
def spTupOf (K : PySem.W.Frag) : Sp := fun vs H Q _ => ∃ (a : Addr) (xs : List V) (l h : Int), vs = [.ref a, .int l, .int h] ∧ SqT K H a xs ∧ Q (.bl (decide (l ≤ (xs.length : Int)) && decide ((xs.length : Int) ≤ h))) H
/-- as many places as bolts, each of them one of its bolt's -/
def InAll (ns ms : List Int) : Prop := ns.length = ms.length ∧ ∀ (i : Nat) (n m : Int), ns[i]? = some n → ms[i]? = some m → 0 ≤ n ∧ n < m
def spPlaces (K : PySem.W.Frag) : Sp := fun vs H Q _ => ∃ (a b : Addr) (m : Bool) (ns ms : List Int), vs = [.ref a, .ref b] ∧ SqT K H a (ns.map V.int) ∧ SqX K m H b (ms.map V.int) ∧ InAll ns ms ∧ ∀ H', Evl.Ex H H' → Q (.bl true) H'

section
variable {P : Program} {w : World} {K : PySem.W.Frag} {mg : Str → Option Value} {base : Heap}
theorem ok_whole {f : Addr} {fd : FuncData} (F : Fun K "is_whole" "is_whole" sWhole f fd) (B : Bi mg) : FnOk P w K mg base CX0 1 f fd ["thing"] spWhole := by
  refine F.ok scWhole (fun vs H Q E h => ?_) (fun cdv A outer s H vs Q E hr h => ?_)
  · obtain ⟨i, rfl, _⟩ := h; rfl
  · obtain ⟨i, rfl, q⟩ := h
    refine ⟨_, pss_one (ps_ret (pe_and (pe_callB call_isi (by rfl) B.isi boot_isinstance (pa_cons (pv 0) (pa_cons (pe_bltn (v := .ty "int") (by rfl) B.int (by decide +kernel) rfl) pa_nil)))
      (pe_one (pe_not (pe_callB call_isi (by rfl) B.isi boot_isinstance (pa_cons (pv 0) (pa_cons (pe_bltn (v := .ty "bool") (by rfl) B.bool (by decide +kernel) rfl) pa_nil))))))), ?_⟩
    refine ⟨.int i, rfl, .int i, .ty "int", .type "int", .type "int", true, rfl, .ty _, tyx_int i, kit_ty (by decide +kernel), true, rfl, ?_⟩
    rw [if_pos rfl]
    refine ⟨.int i, rfl, .int i, .ty "bool", .type "int", .type "bool", false, rfl, .ty _, tyx_int i, kit_ty (by decide +kernel), false, rfl, q⟩
theorem ok_wholeIn {f f1 : Addr} {fd fd1 : FuncData} (F : Fun K "is_whole_in" "is_whole_in" sWholeIn f fd) (F1 : Fun K "is_whole" "is_whole" sWhole f1 fd1) (b1 : Binds K fd1 ["thing"] []) (g1 : mg "is_whole" = some (.ref f1)) (B : Bi mg) :
    FnOk P w K mg base CX0 2 f fd ["thing", "low", "high"] spWholeIn := by
  have G1 : FnOk P w K mg base CX0 1 f1 fd1 ["thing"] spWhole := ok_whole F1 B
  refine F.ok scWholeIn (fun vs H Q E h => ?_) (fun cdv A outer s H vs Q E hr h => ?_)
  · obtain ⟨i, l, m, rfl, _⟩ := h; rfl
  · obtain ⟨i, l, m, rfl, q⟩ := h
    refine ⟨_, pss_one (ps_ret (pe_and (pe_call G1 hr (by rfl) g1 F1.kp b1 .nil pass0 (pa_cons (pv 0) pa_nil)) (pe_one (pe_chain op_le op_le (pv 1) (pv 0) (pv 2))))), ?_⟩
    refine ⟨.int i, rfl, i, rfl, true, rfl, ?_⟩
    rw [if_pos rfl]
    refine ⟨.int l, rfl, .int i, rfl, l, i, rfl, rfl, decide (l ≤ i), rfl, ?_⟩
    by_cases h1 : l ≤ i
    · rw [if_pos (decide_eq_true h1)]
      refine ⟨.int m, rfl, i, m, rfl, rfl, ?_⟩
      rw [decide_eq_true h1] at q
      exact q
    · rw [if_neg (by rw [decide_eq_false h1]; exact Bool.false_ne_true)]
      rw [decide_eq_false h1] at q
      exact q
theorem ok_tupOf {f : Addr} {fd : FuncData} (F : Fun K "is_tuple_of" "is_tuple_of" sTupOf f fd) (B : Bi mg) : FnOk P w K mg base CX0 1 f fd ["thing", "low", "high"] (spTupOf K) := by
  refine F.ok scTupOf (fun vs H Q E h => ?_) (fun cdv A outer s H vs Q E hr h => ?_)
  · obtain ⟨a, xs, l, m, rfl, _⟩ := h; rfl
  · obtain ⟨a, xs, l, m, rfl, hx, q⟩ := h
    refine ⟨_, pss_one (ps_ret (pe_and (pe_callB call_isi (by rfl) B.isi boot_isinstance (pa_cons (pv 0) (pa_cons (pe_bltn (v := .ty "tuple") (by rfl) B.tuple (by decide +kernel) rfl) pa_nil)))
      (pe_one (pe_chain op_le op_le (pv 1) (pe_callB call_len_seq (by rfl) B.len PySem.boot_len (pa_cons (pv 0) pa_nil)) (pv 2))))), ?_⟩
    refine ⟨.ref a, rfl, .ref a, .ty "tuple", .type "tuple", .type "tuple", true, rfl, .ty _, tyx_tup hx, kit_ty (by decide +kernel), true, rfl, ?_⟩
    rw [if_pos rfl]
    refine ⟨.int l, rfl, .ref a, rfl, a, xs, rfl, .inr hx, l, xs.length, rfl, rfl, decide (l ≤ (xs.length : Int)), rfl, ?_⟩
    by_cases h1 : l ≤ (xs.length : Int)
    · rw [if_pos (decide_eq_true h1)]
      refine ⟨.int m, rfl, xs.length, m, rfl, rfl, ?_⟩
      rw [decide_eq_true h1] at q
      exact q
    · rw [if_neg (by rw [decide_eq_false h1]; exact Bool.false_ne_true)]
      rw [decide_eq_false h1] at q
      exact q
theorem sqx_ex {l : Bool} {H H' : Hp} {a : Addr} {xs : List V} (e : Evl.Ex H H') (h : SqX K l H a xs) : SqX K l H' a xs := by
  cases l
  · exact Evl.ex_t e h
  · exact Evl.ex_l e h
theorem sqx_seq {l : Bool} {H : Hp} {a : Addr} {xs : List V} (h : SqX K l H a xs) : SqL K H a xs ∨ SqT K H a xs := by
  cases l
  · exact .inr h
  · exact .inl h
theorem ok_places {f f1 : Addr} {fd fd1 : FuncData} (F : Fun K "are_places" "are_places" sPlaces f fd) (F1 : Fun K "is_tuple_of" "is_tuple_of" sTupOf f1 fd1) (b1 : Binds K fd1 ["thing", "low", "high"] []) (g1 : mg "is_tuple_of" = some (.ref f1)) (B : Bi mg) :
    FnOk P w K mg base CX0 2 f fd ["thing", "manys"] (spPlaces K) := by
  have G1 : FnOk P w K mg base CX0 1 f1 fd1 ["thing", "low", "high"] (spTupOf K) := ok_tupOf F1 B
  refine F.ok scPlaces (fun vs H Q E h => ?_) (fun cdv A outer s H vs Q E hr h => ?_)
  · obtain ⟨a, b, m, ns, ms, rfl, _⟩ := h; rfl
  · obtain ⟨a, b, m, ns, ms, rfl, hx, hy, ⟨hl, hin⟩, q⟩ := h
    have isI : ∀ (X : Cx) (T : String) (hT : X.mg T = none) (i : Nat), True := fun _ _ _ _ => trivial
    refine ⟨_, pss_cons (ps_if (pt_not (pt_val (pe_call G1 hr (by rfl) g1 F1.kp b1 .nil pass0 (pa_cons (pv 0) (pa_cons (pe_callB call_len_seq (by rfl) B.len PySem.boot_len (pa_cons (pv 1) pa_nil)) (pa_cons (pe_callB call_len_seq (by rfl) B.len PySem.boot_len (pa_cons (pv 1) pa_nil)) pa_nil))))))
        (pss_one (ps_ret pe_bl)) pss_nil)
      (pss_cons (ps_for PassesOwn.never rfl (pi_zipX (by rfl) B.zip (pa_cons (pv 0) (pa_cons (pv 1) pa_nil))) (pg_tup rfl (pgs_cons (pg_name (i := 2) scPlaces.nd rfl (.inl rfl)) (pgs_cons (pg_name (i := 3) scPlaces.nd rfl (.inl rfl)) pgs_nil)))
        (pss_one (ps_if (PW.pt (pw_or (pt_val (pe_callB call_isi (by rfl) B.isi boot_isinstance (pa_cons (pv 2) (pa_cons (pe_bltn (v := .ty "bool") (by rfl) B.bool (by decide +kernel) rfl) pa_nil))))
            (pw_or (pt_not (pt_val (pe_callB call_isi (by rfl) B.isi boot_isinstance (pa_cons (pv 2) (pa_cons (pe_bltn (v := .ty "int") (by rfl) B.int (by decide +kernel) rfl) pa_nil)))))
              (pw_or1 (pt_not (pt_chain op_le op_lt pe_int (pv 2) (pv 3)))))))
          (pss_one (ps_ret pe_bl)) pss_nil)))
      (pss_one (ps_ret pe_bl))), ?_⟩
    refine ⟨.ref a, rfl, .ref b, rfl, b, _, rfl, sqx_seq hy, .ref b, rfl, b, _, rfl, sqx_seq hy, a, _, _, _, rfl, hx, _, rfl, ?_⟩
    have e1 : (decide (((ms.map V.int).length : Int) ≤ ((ns.map V.int).length : Int)) && decide (((ns.map V.int).length : Int) ≤ ((ms.map V.int).length : Int))) = true := by
      rw [List.length_map, List.length_map, hl]
      simp
    rw [e1]
    refine iteF ?_
    refine ⟨.ref a, rfl, .ref b, rfl, false, m, a, b, ns.map V.int, ms.map V.int, rfl, hx, hy, ?_⟩
    refine for_it (walk_zx (l := false) (m := m) (xs := ns.map V.int) (ys := ms.map V.int) (by rw [List.length_map, List.length_map, hl])) (fun i σ H' => ∃ y2 y3, σ = [some (.ref a), some (.ref b), y2, y3] ∧ Evl.Ex H H') ⟨none, none, rfl, Evl.Ex.refl H⟩ ?_ ?_ ?_
    · rintro i σ H' _ ⟨_, _, _, e⟩
      exact ⟨Evl.ex_t e hx, sqx_ex e hy⟩
    · rintro i v σ H1 H2 hi ⟨y2, y3, rfl, e⟩ ⟨T, x, y, rfl, nT, rfl, ex, ey⟩
      obtain ⟨n, hn, rfl⟩ := get_map_int ex
      obtain ⟨k, hk, rfl⟩ := get_map_int ey
      obtain ⟨h0, h1⟩ := hin i n k hn hk
      refine ⟨T, [.int n, .int k], rfl, .inl (.inl upd_same), rfl, .int n, [.int k], rfl, .int k, [], rfl, rfl, ?_⟩
      refine ⟨.int n, rfl, .int n, .ty "bool", .type "int", .type "bool", false, rfl, .ty _, tyx_int n, kit_ty (by decide +kernel), false, rfl, ?_⟩
      refine iteF ?_
      refine ⟨.int n, rfl, .int n, .ty "int", .type "int", .type "int", true, rfl, .ty _, tyx_int n, kit_ty (by decide +kernel), true, rfl, ?_⟩
      refine iteF ?_
      refine ⟨.int n, rfl, 0, n, rfl, rfl, decide ((0:Int) ≤ n), rfl, ?_⟩
      rw [if_pos (decide_eq_true h0)]
      refine ⟨.int k, rfl, n, k, rfl, rfl, decide (n < k), rfl, ?_⟩
      rw [decide_eq_true h1]
      refine iteF ?_
      exact ⟨_, _, rfl, e.trans (Evl.Ex.new nT)⟩
    · rintro σ H' ⟨y2, y3, rfl, e⟩
      exact q H' e
end
end Wb

set_option Elab.async false
set_option linter.all false
set_option maxRecDepth 100000
set_option maxHeartbeats 4000000
set_option pp.maxSteps 600
set_option pp.deepTerms false
namespace Wb
open PySem PySem.Spec PyProof.Rows L2
abbrev sWays : Stmt := topS 28
abbrev sGap : Stmt := topS 27
abbrev sBolt : Stmt := topS 26
theorem scWays : FnScope ["thing", "below", "way", "n"] ["thing", "below"] (defScope sWays) := ⟨rfl, rfl, rfl, by decide +kernel, rfl, by decide +kernel, by decide +kernel⟩
theorem scGap : FnScope ["thing", "many", "below", "here", "there", "price", "ways"] ["thing", "many", "below"] (defScope sGap) := ⟨rfl, rfl, rfl, by decide +kernel, rfl, by decide +kernel, by decide +kernel⟩
theorem scBolt : FnScope ["thing", "below", "many", "gaps", "count", "last", "gap"] ["thing", "below"] (defScope sBolt) := ⟨rfl, rfl, rfl, by decide +kernel, rfl, by decide +kernel, by decide +kernel⟩

/-- the module's numbers -/
structure Nu (mg : Str → Option Value) : Prop where
  bolts : ∃ t, mg "MOST_BOLTS" = some (.int 60 t)
  fewest : ∃ t, mg "FEWEST_PLACES" = some (.int 2 t)
  places : ∃ t, mg "MOST_PLACES" = some (.int 4 t)
  ways : ∃ t, mg "MOST_WAYS" = some (.int 8 t)
  words : ∃ t, mg "MOST_WORDS" = some (.int 8 t)
  price : ∃ t, mg "MOST_PRICE" = some (.int 1000000 t)

/-- ways of a gap: words below, rising -/
structure WaysOk (ms : List Int) (ws : List Word) : Prop where
  few : ws.length ≤ 8
  words : ∀ w ∈ ws, InAll w ms
  rise : ws.Pairwise (fun u w => HT.lexLt u w = true)
def spWays (K : PySem.W.Frag) : Sp := fun vs H Q _ => ∃ (a b : Addr) (us : List V) (ws : List Word) (ms : List Int), vs = [.ref a, .ref b] ∧ SqT K H a us ∧ Paired (Wd K H) us ws ∧ SqL K H b (ms.map V.int) ∧ WaysOk ms ws ∧ ∀ H', Evl.Ex H H' → Q (.bl true) H'

theorem wd_ex {K : PySem.W.Frag} {H H' : Hp} (e : Evl.Ex H H') {v : V} {ns : Word} (h : Wd K H v ns) : Wd K H' v ns := h.mono (TX.ex e)
theorem all_true (n : Nat) : ((List.replicate n true).all id) = true := by simp

section
variable {P : Program} {w : World} {K : PySem.W.Frag} {mg : Str → Option Value} {base : Heap}
theorem ok_ways {f f1 f2 : Addr} {fd fd1 fd2 : FuncData} (F : Fun K "are_ways" "are_ways" sWays f fd) (F1 : Fun K "is_tuple_of" "is_tuple_of" sTupOf f1 fd1) (b1 : Binds K fd1 ["thing", "low", "high"] []) (g1 : mg "is_tuple_of" = some (.ref f1))
    (F2 : Fun K "are_places" "are_places" sPlaces f2 fd2) (b2 : Binds K fd2 ["thing", "manys"] []) (g2 : mg "are_places" = some (.ref f2)) (B : Bi mg) (N : Nu mg) :
    FnOk P w K mg base CX0 3 f fd ["thing", "below"] (spWays K) := by
  have G1 : FnOk P w K mg base CX0 1 f1 fd1 ["thing", "low", "high"] (spTupOf K) := ok_tupOf F1 B
  have G2 : FnOk P w K mg base CX0 2 f2 fd2 ["thing", "manys"] (spPlaces K) := ok_places F2 F1 b1 g1 B
  obtain ⟨tw, ew⟩ := N.ways
  refine F.ok scWays (fun vs H Q E h => ?_) (fun cdv A outer s H vs Q E hr h => ?_)
  · obtain ⟨a, b, us, ws, ms, rfl, _⟩ := h; rfl
  · obtain ⟨a, b, us, ws, ms, rfl, hx, hp, hy, ok, q⟩ := h
    have hr1 : Room 1 _ := hr.mono (by decide)
    refine ⟨_, pss_cons (ps_if (pt_not (pt_val (pe_call G1 hr1 (by rfl) g1 F1.kp b1 .nil pass0 (pa_cons (pv 0) (pa_cons pe_int (pa_cons (pe_glob (v := .int 8) (by rfl) ew ⟨_, rfl⟩) pa_nil)))))) (pss_one (ps_ret pe_bl)) pss_nil)
      (pss_cons (ps_if (pt_not (pt_val (pe_callB (cr_all rfl) (by rfl) B.all boot_all (pa_cons
          (pe_lc (own := [("way", 2)]) (g := gName 2) rfl scWays.nd (pi_tup (pv 0)) (blkOk_by (own := [("way", 2)]) (N := ["thing", "below", "way", "n"]) (sc := defScope sWays) (by decide +kernel))
            (fun _ _ _ _ _ => pg_name (i := 2) scWays.nd rfl (Or.inl rfl)) (fun _ _ _ _ _ => pts_nil)
            (fun _ _ _ _ _ => pe_call G2 hr (by rfl) g2 F2.kp b2 .nil pass0 (pa_cons (pv 2) (pa_cons (pv 1) pa_nil)))) pa_nil)))) (pss_one (ps_ret pe_bl)) pss_nil)
      (pss_one (ps_ret (pe_callB (cr_all rfl) (by rfl) B.all boot_all (pa_cons
          (pe_lc (own := [("n", 3)]) (g := gName 3) rfl scWays.nd (pi_range1 rfl B.range (pa_cons (pe_op op_sub (pe_callB call_len_seq (by rfl) B.len PySem.boot_len (pa_cons (pv 0) pa_nil)) pe_int) pa_nil)) (blkOk_by (own := [("n", 3)]) (N := ["thing", "below", "way", "n"]) (sc := defScope sWays) (by decide +kernel))
            (fun _ _ _ _ _ => pg_name (i := 3) scWays.nd rfl (Or.inl rfl)) (fun _ _ _ _ _ => pts_nil)
            (fun _ _ _ _ _ => pe_cmpR (r := rLtT K) (op_ltT hr.units0) (pe_ix (r := rIxT K) ix_tup (pv 0) (pv 3) (fun _ _ => rfl)) (pe_ix (r := rIxT K) ix_tup (pv 0) (pe_op op_add (pv 3) pe_int) (fun _ _ => rfl)) (nomark _))) pa_nil))))), ?_⟩
    have ul : us.length = ws.length := Paired.len hp
    have few := ok.few
    refine ⟨.ref a, rfl, a, us, 0, 8, rfl, hx, _, rfl, ?_⟩
    have e1 : (decide ((0 : Int) ≤ (us.length : Int)) && decide ((us.length : Int) ≤ 8)) = true := by
      rw [ul]
      simp
      omega
    rw [e1]
    refine iteF ?_
    refine ⟨.ref a, rfl, a, rfl, ⟨_, hx⟩, fun D hD => lc_tup (K := K) (a := a) (xs := us) (fun i H' => Evl.Ex H H' ∧ H' D = some (.lst ((List.replicate i true).map V.bl))) ⟨Evl.Ex.new hD, upd_same⟩ ?_ ?_ ?_⟩
    · rintro i H' _ ⟨e, _⟩
      exact Evl.ex_t e hx
    · rintro i x H' hi ⟨e, eD⟩
      obtain ⟨wd, hw, ⟨ax, rfl, hax⟩⟩ := Paired.get1 hp hi
      have hin := ok.words wd (List.mem_of_getElem? hw)
      refine ⟨rfl, .ref ax, rfl, .ref b, rfl, ax, b, true, wd, ms, rfl, Evl.ex_t e (SqT.of hax), Evl.ex_l e hy, hin, ?_⟩
      intro H2 e2
      have l9 : i < 9 := by
        have := (List.getElem?_eq_some_iff.mp hi).1
        omega
      refine ⟨_, e2 _ _ eD, ?_, (e.trans e2).mut hD, ?_⟩
      · rw [List.length_map, List.length_replicate]
        exact Nat.lt_of_lt_of_le l9 (by decide)
      · rw [upd_same, List.replicate_succ', List.map_append]
        rfl
    · rintro H1 ⟨e, eD⟩
      refine ⟨D, _, rfl, .inl (.inl eD), true, ?_, ?_⟩
      · rw [all_true]
      · refine iteF ?_
        refine ⟨.ref a, rfl, a, us, rfl, .inr (Evl.ex_t e hx), _, _, rfl, rfl, (us.length : Int) - 1, rfl, by omega, by omega, fun D2 hD2 =>
          lc_range (lo := 0) (n := ((us.length : Int) - 1).toNat) (fun i H' => Evl.Ex H1 H' ∧ H' D2 = some (.lst ((List.replicate i true).map V.bl))) ⟨Evl.Ex.new hD2, upd_same⟩ ?_ ?_⟩
        · rintro i H' hi ⟨e2, eD2⟩
          have h1 : i < us.length := by omega
          have h2 : i + 1 < us.length := by omega
          obtain ⟨u1, hu1, ⟨a1, ea1, ha1⟩⟩ := Paired.get1 hp (List.getElem?_eq_getElem h1)
          obtain ⟨u2, hu2, ⟨a2, ea2, ha2⟩⟩ := Paired.get1 hp (List.getElem?_eq_getElem h2)
          have rise : HT.lexLt u1 u2 = true := by
            obtain ⟨l1, q1⟩ := List.getElem?_eq_some_iff.mp hu1
            obtain ⟨l2, q2⟩ := List.getElem?_eq_some_iff.mp hu2
            have := List.pairwise_iff_getElem.mp ok.rise i (i + 1) l1 l2 (Nat.lt_succ_self i)
            rw [q1, q2] at this
            exact this
          refine ⟨rfl, ?_⟩
          have e3 := e.trans e2
          refine ⟨.ref a, rfl, .int ((0 : Int) + (i : Nat)), rfl, a, us, (0 : Int) + (i : Nat), .ref a1, rfl, rfl, Evl.ex_t e3 hx, ?_, .ref a, rfl, .int ((0 : Int) + (i : Nat)), rfl, _, _, rfl, rfl, a, us, (0 : Int) + (i : Nat) + 1, .ref a2, rfl, rfl, Evl.ex_t e3 hx, ?_, a1, a2, u1, u2, rfl, rfl, Evl.ex_t e3 (SqT.of ha1), Evl.ex_t e3 (SqT.of ha2), ?_⟩
          · have z : (0 : Int) + (i : Nat) = ((i : Nat) : Int) := by omega
            rw [z, ← ea1]
            exact atI_nat (List.getElem?_eq_getElem h1)
          · have z : (0 : Int) + (i : Nat) + 1 = ((i + 1 : Nat) : Int) := by omega
            rw [z, ← ea2]
            exact atI_nat (List.getElem?_eq_getElem h2)
          · refine ⟨_, eD2, ?_, e2.mut hD2, ?_⟩
            · rw [List.length_map, List.length_replicate]
              exact Nat.lt_of_lt_of_le (show i < 9 by omega) (by decide)
            · rw [upd_same, List.replicate_succ', List.map_append, rise]
              rfl
        · rintro H2 ⟨e2, eD2⟩
          refine ⟨D2, _, rfl, .inl (.inl eD2), ?_⟩
          rw [all_true]
          exact q H2 (e.trans e2)
end
end Wb

set_option Elab.async false
set_option linter.all false
set_option maxRecDepth 100000
set_option maxHeartbeats 4000000
set_option pp.maxSteps 600
set_option pp.deepTerms false
namespace Wb
open PySem PySem.Spec PyProof.Rows L2
def spGap (K : PySem.W.Frag) : Sp := fun vs H Q _ => ∃ (v : V) (b : Addr) (g : Gap) (many : Int) (ms : List Int), vs = [v, .int many, .ref b] ∧ GapAt K H v g ∧ SqL K H b (ms.map V.int) ∧ GapOk ms many g ∧ ∀ H', Evl.Ex H H' → Q (.bl true) H'
def spBolt (K : PySem.W.Frag) : Sp := fun vs H Q _ => ∃ (v : V) (b : Addr) (bo : Bolt) (ms : List Int), vs = [v, .ref b] ∧ BoltAt K H v bo ∧ SqL K H b (ms.map V.int) ∧ BoltOk ms bo ∧ ∀ H', Evl.Ex H H' → Q (.bl true) H'

theorem inAll_two {a b m : Int} (h1 : 0 ≤ a) (h2 : a < m) (h3 : 0 ≤ b) (h4 : b < m) : InAll [a, b] [m, m] := by
  refine ⟨rfl, fun i n k hn hk => ?_⟩
  match i, hn, hk with
  | 0, hn, hk =>
    cases hn; cases hk; exact ⟨h1, h2⟩
  | 1, hn, hk =>
    cases hn; cases hk; exact ⟨h3, h4⟩
  | i + 2, hn, hk => simp at hn
theorem GapOk.ways_ok {ms : List Int} {many : Int} {g : Gap} (h : GapOk ms many g) : WaysOk ms g.ways :=
  ⟨h.few, fun w hw => ⟨(h.words w hw).1, (h.words w hw).2⟩, h.rise⟩
theorem lex2 {a b c d : Int} (h : lexLt2 c d a b) : Ob.lexAt (fun j => decide (([a, b] : List Int).getD j 0 = ([c, d] : List Int).getD j 0)) (fun j => decide (([a, b] : List Int).getD j 0 ≤ ([c, d] : List Int).getD j 0)) (decide (([a, b] : List Int).length ≤ ([c, d] : List Int).length)) 0 (min ([a, b] : List Int).length ([c, d] : List Int).length) = false := by
  show (if decide (a = c) = true then (if decide (b = d) = true then (decide (2 ≤ 2)) else decide (b ≤ d)) else decide (a ≤ c)) = false
  rcases h with h | ⟨h, h'⟩
  · rw [if_neg (by simp; omega)]
    simp; omega
  · rw [if_pos (by simp; omega), if_neg (by simp; omega)]
    simp; omega
theorem cut2 {a b c d : V} : cutV [a, b, c, d] none (some 2) = [a, b] := by
  unfold cutV
  rw [HT.sIx_none]
  rw [show HT.sIx [a, b, c, d].length [a, b, c, d].length (some 2) = 2 from HT.sIx_nat 4 4 2]
  rfl

section
variable {P : Program} {w : World} {K : PySem.W.Frag} {mg : Str → Option Value} {base : Heap}
theorem ok_gap {f f1 f2 f3 f4 f5 : Addr} {fd fd1 fd2 fd3 fd4 fd5 : FuncData} (F : Fun K "is_gap" "is_gap" sGap f fd) (F1 : Fun K "is_tuple_of" "is_tuple_of" sTupOf f1 fd1) (b1 : Binds K fd1 ["thing", "low", "high"] []) (g1 : mg "is_tuple_of" = some (.ref f1))
    (F2 : Fun K "are_places" "are_places" sPlaces f2 fd2) (b2 : Binds K fd2 ["thing", "manys"] []) (g2 : mg "are_places" = some (.ref f2))
    (F3 : Fun K "is_whole_in" "is_whole_in" sWholeIn f3 fd3) (b3 : Binds K fd3 ["thing", "low", "high"] []) (g3 : mg "is_whole_in" = some (.ref f3))
    (F4 : Fun K "are_ways" "are_ways" sWays f4 fd4) (b4 : Binds K fd4 ["thing", "below"] []) (g4 : mg "are_ways" = some (.ref f4))
    (F5 : Fun K "is_whole" "is_whole" sWhole f5 fd5) (b5 : Binds K fd5 ["thing"] []) (g5 : mg "is_whole" = some (.ref f5)) (B : Bi mg) (N : Nu mg) :
    FnOk P w K mg base CX0 4 f fd ["thing", "many", "below"] (spGap K) := by
  have G1 : FnOk P w K mg base CX0 1 f1 fd1 ["thing", "low", "high"] (spTupOf K) := ok_tupOf F1 B
  have G2 : FnOk P w K mg base CX0 2 f2 fd2 ["thing", "manys"] (spPlaces K) := ok_places F2 F1 b1 g1 B
  have G3 : FnOk P w K mg base CX0 2 f3 fd3 ["thing", "low", "high"] spWholeIn := ok_wholeIn F3 F5 b5 g5 B
  have G4 : FnOk P w K mg base CX0 3 f4 fd4 ["thing", "below"] (spWays K) := ok_ways F4 F1 b1 g1 F2 b2 g2 B N
  obtain ⟨tp, ep⟩ := N.price
  refine F.ok scGap (fun vs H Q E h => ?_) (fun cdv A outer s H vs Q E hr h => ?_)
  · obtain ⟨v, b, g, m, ms, rfl, _⟩ := h; rfl
  · obtain ⟨v, b, g, m, ms, rfl, ⟨a, c, ws, rfl, hx, hw, hp⟩, hy, ok, q⟩ := h
    have hr1 : Room 1 _ := hr.mono (by decide)
    have hr2 : Room 2 _ := hr.mono (by decide)
    refine ⟨_, pss_cons (ps_if (pt_not (pt_val (pe_call G1 hr1 (by rfl) g1 F1.kp b1 .nil pass0 (pa_cons (pv 0) (pa_cons pe_int (pa_cons pe_int pa_nil)))))) (pss_one (ps_ret pe_bl)) pss_nil)
      (pss_cons (ps_asg (pv 0) (pg_tup rfl (pgs_cons (pg_name (i := 3) scGap.nd rfl (.inl rfl)) (pgs_cons (pg_name (i := 4) scGap.nd rfl (.inl rfl)) (pgs_cons (pg_name (i := 5) scGap.nd rfl (.inl rfl)) (pgs_cons (pg_name (i := 6) scGap.nd rfl (.inl rfl)) pgs_nil))))))
      (pss_cons (ps_if (PW.pt (pw_or (pt_not (pt_val (pe_call G2 hr2 (by rfl) g2 F2.kp b2 .nil pass0 (pa_cons (pe_tup (pa_cons (pv 3) (pa_cons (pv 4) pa_nil))) (pa_cons (pe_tup (pa_cons (pv 1) (pa_cons (pv 1) pa_nil))) pa_nil)))))
          (pw_or1 (pt_cmpR op_eq (pv 3) (pv 4) (nomark _))))) (pss_one (ps_ret pe_bl)) pss_nil)
      (pss_one (ps_ret (pe_and (pe_call G3 hr2 (by rfl) g3 F3.kp b3 .nil pass0 (pa_cons (pv 5) (pa_cons pe_int (pa_cons (pe_glob (v := .int 1000000) (by rfl) ep ⟨_, rfl⟩) pa_nil))))
        (pe_one (pe_call G4 hr (by rfl) g4 F4.kp b4 .nil pass0 (pa_cons (pv 6) (pa_cons (pv 2) pa_nil))))))))), ?_⟩
    refine ⟨.ref a, rfl, a, _, 4, 4, rfl, hx, true, rfl, ?_⟩
    refine iteF ?_
    refine ⟨.ref a, rfl, a, _, rfl, hx, rfl, _, _, rfl, _, _, rfl, _, _, rfl, _, _, rfl, rfl, ?_⟩
    refine ⟨.int g.frm, rfl, .int g.to_, rfl, (by show 2 ≤ sizeLine; decide), fun p1 n1 => ?_⟩
    refine ⟨.int m, rfl, .int m, rfl, (by show 2 ≤ sizeLine; decide), fun p2 n2 => ?_⟩
    have x1 : Evl.Ex H (upd H p1 (.tup [.int g.frm, .int g.to_])) := Evl.Ex.new n1
    have x2 := Evl.Ex.new (o := .tup [.int m, .int m]) n2
    refine ⟨p1, p2, false, [g.frm, g.to_], [m, m], rfl, .inl (.inl (x2 _ _ upd_same)), (Or.inl (Or.inl upd_same)), inAll_two ok.f0 ok.f1 ok.t0 ok.t1, fun H' x3 => ?_⟩
    refine ⟨true, rfl, ?_⟩
    refine iteF ?_
    refine ⟨.int g.frm, rfl, .int g.to_, rfl, rfl, decide (V.int g.frm = V.int g.to_), rfl, ?_⟩
    have ne : decide (V.int g.frm = V.int g.to_) = false := decide_eq_false fun z => ok.ne (V.int.inj z)
    rw [ne]
    refine iteF ?_
    refine ⟨.int g.price, rfl, g.price, 1, 1000000, rfl, true, ?_, ?_⟩
    · have z1 := ok.p0
      have z2 := ok.p1
      rw [decide_eq_true z1, decide_eq_true z2]
      rfl
    · refine iteT ?_
      have x : Evl.Ex H H' := (x1.trans x2).trans x3
      refine ⟨.ref c, rfl, .ref b, rfl, c, b, ws, g.ways, ms, rfl, Evl.ex_t x hw, Paired.imp (fun _ _ => wd_ex x) hp, Evl.ex_l x hy, ok.ways_ok, fun H2 y => q H2 (x.trans y)⟩
theorem ok_bolt {f f1 f2 f3 f4 f5 f6 : Addr} {fd fd1 fd2 fd3 fd4 fd5 fd6 : FuncData} (F : Fun K "is_bolt" "is_bolt" sBolt f fd) (F1 : Fun K "is_tuple_of" "is_tuple_of" sTupOf f1 fd1) (b1 : Binds K fd1 ["thing", "low", "high"] []) (g1 : mg "is_tuple_of" = some (.ref f1))
    (F2 : Fun K "are_places" "are_places" sPlaces f2 fd2) (b2 : Binds K fd2 ["thing", "manys"] []) (g2 : mg "are_places" = some (.ref f2))
    (F3 : Fun K "is_whole_in" "is_whole_in" sWholeIn f3 fd3) (b3 : Binds K fd3 ["thing", "low", "high"] []) (g3 : mg "is_whole_in" = some (.ref f3))
    (F4 : Fun K "are_ways" "are_ways" sWays f4 fd4) (b4 : Binds K fd4 ["thing", "below"] []) (g4 : mg "are_ways" = some (.ref f4))
    (F5 : Fun K "is_whole" "is_whole" sWhole f5 fd5) (b5 : Binds K fd5 ["thing"] []) (g5 : mg "is_whole" = some (.ref f5))
    (F6 : Fun K "is_gap" "is_gap" sGap f6 fd6) (b6 : Binds K fd6 ["thing", "many", "below"] []) (g6 : mg "is_gap" = some (.ref f6)) (B : Bi mg) (N : Nu mg) :
    FnOk P w K mg base CX0 5 f fd ["thing", "below"] (spBolt K) := by
  have G1 : FnOk P w K mg base CX0 1 f1 fd1 ["thing", "low", "high"] (spTupOf K) := ok_tupOf F1 B
  have G3 : FnOk P w K mg base CX0 2 f3 fd3 ["thing", "low", "high"] spWholeIn := ok_wholeIn F3 F5 b5 g5 B
  have G6 : FnOk P w K mg base CX0 4 f6 fd6 ["thing", "many", "below"] (spGap K) := ok_gap F6 F1 b1 g1 F2 b2 g2 F3 b3 g3 F4 b4 g4 F5 b5 g5 B N
  obtain ⟨tf, ef⟩ := N.fewest
  obtain ⟨tl, el⟩ := N.places
  obtain ⟨tw, ew⟩ := N.ways
  refine F.ok scBolt (fun vs H Q E h => ?_) (fun cdv A outer s H vs Q E hr h => ?_)
  · obtain ⟨v, b, bo, ms, rfl, _⟩ := h; rfl
  · obtain ⟨v, b, bo, ms, rfl, ⟨a, c, gs, rfl, hx, hg, hp⟩, hy, ok, q⟩ := h
    have hr1 : Room 1 _ := hr.mono (by decide)
    have hr2 : Room 2 _ := hr.mono (by decide)
    refine ⟨_, pss_cons (ps_if (pt_not (pt_val (pe_call G1 hr1 (by rfl) g1 F1.kp b1 .nil pass0 (pa_cons (pv 0) (pa_cons pe_int (pa_cons pe_int pa_nil)))))) (pss_one (ps_ret pe_bl)) pss_nil)
      (pss_cons (ps_asg (pv 0) (pg_tup rfl (pgs_cons (pg_name (i := 2) scBolt.nd rfl (.inl rfl)) (pgs_cons (pg_name (i := 3) scBolt.nd rfl (.inl rfl)) pgs_nil))))
      (pss_cons (ps_if (PW.pt (pw_or (pt_not (pt_val (pe_call G3 hr2 (by rfl) g3 F3.kp b3 .nil pass0 (pa_cons (pv 2) (pa_cons (pe_glob (v := .int 2) (by rfl) ef ⟨_, rfl⟩) (pa_cons (pe_glob (v := .int 4) (by rfl) el ⟨_, rfl⟩) pa_nil))))))
          (pw_or1 (pt_not (pt_val (pe_callB call_isi (by rfl) B.isi boot_isinstance (pa_cons (pv 3) (pa_cons (pe_bltn (v := .ty "tuple") (by rfl) B.tuple (by decide +kernel) rfl) pa_nil)))))))) (pss_one (ps_ret pe_bl)) pss_nil)
      (pss_cons (ps_set (i := 4) scBolt.nd rfl (.inl rfl) pe_int)
      (pss_cons (ps_set (i := 5) scBolt.nd rfl (.inl rfl) (pe_tup (pa_cons (pe_un un_neg pe_int) (pa_cons (pe_un un_neg pe_int) pa_nil))))
      (pss_cons (ps_for PassesOwn.never rfl (pi_tup (pv 3)) (pg_name (i := 6) scBolt.nd rfl (.inl rfl))
        (pss_cons (ps_if (PW.pt (pw_or (pt_not (pt_val (pe_call G6 hr (by rfl) g6 F6.kp b6 .nil pass0 (pa_cons (pv 6) (pa_cons (pv 2) (pa_cons (pv 1) pa_nil))))))
            (pw_or1 (pt_cmpR (op_leT hr.units0) (pe_slice sl_tupA (pv 6) po_none (po_some pe_int)) (pv 5) (nomark _))))) (pss_one (ps_ret pe_bl)) pss_nil)
        (pss_cons (ps_set (i := 5) scBolt.nd rfl (.inl rfl) (pe_slice sl_tupA (pv 6) po_none (po_some pe_int)))
        (pss_one (ps_aug (i := 4) scBolt.nd rfl (.inl rfl) (pe_callB call_len_seq (by rfl) B.len PySem.boot_len (pa_cons (pe_ix ix_tup (pv 6) pe_int (fun _ _ => rfl)) pa_nil)) ip_add)))))
      (pss_one (ps_ret (pe_cmpR op_le (pv 4) (pe_glob (v := .int 8) (by rfl) ew ⟨_, rfl⟩) (nomark _))))))))), ?_⟩
    refine ⟨.ref a, rfl, a, _, 2, 2, rfl, hx, true, rfl, ?_⟩
    refine iteF ?_
    refine ⟨.ref a, rfl, a, _, rfl, hx, rfl, _, _, rfl, _, _, rfl, rfl, ?_⟩
    refine ⟨.int bo.many, rfl, bo.many, 2, 4, rfl, true, ?_, ?_⟩
    · rw [decide_eq_true ok.m0, decide_eq_true ok.m1]
      rfl
    refine iteF ?_
    refine ⟨.ref c, rfl, .ref c, .ty "tuple", .type "tuple", .type "tuple", true, rfl, .ty _, tyx_tup hg, kit_ty (by decide +kernel), true, rfl, ?_⟩
    refine iteF ?_
    refine ⟨1, rfl, 1, rfl, (by show 2 ≤ sizeLine; decide), fun p0 n0 => ?_⟩
    have gl : gs.length = bo.gaps.length := Paired.len hp
    refine ⟨.ref c, rfl, c, rfl, ⟨_, (Evl.ex_t (Evl.Ex.new n0) hg)⟩, for_tup (K := K) (a := c) (xs := gs)
      (fun i σ H' => ∃ (pl : Addr) (lf lt : Int) (y6 : Option V), σ = [some (.ref a), some (.ref b), some (.int bo.many), some (.ref c), some (.int (((bo.gaps.take i).map (fun g => ((g.ways.length : Nat) : Int))).sum)), some (.ref pl), y6] ∧
        Evl.Ex H H' ∧ SqT K H' pl ([lf, lt].map V.int) ∧ (∀ g, bo.gaps[i]? = some g → lexLt2 lf lt g.frm g.to_)) ⟨p0, -1, -1, none, rfl, Evl.Ex.new n0, .inl (.inl upd_same), ?_⟩ ?_ ?_ ?_⟩
    · intro g hgi
      have := (ok.gaps g (List.mem_of_getElem? hgi)).f0
      exact .inl (by omega)
    · rintro i σ H' _ ⟨_, _, _, _, _, e, _⟩
      exact Evl.ex_t e hg
    · rintro i x σ H' hi ⟨pl, lf, lt, y6, rfl, e, hpl, hlex⟩
      obtain ⟨g, hgi, hga⟩ := Paired.get1 hp hi
      have hga' : GapAt K H' x g := hga.mono (TX.ex e)
      obtain ⟨ag, bg, ws, rfl, h1, h2, h3⟩ := hga'
      have gok := ok.gaps g (List.mem_of_getElem? hgi)
      refine ⟨.ref ag, rfl, .int bo.many, rfl, .ref b, rfl, .ref ag, b, g, bo.many, ms, rfl, ⟨ag, bg, ws, rfl, h1, h2, h3⟩, Evl.ex_l e hy, gok, fun H2 e2 => ?_⟩
      refine ⟨true, rfl, iteF ?_⟩
      have ex2 := e.trans e2
      refine ⟨.ref ag, rfl, 2, rfl, ag, _, rfl, Evl.ex_t e2 h1, fun z => absurd (show HT.sIx 4 4 (some 2) = 4 from z.2) (by decide), fun _ p np => ?_⟩
      rw [cut2]
      have e3 := Evl.Ex.new (o := .tup [V.int g.frm, V.int g.to_]) np
      refine ⟨.ref pl, rfl, p, pl, [g.frm, g.to_], [lf, lt], rfl, rfl, .inl (.inl upd_same), Evl.ex_t (e2.trans e3) hpl, _, rfl, ?_⟩
      rw [lex2 (hlex g hgi)]
      refine iteF ?_
      refine ⟨.ref ag, rfl, 2, rfl, ag, _, rfl, Evl.ex_t (e2.trans e3) h1, fun z => absurd (show HT.sIx 4 4 (some 2) = 4 from z.2) (by decide), fun _ p' np' => ?_⟩
      rw [cut2]
      have e4 := Evl.Ex.new (o := .tup [V.int g.frm, V.int g.to_]) np'
      refine ⟨_, rfl, .ref ag, rfl, ag, _, 3, .ref bg, rfl, rfl, Evl.ex_t ((e2.trans e3).trans e4) h1, atI_nat (j := 3) rfl, bg, ws, rfl, .inr (Evl.ex_t ((e2.trans e3).trans e4) h2), _, _, rfl, rfl, ?_⟩
      refine ⟨p', g.frm, g.to_, some (.ref ag), ?_, (ex2.trans e3).trans e4, .inl (.inl upd_same), fun g' hg' => ?_⟩
      · have wl : ws.length = g.ways.length := Paired.len h3
        rw [take_succ_get hgi, List.map_append, List.sum_append, wl]
        simp
      · obtain ⟨l1, q1⟩ := List.getElem?_eq_some_iff.mp hgi
        obtain ⟨l2, q2⟩ := List.getElem?_eq_some_iff.mp hg'
        have := List.pairwise_iff_getElem.mp ok.rise i (i + 1) l1 l2 (Nat.lt_succ_self i)
        rw [q1, q2] at this
        exact this
    · rintro σ H' ⟨pl, lf, lt, y6, rfl, e, hpl, hlex⟩
      refine ⟨_, rfl, _, 8, rfl, rfl, ?_⟩
      have s8 : decide ((((bo.gaps.take gs.length).map (fun g => ((g.ways.length : Nat) : Int))).sum) ≤ 8) = true := by
        have h := ok.few
        rw [gl, List.take_length]
        have z : ∀ l : List Gap, (l.map (fun g => ((g.ways.length : Nat) : Int))).sum = (((l.map (fun g => g.ways.length)).sum : Nat) : Int) := by
          intro l
          induction l with
          | nil => rfl
          | cons g l ih => simp [ih]
        rw [z]
        simp
        omega
      show Q (.bl (decide (_ ≤ 8))) H'
      rw [s8]
      exact q H' e
end
end Wb

set_option Elab.async false
set_option linter.all false
set_option maxRecDepth 100000
set_option maxHeartbeats 4000000
set_option pp.maxSteps 600
set_option pp.deepTerms false
namespace Wb
open PySem PySem.Spec PyProof.Rows L2
abbrev sWords : Stmt := topS 15
theorem scWords : FnScope ["lock", "rows", "above", "k", "found", "word", "gap", "way"] ["lock"] (defScope sWords) := ⟨rfl, rfl, rfl, by decide +kernel, rfl, by decide +kernel, by decide +kernel⟩

/-! ### words as keys -/
def keyW (w : Word) : List Key := w.map Sum.inl
theorem keyW_kV (w : Word) : (keyW w).map kV = w.map V.int := by
  unfold keyW
  rw [List.map_map]
  rfl
theorem keyW_inj {u w : Word} (h : keyW u = keyW w) : u = w := by
  unfold keyW at h
  exact (List.map_inj_right (fun _ _ e => Sum.inl.inj e)).mp h
def kws (ws : List Word) (v : Word → V) : List (List Key × V) := ws.map fun w => (keyW w, v w)
def addW (ws : List Word) (w : Word) : List Word := if w ∈ ws then ws else ws ++ [w]
theorem kws_any (ws : List Word) (v : Word → V) (w : Word) : ((kws ws v).any fun kv => decide (kv.1 = keyW w)) = decide (w ∈ ws) := by
  unfold kws
  rw [List.any_map]
  rw [Bool.eq_iff_iff]
  simp only [List.any_eq_true, Function.comp, decide_eq_true_eq]
  constructor
  · rintro ⟨u, hu, e⟩
    rw [← keyW_inj e]
    exact hu
  · intro h
    exact ⟨w, h, rfl⟩
theorem put_kws (ws : List Word) (w : Word) : putK (kws ws fun _ => .bl true) (keyW w) (.bl true) = kws (addW ws w) fun _ => .bl true := by
  unfold putK addW
  rw [kws_any]
  by_cases h : w ∈ ws
  · rw [if_pos (decide_eq_true h), if_pos h]
    unfold kws
    rw [List.map_map]
    apply List.map_congr_left
    intro u _
    show (if keyW u = keyW w then (keyW u, V.bl true) else (keyW u, V.bl true)) = (keyW u, V.bl true)
    split <;> rfl
  · rw [if_neg (by rw [decide_eq_false h]; exact Bool.false_ne_true), if_neg h]
    unfold kws
    rw [List.map_append]
    rfl
theorem mem_addW {ws : List Word} {w u : Word} : u ∈ addW ws w ↔ u ∈ ws ∨ u = w := by
  unfold addW
  split
  · rename_i h
    exact ⟨.inl, fun z => z.elim id fun e => e ▸ h⟩
  · simp
theorem nodup_addW {ws : List Word} {w : Word} (h : ws.Nodup) : (addW ws w).Nodup := by
  unfold addW
  split
  · exact h
  · rename_i hn
    rw [List.nodup_append]
    refine ⟨h, by simp, ?_⟩
    intro a ha b hb
    simp at hb
    subst hb
    intro e
    exact hn (e ▸ ha)
theorem valV_kws (ws : List Word) (v : Word → V) (w : Word) : valV (kws ws v) (keyW w) = if w ∈ ws then some (v w) else none := by
  induction ws with
  | nil => rfl
  | cons u ws ih =>
    by_cases e : u = w
    · subst e
      rw [if_pos (by simp)]
      exact valV_pos rfl
    · have z : valV (kws (u :: ws) v) (keyW w) = valV (kws ws v) (keyW w) := valV_neg (fun q => e (keyW_inj q))
      rw [z, ih]
      have m : w ∈ u :: ws ↔ w ∈ ws := by
        simp only [List.mem_cons]
        exact ⟨fun q => q.elim (fun q => absurd q.symm e) id, .inr⟩
      by_cases h : w ∈ ws
      · rw [if_pos h, if_pos (m.mpr h)]
      · rw [if_neg h, if_neg (fun q => h (m.mp q))]

/-! ### the words at a bolt -/
def WordsAt (l : Lock) (k : Nat) (ws : List Word) : Prop := ws.Nodup ∧ ∀ w, w ∈ ws ↔ cutsFrom l k w
/-- a list of words at r -/
def RowAt (K : PySem.W.Frag) (H : Hp) (r : Addr) (ws : List Word) : Prop := ∃ us, H r = some (.lst us) ∧ Paired (Wd K H) us ws
theorem RowAt.ex {K : PySem.W.Frag} {H H' : Hp} (e : Evl.Ex H H') {r : Addr} {ws : List Word} (h : RowAt K H r ws) : RowAt K H' r ws := by
  obtain ⟨us, a, b⟩ := h
  exact ⟨us, e _ _ a, Paired.imp (fun _ _ => wd_ex e) b⟩
theorem cutsFrom_len {l : Lock} (ok : LockOk l) {k : Nat} {w : Word} (hk : k ≤ l.length) (h : cutsFrom l k w) : w.length = k := by
  obtain ⟨j, b, g, u, hj, hb, hg, hu, rfl⟩ := h
  have lu := (((ok.bolts j b hb).gaps g hg).words u hu).1
  have lj : j < l.length := (List.getElem?_eq_some_iff.mp hb).1
  unfold manysOf at lu
  rw [List.length_map, List.length_take] at lu
  rw [List.length_take]
  omega
/-- the words at k: those at k + 1 cut, and the bolt's own -/
theorem cuts_step {l : Lock} (ok : LockOk l) {k : Nat} {b : Bolt} (hb : l[k]? = some b) (w : Word) :
    cutsFrom l k w ↔ (∃ u, cutsFrom l (k + 1) u ∧ w = u.take k) ∨ ∃ g ∈ b.gaps, w ∈ g.ways := by
  constructor
  · rintro ⟨j, b', g, u, hj, hb', hg, hu, rfl⟩
    by_cases e : j = k
    · subst e
      rw [hb] at hb'
      cases hb'
      have lu := (((ok.bolts j b hb).gaps g hg).words u hu).1
      have lj : j < l.length := (List.getElem?_eq_some_iff.mp hb).1
      unfold manysOf at lu
      rw [List.length_map, List.length_take] at lu
      refine .inr ⟨g, hg, ?_⟩
      rw [List.take_of_length_le (by omega)]
      exact hu
    · refine .inl ⟨u.take (k + 1), ⟨j, b', g, u, by omega, hb', hg, hu, rfl⟩, ?_⟩
      rw [List.take_take, Nat.min_eq_left (Nat.le_succ k)]
  · rintro (⟨u, ⟨j, b', g, u', hj, hb', hg, hu, rfl⟩, rfl⟩ | ⟨g, hg, hw⟩)
    · refine ⟨j, b', g, u', by omega, hb', hg, hu, ?_⟩
      rw [List.take_take, Nat.min_eq_left (Nat.le_succ k)]
    · have lu := (((ok.bolts k b hb).gaps g hg).words w hw).1
      have lj : k < l.length := (List.getElem?_eq_some_iff.mp hb).1
      unfold manysOf at lu
      rw [List.length_map, List.length_take] at lu
      refine ⟨k, b, g, w, Nat.le_refl _, hb, hg, hw, ?_⟩
      rw [List.take_of_length_le (by omega)]
theorem isKeys_rows {K : PySem.W.Frag} {H : Hp} : ∀ {ws : List Word} {bs : List Addr}, IsKeys H (kws ws fun _ => V.bl true) bs → Paired (Wd K H) (bs.map V.ref) ws
  | [], _, h => by
    cases h
    exact .nil
  | w :: ws, _, h => by
    cases h with
    | cons r t =>
      refine .cons ⟨_, rfl, ?_⟩ (isKeys_rows t)
      have r' : _ = some (HO.tup ((keyW w).map kV)) := r
      rw [keyW_kV] at r'
      exact r'
def spWords (K : PySem.W.Frag) : Sp := fun vs H Q _ => ∃ (v : V) (l : Lock), vs = [v] ∧ LockAt K H v l ∧ LockOk l ∧
  ∀ H' p (rs : List Addr), Evl.Ex H H' → H p = none → H' p = some (.lst (rs.map V.ref)) → rs.length = l.length →
    (∀ k r, rs[k]? = some r → H r = none ∧ ∃ ws, RowAt K H' r ws ∧ WordsAt l k ws) → Q (.ref p) H'

/-- a word of a tuple of words, cut -/
theorem cut_take (xs : List V) (k : Nat) : cutV xs none (some (k : Int)) = xs.take k := by
  unfold cutV
  rw [HT.sIx_none, HT.sIx_nat]
  rw [List.drop_zero, Nat.sub_zero]
  by_cases h : k ≤ xs.length
  · rw [Nat.min_eq_left h]
  · rw [Nat.min_eq_right (by omega), List.take_length, List.take_of_length_le (by omega)]
theorem slice_whole {n k : Nat} (h : HT.sIx n n (some (k : Int)) = n) : n ≤ k := by
  rw [HT.sIx_nat] at h
  omega
end Wb

set_option Elab.async false
set_option linter.all false
set_option maxRecDepth 100000
set_option maxHeartbeats 4000000
set_option pp.maxSteps 600
set_option pp.deepTerms false
namespace Wb
open PySem PySem.Spec PyProof.Rows L2
section
variable {P : Program} {w : World} {K : PySem.W.Frag} {mg : Str → Option Value} {base : Heap}
theorem few_cuts {l : Lock} (ok : LockOk l) {k : Nat} (hk : k < l.length) {cur : List Word} (h1 : cur.Nodup) (h2 : ∀ u ∈ cur, cutsFrom l k u) : cur.length < sizeLine :=
  Nat.lt_of_le_of_lt (ok.words k cur hk h1 h2) (by decide)
theorem kws_len (ws : List Word) (v : Word → V) : (kws ws v).length = ws.length := List.length_map ..
theorem ok_words {f : Addr} {fd : FuncData} (F : Fun K "words_of" "words_of" sWords f fd) (B : Bi mg) : FnOk P w K mg base CX0 1 f fd ["lock"] (spWords K) := by
  refine F.ok scWords (fun vs H Q E h => ?_) (fun cdv A outer s H vs Q E hr h => ?_)
  · obtain ⟨v, l, rfl, _⟩ := h; rfl
  · obtain ⟨v, l, rfl, ⟨a, bs, rfl, hx, hp⟩, ok, q⟩ := h
    have hu := hu_of hr
    refine ⟨_, pss_cons (ps_set (i := 1) scWords.nd rfl (.inl rfl) (pe_lst pa_nil))
      (pss_cons (ps_set (i := 2) scWords.nd rfl (.inl rfl) (pe_lst pa_nil))
      (pss_cons (ps_for PassesOwn.never rfl (pi_revR (by rfl) B.rev (prg_1 (by rfl) B.range (pe_callB call_len_seq (by rfl) B.len PySem.boot_len (pa_cons (pv 0) pa_nil)))) (pg_name (i := 3) scWords.nd rfl (.inl rfl))
        (pss_cons (ps_set (i := 4) scWords.nd rfl (.inl rfl) pe_dnewT)
        (pss_cons (ps_for PassesOwn.never rfl (pi_list (pv 2)) (pg_name (i := 5) scWords.nd rfl (.inl rfl))
          (pss_one (ps_dput hu (pv 4) (pe_slice sl_tupA (pv 5) po_none (po_some (pv 3))) pe_bl rfl)))
        (pss_cons (ps_for PassesOwn.never rfl (pi_tup (pe_ix ix_tup (pe_ix ix_tup (pv 0) (pv 3) (fun _ _ => rfl)) pe_int (fun _ _ => rfl))) (pg_name (i := 6) scWords.nd rfl (.inl rfl))
          (pss_one (ps_for PassesOwn.never rfl (pi_tup (pe_ix ix_tup (pv 6) pe_int (fun _ _ => rfl))) (pg_name (i := 7) scWords.nd rfl (.inl rfl))
            (pss_one (ps_dput hu (pv 4) (pv 7) pe_bl rfl)))))
        (pss_cons (ps_set (i := 2) scWords.nd rfl (.inl rfl) (pe_callTy (call_list_dT rfl) (by rfl) B.list (PyProof.Rows.boot_list) (pa_cons (pv 4) pa_nil)))
        (pss_one (ps_expr (pe_bm PySem.F.plainAttrs_list PySem.F.slot_list_append PySem.F.type_list_append mt_append (pv 1) (pa_cons (pv 2) pa_nil)))))))))
      (pss_one (ps_ret (pe_revL (pv 1)))))), ?_⟩
    have bl : bs.length = l.length := Paired.len hp
    have n60 := ok.n1
    refine ⟨Nat.zero_le _, fun r0 nr0 => ?_⟩
    refine ⟨Nat.zero_le _, fun a0 na0 => ?_⟩
    have x1 : Evl.Ex H (upd H r0 (.lst [])) := Evl.Ex.new nr0
    have na0' : H a0 = none := Evl.fresh_back x1 na0
    have nar : r0 ≠ a0 := fun z => by rw [← z, upd_same] at na0; cases na0
    refine ⟨.ref a, rfl, a, bs, rfl, .inr (Evl.ex_t (x1.trans (Evl.Ex.new na0)) hx), _, rfl, by omega, by omega, by omega, by omega, ?_⟩
    refine for_rangeC (lo := _) (c := -1) (n := _) (fun i σ H' => ∃ (aA : Addr) (rs : List Addr) (ws : List Word) (y3 y4 y5 y6 y7 : Option V), σ = [some (.ref a), some (.ref r0), some (.ref aA), y3, y4, y5, y6, y7] ∧
        Evl.Ex H H' ∧ RowAt K H' aA ws ∧ WordsAt l (l.length - i) ws ∧ H' r0 = some (.lst (rs.map V.ref)) ∧ rs.length = i ∧
        ∀ j r, rs[j]? = some r → r ≠ r0 ∧ H r = none ∧ ∃ ws', RowAt K H' r ws' ∧ WordsAt l (l.length - 1 - j) ws')
      ⟨a0, [], [], none, none, none, none, none, rfl, x1.trans (Evl.Ex.new na0), ⟨[], upd_same, .nil⟩, ⟨List.nodup_nil, fun w => ?_⟩, by rw [upd_ne nar, upd_same]; rfl, rfl, fun j r e => by simp at e⟩ ?_ ?_
    · constructor
      · intro z; cases z
      · rintro ⟨j, b, g, u, hj, hb, _⟩
        have := (List.getElem?_eq_some_iff.mp hb).1
        omega
    · rintro i σ H1 hi ⟨aA, rs, ws, y3, y4, y5, y6, y7, rfl, e1, hA, hW, hR, hl, hrs⟩
      have hi' : i < l.length := by omega
      -- the bolt's number
      have ek : (0 : Int) + (((((bs.length : Nat) : Int) - 0).toNat : Nat) : Int) - 1 + (i : Nat) * (-1) = ((l.length - 1 - i : Nat) : Int) := by rw [bl]; omega
      rw [ek]
      generalize hk : l.length - 1 - i = k at *
      have hkl : k < l.length := by omega
      have hk1 : l.length - i = k + 1 := by omega
      rw [hk1] at hW
      obtain ⟨b, hb⟩ : ∃ b, l[k]? = some b := ⟨l[k], List.getElem?_eq_getElem hkl⟩
      obtain ⟨vb, hvb, hba⟩ := Paired.get2 hp hb
      obtain ⟨us, hAu, hAp⟩ := hA
      have ul : us.length = ws.length := Paired.len hAp
      intro d nd
      have nd0 : H d = none := Evl.fresh_back e1 nd
      have ndr : d ≠ r0 := fun z => by rw [z, hR] at nd; cases nd
      have e2 : Evl.Ex H1 (upd H1 d (.dT [])) := Evl.Ex.new nd
      -- the words above, cut
      refine ⟨.ref aA, rfl, aA, rfl, ⟨us, .inl (.inl (e2 _ _ hAu))⟩, for_list (K := K) (a := aA) (xs := us) (fun j σ H' => ∃ (cur : List Word) (y5 : Option V), σ = [some (.ref a), some (.ref r0), some (.ref aA), some (.int (k : Nat)), some (.ref d), y5, y6, y7] ∧
          Evl.Ex H1 H' ∧ H' d = some (.dT (kws cur fun _ => .bl true)) ∧ cur.Nodup ∧ ∀ u, u ∈ cur ↔ ∃ t ∈ ws.take j, u = t.take k) ⟨[], y5, rfl, e2, upd_same, List.nodup_nil, fun u => by simp⟩ ?_ ?_ ?_⟩
      · rintro j σ H' _ ⟨cur, z5, _, e, _⟩
        exact .inl (.inl (e _ _ hAu))
      · rintro j x σ H' hj ⟨cur, z5, rfl, e3, hd, nc, hc⟩
        obtain ⟨t, ht, ⟨ax, rfl, hax⟩⟩ := Paired.get1 hAp hj
        have htw : t ∈ ws := List.mem_of_getElem? ht
        have hcut : cutsFrom l (k + 1) t := (hW.2 t).mp htw
        have lt1 : t.length = k + 1 := cutsFrom_len ok (by omega) hcut
        have hcur : ∀ u ∈ cur, cutsFrom l k u := by
          intro u hu
          obtain ⟨t', ht', rfl⟩ := (hc u).mp hu
          exact (cuts_step ok hb _).mpr (.inl ⟨t', (hW.2 t').mp (List.mem_of_mem_take ht'), rfl⟩)
        have lc := few_cuts ok hkl nc hcur
        refine ⟨.ref d, rfl, .ref ax, rfl, .int (k : Nat), rfl, (k : Nat), rfl, ax, _, rfl, .inl (.inl (e3 _ _ hax)), fun z => absurd (slice_whole z.2) (by rw [List.length_map]; omega), fun _ p np => ?_⟩
        rw [cut_take, ← List.map_take]
        have npd : p ≠ d := fun z => by rw [z, hd] at np; cases np
        have e4 := Evl.Ex.new (o := .tup ((t.take k).map V.int)) np
        refine ⟨d, _, rfl, DPut.t (k := keyW (t.take k)) (e4 _ _ hd) (by rw [keyW_kV]; exact upd_same) (by rw [kws_len]; exact lc), ?_⟩
        refine ⟨addW cur (t.take k), _, rfl, (e3.trans e4).mut nd, by rw [upd_same, put_kws], nodup_addW nc, fun u => ?_⟩
        rw [mem_addW, hc u, take_succ_get ht]
        constructor
        · rintro (⟨t', h1, h2⟩ | rfl)
          · exact ⟨t', List.mem_append_left _ h1, h2⟩
          · exact ⟨t, by simp, rfl⟩
        · rintro ⟨t', h1, h2⟩
          rcases List.mem_append.mp h1 with h1 | h1
          · exact .inl ⟨t', h1, h2⟩
          · have : t' = t := by simpa using h1
            subst this
            exact .inr h2
      · rintro σ H2 ⟨cur0, z5, rfl, e3, hd, nc0, hc0⟩
        rw [ul, List.take_length] at hc0
        obtain ⟨ab, cg, gs, rfl, hb1, hb2, hb3⟩ := hba
        have e13 := e1.trans e3
        have gl : gs.length = b.gaps.length := Paired.len hb3
        -- the bolt's own ways
        refine ⟨.ref a, rfl, .int (k : Nat), rfl, a, bs, (k : Nat), .ref ab, rfl, rfl, Evl.ex_t e13 hx, atI_nat hvb, ab, _, 1, .ref cg, rfl, rfl, Evl.ex_t e13 hb1, atI_nat (j := 1) rfl, cg, rfl, ⟨gs, Evl.ex_t e13 hb2⟩,
          for_tup (K := K) (a := cg) (xs := gs) (fun j σ H' => ∃ (cur : List Word) (y6 y7 : Option V), σ = [some (.ref a), some (.ref r0), some (.ref aA), some (.int (k : Nat)), some (.ref d), z5, y6, y7] ∧
            Evl.Ex H1 H' ∧ H' d = some (.dT (kws cur fun _ => .bl true)) ∧ cur.Nodup ∧ ∀ u, u ∈ cur ↔ (∃ t ∈ ws, u = t.take k) ∨ ∃ g ∈ b.gaps.take j, u ∈ g.ways) ⟨cur0, y6, y7, rfl, e3, hd, nc0, fun u => by rw [hc0]; simp⟩ ?_ ?_ ?_⟩
        · rintro j σ H' _ ⟨cur, _, _, _, e, _⟩
          exact Evl.ex_t (e1.trans e) hb2
        · rintro j x σ H' hj ⟨cur, z6, z7, rfl, e4, hd4, nc, hc⟩
          obtain ⟨g, hgj, ⟨ag, bg, wv, rfl, hg1, hg2, hg3⟩⟩ := Paired.get1 hb3 hj
          have hgm : g ∈ b.gaps := List.mem_of_getElem? hgj
          have e14 := e1.trans e4
          have wl : wv.length = g.ways.length := Paired.len hg3
          refine ⟨.ref ag, rfl, ag, _, 3, .ref bg, rfl, rfl, Evl.ex_t e14 hg1, atI_nat (j := 3) rfl, bg, rfl, ⟨wv, Evl.ex_t e14 hg2⟩,
            for_tup (K := K) (a := bg) (xs := wv) (fun m σ H' => ∃ (cur : List Word) (y7 : Option V), σ = [some (.ref a), some (.ref r0), some (.ref aA), some (.int (k : Nat)), some (.ref d), z5, some (.ref ag), y7] ∧
              Evl.Ex H1 H' ∧ H' d = some (.dT (kws cur fun _ => .bl true)) ∧ cur.Nodup ∧ ∀ u, u ∈ cur ↔ ((∃ t ∈ ws, u = t.take k) ∨ ∃ g ∈ b.gaps.take j, u ∈ g.ways) ∨ u ∈ g.ways.take m) ⟨cur, z7, rfl, e4, hd4, nc, fun u => by rw [hc]; simp⟩ ?_ ?_ ?_⟩
          · rintro m σ H' _ ⟨_, _, _, e, _⟩
            exact Evl.ex_t (e1.trans e) hg2
          · rintro m x σ H3 hm ⟨cur, z7, rfl, e5, hd5, nc, hc⟩
            obtain ⟨t, ht, ⟨ax, rfl, hax⟩⟩ := Paired.get1 hg3 hm
            have hcur : ∀ u ∈ cur, cutsFrom l k u := by
              intro u hu
              rcases (hc u).mp hu with (⟨t', ht', rfl⟩ | ⟨g', hg', hu'⟩) | hu'
              · exact (cuts_step ok hb _).mpr (.inl ⟨t', (hW.2 t').mp ht', rfl⟩)
              · exact (cuts_step ok hb _).mpr (.inr ⟨g', List.mem_of_mem_take hg', hu'⟩)
              · exact (cuts_step ok hb _).mpr (.inr ⟨g, hgm, List.mem_of_mem_take hu'⟩)
            have lc := few_cuts ok hkl nc hcur
            refine ⟨.ref d, rfl, .ref ax, rfl, d, _, rfl, DPut.t (k := keyW t) hd5 (by rw [keyW_kV]; exact (e1.trans e5) _ _ hax) (by rw [kws_len]; exact lc), ?_⟩
            refine ⟨addW cur t, _, rfl, e5.mut nd, by rw [upd_same, put_kws], nodup_addW nc, fun u => ?_⟩
            rw [mem_addW, hc u, take_succ_get ht, List.mem_append, or_assoc]
            simp
          · rintro σ H3 ⟨cur, z7, rfl, e5, hd5, nc, hc⟩
            refine ⟨cur, _, _, rfl, e5, hd5, nc, fun u => ?_⟩
            rw [hc u, wl, List.take_length, take_succ_get hgj, or_assoc]
            simp only [List.mem_append, List.mem_singleton]
            constructor
            · rintro (h | ⟨g', h1, h2⟩ | h)
              · exact .inl h
              · exact .inr ⟨g', .inl h1, h2⟩
              · exact .inr ⟨g, .inr rfl, h⟩
            · rintro (h | ⟨g', h1 | h1, h2⟩)
              · exact .inl h
              · exact .inr (.inl ⟨g', h1, h2⟩)
              · exact .inr (.inr (h1 ▸ h2))
        · rintro σ H2 ⟨cur, z6, z7, rfl, e4, hd4, nc, hc⟩
          rw [gl, List.take_length] at hc
          have hcur : ∀ u, u ∈ cur ↔ cutsFrom l k u := by
            intro u
            rw [hc u, cuts_step ok hb u]
            constructor
            · rintro (⟨t, h1, h2⟩ | h)
              · exact .inl ⟨t, (hW.2 t).mp h1, h2⟩
              · exact .inr h
            · rintro (⟨t, h1, h2⟩ | h)
              · exact .inl ⟨t, (hW.2 t).mpr h1, h2⟩
              · exact .inr h
          refine ⟨.ref d, rfl, d, _, rfl, .inl hd4, fun p qs np hk' => ?_⟩
          have hrows := isKeys_rows (K := K) hk'
          have e5 := Evl.Ex.new (o := .lst (qs.map V.ref)) np
          have npr : p ≠ r0 := fun z => by rw [z, e4 _ _ hR] at np; cases np
          have hR5 : (upd H2 p (.lst (qs.map V.ref))) r0 = some (.lst (rs.map V.ref)) := e5 _ _ (e4 _ _ hR)
          refine ⟨.ref r0, rfl, .inl ⟨rfl, _, SqL.of hR5⟩, .ref p, rfl, r0, _, _, rfl, rfl, hR5, ?_, ?_⟩
          · rw [List.length_map, hl]
            exact Nat.lt_of_lt_of_le (show i < 61 by omega) (by decide)
          · have e15 : Evl.Ex H1 (upd H2 p (.lst (qs.map V.ref))) := e4.trans e5
            have keep : ∀ {r : Addr} {ws' : List Word} {Hx : Hp}, r ≠ r0 → RowAt K Hx r ws' → Hx r0 ≠ none → (∀ xs, Hx r0 ≠ some (.tup xs)) → ∀ o, RowAt K (upd Hx r0 o) r ws' := by
              rintro r ws' Hx hne ⟨us', h1, h2⟩ _ ht o
              refine ⟨us', by rw [upd_ne hne]; exact h1, Paired.imp (fun v w' h => ?_) h2⟩
              obtain ⟨ax, rfl, hax⟩ := h
              exact ⟨ax, rfl, by rw [upd_ne (fun z => ht _ (z ▸ hax))]; exact hax⟩
            have nn : (upd H2 p (.lst (qs.map V.ref))) r0 ≠ none := by rw [hR5]; exact fun z => nomatch z
            have nt : ∀ xs, (upd H2 p (.lst (qs.map V.ref))) r0 ≠ some (.tup xs) := fun xs z => by rw [hR5] at z; cases z
            have hP : RowAt K (upd H2 p (.lst (qs.map V.ref))) p cur := ⟨qs.map V.ref, upd_same, Paired.imp (fun _ _ => wd_ex e5) hrows⟩
            have hWk : WordsAt l k cur := ⟨nc, hcur⟩
            refine ⟨p, rs ++ [p], cur, _, _, _, _, _, rfl, (e1.trans e15).mut nr0, keep npr hP nn nt _, ?_, by rw [upd_same, List.map_append]; rfl, by simp [hl], ?_⟩
            · rw [show l.length - (i + 1) = k by omega]
              exact hWk
            · intro j r hj
              by_cases hjl : j < rs.length
              · rw [List.getElem?_append_left hjl] at hj
                obtain ⟨h1, h0, ws', h2, h3⟩ := hrs j r hj
                exact ⟨h1, h0, ws', keep h1 (h2.ex e15) nn nt _, h3⟩
              · rw [List.getElem?_append_right (by omega)] at hj
                have : j = rs.length := by
                  by_cases e : j - rs.length = 0
                  · omega
                  · rw [List.getElem?_eq_none (by simp; omega)] at hj; cases hj
                subst this
                rw [Nat.sub_self] at hj
                have er : r = p := (Option.some.inj hj).symm
                subst er
                exact ⟨npr, Evl.fresh_back (e1.trans e4) np, cur, keep npr hP nn nt _, by rw [hl, hk]; exact hWk⟩
    · rintro σ H1 ⟨aA, rs, ws, y3, y4, y5, y6, y7, rfl, e1, hA, hW, hR, hl, hrs⟩
      have hl' : rs.length = l.length := by rw [hl, bl]; omega
      refine ⟨.ref r0, rfl, r0, _, rfl, .inl (.inl hR), fun p np => ?_⟩
      rw [← List.map_reverse]
      have e2 := Evl.Ex.new (o := .lst (rs.reverse.map V.ref)) np
      refine q _ p rs.reverse (e1.trans e2) (Evl.fresh_back e1 np) upd_same (by rw [List.length_reverse, hl']) ?_
      intro k r hk
      have hk2 : k < rs.reverse.length := (List.getElem?_eq_some_iff.mp hk).1
      rw [List.length_reverse] at hk2
      rw [List.getElem?_reverse hk2] at hk
      obtain ⟨_, h0, ws', h2, h3⟩ := hrs _ r hk
      refine ⟨h0, ws', h2.ex e2, ?_⟩
      rw [show l.length - 1 - (rs.length - 1 - k) = k by omega] at h3
      exact h3
end
end Wb

set_option Elab.async false
set_option linter.all false
set_option maxRecDepth 100000
set_option maxHeartbeats 4000000
set_option pp.maxSteps 600
set_option pp.deepTerms false
namespace L2
open PySem PySem.Spec PyProof.Rows
/-! ### {k: v for .. in ..}, keys that are tuples -/
theorem dT_set {X : Cx} {pins : List (Addr × Obj)} {σ : L2.St} {H : Hp} {s : Shared} {E : Value → Shared → Prop} {D q : Addr} {kvs : List (List Key × V)} {k : List Key} {v : V} {r : Value} {Q : Unit → Shared → Prop} (hu : X.A.units + 1 < cLine)
    (I : Inv X pins σ H s) (hD : H D = some (.dT kvs)) (hz : kvs.length < sizeLine) (hq : H q = some (.tup (k.map kV))) (rv : RelV v r)
    (go : ∀ s', Inv X pins σ (upd H D (.dT (putK kvs k v))) s' → Q () s') : wpAny (model X.prog X.w) X.A (dictSet D (.ref q) r) Q E s := by
  obtain ⟨z, hd, xs, rel, dd⟩ := dt_of I.hok hD
  have n1 : xs.length ≤ sizeLine := by rw [← Paired.length rel]; exact z
  have n2 : (putK kvs k v).length ≤ sizeLine := by have := length_putK kvs k v; omega
  apply wpAny_dictSet_heap (hsz := n1) (show (tupleKind (mixKind X.prog X.w)).room X.A from Nat.lt_trans (Nat.lt_succ_self _) hu) (key_of I.hok hq) dd
  intro h' dd' hs
  apply go
  obtain ⟨o, es, ep, e1, e2, e3, e4, _, e5⟩ := dd'
  apply d_write I (by rw [hD]; exact True.intro) hs ⟨o, e1⟩
  refine ⟨n2, hd, _, (rel.put k hq rv).keeps ?_, o, es, ep, e1, e2, e3, e4, e5⟩
  intro c ys ec
  rw [upd_ne (ne_of ec hD (fun z => nomatch z))]
  exact ec
section
variable {X : Cx}
def tDcT (wi : TI) (g : TG) (tt : TT) (tk tv : TE) (vs : List Nat) : TE := fun σ H Q => wi σ H fun J H1 => ∀ D, H1 D = none → ∃ W : Nat → Nat → Hp → Prop, (∃ m, W 0 m (upd H1 D (.dT []))) ∧ ∀ i m H, W i m H →
  (J.stop i H ∧ Q (.ref D) H) ∨ (J.go i H ∧ ∃ Nx : Hp → Prop, (∀ H', Nx H' → ∃ m', m' < m ∧ W (i + 1) m' H') ∧ ∀ x H', J.yld i H x H' → g x (wipe σ vs) H' fun σ2 H2 => wipe σ2 vs = wipe σ vs ∧ tt σ2 H2 fun b H3 =>
    if b = true then tk σ2 H3 fun y H4 => tv σ2 H4 fun z H5 => ∃ kvs k q, y = .ref q ∧ H5 q = some (.tup (k.map kV)) ∧ H5 D = some (.dT kvs) ∧ kvs.length < sizeLine ∧ Nx (upd H5 D (.dT (putK kvs k z))) else Nx H3)
theorem dct_core {pins : List (Addr × Obj)} {s : Shared} {σ : L2.St} {H : Hp} {Q : VK} {kx vx tg iter : Expr} {ifs : List Expr} {sc : Scope} {own : List (Str × Nat)} {pos pos' : Pos} {wi : TI} {g : TG} {tt : TT} {tk tv : TE}
    {use : Option (Value → Sem Unit)} {Qf : Value → Shared → Prop} (hu : X.A.units + 1 < cLine) (hc : X.calm = true) (hN : X.N.Nodup) (I : Inv X pins σ H s) (hi : PI X tg iter wi) (ok : BlkOk X.N X.env.scope sc own)
    (pgs : ∀ (s : Shared) (H : Hp) (C : Addr) (cl : List (Str × Addr)) (fp : List Addr), PG (X.blk s H sc (compEnvC sc cl C X.env) fp) tg g)
    (pts : ∀ (s : Shared) (H : Hp) (C : Addr) (cl : List (Str × Addr)) (fp : List Addr), PTs (X.blk s H sc (compEnvC sc cl C X.env) fp) ifs tt)
    (pks : ∀ (s : Shared) (H : Hp) (C : Addr) (cl : List (Str × Addr)) (fp : List Addr), PE (X.blk s H sc (compEnvC sc cl C X.env) fp) kx tk)
    (pes : ∀ (s : Shared) (H : Hp) (C : Addr) (cl : List (Str × Addr)) (fp : List Addr), PE (X.blk s H sc (compEnvC sc cl C X.env) fp) vx tv)
    (hs : ∀ x, foldedSetIterable iter X.env x = pure x) (h : tDcT wi g tt tk tv (own.map (·.2)) σ H Q)
    (fin0 : ∀ D C s' m H', Inv X pins σ H' s' → Q (.ref D) H' → s'.heap.Ns C m → FpOk X pins H' C → compPost (model X.prog X.w) X.A X.xe use Qf (.ref D) C (.ok .next) s') :
    wpAny (model X.prog X.w) X.A (comprehension (.DictComp kx vx [⟨tg, iter, ifs, 0⟩] sc pos) sc X.env pos' newDict false (eval iter X.env) use) Qf X.xe s := by
  have frees : ∀ y ∈ sc.names, y.2 = .free → ∃ c, X.env.cells.lookup y.1 = some c := by
    intro y hy e
    cases ok.free y hy e with
    | inl k => exact I.ok.has _ (.inl k)
    | inr k => exact I.ok.has _ (.inr k)
  apply wpAny_comprehension_free (use := use) rfl hs (closure_ok frees) ok.kind (fun y hy e => by rw [ok.uniq y hy, e])
  refine thn (hi.run pins s σ H _ I h) ?_
  intro xv s1 hx
  refine thn hx ?_
  rintro itv s2 ⟨it, fp, tn, J, H2, rfl, I2, T, st2, f2, q⟩
  refine wpAny_newObj_type (newEnv_comp ?_)
  obtain ⟨D, hD⟩ : ∃ D, s2.heap.objs.size = D := ⟨_, rfl⟩
  have hDn : H2 D = none := I2.hok.fresh (Nat.le_of_eq hD)
  obtain ⟨W, ⟨m0, w0⟩, turn⟩ := q D hDn
  obtain ⟨s3, hs3⟩ : ∃ s3 : Shared, ({ s2 with heap := s2.heap.push { cls := .type "dict", data := .dict #[] } } : Shared) = s3 := ⟨_, rfl⟩
  rw [hD, hs3]
  have h3 : s3.heap = s2.heap.push { cls := .type "dict", data := .dict #[] } := by rw [← hs3]
  have I3 : Inv X pins σ (upd H2 D (.dT [])) s3 := by
    subst hs3
    apply I2.laid (t' := s2.toks) (fun b o e => Heap.get?_push_of_some _ e) (Nat.le_of_eq hD)
    subst hD
    exact dt_empty s2.heap I2.big
  have below : ∀ b ∈ fp, b < s2.heap.objs.size := by
    intro b hb
    obtain ⟨o, e, _⟩ := T.obj _ _ st2 b hb
    exact Heap.lt_size e
  have f3 : ∀ b ∈ fp, FpOk X pins (upd H2 D (.dT [])) b ∧ b < s3.heap.objs.size := by
    intro b hb
    have lt := below b hb
    refine ⟨⟨?_, (f2 b hb).2⟩, by rw [h3, Heap.size_push]; exact Nat.lt_succ_of_lt lt⟩
    rw [upd_ne (by subst hD; exact Nat.ne_of_lt lt)]
    exact (f2 b hb).1
  have st3 : tn 0 s3.heap := by
    apply T.keep _ _ _ st2
    intro b _ o e
    rw [h3]
    exact Heap.get?_push_of_some _ e
  have I4 := block_start I3 ok hN f3
  have pg := pgs s3 (upd H2 D (.dT [])) s3.heap.objs.size (cellsFrom (s3.heap.objs.size + 1) sc.names (cloFrom X.env.cells sc.names [])) fp
  have pt := pts s3 (upd H2 D (.dT [])) s3.heap.objs.size (cellsFrom (s3.heap.objs.size + 1) sc.names (cloFrom X.env.cells sc.names [])) fp
  have pk := pks s3 (upd H2 D (.dT [])) s3.heap.objs.size (cellsFrom (s3.heap.objs.size + 1) sc.names (cloFrom X.env.cells sc.names [])) fp
  have pe := pes s3 (upd H2 D (.dT [])) s3.heap.objs.size (cellsFrom (s3.heap.objs.size + 1) sc.names (cloFrom X.env.cells sc.names [])) fp
  show codeAny _ _ (.compStart (.DictComp kx vx [⟨tg, iter, ifs, 0⟩] sc pos) 0 (.ref it) (.ref D) (compEnvC sc (cellsFrom (s3.heap.objs.size + 1) sc.names (cloFrom X.env.cells sc.names [])) s3.heap.objs.size X.env)) _ { s3 with heap := pushCells (s3.heap.push { cls := .type "dict", data := .dict #[] }) sc.names }
  have none3 : ∀ b ∈ fp, (upd H2 D (.dT [])) b = none := fun b hb => (f3 b hb).1.1
  generalize hce : compEnvC sc (cellsFrom (s3.heap.objs.size + 1) sc.names (cloFrom X.env.cells sc.names [])) s3.heap.objs.size X.env = ce at I4 pg pt pk pe ⊢
  have cL : ce.locals = s3.heap.objs.size := by rw [← hce]; rfl
  generalize hH3 : upd H2 D (.dT []) = H3 at I3 I4 pg pt pk pe w0 none3 f3
  generalize hs4 : ({ s3 with heap := pushCells (s3.heap.push { cls := .type "dict", data := .dict #[] }) sc.names } : Shared) = s4 at I4 ⊢
  have st4 : tn 0 s4.heap := by
    apply T.keep _ _ _ st3
    intro b _ o e
    rw [← hs4]
    exact pushCells_keeps _ _ _ _ (Heap.get?_push_of_some _ e)
  have stat : ∀ {σ' : L2.St} {H' : Hp} {s' : Shared}, Inv (X.blk s3 H3 sc ce fp) [] σ' H' s' → (∀ b ∈ fp, H' b = none) → ∀ b ∈ fp, FpOk (X.blk s3 H3 sc ce fp) [] H' b := by
    intro σ' H' s' I' hn b hb
    refine ⟨hn b hb, (I'.ok.exf b hb).1, I'.ok.exfs b hb, .inl hb, fun x c e => (I'.ok.exf b hb).2 x c e, ?_⟩
    intro p hp
    exact absurd (show p ∈ ([] : List (Addr × Obj)) ++ [] from hp) (by simp)
  refine (fun loop => codeAny_compStart_dict loop (T.self X.A 0 _ _ _ st4 loop)) ?_
  apply compLoop_anyD (fun n s' => ∃ i H', Inv (X.blk s3 H3 sc ce fp) [] (wipe σ (own.map (·.2))) H' s' ∧ tn i s'.heap ∧ (∀ b ∈ fp, H' b = none) ∧ W i n H') _ m0 ⟨0, H3, I4, st4, none3, w0⟩
  rintro n s5 ⟨i, H5, I5, st5, n5, w5⟩
  rcases turn i n H5 w5 with ⟨stop, qq⟩ | ⟨go, Nx, hNx, step⟩
  · refine thnF (T.done (X.blk s3 H3 sc ce fp) rfl rfl rfl hc i [] s5 _ H5 (fun _ _ => False) I5 (stat I5 n5) st5 stop) ?_
    rintro r s6 ⟨rfl, I6⟩
    have I7 : Inv X pins σ H5 s6 := I3.call' (ch := fp) I6.os I6.base I6.hok I6.bare (fun b hb => by
      have z := (f3 b hb).1
      exact ⟨z.2.2.2.1, z.2.1, z.2.2.2.2.1, z.2.2.2.2.2⟩)
    have nC : H5 s3.heap.objs.size = none := by
      rw [← cL]
      exact I6.free
    obtain ⟨m, hn, _⟩ := I6.loc
    have hn' : s6.heap.Ns s3.heap.objs.size m := by
      rw [← cL]
      exact hn
    exact fin0 D s3.heap.objs.size s6 m H5 I7 qq hn' (I3.fpOk (b := s3.heap.objs.size) (Nat.le_refl _) nC)
  · refine thnF (T.item (X.blk s3 H3 sc ce fp) rfl rfl rfl hc i [] s5 _ H5 (fun _ _ => False) I5 (stat I5 n5) st5 go) ?_
    rintro r s6 ⟨u, rfl, h6⟩
    refine thnF h6 ?_
    rintro _ s7 ⟨x, H7, I7, r7, y7, st7, n7⟩
    have I7p := I7.pinned (stat I7 n7) (T.obj _ _ st7)
    refine thnF (pg.run _ s7 _ H7 x u _ I7p r7 (step x H7 y7)) ?_
    rintro _ s8 ⟨σ8, H8, I8, hw8, q8⟩
    refine thnF (pt.run _ s8 σ8 H8 _ I8 q8) ?_
    rintro b s9 ⟨H9, I9, q9⟩
    have fin : ∀ {s' : Shared} {H' : Hp}, Inv (X.blk s3 H3 sc ce fp) ([] ++ pinsAt fp s7.heap) σ8 H' s' → Nx H' →
        ∃ m, m < n ∧ ∃ i H', Inv (X.blk s3 H3 sc ce fp) [] (wipe σ (own.map (·.2))) H' s' ∧ tn i s'.heap ∧ (∀ b ∈ fp, H' b = none) ∧ W i m H' := by
      intro s' H' I' nx
      obtain ⟨m', hm, w'⟩ := hNx H' nx
      have stay : ∀ b ∈ fp, ∀ o, s7.heap.get? b = some o → s'.heap.get? b = some o ∧ H' b = none := by
        intro b hb o e
        have z := I'.pin (b, o) (List.mem_append_right _ (List.mem_append_right _ (mem_pinsAt hb e)))
        exact ⟨z.1, z.2.1⟩
      refine ⟨m', hm, i + 1, H', (I'.unpinned (pins := [])).weak (by rw [← hw8, wipe_length]) ?_, T.keep _ _ _ st7 (fun b hb o e => (stay b hb o e).1), ?_, w'⟩
      · intro j v e
        rw [← hw8] at e
        exact (wipe_some e).1
      · intro b hb
        obtain ⟨o, e, _⟩ := T.obj _ _ st7 b hb
        exact (stay b hb o e).2
    cases b
    · simp only [Bool.false_eq_true, if_false] at q9 ⊢
      exact fin I9 q9
    · simp only [if_true] at q9 ⊢
      refine thnF (pk.run _ s9 σ8 H9 _ I9 q9) ?_
      rintro z s10 ⟨yk, H10, I10, r10, q10⟩
      refine thnF (pe.run _ s10 σ8 H10 _ I10 q10) ?_
      rintro z2 s11 ⟨yv, H11, I11, r11, kvs, k, kq, rfl, hkq, hD11, hz11, nx⟩
      cases r10
      exact dT_set (X := X.blk s3 H3 sc ce fp) hu I11 hD11 hz11 hkq r11 (fun s12 I12 => fin I12 nx)
theorem pe_dcT {kx vx tg iter : Expr} {ifs : List Expr} {sc : Scope} {own : List (Str × Nat)} {pos : Pos} {wi : TI} {g : TG} {tt : TT} {tk tv : TE} (hu : X.A.units + 1 < cLine) (hc : X.calm = true) (hN : X.N.Nodup) (hi : PI X tg iter wi) (ok : BlkOk X.N X.env.scope sc own)
    (pgs : ∀ (s : Shared) (H : Hp) (C : Addr) (cl : List (Str × Addr)) (fp : List Addr), PG (X.blk s H sc (compEnvC sc cl C X.env) fp) tg g)
    (pts : ∀ (s : Shared) (H : Hp) (C : Addr) (cl : List (Str × Addr)) (fp : List Addr), PTs (X.blk s H sc (compEnvC sc cl C X.env) fp) ifs tt)
    (pks : ∀ (s : Shared) (H : Hp) (C : Addr) (cl : List (Str × Addr)) (fp : List Addr), PE (X.blk s H sc (compEnvC sc cl C X.env) fp) kx tk)
    (pes : ∀ (s : Shared) (H : Hp) (C : Addr) (cl : List (Str × Addr)) (fp : List Addr), PE (X.blk s H sc (compEnvC sc cl C X.env) fp) vx tv)
    (hs : ∀ x, foldedSetIterable iter X.env x = pure x := by intro _; rfl) : PE X (.DictComp kx vx [⟨tg, iter, ifs, 0⟩] sc pos) (tDcT wi g tt tk tv (own.map (·.2))) := by
  constructor
  intro pins s σ H Q I h
  rw [arm_eval_DictComp]
  apply dct_core hu hc hN I hi ok pgs pts pks pes hs h
  intro D C s' m H' I' q hn f
  refine ⟨m, hn, ?_⟩
  intro h'' sb
  obtain ⟨g0, g1, g2, g3, g4, g5⟩ := f
  exact ⟨.ref D, H', I'.turned (t' := s'.toks) (fun b o hb e => (sb.2 b hb).trans e) g0 g1 g3 g4 g5, rfl, q⟩
/-- name = {..} on one line, the name a local -/
theorem ps_setDcT {i : Nat} {y : Str} {py : Pos} {kx vx tg iter : Expr} {ifs : List Expr} {sc : Scope} {own : List (Str × Nat)} {pos spos : Pos} {wi : TI} {g : TG} {tt : TT} {tk tv : TE} (hu : X.A.units + 1 < cLine) (hc : X.calm = true) (hN : X.N.Nodup)
    (hy : X.N[i]? = some y) (hyl : X.env.scope.names.lookup y = some .local) (hsw : swapsWith (.DictComp kx vx [⟨tg, iter, ifs, 0⟩] sc pos) (some (.Name y py)) spos.line X.env = pure true) (hi : PI X tg iter wi) (ok : BlkOk X.N X.env.scope sc own)
    (pgs : ∀ (s : Shared) (H : Hp) (C : Addr) (cl : List (Str × Addr)) (fp : List Addr), PG (X.blk s H sc (compEnvC sc cl C X.env) fp) tg g)
    (pts : ∀ (s : Shared) (H : Hp) (C : Addr) (cl : List (Str × Addr)) (fp : List Addr), PTs (X.blk s H sc (compEnvC sc cl C X.env) fp) ifs tt)
    (pks : ∀ (s : Shared) (H : Hp) (C : Addr) (cl : List (Str × Addr)) (fp : List Addr), PE (X.blk s H sc (compEnvC sc cl C X.env) fp) kx tk)
    (pes : ∀ (s : Shared) (H : Hp) (C : Addr) (cl : List (Str × Addr)) (fp : List Addr), PE (X.blk s H sc (compEnvC sc cl C X.env) fp) vx tv)
    (hs : ∀ x, foldedSetIterable iter X.env x = pure x := by intro _; rfl) :
    PS X (.Assign [.Name y py] (.DictComp kx vx [⟨tg, iter, ifs, 0⟩] sc pos) spos) (tAsg (tDcT wi g tt tk tv (own.map (·.2))) (gName i)) := by
  constructor
  intro pins s σ H D I h
  rw [exec_Assign_Name_used _ _ _ _ hsw]
  apply wpAny_bind
  apply wpAny_standAt
  apply wpAny_bind
  show wpAny _ X.A (do let _ ← comprehension (.DictComp kx vx [⟨tg, iter, ifs, 0⟩] sc pos) sc X.env (firstIterPos [⟨tg, iter, ifs, 0⟩] pos) newDict false (eval iter X.env) (some (assign (.Name y py) X.env))) _ _ s
  have h' : tDcT wi g tt tk tv (own.map (·.2)) σ H (fun x H1 => gName i x σ H1 D.nx) := h
  apply wpAny_bind
  refine thn (dct_core (Qf := fun _ s' => SP X pins D .next s') hu hc hN I hi ok pgs pts pks pes hs h' ?_) (fun _ s' hq => wpAny_pure (wpAny_pure hq))
  intro L C s' m H' I' q hn f
  show wpAny _ _ (assign (.Name y py) X.env (.ref L)) _ _ _
  apply wpAny_assign_Name
  refine store_ok2 (v := V.ref L) I' hN hy (.inl hyl) rfl ?_ (.inr hyl)
  rintro s2 I2 ⟨a, sb, ha⟩
  obtain ⟨g0, g1, g2, g3, g4, g5⟩ := f
  have apart : C ≠ a := by
    cases ha with
    | inl z => rw [z]; exact g1
    | inr z => exact fun e => g4 y a z e.symm
  refine ⟨m, hn.sameBut sb apart, ?_⟩
  intro h3 sb3
  exact ⟨_, H', I2.turned (t' := s2.toks) (fun b o hb e => (sb3.2 b hb).trans e) g0 g1 g3 g4 g5, q⟩
end
end L2

set_option Elab.async false
set_option linter.all false
set_option maxRecDepth 100000
set_option maxHeartbeats 4000000
set_option pp.maxSteps 600
set_option pp.deepTerms false
namespace Wb
open PySem PySem.Spec PyProof.Rows L2
abbrev sMoves : Stmt := topS 16
theorem scMoves : FnScope ["lock", "rows", "words", "bolt", "moves", "here", "there", "price", "ways", "way", "word"] ["lock"] (defScope sMoves) := ⟨rfl, rfl, rfl, by decide +kernel, rfl, by decide +kernel, by decide +kernel⟩

/-- a dict comprehension over any walk -/
theorem dct_it {J : It} {n : Nat} {G : Hp → Prop} {Y : Nat → Hp → V → Hp → Prop} (w : Walk J n G Y) {g : TG} {tt : TT} {tk tv : TE} {vs : List Nat} {σ : L2.St} {H1 : Hp} {D : Addr} {Qd : Hp → Prop} (Pv : Nat → Hp → Prop)
    (h0 : Pv 0 (upd H1 D (.dT []))) (hG : ∀ i H, i ≤ n → Pv i H → G H)
    (hs : ∀ i x H H', i < n → Pv i H → Y i H x H' → g x (wipe σ vs) H' fun σ2 H2 => wipe σ2 vs = wipe σ vs ∧ tt σ2 H2 fun b H3 =>
      if b = true then tk σ2 H3 fun y H4 => tv σ2 H4 fun z H5 => ∃ kvs k q, y = .ref q ∧ H5 q = some (.tup (k.map kV)) ∧ H5 D = some (.dT kvs) ∧ kvs.length < sizeLine ∧ Pv (i + 1) (upd H5 D (.dT (putK kvs k z))) else Pv (i + 1) H3)
    (hd : ∀ H, Pv n H → Qd H) :
    ∃ W : Nat → Nat → Hp → Prop, (∃ m, W 0 m (upd H1 D (.dT []))) ∧ ∀ i m H, W i m H →
      (J.stop i H ∧ Qd H) ∨ (J.go i H ∧ ∃ Nx : Hp → Prop, (∀ H', Nx H' → ∃ m', m' < m ∧ W (i + 1) m' H') ∧ ∀ x H', J.yld i H x H' → g x (wipe σ vs) H' fun σ2 H2 => wipe σ2 vs = wipe σ vs ∧ tt σ2 H2 fun b H3 =>
        if b = true then tk σ2 H3 fun y H4 => tv σ2 H4 fun z H5 => ∃ kvs k q, y = .ref q ∧ H5 q = some (.tup (k.map kV)) ∧ H5 D = some (.dT kvs) ∧ kvs.length < sizeLine ∧ Nx (upd H5 D (.dT (putK kvs k z))) else Nx H3) := by
  refine ⟨fun i m H => (m = n - i ∧ i ≤ n) ∧ Pv i H, ⟨n, ⟨rfl, Nat.zero_le _⟩, h0⟩, ?_⟩
  rintro i m H ⟨⟨rfl, hi⟩, p⟩
  have gg := hG i H hi p
  rcases Nat.lt_or_eq_of_le hi with lt | rfl
  · refine .inr ⟨w.goes i H lt gg, Pv (i + 1), ?_, ?_⟩
    · intro H' p'
      exact ⟨n - (i + 1), by omega, ⟨rfl, lt⟩, p'⟩
    · intro x H' y
      exact hs i x H H' lt p (w.yields i H x H' lt gg y)
  · exact .inl ⟨w.stops H gg, hd H p⟩

/-! ### moves by word -/
structure Tr3 where
  frm : Int
  to_ : Int
  price : Int
def TrAt (H : Hp) (v : V) (t : Tr3) : Prop := ∃ a, v = .ref a ∧ H a = some (.tup [.int t.frm, .int t.to_, .int t.price])
def trOf (g : Gap) : Tr3 := ⟨g.frm, g.to_, g.price⟩
def movesL (gs : List Gap) (w : Word) : List Tr3 := (gs.filter fun g => decide (w ∈ g.ways)).map trOf
def kps (ps : List (Word × Addr)) : List (List Key × V) := ps.map fun q => (keyW q.1, .ref q.2)
theorem kps_any (ps : List (Word × Addr)) (w : Word) : ((kps ps).any fun kv => decide (kv.1 = keyW w)) = decide (w ∈ ps.map (·.1)) := by
  unfold kps
  rw [List.any_map, Bool.eq_iff_iff]
  simp only [List.any_eq_true, Function.comp, decide_eq_true_eq, List.mem_map]
  constructor
  · rintro ⟨q, hq, e⟩
    exact ⟨q, hq, keyW_inj e⟩
  · rintro ⟨q, hq, e⟩
    exact ⟨q, hq, by rw [e]⟩
theorem put_kps {ps : List (Word × Addr)} {w : Word} (h : w ∉ ps.map (·.1)) (a : Addr) : putK (kps ps) (keyW w) (.ref a) = kps (ps ++ [(w, a)]) := by
  unfold putK
  rw [kps_any, if_neg (by rw [decide_eq_false h]; exact Bool.false_ne_true)]
  unfold kps
  rw [List.map_append]
  rfl
theorem valV_kps_none {ps : List (Word × Addr)} {w : Word} (h : w ∉ ps.map (·.1)) : valV (kps ps) (keyW w) = none := by
  have z := valV_any (keyW w) (kps ps)
  rw [kps_any, decide_eq_false h] at z
  cases e : valV (kps ps) (keyW w) with
  | none => rfl
  | some v => rw [e] at z; cases z
theorem valV_kps {ps : List (Word × Addr)} {q : Word × Addr} (hn : (ps.map (·.1)).Nodup) (h : q ∈ ps) : valV (kps ps) (keyW q.1) = some (.ref q.2) := by
  induction ps with
  | nil => cases h
  | cons p ps ih =>
    rw [List.map_cons, List.nodup_cons] at hn
    rcases List.mem_cons.mp h with rfl | h
    · exact valV_pos rfl
    · have ne : ¬ keyW p.1 = keyW q.1 := fun e => hn.1 (by rw [keyW_inj e]; exact List.mem_map.mpr ⟨q, h, rfl⟩)
      have z : valV (kps (p :: ps)) (keyW q.1) = valV (kps ps) (keyW q.1) := valV_neg ne
      rw [z]
      exact ih hn.2 h
/-- the dict of bolt b's moves, by words, its lists apart from r0 -/
def MvAt (B H : Hp) (r0 d : Addr) (gs : List Gap) (ws : List Word) : Prop :=
  ∃ ps : List (Word × Addr), ps.map (·.1) = ws ∧ H d = some (.dT (kps ps)) ∧ ∀ q ∈ ps, (q.2 ≠ r0 ∧ B q.2 = none) ∧ ∃ us, H q.2 = some (.lst us) ∧ Paired (TrAt H) us (movesL gs q.1)
theorem TrAt.ex {H H' : Hp} (e : Evl.Ex H H') {v : V} {t : Tr3} (h : TrAt H v t) : TrAt H' v t := by
  obtain ⟨a, r, q⟩ := h
  exact ⟨a, r, e _ _ q⟩
theorem MvAt.ex {B H H' : Hp} (e : Evl.Ex H H') {r0 d : Addr} {gs : List Gap} {ws : List Word} (h : MvAt B H r0 d gs ws) : MvAt B H' r0 d gs ws := by
  obtain ⟨ps, h1, h2, h3⟩ := h
  refine ⟨ps, h1, e _ _ h2, fun q hq => ?_⟩
  obtain ⟨a, us, b, c⟩ := h3 q hq
  exact ⟨a, us, e _ _ b, Paired.imp (fun _ _ => TrAt.ex e) c⟩
theorem MvAt.put {B H : Hp} {r0 d : Addr} {xs ys : List V} (hr : H r0 = some (.lst xs)) {gs : List Gap} {ws : List Word} (h : MvAt B H r0 d gs ws) : MvAt B (upd H r0 (.lst ys)) r0 d gs ws := by
  obtain ⟨ps, h1, h2, h3⟩ := h
  refine ⟨ps, h1, by rw [upd_ne (ne_of h2 hr (fun z => nomatch z))]; exact h2, fun q hq => ?_⟩
  obtain ⟨a, us, b, c⟩ := h3 q hq
  refine ⟨a, us, by rw [upd_ne a.1]; exact b, Paired.imp (fun v t => ?_) c⟩
  rintro ⟨x, rfl, hx⟩
  exact ⟨x, rfl, by rw [upd_ne (ne_of hx hr (fun z => nomatch z))]; exact hx⟩
def spMoves (K : PySem.W.Frag) : Sp := fun vs H Q _ => ∃ (v : V) (l : Lock), vs = [v] ∧ LockAt K H v l ∧ LockOk l ∧
  ∀ H' p (ds : List Addr), Evl.Ex H H' → H p = none → H' p = some (.lst (ds.map V.ref)) → ds.length = l.length →
    (∀ k d b, ds[k]? = some d → l[k]? = some b → ∃ ws, WordsAt l k ws ∧ MvAt H H' p d b.gaps ws) → Q (.ref p) H'

section
variable {P : Program} {w : World} {K : PySem.W.Frag} {mg : Str → Option Value} {base : Heap}
theorem paired_app1 {α β : Type} {R : α → β → Prop} {xs : List α} {ys : List β} {x : α} {y : β} (h : Paired R xs ys) (r : R x y) : Paired R (xs ++ [x]) (ys ++ [y]) := Paired.app h (.cons r .nil)
theorem ok_moves {f f1 : Addr} {fd fd1 : FuncData} (F : Fun K "moves_by_word" "moves_by_word" sMoves f fd) (F1 : Fun K "words_of" "words_of" sWords f1 fd1) (b1 : Binds K fd1 ["lock"] []) (g1 : mg "words_of" = some (.ref f1)) (B : Bi mg) :
    FnOk P w K mg base CX0 2 f fd ["lock"] (spMoves K) := by
  have G1 : FnOk P w K mg base CX0 1 f1 fd1 ["lock"] (spWords K) := ok_words F1 B
  refine F.ok scMoves (fun vs H Q E h => ?_) (fun cdv A outer s H vs Q E hr h => ?_)
  · obtain ⟨v, l, rfl, _⟩ := h; rfl
  · obtain ⟨v, l, rfl, ⟨a, bs, rfl, hx, hp⟩, ok, q⟩ := h
    have hu := hu_of hr
    refine ⟨_, pss_cons (ps_set (i := 1) scMoves.nd rfl (.inl rfl) (pe_lst pa_nil))
      (pss_cons (ps_for PassesOwn.never rfl (pi_zipX (by rfl) B.zip (pa_cons (pe_call G1 hr (by rfl) g1 F1.kp b1 .nil pass0 (pa_cons (pv 0) pa_nil)) (pa_cons (pv 0) pa_nil))) (pg_tup rfl (pgs_cons (pg_name (i := 2) scMoves.nd rfl (.inl rfl)) (pgs_cons (pg_name (i := 3) scMoves.nd rfl (.inl rfl)) pgs_nil)))
        (pss_cons (ps_setDcT (i := 4) (own := [("word", 10)]) (g := gName 10) hu rfl scMoves.nd rfl rfl rfl (pi_list (pv 2)) (blkOk_by (own := [("word", 10)]) (N := ["lock", "rows", "words", "bolt", "moves", "here", "there", "price", "ways", "way", "word"]) (sc := defScope sMoves) (by decide +kernel))
            (fun _ _ _ _ _ => pg_name (i := 10) scMoves.nd rfl (Or.inl rfl)) (fun _ _ _ _ _ => pts_nil) (fun _ _ _ _ _ => pv 10) (fun _ _ _ _ _ => pe_lst pa_nil))
        (pss_cons (ps_for PassesOwn.never rfl (pi_tup (pe_ix ix_tup (pv 3) pe_int (fun _ _ => rfl))) (pg_tup rfl (pgs_cons (pg_name (i := 5) scMoves.nd rfl (.inl rfl)) (pgs_cons (pg_name (i := 6) scMoves.nd rfl (.inl rfl)) (pgs_cons (pg_name (i := 7) scMoves.nd rfl (.inl rfl)) (pgs_cons (pg_name (i := 8) scMoves.nd rfl (.inl rfl)) pgs_nil)))))
          (pss_one (ps_for PassesOwn.never rfl (pi_tup (pv 8)) (pg_name (i := 9) scMoves.nd rfl (.inl rfl))
            (pss_one (ps_expr (pe_bm PySem.F.plainAttrs_list PySem.F.slot_list_append PySem.F.type_list_append mt_append (pe_dget hu (pv 4) (pv 9) (fun _ _ => rfl)) (pa_cons (pe_tup (pa_cons (pv 5) (pa_cons (pv 6) (pa_cons (pv 7) pa_nil)))) pa_nil)))))))
        (pss_one (ps_expr (pe_bm PySem.F.plainAttrs_list PySem.F.slot_list_append PySem.F.type_list_append mt_append (pv 1) (pa_cons (pv 4) pa_nil)))))))
      (pss_one (ps_ret (pv 1)))), ?_⟩
    have bl : bs.length = l.length := Paired.len hp
    have n60 := ok.n1
    refine ⟨Nat.zero_le _, fun r0 nr0 => ?_⟩
    have x1 : Evl.Ex H (upd H r0 (.lst [])) := Evl.Ex.new nr0
    refine ⟨.ref a, rfl, .ref a, l, rfl, ⟨a, bs, rfl, Evl.ex_t x1 hx, Paired.imp (fun _ _ => BoltAt.mono (TX.ex x1)) hp⟩, ok, fun H0 pw rs x2 npw hpw rl hrs => ?_⟩
    have x3 := x1.trans x2
    have hR0 : H0 r0 = some (.lst []) := x2 _ _ upd_same
    have nrpw : pw ≠ r0 := fun z => by rw [z, upd_same] at npw; cases npw
    refine ⟨.ref a, rfl, true, false, pw, a, rs.map V.ref, bs, rfl, .inl (.inl hpw), Evl.ex_t x3 hx, ?_⟩
    refine for_it (walk_zx (l := true) (m := false) (xs := rs.map V.ref) (ys := bs) (by rw [List.length_map, rl, bl])) (fun i σ H' => ∃ (ds : List Addr) (y2 y3 y4 y5 y6 y7 y8 y9 y10 : Option V), σ = [some (.ref a), some (.ref r0), y2, y3, y4, y5, y6, y7, y8, y9, y10] ∧
        Evl.Ex H H' ∧ (∀ b o, b ≠ r0 → H0 b = some o → H' b = some o) ∧ H' r0 = some (.lst (ds.map V.ref)) ∧ ds.length = i ∧ ∀ k d b, ds[k]? = some d → l[k]? = some b → ∃ ws, WordsAt l k ws ∧ MvAt H H' r0 d b.gaps ws)
      ⟨[], none, none, none, none, none, none, none, none, none, rfl, x3, fun b o _ h => h, hR0, rfl, fun k d b h => by simp at h⟩ ?_ ?_ ?_
    · rintro i σ H' _ ⟨_, _, _, _, _, _, _, _, _, _, _, e, k0, _⟩
      exact ⟨.inl (.inl (k0 _ _ nrpw hpw)), Evl.ex_t e hx⟩
    · rintro i v σ H1 H2 hi ⟨ds, y2, y3, y4, y5, y6, y7, y8, y9, y10, rfl, e1, k0, hR, dl, hds⟩ ⟨T, x, y, rfl, nT, rfl, ex, ey⟩
      rw [List.length_map, rl] at hi
      obtain ⟨b, hb⟩ : ∃ b, l[i]? = some b := ⟨l[i], List.getElem?_eq_getElem hi⟩
      obtain ⟨vb, hvb, hba⟩ := Paired.get2 hp hb
      have ey' : bs[i]? = some y := ey
      rw [hvb] at ey'
      cases ey'
      obtain ⟨r, hr1, rfl⟩ : ∃ r, rs[i]? = some r ∧ x = .ref r := by
        have ex' : (rs.map V.ref)[i]? = some x := ex
        rw [List.getElem?_map] at ex'
        cases e : rs[i]? with
        | none => rw [e] at ex'; cases ex'
        | some r => rw [e] at ex'; exact ⟨r, rfl, (Option.some.inj ex').symm⟩
      obtain ⟨nr, ws, ⟨us, hus, hup⟩, hW⟩ := hrs i r hr1
      have nrr : r ≠ r0 := fun z => by rw [z, upd_same] at nr; cases nr
      have e2 := Evl.Ex.new (o := .tup [.ref r, y]) nT
      generalize hH2 : upd H1 T (.tup [.ref r, y]) = H2 at e2
      have hT2 : H2 T = some (.tup [.ref r, y]) := by rw [← hH2]; exact upd_same
      have hus2 : H2 r = some (.lst us) := e2 _ _ (k0 _ _ nrr hus)
      have hR2 : H2 r0 = some (.lst (ds.map V.ref)) := e2 _ _ hR
      have tx2 : ∀ {v w'}, Wd K H0 v w' → Wd K H2 v w' := by
        rintro v w' ⟨ax, rfl, hax⟩
        exact ⟨ax, rfl, e2 _ _ (k0 _ _ (ne_of hax hR0 (fun z => nomatch z)) hax)⟩
      have hup2 : Paired (Wd K H2) us ws := Paired.imp (fun _ _ => tx2) hup
      have ul : us.length = ws.length := Paired.len hup
      have w8 : ws.length ≤ 8 := ok.words i ws hi hW.1 (fun u hu' => (hW.2 u).mp hu')
      obtain ⟨ab, cg, gs, rfl, hb1, hb2, hb3⟩ := hba
      have bok := ok.bolts i b hb
      have e12 := e1.trans e2
      refine ⟨T, _, rfl, .inl (.inl hT2), rfl, _, _, rfl, _, _, rfl, rfl, ?_⟩
      refine ⟨.ref r, rfl, r, rfl, ⟨us, .inl (.inl hus2)⟩, fun D hD => ?_⟩
      refine dct_it (walk_list (K := K) (a := r) (xs := us)) (fun m H' => ∃ ps : List (Word × Addr), ps.map (·.1) = ws.take m ∧ Evl.Ex H2 H' ∧ H' D = some (.dT (kps ps)) ∧ (ps.map (·.2)).Nodup ∧ ∀ q ∈ ps, H2 q.2 = none ∧ q.2 ≠ D ∧ H' q.2 = some (.lst []))
        ⟨[], rfl, Evl.Ex.new hD, upd_same, List.nodup_nil, fun q hq => nomatch hq⟩ ?_ ?_ ?_
      · rintro m H' _ ⟨ps, _, e3, _⟩
        exact .inl (.inl (e3 _ _ hus2))
      · rintro m x H3 H4 hm ⟨ps, hps, e3, hd3, nd3, hq3⟩ ⟨rfl, hx3⟩
        obtain ⟨t, ht, ⟨ax, rfl, hax⟩⟩ := Paired.get1 hup2 hx3
        have tn : t ∉ ps.map (·.1) := by
          rw [hps]
          intro hmem
          obtain ⟨j, hj, ej⟩ := List.getElem_of_mem hmem
          rw [List.length_take] at hj
          rw [List.getElem_take] at ej
          obtain ⟨l1, q1⟩ := List.getElem?_eq_some_iff.mp ht
          have := (List.getElem_inj hW.1).mp (ej.trans q1.symm)
          omega
        refine ⟨rfl, .ref ax, rfl, Nat.zero_le _, fun p np => ?_⟩
        have e4 := Evl.Ex.new (o := .lst []) np
        have np2 : H2 p = none := Evl.fresh_back e3 np
        have npD : p ≠ D := fun z => by rw [z, hd3] at np; cases np
        have nDp : D ≠ p := fun z => npD z.symm
        refine ⟨kps ps, keyW t, ax, rfl, ?_, e4 _ _ hd3, ?_, ps ++ [(t, p)], ?_, (e3.trans e4).mut hD, ?_, ?_, ?_⟩
        · rw [keyW_kV]
          exact (e3.trans e4) _ _ hax
        · have z : ps.length ≤ 8 := by
            have := congrArg List.length hps
            rw [List.length_map, List.length_take] at this
            omega
          unfold kps
          rw [List.length_map]
          exact Nat.lt_of_le_of_lt z (by decide)
        · rw [List.map_append, hps, take_succ_get ht]
          rfl
        · rw [upd_same, put_kps tn]
        · rw [List.map_append, List.nodup_append]
          refine ⟨nd3, by simp, ?_⟩
          intro x hx' y hy'
          simp at hy'
          subst hy'
          obtain ⟨q, hq, rfl⟩ := List.mem_map.mp hx'
          intro z
          have := (hq3 q hq).2.2
          rw [z] at this
          rw [this] at np
          cases np
        · intro q hq
          rcases List.mem_append.mp hq with hq | hq
          · obtain ⟨a1, a2, a3⟩ := hq3 q hq
            refine ⟨a1, a2, ?_⟩
            rw [upd_ne a2]
            exact e4 _ _ a3
          · have : q = (t, p) := by simpa using hq
            subst this
            exact ⟨np2, npD, by rw [upd_ne npD, upd_same]⟩
      · rintro H3 ⟨ps, hps, e3, hd3, nd3, hq3⟩
        rw [ul, List.take_length] at hps
        have ndp : (ps.map (·.1)).Nodup := by rw [hps]; exact hW.1
        have one : ∀ q ∈ ps, ∀ q' ∈ ps, q'.2 = q.2 → q' = q := by
          intro q hq q' hq' e
          obtain ⟨j, hj, rfl⟩ := List.getElem_of_mem hq
          obtain ⟨j', hj', rfl⟩ := List.getElem_of_mem hq'
          have z : (ps.map (·.2))[j']'(by rw [List.length_map]; exact hj') = (ps.map (·.2))[j]'(by rw [List.length_map]; exact hj) := by
            rw [List.getElem_map, List.getElem_map]
            exact e
          have := (List.getElem_inj nd3).mp z
          subst this
          rfl
        have one1 : ∀ q ∈ ps, ∀ q' ∈ ps, q'.1 = q.1 → q' = q := by
          intro q hq q' hq' e
          obtain ⟨j, hj, rfl⟩ := List.getElem_of_mem hq
          obtain ⟨j', hj', rfl⟩ := List.getElem_of_mem hq'
          have z : (ps.map (·.1))[j']'(by rw [List.length_map]; exact hj') = (ps.map (·.1))[j]'(by rw [List.length_map]; exact hj) := by
            rw [List.getElem_map, List.getElem_map]
            exact e
          have := (List.getElem_inj ndp).mp z
          subst this
          rfl
        have gl : gs.length = b.gaps.length := Paired.len hb3
        refine ⟨.ref ab, rfl, ab, _, 1, .ref cg, rfl, rfl, Evl.ex_t (e12.trans e3) hb1, atI_nat (j := 1) rfl, cg, rfl, ⟨gs, Evl.ex_t (e12.trans e3) hb2⟩, ?_⟩
        refine for_tup (K := K) (a := cg) (xs := gs) (fun j σ H' => ∃ (y5 y6 y7 y8 y9 y10 : Option V), σ = [some (.ref a), some (.ref r0), some (.ref r), some (.ref ab), some (.ref D), y5, y6, y7, y8, y9, y10] ∧ Evl.Ex H2 H' ∧ H' D = some (.dT (kps ps)) ∧
            ∀ q ∈ ps, ∃ us, H' q.2 = some (.lst us) ∧ Paired (TrAt H') us (movesL (b.gaps.take j) q.1)) ⟨_, _, _, _, _, _, rfl, e3, hd3, fun q hq => ⟨[], (hq3 q hq).2.2, .nil⟩⟩ ?_ ?_ ?_
        · rintro j σ H' _ ⟨_, _, _, _, _, _, _, e4, _⟩
          exact Evl.ex_t (e12.trans e4) hb2
        · rintro j x σ H4 hj ⟨z5, z6, z7, z8, z9, z10, rfl, e4, hd4, hq4⟩
          obtain ⟨g, hgj, ⟨ag, bg, wv, rfl, hg1, hg2, hg3⟩⟩ := Paired.get1 hb3 hj
          have hgm : g ∈ b.gaps := List.mem_of_getElem? hgj
          have gok := bok.gaps g hgm
          have wl : wv.length = g.ways.length := Paired.len hg3
          have nodupW : g.ways.Nodup := by
            refine List.Pairwise.imp ?_ gok.rise
            intro u w' h e
            subst e
            have irr : ∀ u : List Int, HT.lexLt u u = false := by
              intro u
              induction u with
              | nil => rfl
              | cons x u ih => rw [HT.lexLt_cons, if_pos rfl]; exact ih
            rw [irr] at h
            cases h
          have few1 : ∀ (gs : List Gap) (w' : Word), (movesL gs w').length ≤ (gs.map (fun g => g.ways.length)).sum := by
            intro gs w'
            unfold movesL
            rw [List.length_map]
            induction gs with
            | nil => simp
            | cons g gs ih =>
              rw [List.filter_cons, List.map_cons, List.sum_cons]
              split
              · rename_i hm
                have : 1 ≤ g.ways.length := List.length_pos_of_mem (of_decide_eq_true hm)
                rw [List.length_cons]
                omega
              · omega
          have few2 : ∀ w', (movesL (b.gaps.take j) w').length ≤ 8 := by
            intro w'
            have h1 := few1 (b.gaps.take j) w'
            have h2 := bok.few
            have h3 : (b.gaps.map (fun g => g.ways.length)).sum = ((b.gaps.take j).map (fun g => g.ways.length)).sum + ((b.gaps.drop j).map (fun g => g.ways.length)).sum := by
              rw [← List.sum_append, ← List.map_append, List.take_append_drop]
            omega
          have e14 := e12.trans e4
          refine ⟨ag, _, rfl, Evl.ex_t e14 hg1, rfl, _, _, rfl, _, _, rfl, _, _, rfl, _, _, rfl, rfl, ?_⟩
          refine ⟨.ref bg, rfl, bg, rfl, ⟨wv, Evl.ex_t e14 hg2⟩, ?_⟩
          refine for_tup (K := K) (a := bg) (xs := wv) (fun m σ H' => ∃ (y9 y10 : Option V), σ = [some (.ref a), some (.ref r0), some (.ref r), some (.ref ab), some (.ref D), some (.int g.frm), some (.int g.to_), some (.int g.price), some (.ref bg), y9, y10] ∧ Evl.Ex H2 H' ∧ H' D = some (.dT (kps ps)) ∧
              ∀ q ∈ ps, ∃ us, H' q.2 = some (.lst us) ∧ Paired (TrAt H') us (movesL (b.gaps.take j) q.1 ++ if q.1 ∈ g.ways.take m then [trOf g] else [])) ⟨_, _, rfl, e4, hd4, fun q hq => ?_⟩ ?_ ?_ ?_
          · obtain ⟨us, h1, h2⟩ := hq4 q hq
            exact ⟨us, h1, by simpa using h2⟩
          · rintro m σ H' _ ⟨_, _, _, e5, _⟩
            exact Evl.ex_t (e12.trans e5) hg2
          · rintro m x σ H5 hm ⟨z9, z10, rfl, e5, hd5, hq5⟩
            obtain ⟨t, ht, ⟨ax, rfl, hax⟩⟩ := Paired.get1 hg3 hm
            have htw : t ∈ ws := (hW.2 t).mpr ((cuts_step ok hb t).mpr (.inr ⟨g, hgm, List.mem_of_getElem? ht⟩))
            rw [← hps] at htw
            obtain ⟨q, hq, rfl⟩ := List.mem_map.mp htw
            obtain ⟨uq, h1, h2⟩ := hq5 q hq
            have e15 := e12.trans e5
            have tnot : q.1 ∉ g.ways.take m := by
              intro hmem
              obtain ⟨k, hk, ek⟩ := List.getElem_of_mem hmem
              rw [List.length_take] at hk
              rw [List.getElem_take] at ek
              obtain ⟨l1, q1⟩ := List.getElem?_eq_some_iff.mp ht
              have := (List.getElem_inj nodupW).mp (ek.trans q1.symm)
              omega
            rw [if_neg tnot, List.append_nil] at h2
            have ulen : uq.length = (movesL (b.gaps.take j) q.1).length := Paired.len h2
            refine ⟨.ref D, rfl, .ref ax, rfl, D, .ref q.2, rfl, ?_, .inl ⟨rfl, _, SqL.of h1⟩, .int g.frm, rfl, .int g.to_, rfl, .int g.price, rfl, (by show 3 ≤ sizeLine; decide), fun p np => ?_⟩
            · rw [← valV_kps ndp hq]
              exact DGet.t hd5 (by rw [keyW_kV]; exact e15 _ _ hax)
            · have e6 := Evl.Ex.new (o := .tup [.int g.frm, .int g.to_, .int g.price]) np
              have nqp : q.2 ≠ p := fun z => by rw [← z, h1] at np; cases np
              have nDq : D ≠ q.2 := fun z => (hq3 q hq).2.1 z.symm
              refine ⟨q.2, uq, _, rfl, rfl, e6 _ _ h1, ?_, _, _, rfl, (e5.trans e6).mut (hq3 q hq).1, ?_, ?_⟩
              · have := few2 q.1
                exact Nat.lt_of_le_of_lt (by omega : uq.length ≤ 8) (by decide)
              · rw [upd_ne nDq]
                exact e6 _ _ hd5
              · intro q' hq'
                have tr : ∀ {v : V} {t3 : Tr3}, TrAt H5 v t3 → TrAt (upd (upd H5 p (.tup [.int g.frm, .int g.to_, .int g.price])) q.2 (.lst (uq ++ [.ref p]))) v t3 := by
                  rintro v t3 ⟨c, rfl, hc⟩
                  exact ⟨c, rfl, by rw [upd_ne (ne_of hc h1 (fun z => nomatch z))]; exact e6 _ _ hc⟩
                by_cases eq : q'.2 = q.2
                · have := one q hq q' hq' eq
                  subst this
                  refine ⟨uq ++ [.ref p], upd_same, ?_⟩
                  rw [take_succ_get ht, if_pos (by simp)]
                  refine paired_app1 (Paired.imp (fun _ _ => tr) h2) ⟨p, rfl, ?_⟩
                  rw [upd_ne nqp.symm, upd_same]
                  rfl
                · obtain ⟨u', h3, h4⟩ := hq5 q' hq'
                  refine ⟨u', by rw [upd_ne eq]; exact e6 _ _ h3, ?_⟩
                  have ne1 : q'.1 ≠ q.1 := fun z => eq (by rw [one1 q hq q' hq' z])
                  have mm : (q'.1 ∈ g.ways.take (m + 1)) ↔ (q'.1 ∈ g.ways.take m) := by
                    rw [take_succ_get ht]
                    simp [ne1]
                  have h5 := Paired.imp (fun _ _ => tr) h4
                  by_cases hh : q'.1 ∈ g.ways.take m
                  · rw [if_pos hh] at h5
                    rw [if_pos (mm.mpr hh)]
                    exact h5
                  · rw [if_neg hh] at h5
                    rw [if_neg (fun z => hh (mm.mp z))]
                    exact h5
          · rintro σ H5 ⟨z9, z10, rfl, e5, hd5, hq5⟩
            refine ⟨_, _, _, _, _, _, rfl, e5, hd5, fun q hq => ?_⟩
            obtain ⟨uq, h1, h2⟩ := hq5 q hq
            refine ⟨uq, h1, ?_⟩
            rw [wl, List.take_length] at h2
            have z : movesL (b.gaps.take (j + 1)) q.1 = movesL (b.gaps.take j) q.1 ++ if q.1 ∈ g.ways then [trOf g] else [] := by
              unfold movesL
              rw [take_succ_get hgj, List.filter_append, List.map_append]
              congr 1
              by_cases hh : q.1 ∈ g.ways
              · rw [if_pos hh, List.filter_cons, if_pos (decide_eq_true hh)]
                rfl
              · rw [if_neg hh, List.filter_cons, if_neg (by rw [decide_eq_false hh]; exact Bool.false_ne_true)]
                rfl
            rw [z]
            exact h2
        · rintro σ H4 ⟨z5, z6, z7, z8, z9, z10, rfl, e4, hd4, hq4⟩
          rw [gl, List.take_length] at hq4
          have hR4 : H4 r0 = some (.lst (ds.map V.ref)) := e4 _ _ hR2
          have mv : MvAt H H4 r0 D b.gaps ws := ⟨ps, hps, hd4, fun q hq => ⟨⟨(fun z => by have h0 := (hq3 q hq).1; rw [z, hR2] at h0; cases h0), Evl.fresh_back e12 (hq3 q hq).1⟩, hq4 q hq⟩⟩
          refine ⟨.ref r0, rfl, .inl ⟨rfl, _, SqL.of hR4⟩, .ref D, rfl, r0, _, _, rfl, rfl, hR4, ?_, ?_⟩
          · rw [List.length_map, dl]
            exact Nat.lt_of_lt_of_le (show i < 61 by omega) (by decide)
          · refine ⟨ds ++ [D], _, _, _, _, _, _, _, _, _, rfl, (e12.trans e4).mut nr0, ?_, by rw [upd_same, List.map_append]; rfl, by simp [dl], ?_⟩
            · intro b' o nb h0
              rw [upd_ne nb]
              exact e4 _ _ (e2 _ _ (k0 b' o nb h0))
            · intro k d b' hk hb'
              by_cases hkl : k < ds.length
              · rw [List.getElem?_append_left hkl] at hk
                obtain ⟨ws', h1, h2⟩ := hds k d b' hk hb'
                exact ⟨ws', h1, (h2.ex (e2.trans e4)).put hR4⟩
              · rw [List.getElem?_append_right (by omega)] at hk
                have : k = ds.length := by
                  by_cases e : k - ds.length = 0
                  · omega
                  · rw [List.getElem?_eq_none (by simp; omega)] at hk; cases hk
                subst this
                rw [Nat.sub_self] at hk
                have er : d = D := (Option.some.inj hk).symm
                subst er
                rw [dl, hb] at hb'
                cases hb'
                rw [dl]
                exact ⟨ws, hW, mv.put hR4⟩
    · rintro σ H1 ⟨ds, y2, y3, y4, y5, y6, y7, y8, y9, y10, rfl, e1, k0, hR, dl, hds⟩
      refine ⟨.ref r0, rfl, q H1 r0 ds e1 nr0 hR ?_ hds⟩
      rw [dl, List.length_map, rl]
end
end Wb

set_option Elab.async false
set_option linter.all false
set_option maxRecDepth 100000
set_option maxHeartbeats 4000000
set_option pp.maxSteps 600
set_option pp.deepTerms false
namespace Wb
open PySem PySem.Spec PyProof.Rows L2
abbrev sFault : Stmt := topS 25
abbrev sManys : Stmt := topS 29
abbrev sNeedL : Stmt := topS 30
abbrev sNeedS : Stmt := topS 31
theorem scFault : FnScope ["thing", "manys", "k", "bolt", "words"] ["thing"] (defScope sFault) := ⟨rfl, rfl, rfl, by decide +kernel, rfl, by decide +kernel, by decide +kernel⟩
theorem scManys : FnScope ["lock", "bolt"] ["lock"] (defScope sManys) := ⟨rfl, rfl, rfl, by decide +kernel, rfl, by decide +kernel, by decide +kernel⟩
theorem scNeedL : FnScope ["lock", "fault"] ["lock"] (defScope sNeedL) := ⟨rfl, rfl, rfl, by decide +kernel, rfl, by decide +kernel, by decide +kernel⟩
theorem scNeedS : FnScope ["lock", "thing"] ["lock", "thing"] (defScope sNeedS) := ⟨rfl, rfl, rfl, by decide +kernel, rfl, by decide +kernel, by decide +kernel⟩

/-- all defs of the checks, as they stand -/
structure Pr (K : PySem.W.Frag) (mg : Str → Option Value) where
  f1 : Addr
  d1 : FuncData
  F1 : Fun K "is_whole" "is_whole" sWhole f1 d1
  b1 : Binds K d1 ["thing"] []
  g1 : mg "is_whole" = some (.ref f1)
  f2 : Addr
  d2 : FuncData
  F2 : Fun K "is_whole_in" "is_whole_in" sWholeIn f2 d2
  b2 : Binds K d2 ["thing", "low", "high"] []
  g2 : mg "is_whole_in" = some (.ref f2)
  f3 : Addr
  d3 : FuncData
  F3 : Fun K "is_tuple_of" "is_tuple_of" sTupOf f3 d3
  b3 : Binds K d3 ["thing", "low", "high"] []
  g3 : mg "is_tuple_of" = some (.ref f3)
  f4 : Addr
  d4 : FuncData
  F4 : Fun K "are_places" "are_places" sPlaces f4 d4
  b4 : Binds K d4 ["thing", "manys"] []
  g4 : mg "are_places" = some (.ref f4)
  f10 : Addr
  d10 : FuncData
  F10 : Fun K "words_of" "words_of" sWords f10 d10
  b10 : Binds K d10 ["lock"] []
  g10 : mg "words_of" = some (.ref f10)
  f11 : Addr
  d11 : FuncData
  F11 : Fun K "moves_by_word" "moves_by_word" sMoves f11 d11
  b11 : Binds K d11 ["lock"] []
  g11 : mg "moves_by_word" = some (.ref f11)
  f19 : Addr
  d19 : FuncData
  F19 : Fun K "fault_of" "fault_of" sFault f19 d19
  b19 : Binds K d19 ["thing"] []
  g19 : mg "fault_of" = some (.ref f19)
  f20 : Addr
  d20 : FuncData
  F20 : Fun K "is_bolt" "is_bolt" sBolt f20 d20
  b20 : Binds K d20 ["thing", "below"] []
  g20 : mg "is_bolt" = some (.ref f20)
  f21 : Addr
  d21 : FuncData
  F21 : Fun K "is_gap" "is_gap" sGap f21 d21
  b21 : Binds K d21 ["thing", "many", "below"] []
  g21 : mg "is_gap" = some (.ref f21)
  f22 : Addr
  d22 : FuncData
  F22 : Fun K "are_ways" "are_ways" sWays f22 d22
  b22 : Binds K d22 ["thing", "below"] []
  g22 : mg "are_ways" = some (.ref f22)
  f23 : Addr
  d23 : FuncData
  F23 : Fun K "manys_of" "manys_of" sManys f23 d23
  b23 : Binds K d23 ["lock"] []
  g23 : mg "manys_of" = some (.ref f23)
  f24 : Addr
  d24 : FuncData
  F24 : Fun K "need_lock" "need_lock" sNeedL f24 d24
  b24 : Binds K d24 ["lock"] []
  g24 : mg "need_lock" = some (.ref f24)
  f25 : Addr
  d25 : FuncData
  F25 : Fun K "need_stand" "need_stand" sNeedS f25 d25
  b25 : Binds K d25 ["lock", "thing"] []
  g25 : mg "need_stand" = some (.ref f25)
  B : Bi mg
  N : Nu mg

def spFault (K : PySem.W.Frag) : Sp := fun vs H Q _ => ∃ (v : V) (l : Lock), vs = [v] ∧ LockAt K H v l ∧ LockOk l ∧ ∀ H', Evl.Ex H H' → Q .non H'
def spManys (K : PySem.W.Frag) : Sp := fun vs H Q _ => ∃ (v : V) (l : Lock), vs = [v] ∧ LockAt K H v l ∧ l.length ≤ 60 ∧ ∀ H' p, Evl.Ex H H' → H p = none → H' p = some (.lst ((manysOf l).map V.int)) → Q (.ref p) H'
def spNeedS (K : PySem.W.Frag) : Sp := fun vs H Q _ => ∃ (v u : V) (l : Lock) (st : Word), vs = [v, u] ∧ LockAt K H v l ∧ LockOk l ∧ Wd K H u st ∧ InAll st (manysOf l) ∧ ∀ H', Evl.Ex H H' → Q .non H'
section
variable {P : Program} {w : World} {K : PySem.W.Frag} {mg : Str → Option Value} {base : Heap}
theorem manysOf_take (l : Lock) (i : Nat) : manysOf (l.take i) = (manysOf l).take i := by
  unfold manysOf
  rw [List.map_take]
theorem ok_fault (D : Pr K mg) : FnOk P w K mg base CX0 6 D.f19 D.d19 ["thing"] (spFault K) := by
  have G3 : FnOk P w K mg base CX0 1 D.f3 D.d3 ["thing", "low", "high"] (spTupOf K) := ok_tupOf D.F3 D.B
  have G20 : FnOk P w K mg base CX0 5 D.f20 D.d20 ["thing", "below"] (spBolt K) := ok_bolt D.F20 D.F3 D.b3 D.g3 D.F4 D.b4 D.g4 D.F2 D.b2 D.g2 D.F22 D.b22 D.g22 D.F1 D.b1 D.g1 D.F21 D.b21 D.g21 D.B D.N
  have G10 : FnOk P w K mg base CX0 1 D.f10 D.d10 ["lock"] (spWords K) := ok_words D.F10 D.B
  obtain ⟨tb, eb⟩ := D.N.bolts
  obtain ⟨tw, ew⟩ := D.N.words
  refine D.F19.ok scFault (fun vs H Q E h => ?_) (fun cdv A outer s H vs Q E hr h => ?_)
  · obtain ⟨v, l, rfl, _⟩ := h; rfl
  · obtain ⟨v, l, rfl, ⟨a, bs, rfl, hx, hp⟩, ok, q⟩ := h
    have hr1 : Room 1 _ := hr.mono (by decide)
    refine ⟨_, pss_cons (ps_if (pt_not (pt_val (pe_call G3 hr1 (by rfl) D.g3 D.F3.kp D.b3 .nil pass0 (pa_cons (pv 0) (pa_cons pe_int (pa_cons (pe_glob (v := .int 60) (by rfl) eb ⟨_, rfl⟩) pa_nil)))))) pss_never pss_nil)
      (pss_cons (ps_set (i := 1) scFault.nd rfl (.inl rfl) (pe_lst pa_nil))
      (pss_cons (ps_for PassesOwn.never rfl (pi_enumT (by rfl) D.B.enum (pa_cons (pv 0) pa_nil)) (pg_tup rfl (pgs_cons (pg_name (i := 2) scFault.nd rfl (.inl rfl)) (pgs_cons (pg_name (i := 3) scFault.nd rfl (.inl rfl)) pgs_nil)))
        (pss_cons (ps_if (pt_not (pt_val (pe_call G20 hr (by rfl) D.g20 D.F20.kp D.b20 .nil pass0 (pa_cons (pv 3) (pa_cons (pv 1) pa_nil))))) pss_never pss_nil)
        (pss_one (ps_expr (pe_bm PySem.F.plainAttrs_list PySem.F.slot_list_append PySem.F.type_list_append mt_append (pv 1) (pa_cons (pe_ix ix_tup (pv 3) pe_int (fun _ _ => rfl)) pa_nil))))))
      (pss_cons (ps_for PassesOwn.never rfl (pi_enum (by rfl) D.B.enum (pa_cons (pe_call G10 hr1 (by rfl) D.g10 D.F10.kp D.b10 .nil pass0 (pa_cons (pv 0) pa_nil)) pa_nil)) (pg_tup rfl (pgs_cons (pg_name (i := 2) scFault.nd rfl (.inl rfl)) (pgs_cons (pg_name (i := 4) scFault.nd rfl (.inl rfl)) pgs_nil)))
        (pss_one (ps_if (pt_cmpR op_gt (pe_callB call_len_seq (by rfl) D.B.len PySem.boot_len (pa_cons (pv 4) pa_nil)) (pe_glob (v := .int 8) (by rfl) ew ⟨_, rfl⟩) (nomark _)) pss_never pss_nil)))
      (pss_one (ps_ret pe_non))))), ?_⟩
    have bl : bs.length = l.length := Paired.len hp
    have n0 := ok.n0
    have n60 := ok.n1
    refine ⟨.ref a, rfl, a, bs, 1, 60, rfl, hx, true, ?_, ?_⟩
    · have z1 : decide ((1 : Int) ≤ (bs.length : Int)) = true := decide_eq_true (by omega)
      have z2 : decide ((bs.length : Int) ≤ 60) = true := decide_eq_true (by omega)
      rw [z1, z2]
      rfl
    refine iteF ?_
    refine ⟨Nat.zero_le _, fun r0 nr0 => ?_⟩
    have x1 : Evl.Ex H (upd H r0 (.lst [])) := Evl.Ex.new nr0
    refine ⟨.ref a, rfl, a, bs, rfl, Evl.ex_t x1 hx, ?_⟩
    refine for_it (walk_et (xs := bs)) (fun i σ H' => ∃ (y2 y3 y4 : Option V), σ = [some (.ref a), some (.ref r0), y2, y3, y4] ∧ Evl.Ex H H' ∧ H' r0 = some (.lst (((manysOf l).take i).map V.int))) ⟨none, none, none, rfl, x1, upd_same⟩ ?_ ?_ ?_
    · rintro i σ H' _ ⟨_, _, _, _, e, _⟩
      exact Evl.ex_t e hx
    · rintro i v σ H1 H2 hi ⟨y2, y3, y4, rfl, e1, hR⟩ ⟨T, x, y, rfl, nT, rfl, ex, ey⟩
      cases ex
      have ey' : bs[i]? = some y := ey
      obtain ⟨b, hb, hba⟩ := Paired.get1 hp ey'
      have e2 := Evl.Ex.new (o := .tup [.int (i : Nat), y]) nT
      generalize hH2 : upd H1 T (.tup [.int (i : Nat), y]) = H2 at e2
      have hT2 : H2 T = some (.tup [.int (i : Nat), y]) := by rw [← hH2]; exact upd_same
      have e12 := e1.trans e2
      have hR2 := e2 _ _ hR
      have bok := ok.bolts i b hb
      refine ⟨T, _, rfl, .inl (.inl hT2), rfl, _, _, rfl, _, _, rfl, rfl, ?_⟩
      refine ⟨y, rfl, .ref r0, rfl, y, r0, b, manysOf (l.take i), rfl, hba.mono (TX.ex e12), ?_, bok, fun H3 e3 => ?_⟩
      · rw [manysOf_take]
        exact .inl (.inl hR2)
      refine ⟨true, rfl, iteF ?_⟩
      obtain ⟨ab, cg, gs, rfl, hb1, hb2, hb3⟩ := hba
      have hR3 := e3 _ _ hR2
      refine ⟨.ref r0, rfl, .inl ⟨rfl, _, SqL.of hR3⟩, .ref ab, rfl, ab, _, 0, .int b.many, rfl, rfl, Evl.ex_t (e12.trans e3) hb1, atI_nat (j := 0) rfl, r0, _, _, rfl, rfl, hR3, ?_, ?_⟩
      · rw [List.length_map, List.length_take]
        have : i < 61 := by rw [bl] at hi; omega
        exact Nat.lt_of_le_of_lt (Nat.min_le_left _ _) (Nat.lt_of_lt_of_le this (by decide))
      · have mm : (manysOf l)[i]? = some b.many := by
          unfold manysOf
          rw [List.getElem?_map, hb]
          rfl
        refine ⟨_, _, _, rfl, (e12.trans e3).mut nr0, ?_⟩
        rw [upd_same, take_succ_get mm, List.map_append]
        rfl
    · rintro σ H1 ⟨y2, y3, y4, rfl, e1, hR⟩
      refine ⟨.ref a, rfl, .ref a, l, rfl, ⟨a, bs, rfl, Evl.ex_t e1 hx, Paired.imp (fun _ _ => BoltAt.mono (TX.ex e1)) hp⟩, ok, fun H2 pw rs e2 npw hpw rl hrs => ?_⟩
      refine ⟨pw, rs.map V.ref, rfl, .inl (.inl hpw), ?_⟩
      refine for_it (walk_enum (xs := rs.map V.ref)) (fun i σ H' => ∃ (y2 y3 y4 : Option V), σ = [some (.ref a), some (.ref r0), y2, y3, y4] ∧ Evl.Ex H2 H') ⟨_, _, _, rfl, Evl.Ex.refl _⟩ ?_ ?_ ?_
      · rintro i σ H' _ ⟨_, _, _, _, e⟩
        exact .inl (.inl (e _ _ hpw))
      · rintro i v σ H3 H4 hi ⟨z2, z3, z4, rfl, e3⟩ ⟨T, x, y, rfl, nT, rfl, ex, ey⟩
        cases ex
        rw [List.length_map, rl] at hi
        obtain ⟨r, hr1', rfl⟩ : ∃ r, rs[i]? = some r ∧ y = .ref r := by
          have ey' : (rs.map V.ref)[i]? = some y := ey
          rw [List.getElem?_map] at ey'
          cases e : rs[i]? with
          | none => rw [e] at ey'; cases ey'
          | some r => rw [e] at ey'; exact ⟨r, rfl, (Option.some.inj ey').symm⟩
        obtain ⟨_, ws, ⟨us, hus, hup⟩, hW⟩ := hrs i r hr1'
        have w8 : ws.length ≤ 8 := ok.words i ws hi hW.1 (fun u hu' => (hW.2 u).mp hu')
        have ul : us.length = ws.length := Paired.len hup
        have e4 := Evl.Ex.new (o := .tup [.int (i : Nat), .ref r]) nT
        refine ⟨T, _, rfl, .inl (.inl upd_same), rfl, _, _, rfl, _, _, rfl, rfl, ?_⟩
        refine ⟨.ref r, rfl, r, us, rfl, .inl (.inl (.inl ((e3.trans e4) _ _ hus))), _, 8, rfl, rfl, false, ?_, ?_⟩
        · have z : decide ((8 : Int) < (us.length : Int)) = false := decide_eq_false (by omega)
          show V.bl (decide ((8 : Int) < (us.length : Int))) = V.bl false
          rw [z]
        · exact iteF ⟨_, _, _, rfl, e3.trans e4⟩
      · rintro σ H3 ⟨z2, z3, z4, rfl, e3⟩
        exact q H3 ((e1.trans e2).trans e3)
theorem ok_needL (D : Pr K mg) : FnOk P w K mg base CX0 7 D.f24 D.d24 ["lock"] (spFault K) := by
  have G19 : FnOk P w K mg base CX0 6 D.f19 D.d19 ["thing"] (spFault K) := ok_fault D
  refine D.F24.ok scNeedL (fun vs H Q E h => ?_) (fun cdv A outer s H vs Q E hr h => ?_)
  · obtain ⟨v, l, rfl, _⟩ := h; rfl
  · obtain ⟨v, l, rfl, hv, ok, q⟩ := h
    refine ⟨_, pss_cons (ps_set (i := 1) scNeedL.nd rfl (.inl rfl) (pe_call G19 hr (by rfl) D.g19 D.F19.kp D.b19 .nil pass0 (pa_cons (pv 0) pa_nil)))
      (pss_one (ps_if (pt_cmpR op_notN (pv 1) pe_non (nomark _)) pss_never pss_nil)), ?_⟩
    refine ⟨v, rfl, v, l, rfl, hv, ok, fun H' e => ?_⟩
    refine ⟨.non, rfl, rfl, false, rfl, iteF ?_⟩
    exact q H' e
theorem ok_manys (D : Pr K mg) : FnOk P w K mg base CX0 1 D.f23 D.d23 ["lock"] (spManys K) := by
  refine D.F23.ok scManys (fun vs H Q E h => ?_) (fun cdv A outer s H vs Q E hr h => ?_)
  · obtain ⟨v, l, rfl, _⟩ := h; rfl
  · obtain ⟨v, l, rfl, ⟨a, bs, rfl, hx, hp⟩, n60, q⟩ := h
    refine ⟨_, pss_one (ps_ret (pe_lc (own := [("bolt", 1)]) (g := gName 1) rfl scManys.nd (pi_tup (pv 0)) (blkOk_by (own := [("bolt", 1)]) (N := ["lock", "bolt"]) (sc := defScope sManys) (by decide +kernel))
      (fun _ _ _ _ _ => pg_name (i := 1) scManys.nd rfl (Or.inl rfl)) (fun _ _ _ _ _ => pts_nil) (fun _ _ _ _ _ => pe_ix (r := rIxT K) ix_tup (pv 1) pe_int (fun _ _ => rfl)))), ?_⟩
    have bl : bs.length = l.length := Paired.len hp
    refine ⟨.ref a, rfl, a, rfl, ⟨_, hx⟩, fun D hD => lc_tup (K := K) (a := a) (xs := bs) (fun i H' => Evl.Ex H H' ∧ H' D = some (.lst (((manysOf l).take i).map V.int))) ⟨Evl.Ex.new hD, upd_same⟩ ?_ ?_ ?_⟩
    · rintro i H' _ ⟨e, _⟩
      exact Evl.ex_t e hx
    · rintro i x H' hi ⟨e, hd⟩
      obtain ⟨b, hb, ⟨ab, cg, gs, rfl, hb1, _⟩⟩ := Paired.get1 hp hi
      have li : i < 61 := by
        have := (List.getElem?_eq_some_iff.mp hi).1
        omega
      have mm : (manysOf l)[i]? = some b.many := by
        unfold manysOf
        rw [List.getElem?_map, hb]
        rfl
      refine ⟨rfl, .ref ab, rfl, ab, _, 0, .int b.many, rfl, rfl, Evl.ex_t e hb1, atI_nat (j := 0) rfl, _, hd, ?_, e.mut hD, ?_⟩
      · rw [List.length_map, List.length_take]
        exact Nat.lt_of_le_of_lt (Nat.min_le_left _ _) (Nat.lt_of_lt_of_le li (by decide))
      · rw [upd_same, take_succ_get mm, List.map_append]
        rfl
    · rintro H1 ⟨e, hd⟩
      refine q H1 D e hD ?_
      rw [hd, List.take_of_length_le]
      unfold manysOf
      rw [List.length_map, bl]
      exact Nat.le_refl _
theorem ok_needS (D : Pr K mg) : FnOk P w K mg base CX0 3 D.f25 D.d25 ["lock", "thing"] (spNeedS K) := by
  have G23 : FnOk P w K mg base CX0 1 D.f23 D.d23 ["lock"] (spManys K) := ok_manys D
  have G4 : FnOk P w K mg base CX0 2 D.f4 D.d4 ["thing", "manys"] (spPlaces K) := ok_places D.F4 D.F3 D.b3 D.g3 D.B
  refine D.F25.ok scNeedS (fun vs H Q E h => ?_) (fun cdv A outer s H vs Q E hr h => ?_)
  · obtain ⟨v, u, l, st, rfl, _⟩ := h; rfl
  · obtain ⟨v, u, l, st, rfl, hv, ok, ⟨a, rfl, ha⟩, hin, q⟩ := h
    have hr1 : Room 1 _ := hr.mono (by decide)
    refine ⟨_, pss_one (ps_if (pt_not (pt_val (pe_call G4 hr (by rfl) D.g4 D.F4.kp D.b4 .nil pass0 (pa_cons (pv 1) (pa_cons (pe_call G23 hr1 (by rfl) D.g23 D.F23.kp D.b23 .nil pass0 (pa_cons (pv 0) pa_nil)) pa_nil))))) pss_never pss_nil), ?_⟩
    refine ⟨.ref a, rfl, v, rfl, v, l, rfl, hv, ok.n1, fun H1 p e1 np hp => ?_⟩
    refine ⟨a, p, true, st, manysOf l, rfl, .inl (.inl (e1 _ _ ha)), Or.inl (Or.inl hp), hin, fun H2 e2 => ?_⟩
    refine ⟨true, rfl, iteF ?_⟩
    exact q H2 (e1.trans e2)
end
end Wb

set_option Elab.async false
set_option linter.all false
set_option maxRecDepth 100000
set_option maxHeartbeats 4000000
set_option pp.maxSteps 900
set_option pp.deepTerms false
namespace Wb
open PySem PySem.Spec PyProof.Rows L2
/-! ### what can be come to, as data -/
/-- one step: bolt k goes along a gap with a way at which those below stand -/
def Stp (l : Lock) (u v : Word) : Prop := ∃ (k : Nat) (b : Bolt) (g : Gap), l[k]? = some b ∧ g ∈ b.gaps ∧ u[k]? = some g.frm ∧ u.take k ∈ g.ways ∧ v = u.set k g.to_
inductive Rch (l : Lock) : Word → Word → Prop
  | refl (u : Word) : Rch l u u
  | step {u v w : Word} : Rch l u v → Stp l v w → Rch l u w
def TwoWay (l : Lock) : Prop := ∀ b ∈ l, ∀ g ∈ b.gaps, ∃ h ∈ b.gaps, h.frm = g.to_ ∧ h.to_ = g.frm ∧ h.ways = g.ways
theorem Rch.trans {l : Lock} {u v w : Word} (a : Rch l u v) (b : Rch l v w) : Rch l u w := by
  induction b with
  | refl => exact a
  | step _ s ih => exact ih.step s
theorem Rch.one {l : Lock} {u v : Word} (s : Stp l u v) : Rch l u v := (Rch.refl u).step s
theorem set_self {u : Word} {k : Nat} {x : Int} (h : u[k]? = some x) (y : Int) : (u.set k y).set k x = u := by
  rw [List.set_set]
  obtain ⟨lt, e⟩ := List.getElem?_eq_some_iff.mp h
  rw [← e, List.set_getElem_self]
theorem stp_back {l : Lock} (t : TwoWay l) {u v : Word} (s : Stp l u v) : Stp l v u := by
  obtain ⟨k, b, g, hb, hg, hu, hw, rfl⟩ := s
  obtain ⟨h, hh, h1, h2, h3⟩ := t b (List.mem_of_getElem? hb) g hg
  have lt := (List.getElem?_eq_some_iff.mp hu).1
  refine ⟨k, b, h, hb, hh, ?_, ?_, ?_⟩
  · rw [h1, List.getElem?_set_self lt]
  · rw [h3, List.take_set_of_le (Nat.le_refl k)]
    exact hw
  · rw [h2, set_self hu]
theorem rch_back {l : Lock} (t : TwoWay l) {u v : Word} (h : Rch l u v) : Rch l v u := by
  induction h with
  | refl => exact .refl _
  | step _ s ih => exact (Rch.one (stp_back t s)).trans ih
theorem stp_len {l : Lock} {u v : Word} (s : Stp l u v) : v.length = u.length := by
  obtain ⟨k, b, g, _, _, _, _, rfl⟩ := s
  exact List.length_set
theorem rch_len {l : Lock} {u v : Word} (h : Rch l u v) : v.length = u.length := by
  induction h with
  | refl => rfl
  | step _ s ih => exact (stp_len s).trans ih
/-! a bolt's own going, those below at some words -/
inductive BRc (gs : List Gap) (N : Word → Prop) : Int → Int → Prop
  | refl (p : Int) : BRc gs N p p
  | step {p q : Int} (g : Gap) (w : Word) : BRc gs N p q → g ∈ gs → g.frm = q → w ∈ g.ways → N w → BRc gs N p g.to_
theorem BRc.mono {gs : List Gap} {N M : Word → Prop} (h : ∀ g ∈ gs, ∀ w ∈ g.ways, N w → M w) {p q : Int} (r : BRc gs N p q) : BRc gs M p q := by
  induction r with
  | refl => exact .refl _
  | step g w _ hg e hw n ih => exact ih.step g w hg e hw (h g hg w hw n)
theorem BRc.trans {gs : List Gap} {N : Word → Prop} {p q r : Int} (a : BRc gs N p q) (b : BRc gs N q r) : BRc gs N p r := by
  induction b with
  | refl => exact a
  | step g w _ hg e hw n ih => exact ih.step g w hg e hw n
theorem brc_back {gs : List Gap} {N : Word → Prop} (t : ∀ g ∈ gs, ∃ h ∈ gs, h.frm = g.to_ ∧ h.to_ = g.frm ∧ h.ways = g.ways) {p q : Int} (r : BRc gs N p q) : BRc gs N q p := by
  induction r with
  | refl => exact .refl _
  | step g w _ hg e hw n ih =>
    obtain ⟨h, hh, h1, h2, h3⟩ := t g hg
    have z : BRc gs N g.to_ h.to_ := (BRc.refl g.to_).step h w hh h1 (by rw [h3]; exact hw) n
    rw [h2, e] at z
    exact z.trans ih
theorem stp_snoc {l : Lock} {b : Bolt} {u x : Word} {p : Int} (hu : u.length = l.length) (s : Stp (l ++ [b]) (u ++ [p]) x) :
    (∃ v, Stp l u v ∧ x = v ++ [p]) ∨ ∃ g ∈ b.gaps, g.frm = p ∧ u ∈ g.ways ∧ x = u ++ [g.to_] := by
  obtain ⟨k, c, g, hc, hg, he, hw, rfl⟩ := s
  by_cases lt : k < l.length
  · rw [List.getElem?_append_left lt] at hc
    rw [List.getElem?_append_left (by omega)] at he
    rw [List.take_append_of_le_length (by omega)] at hw
    exact .inl ⟨_, ⟨k, c, g, hc, hg, he, hw, rfl⟩, by rw [List.set_append_left _ _ (by omega)]⟩
  · have kl : k = l.length := by
      have := (List.getElem?_eq_some_iff.mp hc).1
      rw [List.length_append, List.length_singleton] at this
      omega
    subst kl
    rw [List.getElem?_append_right (Nat.le_refl _), Nat.sub_self] at hc
    cases hc
    rw [← hu] at he hw ⊢
    rw [List.getElem?_append_right (Nat.le_refl _), Nat.sub_self] at he
    rw [List.take_left] at hw
    have e : g.frm = p := (Option.some.inj he).symm
    refine .inr ⟨g, hg, e, hw, ?_⟩
    rw [List.set_append_right _ _ (Nat.le_refl _), Nat.sub_self]
    rfl
theorem stp_low {l : Lock} {b : Bolt} {u v : Word} {p : Int} (hu : u.length = l.length) (s : Stp l u v) : Stp (l ++ [b]) (u ++ [p]) (v ++ [p]) := by
  obtain ⟨k, c, g, hc, hg, he, hw, rfl⟩ := s
  have lt := (List.getElem?_eq_some_iff.mp hc).1
  exact ⟨k, c, g, by rw [List.getElem?_append_left lt]; exact hc, hg, by rw [List.getElem?_append_left (by omega)]; exact he, by rw [List.take_append_of_le_length (by omega)]; exact hw, by rw [List.set_append_left _ _ (by omega)]⟩
theorem rch_low {l : Lock} {b : Bolt} {u v : Word} {p : Int} (hu : u.length = l.length) (h : Rch l u v) : Rch (l ++ [b]) (u ++ [p]) (v ++ [p]) := by
  induction h with
  | refl => exact .refl _
  | step r s ih => exact ih.step (stp_low ((rch_len r).trans hu) s)
theorem stp_high {l : Lock} {b : Bolt} {u : Word} {g : Gap} (hu : u.length = l.length) (hg : g ∈ b.gaps) (hw : u ∈ g.ways) : Stp (l ++ [b]) (u ++ [g.frm]) (u ++ [g.to_]) := by
  refine ⟨l.length, b, g, ?_, hg, ?_, ?_, ?_⟩
  · rw [List.getElem?_append_right (Nat.le_refl _), Nat.sub_self]
    rfl
  · rw [← hu, List.getElem?_append_right (Nat.le_refl _), Nat.sub_self]
    rfl
  · rw [← hu, List.take_left]
    exact hw
  · rw [← hu, List.set_append_right _ _ (Nat.le_refl _), Nat.sub_self]
    rfl
theorem rch_snoc {l : Lock} {b : Bolt} {u : Word} {p : Int} (t : TwoWay l) (hu : u.length = l.length) {x : Word} :
    Rch (l ++ [b]) (u ++ [p]) x ↔ ∃ v q, x = v ++ [q] ∧ Rch l u v ∧ BRc b.gaps (Rch l u) p q := by
  constructor
  · intro h
    generalize hz : u ++ [p] = z at h
    induction h with
    | refl => exact ⟨u, p, hz.symm, .refl _, .refl _⟩
    | step r s ih =>
      obtain ⟨v, q, rfl, h1, h2⟩ := ih
      rcases stp_snoc ((rch_len h1).trans hu) s with ⟨v', s', rfl⟩ | ⟨g, hg, rfl, hw, rfl⟩
      · exact ⟨v', q, rfl, h1.step s', h2⟩
      · exact ⟨v, g.to_, rfl, h1, h2.step g v hg rfl hw h1⟩
  · rintro ⟨v, q, rfl, h1, h2⟩
    have top : Rch (l ++ [b]) (u ++ [p]) (u ++ [q]) := by
      clear h1
      induction h2 with
      | refl => exact .refl _
      | step g w _ hg e hw n ih =>
        subst e
        have wl : w.length = l.length := (rch_len n).trans hu
        have a1 : Rch (l ++ [b]) (u ++ [g.frm]) (w ++ [g.frm]) := rch_low hu n
        have a2 : Rch (l ++ [b]) (w ++ [g.frm]) (w ++ [g.to_]) := Rch.one (stp_high wl hg hw)
        have a3 : Rch (l ++ [b]) (w ++ [g.to_]) (u ++ [g.to_]) := rch_low wl (rch_back t n)
        exact ((ih.trans a1).trans a2).trans a3
    exact top.trans (rch_low hu h1)
/-! places stay places -/
theorem stp_in {l : Lock} (ok : LockOk l) {u v : Word} (hu : InAll u (manysOf l)) (s : Stp l u v) : InAll v (manysOf l) := by
  obtain ⟨k, b, g, hb, hg, he, hw, rfl⟩ := s
  have G := (ok.bolts k b hb).gaps g hg
  refine ⟨by rw [List.length_set]; exact hu.1, fun i n m hn hm => ?_⟩
  by_cases e : k = i
  · subst e
    have lt := (List.getElem?_eq_some_iff.mp he).1
    rw [List.getElem?_set_self lt] at hn
    cases hn
    unfold manysOf at hm
    rw [List.getElem?_map, hb] at hm
    cases hm
    exact ⟨G.t0, G.t1⟩
  · rw [List.getElem?_set_ne e] at hn
    exact hu.2 i n m hn hm
theorem rch_in {l : Lock} (ok : LockOk l) {u v : Word} (hu : InAll u (manysOf l)) (h : Rch l u v) : InAll v (manysOf l) := by
  induction h with
  | refl => exact hu
  | step _ s ih => exact stp_in ok ih s
end Wb

set_option Elab.async false
set_option linter.all false
set_option maxRecDepth 100000
set_option maxHeartbeats 4000000
namespace Wb
open PySem PySem.Spec PyProof.Rows L2
/-! ### what a stand leads to, one bolt more (any lock) -/
/-- a way along which a bolt can go: the word below, whence, whither -/
structure Mv where
  w : Word
  frm : Int
  to_ : Int
def MvOk (b : Bolt) (m : Mv) : Prop := ∃ g ∈ b.gaps, m.w ∈ g.ways ∧ m.frm = g.frm ∧ m.to_ = g.to_
/-- one move behind another, those below led about between -/
inductive MG (l : Lock) (b : Bolt) : Mv → Mv → Prop
  | refl (m : Mv) : MG l b m m
  | step {m n k : Mv} : MG l b m n → MvOk b k → k.frm = n.to_ → Rch l n.w k.w → MG l b m k
theorem mg_len {l : Lock} {b : Bolt} {m n : Mv} (hm : m.w.length = l.length) (h : MG l b m n) : n.w.length = l.length := by
  induction h with
  | refl => exact hm
  | step _ _ _ r ih => exact (rch_len r).trans ih
theorem rch_after {l : Lock} {b : Bolt} {m : Mv} {x : Word} (hm : m.w.length = l.length) (h : Rch (l ++ [b]) (m.w ++ [m.to_]) x) : ∃ n v, MG l b m n ∧ x = v ++ [n.to_] ∧ Rch l n.w v := by
  generalize hz : m.w ++ [m.to_] = z at h
  induction h with
  | refl => exact ⟨m, m.w, .refl m, hz.symm, .refl _⟩
  | step r s ih =>
    obtain ⟨n, v, mg, rfl, rv⟩ := ih
    have vl : v.length = l.length := (rch_len rv).trans (mg_len hm mg)
    rcases stp_snoc vl s with ⟨v', s', rfl⟩ | ⟨g, hg, e, hw, rfl⟩
    · exact ⟨n, v', mg, rfl, rv.step s'⟩
    · exact ⟨⟨v, g.frm, g.to_⟩, v, mg.step ⟨g, hg, hw, rfl, rfl⟩ e rv, rfl, .refl _⟩
theorem move_rch {l : Lock} {b : Bolt} {m : Mv} (hm : m.w.length = l.length) (ok : MvOk b m) : Rch (l ++ [b]) (m.w ++ [m.frm]) (m.w ++ [m.to_]) := by
  obtain ⟨g, hg, hw, e1, e2⟩ := ok
  rw [e1, e2]
  exact Rch.one (stp_high hm hg hw)
theorem after_rch {l : Lock} {b : Bolt} {m n : Mv} {v : Word} (hm : m.w.length = l.length) (mg : MG l b m n) (rv : Rch l n.w v) : Rch (l ++ [b]) (m.w ++ [m.to_]) (v ++ [n.to_]) := by
  have base : Rch (l ++ [b]) (m.w ++ [m.to_]) (n.w ++ [n.to_]) := by
    clear rv
    induction mg with
    | refl => exact .refl _
    | @step n k mg ok e r ih =>
      have nl := mg_len hm mg
      have a1 : Rch (l ++ [b]) (n.w ++ [n.to_]) (k.w ++ [n.to_]) := rch_low nl r
      rw [← e] at a1
      have a2 := move_rch (b := b) ((rch_len r).trans nl) ok
      rw [← e] at ih
      exact (ih.trans a1).trans a2
  exact base.trans (rch_low (mg_len hm mg) rv)
theorem rch_first {l : Lock} {b : Bolt} {u : Word} {p : Int} {x : Word} (hu : u.length = l.length) :
    Rch (l ++ [b]) (u ++ [p]) x ↔ (∃ v, x = v ++ [p] ∧ Rch l u v) ∨ ∃ m n v, MvOk b m ∧ m.frm = p ∧ Rch l u m.w ∧ MG l b m n ∧ x = v ++ [n.to_] ∧ Rch l n.w v := by
  constructor
  · intro h
    generalize hz : u ++ [p] = z at h
    induction h with
    | refl => exact .inl ⟨u, hz.symm, .refl _⟩
    | step r s ih =>
      rcases ih with ⟨v, rfl, rv⟩ | ⟨m, n, v, ok, e, ru, mg, rfl, rv⟩
      · have vl : v.length = l.length := (rch_len rv).trans hu
        rcases stp_snoc vl s with ⟨v', s', rfl⟩ | ⟨g, hg, e, hw, rfl⟩
        · exact .inl ⟨v', rfl, rv.step s'⟩
        · exact .inr ⟨⟨v, g.frm, g.to_⟩, ⟨v, g.frm, g.to_⟩, v, ⟨g, hg, hw, rfl, rfl⟩, e, rv, .refl _, rfl, .refl _⟩
      · have vl : v.length = l.length := (rch_len rv).trans (mg_len ((rch_len ru).trans hu) mg)
        rcases stp_snoc vl s with ⟨v', s', rfl⟩ | ⟨g, hg, e', hw, rfl⟩
        · exact .inr ⟨m, n, v', ok, e, ru, mg, rfl, rv.step s'⟩
        · exact .inr ⟨m, ⟨v, g.frm, g.to_⟩, v, ok, e, ru, mg.step ⟨g, hg, hw, rfl, rfl⟩ e' rv, rfl, .refl _⟩
  · rintro (⟨v, rfl, rv⟩ | ⟨m, n, v, ok, rfl, ru, mg, rfl, rv⟩)
    · exact rch_low hu rv
    · have ml := (rch_len ru).trans hu
      exact ((rch_low hu ru).trans (move_rch ml ok)).trans (after_rch ml mg rv)
/-! ### targets -/
def leadsT (l : Lock) (u : Word) (T : Word → Prop) : Prop := ∃ v, Rch l u v ∧ T v
def lastOk (last : Option Int) (q : Int) : Prop := last = none ∨ last = some q
/-- a target with a place of the next bolt, or any -/
def upT (T : Word → Prop) (last : Option Int) : Word → Prop := fun x => ∃ v q, x = v ++ [q] ∧ T v ∧ lastOk last q
def standT (l : Lock) (u : Word) (p : Int) (T : Word → Prop) (last : Option Int) : Prop := leadsT l u T ∧ lastOk last p
theorem leads_after {l : Lock} {b : Bolt} {m : Mv} {T : Word → Prop} {last : Option Int} (hm : m.w.length = l.length) :
    leadsT (l ++ [b]) (m.w ++ [m.to_]) (upT T last) ↔ ∃ n, MG l b m n ∧ standT l n.w n.to_ T last := by
  constructor
  · rintro ⟨x, r, v, q, rfl, ht, hq⟩
    obtain ⟨n, v', mg, e, rv⟩ := rch_after hm r
    obtain ⟨rfl, e2⟩ := List.append_inj' e rfl
    cases e2
    exact ⟨n, mg, ⟨v, rv, ht⟩, hq⟩
  · rintro ⟨n, mg, ⟨v, rv, ht⟩, hq⟩
    exact ⟨_, after_rch hm mg rv, v, n.to_, rfl, ht, hq⟩
theorem leads_up {l : Lock} {b : Bolt} {u : Word} {p : Int} {T : Word → Prop} {last : Option Int} (hu : u.length = l.length) :
    leadsT (l ++ [b]) (u ++ [p]) (upT T last) ↔ standT l u p T last ∨ ∃ m, MvOk b m ∧ m.frm = p ∧ Rch l u m.w ∧ leadsT (l ++ [b]) (m.w ++ [m.to_]) (upT T last) := by
  constructor
  · rintro ⟨x, r, v, q, rfl, ht, hq⟩
    rcases (rch_first hu).mp r with ⟨v', e, rv⟩ | ⟨m, n, v', ok, e1, ru, mg, e, rv⟩
    · obtain ⟨rfl, e2⟩ := List.append_inj' e rfl
      cases e2
      exact .inl ⟨⟨v, rv, ht⟩, hq⟩
    · obtain ⟨rfl, e2⟩ := List.append_inj' e rfl
      cases e2
      exact .inr ⟨m, ok, e1, ru, (leads_after ((rch_len ru).trans hu)).mpr ⟨n, mg, ⟨v, rv, ht⟩, hq⟩⟩
  · rintro (⟨⟨v, rv, ht⟩, hq⟩ | ⟨m, ok, e, ru, x, rx, ht⟩)
    · exact ⟨_, rch_low hu rv, v, p, rfl, ht, hq⟩
    · have ml := (rch_len ru).trans hu
      subst e
      exact ⟨x, ((rch_low hu ru).trans (move_rch ml ok)).trans rx, ht⟩
/-! ### such things as bits -/
/-- x tells which targets a stand leads to -/
structure ReachIs (l : Lock) (Ts : List (Word → Prop)) (u : Word) (x : Nat) : Prop where
  lt : x < 2 ^ Ts.length
  bit : ∀ (j : Nat) (T : Word → Prop), Ts[j]? = some T → (x.testBit j = true ↔ leadsT l u T)
theorem ReachIs.uniq {l : Lock} {Ts : List (Word → Prop)} {u : Word} {x y : Nat} (h : ReachIs l Ts u x) (g : ReachIs l Ts u y) : x = y := by
  refine Nat.eq_of_testBit_eq fun j => ?_
  by_cases c : j < Ts.length
  · have e : Ts[j]? = some Ts[j] := List.getElem?_eq_getElem c
    have a := h.bit j _ e
    have b := g.bit j _ e
    rw [Bool.eq_iff_iff]
    exact a.trans b.symm
  · have z : ∀ {x : Nat}, x < 2 ^ Ts.length → x.testBit j = false := fun hx => Nat.testBit_lt_two_pow (Nat.lt_of_lt_of_le hx (Nat.pow_le_pow_right (by decide) (by omega)))
    rw [z h.lt, z g.lt]
/-- ends: which target below, which place -/
abbrev End := Nat × Option Int
def upTs (Ts : List (Word → Prop)) (es : List End) : List (Word → Prop) := es.map fun e => upT (Ts.getD e.1 fun _ => False) e.2
/-- the bits of the ends that are met without a step of this bolt -/
structure StandIs (es : List End) (x : Nat) (p : Int) (y : Nat) : Prop where
  lt : y < 2 ^ es.length
  bit : ∀ (i : Nat) (e : End), es[i]? = some e → (y.testBit i = true ↔ lastOk e.2 p ∧ x.testBit e.1 = true)
theorem stand_leads {l : Lock} {Ts : List (Word → Prop)} {es : List End} {u : Word} {x y : Nat} {p : Int} (hx : ReachIs l Ts u x) (hy : StandIs es x p y) (low : ∀ e ∈ es, e.1 < Ts.length) {i : Nat} {e : End} (he : es[i]? = some e) :
    y.testBit i = true ↔ standT l u p (Ts.getD e.1 fun _ => False) e.2 := by
  have el := low e (List.mem_of_getElem? he)
  have eT : Ts[e.1]? = some (Ts.getD e.1 fun _ => False) := by
    rw [List.getD_eq_getElem?_getD, List.getElem?_eq_getElem el]
    rfl
  rw [hy.bit i e he, hx.bit e.1 _ eT]
  exact and_comm
/-- moves as numbers: which word, whence, whither -/
abbrev NMv := Nat × Int × Int
/-- the moves of a bolt, as numbered -/
structure MovesOk (b : Bolt) (ws : List Word) (ms : List NMv) : Prop where
  low : ∀ m ∈ ms, m.1 < ws.length
  all : ∀ m : Mv, MvOk b m ↔ ∃ n ∈ ms, ws[n.1]? = some m.w ∧ m.frm = n.2.1 ∧ m.to_ = n.2.2
/-- a number of a move behind that of another: by the bits below -/
inductive NG (ms : List NMv) (R : List Nat) : Nat → Nat → Prop
  | refl (a : Nat) : NG ms R a a
  | step {a c d : Nat} {m n : NMv} {x : Nat} : NG ms R a c → ms[c]? = some m → ms[d]? = some n → n.2.1 = m.2.2 → R[m.1]? = some x → x.testBit n.1 = true → NG ms R a d
def mvOf (ws : List Word) (n : NMv) : Mv := ⟨ws.getD n.1 [], n.2.1, n.2.2⟩
theorem mvOf_ok {b : Bolt} {ws : List Word} {ms : List NMv} (h : MovesOk b ws ms) {n : NMv} (hn : n ∈ ms) : MvOk b (mvOf ws n) :=
  (h.all _).mpr ⟨n, hn, by unfold mvOf; rw [List.getD_eq_getElem?_getD, List.getElem?_eq_getElem (h.low n hn)]; rfl, rfl, rfl⟩
/-- the bits below of the words, as the program holds them -/
structure BelowIs (l : Lock) (ws : List Word) (Ts : List (Word → Prop)) (R : List Nat) : Prop where
  len : R.length = ws.length
  ts : ∀ (j : Nat) (w : Word), ws[j]? = some w → Ts[j]? = some (fun x => x = w)
  is : ∀ (j : Nat) (w : Word) (x : Nat), ws[j]? = some w → R[j]? = some x → ReachIs l Ts w x
theorem reach_word {l : Lock} {ws : List Word} {Ts : List (Word → Prop)} {u : Word} {x : Nat} {j : Nat} {w : Word} (hx : ReachIs l Ts u x) (ts : Ts[j]? = some (fun x => x = w)) : x.testBit j = true ↔ Rch l u w := by
  rw [hx.bit j _ ts]
  exact ⟨fun ⟨v, r, e⟩ => by rw [← e]; exact r, fun r => ⟨w, r, rfl⟩⟩
theorem ng_mg {l : Lock} {b : Bolt} {ws : List Word} {Ts : List (Word → Prop)} {ms : List NMv} {R : List Nat} (hm : MovesOk b ws ms) (hb : BelowIs l ws Ts R) {a : Nat} {m0 : NMv} (h0 : ms[a]? = some m0) (k : Mv) :
    MG l b (mvOf ws m0) k ↔ ∃ c n, NG ms R a c ∧ ms[c]? = some n ∧ k = mvOf ws n := by
  have wat : ∀ n ∈ ms, ws[n.1]? = some (mvOf ws n).w := fun n hn => by
    unfold mvOf
    rw [List.getD_eq_getElem?_getD, List.getElem?_eq_getElem (hm.low n hn)]
    rfl
  constructor
  · intro h
    induction h with
    | refl => exact ⟨a, m0, .refl a, h0, rfl⟩
    | @step n k mg ok e r ih =>
      obtain ⟨c, nn, ng, hc, rfl⟩ := ih
      obtain ⟨kn, hk, hw, e1, e2⟩ := (hm.all k).mp ok
      obtain ⟨d, hd⟩ := List.mem_iff_getElem?.mp hk
      have ek : k = mvOf ws kn := by
        have := wat kn hk
        rw [hw] at this
        cases k
        cases Option.some.inj this
        cases e1
        cases e2
        rfl
      have nm := List.mem_of_getElem? hc
      have rl : nn.1 < R.length := by rw [hb.len]; exact hm.low nn nm
      have hx : R[nn.1]? = some R[nn.1] := List.getElem?_eq_getElem rl
      refine ⟨d, kn, ng.step hc hd (by rw [← e1]; exact e) hx ?_, hd, ek⟩
      have z := hb.is nn.1 _ _ (wat nn nm) hx
      exact (reach_word (ws := ws) z (hb.ts kn.1 k.w hw)).mpr r
  · rintro ⟨c, n, ng, hc, rfl⟩
    induction ng generalizing n with
    | refl =>
      rw [h0] at hc
      cases hc
      exact .refl _
    | @step c d m n' x ng h1 h2 e hx hbit ih =>
      rw [h2] at hc
      cases hc
      have nm := List.mem_of_getElem? h1
      have dm := List.mem_of_getElem? h2
      refine (ih m h1).step (mvOf_ok hm dm) e ?_
      have z := hb.is m.1 _ _ (wat m nm) hx
      exact (reach_word (ws := ws) z (hb.ts n'.1 _ (wat n' dm))).mp hbit
end Wb

set_option Elab.async false
set_option linter.all false
set_option maxRecDepth 100000
set_option maxHeartbeats 4000000
namespace Wb
open PySem PySem.Spec PyProof.Rows L2
/-! ### numbers by their bits -/
def bitsOf (f : Nat → Bool) : Nat → Nat
  | 0 => 0
  | n + 1 => bitsOf f n ||| (if f n = true then 2 ^ n else 0)
theorem bits_lt (f : Nat → Bool) : ∀ n, bitsOf f n < 2 ^ n
  | 0 => Nat.zero_lt_one
  | n + 1 => by
    have h := bits_lt f n
    have p : 2 ^ n < 2 ^ (n + 1) := Nat.pow_lt_pow_right (by decide) (Nat.lt_succ_self n)
    refine Nat.or_lt_two_pow (by omega) ?_
    split
    · exact p
    · exact Nat.two_pow_pos _
theorem bits_at (f : Nat → Bool) : ∀ n j, (bitsOf f n).testBit j = (decide (j < n) && f j)
  | 0, j => by
    show (0 : Nat).testBit j = _
    rw [Nat.zero_testBit]
    simp
  | n + 1, j => by
    show (bitsOf f n ||| (if f n = true then 2 ^ n else 0)).testBit j = _
    rw [Nat.testBit_or, bits_at f n j]
    by_cases c : j = n
    · subst c
      cases h : f j with
      | true =>
        rw [if_pos rfl, Nat.testBit_two_pow_self]
        simp
      | false =>
        rw [if_neg Bool.false_ne_true, Nat.zero_testBit]
        simp
    · have z : (if f n = true then 2 ^ n else 0).testBit j = false := by
        split
        · exact Nat.testBit_two_pow_of_ne (fun e => c e.symm)
        · exact Nat.zero_testBit j
      rw [z, Bool.or_false]
      have : decide (j < n + 1) = decide (j < n) := decide_eq_decide.mpr (by omega)
      rw [this]
/-- which targets a stand leads to -/
noncomputable def maskOf (l : Lock) (Ts : List (Word → Prop)) (u : Word) : Nat := bitsOf (fun j => @decide (∃ T, Ts[j]? = some T ∧ leadsT l u T) (Classical.propDecidable _)) Ts.length
theorem mask_is (l : Lock) (Ts : List (Word → Prop)) (u : Word) : ReachIs l Ts u (maskOf l Ts u) := by
  refine ⟨bits_lt _ _, fun j T hT => ?_⟩
  unfold maskOf
  have jl := (List.getElem?_eq_some_iff.mp hT).1
  rw [bits_at, decide_eq_true jl, Bool.true_and, @decide_eq_true_eq _ (Classical.propDecidable _)]
  constructor
  · rintro ⟨T', h, r⟩
    rw [hT] at h
    cases h
    exact r
  · intro r
    exact ⟨T, hT, r⟩
/-- the ends met without a step, as the program reckons them -/
def lastB (last : Option Int) (p : Int) : Bool := decide (last = none) || decide (last = some p)
theorem lastB_iff {last : Option Int} {p : Int} : lastB last p = true ↔ lastOk last p := by
  unfold lastB lastOk
  rw [Bool.or_eq_true, decide_eq_true_eq, decide_eq_true_eq]
def standF (es : List End) (x : Nat) (p : Int) (i : Nat) : Bool := match es[i]? with
  | none => false
  | some e => lastB e.2 p && x.testBit e.1
def standN (es : List End) (x : Nat) (p : Int) : Nat := bitsOf (standF es x p) es.length
theorem stand_is (es : List End) (x : Nat) (p : Int) : StandIs es x p (standN es x p) := by
  refine ⟨bits_lt _ _, fun i e he => ?_⟩
  have il := (List.getElem?_eq_some_iff.mp he).1
  unfold standN
  rw [bits_at, decide_eq_true il, Bool.true_and]
  unfold standF
  rw [he]
  show (lastB e.2 p && x.testBit e.1) = true ↔ _
  rw [Bool.and_eq_true, lastB_iff]
/-- the moves that can be the first ones -/
def firstB (ms : List NMv) (x : Nat) (p : Int) (a : Nat) : Bool := match ms[a]? with
  | none => false
  | some n => decide (n.2.1 = p) && x.testBit n.1
def firstsN (ms : List NMv) (x : Nat) (p : Int) : List Nat := (List.range ms.length).filter (firstB ms x p)
theorem mem_firsts {ms : List NMv} {x : Nat} {p : Int} {a : Nat} : a ∈ firstsN ms x p ↔ ∃ n, ms[a]? = some n ∧ n.2.1 = p ∧ x.testBit n.1 = true := by
  unfold firstsN
  rw [List.mem_filter, List.mem_range]
  unfold firstB
  constructor
  · rintro ⟨h, hb⟩
    have e : ms[a]? = some ms[a] := List.getElem?_eq_getElem h
    rw [e] at hb
    simp only [Bool.and_eq_true, decide_eq_true_eq] at hb
    exact ⟨_, e, hb.1, hb.2⟩
  · rintro ⟨n, e, h1, h2⟩
    refine ⟨(List.getElem?_eq_some_iff.mp e).1, ?_⟩
    rw [e]
    simp only [Bool.and_eq_true, decide_eq_true_eq]
    exact ⟨h1, h2⟩
/-- what stands behind a move, as bits -/
structure AfterIs (es : List End) (ms : List NMv) (R : List Nat) (a y : Nat) : Prop where
  lt : y < 2 ^ es.length
  bit : ∀ (i : Nat) (e : End), es[i]? = some e → (y.testBit i = true ↔ ∃ c n x, NG ms R a c ∧ ms[c]? = some n ∧ R[n.1]? = some x ∧ (standN es x n.2.2).testBit i = true)
theorem up_get {Ts : List (Word → Prop)} {es : List End} {i : Nat} {T : Word → Prop} (h : (upTs Ts es)[i]? = some T) : ∃ e, es[i]? = some e ∧ T = upT (Ts.getD e.1 fun _ => False) e.2 := by
  unfold upTs at h
  rw [List.getElem?_map] at h
  cases he : es[i]? with
  | none => rw [he] at h; cases h
  | some e => rw [he] at h; exact ⟨e, rfl, (Option.some.inj h).symm⟩
section
variable {l : Lock} {b : Bolt} {ws : List Word} {Ts : List (Word → Prop)} {ms : List NMv} {R : List Nat} {es : List End}
theorem stand_word (hb : BelowIs l ws Ts R) (low : ∀ e ∈ es, e.1 < Ts.length) {j i : Nat} {w : Word} {x : Nat} {p : Int} {e : End} (hw : ws[j]? = some w) (hx : R[j]? = some x) (he : es[i]? = some e) :
    (standN es x p).testBit i = true ↔ standT l w p (Ts.getD e.1 fun _ => False) e.2 := stand_leads (hb.is j w x hw hx) (stand_is es x p) low he
theorem after_reach (hm : MovesOk b ws ms) (hb : BelowIs l ws Ts R) (low : ∀ e ∈ es, e.1 < Ts.length) (wl : ∀ w ∈ ws, w.length = l.length) {a : Nat} {m0 : NMv} (h0 : ms[a]? = some m0) {y : Nat} (hy : AfterIs es ms R a y) :
    ReachIs (l ++ [b]) (upTs Ts es) ((mvOf ws m0).w ++ [(mvOf ws m0).to_]) y := by
  have wat : ∀ n ∈ ms, ws[n.1]? = some (mvOf ws n).w := fun n hn => by
    unfold mvOf
    rw [List.getD_eq_getElem?_getD, List.getElem?_eq_getElem (hm.low n hn)]
    rfl
  refine ⟨by unfold upTs; rw [List.length_map]; exact hy.lt, fun i T hT => ?_⟩
  obtain ⟨e, he, rfl⟩ := up_get hT
  rw [hy.bit i e he, leads_after (wl _ (List.mem_of_getElem? (wat m0 (List.mem_of_getElem? h0))))]
  constructor
  · rintro ⟨c, n, x, ng, hc, hx, hb'⟩
    refine ⟨mvOf ws n, (ng_mg hm hb h0 _).mpr ⟨c, n, ng, hc, rfl⟩, ?_⟩
    exact (stand_word hb low (wat n (List.mem_of_getElem? hc)) hx he).mp hb'
  · rintro ⟨k, mg, st⟩
    obtain ⟨c, n, ng, hc, rfl⟩ := (ng_mg hm hb h0 k).mp mg
    have nm := List.mem_of_getElem? hc
    have rl : n.1 < R.length := by rw [hb.len]; exact hm.low n nm
    have hx : R[n.1]? = some R[n.1] := List.getElem?_eq_getElem rl
    exact ⟨c, n, _, ng, hc, hx, (stand_word hb low (wat n nm) hx he).mpr st⟩
/-- what a stand leads to, by the bits of what those below do -/
structure OfIs (es : List End) (ms : List NMv) (A : List Nat) (x : Nat) (p : Int) (z : Nat) : Prop where
  lt : z < 2 ^ es.length
  bit : ∀ (i : Nat) (e : End), es[i]? = some e → (z.testBit i = true ↔ (standN es x p).testBit i = true ∨ ∃ a ∈ firstsN ms x p, ∃ y, A[a]? = some y ∧ y.testBit i = true)
theorem of_reach (hm : MovesOk b ws ms) (hb : BelowIs l ws Ts R) (low : ∀ e ∈ es, e.1 < Ts.length) (wl : ∀ w ∈ ws, w.length = l.length) {A : List Nat} (al : A.length = ms.length) (ha : ∀ a y, A[a]? = some y → AfterIs es ms R a y)
    {u : Word} (hu : u.length = l.length) {x z : Nat} (hx : ReachIs l Ts u x) {p : Int} (hz : OfIs es ms A x p z) : ReachIs (l ++ [b]) (upTs Ts es) (u ++ [p]) z := by
  have wat : ∀ n ∈ ms, ws[n.1]? = some (mvOf ws n).w := fun n hn => by
    unfold mvOf
    rw [List.getD_eq_getElem?_getD, List.getElem?_eq_getElem (hm.low n hn)]
    rfl
  refine ⟨by unfold upTs; rw [List.length_map]; exact hz.lt, fun i T hT => ?_⟩
  have hT' := hT
  obtain ⟨e, he, rfl⟩ := up_get hT
  rw [hz.bit i e he, leads_up hu, stand_leads hx (stand_is es x p) low he]
  refine or_congr_right ?_
  constructor
  · rintro ⟨a, hf, y, hy, hb'⟩
    obtain ⟨n, hn, e1, e2⟩ := mem_firsts.mp hf
    have nm := List.mem_of_getElem? hn
    refine ⟨mvOf ws n, mvOf_ok hm nm, e1, (reach_word (ws := ws) hx (hb.ts n.1 _ (wat n nm))).mp e2, ?_⟩
    exact ((after_reach hm hb low wl hn (ha a y hy)).bit i _ hT').mp hb'
  · rintro ⟨m, ok, e1, ru, r⟩
    obtain ⟨n, nm, hw, e2, e3⟩ := (hm.all m).mp ok
    obtain ⟨a, hn⟩ := List.mem_iff_getElem?.mp nm
    have em : m = mvOf ws n := by
      have := wat n nm
      rw [hw] at this
      cases m
      cases Option.some.inj this
      cases e2
      cases e3
      rfl
    subst em
    have alt : a < A.length := by rw [al]; exact (List.getElem?_eq_some_iff.mp hn).1
    have hy : A[a]? = some A[a] := List.getElem?_eq_getElem alt
    refine ⟨a, mem_firsts.mpr ⟨n, hn, e1, (reach_word (ws := ws) hx (hb.ts n.1 _ (wat n nm))).mpr ru⟩, _, hy, ?_⟩
    exact ((after_reach hm hb low wl hn (ha a _ hy)).bit i _ hT').mpr r
/-- as the program reckons it -/
def ofN (es : List End) (ms : List NMv) (A : List Nat) (x : Nat) (p : Int) : Nat := (firstsN ms x p).foldl (fun z a => z ||| A.getD a 0) (standN es x p)
theorem fold_or : ∀ (as : List Nat) (A : List Nat) (z i : Nat), (as.foldl (fun z a => z ||| A.getD a 0) z).testBit i = true ↔ z.testBit i = true ∨ ∃ a ∈ as, (A.getD a 0).testBit i = true
  | [], A, z, i => by simp
  | a :: as, A, z, i => by
    rw [List.foldl_cons, fold_or as A, Nat.testBit_or, Bool.or_eq_true, or_assoc]
    refine or_congr_right ?_
    simp
theorem fold_lt : ∀ (as : List Nat) (A : List Nat) (z n : Nat), z < 2 ^ n → (∀ a ∈ as, A.getD a 0 < 2 ^ n) → as.foldl (fun z a => z ||| A.getD a 0) z < 2 ^ n
  | [], A, z, n, h, _ => h
  | a :: as, A, z, n, h, g => by
    rw [List.foldl_cons]
    exact fold_lt as A _ n (Nat.or_lt_two_pow h (g a List.mem_cons_self)) fun x hx => g x (List.mem_cons_of_mem _ hx)
theorem of_is {A : List Nat} (al : A.length = ms.length) (ha : ∀ a y, A[a]? = some y → AfterIs es ms R a y) (x : Nat) (p : Int) : OfIs es ms A x p (ofN es ms A x p) := by
  have low : ∀ a ∈ firstsN ms x p, A[a]? = some (A.getD a 0) := fun a h => by
    obtain ⟨n, hn, _⟩ := mem_firsts.mp h
    have : a < A.length := by rw [al]; exact (List.getElem?_eq_some_iff.mp hn).1
    rw [List.getD_eq_getElem?_getD, List.getElem?_eq_getElem this]
    rfl
  refine ⟨fold_lt _ _ _ _ (stand_is es x p).lt fun a h => (ha a _ (low a h)).lt, fun i e he => ?_⟩
  unfold ofN
  rw [fold_or]
  refine or_congr_right ?_
  constructor
  · rintro ⟨a, h, hb⟩
    exact ⟨a, h, _, low a h, hb⟩
  · rintro ⟨a, h, y, hy, hb⟩
    rw [low a h] at hy
    cases hy
    exact ⟨a, h, hb⟩
/-- the same as what it means -/
theorem of_mask (hm : MovesOk b ws ms) (hb : BelowIs l ws Ts R) (low : ∀ e ∈ es, e.1 < Ts.length) (wl : ∀ w ∈ ws, w.length = l.length) {A : List Nat} (al : A.length = ms.length) (ha : ∀ a y, A[a]? = some y → AfterIs es ms R a y)
    {u : Word} (hu : u.length = l.length) (p : Int) : ofN es ms A (maskOf l Ts u) p = maskOf (l ++ [b]) (upTs Ts es) (u ++ [p]) :=
  (of_reach hm hb low wl al ha hu (mask_is l Ts u) (of_is al ha _ p)).uniq (mask_is _ _ _)
end
end Wb

set_option Elab.async false
set_option linter.all false
set_option maxRecDepth 100000
set_option maxHeartbeats 8000000
set_option pp.maxSteps 900
set_option pp.deepTerms false
namespace Wb
open PySem PySem.Spec PyProof.Rows L2
/-! ### the places to which a bolt comes: what is known while they are gathered -/
def kvB (ks : List Int) : List (Key × V) := ks.map fun x => (.inl x, .bl true)
theorem kvB_any (ks : List Int) (x : Int) : ((kvB ks).any fun kv => decide (kv.1 = Sum.inl x)) = decide (x ∈ ks) := by
  unfold kvB
  rw [List.any_map, Bool.eq_iff_iff]
  simp only [List.any_eq_true, Function.comp, decide_eq_true_eq]
  constructor
  · rintro ⟨y, hy, e⟩
    rw [← Sum.inl.inj e]
    exact hy
  · intro h
    exact ⟨x, h, rfl⟩
theorem kvB_put {ks : List Int} {x : Int} (h : x ∉ ks) : putK (kvB ks) (.inl x) (.bl true) = kvB (ks ++ [x]) := by
  unfold putK
  rw [kvB_any, if_neg (by rw [decide_eq_false h]; exact Bool.false_ne_true)]
  unfold kvB
  rw [List.map_append]
  rfl
theorem kvB_some (ks : List Int) (x : Int) : (valV (kvB ks) (.inl x)).isSome = decide (x ∈ ks) := by
  rw [← valV_any, kvB_any]
def Cl (gs : List Gap) (ns : List Word) (x : Int) (ks : List Int) : Prop := ∀ g ∈ gs, g.frm = x → (∃ w ∈ g.ways, w ∈ ns) → g.to_ ∈ ks
structure BSt (gs : List Gap) (ns : List Word) (pl : Int) (ks wk : List Int) : Prop where
  nd : ks.Nodup
  st : pl ∈ ks
  rc : ∀ x ∈ ks, BRc gs (· ∈ ns) pl x
  sub : ∀ x ∈ wk, x ∈ ks
  low : ∀ x ∈ ks, 0 ≤ x ∧ x < 4
  le : wk.length ≤ ks.length
theorem places4 {ks : List Int} (nd : ks.Nodup) (h : ∀ x ∈ ks, 0 ≤ x ∧ x < 4) : ks.length ≤ 4 := by
  have n1 : (ks.map Int.toNat).Nodup := by
    rw [List.Nodup, List.pairwise_map]
    refine List.Pairwise.imp_of_mem ?_ nd
    intro a b ha hb ne e
    have := h a ha
    have := h b hb
    exact ne (by omega)
  have := n1.length_le_of_subset (l₂ := List.range 4) (by
    intro x hx
    obtain ⟨y, hy, rfl⟩ := List.mem_map.mp hx
    have := h y hy
    rw [List.mem_range]
    omega)
  rw [List.length_map, List.length_range] at this
  exact this
theorem BSt.add {gs : List Gap} {ns : List Word} {pl x y : Int} {ks wk : List Int} (s : BSt gs ns pl ks wk) (g : Gap) (w : Word) (hg : g ∈ gs) (hw : w ∈ g.ways) (hn : w ∈ ns) (hx : g.frm = x) (hk : x ∈ ks) (hy : g.to_ = y) (n : y ∉ ks) (l : 0 ≤ y ∧ y < 4) : BSt gs ns pl (ks ++ [y]) (wk ++ [y]) := by
  refine ⟨?_, List.mem_append_left _ s.st, fun z hz => ?_, fun z hz => ?_, fun z hz => ?_, by rw [List.length_append, List.length_append]; exact Nat.add_le_add_right s.le 1⟩
  · rw [List.nodup_append]
    refine ⟨s.nd, by simp, fun a ha b hb e => ?_⟩
    rw [List.mem_singleton.mp hb] at e
    exact n (e ▸ ha)
  · rcases List.mem_append.mp hz with h | h
    · exact s.rc z h
    · rw [List.mem_singleton.mp h, ← hy]
      exact (s.rc x hk).step g w hg hx hw hn
  · rcases List.mem_append.mp hz with h | h
    · exact List.mem_append_left _ (s.sub z h)
    · exact List.mem_append_right _ h
  · rcases List.mem_append.mp hz with h | h
    · exact s.low z h
    · rw [List.mem_singleton.mp h]
      exact l
theorem Cl.more {gs : List Gap} {ns : List Word} {x : Int} {ks : List Int} (h : Cl gs ns x ks) (ys : List Int) : Cl gs ns x (ks ++ ys) := fun g hg e w => List.mem_append_left _ (h g hg e w)
theorem closed_all {gs : List Gap} {ns : List Word} {pl : Int} {ks : List Int} (s : BSt gs ns pl ks []) (c : ∀ x ∈ ks, Cl gs ns x ks) (q : Int) : q ∈ ks ↔ BRc gs (· ∈ ns) pl q := by
  refine ⟨s.rc q, fun h => ?_⟩
  induction h with
  | refl => exact s.st
  | step g w _ hg e hw n ih => exact c _ ih g hg e ⟨w, hw, n⟩
theorem mem_moves {gs : List Gap} {w : Word} {t : Tr3} : t ∈ movesL gs w ↔ ∃ g ∈ gs, w ∈ g.ways ∧ t = trOf g := by
  unfold movesL
  rw [List.mem_map]
  constructor
  · rintro ⟨g, hg, rfl⟩
    obtain ⟨h1, h2⟩ := List.mem_filter.mp hg
    exact ⟨g, h1, of_decide_eq_true h2, rfl⟩
  · rintro ⟨g, h1, h2, rfl⟩
    exact ⟨g, List.mem_filter.mpr ⟨h1, decide_eq_true h2⟩, rfl⟩
/-- while the places behind at_ are gathered: all moves of the words done, and of the ts, are known -/
structure BIn (gs : List Gap) (ns : List Word) (pl at_ : Int) (ks wk : List Int) (done : List Word) (ts : List Tr3) (M : Nat) : Prop where
  s : BSt gs ns pl ks wk
  a : at_ ∈ ks
  c : ∀ x ∈ ks, x ∈ wk ∨ x = at_ ∨ Cl gs ns x ks
  d : ∀ w ∈ done, ∀ t ∈ movesL gs w, t.frm = at_ → t.to_ ∈ ks
  t : ∀ t ∈ ts, t.frm = at_ → t.to_ ∈ ks
  m : 2 * (4 - ks.length) + wk.length + 1 ≤ M
theorem BIn.add {gs : List Gap} {ns : List Word} {pl at_ y : Int} {ks wk : List Int} {done : List Word} {ts : List Tr3} {M : Nat} (s : BIn gs ns pl at_ ks wk done ts M) (b : BSt gs ns pl (ks ++ [y]) (wk ++ [y])) : BIn gs ns pl at_ (ks ++ [y]) (wk ++ [y]) done ts M := by
  refine ⟨b, List.mem_append_left _ s.a, fun x hx => ?_, fun w hw t ht e => List.mem_append_left _ (s.d w hw t ht e), fun t ht e => List.mem_append_left _ (s.t t ht e), ?_⟩
  · rcases List.mem_append.mp hx with h | h
    · rcases s.c x h with h | h | h
      · exact .inl (List.mem_append_left _ h)
      · exact .inr (.inl h)
      · exact .inr (.inr (h.more _))
    · exact .inl (List.mem_append_right _ h)
  · have := s.m
    have l4 := places4 b.nd b.low
    rw [List.length_append, List.length_singleton] at l4 ⊢
    rw [List.length_append, List.length_singleton]
    omega
theorem BIn.next {gs : List Gap} {ns : List Word} {pl at_ : Int} {ks wk : List Int} {done : List Word} {ts : List Tr3} {M : Nat} {t : Tr3} (s : BIn gs ns pl at_ ks wk done ts M) (h : t.frm = at_ → t.to_ ∈ ks) : BIn gs ns pl at_ ks wk done (ts ++ [t]) M :=
  ⟨s.s, s.a, s.c, s.d, fun t' ht e => (List.mem_append.mp ht).elim (fun z => s.t t' z e) (fun z => by rw [List.mem_singleton.mp z] at e ⊢; exact h e), s.m⟩
theorem BIn.word {gs : List Gap} {ns : List Word} {pl at_ : Int} {ks wk : List Int} {done : List Word} {w : Word} {M : Nat} (s : BIn gs ns pl at_ ks wk done (movesL gs w) M) : BIn gs ns pl at_ ks wk (done ++ [w]) [] M :=
  ⟨s.s, s.a, s.c, fun w' hw t ht e => (List.mem_append.mp hw).elim (fun z => s.d w' z t ht e) (fun z => by rw [List.mem_singleton.mp z] at ht; exact s.t t ht e), (fun t ht => nomatch ht), s.m⟩
theorem BIn.out {gs : List Gap} {ns : List Word} {pl at_ : Int} {ks wk : List Int} {M : Nat} (s : BIn gs ns pl at_ ks wk ns [] M) : BSt gs ns pl ks wk ∧ (∀ x ∈ ks, x ∈ wk ∨ Cl gs ns x ks) ∧ 2 * (4 - ks.length) + wk.length < M := by
  refine ⟨s.s, fun x hx => ?_, s.m⟩
  rcases s.c x hx with h | rfl | h
  · exact .inl h
  · refine .inr fun g hg e ⟨w, hw, hn⟩ => ?_
    exact s.d w hn (trOf g) (mem_moves.mpr ⟨g, hg, hw, rfl⟩) e
  · exact .inr h
end Wb

set_option Elab.async false
set_option linter.all false
set_option maxRecDepth 100000
set_option maxHeartbeats 8000000
set_option pp.maxSteps 900
set_option pp.deepTerms false
namespace Wb
open PySem PySem.Spec PyProof.Rows L2
section
variable {P : Program} {w : World} {K : PySem.W.Frag} {mg : Str → Option Value} {base : Heap}
end
end Wb

set_option Elab.async false
set_option linter.all false
set_option maxRecDepth 100000
set_option maxHeartbeats 4000000
set_option pp.maxSteps 600
set_option pp.deepTerms false
namespace Wb
open PySem PySem.Spec PyProof.Rows L2
abbrev sPen : Stmt := topS 43
abbrev sDraw : Stmt := topS 44
abbrev sPick : Stmt := topS 45
abbrev nDraw : List Str := ["_law_pen_here", "_law_many", "_law_found", "_law_at", "_law_cell", "_law_number"]
theorem scPen : FnScope ["_law_script"] ["_law_script"] (defScope sPen) := ⟨rfl, rfl, rfl, by decide +kernel, rfl, by decide +kernel, by decide +kernel⟩
theorem scDraw : FnScope nDraw ["_law_pen_here", "_law_many"] (defScope sDraw) := ⟨rfl, rfl, rfl, by decide +kernel, rfl, by decide +kernel, by decide +kernel⟩
theorem scPick : FnScope ["_law_pen_here", "_law_lot"] ["_law_pen_here", "_law_lot"] (defScope sPick) := ⟨rfl, rfl, rfl, by decide +kernel, rfl, by decide +kernel, by decide +kernel⟩

/-! ### the pen -/
def PenAt (H : Hp) (p c : Addr) (T : Int) : Prop :=
  ∃ (cells : List Int) (t d : Int), H p = some (.lst [.ref c, .int t, .int d]) ∧ H c = some (.lst (cells.map V.int)) ∧ c ≠ p ∧ cells.length ≤ 63 ∧ 0 ≤ t ∧ t ≤ T ∧ 0 ≤ d
section
variable {H H' : Hp} {p c q : Addr} {T T' : Int}
theorem PenAt.ex (e : Evl.Ex H H') (h : PenAt H p c T) : PenAt H' p c T := by
  obtain ⟨cells, t, d, h1, h2, r⟩ := h
  exact ⟨cells, t, d, e _ _ h1, e _ _ h2, r⟩
theorem PenAt.put {o : HO} (h : PenAt H p c T) (h1 : q ≠ p) (h2 : q ≠ c) : PenAt (upd H q o) p c T := by
  obtain ⟨cells, t, d, a, b, r⟩ := h
  exact ⟨cells, t, d, by rw [upd_ne h1.symm]; exact a, by rw [upd_ne h2.symm]; exact b, r⟩
theorem PenAt.mono (h : PenAt H p c T) (l : T ≤ T') : PenAt H p c T' := by
  obtain ⟨cells, t, d, a, b, n, b2, t0, t1, d0⟩ := h
  exact ⟨cells, t, d, a, b, n, b2, t0, Int.le_trans t1 l, d0⟩
theorem PenAt.no (h : PenAt H p c T) : ∀ xs, ¬ Rd H p (.tup xs) := by
  obtain ⟨cells, t, d, a, _⟩ := h
  rintro xs (z | ⟨o, z⟩)
  · rw [a] at z; cases z
  · rw [a] at z; cases z
theorem PenAt.here (h : PenAt H p c T) : H p ≠ none := by
  obtain ⟨cells, t, d, a, _⟩ := h
  rw [a]
  exact fun z => nomatch z
theorem PenAt.new1 (h : PenAt H p c T) (n : H q = none) : q ≠ p := fun z => h.here (z ▸ n)
theorem PenAt.new2 (h : PenAt H p c T) (n : H q = none) : q ≠ c := fun z => by
  obtain ⟨cells, t, d, _, b, _⟩ := h
  rw [← z, n] at b
  cases b
theorem PenAt.tx {K : PySem.W.Frag} (h : PenAt H p c T) (e : Exx p H H') : TX K H H' := e.tx h.no
/-- a list of ours has changed -/
theorem TX.put {K : PySem.W.Frag} {l : Addr} {xs : List V} {o : HO} (h : H l = some (.lst xs)) : TX K H (upd H l o) := by
  refine ⟨fun a ys z => ?_, fun a ys z => ?_⟩
  · rcases z with (z | ⟨o', z⟩) | z
    · exact .inl (.inl (by rw [upd_ne (ne_of z h (fun q => nomatch q))]; exact z))
    · exact .inl (.inr ⟨o', by rw [upd_ne (ne_of z h (fun q => nomatch q))]; exact z⟩)
    · exact .inr z
  · rw [upd_ne (ne_of z h (fun q => nomatch q))]
    exact z
theorem Exx.mut {l : Addr} {o : HO} (e : Exx p H H') (n : H l = none) : Exx p H (upd H' l o) := fun a u na ha => by
  rw [upd_ne (ne_of_none ha n)]
  exact e a u na ha
end
theorem fresh_exx {p q : Addr} {H H' : Hp} (e : Exx p H H') (hp : H' p ≠ none) (h : H' q = none) : H q = none := by
  cases z : H q with
  | none => rfl
  | some o =>
    by_cases n : q = p
    · subst n; exact absurd h hp
    · rw [e q o n z] at h; cases h

def spPen (K : PySem.W.Frag) : Sp := fun vs H Q _ => ∃ (a : Addr) (ns : List Int), vs = [.ref a] ∧ SqL K H a (ns.map V.int) ∧ ∀ H' p, Evl.Ex H H' → H p = none → (∃ c, PenAt H' p c 0) → Q (.ref p) H'
def spDraw : Sp := fun vs H Q _ => ∃ (p c : Addr) (n T : Int), vs = [.ref p, .int n] ∧ PenAt H p c T ∧ 1 ≤ n ∧ n ≤ 1000000 ∧ T ≤ 10000000 ∧ ∀ i H', 0 ≤ i → i < n → Exx p H H' → PenAt H' p c (T + 1) → Q (.int i) H'
def spPick (K : PySem.W.Frag) : Sp := fun vs H Q _ => ∃ (p c a : Addr) (T : Int) (xs : List V), vs = [.ref p, .ref a] ∧ PenAt H p c T ∧ T ≤ 10000000 ∧ SqL K H a xs ∧ a ≠ p ∧ xs ≠ [] ∧ xs.length ≤ 1000000 ∧
  ∀ x H', x ∈ xs → Exx p H H' → PenAt H' p c (T + 1) → Q x H'
theorem ints_shaped (ns : List Int) : SeqAt.shaped (.list (ns.map PyData.int)) = true := by
  have h1 : ∀ ns : List Int, PyData.canLayAll0 (ns.map PyData.int) = true := by
    intro ns
    induction ns with
    | nil => rfl
    | cons n ns ih => simp [PyData.canLayAll0, PyData.canLay0, ih]
  have h2 : ∀ ns : List Int, PyData.depthAll (ns.map PyData.int) ≤ 1 := by
    intro ns
    induction ns with
    | nil => simp [PyData.depthAll]
    | cons n ns ih => simp [PyData.depthAll, PyData.depth]; omega
  unfold SeqAt.shaped
  simp only [PyData.canLay0, PyData.depth, h1, Bool.true_and]
  have := h2 ns
  exact decide_eq_true (by omega)
theorem dp_ints {K : PySem.W.Frag} {H : Hp} : ∀ ns : List Int, DpAll K H (ns.map V.int) (ns.map PyData.int)
  | [] => .nil
  | n :: ns => .cons (.int n) (dp_ints ns)
section
variable {P : Program} {w : World} {K : PySem.W.Frag} {mg : Str → Option Value} {base : Heap}
theorem cut63 (ns : List Int) : cutV (ns.map V.int) none (some 63) = (ns.take 63).map V.int := by
  rw [List.map_take]
  exact cut_take _ 63
theorem ok_pen {f : Addr} {fd : FuncData} (F : Fun K "_law_pen" "_law_pen" sPen f fd) (B : Bi mg) : FnOk P w K mg base CX0 1 f fd ["_law_script"] (spPen K) := by
  refine F.ok scPen (fun vs H Q E h => ?_) (fun cdv A outer s H vs Q E hr h => ?_)
  · obtain ⟨a, ns, rfl, _⟩ := h; rfl
  · obtain ⟨a, ns, rfl, hS, q⟩ := h
    refine ⟨_, pss_one (ps_ret (pe_lst (pa_cons (pe_callTy call_list_of (by rfl) B.list PyProof.Rows.boot_list (pa_cons (pe_slice sl_list (pv 0) po_none (po_some pe_int)) pa_nil)) (pa_cons pe_int (pa_cons pe_int pa_nil))))), ?_⟩
    refine ⟨.ref a, rfl, 63, rfl, a, _, rfl, hS, fun c1 n1 => ?_⟩
    rw [cut63]
    have x2 := Evl.Ex.new (o := .lst ((ns.take 63).map V.int)) n1
    refine ⟨c1, _, rfl, .inl (.inl (.inl upd_same)), fun c n2 => ?_⟩
    have x3 := Evl.Ex.new (o := .lst ((ns.take 63).map V.int)) n2
    refine ⟨(by show 3 ≤ sizeLine; decide), fun p n3 => ?_⟩
    have x4 := Evl.Ex.new (o := .lst [.ref c, .int 0, .int 0]) n3
    have hc := x4 _ _ (upd_same (H := upd H c1 (.lst ((ns.take 63).map V.int))) (a := c) (o := .lst ((ns.take 63).map V.int)))
    refine q _ p (x2.trans (x3.trans x4)) (Evl.fresh_back (x2.trans x3) n3) ⟨c, ns.take 63, 0, 0, upd_same, hc, fun z => ?_, by rw [List.length_take]; omega, Int.le_refl _, Int.le_refl _, Int.le_refl _⟩
    rw [z] at n2
    rw [← z, upd_same] at n3
    cases n3
end
end Wb

set_option Elab.async false
set_option linter.all false
set_option maxRecDepth 100000
set_option maxHeartbeats 4000000
set_option pp.maxSteps 600
set_option pp.deepTerms false
namespace Wb
open PySem PySem.Spec PyProof.Rows L2
section
variable {P : Program} {w : World} {K : PySem.W.Frag} {mg : Str → Option Value} {base : Heap}
theorem bndM (x m : Int) (h0 : 0 < m) (h1 : m ≤ 2147483647) : 0 ≤ x % m ∧ x % m < 2147483647 := by
  have a1 := Int.emod_nonneg x (show m ≠ 0 by omega)
  have a2 := Int.emod_lt_of_pos x h0
  omega
theorem ok_draw {f : Addr} {fd : FuncData} (F : Fun K "_law_draw" "_law_draw" sDraw f fd) (B : Bi mg) : FnOk P w K mg base CX0 1 f fd ["_law_pen_here", "_law_many"] spDraw := by
  refine F.ok scDraw (fun vs H Q E h => ?_) (fun cdv A outer s H vs Q E hr h => ?_)
  · obtain ⟨p, c, n, T, rfl, _⟩ := h; rfl
  · obtain ⟨p, c, n, T, rfl, ⟨cells, t, d, hp, hc, ncp, c63, t0, t1, d0⟩, n1, n2, T7, q⟩ := h
    have hu := hu_of hr
    refine ⟨_, pss_cons (ps_if (pt_cmpR op_gt (pe_ix ix_list (pv 0) pe_int (fun _ _ => rfl)) pe_int (nomark _))
        (pss_cons (ps_set (i := 2) scDraw.nd rfl (.inl rfl) (pe_op op_mod (pe_ix ix_list (pv 0) pe_int (fun _ _ => rfl)) (pv 1)))
        (pss_cons (ps_asg (pe_op op_fdiv (pe_ix ix_list (pv 0) pe_int (fun _ _ => rfl)) (pv 1)) (pg_sub (pv 0) pe_int set_list))
        (pss_one (ps_ret (pv 2))))) pss_nil)
      (pss_cons (ps_set (i := 3) scDraw.nd rfl (.inl rfl) (pe_ix ix_list (pv 0) pe_int (fun _ _ => rfl)))
      (pss_cons (ps_asg (pe_op op_add (pv 3) pe_int) (pg_sub (pv 0) pe_int set_list))
      (pss_cons (ps_set (i := 4) scDraw.nd rfl (.inl rfl) pe_int)
      (Evl.pss_cut (ps_if (pt_cmpR op_gt (pe_callB call_len_seq (by rfl) B.len PySem.boot_len (pa_cons (pe_ix ix_list (pv 0) pe_int (fun _ _ => rfl)) pa_nil)) pe_int (nomark _))
        (pss_one (ps_set (i := 4) scDraw.nd rfl (.inl rfl) (pe_ix ix_list (pe_ix ix_list (pv 0) pe_int (fun _ _ => rfl)) (pe_op op_mod (pv 3) (pe_callB call_len_seq (by rfl) B.len PySem.boot_len (pa_cons (pe_ix ix_list (pv 0) pe_int (fun _ _ => rfl)) pa_nil))) (fun _ _ => rfl)))) pss_nil)
      (Evl.pss_cut (ps_if (PW.pt (pw_and (pt_cmpR op_lt (pv 3) (pe_callB call_len_seq (by rfl) B.len PySem.boot_len (pa_cons (pe_ix ix_list (pv 0) pe_int (fun _ _ => rfl)) pa_nil)) (nomark _)) (pw_and1 (pt_cmpR op_ge (pv 4) (pe_op op_pow pe_int pe_int) (nomark _)))))
        (pss_cons (ps_asg (pe_op op_fdiv (pe_op op_sub (pv 4) (pe_op op_pow pe_int pe_int)) (pv 1)) (pg_sub (pv 0) pe_int set_list))
        (pss_one (ps_ret (pe_op op_mod (pe_op op_sub (pv 4) (pe_op op_pow pe_int pe_int)) (pv 1))))) pss_nil)
      (pss_cons (ps_set (i := 5) scDraw.nd rfl (.inl rfl) (pe_op op_mod (pe_op op_mul (pe_op op_add (pe_op op_mod (pv 4) pe_int) pe_int) (pe_op op_add (pe_op op_add (pe_op op_mul (pv 3) (pv 3)) (pe_op op_mul pe_int (pv 3))) pe_int)) pe_int))
      (pss_cons (ps_set (i := 5) scDraw.nd rfl (.inl rfl) (pe_op op_mod (pe_op op_mul (pe_op op_mod (pe_op op_add (pe_op op_pow (pv 5) pe_int) (pe_op op_mul pe_int (pv 3))) pe_int) pe_int) pe_int))
      (pss_one (ps_ret (pe_op op_mod (pe_op op_fdiv (pv 5) pe_int) (pv 1))))))))))), ?_⟩
    have n0 : 0 < n := by omega
    have nb : 0 < n ∧ n < 1073741824 := ⟨n0, by omega⟩
    have at0 : ∀ {a b c : V}, atI [a, b, c] 0 = some a := fun {_ _ _} => atI_nat (j := 0) rfl
    have at1 : ∀ {a b c : V}, atI [a, b, c] 1 = some b := fun {_ _ _} => atI_nat (j := 1) rfl
    have at2 : ∀ {a b c : V}, atI [a, b, c] 2 = some c := fun {_ _ _} => atI_nat (j := 2) rfl
    have sl : ∀ {H' : Hp} {xs : List V}, H' p = some (.lst xs) → SqL K H' p xs := fun {_ _} e => SqL.of e
    -- the digits of a great cell
    refine ⟨.ref p, rfl, p, _, 2, .int d, rfl, rfl, sl hp, at2, d, 0, rfl, rfl, _, rfl, ?_⟩
    refine ite2 (fun _ => ?_) (fun _ => ?_)
    · refine ⟨.ref p, rfl, p, _, 2, .int d, rfl, rfl, sl hp, at2, .int n, rfl, d, n, rfl, rfl, n0, ?_⟩
      refine ⟨.ref p, rfl, p, _, 2, .int d, rfl, rfl, sl hp, at2, .int n, rfl, d, n, rfl, rfl, nb, .ref p, rfl, p, _, 2, 2, rfl, rfl, hp, rfl, .int (d % n), rfl, ?_⟩
      exact q _ _ (Int.emod_nonneg _ (by omega)) (Int.emod_lt_of_pos _ n0) Exx.put ⟨cells, t, d / n, upd_same, by rw [upd_ne ncp]; exact hc, ncp, c63, t0, by omega, Int.ediv_nonneg d0 (by omega)⟩
    · refine ⟨.ref p, rfl, p, _, 1, .int t, rfl, rfl, sl hp, at1, ?_⟩
      refine ⟨.int t, rfl, t, 1, rfl, rfl, .ref p, rfl, p, _, 1, 1, rfl, rfl, hp, rfl, ?_⟩
      have hp1 : (upd H p (.lst ([V.ref c, .int t, .int d].set 1 (.int (t + 1))))) p = some (.lst [.ref c, .int (t + 1), .int d]) := upd_same
      have hc1 : (upd H p (.lst ([V.ref c, .int t, .int d].set 1 (.int (t + 1))))) c = some (.lst (cells.map V.int)) := by rw [upd_ne ncp]; exact hc
      have x1 : Exx p H (upd H p (.lst ([V.ref c, .int t, .int d].set 1 (.int (t + 1))))) := Exx.put
      generalize upd H p (.lst ([V.ref c, .int t, .int d].set 1 (.int (t + 1)))) = H1 at hp1 hc1 x1
      refine ⟨fun σ H' => ∃ cell : Int, σ = [some (.ref p), some (.int n), none, some (.int t), some (.int cell), none] ∧ Evl.Ex H1 H', ?_, ?_⟩
      · have e1 : Evl.Ex H1 H1 := Evl.Ex.refl _
        have hp2 := hp1
        have hc2 := hc1
        refine ⟨.ref p, rfl, p, _, 0, .ref c, rfl, rfl, sl hp1, at0, c, _, rfl, .inl (.inl (.inl hc1)), ((cells.map V.int).length : Nat), 0, rfl, rfl, _, rfl, ?_⟩
        cases hcells : cells with
        | nil =>
          refine iteF ?_
          exact ⟨17, rfl, e1⟩
        | cons c0 cs =>
          refine ite2 (fun _ => ?_) (fun hc => absurd (decide_eq_true (by rw [List.length_map, List.length_cons]; omega)) hc)
          have lp : 0 < cells.length := by rw [hcells]; exact Nat.succ_pos _
          have hlt : (t % (cells.length : Int)).toNat < cells.length := by
            have h1 := Int.emod_nonneg t (show (cells.length : Int) ≠ 0 by omega)
            have h2 := Int.emod_lt_of_pos t (show (0 : Int) < cells.length by omega)
            omega
          have hix : ((t % (cells.length : Int)).toNat : Int) = t % ((cells.map V.int).length : Nat) := by
            have h1 := Int.emod_nonneg t (show (cells.length : Int) ≠ 0 by omega)
            rw [List.length_map]
            omega
          refine ⟨.ref p, rfl, p, _, 0, .ref c, rfl, rfl, sl hp2, at0, .int t, rfl, .ref p, rfl, p, _, 0, .ref c, rfl, rfl, sl hp2, at0, c, _, rfl, .inl (.inl (.inl hc2)), t, _, rfl, rfl, (by rw [List.length_map]; omega), c, _, _, .int (cells[(t % (cells.length : Int)).toNat]), rfl, rfl, .inl (.inl hc2), ?_, ?_⟩
          · rw [← hix]
            exact atI_nat (map_int_get (List.getElem?_eq_getElem hlt))
          · exact ⟨_, rfl, e1⟩
      · rintro σ H2 ⟨cell, rfl, e2⟩
        have hp2 := e2 _ _ hp1
        have hc2 := e2 _ _ hc1
        have x2 := x1.trans (Exx.ex e2)
        have fin : ∀ i : Int, 0 ≤ i → i < n → Q (.int i) H2 := fun i h1 h2 => q i H2 h1 h2 x2 ⟨cells, t + 1, d, hp2, hc2, ncp, c63, by omega, by omega, d0⟩
        have p18 : (0 : Int) ≤ 18 ∧ (18 : Int) ≤ 1000000 ∧ (10 : Int).natAbs < 2 ^ 64 := by decide
        refine ⟨fun σ H' => σ = [some (.ref p), some (.int n), none, some (.int t), some (.int cell), none] ∧ H' = H2, ?_, ?_⟩
        · refine ⟨.int t, rfl, .ref p, rfl, p, _, 0, .ref c, rfl, rfl, sl hp2, at0, c, _, rfl, .inl (.inl (.inl hc2)), t, _, rfl, rfl, _, rfl, ?_⟩
          refine ite2 (fun _ => ?_) (fun _ => ⟨rfl, rfl⟩)
          refine ⟨.int cell, rfl, 10, 18, rfl, rfl, p18, cell, _, rfl, rfl, _, rfl, ?_⟩
          refine ite2 (fun hge => ?_) (fun _ => ⟨rfl, rfl⟩)
          have ge : (10 : Int) ^ (18 : Int).toNat ≤ cell := of_decide_eq_true hge
          refine ⟨.int cell, rfl, 10, 18, rfl, rfl, p18, cell, _, rfl, rfl, .int n, rfl, _, n, rfl, rfl, nb, .ref p, rfl, p, _, 2, 2, rfl, rfl, hp2, rfl, ?_⟩
          refine ⟨.int cell, rfl, 10, 18, rfl, rfl, p18, cell, _, rfl, rfl, .int n, rfl, _, n, rfl, rfl, n0, ?_⟩
          exact q _ _ (Int.emod_nonneg _ (by omega)) (Int.emod_lt_of_pos _ n0) (x2.trans Exx.put) ⟨cells, t + 1, _, upd_same, by rw [upd_ne ncp]; exact hc2, ncp, c63, by omega, by omega, Int.ediv_nonneg (Int.sub_nonneg_of_le ge) (by omega)⟩
        · rintro σ H' ⟨rfl, rfl⟩
          have tb : -(2 ^ 64) < t ∧ t < 2 ^ 64 := ⟨by omega, by omega⟩
          have m1 : (0 : Int) < 2147483629 := by decide
          have m2 : (0 : Int) < 2147483647 := by decide
          have m3 : (0 : Int) < 2147483587 := by decide
          have m4 : (0 : Int) < 2147483399 := by decide
          have c1 := bndM cell 2147483629 (by decide) (by decide)
          have cb : -(2 ^ 64) < cell % 2147483629 + 19 ∧ cell % 2147483629 + 19 < 2 ^ 64 := ⟨by omega, by omega⟩
          refine ⟨.int cell, rfl, cell, 2147483629, rfl, rfl, m1, _, 19, rfl, rfl, .int t, rfl, .int t, rfl, t, t, rfl, rfl, .inl tb, .int t, rfl, 3, t, rfl, rfl, .inl (by decide), _, _, rfl, rfl, _, 7, rfl, rfl, _, _, rfl, rfl, .inl cb, _, 2147483647, rfl, rfl, m2, ?_⟩
          generalize (cell % 2147483629 + 19) * (t * t + 3 * t + 7) = x1
          have b1 := bndM x1 2147483647 (by decide) (by decide)
          have p3 : (0 : Int) ≤ 3 ∧ (3 : Int) ≤ 1000000 ∧ (x1 % 2147483647).natAbs < 2 ^ 64 := ⟨by decide, by decide, by omega⟩
          refine ⟨_, rfl, _, 3, rfl, rfl, p3, .int t, rfl, 48271, t, rfl, rfl, .inl (by decide), _, _, rfl, rfl, _, 2147483587, rfl, rfl, m3, _, 16807, rfl, rfl, .inr (by decide), _, 2147483399, rfl, rfl, m4, ?_⟩
          refine ⟨_, rfl, _, 32, rfl, rfl, (show (0 : Int) < 32 ∧ (32 : Int) < 1073741824 by decide), .int n, rfl, _, n, rfl, rfl, n0, ?_⟩
          exact fin _ (Int.emod_nonneg _ (by omega)) (Int.emod_lt_of_pos _ n0)
theorem ok_pick {f f1 : Addr} {fd fd1 : FuncData} (F : Fun K "_law_pick" "_law_pick" sPick f fd) (F1 : Fun K "_law_draw" "_law_draw" sDraw f1 fd1) (b1 : Binds K fd1 ["_law_pen_here", "_law_many"] []) (g1 : mg "_law_draw" = some (.ref f1)) (B : Bi mg) :
    FnOk P w K mg base CX0 2 f fd ["_law_pen_here", "_law_lot"] (spPick K) := by
  have G1 : FnOk P w K mg base CX0 1 f1 fd1 ["_law_pen_here", "_law_many"] spDraw := ok_draw F1 B
  refine F.ok scPick (fun vs H Q E h => ?_) (fun cdv A outer s H vs Q E hr h => ?_)
  · obtain ⟨p, c, a, T, xs, rfl, _⟩ := h; rfl
  · obtain ⟨p, c, a, T, xs, rfl, hp, T7, hx, nap, ne, xl, q⟩ := h
    refine ⟨_, pss_one (ps_ret (pe_ix ix_list (pv 1) (pe_call G1 hr (by rfl) g1 F1.kp b1 .nil pass0 (pa_cons (pv 0) (pa_cons (pe_callB call_len_seq (by rfl) B.len PySem.boot_len (pa_cons (pv 1) pa_nil)) pa_nil))) (fun _ _ => rfl))), ?_⟩
    have lp : 0 < xs.length := List.length_pos_iff.mpr ne
    refine ⟨.ref a, rfl, .ref p, rfl, .ref a, rfl, a, xs, rfl, .inl hx, p, c, _, T, rfl, hp, by omega, by omega, T7, fun i H' h0 h1 e hp' => ?_⟩
    have hlt : i.toNat < xs.length := by omega
    obtain ⟨y, hy⟩ : ∃ y, xs[i.toNat]? = some y := ⟨_, List.getElem?_eq_getElem hlt⟩
    refine ⟨a, xs, i, y, rfl, rfl, e.l nap hx, ?_, ?_⟩
    · have z : ((i.toNat : Nat) : Int) = i := by omega
      rw [← z]
      exact atI_nat hy
    · exact q _ H' (List.mem_of_getElem? hy) e hp'
end
end Wb

set_option Elab.async false
set_option linter.all false
set_option maxRecDepth 100000
set_option maxHeartbeats 4000000
namespace TS
open PySem PyProof.Rows
section
variable {prog : Program} {w : World} {A : Around} {E : Value → Shared → Prop} {s : Shared}
/-- sorted of a list of tuples that are held against one another by a rank -/
theorem sorted_rank {l : Addr} {vs : List Value} {r : Value → Int} {Q : Value → Shared → Prop} (hl : s.heap.IsList l vs.toArray) (h64 : vs.length < 64)
    (hK : ∀ (h' : Heap), (∀ b o, s.heap.get? b = some o → o.cls = .type "tuple" → h'.get? b = some o) → 2 ≤ vs.length → ∀ (A' : Around) (E' : Value → Shared → Prop) (Q' : SortKind → Shared → Prop), (∀ κ, Cmp prog w A' { s with heap := h' } κ (pairsOf vs) r → Q' κ { s with heap := h' }) →
      wpAny (model prog w) A' (keyKind' vs.toArray) Q' E' { s with heap := h' })
    (h : ∀ out : Array Value, out.toList.Perm vs → out.toList.Pairwise (fun u v => r u ≤ r v) → Q (.ref (s.heap.objs.size + 1)) { s with heap := sortedAll s.heap vs out }) :
    wpAny (model prog w) A (call (.builtin "sorted") [.ref l]) Q E s := by
  refine Calls.call_function_entry kind_sorted plain_sorted entry_sorted (args_sorted1 _) ?_
  unfold Builtin.«sorted»
  refine wpAny_bind (m := checkCount "sorted" 1 1 _) (wpAny_pure ?_)
  refine wpAny_bind (collect_list hl ?_ (by rw [sizeLine_eq]; omega))
  refine wpAny_bind (wpAny_newList ?_ (by rw [sizeLine_eq]; omega))
  have hsz : ((s.heap.push (seqObj "list" #[] 0)).update s.heap.objs.size (Obj.mapSeq (· ++ vs.toArray))).objs.size = s.heap.objs.size + 1 := by
    rw [Heap.size_update, size_push']
  have hoL : (((s.heap.push (seqObj "list" #[] 0)).update s.heap.objs.size (Obj.mapSeq (· ++ vs.toArray))).push (seqObj "list" vs.toArray 0)).get? (s.heap.objs.size + 1) = some (seqObj "list" vs.toArray 0) := by
    rw [← hsz]; exact Heap.get?_push_size _ rfl
  have keep : ∀ b o, s.heap.get? b = some o → o.cls = .type "tuple" → (((s.heap.push (seqObj "list" #[] 0)).update s.heap.objs.size (Obj.mapSeq (· ++ vs.toArray))).push (seqObj "list" vs.toArray 0)).get? b = some o := fun b o q _ => by
    have hlt : b < s.heap.objs.size := Heap.lt_size q
    rw [Heap.get?_push_ne _ _ _ (by rw [hsz]; exact Nat.ne_of_lt (Nat.lt_succ_of_lt hlt)), Heap.get?_update_ne _ _ _ _ (Nat.ne_of_lt hlt), Heap.get?_push_ne _ _ _ (Nat.ne_of_lt hlt)]
    exact q
  show wpAny _ _ _ _ _ { s with heap := ((s.heap.push (seqObj "list" #[] 0)).update s.heap.objs.size (Obj.mapSeq (· ++ vs.toArray))).push (seqObj "list" vs.toArray 0) }
  rw [hsz]
  refine wpAny_bind (wpAny_holding (wpAny_call_entry slot_list_sort ⟨_, hoL, rfl⟩ entry_list_sort (SK.plain_sort (r := r) hoL h64 (fun h2 Q' hQ => ?_) fun ps out h1 h2 h3 => ⟨_, rfl, ?_⟩) (args_list_sort _)))
  · refine hK _ (fun b o e hc => ?_) h2 _ _ _ hQ
    have e1 := keep b o e hc
    refine midHeap_old ?_ e1
    rintro rfl
    rw [hoL] at e1
    have e' : seqObj "list" vs.toArray 0 = o := Option.some.inj e1
    rw [← e'] at hc
    have c' : Value.type "list" = Value.type "tuple" := hc
    injection c' with c''
    exact absurd c'' (by decide)
  · obtain ⟨p, o⟩ := out_rank h1 h2 h3
    exact wpAny_pure ⟨_, rfl, h out p o⟩
theorem eqBool_same {v : Value} {Q : Bool → Shared → Prop} (h : Q true s) : wpAny (model prog w) A (eqBool v v) Q E s := by
  unfold eqBool
  refine wpAny_holding ?_
  rw [if_pos (beq_self_eq_true v)]
  first
    | exact wpAny_bind (wpAny_rule (wpAny_pure h))
    | exact wpAny_pure h
    | exact wpAny_bind (wpAny_rule h)
/-- a gap's tuple, by the places it leads from and to -/
def G4 (h : Heap) (v : Value) (k : Int × Int) : Prop := ∃ (a : Addr) (o : Obj) (t u : Tok) (q : Int) (z : Tok) (x : Value) (n : Nat), v = .ref a ∧ h.get? a = some o ∧ o.cls = .type "tuple" ∧ o.data = .seq #[.int k.1 t, .int k.2 u, .int q z, x] n
theorem G4.keeps {h h' : Heap} {v : Value} {k : Int × Int} (x : G4 h v k) (kp : ∀ b o, h.get? b = some o → o.cls = .type "tuple" → h'.get? b = some o) : G4 h' v k := by
  obtain ⟨a, o, t, u, q, z, y, n, e, ho, hc, hd⟩ := x
  exact ⟨a, o, t, u, q, z, y, n, e, kp _ _ ho hc, hc, hd⟩
theorem g4_firsts {h : Heap} {k : Value → Int × Int} : ∀ vs : List Value, (∀ v ∈ vs, G4 h v (k v)) → ∃ fs, PySem.W.KatTups h vs fs ∧ fs.length = vs.length ∧ ∀ f, f ∈ fs → ∃ n t, f = Value.int n t
  | [], _ => ⟨[], PySem.W.KatTups.nil, rfl, fun f hf => by simp at hf⟩
  | v :: vs, x => by
    obtain ⟨fs, kt, hl, hi⟩ := g4_firsts vs fun u hu => x u (List.mem_cons_of_mem _ hu)
    obtain ⟨a, o, t, u, q, z, y, n, e, ho, hc, hd⟩ := x v (List.mem_cons_self ..)
    subst e
    refine ⟨.int (k (.ref a)).1 t :: fs, PySem.W.KatTups.cons ho hc hd rfl kt, by simp [hl], fun f hf => ?_⟩
    rcases List.mem_cons.mp hf with rfl | hf
    · exact ⟨_, _, rfl⟩
    · exact hi f hf
/-- a rank of pairs of places below 4 -/
def rk4 (k : Int × Int) : Int := 4 * k.1 + k.2
theorem g4_kind {vs : List Value} {k : Value → Int × Int} (h2 : 2 ≤ vs.length) (x : ∀ v ∈ vs, G4 s.heap v (k v)) (bd : ∀ v ∈ vs, 0 ≤ (k v).1 ∧ (k v).1 < 4 ∧ 0 ≤ (k v).2 ∧ (k v).2 < 4) (inj : ∀ v ∈ vs, ∀ u ∈ vs, k v = k u → v = u) (Q : SortKind → Shared → Prop)
    (h : ∀ κ, Cmp prog w A s κ (pairsOf vs) (fun v => rk4 (k v)) → Q κ s) : wpAny (model prog w) A (keyKind' vs.toArray) Q E s := by
  obtain ⟨fs, kt, hl, hi⟩ := g4_firsts vs x
  refine PySem.W.kat_kind (T := Value.type "int") kt (by omega) (fun f hf => ?_) rfl (h _ ?_)
  · obtain ⟨n, t, rfl⟩ := hi f hf
    exact PySem.W.Looks.of_pure rfl
  · intro p q hp hq Q' E' hQ
    rw [pairsOf_toList] at hp hq
    have mp := (mem_zip_self hp).2
    have mq := (mem_zip_self hq).2
    obtain ⟨p1, p2, p3, p4⟩ := bd _ mp
    obtain ⟨q1, q2, q3, q4⟩ := bd _ mq
    have ij := inj _ mp _ mq
    obtain ⟨a, o, t, u, c, z, y, n, e, ho, hc, hd⟩ := x _ mp
    obtain ⟨a', o', t', u', c', z', y', n', e', ho', hc', hd'⟩ := x _ mq
    have hQ' : Q' (decide (rk4 (k p.1) < rk4 (k q.1))) s := hQ
    unfold rk4 at hQ'
    generalize k p.1 = kp at p1 p2 p3 p4 hQ' hd ij
    generalize k q.1 = kq at q1 q2 q3 q4 hQ' hd' ij
    rw [e, e'] at ij
    rw [e, e']
    refine PySem.W.kat_lt ho hd ho' hd' ?_
    show PySem.W.KatLex prog w A _ (decide (4 < 4)) _ [(.int kp.1 t, .int kq.1 t'), (.int kp.2 u, .int kq.2 u'), (.int c z, .int c' z'), (y, y')] 0 s
    refine PySem.W.kat_cons (wpAny_eqBool_int ?_)
    refine PySem.W.kat_go (fun e1 => ?_) (fun e1 => ?_)
    · have ex : kp.1 = kq.1 := by simpa using e1
      refine PySem.W.kat_yes (PySem.W.kat_cons (wpAny_eqBool_int ?_))
      refine PySem.W.kat_go (fun e2 => ?_) (fun e2 => ?_)
      · have ey : kp.2 = kq.2 := by simpa using e2
        have same : Value.ref a = Value.ref a' := ij (Prod.ext ex ey)
        cases same
        rw [ho] at ho'
        cases ho'
        have E1 : Data.seq #[Value.int kp.1 t, .int kp.2 u, .int c z, y] n = Data.seq #[Value.int kq.1 t', .int kq.2 u', .int c' z', y'] n' := hd.symm.trans hd'
        injection E1 with E2 _
        have E3 := congrArg Array.toList E2
        simp only [List.cons.injEq, Value.int.injEq] at E3
        obtain ⟨_, _, ⟨rfl, rfl⟩, rfl, _⟩ := E3
        have d : decide (4 * kp.1 + kp.2 < 4 * kq.1 + kq.2) = false := decide_eq_false (by omega)
        rw [d] at hQ'
        refine PySem.W.kat_yes (PySem.W.kat_cons (eqBool_same ?_))
        refine PySem.W.kat_yes (PySem.W.kat_cons (eqBool_same ?_))
        exact PySem.W.kat_yes (PySem.W.kat_nil hQ')
      · have ey : ¬ kp.2 = kq.2 := by simpa using e2
        have d : decide (4 * kp.1 + kp.2 < 4 * kq.1 + kq.2) = decide (kp.2 < kq.2) := decide_eq_decide.mpr (by omega)
        rw [d] at hQ'
        exact PySem.W.kat_no (oneLt_ints _ hQ')
    · have ex : ¬ kp.1 = kq.1 := by simpa using e1
      have d : decide (4 * kp.1 + kp.2 < 4 * kq.1 + kq.2) = decide (kp.1 < kq.1) := decide_eq_decide.mpr (by omega)
      rw [d] at hQ'
      exact PySem.W.kat_no (oneLt_ints _ hQ')
end
end TS
namespace Wb
open PySem PySem.Spec PyProof.Rows L2
/-- sorted(xs), xs a list of gaps' tuples, no two of which lead from and to the same places -/
def rSortG (K : PySem.W.Frag) : List V → Hp → VK → Prop := fun vs H Q => ∃ (a : Addr) (xs : List V) (k : V → Int × Int), vs = [V.ref a] ∧ SqL K H a xs ∧ xs.length < 64 ∧
  (∀ x ∈ xs, ∃ (t : Addr) (q : Int) (y : V), x = .ref t ∧ SqT K H t [.int (k x).1, .int (k x).2, .int q, y] ∧ 0 ≤ (k x).1 ∧ (k x).1 < 4 ∧ 0 ≤ (k x).2 ∧ (k x).2 < 4) ∧ (∀ x ∈ xs, ∀ y ∈ xs, k x = k y → x = y) ∧
  ∀ (ys : List V) (p : Addr), ys.Perm xs → ys.Pairwise (fun x y => TS.rk4 (k x) ≤ TS.rk4 (k y)) → H p = none → Q (.ref p) (upd H p (.lst ys))
theorem bkV_back {us : List Value} (h : ∀ u ∈ us, ∃ a, u = Value.ref a) : ∀ u ∈ us, ∀ v ∈ us, bkV u = bkV v → u = v := fun u hu v hv e => by
  obtain ⟨a, rfl⟩ := h u hu
  obtain ⟨b, rfl⟩ := h v hv
  have e' : V.ref a = V.ref b := e
  cases e'
  rfl
theorem cr_sortG {X : Cx} : CallR X (.builtin "sorted") (rSortG X.K) := by
  intro pins s σ H vs us Q I r h
  obtain ⟨a, xs, k, rfl, hs, h64, hx, inj, q⟩ := h
  obtain ⟨its, rv, hl, hz⟩ := I.list hs
  rw [Vals.ref1 r]
  obtain ⟨e1, e2⟩ := bkV_refs rv fun x m => by
    obtain ⟨t, _, _, e, _⟩ := hx x m
    exact ⟨t, e⟩
  have mem : ∀ v ∈ its, bkV v ∈ xs := fun v hv => by rw [e1]; exact List.mem_map.mpr ⟨_, hv, rfl⟩
  have g4 : ∀ v ∈ its, TS.G4 s.heap v (k (bkV v)) := fun v hv => by
    have hm := mem v hv
    obtain ⟨t, rfl⟩ := e2 v hv
    obtain ⟨t', c, y, e, ht, _⟩ := hx _ hm
    cases e
    obtain ⟨its2, r2, ⟨o, ho, hc, n, hd⟩, _⟩ := I.tuple ht
    cases r2 with
    | cons ra r2 =>
      cases r2 with
      | cons rb r2 =>
        cases r2 with
        | cons rc r2 =>
          cases r2 with
          | cons rd r2 =>
            cases r2
            obtain ⟨t1, rfl⟩ := ra
            obtain ⟨t2, rfl⟩ := rb
            obtain ⟨t3, rfl⟩ := rc
            exact ⟨_, o, t1, t2, c, t3, _, n, rfl, ho, hc, hd⟩
  refine TS.sorted_rank (r := fun v => TS.rk4 (k (bkV v))) hl.isList (by rw [← rv.length]; exact h64) (fun h' kp h2 A' E' Q' hQ => ?_) fun out h1 h2 => ?_
  · refine TS.g4_kind (s := { s with heap := h' }) (k := fun v => k (bkV v)) h2 (fun v hv => (g4 v hv).keeps kp) (fun v hv => ?_) (fun v hv u hu e => ?_) Q' hQ
    · obtain ⟨_, _, _, _, _, b⟩ := hx _ (mem v hv)
      exact b
    · exact bkV_back e2 v hv u hu (inj _ (mem v hv) _ (mem u hu) e)
  · obtain ⟨ep, he'⟩ := PyProof.Rows.sortedAll_at s.heap its out
    have h3 : ∀ u ∈ out.toList, ∃ a, u = Value.ref a := fun u hu => e2 u (h1.mem_iff.mp hu)
    have hp : (out.toList.map bkV).Perm xs := by
      rw [e1]
      exact h1.map bkV
    have hlen : (out.toList.map bkV).length ≤ sizeLine := by
      rw [hp.length_eq]
      exact hz
    refine ⟨.ref _, upd H (s.heap.objs.size + 1) (.lst (out.toList.map bkV)), I.laid (t' := s.toks) (fun _ _ => PyProof.Rows.sortedAll_old) (Nat.le_succ _) ⟨hlen, out.toList, ep, bkV_vals h3, he'⟩, rfl, q _ _ hp ?_ (I.hok.fresh (Nat.le_succ _))⟩
    rw [List.pairwise_map]
    exact h2
/-- sorted(xs), xs a list of unlike words of as many places each -/
def rSortW (K : PySem.W.Frag) : List V → Hp → VK → Prop := fun vs H Q => ∃ (a : Addr) (xs : List V) (ws : List (List Int)) (d : Nat), vs = [V.ref a] ∧ SqL K H a xs ∧ xs.length < 64 ∧ Paired (fun v ns => ∃ t, v = V.ref t ∧ H t = some (.tup (ns.map V.int))) xs ws ∧ (∀ ns ∈ ws, ns.length = d ∧ TS.Bd 4 ns) ∧ ws.Nodup ∧
  ∀ (ys : List V) (us : List (List Int)) (p : Addr), ys.length = xs.length → Paired (fun v ns => ∃ t, v = V.ref t ∧ H t = some (.tup (ns.map V.int))) ys us → us.Perm ws → us.Pairwise (fun u v => TS.code 4 u ≤ TS.code 4 v) → H p = none → Q (.ref p) (upd H p (.lst ys))
theorem cr_sortW {X : Cx} : CallR X (.builtin "sorted") (rSortW X.K) := by
  intro pins s σ H vs us Q I r h
  obtain ⟨a, xs, ws, d, rfl, hs, h64, hp, hb, nd, q⟩ := h
  obtain ⟨its, rv, hl, hz⟩ := I.list hs
  rw [Vals.ref1 r]
  have raw : ∀ {t : Addr} {ns : List Int}, H t = some (.tup (ns.map V.int)) → TS.TupInts s.heap (.ref t) ns := fun ht => tupI_raw I (show SqT X.K H _ _ from .inl (.inl ht))
  have pr : ∀ {xs : List V} {us : List Value} {ws : List (List Int)}, Vals xs us → Paired (fun v ns => ∃ t, v = V.ref t ∧ H t = some (.tup (ns.map V.int))) xs ws →
      us.map (TS.intsOf s.heap) = ws ∧ ∀ u ∈ us, ∃ t ns, u = Value.ref t ∧ H t = some (.tup (ns.map V.int)) ∧ TS.intsOf s.heap u = ns ∧ ns ∈ ws := by
    intro xs us ws rv
    induction rv generalizing ws with
    | nil =>
      intro hp
      cases hp
      exact ⟨rfl, fun u hu => absurd hu List.not_mem_nil⟩
    | cons r1 _ ih =>
      intro hp
      cases hp with
      | cons h1 h2 =>
        obtain ⟨t, rfl, ht⟩ := h1
        cases r1
        obtain ⟨i1, i2⟩ := ih h2
        have e := (raw ht).ints
        refine ⟨by rw [List.map_cons, i1, e], fun u hu => ?_⟩
        rcases List.mem_cons.mp hu with rfl | hu
        · exact ⟨t, _, rfl, ht, e, List.mem_cons_self⟩
        · obtain ⟨t', ns, a1, a2, a3, a4⟩ := i2 u hu
          exact ⟨t', ns, a1, a2, a3, List.mem_cons_of_mem _ a4⟩
  obtain ⟨e1, e2⟩ := pr rv hp
  have xsl : its.length = ws.length := by rw [← e1, List.length_map]
  have xw : xs.length = its.length := rv.length
  have ok : TS.TupsOk s.heap d 4 its := fun v hv => by
    obtain ⟨t, ns, rfl, ht, e, hm⟩ := e2 v hv
    exact ⟨ns, raw ht, hb ns hm⟩
  refine TS.sorted_rank (r := fun v => TS.code 4 (TS.intsOf s.heap v)) hl.isList (by omega) (fun h' kp h2 A' E' Q' hQ => ?_) fun out h1 h2 => ?_
  · have d1 : 1 ≤ d := Nat.pos_of_ne_zero fun z => by
      subst z
      have emp : ∀ ns ∈ ws, ns = [] := fun ns hn => List.eq_nil_of_length_eq_zero (hb ns hn).1
      match ws, xsl, nd, emp with
      | [], l, _, _ => rw [l] at h2; simp at h2
      | [_], l, _, _ => rw [l] at h2; simp at h2
      | x :: y :: r, _, n, em =>
        have zx := em x (by simp)
        have zy := em y (by simp)
        rw [zx, zy] at n
        simp at n
    refine TS.kind_tups (s := { s with heap := h' }) d1 h2 (ok.keeps kp) _ (fun v hv ns t => ?_) Q' hQ
    obtain ⟨ns0, t0, _⟩ := ok v hv
    have e : ns = ns0 := t.ints.symm.trans (t0.keeps kp).ints
    rw [e, t0.ints]
  · obtain ⟨ep, he'⟩ := PyProof.Rows.sortedAll_at s.heap its out
    have h3 : ∀ u ∈ out.toList, ∃ a, u = Value.ref a := fun u hu => by
      obtain ⟨t, _, rfl, _⟩ := e2 u (h1.mem_iff.mp hu)
      exact ⟨t, rfl⟩
    have ol : out.toList.length = its.length := h1.length_eq
    refine ⟨.ref _, upd H (s.heap.objs.size + 1) (.lst (out.toList.map bkV)), I.laid (t' := s.toks) (fun _ _ => PyProof.Rows.sortedAll_old) (Nat.le_succ _) ⟨by rw [List.length_map, ol, ← xw]; exact hz, out.toList, ep, bkV_vals h3, he'⟩, rfl, q _ (out.toList.map (TS.intsOf s.heap)) _ (by rw [List.length_map, ol, xw]) ?_ ?_ ?_ (I.hok.fresh (Nat.le_succ _))⟩
    · have go : ∀ us : List Value, (∀ u ∈ us, u ∈ its) → Paired (fun v ns => ∃ t, v = V.ref t ∧ H t = some (.tup (ns.map V.int))) (us.map bkV) (us.map (TS.intsOf s.heap)) := by
        intro us
        induction us with
        | nil => intro _; exact .nil
        | cons u us ih =>
          intro hu
          obtain ⟨t, ns, rfl, ht, e, _⟩ := e2 u (hu u List.mem_cons_self)
          exact .cons ⟨t, rfl, by rw [e]; exact ht⟩ (ih fun v hv => hu v (List.mem_cons_of_mem _ hv))
      exact go _ fun u hu => h1.mem_iff.mp hu
    · rw [← e1]
      exact h1.map _
    · rw [List.pairwise_map]
      exact h2
end Wb

set_option Elab.async false
set_option linter.all false
set_option maxRecDepth 100000
set_option maxHeartbeats 4000000
set_option pp.maxSteps 600
set_option pp.deepTerms false
namespace Wb
open PySem PySem.Spec PyProof.Rows L2
theorem inAll_nil : InAll [] [] := ⟨rfl, fun i n m h => by simp at h⟩
theorem inAll_snoc {xs ms : List Int} {x m : Int} (h : InAll xs ms) (h0 : 0 ≤ x) (h1 : x < m) : InAll (xs ++ [x]) (ms ++ [m]) := by
  refine ⟨by rw [List.length_append, List.length_append, h.1]; rfl, fun i a b ha hb => ?_⟩
  by_cases hi : i < xs.length
  · rw [List.getElem?_append_left hi] at ha
    rw [List.getElem?_append_left (by rw [← h.1]; exact hi)] at hb
    exact h.2 i a b ha hb
  · rw [List.getElem?_append_right (by omega)] at ha
    rw [List.getElem?_append_right (by rw [← h.1]; omega)] at hb
    by_cases e : i - xs.length = 0
    · rw [e] at ha
      rw [← h.1, e] at hb
      cases ha
      cases hb
      exact ⟨h0, h1⟩
    · rw [List.getElem?_eq_none (by simp; omega)] at ha
      cases ha
theorem inAll_take {xs ms : List Int} (h : InAll xs ms) (k : Nat) : InAll (xs.take k) (ms.take k) := by
  refine ⟨by rw [List.length_take, List.length_take, h.1], fun i a b ha hb => ?_⟩
  rw [List.getElem?_take] at ha hb
  split at ha
  · rename_i hk
    rw [if_pos hk] at hb
    exact h.2 i a b ha hb
  · cases ha
/-- [draw(pen, one) for one in a list of ints] -/
theorem lc_draws {K : PySem.W.Frag} {vs : List Nat} {i : Nat} {σ : L2.St} {H : Hp} {Q : VK} {tl : TE} {wds : List Int} {p c : Addr} {T : Int} (hp : PenAt H p c T)
    (ha : ∀ Q' : VK, (∀ a H1, Exx p H H1 → PenAt H1 p c T → SqL K H1 a (wds.map V.int) → a ≠ p → Q' (.ref a) H1) → tl σ H Q')
    (hT : T ≤ 9000000) (hw : ∀ x ∈ wds, 1 ≤ x ∧ x ≤ 1000000) (hl : wds.length ≤ 100)
    (h0 : ∀ x, ((wipe σ vs).set i (some x))[0]? = some (some (.ref p))) (hi : ∀ x, ((wipe σ vs).set i (some x))[i]? = some (some x)) (hwp : ∀ x, wipe ((wipe σ vs).set i (some x)) vs = wipe σ vs)
    (q : ∀ H' D xs, Exx p H H' → PenAt H' p c (T + (wds.length : Nat)) → H D = none → H' D = some (.lst (xs.map V.int)) → InAll xs wds → Q (.ref D) H') :
    tLc (iList K tl) (gName i) tYes (tCall spDraw [] E0 (tCons (tVar 0) (tCons (tVar i) tNil))) vs σ H Q := by
  refine ha _ fun a H1 x1 hp1 ha1 nap => ⟨a, rfl, ⟨_, ha1⟩, fun D hD => ?_⟩
  have nDp : D ≠ p := hp1.new1 hD
  have nDc : D ≠ c := hp1.new2 hD
  refine lc_list (K := K) (a := a) (xs := wds.map V.int) (fun m H' => ∃ xs : List Int, Exx p H1 H' ∧ PenAt H' p c (T + (m : Nat)) ∧ H' D = some (.lst (xs.map V.int)) ∧ InAll xs (wds.take m)) ⟨[], Exx.ex (Evl.Ex.new hD), ?_, upd_same, inAll_nil⟩ ?_ ?_ ?_
  · have := hp1.put (o := .lst []) nDp nDc
    simpa using this
  · rintro m H' _ ⟨_, x, _⟩
    exact x.l nap ha1
  · rintro m x H2 hm ⟨xs, x2, hp2, hD2, hin⟩
    obtain ⟨wd, hwd, rfl⟩ := get_map_int hm
    have ml : m < wds.length := (List.getElem?_eq_some_iff.mp hwd).1
    obtain ⟨w1, w2⟩ := hw wd (List.mem_of_getElem? hwd)
    refine ⟨hwp _, ?_⟩
    refine ⟨.ref p, h0 _, .int wd, hi _, p, c, wd, _, rfl, hp2, w1, w2, by omega, fun r H3 r0 r1 x3 hp3 => ?_⟩
    have hD3 := x3 _ _ nDp hD2
    have xl : xs.length = m := by
      have := hin.1
      rw [List.length_take] at this
      omega
    refine ⟨_, hD3, Nat.lt_of_le_of_lt (by rw [List.length_map, xl]; omega : (xs.map V.int).length ≤ 100) (by decide), xs ++ [r], (x2.trans x3).mut hD, (hp3.put nDp nDc).mono (by omega), ?_, ?_⟩
    · rw [upd_same, List.map_append]
      rfl
    · rw [take_succ_get hwd]
      exact inAll_snoc hin r0 r1
  · rintro H2 ⟨xs, x2, hp2, hD2, hin⟩
    rw [List.length_map] at hp2 hin
    rw [List.take_length] at hin
    exact q H2 D xs (x1.trans x2) hp2 (fresh_exx x1 hp1.here hD) hD2 hin
def rTupK (K : PySem.W.Frag) : List V → Hp → VK → Prop := fun xs H Q => ∃ p ys, xs = [.ref p] ∧ ((SqL K H p ys ∧ ∀ l, H l = none → Q (.ref l) (upd H l (.tup ys))) ∨ (SqT K H p ys ∧ Q (.ref p) H))
theorem call_tupK {X : Cx} : CallR X (.type "tuple") (rTupK X.K) := call_tuple_of
/-! ### codes and the tuples' order -/
theorem lex_of_code {B : Int} : ∀ {u w : List Int}, u.length = w.length → TS.Bd B u → TS.Bd B w → TS.code B u ≤ TS.code B w → u ≠ w → HT.lexLt u w = true
  | [], [], _, _, _, _, ne => absurd rfl ne
  | x :: u, y :: w, hl, hu, hw, hc, ne => by
    have hl' : u.length = w.length := by simpa using hl
    have hu' : TS.Bd B u := fun m hm => hu m (List.mem_cons_of_mem _ hm)
    have hw' : TS.Bd B w := fun m hm => hw m (List.mem_cons_of_mem _ hm)
    rw [HT.lexLt_cons]
    by_cases e : x = y
    · subst e
      rw [if_pos rfl]
      refine lex_of_code hl' hu' hw' ?_ (fun z => ne (by rw [z]))
      apply Int.not_lt.mp
      intro z
      have := (TS.code_same (d := x) hl'.symm).mpr z
      omega
    · rw [if_neg e]
      apply decide_eq_true
      apply Int.not_le.mp
      intro z
      have := TS.code_lt hl'.symm hw' hu' (show y < x by omega)
      omega
  | [], _ :: _, hl, _, _, _, _ => by simp at hl
  | _ :: _, [], hl, _, _, _, _ => by simp at hl
theorem nodup_le {α : Type} [DecidableEq α] : ∀ {xs ys : List α}, xs.Nodup → (∀ x ∈ xs, x ∈ ys) → xs.length ≤ ys.length
  | [], _, _, _ => Nat.zero_le _
  | x :: xs, ys, hn, h => by
    rw [List.nodup_cons] at hn
    have hx : x ∈ ys := h x List.mem_cons_self
    have ih := nodup_le (xs := xs) (ys := ys.erase x) hn.2 (fun y hy => (List.mem_erase_of_ne (fun (e : y = x) => hn.1 (by rw [← e]; exact hy))).mpr (h y (List.mem_cons_of_mem _ hy)))
    rw [List.length_erase_of_mem hx] at ih
    have := List.length_pos_of_mem hx
    rw [List.length_cons]
    omega
theorem le_sum : ∀ {xs : List Nat} {x : Nat}, x ∈ xs → x ≤ xs.sum
  | y :: xs, x, h => by
    rw [List.sum_cons]
    rcases List.mem_cons.mp h with rfl | h
    · exact Nat.le_add_right _ _
    · have := le_sum h
      omega
theorem keys_of {K : PySem.W.Frag} {H : Hp} : ∀ {vs : List V} {ws : List Word}, Paired (Wd K H) vs ws → ∃ ks : List (Addr × List Int), vs = ks.map (fun p => V.ref p.1) ∧ ks.map (·.2) = ws ∧ ∀ p ∈ ks, H p.1 = some (.tup (p.2.map V.int))
  | [], [], _ => ⟨[], rfl, rfl, fun p hp => (by cases hp)⟩
  | v :: vs, w :: ws, h => by
    cases h with
    | cons r t =>
      obtain ⟨ks, h1, h2, h3⟩ := keys_of t
      obtain ⟨a, rfl, ha⟩ := r
      refine ⟨(a, w) :: ks, by rw [h1]; rfl, by rw [← h2]; rfl, fun p hp => ?_⟩
      rcases List.mem_cons.mp hp with rfl | hp
      · exact ha
      · exact h3 p hp
theorem rows_of_keys {K : PySem.W.Frag} {H : Hp} : ∀ {ks : List (Addr × List Int)}, (∀ p ∈ ks, H p.1 = some (.tup (p.2.map V.int))) → Paired (Wd K H) (ks.map (fun p => V.ref p.1)) (ks.map (·.2))
  | [], _ => .nil
  | k :: ks, h => .cons ⟨k.1, rfl, h k List.mem_cons_self⟩ (rows_of_keys fun p hp => h p (List.mem_cons_of_mem _ hp))
theorem take_map_succ {bases : List Word} {m : Nat} {b : Word} (k : Nat) (h : bases[m]? = some b) : (bases.take (m + 1)).map (fun u => u.take k) = (bases.take m).map (fun u => u.take k) ++ [b.take k] := by
  rw [take_succ_get h, List.map_append]
  rfl
theorem tcb1 {r : List V → Hp → VK → Prop} {X : TE} {σ : L2.St} {H : Hp} {Q : VK} (h : X σ H (fun x H1 => r [x] H1 Q)) : tCB r (tCons X tNil) σ H Q := h
theorem tcons1 {X : TE} {σ : L2.St} {H : Hp} {Q : List V → Hp → Prop} (h : X σ H (fun x H1 => Q [x] H1)) : tCons X tNil σ H Q := h
theorem tyes1 {σ : L2.St} {H : Hp} {E F : Hp → Prop} (h : E H) : tYes σ H (fun b H3 => if b = true then E H3 else F H3) := h
end Wb

set_option Elab.async false
set_option linter.all false
set_option maxRecDepth 100000
set_option maxHeartbeats 4000000
set_option pp.maxSteps 600
set_option pp.deepTerms false
namespace Wb
open PySem PySem.Spec PyProof.Rows L2
/-! ### data that is small: it can be compared and written -/
structure Fine (d : PyData) (n L : Nat) : Prop where
  lay : d.canLay0 = true
  sho : d.showable = true
  dep : d.depth ≤ n
  len : d.shown.length ≤ L
structure FineAll (ds : List PyData) (n S : Nat) : Prop where
  lay : PyData.canLayAll0 ds = true
  sho : PyData.showableAll ds = true
  dep : PyData.depthAll ds ≤ n
  len : piled (PyData.shownAll ds) ≤ S
theorem FineAll.nil {n : Nat} : FineAll [] n 0 := ⟨rfl, rfl, Nat.zero_le _, Nat.le_refl _⟩
theorem FineAll.cons {d : PyData} {ds : List PyData} {n L S : Nat} (h : Fine d n L) (t : FineAll ds n S) : FineAll (d :: ds) n (L + 2 + S) := by
  obtain ⟨a1, a2, a3, a4⟩ := h
  obtain ⟨b1, b2, b3, b4⟩ := t
  refine ⟨by simp [PyData.canLayAll0, a1, b1], by simp [PyData.showableAll, a2, b2], by simp only [PyData.depthAll]; omega, ?_⟩
  simp only [PyData.shownAll, piled_cons]
  omega
theorem FineAll.rep {n B : Nat} : ∀ {ds : List PyData}, (∀ d ∈ ds, Fine d n B) → FineAll ds n (ds.length * (B + 2))
  | [], _ => by simpa using FineAll.nil
  | d :: ds, h => by
    have := FineAll.cons (h d List.mem_cons_self) (FineAll.rep fun d' hd => h d' (List.mem_cons_of_mem _ hd))
    rw [List.length_cons, Nat.succ_mul, Nat.add_comm]
    exact this
theorem FineAll.mono {ds : List PyData} {n S S' : Nat} (h : FineAll ds n S) (l : S ≤ S') : FineAll ds n S' := ⟨h.1, h.2, h.3, Nat.le_trans h.4 l⟩
theorem Fine.mono {d : PyData} {n n' L L' : Nat} (h : Fine d n L) (a : n ≤ n') (b : L ≤ L') : Fine d n' L' := ⟨h.1, h.2, Nat.le_trans h.3 a, Nat.le_trans h.4 b⟩
theorem join_le (ts : List Str) : (Str.join ", " ts).length ≤ piled ts := by
  cases ts with
  | nil => exact Nat.zero_le _
  | cons t ts =>
    have := join_length_add (t :: ts) (by simp)
    omega
theorem textFrom_le : ∀ (ts : List Str) (k : Nat) (acc : Str), (textFrom k acc ts).length ≤ acc.length + piled ts
  | [], k, acc => by show acc.length ≤ _; omega
  | t :: ts, k, acc => by
    have h := textFrom_le ts (k + 1) (acc ++ (if k > 0 then ", " else "" : String) ++ t)
    have e : (acc ++ (if k > 0 then ", " else "" : String) ++ t).length = acc.length + (if k > 0 then 2 else 0) + t.length := by
      rw [strLen_append, strLen_append]
      split <;> rfl
    have e2 : (if k > 0 then 2 else 0 : Nat) ≤ 2 := by split <;> omega
    rw [piled_cons]
    show (textFrom (k + 1) _ ts).length ≤ _
    omega
theorem fine_tup {ds : List PyData} {n S : Nat} (h : FineAll ds n S) : Fine (.tuple ds) (n + 1) (S + 3) := by
  obtain ⟨b1, b2, b3, b4⟩ := h
  refine ⟨by simpa only [PyData.canLay0] using b1, by simpa only [PyData.showable] using b2, by simp only [PyData.depth]; omega, ?_⟩
  simp only [PyData.shown]
  unfold tupleText
  rw [strLen_append, strLen_append]
  have e1 : ((("(" : String) : Str)).length = 1 := rfl
  have e3 : (((if (PyData.shownAll ds).length == 1 then ",)" else ")" : String) : Str)).length ≤ 2 := by split <;> decide
  have := join_le (PyData.shownAll ds)
  omega
theorem fine_lst {ds : List PyData} {n S : Nat} (h : FineAll ds n S) : Fine (.list ds) (n + 1) (S + 3) := by
  obtain ⟨b1, b2, b3, b4⟩ := h
  refine ⟨by simpa only [PyData.canLay0] using b1, by simpa only [PyData.showable] using b2, by simp only [PyData.depth]; omega, ?_⟩
  simp only [PyData.shown]
  unfold listText
  rw [strLen_append]
  have e1 : ((("]" : String) : Str)).length = 1 := rfl
  have e2 : ((("[" : String) : Str)).length = 1 := rfl
  have := textFrom_le (PyData.shownAll ds) 0 "["
  omega
theorem fine_int {i : Int} (h : i.natAbs < 10 ^ 7) : Fine (.int i) 0 8 := by
  refine ⟨by simp only [PyData.canLay0], ?_, by simp only [PyData.depth]; omega, ?_⟩
  · simp only [PyData.showable]
    refine decide_eq_true ?_
    by_cases z : i.natAbs = 0
    · rw [z]; decide
    · refine (Nat.log2_lt z).mpr (Nat.lt_of_lt_of_le h ?_)
      exact Nat.le_trans (show 10 ^ 7 ≤ 2 ^ 24 by decide) (Nat.pow_le_pow_right (by decide) (by decide))
  · simp only [PyData.shown]
    rw [PySem.ofString_length]
    exact int_text_length_le10 (k := 7) (by decide) h
theorem Fine.shaped {d : PyData} {n L : Nat} (h : Fine d n L) (hn : n ≤ 64) : SeqAt.shaped d = true := by
  unfold SeqAt.shaped
  rw [h.lay, Bool.true_and]
  exact decide_eq_true (Nat.le_trans h.dep hn)
/-! ### words, gaps, bolts, locks, steps as data -/
def dW (w : Word) : PyData := .tuple (w.map .int)
def dWs (ws : List Word) : PyData := .tuple (ws.map dW)
def dG (g : Gap) : PyData := .tuple [.int g.frm, .int g.to_, .int g.price, dWs g.ways]
def dGs (gs : List Gap) : PyData := .tuple (gs.map dG)
def dB (b : Bolt) : PyData := .tuple [.int b.many, dGs b.gaps]
def dL (l : Lock) : PyData := .tuple (l.map dB)
section
variable {K : PySem.W.Frag} {H : Hp}
theorem dp_all {α : Type} {F : V → α → Prop} {f : α → PyData} (h : ∀ v x, F v x → Dp K H v (f x)) : ∀ {vs : List V} {xs : List α}, Paired F vs xs → DpAll K H vs (xs.map f)
  | _, _, .nil => .nil
  | _, _, .cons r t => .cons (h _ _ r) (dp_all h t)
theorem dp_W {v : V} {u : Word} (h : Wd K H v u) : Dp K H v (dW u) := by
  obtain ⟨a, rfl, ha⟩ := h
  exact .tup (.inl (.inl ha)) (dp_ints u)
theorem dp_G {v : V} {g : Gap} (h : GapAt K H v g) : Dp K H v (dG g) := by
  obtain ⟨a, b, ws, rfl, h1, h2, h3⟩ := h
  exact .tup h1 (.cons (.int _) (.cons (.int _) (.cons (.int _) (.cons (.tup h2 (dp_all (F := Wd K H) (f := dW) (fun _ _ => dp_W) h3)) .nil))))
theorem dp_B {v : V} {b : Bolt} (h : BoltAt K H v b) : Dp K H v (dB b) := by
  obtain ⟨a, c, gs, rfl, h1, h2, h3⟩ := h
  exact .tup h1 (.cons (.int _) (.cons (.tup h2 (dp_all (F := GapAt K H) (f := dG) (fun _ _ => dp_G) h3)) .nil))
theorem dp_L {v : V} {l : Lock} (h : LockAt K H v l) : Dp K H v (dL l) := by
  obtain ⟨a, bs, rfl, h1, h2⟩ := h
  exact .tup h1 (dp_all (F := BoltAt K H) (f := dB) (fun _ _ => dp_B) h2)
end
theorem fine_W {u : Word} {B : Int} {n : Nat} (hb : ∀ x ∈ u, 0 ≤ x ∧ x < B) (hB : B ≤ 10) (hn : u.length ≤ n) : Fine (dW u) 1 (10 * n + 3) := by
  have h : FineAll (u.map PyData.int) 0 ((u.map PyData.int).length * (8 + 2)) := FineAll.rep fun d hd => by
    obtain ⟨x, hx, rfl⟩ := List.mem_map.mp hd
    have := hb x hx
    have h10 : x.natAbs < 10 := by omega
    exact fine_int (Nat.lt_trans h10 (by decide))
  refine (fine_tup h).mono (Nat.le_refl _) ?_
  rw [List.length_map]
  omega
theorem fine_small {x : Int} (h0 : 0 ≤ x) (h1 : x ≤ 1000000) : Fine (.int x) 0 8 := fine_int (by
  have h : x.natAbs ≤ 1000000 := by omega
  exact Nat.lt_of_le_of_lt h (by decide))
theorem manys_le {l : Lock} (ok : LockOk l) {k : Nat} {b : Bolt} (h : l[k]? = some b) : b.many ≤ 4 := (ok.bolts k b h).m1
theorem fine_way {l : Lock} (ok : LockOk l) {k : Nat} {b : Bolt} {g : Gap} {u : Word} (hb : l[k]? = some b) (hg : g ∈ b.gaps) (hu : u ∈ g.ways) : Fine (dW u) 1 603 := by
  have G := (ok.bolts k b hb).gaps g hg
  obtain ⟨h1, h2⟩ := G.words u hu
  have kl : k < l.length := (List.getElem?_eq_some_iff.mp hb).1
  have l60 := ok.n1
  have ml : (manysOf (l.take k)).length = k := by
    unfold manysOf
    rw [List.length_map, List.length_take]
    omega
  refine (fine_W (B := 4) (n := 60) (fun x hx => ?_) (by decide) (by omega)).mono (Nat.le_refl _) (Nat.le_refl _)
  obtain ⟨i, hi⟩ := List.mem_iff_getElem?.mp hx
  have il : i < u.length := (List.getElem?_eq_some_iff.mp hi).1
  have il2 : i < l.length := by omega
  have hm : (manysOf (l.take k))[i]? = some l[i].many := by
    unfold manysOf
    rw [List.getElem?_map, List.getElem?_take, if_pos (by omega), List.getElem?_eq_getElem il2]
    rfl
  have := h2 i x _ hi hm
  have := manys_le ok (List.getElem?_eq_getElem il2)
  omega
theorem fine_G {l : Lock} (ok : LockOk l) {k : Nat} {b : Bolt} {g : Gap} (hb : l[k]? = some b) (hg : g ∈ b.gaps) : Fine (dG g) 3 5000 := by
  have BO := ok.bolts k b hb
  have G := BO.gaps g hg
  have m1 := BO.m1
  have h1 : FineAll (g.ways.map dW) 1 ((g.ways.map dW).length * (603 + 2)) := FineAll.rep fun d hd => by
    obtain ⟨u, hu, rfl⟩ := List.mem_map.mp hd
    exact fine_way ok hb hg hu
  have h2 := fine_tup h1
  have f8 := G.few
  rw [List.length_map] at h2
  have a1 := fine_small G.f0 (show g.frm ≤ 1000000 by have := G.f1; omega)
  have a2 := fine_small G.t0 (show g.to_ ≤ 1000000 by have := G.t1; omega)
  have a3 := fine_small (show 0 ≤ g.price by have := G.p0; omega) G.p1
  have w2 := a1.mono (Nat.zero_le 2) (Nat.le_refl 8)
  refine (fine_tup (FineAll.cons (a1.mono (Nat.zero_le 2) (Nat.le_refl 8)) (FineAll.cons (a2.mono (Nat.zero_le 2) (Nat.le_refl 8)) (FineAll.cons (a3.mono (Nat.zero_le 2) (Nat.le_refl 8)) (FineAll.cons (h2 : Fine (dWs g.ways) 2 _) FineAll.nil))))).mono (Nat.le_refl _) ?_
  omega
theorem codes_len {gs : List Gap} {m : Int} (hm : m ≤ 4) (h : ∀ g ∈ gs, 0 ≤ g.frm ∧ g.frm < m ∧ 0 ≤ g.to_ ∧ g.to_ < m) (r : gs.Pairwise (fun g h => lexLt2 g.frm g.to_ h.frm h.to_)) : gs.length ≤ 16 := by
  have n1 : (gs.map fun g => (4 * g.frm + g.to_).toNat).Nodup := by
    rw [List.Nodup, List.pairwise_map]
    refine List.Pairwise.imp_of_mem ?_ r
    intro g g' hg hg' hl
    have b1 := h g hg
    have b2 := h g' hg'
    rcases hl with hl | ⟨hl, hl'⟩ <;> omega
  have := nodup_le (ys := List.range 16) n1 fun x hx => by
    obtain ⟨g, hg, rfl⟩ := List.mem_map.mp hx
    have b1 := h g hg
    rw [List.mem_range]
    omega
  rw [List.length_map, List.length_range] at this
  exact this
theorem gaps_16 {l : Lock} (ok : LockOk l) {k : Nat} {b : Bolt} (hb : l[k]? = some b) : b.gaps.length ≤ 16 := by
  have BO := ok.bolts k b hb
  exact codes_len BO.m1 (fun g hg => by
    have G := BO.gaps g hg
    exact ⟨G.f0, G.f1, G.t0, G.t1⟩) BO.rise
theorem fine_B {l : Lock} (ok : LockOk l) {k : Nat} {b : Bolt} (hb : l[k]? = some b) : Fine (dB b) 5 81000 := by
  have BO := ok.bolts k b hb
  have h1 : FineAll (b.gaps.map dG) 3 ((b.gaps.map dG).length * (5000 + 2)) := FineAll.rep fun d hd => by
    obtain ⟨g, hg, rfl⟩ := List.mem_map.mp hd
    exact fine_G ok hb hg
  have h2 := fine_tup h1
  have g16 := gaps_16 ok hb
  rw [List.length_map] at h2
  have a1 := fine_small (show 0 ≤ b.many by have := BO.m0; omega) (show b.many ≤ 1000000 by have := BO.m1; omega)
  refine (fine_tup (FineAll.cons (a1.mono (Nat.zero_le 4) (Nat.le_refl 8)) (FineAll.cons (h2 : Fine (dGs b.gaps) 4 _) FineAll.nil))).mono (Nat.le_refl _) ?_
  omega
theorem fine_L {l : Lock} (ok : LockOk l) : Fine (dL l) 6 5000000 := by
  have h1 : FineAll (l.map dB) 5 ((l.map dB).length * (81000 + 2)) := FineAll.rep fun d hd => by
    obtain ⟨b, hb, rfl⟩ := List.mem_map.mp hd
    obtain ⟨k, hk⟩ := List.mem_iff_getElem?.mp hb
    exact fine_B ok hk
  have h2 := fine_tup h1
  have l60 := ok.n1
  rw [List.length_map] at h2
  refine h2.mono (Nat.le_refl _) ?_
  omega
end Wb

set_option Elab.async false
set_option linter.all false
set_option maxRecDepth 100000
set_option maxHeartbeats 8000000
set_option pp.maxSteps 900
set_option pp.deepTerms false
namespace Wb
open PySem PySem.Spec PyProof.Rows L2
theorem eqv_ints : ∀ u w : List Int, PyData.eqvAll (u.map .int) (w.map .int) = decide (u = w)
  | [], [] => by simp [PyData.eqvAll]
  | [], y :: w => by simp [PyData.eqvAll]
  | x :: u, [] => by simp [PyData.eqvAll]
  | x :: u, y :: w => by
    simp only [List.map_cons, PyData.eqvAll, PyData.eqv, eqv_ints u w]
    rw [Bool.eq_iff_iff]
    simp
theorem eqv_W (u w : Word) : PyData.eqv (dW u) (dW w) = decide (u = w) := by
  show PyData.eqvAll (u.map .int) (w.map .int) = _
  exact eqv_ints u w
theorem any_W (ws : List Word) (w : Word) : ((ws.map dW).any fun z => PyData.eqv z (dW w)) = decide (w ∈ ws) := by
  rw [List.any_map, Bool.eq_iff_iff]
  simp only [List.any_eq_true, Function.comp, eqv_W, decide_eq_true_eq]
  constructor
  · rintro ⟨x, hx, rfl⟩
    exact hx
  · intro h
    exact ⟨w, h, rfl⟩
theorem cut_last1 (xs : List V) : cutV xs none (some (-1)) = xs.dropLast := by
  unfold cutV
  rw [HT.sIx_none]
  have e : HT.sIx xs.length xs.length (some (-1)) = xs.length - 1 := by
    show (if (-1 : Int) < 0 then ((-1 : Int) + (xs.length : Int)).toNat else min (-1 : Int).toNat xs.length) = _
    rw [if_pos (by decide)]
    omega
  rw [e, List.drop_zero, List.dropLast_eq_take, Nat.sub_zero]
theorem cutV_whole {xs : List V} {lo hi : Option Int} (h : HT.sIx xs.length 0 lo = 0 ∧ HT.sIx xs.length xs.length hi = xs.length) : cutV xs lo hi = xs := by
  unfold cutV
  rw [h.1, h.2, List.drop_zero, Nat.sub_zero, List.take_length]
theorem inV_ints (p : Int) : ∀ bk : List Int, inV (.int p) (bk.map V.int) = decide (p ∈ bk)
  | [] => by simp [inV]
  | x :: r => by
    have ih := inV_ints p r
    unfold inV at ih ⊢
    rw [List.map_cons, List.any_cons, ih, Bool.eq_iff_iff]
    show ((x == p) || decide (p ∈ r)) = true ↔ decide (p ∈ x :: r) = true
    simp only [Bool.or_eq_true, beq_iff_eq, decide_eq_true_eq, List.mem_cons]
    exact or_congr_left ⟨Eq.symm, Eq.symm⟩
theorem flat_ints : ∀ bk : List Int, (bk.map V.int).all flatV = true
  | [] => rfl
  | _ :: r => flat_ints r
section
variable {K : PySem.W.Frag} {H : Hp} {Q : VK} {a b : Addr} {xs ys : List V}
theorem sl_own {lo hi : Option Int} (ha : H a = some (.tup xs)) (q : ∀ H' z, Evl.Ex H H' → H' z = some (.tup (cutV xs lo hi)) → Q (.ref z) H') : rSlA K (.ref a) lo hi H Q := by
  refine ⟨a, xs, rfl, .inl (.inl ha), fun h => ?_, fun _ t nt => ?_⟩
  · exact q H a (Evl.Ex.refl H) (by rw [cutV_whole h]; exact ha)
  · exact q _ t (Evl.Ex.new nt) upd_same
end
theorem nopart1 {σ : L2.St} {H : Hp} {F : Option Int → Hp → Prop} (h : F none H) : tNoPart σ H F := h
def SmallW (ws : List Word) : Prop := ∀ u ∈ ws, u.length ≤ 60 ∧ ∀ x ∈ u, 0 ≤ x ∧ x < 10
theorem fine_one {ws : List Word} (h : SmallW ws) {u : Word} (hu : u ∈ ws) : Fine (dW u) 1 603 := fine_W (B := 10) (n := 60) (h u hu).2 (by decide) (h u hu).1
theorem fine_ws {ws : List Word} (h : SmallW ws) : SeqAt.shaped (.list (ws.map dW)) = true := by
  have f : FineAll (ws.map dW) 1 ((ws.map dW).length * (603 + 2)) := FineAll.rep fun d hd => by
    obtain ⟨u, hu, rfl⟩ := List.mem_map.mp hd
    exact fine_one h hu
  exact (fine_lst f).shaped (by decide)
theorem dp_ws {K : PySem.W.Frag} {H : Hp} {vs : List V} {ws : List Word} (h : Paired (Wd K H) vs ws) : DpAll K H vs (ws.map dW) := dp_all (F := Wd K H) (f := dW) (fun _ _ => dp_W) h
/-- a word whose highest place is one of the block's, the others a word near -/
def isNear (ns : List Word) (bk : List Int) (w : Word) : Bool := decide (∃ q, w.getLast? = some q ∧ q ∈ bk) && decide (w.dropLast ∈ ns)
section
variable {P : Program} {w : World} {K : PySem.W.Frag} {mg : Str → Option Value} {base : Heap}
end
end Wb

set_option Elab.async false
set_option linter.all false
set_option maxRecDepth 100000
set_option maxHeartbeats 8000000
set_option pp.maxSteps 900
set_option pp.deepTerms false
namespace Wb
open PySem PySem.Spec PyProof.Rows L2
/-! ### the class Floor -/
def clsBody : Stmt → List Stmt
  | .ClassDef _ _ _ b .. => b
  | _ => []
abbrev cFloor : Stmt := topS 39
abbrev fS (i : Nat) : Stmt := (clsBody cFloor).getD i (.Pass ⟨0, 0, 0, 0⟩)
abbrev sFInit : Stmt := fS 0
abbrev nFInit : List Str := ["self", "below", "moves", "ends", "number"]
theorem scFInit : FnScope nFInit ["self", "below", "moves", "ends"] (defScope sFInit) := ⟨rfl, rfl, rfl, by decide +kernel, rfl, by decide +kernel, by decide +kernel⟩
abbrev sStand : Stmt := fS 1
abbrev nStand : List Str := ["self", "reach", "place", "found", "number", "below", "last"]
theorem scStand : FnScope nStand ["self", "reach", "place"] (defScope sStand) := ⟨rfl, rfl, rfl, by decide +kernel, rfl, by decide +kernel, by decide +kernel⟩
abbrev sFirsts : Stmt := fS 2
abbrev nFirsts : List Str := ["self", "reach", "place", "number", "word", "here", "_"]
theorem scFirsts : FnScope nFirsts ["self", "reach", "place"] (defScope sFirsts) := ⟨rfl, rfl, rfl, by decide +kernel, rfl, by decide +kernel, by decide +kernel⟩
abbrev sLed : Stmt := fS 3
abbrev nLed : List Str := ["self", "number", "found", "seen", "work", "word", "_", "there", "other"]
theorem scLed : FnScope nLed ["self", "number"] (defScope sLed) := ⟨rfl, rfl, rfl, by decide +kernel, rfl, by decide +kernel, by decide +kernel⟩
abbrev sReachOf : Stmt := fS 4
abbrev nReachOf : List Str := ["self", "reach", "place", "found", "number"]
theorem scReachOf : FnScope nReachOf ["self", "reach", "place"] (defScope sReachOf) := ⟨rfl, rfl, rfl, by decide +kernel, rfl, by decide +kernel, by decide +kernel⟩
/-- the class, as it stands, and its methods -/
structure FlC (K : PySem.W.Frag) (mg : Str → Option Value) where
  C : Addr
  cl : Cls K C
  nb : NoAttr K C "below"
  nm : NoAttr K C "moves"
  ne : NoAttr K C "ends"
  na : NoAttr K C "after"
  g : mg "Floor" = some (.ref C)
  f0 : Addr
  d0 : FuncData
  F0 : Fun K "__init__" "Floor.__init__" sFInit f0 d0
  b0 : Binds K d0 ["self", "below", "moves", "ends"] []
  M : Mk K C f0
  f1 : Addr
  d1 : FuncData
  F1 : Fun K "standing" "Floor.standing" sStand f1 d1
  b1 : Binds K d1 ["self", "reach", "place"] []
  m1 : Meth K C "standing" f1
  f2 : Addr
  d2 : FuncData
  F2 : Fun K "firsts" "Floor.firsts" sFirsts f2 d2
  b2 : Binds K d2 ["self", "reach", "place"] []
  m2 : Meth K C "firsts" f2
  f3 : Addr
  d3 : FuncData
  F3 : Fun K "led" "Floor.led" sLed f3 d3
  b3 : Binds K d3 ["self", "number"] []
  m3 : Meth K C "led" f3
  f4 : Addr
  d4 : FuncData
  F4 : Fun K "reach_of" "Floor.reach_of" sReachOf f4 d4
  b4 : Binds K d4 ["self", "reach", "place"] []
  m4 : Meth K C "reach_of" f4
def oV (o : Option Int) : V := match o with
  | none => .non
  | some q => .int q
def natsV (R : List Nat) : List V := R.map fun x => V.int (x : Nat)
def MvT (H : Hp) (v : V) (m : NMv) : Prop := ∃ t, v = .ref t ∧ H t = some (.tup [.int (m.1 : Nat), .int m.2.1, .int m.2.2])
def EndT (H : Hp) (v : V) (e : End) : Prop := ∃ t, v = .ref t ∧ H t = some (.tup [.int (e.1 : Nat), oV e.2])
/-- a floor stands at fl, with what it was made of -/
structure FlAt (C : Addr) (H : Hp) (fl dx : Addr) (fs : List (Str × V)) (lb lm le : Addr) (mvs evs : List V) (R : List Nat) (ms : List NMv) (es : List End) : Prop where
  obj : H fl = some (.ins C dx fs)
  fb : fs.lookup ("below" : Str) = some (V.ref lb)
  fm : fs.lookup ("moves" : Str) = some (V.ref lm)
  fe : fs.lookup ("ends" : Str) = some (V.ref le)
  n1 : fs.lookup ("standing" : Str) = none
  n2 : fs.lookup ("firsts" : Str) = none
  n3 : fs.lookup ("led" : Str) = none
  n4 : fs.lookup ("reach_of" : Str) = none
  hb : H lb = some (.lst (natsV R))
  hm : H lm = some (.lst mvs)
  hmv : Paired (MvT H) mvs ms
  he : H le = some (.lst evs)
  hev : Paired (EndT H) evs es
  few : ms.length ≤ 1000 ∧ es.length ≤ 1000
theorem FlAt.ex {C : Addr} {H H' : Hp} {fl dx lb lm le : Addr} {fs : List (Str × V)} {mvs evs : List V} {R : List Nat} {ms : List NMv} {es : List End} (e : Evl.Ex H H') (h : FlAt C H fl dx fs lb lm le mvs evs R ms es) : FlAt C H' fl dx fs lb lm le mvs evs R ms es :=
  ⟨e _ _ h.obj, h.fb, h.fm, h.fe, h.n1, h.n2, h.n3, h.n4, e _ _ h.hb, e _ _ h.hm, Paired.imp (fun _ _ ⟨t, r, z⟩ => ⟨t, r, e _ _ z⟩) h.hmv, e _ _ h.he, Paired.imp (fun _ _ ⟨t, r, z⟩ => ⟨t, r, e _ _ z⟩) h.hev, h.few⟩
theorem oV_in (o : Option Int) (p : Int) : inV (oV o) [.non, .int p] = lastB o p := by
  cases o with
  | none => rfl
  | some q =>
    show (eqV .non (.int q) || (eqV (.int p) (.int q) || false)) = (decide (some q = none) || decide (some q = some p))
    have h1 : eqV .non (.int q) = false := rfl
    have h2 : eqV (.int p) (.int q) = decide (p = q) := by
      have := inV_ints q [p]
      unfold inV at this
      simpa [eq_comm] using this
    rw [h1, h2]
    have h3 : decide (some q = none) = false := rfl
    rw [h3, Bool.false_or, Bool.or_false, Bool.false_or]
    exact decide_eq_decide.mpr ⟨fun e => by rw [e], fun e => (Option.some.inj e).symm⟩
theorem bit_and (x b : Nat) : ((((x / 2 ^ b) % 2 : Nat) : Int) != 0) = x.testBit b := by
  rw [Nat.testBit_eq_decide_div_mod_eq]
  have : x / 2 ^ b % 2 < 2 := Nat.mod_lt _ (by decide)
  by_cases c : x / 2 ^ b % 2 = 1
  · rw [c]; rfl
  · have z : x / 2 ^ b % 2 = 0 := by omega
    rw [z]; rfl
theorem shr_nat (x b : Nat) : ((x : Nat) : Int) / 2 ^ b = ((x / 2 ^ b : Nat) : Int) := by
  rw [Int.natCast_ediv, Int.natCast_pow]
  rfl
theorem pow2_nat (i : Nat) : ((2 : Int) ^ i).toNat = 2 ^ i := by
  rw [show (2 : Int) ^ i = ((2 ^ i : Nat) : Int) by rw [Int.natCast_pow]; rfl, Int.toNat_natCast]
theorem pow2_nn (i : Nat) : 0 ≤ (2 : Int) ^ i := by
  rw [show (2 : Int) ^ i = ((2 ^ i : Nat) : Int) by rw [Int.natCast_pow]; rfl]
  exact Int.natCast_nonneg _
def spStanding (C : Addr) : Sp := fun vs H Q _ => ∃ (fl dx lb lm le : Addr) (fs : List (Str × V)) (mvs evs : List V) (R : List Nat) (ms : List NMv) (es : List End) (x : Nat) (p : Int), vs = [.ref fl, .int (x : Nat), .int p] ∧ FlAt C H fl dx fs lb lm le mvs evs R ms es ∧
  ∀ H', Evl.Ex H H' → Q (.int (standN es x p : Nat)) H'
section
variable {P : Program} {w : World} {K : PySem.W.Frag} {mg : Str → Option Value} {base : Heap}
theorem ok_standing (F : FlC K mg) (B : Bi mg) : FnOk P w K mg base CX0 1 F.f1 F.d1 ["self", "reach", "place"] (spStanding F.C) := by
  refine F.F1.ok scStand (fun vs H Q E h => ?_) (fun cdv A' outer s H vs Q E hr h => ?_)
  · obtain ⟨fl, dx, lb, lm, le, fs, mvs, evs, R, ms, es, x, p, rfl, _⟩ := h; rfl
  · obtain ⟨fl, dx, lb, lm, le, fs, mvs, evs, R, ms, es, x, p, rfl, fa, q⟩ := h
    refine ⟨_, (pss_cons (ps_set (i := 3) scStand.nd rfl (.inl rfl) pe_int)
      (pss_cons (ps_for PassesOwn.never rfl (pi_enum (by rfl) B.enum (pa_cons (pe_fld (pv 0) rfl) pa_nil)) (pg_tup rfl (pgs_cons (pg_name (i := 4) scStand.nd rfl (.inl rfl)) (pgs_cons (pg_tup rfl (pgs_cons (pg_name (i := 5) scStand.nd rfl (.inl rfl)) (pgs_cons (pg_name (i := 6) scStand.nd rfl (.inl rfl)) pgs_nil))) pgs_nil)))
        (pss_one (ps_if (PW.pt (pw_and (pt_cmpR (r := rIn K false) op_in_seq (pv 6) (pe_tup (pa_cons pe_non (pa_cons (pv 2) pa_nil))) rfl) (pw_and1 (pt_truth (pe_op op_odd (pe_op op_shrN (pv 1) (pv 5)) pe_int) (fun _ => rfl)))))
          (pss_one (ps_aug (i := 3) scStand.nd rfl (.inl rfl) (pe_op op_oneShl pe_int (pv 4)) iop_or)) pss_nil)))
      (pss_one (ps_ret (pv 3))))), ?_⟩
    refine ⟨.ref fl, rfl, fl, F.C, dx, fs, .ref le, rfl, fa.obj, F.cl, F.ne, fa.fe, le, evs, rfl, SqL.of fa.he, ?_⟩
    have el : evs.length = es.length := Paired.len fa.hev
    refine for_it (walk_enum (K := K) (a := le) (xs := evs)) (fun i σ H' => ∃ (y4 y5 y6 : Option V), σ = [some (.ref fl), some (.int (x : Nat)), some (.int p), some (.int (bitsOf (standF es x p) i : Nat)), y4, y5, y6] ∧ Evl.Ex H H') ⟨none, none, none, rfl, Evl.Ex.refl _⟩ ?_ ?_ ?_
    · rintro i σ H' _ ⟨_, _, _, _, e⟩
      exact SqL.of (e _ _ fa.he)
    · rintro i v σ H1 H2 hi ⟨y4, y5, y6, rfl, e1⟩ ⟨T, v1, v2, rfl, nT, rfl, ex1, ey1⟩
      cases ex1
      obtain ⟨e, hei, ⟨te, rfl, hte⟩⟩ := Paired.get1 fa.hev ey1
      have e2 := Evl.Ex.new (o := .tup [.int (i : Nat), .ref te]) nT
      have gT : (upd H1 T (.tup [.int (i : Nat), .ref te])) T = some (.tup [.int (i : Nat), .ref te]) := upd_same
      generalize upd H1 T (.tup [.int (i : Nat), .ref te]) = H2 at e2 gT
      have e12 := e1.trans e2
      refine ⟨T, _, rfl, .inl (.inl gT), rfl, _, _, rfl, _, _, rfl, ⟨te, _, rfl, .inl (.inl (e12 _ _ hte)), rfl, _, _, rfl, _, _, rfl, rfl, ?_⟩⟩
      refine ⟨rfl, ?_⟩
      have next : bitsOf (standF es x p) (i + 1) = bitsOf (standF es x p) i ||| (if (lastB e.2 p && x.testBit e.1) = true then 2 ^ i else 0) := by
        show _ ||| (if standF es x p i = true then 2 ^ i else 0) = _
        unfold standF
        rw [hei]
      refine ⟨oV e.2, rfl, .int p, rfl, (by show 2 ≤ sizeLine; decide), fun t nt => ?_⟩
      have e3 := Evl.Ex.new (o := .tup [.non, .int p]) nt
      have gt : (upd H2 t (.tup [.non, .int p])) t = some (.tup [.non, .int p]) := upd_same
      generalize upd H2 t (.tup [.non, .int p]) = H3 at e3 gt
      refine ⟨t, _, rfl, .inr (.inl (.inl gt)), (by cases e.2 <;> rfl), rfl, _, rfl, ?_⟩
      rw [show (if false = true then !inV (oV e.2) [.non, .int p] else inV (oV e.2) [.non, .int p]) = lastB e.2 p from oV_in e.2 p]
      have e13 := e12.trans e3
      cases hl : lastB e.2 p with
      | false =>
        refine iteF ?_
        rw [hl, Bool.false_and, if_neg Bool.false_ne_true, Nat.or_zero] at next
        rw [← next]
        exact ⟨_, _, _, rfl, e13⟩
      | true =>
        refine iteT ?_
        rw [hl, Bool.true_and] at next
        refine ⟨.int (x : Nat), rfl, .int (e.1 : Nat), rfl, (x : Nat), e.1, rfl, rfl, x / 2 ^ e.1, congrArg V.int (shr_nat x e.1), rfl, _, rfl, ?_⟩
        rw [bit_and]
        have i1000 := fa.few.2
        cases hb : x.testBit e.1 with
        | false =>
          refine iteF ?_
          rw [hb, if_neg Bool.false_ne_true, Nat.or_zero] at next
          rw [← next]
          exact ⟨_, _, _, rfl, e13⟩
        | true =>
          refine iteT ?_
          rw [hb, if_pos rfl] at next
          refine ⟨.int (bitsOf (standF es x p) i : Nat), rfl, .int (i : Nat), rfl, i, rfl, rfl, by omega, (bitsOf (standF es x p) i : Nat), 2 ^ i, rfl, rfl, ?_⟩
          have z : Builtin.bitOr ((bitsOf (standF es x p) i : Nat) : Int) (2 ^ i) = ((bitsOf (standF es x p) (i + 1) : Nat) : Int) := by
            rw [L2.bitOr_nn (Int.natCast_nonneg _) (pow2_nn i), next, Int.toNat_natCast, pow2_nat]
          refine ⟨some (.int (i : Nat)), some (.int (e.1 : Nat)), some (oV e.2), ?_, e13⟩
          rw [← z]
          rfl
    · rintro σ H1 ⟨y4, y5, y6, rfl, e1⟩
      rw [el]
      exact ⟨_, rfl, q _ e1⟩
end
end Wb

set_option Elab.async false
set_option linter.all false
set_option maxRecDepth 100000
set_option maxHeartbeats 8000000
set_option pp.maxSteps 900
set_option pp.deepTerms false
namespace Wb
open PySem PySem.Spec PyProof.Rows L2
def spFirsts (C : Addr) : Sp := fun vs H Q _ => ∃ (fl dx lb lm le : Addr) (fs : List (Str × V)) (mvs evs : List V) (R : List Nat) (ms : List NMv) (es : List End) (x : Nat) (p : Int), vs = [.ref fl, .int (x : Nat), .int p] ∧ FlAt C H fl dx fs lb lm le mvs evs R ms es ∧
  ∀ H' r, Evl.Ex H H' → H r = none → H' r = some (.lst (natsV (firstsN ms x p))) → Q (.ref r) H'
/-- the floor when it is made -/
structure FlDone (C : Addr) (H : Hp) (fl : Addr) (R : List Nat) (ms : List NMv) (es : List End) (A : List Nat) : Prop where
  at_ : ∃ dx fs lb lm le la mvs evs, FlAt C H fl dx fs lb lm le mvs evs R ms es ∧ fs.lookup ("after" : Str) = some (V.ref la) ∧ H la = some (.lst (natsV A))
theorem FlDone.ex {C : Addr} {H H' : Hp} (e : Evl.Ex H H') {fl : Addr} {R : List Nat} {ms : List NMv} {es : List End} {A : List Nat} (h : FlDone C H fl R ms es A) : FlDone C H' fl R ms es A := by
  obtain ⟨dx, fs, lb, lm, le, la, mvs, evs, h1, h2, h3⟩ := h.at_
  exact ⟨dx, fs, lb, lm, le, la, mvs, evs, h1.ex e, h2, e _ _ h3⟩
def spReachOf (C : Addr) : Sp := fun vs H Q _ => ∃ (fl : Addr) (R : List Nat) (ms : List NMv) (es : List End) (A : List Nat) (x : Nat) (p : Int), vs = [.ref fl, .int (x : Nat), .int p] ∧ FlDone C H fl R ms es A ∧ A.length = ms.length ∧
  ∀ H', Evl.Ex H H' → Q (.int (ofN es ms A x p : Nat)) H'
def rOdd : R2 := fun x y H Q => ∃ n : Nat, x = .int (n : Int) ∧ y = .int 1 ∧ Q (.int ((n % 2 : Nat) : Int)) H
theorem op_oddR {X : Cx} : OpR X (binaryOp .BitAnd) rOdd := op_odd
def rShrN : R2 := fun x y H Q => ∃ (i : Int) (k : Nat), x = .int i ∧ y = .int (k : Int) ∧ Q (.int (i / 2 ^ k)) H
abbrev tFirstT (K : PySem.W.Frag) : TT := tAnd (tTest (tOp rEq (tVar 5) (tVar 2))) (fun σ H Q => tOp rOdd (tOp rShrN (tVar 1) (tVar 4)) (tC (V.int 1)) σ H fun x H' => ∃ k, TruV K x H' k ∧ Q k H')
theorem op_shrNR {X : Cx} : OpR X (binaryOp .RShift) rShrN := op_shrN
section
variable {P : Program} {w : World} {K : PySem.W.Frag} {mg : Str → Option Value} {base : Heap}
theorem ok_firsts (F : FlC K mg) (B : Bi mg) : FnOk P w K mg base CX0 1 F.f2 F.d2 ["self", "reach", "place"] (spFirsts F.C) := by
  refine F.F2.ok scFirsts (fun vs H Q E h => ?_) (fun cdv A' outer s H vs Q E hr h => ?_)
  · obtain ⟨fl, dx, lb, lm, le, fs, mvs, evs, R, ms, es, x, p, rfl, _⟩ := h; rfl
  · obtain ⟨fl, dx, lb, lm, le, fs, mvs, evs, R, ms, es, x, p, rfl, fa, q⟩ := h
    refine ⟨_, pss_one (ps_ret (pe_lc (own := [("number", 3), ("word", 4), ("here", 5), ("_", 6)]) (g := gTup K 2 (gCons (gName 3) (gCons (gTup K 3 (gCons (gName 4) (gCons (gName 5) (gCons (gName 6) gNil)))) gNil))) (te := tVar 3) (tt := tFirstT K) rfl scFirsts.nd (pi_enum (by rfl) B.enum (pa_cons (pe_fld (pv 0) rfl) pa_nil)) (blkOk_by (own := [("number", 3), ("word", 4), ("here", 5), ("_", 6)]) (N := nFirsts) (sc := defScope sFirsts) (by decide +kernel))
      (fun _ _ _ _ _ => pg_tup rfl (pgs_cons (pg_name (i := 3) scFirsts.nd rfl (Or.inl rfl)) (pgs_cons (pg_tup rfl (pgs_cons (pg_name (i := 4) scFirsts.nd rfl (Or.inl rfl)) (pgs_cons (pg_name (i := 5) scFirsts.nd rfl (Or.inl rfl)) (pgs_cons (pg_name (i := 6) scFirsts.nd rfl (Or.inl rfl)) pgs_nil)))) pgs_nil)))
      (fun _ _ _ _ _ => pts_one (PW.pt (pw_and (pt_cmpR op_eq (pv 5) (pv 2) (nomark _)) (pw_and1 (pt_truth (pe_op (r := rOdd) op_oddR (pe_op (r := rShrN) op_shrNR (pv 1) (pv 4)) pe_int) (fun _ => rfl))))))
      (fun _ _ _ _ _ => pv 3))), ?_⟩
    refine ⟨.ref fl, rfl, fl, F.C, dx, fs, .ref lm, rfl, fa.obj, F.cl, F.nm, fa.fm, lm, mvs, rfl, SqL.of fa.hm, fun R' hR => ?_⟩
    have ml : mvs.length = ms.length := Paired.len fa.hmv
    have m1000 := fa.few.1
    refine lc_it (walk_enum (K := K) (a := lm) (xs := mvs)) (fun i H' => Evl.Ex H H' ∧ H' R' = some (.lst (natsV ((List.range i).filter (firstB ms x p))))) ⟨Evl.Ex.new hR, upd_same⟩ ?_ ?_ ?_
    · rintro i H' _ ⟨e, _⟩
      exact SqL.of (e _ _ fa.hm)
    · rintro i v H1 H2 hi ⟨e1, hR1⟩ ⟨T, v1, v2, rfl, nT, rfl, ex1, ey1⟩
      cases ex1
      obtain ⟨m, hmi, ⟨tm, rfl, htm⟩⟩ := Paired.get1 fa.hmv ey1
      have e2 := Evl.Ex.new (o := .tup [.int (i : Nat), .ref tm]) nT
      have gT : (upd H1 T (.tup [.int (i : Nat), .ref tm])) T = some (.tup [.int (i : Nat), .ref tm]) := upd_same
      generalize upd H1 T (.tup [.int (i : Nat), .ref tm]) = H2 at e2 gT
      have e12 := e1.trans e2
      have hR2 := e2 _ _ hR1
      refine ⟨T, _, rfl, .inl (.inl gT), rfl, _, _, rfl, _, _, rfl, ⟨tm, _, rfl, .inl (.inl (e12 _ _ htm)), rfl, _, _, rfl, _, _, rfl, _, _, rfl, rfl, ?_⟩⟩
      refine ⟨rfl, ?_⟩
      refine ⟨rfl, ?_⟩
      have fb : firstB ms x p i = (decide (m.2.1 = p) && x.testBit m.1) := by
        unfold firstB
        rw [hmi]
      have skip : (decide (m.2.1 = p) && x.testBit m.1) = false → H2 R' = some (.lst (natsV ((List.range (i + 1)).filter (firstB ms x p)))) := fun h => by
        rw [List.range_succ, List.filter_append, List.filter_cons, if_neg (by rw [fb, h]; exact Bool.false_ne_true), List.filter_nil, List.append_nil]
        exact hR2
      refine ⟨.int m.2.1, rfl, .int p, rfl, rfl, _, rfl, ?_⟩
      by_cases c : m.2.1 = p
      · rw [show decide (V.int m.2.1 = V.int p) = true from decide_eq_true (by rw [c])]
        refine iteT ?_
        rw [decide_eq_true c, Bool.true_and] at fb skip
        refine ⟨.int (x : Nat), rfl, .int (m.1 : Nat), rfl, (x : Nat), m.1, rfl, rfl, x / 2 ^ m.1, congrArg V.int (shr_nat x m.1), rfl, _, rfl, ?_⟩
        rw [bit_and]
        cases hb : x.testBit m.1 with
        | false =>
          refine iteF ?_
          exact ⟨e12, skip hb⟩
        | true =>
          refine iteT ?_
          have l1 : ((List.range i).filter (firstB ms x p)).length ≤ 1000 := Nat.le_trans (List.length_filter_le _ _) (by rw [List.length_range]; omega)
          refine ⟨.int (i : Nat), rfl, _, hR2, Nat.lt_of_le_of_lt (by unfold natsV; rw [List.length_map]; exact l1) (by decide), e12.mut hR, ?_⟩
          rw [upd_same, List.range_succ, List.filter_append, List.filter_cons, if_pos (by rw [fb, hb]), List.filter_nil]
          unfold natsV
          rw [List.map_append]
          rfl
      · rw [show decide (V.int m.2.1 = V.int p) = false from decide_eq_false (fun z => c (V.int.inj z))]
        rw [decide_eq_false c, Bool.false_and] at skip
        refine iteF ?_
        exact ⟨e12, skip rfl⟩
    · rintro H1 ⟨e1, hR1⟩
      rw [ml] at hR1
      exact q H1 R' e1 hR hR1
theorem ok_reachOf (F : FlC K mg) (B : Bi mg) : FnOk P w K mg base CX0 2 F.f4 F.d4 ["self", "reach", "place"] (spReachOf F.C) := by
  have G1 : FnOk P w K mg base CX0 1 F.f1 F.d1 ["self", "reach", "place"] (spStanding F.C) := ok_standing F B
  have G2 : FnOk P w K mg base CX0 1 F.f2 F.d2 ["self", "reach", "place"] (spFirsts F.C) := ok_firsts F B
  refine F.F4.ok scReachOf (fun vs H Q E h => ?_) (fun cdv A' outer s H vs Q E hr h => ?_)
  · obtain ⟨fl, R, ms, es, A, x, p, rfl, _⟩ := h; rfl
  · obtain ⟨fl, R, ms, es, A, x, p, rfl, fd, al, q⟩ := h
    obtain ⟨dx, fs, lb, lm, le, la, mvs, evs, fa, hla, hA⟩ := fd.at_
    refine ⟨_, (Evl.pss_cut (ps_set (i := 3) scReachOf.nd rfl (.inl rfl) (pe_meth (pv 0) F.cl F.m1 G1 hr F.b1 .nil pass0 (pa_cons (pv 1) (pa_cons (pv 2) pa_nil))))
      (pss_cons (ps_for PassesOwn.never rfl (pi_list (pe_meth (pv 0) F.cl F.m2 G2 hr F.b2 .nil pass0 (pa_cons (pv 1) (pa_cons (pv 2) pa_nil)))) (pg_name (i := 4) scReachOf.nd rfl (.inl rfl))
        (pss_one (ps_aug (i := 3) scReachOf.nd rfl (.inl rfl) (pe_ix ix_list (pe_fld (pv 0) rfl) (pv 4) (fun _ _ => rfl)) iop_or)))
      (pss_one (ps_ret (pv 3))))), ?_⟩
    refine ⟨fun σ H1 => σ = [some (.ref fl), some (.int (x : Nat)), some (.int p), some (.int (standN es x p : Nat)), none] ∧ Evl.Ex H H1, ?_, ?_⟩
    · exact ⟨.ref fl, rfl, fl, dx, fs, rfl, fa.obj, fa.n1, .int (x : Nat), rfl, .int p, rfl, fl, dx, lb, lm, le, fs, mvs, evs, R, ms, es, x, p, rfl, fa, fun H1 e1 => ⟨rfl, e1⟩⟩
    rintro _ H1 ⟨rfl, e1⟩
    have fa1 := fa.ex e1
    refine ⟨.ref fl, rfl, fl, dx, fs, rfl, fa1.obj, fa1.n2, .int (x : Nat), rfl, .int p, rfl, fl, dx, lb, lm, le, fs, mvs, evs, R, ms, es, x, p, rfl, fa1, fun H2 r e2 nr hr2 => ?_⟩
    have e12 := e1.trans e2
    refine ⟨r, rfl, ⟨_, SqL.of hr2⟩, ?_⟩
    refine for_it (walk_list (K := K) (a := r) (xs := natsV (firstsN ms x p))) (fun i σ H' => ∃ (y4 : Option V), σ = [some (.ref fl), some (.int (x : Nat)), some (.int p), some (.int ((((firstsN ms x p).take i).foldl (fun z a => z ||| A.getD a 0) (standN es x p) : Nat) : Int)), y4] ∧ Evl.Ex H2 H') ⟨none, rfl, Evl.Ex.refl _⟩ ?_ ?_ ?_
    · rintro i σ H' _ ⟨_, _, e⟩
      exact SqL.of (e _ _ hr2)
    · rintro i v σ H3 H3' hi ⟨y4, rfl, e3⟩ ⟨rfl, hx⟩
      obtain ⟨a, ha, rfl⟩ : ∃ a, (firstsN ms x p)[i]? = some a ∧ v = .int (a : Nat) := by
        unfold natsV at hx
        rw [List.getElem?_map] at hx
        cases z : (firstsN ms x p)[i]? with
        | none => rw [z] at hx; cases hx
        | some d => rw [z] at hx; exact ⟨d, rfl, (Option.some.inj hx).symm⟩
      obtain ⟨n, hn, _⟩ := mem_firsts.mp (List.mem_of_getElem? ha)
      have alt : a < A.length := by rw [al]; exact (List.getElem?_eq_some_iff.mp hn).1
      have hy : A[a]? = some (A.getD a 0) := by
        rw [List.getD_eq_getElem?_getD, List.getElem?_eq_getElem alt]
        rfl
      have e13 := e12.trans e3
      have hz : Builtin.bitOr ((((firstsN ms x p).take i).foldl (fun z a => z ||| A.getD a 0) (standN es x p) : Nat) : Int) ((A.getD a 0 : Nat) : Int) = ((((firstsN ms x p).take (i + 1)).foldl (fun z a => z ||| A.getD a 0) (standN es x p) : Nat) : Int) := by
        rw [L2.bitOr_nn (Int.natCast_nonneg _) (Int.natCast_nonneg _), Int.toNat_natCast, Int.toNat_natCast, take_succ_get ha, List.foldl_append]
        rfl
      refine ⟨_, rfl, .ref fl, rfl, fl, F.C, dx, fs, .ref la, rfl, (fa.ex e13).obj, F.cl, F.na, hla, .int (a : Nat), rfl, la, _, (a : Nat), .int (A.getD a 0 : Nat), rfl, rfl, SqL.of (e13 _ _ hA), atI_nat (by unfold natsV; rw [List.getElem?_map, hy]; rfl), _, _, rfl, rfl, ?_⟩
      refine ⟨some (.int (a : Nat)), ?_, e3⟩
      rw [← hz]
      rfl
    · rintro σ H3 ⟨y4, rfl, e3⟩
      have nl : (natsV (firstsN ms x p)).length = (firstsN ms x p).length := by unfold natsV; rw [List.length_map]
      rw [nl, List.take_length]
      exact ⟨_, rfl, q _ (e12.trans e3)⟩
end
end Wb

set_option Elab.async false
set_option linter.all false
set_option maxRecDepth 100000
set_option maxHeartbeats 8000000
set_option pp.maxSteps 900
set_option pp.deepTerms false
namespace Wb
open PySem PySem.Spec PyProof.Rows L2
def nI (S : List Nat) : List Int := S.map fun (x : Nat) => (x : Int)
theorem mem_nI {S : List Nat} {a : Nat} : ((a : Int) ∈ nI S) ↔ a ∈ S := by
  unfold nI
  rw [List.mem_map]
  exact ⟨fun ⟨x, h, e⟩ => by rw [← Int.ofNat.inj e]; exact h, fun h => ⟨a, h, rfl⟩⟩
/-- the bits met at a move's end -/
def atM (es : List End) (ms : List NMv) (R : List Nat) (s i : Nat) : Prop := ∃ n x, ms[s]? = some n ∧ R[n.1]? = some x ∧ (standN es x n.2.2).testBit i = true
def nextM (ms : List NMv) (R : List Nat) (s t : Nat) : Prop := ∃ n x, ms[s]? = some n ∧ R[n.1]? = some x ∧ t ∈ firstsN ms x n.2.2
structure LSt (es : List End) (ms : List NMv) (R : List Nat) (a : Nat) (S W : List Nat) (z : Nat) : Prop where
  nd : S.Nodup
  st : a ∈ S
  rc : ∀ s ∈ S, NG ms R a s
  low : ∀ s ∈ S, s < ms.length
  sub : ∀ s ∈ W, s ∈ S
  lt : z < 2 ^ es.length
  fr : ∀ i, z.testBit i = true → ∃ s ∈ S, atM es ms R s i
theorem next_ng {ms : List NMv} {R : List Nat} {a s t : Nat} (h : NG ms R a s) (n : nextM ms R s t) : NG ms R a t := by
  obtain ⟨m, x, h1, h2, h3⟩ := n
  obtain ⟨k, h4, h5, h6⟩ := mem_firsts.mp h3
  exact h.step h1 h4 h5 h2 h6
theorem LSt.done {es : List End} {ms : List NMv} {R : List Nat} {a : Nat} {S : List Nat} {z : Nat} (h : LSt es ms R a S [] z) (cl : ∀ s ∈ S, (∀ t, nextM ms R s t → t ∈ S) ∧ ∀ i, atM es ms R s i → z.testBit i = true) : AfterIs es ms R a z := by
  have all : ∀ c, NG ms R a c → c ∈ S := by
    intro c g
    induction g with
    | refl => exact h.st
    | step g h1 h2 e h3 h4 ih => exact (cl _ ih).1 _ ⟨_, _, h1, h3, mem_firsts.mpr ⟨_, h2, e, h4⟩⟩
  refine ⟨h.lt, fun i e he => ⟨fun hb => ?_, ?_⟩⟩
  · obtain ⟨s, hs, n, x, h1, h2, h3⟩ := h.fr i hb
    exact ⟨s, n, x, h.rc s hs, h1, h2, h3⟩
  · rintro ⟨c, n, x, g, h1, h2, h3⟩
    exact (cl c (all c g)).2 i ⟨n, x, h1, h2, h3⟩
def spLed (C : Addr) : Sp := fun vs H Q _ => ∃ (fl dx lb lm le : Addr) (fs : List (Str × V)) (mvs evs : List V) (R : List Nat) (ms : List NMv) (es : List End) (a : Nat), vs = [.ref fl, .int (a : Nat)] ∧ FlAt C H fl dx fs lb lm le mvs evs R ms es ∧ a < ms.length ∧ (∀ m ∈ ms, m.1 < R.length) ∧
  ∀ H' y, Evl.Ex H H' → AfterIs es ms R a y → Q (.int (y : Nat)) H'
section
variable {P : Program} {w : World} {K : PySem.W.Frag} {mg : Str → Option Value} {base : Heap}
theorem ok_led (F : FlC K mg) (B : Bi mg) : FnOk P w K mg base CX0 2 F.f3 F.d3 ["self", "number"] (spLed F.C) := by
  have G1 : FnOk P w K mg base CX0 1 F.f1 F.d1 ["self", "reach", "place"] (spStanding F.C) := ok_standing F B
  have G2 : FnOk P w K mg base CX0 1 F.f2 F.d2 ["self", "reach", "place"] (spFirsts F.C) := ok_firsts F B
  refine F.F3.ok scLed (fun vs H Q E h => ?_) (fun cdv A' outer s H vs Q E hr h => ?_)
  · obtain ⟨fl, dx, lb, lm, le, fs, mvs, evs, R, ms, es, a, rfl, _⟩ := h; rfl
  · obtain ⟨fl, dx, lb, lm, le, fs, mvs, evs, R, ms, es, a, rfl, fa, al, rl, q⟩ := h
    have hu := hu_of hr
    refine ⟨_, (pss_cons (ps_set (i := 2) scLed.nd rfl (.inl rfl) pe_int)
      (Evl.pss_cut (ps_set (i := 3) scLed.nd rfl (.inl rfl) (pe_disp (pps_cons (pv 1) pe_bl pps_nil) rfl rfl (by decide) (by decide)))
      (Evl.pss_cut (ps_set (i := 4) scLed.nd rfl (.inl rfl) (pe_lst (pa_cons (pv 1) pa_nil)))
      (pss_cons (ps_while PassesOwn.never (pt_truth (pv 4) (fun _ => rfl))
        (Evl.pss_cut (ps_asg (pe_ix ix_list (pe_fld (pv 0) rfl) (pe_bm0 PySem.F.plainAttrs_list PySem.F.slot_list_pop PySem.F.type_list_pop mt_pop (pv 4)) (fun _ _ => rfl)) (pg_tup rfl (pgs_cons (pg_name (i := 5) scLed.nd rfl (.inl rfl)) (pgs_cons (pg_name (i := 6) scLed.nd rfl (.inl rfl)) (pgs_cons (pg_name (i := 7) scLed.nd rfl (.inl rfl)) pgs_nil)))))
        (Evl.pss_cut (ps_aug (i := 2) scLed.nd rfl (.inl rfl) (pe_meth (pv 0) F.cl F.m1 G1 hr F.b1 .nil pass0 (pa_cons (pe_ix ix_list (pe_fld (pv 0) rfl) (pv 5) (fun _ _ => rfl)) (pa_cons (pv 7) pa_nil))) iop_or)
        (pss_one (ps_for PassesOwn.never rfl (pi_list (pe_meth (pv 0) F.cl F.m2 G2 hr F.b2 .nil pass0 (pa_cons (pe_ix ix_list (pe_fld (pv 0) rfl) (pv 5) (fun _ _ => rfl)) (pa_cons (pv 7) pa_nil)))) (pg_name (i := 8) scLed.nd rfl (.inl rfl))
          (pss_one (ps_if (pt_cmp (pc_dnotin hu (pv 8) (pv 3)) rfl)
            (pss_cons (ps_dput hu (pv 3) (pv 8) pe_bl rfl)
            (pss_one (ps_expr (pe_bm PySem.F.plainAttrs_list PySem.F.slot_list_append PySem.F.type_list_append mt_append (pv 4) (pa_cons (pv 8) pa_nil))))) pss_nil)))))))
      (pss_one (ps_ret (pv 2))))))), ?_⟩
    refine ⟨fun σ H1 => ∃ D, σ = [some (.ref fl), some (.int (a : Nat)), some (.int 0), some (.ref D), none, none, none, none, none] ∧ H D = none ∧ Evl.Ex H H1 ∧ H1 D = some (.dK (kvB (nI [a]))), ?_, ?_⟩
    · intro D nD
      exact ⟨.int (a : Nat), rfl, upd_same, [(.inl (a : Nat), .bl true)], rfl, (show 1 ≤ 15 by decide), D, rfl, nD, (Evl.Ex.new nD).mut nD, upd_same⟩
    rintro _ H1 ⟨D, rfl, nD, e1, hD1⟩
    refine ⟨fun σ H2 => ∃ Wl, σ = [some (.ref fl), some (.int (a : Nat)), some (.int 0), some (.ref D), some (.ref Wl), none, none, none, none] ∧ H1 Wl = none ∧ Evl.Ex H1 H2 ∧ H2 Wl = some (.lst (natsV [a])), ⟨.int (a : Nat), rfl, (by show 1 ≤ sizeLine; decide), fun Wl nW => ⟨Wl, rfl, nW, Evl.Ex.new nW, upd_same⟩⟩, ?_⟩
    rintro _ H2 ⟨Wl, rfl, nW1, e2, hW2⟩
    have nW : H Wl = none := Evl.fresh_back e1 nW1
    have nWD : Wl ≠ D := fun z => by rw [z, hD1] at nW1; cases nW1
    have m1000 := fa.few.1
    refine ⟨fun m σ H' => ∃ (S W : List Nat) (z : Nat) (y5 y6 y7 y8 : Option V), σ = [some (.ref fl), some (.int (a : Nat)), some (.int (z : Nat)), some (.ref D), some (.ref Wl), y5, y6, y7, y8] ∧ Evl.Ex H H' ∧ H' D = some (.dK (kvB (nI S))) ∧ H' Wl = some (.lst (natsV W)) ∧ LSt es ms R a S W z ∧ W.length ≤ S.length ∧ (∀ s ∈ S, s ∈ W ∨ ((∀ t, nextM ms R s t → t ∈ S) ∧ ∀ i, atM es ms R s i → z.testBit i = true)) ∧ m = 2 * (ms.length - S.length) + W.length,
      ⟨_, [a], [a], 0, none, none, none, none, rfl, e1.trans e2, e2 _ _ hD1, hW2, ⟨by simp, List.mem_singleton.mpr rfl, fun s hs => by rw [List.mem_singleton.mp hs]; exact .refl _, fun s hs => by rw [List.mem_singleton.mp hs]; exact al, fun s hs => hs, Nat.two_pow_pos _, fun i hb => by rw [Nat.zero_testBit] at hb; cases hb⟩, Nat.le_refl _, fun s hs => .inl hs, rfl⟩, ?_⟩
    rintro m σ H3 ⟨S, W, z, y5, y6, y7, y8, rfl, e3, hD3, hW3, ls, wls, cl, rfl⟩
    have s1000 : S.length ≤ ms.length := by
      have := nodup_le (ys := List.range ms.length) ls.nd fun s hs => List.mem_range.mpr (ls.low s hs)
      rwa [List.length_range] at this
    refine ⟨.ref Wl, rfl, !(natsV W).isEmpty, .inl ⟨_, SqL.of hW3, rfl⟩, ?_⟩
    by_cases c : W = []
    · subst c
      refine iteF ?_
      exact ⟨_, rfl, q _ z e3 (ls.done fun s hs => (cl s hs).elim (fun y => nomatch y) id)⟩
    · obtain ⟨W', at_, rfl⟩ : ∃ W' at_, W = W' ++ [at_] := by
        rcases List.eq_nil_or_concat W with h | ⟨L, b, h⟩
        · exact absurd h c
        · exact ⟨L, b, by rw [h]; simp⟩
      refine ite2 (fun _ => ?_) (fun hc => absurd hc (by unfold natsV; simp))
      have atS := ls.sub at_ (List.mem_append_right _ List.mem_cons_self)
      have atl := ls.low at_ atS
      obtain ⟨m, hm⟩ : ∃ m, ms[at_]? = some m := ⟨ms[at_], List.getElem?_eq_getElem atl⟩
      obtain ⟨vm, hvm, ⟨tm, rfl, htm⟩⟩ := Paired.get2 fa.hmv hm
      obtain ⟨xr, hxr⟩ : ∃ xr, R[m.1]? = some xr := ⟨R[m.1]'(rl m (List.mem_of_getElem? hm)), List.getElem?_eq_getElem _⟩
      have wl1 : (W' ++ [at_]).length = W'.length + 1 := by rw [List.length_append, List.length_singleton]
      refine ⟨fun σ' H' => ∃ (S2 W2 : List Nat) (z2 : Nat) (y5 y6 y7 y8 : Option V), σ' = [some (.ref fl), some (.int (a : Nat)), some (.int (z2 : Nat)), some (.ref D), some (.ref Wl), y5, y6, y7, y8] ∧ Evl.Ex H H' ∧ H' D = some (.dK (kvB (nI S2))) ∧ H' Wl = some (.lst (natsV W2)) ∧ LSt es ms R a S2 W2 z2 ∧ W2.length ≤ S2.length ∧ (∀ s ∈ S2, s ∈ W2 ∨ ((∀ t, nextM ms R s t → t ∈ S2) ∧ ∀ i, atM es ms R s i → z2.testBit i = true)) ∧ 2 * (ms.length - S2.length) + W2.length < 2 * (ms.length - S.length) + (W' ++ [at_]).length, ?_, ?_⟩
      · rintro σ' H' ⟨S2, W2, z2, z5, z6, z7, z8, h1, h2, h3, h4, h5, h6, h7, h8⟩
        exact ⟨_, h8, S2, W2, z2, z5, z6, z7, z8, h1, h2, h3, h4, h5, h6, h7, rfl⟩
      refine ⟨fun σ' H' => σ' = [some (.ref fl), some (.int (a : Nat)), some (.int (z : Nat)), some (.ref D), some (.ref Wl), some (.int (m.1 : Nat)), some (.int m.2.1), some (.int m.2.2), y8] ∧ Evl.Ex H H' ∧ H' D = some (.dK (kvB (nI S))) ∧ H' Wl = some (.lst (natsV W')), ?_, ?_⟩
      · have fa3 := fa.ex e3
        refine ⟨.ref fl, rfl, fl, F.C, dx, fs, .ref lm, rfl, fa3.obj, F.cl, F.nm, fa3.fm, .ref Wl, rfl, .inl ⟨rfl, _, SqL.of hW3⟩, Wl, _, .int (at_ : Nat), rfl, rfl, hW3, by unfold natsV; simp, ?_⟩
        have hlm : (upd H3 Wl (.lst (natsV (W' ++ [at_])).dropLast)) lm = some (.lst mvs) := by
          rw [upd_ne (fun y => by rw [y] at fa3; have := fa.hm; rw [y] at this; rw [nW] at this; cases this)]
          exact fa3.hm
        have htm3 : (upd H3 Wl (.lst (natsV (W' ++ [at_])).dropLast)) tm = some (.tup [.int (m.1 : Nat), .int m.2.1, .int m.2.2]) := by
          rw [upd_ne (ne_of (e3 _ _ htm) hW3 (fun y => nomatch y))]
          exact e3 _ _ htm
        refine ⟨lm, mvs, (at_ : Nat), .ref tm, rfl, rfl, SqL.of hlm, atI_nat hvm, ?_⟩
        refine ⟨tm, _, rfl, .inl (.inl htm3), rfl, _, _, rfl, _, _, rfl, _, _, rfl, rfl, rfl, e3.mut nW, by rw [upd_ne nWD.symm]; exact hD3, ?_⟩
        rw [upd_same]
        unfold natsV
        rw [List.map_append, List.map_singleton, List.dropLast_concat]
      rintro _ H4 ⟨rfl, e4, hD4, hW4⟩
      have fa4 := fa.ex e4
      refine ⟨fun σ' H' => σ' = [some (.ref fl), some (.int (a : Nat)), some (.int ((z ||| standN es xr m.2.2 : Nat) : Int)), some (.ref D), some (.ref Wl), some (.int (m.1 : Nat)), some (.int m.2.1), some (.int m.2.2), y8] ∧ Evl.Ex H4 H', ?_, ?_⟩
      · refine ⟨_, rfl, .ref fl, rfl, fl, dx, fs, rfl, fa4.obj, fa4.n1, .ref fl, rfl, fl, F.C, dx, fs, .ref lb, rfl, fa4.obj, F.cl, F.nb, fa4.fb, .int (m.1 : Nat), rfl, lb, _, (m.1 : Nat), .int (xr : Nat), rfl, rfl, SqL.of fa4.hb, atI_nat (by unfold natsV; rw [List.getElem?_map, hxr]; rfl), ?_⟩
        refine ⟨.int m.2.2, rfl, fl, dx, lb, lm, le, fs, mvs, evs, R, ms, es, xr, m.2.2, rfl, fa4, fun H5 e5 => ⟨_, _, rfl, rfl, ?_, e5⟩⟩
        have hz : Builtin.bitOr ((z : Nat) : Int) ((standN es xr m.2.2 : Nat) : Int) = ((z ||| standN es xr m.2.2 : Nat) : Int) := by
          rw [L2.bitOr_nn (Int.natCast_nonneg _) (Int.natCast_nonneg _), Int.toNat_natCast, Int.toNat_natCast]
        rw [← hz]
        rfl
      rintro _ H5 ⟨rfl, e5⟩
      have e05 := e4.trans e5
      have fa5 := fa.ex e05
      refine ⟨.ref fl, rfl, fl, dx, fs, rfl, fa5.obj, fa5.n2, .ref fl, rfl, fl, F.C, dx, fs, .ref lb, rfl, fa5.obj, F.cl, F.nb, fa5.fb, .int (m.1 : Nat), rfl, lb, _, (m.1 : Nat), .int (xr : Nat), rfl, rfl, SqL.of fa5.hb, atI_nat (by unfold natsV; rw [List.getElem?_map, hxr]; rfl), ?_⟩
      refine ⟨.int m.2.2, rfl, fl, dx, lb, lm, le, fs, mvs, evs, R, ms, es, xr, m.2.2, rfl, fa5, fun H6 r e6 nr hr6 => ?_⟩
      refine ⟨r, rfl, ⟨_, SqL.of hr6⟩, ?_⟩
      have hD6 := (e5.trans e6) _ _ hD4
      have hW6 := (e5.trans e6) _ _ hW4
      have nrD : r ≠ D := fun y => by rw [y, e5 _ _ hD4] at nr; cases nr
      have nrW : r ≠ Wl := fun y => by rw [y, e5 _ _ hW4] at nr; cases nr
      have zlt : z ||| standN es xr m.2.2 < 2 ^ es.length := Nat.or_lt_two_pow ls.lt (bits_lt _ _)
      have fl_ : (natsV (firstsN ms xr m.2.2)).length = (firstsN ms xr m.2.2).length := by unfold natsV; rw [List.length_map]
      refine for_it (walk_list (K := K) (a := r) (xs := natsV (firstsN ms xr m.2.2))) (fun j σ H' => ∃ (S2 W2 : List Nat) (y8 : Option V), σ = [some (.ref fl), some (.int (a : Nat)), some (.int ((z ||| standN es xr m.2.2 : Nat) : Int)), some (.ref D), some (.ref Wl), some (.int (m.1 : Nat)), some (.int m.2.1), some (.int m.2.2), y8] ∧ Evl.Ex H H' ∧ H' r = some (.lst (natsV (firstsN ms xr m.2.2))) ∧ H' D = some (.dK (kvB (nI S2))) ∧ H' Wl = some (.lst (natsV W2)) ∧ LSt es ms R a S2 W2 (z ||| standN es xr m.2.2) ∧ W2.length ≤ S2.length ∧ (∀ s ∈ S, s ∈ S2) ∧ (∀ t ∈ (firstsN ms xr m.2.2).take j, t ∈ S2) ∧
          (∀ s ∈ S2, s = at_ ∨ s ∈ W2 ∨ ((∀ t, nextM ms R s t → t ∈ S2) ∧ ∀ i, atM es ms R s i → (z ||| standN es xr m.2.2).testBit i = true)) ∧ 2 * (ms.length - S2.length) + W2.length < 2 * (ms.length - S.length) + (W' ++ [at_]).length)
        ⟨S, W', y8, rfl, e05.trans e6, hr6, hD6, hW6, ⟨ls.nd, ls.st, ls.rc, ls.low, fun s hs => ls.sub s (List.mem_append_left _ hs), zlt, fun i hb => ?_⟩, by omega, fun s hs => hs, fun t ht => (by rw [List.take_zero] at ht; cases ht), fun s hs => ?_, by omega⟩ ?_ ?_ ?_
      · rw [Nat.testBit_or, Bool.or_eq_true] at hb
        rcases hb with hb | hb
        · exact ls.fr i hb
        · exact ⟨at_, atS, m, xr, hm, hxr, hb⟩
      · rcases cl s hs with h | ⟨h1, h2⟩
        · rcases List.mem_append.mp h with h | h
          · exact .inr (.inl h)
          · exact .inl (List.mem_singleton.mp h)
        · exact .inr (.inr ⟨h1, fun i hi => by rw [Nat.testBit_or, h2 i hi, Bool.true_or]⟩)
      · rintro j σ H' _ ⟨_, _, _, _, _, h, _⟩
        exact SqL.of h
      · rintro j v σ H7 H7' hj ⟨S2, W2, y8, rfl, e7, hr7, hD7, hW7, l2, wl2, sb, tk, cl2, me⟩ ⟨rfl, hx⟩
        obtain ⟨t, ht, rfl⟩ : ∃ t, (firstsN ms xr m.2.2)[j]? = some t ∧ v = .int (t : Nat) := by
          unfold natsV at hx
          rw [List.getElem?_map] at hx
          cases y : (firstsN ms xr m.2.2)[j]? with
          | none => rw [y] at hx; cases hx
          | some d => rw [y] at hx; exact ⟨d, rfl, (Option.some.inj hx).symm⟩
        have tm_ := List.mem_of_getElem? ht
        have nx : nextM ms R at_ t := ⟨m, xr, hm, hxr, tm_⟩
        refine ⟨.int (t : Nat), rfl, .ref D, rfl, D, _, rfl, DGet.k hD7 (k := .inl (t : Nat)), _, rfl, ?_⟩
        rw [kvB_some]
        by_cases hin : t ∈ S2
        · rw [decide_eq_true (mem_nI.mpr hin)]
          refine iteF ?_
          refine ⟨S2, W2, _, rfl, e7, hr7, hD7, hW7, l2, wl2, sb, fun u hu => ?_, cl2, me⟩
          rw [take_succ_get ht] at hu
          rcases List.mem_append.mp hu with h | h
          · exact tk u h
          · rw [List.mem_singleton.mp h]; exact hin
        · have nin : (t : Int) ∉ nI S2 := fun h => hin (mem_nI.mp h)
          rw [decide_eq_false nin]
          refine iteT ?_
          have tl : t < ms.length := by
            obtain ⟨n, hn, _⟩ := mem_firsts.mp tm_
            exact (List.getElem?_eq_some_iff.mp hn).1
          have nd2 : (S2 ++ [t]).Nodup := by
            rw [List.nodup_append]
            refine ⟨l2.nd, by simp, fun x hx y hy e => ?_⟩
            rw [List.mem_singleton.mp hy] at e
            exact hin (e ▸ hx)
          have s2l : S2.length + 1 ≤ ms.length := by
            have := nodup_le (ys := List.range ms.length) nd2 fun s hs => List.mem_range.mpr (by
              rcases List.mem_append.mp hs with h | h
              · exact l2.low s h
              · rw [List.mem_singleton.mp h]; exact tl)
            rwa [List.length_append, List.length_singleton, List.length_range] at this
          refine ⟨.ref D, rfl, .int (t : Nat), rfl, D, _, rfl, DPut.k hD7 (k := .inl (t : Nat)) (Nat.lt_of_le_of_lt (by unfold kvB nI; rw [List.length_map, List.length_map]; omega : (kvB (nI S2)).length ≤ 1000) (by decide)), ?_⟩
          rw [kvB_put nin]
          have hW8 : (upd H7' D (.dK (kvB (nI S2 ++ [(t : Int)])))) Wl = some (.lst (natsV W2)) := by rw [upd_ne nWD]; exact hW7
          refine ⟨.ref Wl, rfl, .inl ⟨rfl, _, SqL.of hW8⟩, .int (t : Nat), rfl, Wl, _, _, rfl, rfl, hW8, Nat.lt_of_le_of_lt (by unfold natsV; rw [List.length_map]; omega : (natsV W2).length ≤ 1000) (by decide), ?_⟩
          refine ⟨S2 ++ [t], W2 ++ [t], _, rfl, (e7.mut nD).mut nW, by rw [upd_ne nrW, upd_ne nrD]; exact hr7, ?_, ?_, ⟨nd2, List.mem_append_left _ l2.st, fun s hs => ?_, fun s hs => ?_, fun s hs => ?_, l2.lt, fun i hb => ?_⟩, ?_, fun s hs => List.mem_append_left _ (sb s hs), fun u hu => ?_, fun s hs => ?_, ?_⟩
          · rw [upd_ne nWD.symm, upd_same]
            unfold nI
            rw [List.map_append]
            rfl
          · rw [upd_same]
            unfold natsV
            rw [List.map_append]
            rfl
          · rcases List.mem_append.mp hs with h | h
            · exact l2.rc s h
            · rw [List.mem_singleton.mp h]
              exact next_ng (ls.rc at_ atS) nx
          · rcases List.mem_append.mp hs with h | h
            · exact l2.low s h
            · rw [List.mem_singleton.mp h]; exact tl
          · rcases List.mem_append.mp hs with h | h
            · exact List.mem_append_left _ (l2.sub s h)
            · exact List.mem_append_right _ h
          · obtain ⟨s, hs, h⟩ := l2.fr i hb
            exact ⟨s, List.mem_append_left _ hs, h⟩
          · rw [List.length_append, List.length_append, List.length_singleton]; omega
          · rw [take_succ_get ht] at hu
            rcases List.mem_append.mp hu with h | h
            · exact List.mem_append_left _ (tk u h)
            · exact List.mem_append_right _ h
          · rcases List.mem_append.mp hs with h | h
            · rcases cl2 s h with h1 | h1 | ⟨h1, h2⟩
              · exact .inl h1
              · exact .inr (.inl (List.mem_append_left _ h1))
              · exact .inr (.inr ⟨fun t ht => List.mem_append_left _ (h1 t ht), h2⟩)
            · exact .inr (.inl (List.mem_append_right _ h))
          · rw [List.length_append, List.length_append, List.length_singleton]
            rw [List.length_append] at me ⊢
            omega
      · rintro σ H7 ⟨S2, W2, y8, rfl, e7, hr7, hD7, hW7, l2, wl2, sb, tk, cl2, me⟩
        rw [fl_, List.take_length] at tk
        refine ⟨S2, W2, _, _, _, _, _, rfl, e7, hD7, hW7, l2, wl2, fun s hs => ?_, me⟩
        rcases cl2 s hs with rfl | h1 | h1
        · refine .inr ⟨fun t ⟨n, x, h1, h2, h3⟩ => ?_, fun i ⟨n, x, h1, h2, h3⟩ => ?_⟩
          · rw [hm] at h1
            cases h1
            rw [hxr] at h2
            cases h2
            exact tk t h3
          · rw [hm] at h1
            cases h1
            rw [hxr] at h2
            cases h2
            rw [Nat.testBit_or, h3, Bool.or_true]
        · exact .inl h1
        · exact .inr h1
end
end Wb

set_option Elab.async false
set_option linter.all false
set_option maxRecDepth 100000
set_option maxHeartbeats 8000000
set_option pp.maxSteps 900
set_option pp.deepTerms false
namespace Wb
open PySem PySem.Spec PyProof.Rows L2
/-- a floor just made: what it holds, and that the list `after` is new -/
structure FlNew (C : Addr) (H H' : Hp) (fl dx lb lm le : Addr) (A : List Nat) : Prop where
  at_ : ∃ la, H la = none ∧ la ≠ fl ∧ H' fl = some (.ins C dx [("below", V.ref lb), ("moves", V.ref lm), ("ends", V.ref le), ("after", V.ref la)]) ∧ H' la = some (.lst (natsV A))
def spFInit (C : Addr) : Sp := fun vs H Q _ => ∃ (fl dx lb lm le : Addr) (mvs evs : List V) (R : List Nat) (ms : List NMv) (es : List End), vs = [.ref fl, .ref lb, .ref lm, .ref le] ∧ H fl = some (.ins C dx []) ∧ H lb = some (.lst (natsV R)) ∧ H lm = some (.lst mvs) ∧ Paired (MvT H) mvs ms ∧ H le = some (.lst evs) ∧ Paired (EndT H) evs es ∧
  (ms.length ≤ 1000 ∧ es.length ≤ 1000) ∧ (∀ m ∈ ms, m.1 < R.length) ∧ ∀ H' A, (∀ b o, b ≠ fl → H b = some o → H' b = some o) → FlNew C H H' fl dx lb lm le A → A.length = ms.length → (∀ a y, A[a]? = some y → AfterIs es ms R a y) → Q .non H'
section
variable {P : Program} {w : World} {K : PySem.W.Frag} {mg : Str → Option Value} {base : Heap}
theorem ok_fInit (F : FlC K mg) (B : Bi mg) : FnOk P w K mg base CX0 3 F.f0 F.d0 ["self", "below", "moves", "ends"] (spFInit F.C) := by
  have G3 : FnOk P w K mg base CX0 2 F.f3 F.d3 ["self", "number"] (spLed F.C) := ok_led F B
  refine F.F0.ok scFInit (fun vs H Q E h => ?_) (fun cdv A' outer s H vs Q E hr h => ?_)
  · obtain ⟨fl, dx, lb, lm, le, mvs, evs, R, ms, es, rfl, _⟩ := h; rfl
  · obtain ⟨fl, dx, lb, lm, le, mvs, evs, R, ms, es, rfl, hfl, hb, hm, hmv, he, hev, few, rl, q⟩ := h
    refine ⟨_, (pss_cons (ps_fld (pv 0) (pv 1) rfl)
      (pss_cons (ps_fld (pv 0) (pv 2) rfl)
      (pss_cons (ps_fld (pv 0) (pv 3) rfl)
      (pss_one (ps_fld (pv 0) (pe_lc (own := [("number", 4)]) (g := gName 4) (te := tMeth F.C "led" (spLed F.C) [] E0 (tVar 0) (tCons (tVar 4) tNil)) rfl scFInit.nd (pi_range1 (by rfl) B.range (pa_cons (pe_callB call_len_seq (by rfl) B.len PySem.boot_len (pa_cons (pv 2) pa_nil)) pa_nil)) (blkOk_by (own := [("number", 4)]) (N := nFInit) (sc := defScope sFInit) (by decide +kernel))
        (fun _ _ _ _ _ => pg_name (i := 4) scFInit.nd rfl (Or.inl rfl)) (fun _ _ _ _ _ => pts_nil)
        (fun _ _ _ _ _ => pe_meth (pv 0) F.cl F.m3 G3 hr F.b3 .nil pass0 (pa_cons (pv 4) pa_nil))) rfl))))), ?_⟩
    have nbl : lb ≠ fl := ne_of hb hfl (fun z => nomatch z)
    have nml : lm ≠ fl := ne_of hm hfl (fun z => nomatch z)
    have nel : le ≠ fl := ne_of he hfl (fun z => nomatch z)
    have ml : mvs.length = ms.length := Paired.len hmv
    refine ⟨.ref lb, rfl, .ref fl, rfl, fl, F.C, dx, [], rfl, hfl, F.cl, F.nb, (by decide), ?_⟩
    refine ⟨.ref lm, rfl, .ref fl, rfl, fl, F.C, dx, _, rfl, upd_same, F.cl, F.nm, (by show 1 < 1000; decide), ?_⟩
    refine ⟨.ref le, rfl, .ref fl, rfl, fl, F.C, dx, _, rfl, upd_same, F.cl, F.ne, (by show 2 < 1000; decide), ?_⟩
    have efs : putF ("ends" : Str) (V.ref le) (putF ("moves" : Str) (V.ref lm) (putF ("below" : Str) (V.ref lb) [])) = ([("below", V.ref lb), ("moves", V.ref lm), ("ends", V.ref le)] : List (Str × V)) := rfl
    have k3 : ∀ b o, b ≠ fl → H b = some o → (upd (upd (upd H fl (.ins F.C dx (putF "below" (.ref lb) []))) fl (.ins F.C dx (putF "moves" (.ref lm) (putF "below" (.ref lb) [])))) fl (.ins F.C dx (putF "ends" (.ref le) (putF "moves" (.ref lm) (putF "below" (.ref lb) []))))) b = some o := fun b o n h => by
      rw [upd_ne n, upd_ne n, upd_ne n]
      exact h
    have g3 : (upd (upd (upd H fl (.ins F.C dx (putF "below" (.ref lb) []))) fl (.ins F.C dx (putF "moves" (.ref lm) (putF "below" (.ref lb) [])))) fl (.ins F.C dx (putF "ends" (.ref le) (putF "moves" (.ref lm) (putF "below" (.ref lb) []))))) fl = some (.ins F.C dx [("below", V.ref lb), ("moves", V.ref lm), ("ends", V.ref le)]) := by
      rw [upd_same, efs]
    generalize (upd (upd (upd H fl (.ins F.C dx (putF "below" (.ref lb) []))) fl (.ins F.C dx (putF "moves" (.ref lm) (putF "below" (.ref lb) [])))) fl (.ins F.C dx (putF "ends" (.ref le) (putF "moves" (.ref lm) (putF "below" (.ref lb) []))))) = H3 at k3 g3
    have tupk : ∀ b xs, H b = some (.tup xs) → H3 b = some (.tup xs) := fun b xs h => k3 b _ (ne_of h hfl (fun z => nomatch z)) h
    have fa3 : FlAt F.C H3 fl dx [("below", V.ref lb), ("moves", V.ref lm), ("ends", V.ref le)] lb lm le mvs evs R ms es :=
      ⟨g3, rfl, rfl, rfl, rfl, rfl, rfl, rfl, k3 _ _ nbl hb, k3 _ _ nml hm, Paired.imp (fun _ _ ⟨t, r, z⟩ => ⟨t, r, tupk _ _ z⟩) hmv, k3 _ _ nel he, Paired.imp (fun _ _ ⟨t, r, z⟩ => ⟨t, r, tupk _ _ z⟩) hev, few⟩
    have m1000 := few.1
    refine ⟨.ref lm, rfl, lm, mvs, rfl, .inl (SqL.of fa3.hm), _, rfl, by omega, by omega, fun D nD => lc_range (lo := 0) (n := ((mvs.length : Nat) : Int).toNat) (fun i H' => ∃ A : List Nat, Evl.Ex H3 H' ∧ H' D = some (.lst (natsV A)) ∧ A.length = i ∧ ∀ a y, A[a]? = some y → AfterIs es ms R a y) ⟨[], Evl.Ex.new nD, upd_same, rfl, fun a y h => by simp at h⟩ ?_ ?_⟩
    · rintro i H4 hi ⟨A, e4, hD4, al, ha⟩
      have z0 : (0 : Int) + (i : Nat) = (i : Int) := by omega
      refine ⟨rfl, .ref fl, rfl, fl, dx, _, rfl, (fa3.ex e4).obj, rfl, .int ((0 : Int) + (i : Nat)), rfl, ?_⟩
      rw [z0]
      refine ⟨fl, dx, lb, lm, le, _, mvs, evs, R, ms, es, i, rfl, fa3.ex e4, by omega, rl, fun H5 y e5 hy => ?_⟩
      have hD5 := e5 _ _ hD4
      refine ⟨_, hD5, Nat.lt_of_le_of_lt (by unfold natsV; rw [List.length_map]; omega : (natsV A).length ≤ 1000) (by decide), A ++ [y], (e4.trans e5).mut nD, ?_, by rw [List.length_append, List.length_singleton, al], fun a y' h => ?_⟩
      · rw [upd_same]
        unfold natsV
        rw [List.map_append]
        rfl
      · by_cases c : a < A.length
        · rw [List.getElem?_append_left c] at h
          exact ha a y' h
        · have lt := (List.getElem?_eq_some_iff.mp h).1
          rw [List.length_append, List.length_singleton] at lt
          have ea : a = i := by omega
          rw [List.getElem?_append_right (by omega), show a - A.length = 0 by omega] at h
          have h0 : some y = some y' := h
          cases h0
          rw [ea]
          exact hy
    · rintro H4 ⟨A, e4, hD4, al, ha⟩
      have fa4 := fa3.ex e4
      refine ⟨.ref fl, rfl, fl, F.C, dx, _, rfl, fa4.obj, F.cl, F.na, (by show 3 < 1000; decide), ?_⟩
      have nDl : D ≠ fl := fun y => by rw [y, g3] at nD; cases nD
      have efa : putF ("after" : Str) (V.ref D) ([("below", V.ref lb), ("moves", V.ref lm), ("ends", V.ref le)] : List (Str × V)) = ([("below", V.ref lb), ("moves", V.ref lm), ("ends", V.ref le), ("after", V.ref D)] : List (Str × V)) := rfl
      rw [efa]
      have kl : ∀ b o, b ≠ fl → H4 b = some o → (upd H4 fl (.ins F.C dx [("below", V.ref lb), ("moves", V.ref lm), ("ends", V.ref le), ("after", V.ref D)])) b = some o := fun b o n h => by
        rw [upd_ne n]
        exact h
      have tk4 : ∀ b xs, H4 b = some (.tup xs) → (upd H4 fl (.ins F.C dx [("below", V.ref lb), ("moves", V.ref lm), ("ends", V.ref le), ("after", V.ref D)])) b = some (.tup xs) := fun b xs h => kl b _ (ne_of h fa4.obj (fun z => nomatch z)) h
      have nDH : H D = none := by
        cases c : H D with
        | none => rfl
        | some o => rw [k3 D o nDl c] at nD; cases nD
      exact q _ A (fun b o n h => kl b o n (e4 _ _ (k3 b o n h))) ⟨D, nDH, nDl, upd_same, kl _ _ nDl hD4⟩ (by omega) ha
end
end Wb

set_option Elab.async false
set_option linter.all false
set_option maxRecDepth 100000
set_option maxHeartbeats 8000000
set_option pp.maxSteps 900
set_option pp.deepTerms false
namespace Wb
open PySem PySem.Spec PyProof.Rows L2
theorem two_take {l : Lock} (t : TwoWay l) (k : Nat) : TwoWay (l.take k) := fun b hb => t b (List.mem_of_mem_take hb)
theorem way_cut {l : Lock} (ok : LockOk l) {k : Nat} {b : Bolt} {g : Gap} {w : Word} (hb : l[k]? = some b) (hg : g ∈ b.gaps) (hw : w ∈ g.ways) : cutsFrom l k w := by
  have G := ((ok.bolts k b hb).gaps g hg).words w hw
  have lt := (List.getElem?_eq_some_iff.mp hb).1
  refine ⟨k, b, g, w, Nat.le_refl _, hb, hg, hw, ?_⟩
  rw [List.take_of_length_le]
  have := G.1
  unfold manysOf at this
  rw [List.length_map, List.length_take] at this
  omega
theorem cut_less {l : Lock} {k : Nat} {v : Word} {q : Int} (h : cutsFrom l (k + 1) (v ++ [q])) (hv : v.length = k) : cutsFrom l k v := by
  obtain ⟨j, b, g, u, hj, hb, hg, hu, e⟩ := h
  refine ⟨j, b, g, u, by omega, hb, hg, hu, ?_⟩
  have z := congrArg (List.take k) e
  rw [List.take_take, Nat.min_eq_left (by omega), ← hv, List.take_left, hv] at z
  exact z
theorem cut_small {l : Lock} (ok : LockOk l) {k : Nat} {w : Word} (h : cutsFrom l k w) : (w.length ≤ 60 ∧ ∀ x ∈ w, 0 ≤ x ∧ x < 10) ∧ w.length = k := by
  obtain ⟨j, b, g, u, hj, hb, hg, hu, rfl⟩ := h
  have lt := (List.getElem?_eq_some_iff.mp hb).1
  obtain ⟨h1, h2⟩ := ((ok.bolts j b hb).gaps g hg).words u hu
  have l60 := ok.n1
  have ml : (manysOf (l.take j)).length = j := by
    unfold manysOf
    rw [List.length_map, List.length_take]
    omega
  refine ⟨⟨by rw [List.length_take]; omega, fun x hx => ?_⟩, by rw [List.length_take]; omega⟩
  obtain ⟨i, hi⟩ := List.mem_iff_getElem?.mp (List.mem_of_mem_take hx)
  have il := (List.getElem?_eq_some_iff.mp hi).1
  have hm : (manysOf (l.take j))[i]? = some (l[i]'(by omega)).many := by
    unfold manysOf
    rw [List.getElem?_map, List.getElem?_take, if_pos (by omega), List.getElem?_eq_getElem (by omega)]
    rfl
  have z := h2 i x _ hi hm
  have m4 := (ok.bolts i l[i] (List.getElem?_eq_getElem (by omega))).m1
  omega
/-- the words to which the bolts below k come from a stand -/
def NearOk (l : Lock) (st : Word) (k : Nat) (ns : List Word) : Prop := ∃ ws, WordsAt l k ws ∧ ∀ w, w ∈ ns ↔ w ∈ ws ∧ Rch (l.take k) (st.take k) w
/-- the places to which bolt k comes from a stand -/
structure BlockOk (l : Lock) (st : Word) (k : Nat) (bk : List Int) : Prop where
  up : bk.Pairwise (· < ·)
  low : ∀ q ∈ bk, 0 ≤ q ∧ q < 4
  mem : ∀ (b : Bolt) (p : Int), l[k]? = some b → st[k]? = some p → ∀ q, q ∈ bk ↔ BRc b.gaps (Rch (l.take k) (st.take k)) p q
theorem near_zero {l : Lock} {st : Word} {ws : List Word} (ok : LockOk l) (h : WordsAt l 0 ws) : NearOk l st 0 ws := by
  refine ⟨ws, h, fun w => ⟨fun hw => ⟨hw, ?_⟩, fun z => z.1⟩⟩
  have z := (cut_small ok ((h.2 w).mp hw)).2
  have e : w = [] := List.eq_nil_of_length_eq_zero z
  subst e
  rw [List.take_zero]
  exact .refl _
theorem block_ok {l : Lock} {st : Word} {k : Nat} {ns : List Word} {bk : List Int} {b : Bolt} {p : Int} (ok : LockOk l) (hb : l[k]? = some b) (hp : st[k]? = some p) (n : NearOk l st k ns) (up : bk.Pairwise (· < ·)) (low : ∀ q ∈ bk, 0 ≤ q ∧ q < 4)
    (mem : ∀ q, q ∈ bk ↔ BRc b.gaps (· ∈ ns) p q) : BlockOk l st k bk := by
  obtain ⟨ws, hw, hn⟩ := n
  refine ⟨up, low, fun b' p' hb' hp' q => ?_⟩
  rw [hb] at hb'
  cases hb'
  rw [hp] at hp'
  cases hp'
  rw [mem]
  constructor
  · exact BRc.mono fun g hg w hww hm => ((hn w).mp hm).2
  · exact BRc.mono fun g hg w hww hm => (hn w).mpr ⟨(hw.2 w).mpr (way_cut ok hb hg hww), hm⟩
theorem near_next {l : Lock} {st : Word} {k : Nat} {ns ws : List Word} {bk : List Int} {b : Bolt} {p : Int} (ok : LockOk l) (t : TwoWay l) (sl : st.length = l.length) (hb : l[k]? = some b) (hp : st[k]? = some p) (n : NearOk l st k ns) (bo : BlockOk l st k bk) (h : WordsAt l (k + 1) ws) :
    NearOk l st (k + 1) (ws.filter (isNear ns bk)) := by
  obtain ⟨ws0, hw0, hn⟩ := n
  have kl := (List.getElem?_eq_some_iff.mp hb).1
  refine ⟨ws, h, fun w => ?_⟩
  rw [List.mem_filter]
  refine and_congr_right fun hw => ?_
  have hc := (h.2 w).mp hw
  have wl := (cut_small ok hc).2
  obtain ⟨v, q, rfl⟩ : ∃ v q, w = v ++ [q] := by
    rcases List.eq_nil_or_concat w with z | ⟨L, b, z⟩
    · rw [z] at wl
      cases wl
    · exact ⟨L, b, by rw [z]; simp⟩
  have vl : v.length = k := by
    rw [List.length_append, List.length_singleton] at wl
    omega
  have tk : l.take (k + 1) = l.take k ++ [b] := take_succ_get hb
  have sk : st.take (k + 1) = st.take k ++ [p] := take_succ_get hp
  have ul : (st.take k).length = (l.take k).length := by
    rw [List.length_take, List.length_take]
    omega
  rw [tk, sk, rch_snoc (two_take t k) ul]
  unfold isNear
  rw [List.getLast?_concat, List.dropLast_concat, Bool.and_eq_true, decide_eq_true_eq, decide_eq_true_eq]
  constructor
  · rintro ⟨⟨q', e, hq⟩, hv⟩
    cases e
    exact ⟨v, q, rfl, ((hn v).mp hv).2, (bo.mem b p hb hp q).mp hq⟩
  · rintro ⟨v', q', e, h1, h2⟩
    obtain ⟨e1, e2⟩ := List.append_inj' e rfl
    cases e2
    subst e1
    exact ⟨⟨q, rfl, (bo.mem b p hb hp q).mpr h2⟩, (hn v).mpr ⟨(hw0.2 v).mpr (cut_less hc vl), h1⟩⟩
end Wb

set_option Elab.async false
set_option linter.all false
set_option maxRecDepth 100000
set_option maxHeartbeats 8000000
set_option pp.maxSteps 900
set_option pp.deepTerms false
namespace Wb
open PySem PySem.Spec PyProof.Rows L2
/-! ### each gap has one back -/
def gKy (a b : Int) : List Key := [.inl a, .inl b]
def WvAt (K : PySem.W.Frag) (H : Hp) (v : V) (ws : List Word) : Prop := ∃ wb us, v = .ref wb ∧ SqT K H wb us ∧ Paired (Wd K H) us ws
theorem WvAt.mono {K : PySem.W.Frag} {H H' : Hp} (e : TX K H H') {v : V} {ws : List Word} (h : WvAt K H v ws) : WvAt K H' v ws := by
  obtain ⟨wb, us, r, a, b⟩ := h
  exact ⟨wb, us, r, e.1 _ _ a, Paired.imp (fun _ _ => Wd.mono e) b⟩
abbrev GK (K : PySem.W.Frag) (H : Hp) (kv : List Key × V) (g : Gap) : Prop := kv.1 = gKy g.frm g.to_ ∧ WvAt K H kv.2 g.ways
theorem gKy_inj {a b c d : Int} (h : gKy a b = gKy c d) : a = c ∧ b = d := by
  have h1 := List.cons.inj h
  have h2 := List.cons.inj h1.2
  exact ⟨Sum.inl.inj h1.1, Sum.inl.inj h2.1⟩
theorem lex_ne {a b c d : Int} (h : lexLt2 a b c d) : gKy a b ≠ gKy c d := by
  intro e
  obtain ⟨e1, e2⟩ := gKy_inj e
  rcases h with z | ⟨_, z⟩
  · omega
  · omega
theorem gk_none {K : PySem.W.Frag} {H : Hp} {k : List Key} : ∀ {kvs : List (List Key × V)} {gs : List Gap}, Paired (GK K H) kvs gs → (∀ g ∈ gs, gKy g.frm g.to_ ≠ k) → (kvs.any fun kv => decide (kv.1 = k)) = false
  | _, _, .nil, _ => rfl
  | _, _, .cons (a := kv) (b := g) r t, h => by
    rw [List.any_cons, gk_none t fun g' hg' => h g' (List.mem_cons_of_mem _ hg'), r.1, decide_eq_false (h g List.mem_cons_self)]
    rfl
theorem gk_some {K : PySem.W.Frag} {H : Hp} : ∀ {kvs : List (List Key × V)} {gs : List Gap}, Paired (GK K H) kvs gs → gs.Pairwise (fun g h => lexLt2 g.frm g.to_ h.frm h.to_) → ∀ h ∈ gs, ∃ v, valV kvs (gKy h.frm h.to_) = some v ∧ WvAt K H v h.ways
  | _, _, .nil, _, h, hh => nomatch hh
  | _, _, .cons (a := kv) (b := g) r t, p, h, hh => by
    obtain ⟨p1, p2⟩ := List.pairwise_cons.mp p
    rcases List.mem_cons.mp hh with rfl | hh
    · exact ⟨kv.2, valV_pos r.1, r.2⟩
    · obtain ⟨v, h1, h2⟩ := gk_some t p2 h hh
      refine ⟨v, ?_, h2⟩
      rw [valV_neg (by rw [r.1]; exact lex_ne (p1 h hh))]
      exact h1
theorem dp_Wv {K : PySem.W.Frag} {H : Hp} {v : V} {ws : List Word} (h : WvAt K H v ws) : Dp K H v (dWs ws) := by
  obtain ⟨wb, us, rfl, a, b⟩ := h
  exact .tup a (dp_ws b)
theorem shaped_wv {ws : List Word} (h : SmallW ws) : SeqAt.shaped (dWs ws) = true ∧ (dWs ws).canLay0 = true := by
  have f : FineAll (ws.map dW) 1 ((ws.map dW).length * (603 + 2)) := FineAll.rep fun d hd => by
    obtain ⟨u, hu, rfl⟩ := List.mem_map.mp hd
    exact fine_one h hu
  have f2 : Fine (dWs ws) 2 _ := fine_tup f
  exact ⟨f2.shaped (by decide), f2.lay⟩
theorem small_ways {l : Lock} (ok : LockOk l) {k : Nat} {b : Bolt} {g : Gap} (hb : l[k]? = some b) (hg : g ∈ b.gaps) : SmallW g.ways := fun u hu => (cut_small ok (way_cut ok hb hg hu)).1
theorem w_it {J : It} {n : Nat} {G : Hp → Prop} {Y : Nat → Hp → V → Hp → Prop} (wk : Walk J n G Y) {H0 : Hp} {Qd : Hp → Prop} {Body : V → Hp → (Hp → Prop) → Prop} (Pv : Nat → Hp → Prop) (h0 : Pv 0 H0) (hG : ∀ i H, i ≤ n → Pv i H → G H)
    (hs : ∀ i x H H', i < n → Pv i H → Y i H x H' → Body x H' (Pv (i + 1))) (hd : ∀ H, Pv n H → Qd H) :
    ∃ W : Nat → Nat → Hp → Prop, (∃ m, W 0 m H0) ∧ ∀ i m H, W i m H → (J.stop i H ∧ Qd H) ∨ (J.go i H ∧ ∃ Nx : Hp → Prop, (∀ H', Nx H' → ∃ m', m' < m ∧ W (i + 1) m' H') ∧ ∀ x H', J.yld i H x H' → Body x H' Nx) := by
  refine ⟨fun i m H => (m = n - i ∧ i ≤ n) ∧ Pv i H, ⟨n, ⟨rfl, Nat.zero_le _⟩, h0⟩, ?_⟩
  rintro i m H ⟨⟨rfl, hi⟩, p⟩
  have gg := hG i H hi p
  rcases Nat.lt_or_eq_of_le hi with lt | rfl
  · exact .inr ⟨wk.goes i H lt gg, Pv (i + 1), fun H' p' => ⟨n - (i + 1), by omega, ⟨rfl, lt⟩, p'⟩, fun x H' y => hs i x H H' lt p (wk.yields i H x H' lt gg y)⟩
  · exact .inl ⟨wk.stops H gg, hd H p⟩
theorem eqv_wsl : ∀ ws : List Word, PyData.eqvAll (ws.map dW) (ws.map dW) = true
  | [] => by simp [PyData.eqvAll]
  | w :: ws => by
    rw [List.map_cons, PyData.eqvAll, eqv_W, eqv_wsl ws, decide_eq_true rfl]
    rfl
theorem eqv_ws (ws : List Word) : PyData.eqv (dWs ws) (dWs ws) = true := by
  unfold dWs
  rw [PyData.eqv, eqv_wsl]
section
variable {P : Program} {w : World} {K : PySem.W.Frag} {mg : Str → Option Value} {base : Heap}
end
end Wb

set_option Elab.async false
set_option linter.all false
set_option maxRecDepth 100000
set_option maxHeartbeats 8000000
set_option pp.maxSteps 900
set_option pp.deepTerms false
namespace Wb
open PySem PySem.Spec PyProof.Rows L2
abbrev sSizes : Stmt := topS 48
abbrev nSizes : List Str := ["_law_pen_here", "_law_most", "_law_sizes_here", "_law_left", "_law_k", "_law_many"]
theorem scSizes : FnScope nSizes ["_law_pen_here", "_law_most"] (defScope sSizes) := ⟨rfl, rfl, rfl, by decide +kernel, rfl, by decide +kernel, by decide +kernel⟩
def prodI : List Int → Int
  | [] => 1
  | m :: r => m * prodI r
theorem prodI_snoc (xs : List Int) (m : Int) : prodI (xs ++ [m]) = prodI xs * m := by
  induction xs with
  | nil => simp [prodI]
  | cons x xs ih => rw [List.cons_append, prodI, prodI, ih, Int.mul_assoc]
theorem prodI_pos : ∀ {xs : List Int}, (∀ m ∈ xs, 1 ≤ m) → 1 ≤ prodI xs
  | [], _ => Int.le_refl _
  | x :: xs, h => by
    have h1 := prodI_pos (xs := xs) fun m hm => h m (List.mem_cons_of_mem _ hm)
    have h2 := h x List.mem_cons_self
    have h3 := Int.mul_le_mul h2 h1 (by decide) (by omega)
    rw [prodI]
    omega
structure SizesOk (ms : List Int) : Prop where
  ne : ms ≠ []
  each : ∀ m ∈ ms, 2 ≤ m ∧ m ≤ 4
  few : ms.length ≤ 6
  prod : prodI ms ≤ 96
def spSizes (K : PySem.W.Frag) : Sp := fun vs H Q _ => ∃ (p c : Addr) (T : Int), vs = [.ref p, .int 96] ∧ PenAt H p c T ∧ T ≤ 8000000 ∧ ∀ H' z ms, Exx p H H' → PenAt H' p c (T + 20) → H z = none → H' z = some (.lst (ms.map V.int)) → SizesOk ms → Q (.ref z) H'
section
variable {P : Program} {w : World} {K : PySem.W.Frag} {mg : Str → Option Value} {base : Heap}
theorem ok_sizes {f f1 f2 : Addr} {fd fd1 fd2 : FuncData} (F : Fun K "_law_sizes" "_law_sizes" sSizes f fd) (F1 : Fun K "_law_draw" "_law_draw" sDraw f1 fd1) (b1 : Binds K fd1 ["_law_pen_here", "_law_many"] []) (g1 : mg "_law_draw" = some (.ref f1))
    (F2 : Fun K "_law_pick" "_law_pick" sPick f2 fd2) (b2 : Binds K fd2 ["_law_pen_here", "_law_lot"] []) (g2 : mg "_law_pick" = some (.ref f2)) (B : Bi mg) (mn : mg "min" = none) :
    FnOk P w K mg base CX0 3 f fd ["_law_pen_here", "_law_most"] (spSizes K) := by
  have GD : FnOk P w K mg base CX0 1 f1 fd1 ["_law_pen_here", "_law_many"] spDraw := ok_draw F1 B
  have GP : FnOk P w K mg base CX0 2 f2 fd2 ["_law_pen_here", "_law_lot"] (spPick K) := ok_pick F2 F1 b1 g1 B
  refine F.ok scSizes (fun vs H Q E h => ?_) (fun cdv A outer s H vs Q E hr h => ?_)
  · obtain ⟨p, c, T, rfl, _⟩ := h; rfl
  · obtain ⟨p, c, T, rfl, hp, T8, q⟩ := h
    have hr1 : Room 1 _ := hr.mono (by decide)
    refine ⟨_, (pss_cons (ps_par (by rfl) scSizes.nd (i := 2) (j := 3) rfl rfl (by decide) rfl rfl (pa_cons (pe_lst pa_nil) (pa_cons (pv 1) pa_nil)) (by rfl))
 (pss_cons (ps_for PassesOwn.never rfl (pi_range1 (by rfl) B.range (pa_cons (pe_op op_add pe_int (pe_call GD hr1 (by rfl) g1 F1.kp b1 .nil pass0 (pa_cons (pv 0) (pa_cons pe_int pa_nil)))) pa_nil)) (pg_name (i := 4) scSizes.nd rfl (.inl rfl))
 (pss_cons (ps_set (i := 5) scSizes.nd rfl (.inl rfl) (pe_callB (call_min2 rfl) (by rfl) mn boot_min (pa_cons (pe_call GP hr (by rfl) g2 F2.kp b2 .nil pass0 (pa_cons (pv 0) (pa_cons (pe_lst (pa_cons pe_int (pa_cons pe_int (pa_cons pe_int (pa_cons pe_int pa_nil))))) pa_nil))) (pa_cons (pv 3) pa_nil))))
 (pss_one (ps_if (pt_cmpR op_gt (pv 5) pe_int (nomark _))
 (pss_cons (ps_expr (pe_bm PySem.F.plainAttrs_list PySem.F.slot_list_append PySem.F.type_list_append mt_append (pv 2) (pa_cons (pv 5) pa_nil)))
 (pss_one (ps_set (i := 3) scSizes.nd rfl (.inl rfl) (pe_op op_fdiv (pv 3) (pv 5)))))
 pss_nil))))
 (pss_one (ps_ret (pv 2))))), ?_⟩
    refine ⟨Nat.zero_le _, fun z nz => ?_⟩
    have e1 := Evl.Ex.new (o := .lst []) nz
    have gz : (upd H z (.lst [])) z = some (.lst []) := upd_same
    have nzp : z ≠ p := hp.new1 nz
    have nzc : z ≠ c := hp.new2 nz
    have hp1 := hp.ex e1
    generalize upd H z (.lst []) = H1 at e1 gz hp1
    refine ⟨.int 96, rfl, .ref z, .int 96, rfl, ?_⟩
    refine ⟨.ref p, rfl, p, c, 6, _, rfl, hp1, by decide, by decide, by omega, fun r H2 r0 r1 x2 hp2 => ⟨1, r, rfl, rfl, _, rfl, by omega, by omega, ?_⟩⟩
    refine for_range (lo := 0) (n := (1 + r).toNat) (fun i σ H' => ∃ (ms : List Int) (left : Int) (y4 y5 : Option V), σ = [some (.ref p), some (.int 96), some (.ref z), some (.int left), y4, y5] ∧ Exx p H H' ∧ PenAt H' p c (T + 1 + (i : Nat)) ∧ H' z = some (.lst (ms.map V.int)) ∧
        (∀ m ∈ ms, 2 ≤ m ∧ m ≤ 4) ∧ ms.length ≤ i ∧ 0 ≤ left ∧ prodI ms * left ≤ 96 ∧ (i = 0 → left = 96) ∧ (0 < i → ms ≠ []) ∧ prodI ms ≤ 96)
      ⟨[], 96, none, none, rfl, (Exx.ex e1).trans x2, by simpa using hp2, x2 _ _ nzp gz, (fun m hm => nomatch hm), Nat.le_refl _, by decide, by decide, fun _ => rfl, fun h => absurd h (by decide), by decide⟩ ?_ ?_
    · rintro i σ H3 hi ⟨ms, left, y4, y5, rfl, x3, hp3, hz3, each, ml, l0, pl, i0, i1, p96⟩
      refine ⟨.ref p, rfl, (by show 4 ≤ sizeLine; decide), fun a na => ?_⟩
      have e4 := Evl.Ex.new (o := .lst [.int 2, .int 2, .int 3, .int 4]) na
      have ga : (upd H3 a (.lst [.int 2, .int 2, .int 3, .int 4])) a = some (.lst [.int 2, .int 2, .int 3, .int 4]) := upd_same
      have nap : a ≠ p := hp3.new1 na
      have hp4 := hp3.ex e4
      generalize upd H3 a (.lst [.int 2, .int 2, .int 3, .int 4]) = H4 at e4 ga hp4
      refine ⟨p, c, a, _, _, rfl, hp4, by omega, SqL.of ga, nap, (fun h => nomatch h), by decide, fun x H5 hx x5 hp5 => ?_⟩
      obtain ⟨d, rfl, d2, d4⟩ : ∃ d : Int, x = .int d ∧ 2 ≤ d ∧ d ≤ 4 := by
        simp at hx
        rcases hx with rfl | rfl | rfl
        · exact ⟨2, rfl, by decide, by decide⟩
        · exact ⟨3, rfl, by decide, by decide⟩
        · exact ⟨4, rfl, by decide, by decide⟩
      have hz5 := x5 _ _ nzp (e4 _ _ hz3)
      have x05 := x3.trans ((Exx.ex e4).trans x5)
      refine ⟨.int left, rfl, d, left, rfl, ?_⟩
      generalize hm : (if left < d then left else d) = m
      have m4 : m ≤ 4 ∧ m ≤ left := by
        rw [← hm]
        split <;> omega
      refine ⟨.int m, rfl, m, 1, rfl, rfl, _, rfl, ?_⟩
      refine ite2 (fun hc => ?_) (fun hc => ?_)
      · have m1 : 1 < m := of_decide_eq_true hc
        refine ⟨.ref z, rfl, .inl ⟨rfl, _, SqL.of hz5⟩, .int m, rfl, z, _, _, rfl, rfl, hz5, Nat.lt_of_le_of_lt (by rw [List.length_map]; omega : (ms.map V.int).length ≤ 6) (by decide), ?_⟩
        refine ⟨.int left, rfl, .int m, rfl, left, m, rfl, rfl, ⟨by omega, by omega⟩, ?_⟩
        have hp6 := hp5.put (o := .lst (ms.map V.int ++ [.int m])) nzp nzc
        have pp : 1 ≤ prodI ms := prodI_pos fun m hm => by have := (each m hm).1; omega
        have l1 : m * (left / m) ≤ left := by
          have := Int.mul_ediv_add_emod left m
          have := Int.emod_nonneg left (show m ≠ 0 by omega)
          omega
        refine ⟨ms ++ [m], left / m, _, _, rfl, x05.mut nz, hp6.mono (by omega), by rw [upd_same, List.map_append]; rfl, ?_, by rw [List.length_append, List.length_singleton]; omega, Int.ediv_nonneg l0 (by omega), ?_, fun h => absurd h (Nat.succ_ne_zero _), fun _ h => by simp at h, ?_⟩
        · intro y hy
          rcases List.mem_append.mp hy with h | h
          · exact each y h
          · rw [List.mem_singleton.mp h]; omega
        · rw [prodI_snoc, Int.mul_assoc]
          exact Int.le_trans (Int.mul_le_mul_of_nonneg_left l1 (by omega)) pl
        · rw [prodI_snoc]
          exact Int.le_trans (Int.mul_le_mul_of_nonneg_left m4.2 (by omega)) pl
      · have m1 : ¬ 1 < m := fun h => hc (decide_eq_true h)
        refine ⟨ms, left, _, _, rfl, x05, hp5.mono (by omega), hz5, each, by omega, l0, pl, fun h => absurd h (Nat.succ_ne_zero _), fun _ => ?_, p96⟩
        refine i1 (Nat.pos_of_ne_zero fun h0 => ?_)
        have := i0 h0
        rw [← hm] at m1
        split at m1 <;> omega
    · rintro σ H3 ⟨ms, left, y4, y5, rfl, x3, hp3, hz3, each, ml, l0, pl, i0, i1, p96⟩
      exact ⟨.ref z, rfl, q H3 z ms x3 (hp3.mono (by omega)) nz hz3 ⟨i1 (by omega), each, by omega, p96⟩⟩
end
end Wb

set_option Elab.async false
set_option linter.all false
set_option maxRecDepth 100000
set_option maxHeartbeats 8000000
set_option pp.maxSteps 900
set_option pp.deepTerms false
namespace Wb
open PySem PySem.Spec PyProof.Rows L2
abbrev sSteps : Stmt := topS 50
abbrev nSteps : List Str := ["_law_lock_here", "_law_stand", "_law_found", "_law_k", "_law_here", "_law_there", "_law_price", "_law_ways"]
theorem scSteps : FnScope nSteps ["_law_lock_here", "_law_stand"] (defScope sSteps) := ⟨rfl, rfl, rfl, by decide +kernel, rfl, by decide +kernel, by decide +kernel⟩
abbrev sBehind : Stmt := topS 53
abbrev nBehind : List Str := ["_law_lock_here", "_law_stand", "_law_k", "_law_there", "_law_price"]
theorem scBehind : FnScope nBehind ["_law_lock_here", "_law_stand"] (defScope sBehind) := ⟨rfl, rfl, rfl, by decide +kernel, rfl, by decide +kernel, by decide +kernel⟩
/-- a lock of the law's, or the first bolts of one -/
structure LkS (l : Lock) : Prop where
  few : l.length ≤ 6
  gaps : ∀ b ∈ l, b.gaps.length ≤ 16 ∧ ∀ g ∈ b.gaps, SmallW g.ways
  goes : ∀ b ∈ l, (1 ≤ b.many ∧ b.many ≤ 4) ∧ ∀ g ∈ b.gaps, 0 ≤ g.to_ ∧ g.to_ < b.many
  prod : prodI (manysOf l) ≤ 96
abbrev Tk := Nat × Int × Int
def StAt (H : Hp) (v : V) (t : Tk) : Prop := ∃ a, v = .ref a ∧ H a = some (.tup [.int (t.1 : Nat), .int t.2.1, .int t.2.2])
def okG (st : Word) (k : Nat) (g : Gap) : Prop := st[k]? = some g.frm ∧ st.take k ∈ g.ways
/-- the steps at the bolts below i, and those along the first gaps of bolt i -/
structure StepsOf (l : Lock) (st : Word) (i : Nat) (gs : List Gap) (ts : List Tk) : Prop where
  snd : ∀ t ∈ ts, (∃ b g, t.1 < i ∧ l[t.1]? = some b ∧ g ∈ b.gaps ∧ okG st t.1 g ∧ t.2.1 = g.to_) ∨ (t.1 = i ∧ ∃ g ∈ gs, okG st i g ∧ t.2.1 = g.to_)
  all : ∀ k b g, k < i → l[k]? = some b → g ∈ b.gaps → okG st k g → ∃ t ∈ ts, t.1 = k ∧ t.2.1 = g.to_
  all2 : ∀ g ∈ gs, okG st i g → ∃ t ∈ ts, t.1 = i ∧ t.2.1 = g.to_
theorem StepsOf.next {l : Lock} {st : Word} {i : Nat} {b : Bolt} {ts : List Tk} (hb : l[i]? = some b) (h : StepsOf l st i b.gaps ts) : StepsOf l st (i + 1) [] ts := by
  refine ⟨fun t ht => ?_, fun k b' g hk hb' hg ho => ?_, fun g hg => nomatch hg⟩
  · rcases h.snd t ht with ⟨b', g, h1, h2, h3, h4, h5⟩ | ⟨h1, g, h2, h3, h4⟩
    · exact .inl ⟨b', g, by omega, h2, h3, h4, h5⟩
    · exact .inl ⟨b, g, by omega, by rw [h1]; exact hb, h2, by rw [h1]; exact h3, h4⟩
  · by_cases c : k < i
    · exact h.all k b' g c hb' hg ho
    · have e : k = i := by omega
      subst e
      rw [hb] at hb'
      cases hb'
      exact h.all2 g hg ho
theorem StepsOf.yes {l : Lock} {st : Word} {i : Nat} {gs : List Gap} {g : Gap} {ts : List Tk} {pr : Int} (h : StepsOf l st i gs ts) (ho : okG st i g) : StepsOf l st i (gs ++ [g]) (ts ++ [(i, g.to_, pr)]) := by
  refine ⟨fun t ht => ?_, fun k b' g' hk hb' hg ho => ?_, fun g' hg ho' => ?_⟩
  · rcases List.mem_append.mp ht with ht | ht
    · rcases h.snd t ht with h1 | ⟨h1, g', h2, h3⟩
      · exact .inl h1
      · exact .inr ⟨h1, g', List.mem_append_left _ h2, h3⟩
    · rw [List.mem_singleton.mp ht]
      exact .inr ⟨rfl, g, by simp, ho, rfl⟩
  · obtain ⟨t, h1, h2⟩ := h.all k b' g' hk hb' hg ho
    exact ⟨t, List.mem_append_left _ h1, h2⟩
  · rcases List.mem_append.mp hg with hg | hg
    · obtain ⟨t, h1, h2⟩ := h.all2 g' hg ho'
      exact ⟨t, List.mem_append_left _ h1, h2⟩
    · rw [List.mem_singleton.mp hg]
      exact ⟨(i, g.to_, pr), by simp, rfl, rfl⟩
theorem StepsOf.no {l : Lock} {st : Word} {i : Nat} {gs : List Gap} {g : Gap} {ts : List Tk} (h : StepsOf l st i gs ts) (ho : ¬ okG st i g) : StepsOf l st i (gs ++ [g]) ts := by
  refine ⟨fun t ht => ?_, h.all, fun g' hg ho' => ?_⟩
  · rcases h.snd t ht with h1 | ⟨h1, g', h2, h3⟩
    · exact .inl h1
    · exact .inr ⟨h1, g', List.mem_append_left _ h2, h3⟩
  · rcases List.mem_append.mp hg with hg | hg
    · exact h.all2 g' hg ho'
    · rw [List.mem_singleton.mp hg] at ho'
      exact absurd ho' ho
theorem StAt.mono {K : PySem.W.Frag} {H H' : Hp} (e : TX K H H') {v : V} {t : Tk} (h : StAt H v t) : StAt H' v t := by
  obtain ⟨a, r, q⟩ := h
  exact ⟨a, r, e.2 _ _ q⟩
theorem cut_drop (xs : List V) {k : Nat} (h : k ≤ xs.length) : cutV xs (some (k : Int)) none = xs.drop k := by
  unfold cutV
  rw [HT.sIx_none, HT.sIx_nat]
  rw [List.take_of_length_le]
  · congr 1
    omega
  · rw [List.length_drop]
    omega
theorem after_set {st : Word} {k : Nat} {to : Int} (h : k < st.length) : st.take k ++ [to] ++ st.drop (k + 1) = st.set k to := by
  rw [List.set_eq_take_append_cons_drop, if_pos h, List.append_assoc]
  rfl
theorem cat_own {K : PySem.W.Frag} {H : Hp} {Q : VK} {a b : Addr} {xs ys : List V} (ha : H a = some (.tup xs)) (hb : H b = some (.tup ys)) (hz : xs.length + ys.length ≤ sizeLine) (q : ∀ H' z, Evl.Ex H H' → H' z = some (.tup (xs ++ ys)) → Q (.ref z) H') : rCatA K (.ref a) (.ref b) H Q := by
  refine ⟨a, b, xs, ys, rfl, rfl, .inl (.inl ha), .inl (.inl hb), hz, fun h => ?_, fun _ h => ?_, fun _ _ t nt => ?_⟩
  · exact q H b (Evl.Ex.refl H) (by rw [h]; exact hb)
  · exact q H a (Evl.Ex.refl H) (by rw [h, List.append_nil]; exact ha)
  · exact q _ t (Evl.Ex.new nt) upd_same
def spSteps (K : PySem.W.Frag) : Sp := fun vs H Q _ => ∃ (v u : V) (l : Lock) (st : Word), vs = [v, u] ∧ LockAt K H v l ∧ LkS l ∧ Wd K H u st ∧ st.length = l.length ∧ SmallW [st] ∧
  ∀ H' r tvs ts, Evl.Ex H H' → H r = none → H' r = some (.lst tvs) → Paired (StAt H') tvs ts → StepsOf l st l.length [] ts → ts.length ≤ 96 → Q (.ref r) H'
section
variable {P : Program} {w : World} {K : PySem.W.Frag} {mg : Str → Option Value} {base : Heap}
theorem ok_steps {f : Addr} {fd : FuncData} (F : Fun K "_law_steps" "_law_steps" sSteps f fd) (B : Bi mg) : FnOk P w K mg base CX0 1 f fd ["_law_lock_here", "_law_stand"] (spSteps K) := by
  refine F.ok scSteps (fun vs H Q E h => ?_) (fun cdv A outer s H vs Q E hr h => ?_)
  · obtain ⟨v, u, l, st, rfl, _⟩ := h; rfl
  · obtain ⟨v, u, l, st, rfl, ⟨a, bs, rfl, ha, hbs⟩, lk, ⟨ua, rfl, hua⟩, stl, sms, q⟩ := h
    have hu65 : (A.deeper (envOfC "_law_steps" (defScope sSteps) s.heap.objs.size f cdv)).units + 65 < cLine := by have := hr.un; omega
    refine ⟨_, (pss_cons (ps_set (i := 2) scSteps.nd rfl (.inl rfl) (pe_lst pa_nil))
 (pss_cons (ps_for PassesOwn.never rfl (pi_range1 (by rfl) B.range (pa_cons (pe_callB call_len_seq (by rfl) B.len PySem.boot_len (pa_cons (pv 0) pa_nil)) pa_nil)) (pg_name (i := 3) scSteps.nd rfl (.inl rfl))
 (pss_one (ps_for PassesOwn.never rfl (pi_tup (pe_ix (r := rIxT K) ix_tup (pe_ix (r := rIxT K) ix_tup (pv 0) (pv 3) (fun _ _ => rfl)) pe_int (fun _ _ => rfl))) (pg_tup rfl (pgs_cons (pg_name (i := 4) scSteps.nd rfl (.inl rfl)) (pgs_cons (pg_name (i := 5) scSteps.nd rfl (.inl rfl)) (pgs_cons (pg_name (i := 6) scSteps.nd rfl (.inl rfl)) (pgs_cons (pg_name (i := 7) scSteps.nd rfl (.inl rfl)) pgs_nil)))))
 (pss_one (ps_if (PW.pt (pw_and (pt_cmpR op_eq (pv 4) (pe_ix (r := rIxT K) ix_tup (pv 1) (pv 3) (fun _ _ => rfl)) (nomark _)) (pw_and1 (pt_cmpR (r := rInTD K) (op_inTD hu65) (pe_slice (r := rSlA K) sl_tupA (pv 1) po_none (po_some (pv 3))) (pv 7) rfl))))
 (pss_one (ps_expr (pe_bm PySem.F.plainAttrs_list PySem.F.slot_list_append PySem.F.type_list_append mt_append (pv 2) (pa_cons (pe_tup (pa_cons (pv 3) (pa_cons (pv 5) (pa_cons (pv 6) pa_nil)))) pa_nil))))
 pss_nil)))))
 (pss_one (ps_ret (pv 2))))), ?_⟩
    have bl : bs.length = l.length := Paired.len hbs
    have l6 := lk.few
    refine ⟨Nat.zero_le _, fun z nz => ?_⟩
    have e1 := Evl.Ex.new (o := .lst []) nz
    have gz : (upd H z (.lst [])) z = some (.lst []) := upd_same
    generalize upd H z (.lst []) = H1 at e1 gz
    refine ⟨.ref a, rfl, a, bs, rfl, .inr (Evl.ex_t e1 ha), _, rfl, by omega, by omega, ?_⟩
    refine for_range (lo := 0) (n := ((bs.length : Nat) : Int).toNat) (fun i σ H' => ∃ (tvs : List V) (ts : List Tk) (y3 y4 y5 y6 y7 : Option V), σ = [some (.ref a), some (.ref ua), some (.ref z), y3, y4, y5, y6, y7] ∧ Evl.Ex H H' ∧ H' z = some (.lst tvs) ∧ Paired (StAt H') tvs ts ∧ StepsOf l st i [] ts ∧ ts.length ≤ 16 * i)
      ⟨[], [], none, none, none, none, none, rfl, e1, gz, .nil, ⟨(fun t ht => nomatch ht), fun k b g hk => absurd hk (Nat.not_lt_zero _), fun g hg => nomatch hg⟩, Nat.zero_le _⟩ ?_ ?_
    · rintro i σ H3 hi ⟨tvs, ts, y3, y4, y5, y6, y7, rfl, e3, hz3, hts, so, tl⟩
      have il : i < l.length := by omega
      have ei : (0 : Int) + (i : Nat) = (i : Int) := by omega
      rw [ei]
      obtain ⟨b, hb⟩ : ∃ b, l[i]? = some b := ⟨_, List.getElem?_eq_getElem il⟩
      obtain ⟨vb, hvb, ⟨ab, cb, gs, rfl, k1, k2, k3⟩⟩ := Paired.get2 hbs hb
      obtain ⟨g16, gsm⟩ := lk.gaps b (List.mem_of_getElem? hb)
      have gl : gs.length = b.gaps.length := Paired.len k3
      refine ⟨.ref a, rfl, .int (i : Nat), rfl, a, _, (i : Nat), .ref ab, rfl, rfl, Evl.ex_t e3 ha, atI_nat hvb, ?_⟩
      refine ⟨ab, _, 1, .ref cb, rfl, rfl, Evl.ex_t e3 k1, atI_nat (j := 1) rfl, cb, rfl, ⟨gs, Evl.ex_t e3 k2⟩, ?_⟩
      refine for_it (walk_tup (K := K) (a := cb) (xs := gs)) (fun j σ H' => ∃ (tvs : List V) (ts : List Tk) (y4 y5 y6 y7 : Option V), σ = [some (.ref a), some (.ref ua), some (.ref z), some (.int (i : Nat)), y4, y5, y6, y7] ∧ Evl.Ex H H' ∧ H' z = some (.lst tvs) ∧ Paired (StAt H') tvs ts ∧ StepsOf l st i (b.gaps.take j) ts ∧ ts.length ≤ 16 * i + j)
        ⟨tvs, ts, y4, y5, y6, y7, rfl, e3, hz3, hts, so, tl⟩ ?_ ?_ ?_
      · rintro j σ H' _ ⟨_, _, _, _, _, _, _, e, _⟩
        exact Evl.ex_t e k2
      · rintro j x σ H9 H4 hj ⟨tvs, ts, y4, y5, y6, y7, rfl, e4, hz4, hts, so, tl⟩ ⟨rfl, hx⟩
        obtain ⟨g, hg, ⟨ag, bg, ws, rfl, j1, j2, j3⟩⟩ := Paired.get1 k3 hx
        obtain ⟨p, hp⟩ : ∃ p, st[i]? = some p := ⟨_, List.getElem?_eq_getElem (by omega)⟩
        rw [take_succ_get hg]
        refine ⟨ag, _, rfl, Evl.ex_t e4 j1, rfl, _, _, rfl, _, _, rfl, _, _, rfl, _, _, rfl, rfl, ?_⟩
        refine ⟨.int g.frm, rfl, .ref ua, rfl, .int (i : Nat), rfl, ua, _, (i : Nat), .int p, rfl, rfl, .inl (.inl (e4 _ _ hua)), atI_nat (map_int_get hp), rfl, _, rfl, ?_⟩
        have e_no : ¬ okG st i g → ∀ H', Evl.Ex H4 H' → ∃ (tvs : List V) (ts : List Tk) (y4' y5' y6' y7' : Option V), [some (V.ref a), some (.ref ua), some (.ref z), some (.int (i : Nat)), some (.int g.frm), some (.int g.to_), some (.int g.price), some (.ref bg)] = [some (.ref a), some (.ref ua), some (.ref z), some (.int (i : Nat)), y4', y5', y6', y7'] ∧ Evl.Ex H H' ∧ H' z = some (.lst tvs) ∧ Paired (StAt H') tvs ts ∧ StepsOf l st i (b.gaps.take j ++ [g]) ts ∧ ts.length ≤ 16 * i + (j + 1) :=
          fun hn H' e' => ⟨tvs, ts, _, _, _, _, rfl, e4.trans e', e' _ _ hz4, Paired.imp (fun _ _ => StAt.mono (TX.ex (K := K) e')) hts, so.no hn, by omega⟩
        by_cases hf : g.frm = p
        · rw [decide_eq_true (by rw [hf])]
          refine iteT ?_
          refine ⟨.ref ua, rfl, ?_⟩
          refine nopart1 ?_
          refine ⟨.int (i : Nat), rfl, (i : Nat), rfl, ?_⟩
          refine sl_own (K := K) (lo := none) (hi := some ((i : Nat) : Int)) (e4 _ _ hua) fun H5 z5 e5 hz5 => ?_
          rw [cut_take, ← List.map_take] at hz5
          have e45 := e4.trans e5
          have sw := gsm g (List.mem_of_getElem? hg)
          have sv : SmallW [st.take i] := fun x hx => by
            rw [List.mem_singleton.mp hx]
            obtain ⟨s1, s2⟩ := sms st List.mem_cons_self
            exact ⟨by rw [List.length_take]; omega, fun y hy => s2 y (List.mem_of_mem_take hy)⟩
          refine ⟨.ref bg, rfl, dW (st.take i), g.ways.map dW, dp_W ⟨z5, rfl, hz5⟩, .tup (Evl.ex_t e45 j2) (dp_ws (Paired.imp (fun _ _ => Wd.mono (TX.ex e45)) j3)), (fine_one sv List.mem_cons_self).shaped (by decide), (shaped_wv sw).1, _, rfl, ?_⟩
          rw [any_W]
          by_cases hv : st.take i ∈ g.ways
          · rw [decide_eq_true hv]
            refine iteT ?_
            have hz55 := e5 _ _ hz4
            refine ⟨.ref z, rfl, .inl ⟨rfl, _, SqL.of hz55⟩, ?_⟩
            refine ⟨.int (i : Nat), rfl, .int g.to_, rfl, .int g.price, rfl, (by show 3 ≤ sizeLine; decide), fun t nt => ?_⟩
            have e6 := Evl.Ex.new (o := .tup [.int (i : Nat), .int g.to_, .int g.price]) nt
            have gt : (upd H5 t (.tup [.int (i : Nat), .int g.to_, .int g.price])) t = some (.tup [.int (i : Nat), .int g.to_, .int g.price]) := upd_same
            generalize upd H5 t (.tup [.int (i : Nat), .int g.to_, .int g.price]) = H6 at e6 gt
            have hz6 := e6 _ _ hz55
            have tvl : tvs.length = ts.length := Paired.len hts
            refine ⟨z, _, _, rfl, rfl, hz6, Nat.lt_of_le_of_lt (by omega : tvs.length ≤ 1000) (by decide), ?_⟩
            refine ⟨tvs ++ [.ref t], ts ++ [(i, g.to_, g.price)], _, _, _, _, rfl, (e45.trans e6).mut nz, upd_same, ?_, so.yes ⟨by rw [hp, hf], hv⟩, by rw [List.length_append, List.length_singleton]; omega⟩
            exact Paired.imp (fun _ _ => StAt.mono (TX.put (K := K) hz6)) (paired_app1 (Paired.imp (fun _ _ => StAt.mono (TX.ex (K := K) (e5.trans e6))) hts) ⟨t, rfl, gt⟩)
          · rw [decide_eq_false hv]
            exact iteF (e_no (fun h => hv h.2) _ e5)
        · rw [decide_eq_false (fun h => hf (V.int.inj h))]
          exact iteF (e_no (fun h => hf (Option.some.inj (h.1.symm.trans hp))) _ (Evl.Ex.refl _))
      · rintro σ H4 ⟨tvs, ts, y4, y5, y6, y7, rfl, e4, hz4, hts, so, tl⟩
        rw [gl, List.take_length] at so
        exact ⟨tvs, ts, _, _, _, _, _, rfl, e4, hz4, hts, so.next hb, by omega⟩
    · rintro σ H3 ⟨tvs, ts, y3, y4, y5, y6, y7, rfl, e3, hz3, hts, so, tl⟩
      refine ⟨.ref z, rfl, q H3 z tvs ts e3 nz hz3 hts ?_ (by omega)⟩
      rwa [show ((bs.length : Nat) : Int).toNat = l.length by omega] at so
/-- the stands one step away -/
def spBehind (K : PySem.W.Frag) : Sp := fun vs H Q _ => ∃ (v u : V) (l : Lock) (st : Word), vs = [v, u] ∧ LockAt K H v l ∧ LkS l ∧ Wd K H u st ∧ st.length = l.length ∧ SmallW [st] ∧
  ∀ H' r wvs ws, Evl.Ex H H' → H r = none → H' r = some (.lst wvs) → Paired (Wd K H') wvs ws → (∀ x, x ∈ ws ↔ Stp l st x) → ws.length ≤ 96 → Q (.ref r) H'
theorem behind_iff {l : Lock} {st : Word} {ts : List Tk} (h : StepsOf l st l.length [] ts) (x : Word) : x ∈ ts.map (fun t => st.set t.1 t.2.1) ↔ Stp l st x := by
  rw [List.mem_map]
  constructor
  · rintro ⟨t, ht, rfl⟩
    rcases h.snd t ht with ⟨b, g, h1, h2, h3, h4, h5⟩ | ⟨_, g, h2, _⟩
    · exact ⟨t.1, b, g, h2, h3, h4.1, h4.2, by rw [h5]⟩
    · cases h2
  · rintro ⟨k, b, g, h1, h2, h3, h4, rfl⟩
    obtain ⟨t, ht, e1, e2⟩ := h.all k b g (List.getElem?_eq_some_iff.mp h1).1 h1 h2 ⟨h3, h4⟩
    exact ⟨t, ht, by rw [e1, e2]⟩
theorem ok_behind {f f1 : Addr} {fd fd1 : FuncData} (F : Fun K "_law_behind" "_law_behind" sBehind f fd) (F1 : Fun K "_law_steps" "_law_steps" sSteps f1 fd1) (b1 : Binds K fd1 ["_law_lock_here", "_law_stand"] []) (g1 : mg "_law_steps" = some (.ref f1)) (B : Bi mg) :
    FnOk P w K mg base CX0 2 f fd ["_law_lock_here", "_law_stand"] (spBehind K) := by
  have GS : FnOk P w K mg base CX0 1 f1 fd1 ["_law_lock_here", "_law_stand"] (spSteps K) := ok_steps F1 B
  refine F.ok scBehind (fun vs H Q E h => ?_) (fun cdv A outer s H vs Q E hr h => ?_)
  · obtain ⟨v, u, l, st, rfl, _⟩ := h; rfl
  · obtain ⟨v, u, l, st, rfl, hl, lk, ⟨ua, rfl, hua⟩, stl, sms, q⟩ := h
    refine ⟨_, (pss_one (ps_ret (pe_lc (own := [("_law_k", 2), ("_law_there", 3), ("_law_price", 4)]) (g := gTup K 3 (gCons (gName 2) (gCons (gName 3) (gCons (gName 4) gNil)))) (tt := tYes) (te := tOp (rCatA K) (tOp (rCatA K) (tSl (rSlA K) (tVar 1) tNoPart (tPart (tVar 2))) (tTup (tCons (tVar 3) tNil))) (tSl (rSlA K) (tVar 1) (tPart (tOp (rI0 fun i j => V.int (i + j)) (tVar 2) (tC (V.int 1)))) tNoPart)) rfl scBehind.nd
      (pi_list (pe_call GS hr (by rfl) g1 F1.kp b1 .nil pass0 (pa_cons (pv 0) (pa_cons (pv 1) pa_nil)))) (blkOk_by (own := [("_law_k", 2), ("_law_there", 3), ("_law_price", 4)]) (N := nBehind) (sc := defScope sBehind) (by decide +kernel))
      (fun _ _ _ _ _ => (pg_tup rfl (pgs_cons (pg_name (i := 2) scBehind.nd rfl (Or.inl rfl)) (pgs_cons (pg_name (i := 3) scBehind.nd rfl (Or.inl rfl)) (pgs_cons (pg_name (i := 4) scBehind.nd rfl (Or.inl rfl)) pgs_nil))))) (fun _ _ _ _ _ => pts_nil)
      (fun _ _ _ _ _ => (pe_op (r := rCatA K) op_catA (pe_op (r := rCatA K) op_catA (pe_slice (r := rSlA K) sl_tupA (pv 1) po_none (po_some (pv 2))) (pe_tup (pa_cons (pv 3) pa_nil))) (pe_slice (r := rSlA K) sl_tupA (pv 1) (po_some (pe_op op_add (pv 2) pe_int)) po_none)))))), ?_⟩
    refine ⟨v, rfl, .ref ua, rfl, v, .ref ua, l, st, rfl, hl, lk, ⟨ua, rfl, hua⟩, stl, sms, fun H1 r tvs ts e1 nr hr1 hts so tl => ?_⟩
    have tvl : tvs.length = ts.length := Paired.len hts
    have l6 := lk.few
    refine ⟨r, rfl, ⟨tvs, SqL.of hr1⟩, fun R hR => ?_⟩
    have nR : H R = none := Evl.fresh_back e1 hR
    refine lc_it (walk_list (K := K) (a := r) (xs := tvs)) (fun i H' => ∃ wvs, Evl.Ex H1 H' ∧ H' R = some (.lst wvs) ∧ Paired (Wd K H') wvs ((ts.take i).map (fun t => st.set t.1 t.2.1))) ⟨[], Evl.Ex.new hR, upd_same, .nil⟩ ?_ ?_ ?_
    · rintro i H2 _ ⟨_, e2, _⟩
      exact SqL.of (e2 _ _ hr1)
    · rintro i x H9 H2 hi ⟨wvs, e2, hR2, hwv⟩ ⟨rfl, hx⟩
      obtain ⟨t, ht, ⟨at_, rfl, hat⟩⟩ := Paired.get1 hts hx
      have tk : t.1 < st.length := by
        rcases so.snd t (List.mem_of_getElem? ht) with ⟨b, g, h1, _⟩ | ⟨_, g, h2, _⟩
        · omega
        · cases h2
      have e02 := e1.trans e2
      have a2 := e02 _ _ hua
      refine ⟨at_, _, rfl, .inl (.inl (e2 _ _ hat)), rfl, _, _, rfl, _, _, rfl, _, _, rfl, rfl, ?_⟩
      refine ⟨rfl, ?_⟩
      refine ⟨.ref ua, rfl, ?_⟩
      refine nopart1 ?_
      refine ⟨.int (t.1 : Nat), rfl, (t.1 : Nat), rfl, ?_⟩
      refine sl_own (K := K) (lo := none) (hi := some ((t.1 : Nat) : Int)) a2 fun H3 z3 e3 q3 => ?_
      rw [cut_take, ← List.map_take] at q3
      refine ⟨.int t.2.1, rfl, (by show 1 ≤ sizeLine; decide), fun y ny => ?_⟩
      have e4 := Evl.Ex.new (o := .tup [.int t.2.1]) ny
      have q4 : (upd H3 y (.tup [.int t.2.1])) y = some (.tup [.int t.2.1]) := upd_same
      generalize upd H3 y (.tup [.int t.2.1]) = H4 at e4 q4
      refine cat_own (K := K) (e4 _ _ q3) q4 (Nat.le_trans (by rw [List.length_map, List.length_take, List.length_singleton]; omega : ((st.take t.1).map V.int).length + [V.int t.2.1].length ≤ 101) (by decide)) fun H5 z5 e5 q5 => ?_
      have a5 := (e3.trans (e4.trans e5)) _ _ a2
      refine ⟨.ref ua, rfl, .int (t.1 : Nat), rfl, (t.1 : Nat), 1, rfl, rfl, ((t.1 + 1 : Nat) : Int), by rw [Int.natCast_add]; rfl, ?_⟩
      refine nopart1 ?_
      refine sl_own (K := K) (lo := some ((t.1 + 1 : Nat) : Int)) (hi := none) a5 fun H6 z6 e6 q6 => ?_
      rw [cut_drop (st.map V.int) (k := t.1 + 1) (by rw [List.length_map]; omega), ← List.map_drop] at q6
      refine cat_own (K := K) (e6 _ _ q5) q6 (Nat.le_trans (by simp only [List.length_append, List.length_map, List.length_take, List.length_drop, List.length_singleton]; omega : ((st.take t.1).map V.int ++ [V.int t.2.1]).length + ((st.drop (t.1 + 1)).map V.int).length ≤ 201) (by decide)) fun H7 z7 e7 q7 => ?_
      have e27 := e3.trans (e4.trans (e5.trans (e6.trans e7)))
      have hR7 := e27 _ _ hR2
      have wvl : wvs.length ≤ 96 := by
        have := Paired.len hwv
        rw [List.length_map, List.length_take] at this
        omega
      refine ⟨wvs, hR7, Nat.lt_of_le_of_lt wvl (by decide), wvs ++ [.ref z7], (e2.trans e27).mut hR, upd_same, ?_⟩
      rw [take_succ_get ht, List.map_append]
      refine Paired.imp (fun _ _ => Wd.mono (TX.put hR7)) (paired_app1 (Paired.imp (fun _ _ => Wd.mono (TX.ex e27)) hwv) ⟨z7, rfl, ?_⟩)
      show H7 z7 = some (.tup ((st.set t.1 t.2.1).map V.int))
      rw [← after_set tk, List.map_append, List.map_append]
      exact q7
    · rintro H2 ⟨wvs, e2, hR2, hwv⟩
      rw [tvl, List.take_length] at hwv
      exact q H2 R wvs _ (e1.trans e2) nR hR2 hwv (fun x => behind_iff so x) (by rw [List.length_map]; exact tl)
end
end Wb

set_option Elab.async false
set_option linter.all false
set_option maxRecDepth 100000
set_option maxHeartbeats 8000000
set_option pp.maxSteps 900
set_option pp.deepTerms false
namespace Wb
open PySem PySem.Spec PyProof.Rows L2
abbrev sReach : Stmt := topS 54
abbrev nReach : List Str := ["_law_lock_here", "_law_stands", "_law_found", "_law_left", "_law_stand"]
theorem scReach : FnScope nReach ["_law_lock_here", "_law_stands"] (defScope sReach) := ⟨rfl, rfl, rfl, by decide +kernel, rfl, by decide +kernel, by decide +kernel⟩
/-- every word whose places are below the numbers -/
def allW : List Int → List Word
  | [] => [[]]
  | m :: r => (List.range m.toNat).flatMap fun (i : Nat) => (allW r).map fun w => (i : Int) :: w
theorem sum_const (k : Nat) : ∀ xs : List Nat, (xs.map fun _ => k).sum = xs.length * k
  | [] => by simp
  | _ :: xs => by
    rw [List.map_cons, List.sum_cons, sum_const k xs, List.length_cons, Nat.succ_mul, Nat.add_comm]
theorem allW_len : ∀ ms : List Int, (∀ m ∈ ms, 1 ≤ m) → (((allW ms).length : Nat) : Int) = prodI ms
  | [], _ => rfl
  | m :: r, h => by
    have ih := allW_len r fun x hx => h x (List.mem_cons_of_mem _ hx)
    have m1 := h m List.mem_cons_self
    rw [allW, prodI, List.length_flatMap]
    have e : (List.range m.toNat).map (fun (i : Nat) => ((allW r).map fun w => (i : Int) :: w).length) = (List.range m.toNat).map fun _ => (allW r).length := by
      refine List.map_congr_left fun i _ => ?_
      rw [List.length_map]
    rw [e, sum_const, List.length_range, Int.natCast_mul, ih, Int.toNat_of_nonneg (by omega)]
theorem allW_mem : ∀ {ms : List Int} {w : Word}, InAll w ms → w ∈ allW ms
  | [], [], _ => List.mem_singleton.mpr rfl
  | [], _ :: _, h => by have := h.1; simp at this
  | _ :: _, [], h => by have := h.1; simp at this
  | m :: r, x :: w, h => by
    have hx := h.2 0 x m rfl rfl
    have ih := allW_mem (ms := r) (w := w) ⟨by have := h.1; simpa using this, fun i n k h1 h2 => h.2 (i + 1) n k (by simpa using h1) (by simpa using h2)⟩
    rw [allW, List.mem_flatMap]
    refine ⟨x.toNat, List.mem_range.mpr (by omega), List.mem_map.mpr ⟨w, ih, ?_⟩⟩
    rw [Int.toNat_of_nonneg hx.1]
theorem many96 {l : Lock} (lk : LkS l) {F : List Word} (nd : F.Nodup) (h : ∀ w ∈ F, InAll w (manysOf l)) : F.length ≤ 96 := by
  have h1 := nodup_le nd fun w hw => allW_mem (h w hw)
  have h2 := allW_len (manysOf l) fun m hm => by
    obtain ⟨b, hb, rfl⟩ := List.mem_map.mp hm
    exact (lk.goes b hb).1.1
  have h3 := lk.prod
  omega
theorem inAll_len {l : Lock} {w : Word} (h : InAll w (manysOf l)) : w.length = l.length := by
  have := h.1
  unfold manysOf at this
  rwa [List.length_map] at this
theorem many_at {l : Lock} {k : Nat} {b : Bolt} (h : l[k]? = some b) : (manysOf l)[k]? = some b.many := by
  unfold manysOf
  rw [List.getElem?_map, h]
  rfl
theorem inAll_small {l : Lock} (lk : LkS l) {w : Word} (h : InAll w (manysOf l)) : SmallW [w] := fun u hu => by
  rw [List.mem_singleton.mp hu]
  have wl := inAll_len h
  have l6 := lk.few
  refine ⟨by omega, fun x hx => ?_⟩
  obtain ⟨i, hi⟩ := List.mem_iff_getElem?.mp hx
  have il := (List.getElem?_eq_some_iff.mp hi).1
  have hb : l[i]? = some (l[i]'(by omega)) := List.getElem?_eq_getElem (by omega)
  have z := h.2 i x _ hi (many_at hb)
  have y := (lk.goes _ (List.mem_of_getElem? hb)).1
  omega
theorem inAll_stp {l : Lock} (lk : LkS l) {u x : Word} (h : InAll u (manysOf l)) (s : Stp l u x) : InAll x (manysOf l) := by
  obtain ⟨k, b, g, hb, hg, hu, hw, rfl⟩ := s
  have to := (lk.goes b (List.mem_of_getElem? hb)).2 g hg
  refine ⟨by rw [List.length_set]; exact h.1, fun i n m h1 h2 => ?_⟩
  by_cases c : k = i
  · subst c
    have kl := (List.getElem?_eq_some_iff.mp hu).1
    rw [List.getElem?_set_self kl] at h1
    rw [many_at hb] at h2
    cases h1
    cases h2
    exact to
  · rw [List.getElem?_set_ne c] at h1
    exact h.2 i n m h1 h2
structure RSt (l : Lock) (S F L : List Word) : Prop where
  nd : F.Nodup
  okF : ∀ w ∈ F, InAll w (manysOf l)
  okL : ∀ w ∈ L, InAll w (manysOf l)
  rF : ∀ w ∈ F, ∃ s ∈ S, Rch l s w
  rL : ∀ w ∈ L, ∃ s ∈ S, Rch l s w
  st : ∀ s ∈ S, s ∈ F ∨ s ∈ L
  cl : ∀ w ∈ F, ∀ x, Stp l w x → x ∈ F ∨ x ∈ L
theorem RSt.had {l : Lock} {S F L : List Word} {a : Word} (h : RSt l S F (L ++ [a])) (ha : a ∈ F) : RSt l S F L := by
  have out : ∀ x, x ∈ F ∨ x ∈ L ++ [a] → x ∈ F ∨ x ∈ L := fun x hx => by
    rcases hx with hx | hx
    · exact .inl hx
    · rcases List.mem_append.mp hx with hx | hx
      · exact .inr hx
      · rw [List.mem_singleton.mp hx]; exact .inl ha
  exact ⟨h.nd, h.okF, fun w hw => h.okL w (List.mem_append_left _ hw), h.rF, fun w hw => h.rL w (List.mem_append_left _ hw), fun s hs => out s (h.st s hs), fun w hw x hx => out x (h.cl w hw x hx)⟩
theorem RSt.new {l : Lock} (lk : LkS l) {S F L ws : List Word} {a : Word} (h : RSt l S F (L ++ [a])) (ha : a ∉ F) (hw : ∀ x, x ∈ ws ↔ Stp l a x) : RSt l S (F ++ [a]) (L ++ ws) := by
  have am : a ∈ L ++ [a] := List.mem_append_right _ List.mem_cons_self
  have out : ∀ x, x ∈ F ∨ x ∈ L ++ [a] → x ∈ F ++ [a] ∨ x ∈ L ++ ws := fun x hx => by
    rcases hx with hx | hx
    · exact .inl (List.mem_append_left _ hx)
    · rcases List.mem_append.mp hx with hx | hx
      · exact .inr (List.mem_append_left _ hx)
      · exact .inl (List.mem_append_right _ hx)
  refine ⟨?_, fun w hw' => ?_, fun w hw' => ?_, fun w hw' => ?_, fun w hw' => ?_, fun s hs => out s (h.st s hs), fun w hw' x hx => ?_⟩
  · rw [List.nodup_append]
    refine ⟨h.nd, by simp, fun x hx y hy e => ?_⟩
    rw [List.mem_singleton.mp hy] at e
    exact ha (e ▸ hx)
  · rcases List.mem_append.mp hw' with h1 | h1
    · exact h.okF w h1
    · rw [List.mem_singleton.mp h1]; exact h.okL a am
  · rcases List.mem_append.mp hw' with h1 | h1
    · exact h.okL w (List.mem_append_left _ h1)
    · exact inAll_stp lk (h.okL a am) ((hw w).mp h1)
  · rcases List.mem_append.mp hw' with h1 | h1
    · exact h.rF w h1
    · rw [List.mem_singleton.mp h1]; exact h.rL a am
  · rcases List.mem_append.mp hw' with h1 | h1
    · exact h.rL w (List.mem_append_left _ h1)
    · obtain ⟨s, hs, hr⟩ := h.rL a am
      exact ⟨s, hs, hr.step ((hw w).mp h1)⟩
  · rcases List.mem_append.mp hw' with h1 | h1
    · exact out x (h.cl w h1 x hx)
    · rw [List.mem_singleton.mp h1] at hx
      exact .inr (List.mem_append_right _ ((hw x).mpr hx))
theorem RSt.done {l : Lock} {S F : List Word} (h : RSt l S F []) (x : Word) : x ∈ F ↔ ∃ s ∈ S, Rch l s x := by
  refine ⟨h.rF x, ?_⟩
  rintro ⟨s, hs, r⟩
  have nil : ∀ y, y ∈ F ∨ y ∈ ([] : List Word) → y ∈ F := fun y hy => hy.elim id fun z => nomatch z
  induction r with
  | refl => exact nil _ (h.st s hs)
  | step _ st ih => exact nil _ (h.cl _ ih _ st)
def kvT (F : List Word) : List (List Key × V) := F.map fun w => (keyW w, .bl true)
theorem kvT_any (F : List Word) (w : Word) : ((kvT F).any fun kv => decide (kv.1 = keyW w)) = decide (w ∈ F) := by
  unfold kvT
  rw [List.any_map, Bool.eq_iff_iff]
  simp only [List.any_eq_true, Function.comp, decide_eq_true_eq]
  constructor
  · rintro ⟨y, hy, e⟩
    rw [← keyW_inj e]
    exact hy
  · intro h
    exact ⟨w, h, rfl⟩
theorem kvT_put {F : List Word} {w : Word} (h : w ∉ F) : putK (kvT F) (keyW w) (.bl true) = kvT (F ++ [w]) := by
  unfold putK
  rw [kvT_any, if_neg (by rw [decide_eq_false h]; exact Bool.false_ne_true)]
  unfold kvT
  rw [List.map_append]
  rfl
theorem kvT_some (F : List Word) (w : Word) : (valV (kvT F) (keyW w)).isSome = decide (w ∈ F) := by
  rw [← valV_any, kvT_any]
theorem paired_snoc {α β : Type} {R : α → β → Prop} {xs : List α} {ys : List β} {y : β} (h : Paired R xs (ys ++ [y])) : ∃ xs' x, xs = xs' ++ [x] ∧ Paired R xs' ys ∧ R x y := by
  induction ys generalizing xs with
  | nil =>
    cases h with
    | cons r t =>
      cases t
      exact ⟨[], _, rfl, .nil, r⟩
  | cons z ys ih =>
    cases h with
    | cons r t =>
      obtain ⟨xs', x, rfl, h1, h2⟩ := ih t
      exact ⟨_ :: xs', x, rfl, .cons r h1, h2⟩
theorem eqv_wsN (ws : List Word) : PyData.eqv (.list (ws.map dW)) (.list []) = ws.isEmpty := by
  cases ws with
  | nil => simp [PyData.eqv, PyData.eqvAll]
  | cons w ws => simp [PyData.eqv, PyData.eqvAll]
def spReach (K : PySem.W.Frag) : Sp := fun vs H Q _ => ∃ (v : V) (a : Addr) (l : Lock) (svs : List V) (S : List Word), vs = [v, .ref a] ∧ LockAt K H v l ∧ LkS l ∧ SqL K H a svs ∧ Paired (Wd K H) svs S ∧ (∀ s ∈ S, InAll s (manysOf l)) ∧ S.length ≤ 96 ∧
  ∀ H' D F, Evl.Ex H H' → H D = none → H' D = some (.dT (kvT F)) → F.Nodup → F.length ≤ 96 → (∀ w ∈ F, InAll w (manysOf l)) → (∀ x, x ∈ F ↔ ∃ s ∈ S, Rch l s x) → Q (.ref D) H'
section
variable {P : Program} {w : World} {K : PySem.W.Frag} {mg : Str → Option Value} {base : Heap}
theorem ok_reach {f f1 f2 : Addr} {fd fd1 fd2 : FuncData} (F : Fun K "_law_reach" "_law_reach" sReach f fd) (F1 : Fun K "_law_behind" "_law_behind" sBehind f1 fd1) (b1 : Binds K fd1 ["_law_lock_here", "_law_stand"] []) (g1 : mg "_law_behind" = some (.ref f1))
    (F2 : Fun K "_law_steps" "_law_steps" sSteps f2 fd2) (b2 : Binds K fd2 ["_law_lock_here", "_law_stand"] []) (g2 : mg "_law_steps" = some (.ref f2)) (B : Bi mg) :
    FnOk P w K mg base CX0 3 f fd ["_law_lock_here", "_law_stands"] (spReach K) := by
  have GB : FnOk P w K mg base CX0 2 f1 fd1 ["_law_lock_here", "_law_stand"] (spBehind K) := ok_behind F1 F2 b2 g2 B
  refine F.ok scReach (fun vs H Q E h => ?_) (fun cdv A outer s H vs Q E hr h => ?_)
  · obtain ⟨v, a, l, svs, S, rfl, _⟩ := h; rfl
  · obtain ⟨v, a, l, svs, S, rfl, hl, lk, ha, hs, inS, s10, q⟩ := h
    have hu := hu_of hr
    refine ⟨_, (Evl.pss_cut (ps_par (by rfl) scReach.nd (i := 2) (j := 3) rfl rfl (by decide) rfl rfl (pa_cons pe_dnewT (pa_cons (pe_callTy call_list_of (by rfl) B.list PyProof.Rows.boot_list (pa_cons (pv 1) pa_nil)) pa_nil)) (by rfl))
      (pss_cons (ps_while PassesOwn.never (pt_cmpR (op_neD hr.units) (pv 3) (pe_lst pa_nil) (nomark _))
        (Evl.pss_cut (ps_set (i := 4) scReach.nd rfl (.inl rfl) (pe_bm0 PySem.F.plainAttrs_list PySem.F.slot_list_pop PySem.F.type_list_pop mt_pop (pv 3)))
        (pss_one (ps_if (pt_cmp (pc_dnotin hu (pv 4) (pv 2)) rfl)
          (pss_cons (ps_dput hu (pv 2) (pv 4) pe_bl rfl)
          (pss_one (ps_expr (pe_bm PySem.F.plainAttrs_list PySem.F.slot_list_extend PySem.F.type_list_extend mt_extend (pv 3) (pa_cons (pe_call GB hr (by rfl) g1 F1.kp b1 .nil pass0 (pa_cons (pv 0) (pa_cons (pv 4) pa_nil))) pa_nil))))) pss_nil))))
      (pss_one (ps_ret (pv 2))))), ?_⟩
    have svl : svs.length = S.length := Paired.len hs
    refine ⟨fun σ H1 => ∃ (D Wl : Addr), σ = [some v, some (.ref a), some (.ref D), some (.ref Wl), none] ∧ H D = none ∧ H Wl = none ∧ Wl ≠ D ∧ Evl.Ex H H1 ∧ H1 D = some (.dT (kvT [])) ∧ H1 Wl = some (.lst svs), ?_, ?_⟩
    · intro D nD
      have e1 := Evl.Ex.new (o := .dT []) nD
      have gD : (upd H D (.dT [])) D = some (.dT []) := upd_same
      generalize upd H D (.dT []) = H1 at e1 gD
      refine ⟨.ref a, rfl, a, svs, rfl, .inl (Evl.ex_l e1 ha), fun Wl nW => ?_⟩
      exact ⟨.ref D, .ref Wl, rfl, D, Wl, rfl, nD, Evl.fresh_back e1 nW, (fun z => by rw [z, gD] at nW; cases nW), e1.trans (Evl.Ex.new nW), (Evl.Ex.new nW) _ _ gD, upd_same⟩
    rintro _ H1 ⟨D, Wl, rfl, nD, nW, nWD, e1, hD1, hW1⟩
    refine ⟨fun m σ H' => ∃ (F L : List Word) (wvs : List V) (y4 : Option V), σ = [some v, some (.ref a), some (.ref D), some (.ref Wl), y4] ∧ Evl.Ex H H' ∧ H' D = some (.dT (kvT F)) ∧ H' Wl = some (.lst wvs) ∧ Paired (Wd K H') wvs L ∧ RSt l S F L ∧ L.length ≤ 96 + 96 * F.length ∧ m = (96 - F.length) * 97 + L.length,
      ⟨_, [], S, svs, none, rfl, e1, hD1, hW1, Paired.imp (fun _ _ => Wd.mono (TX.ex e1)) hs, ⟨List.nodup_nil, (fun w hw => nomatch hw), inS, (fun w hw => nomatch hw), fun w hw => ⟨w, hw, .refl _⟩, fun w hw => .inr hw, fun w hw => nomatch hw⟩, by omega, rfl⟩, ?_⟩
    rintro m σ H3 ⟨F, L, wvs, y4, rfl, e3, hD3, hW3, hw3, rs, ll, rfl⟩
    have f96 := many96 lk rs.nd rs.okF
    have smL : SmallW L := fun u hu => inAll_small lk (rs.okL u hu) u List.mem_cons_self
    have wvl : wvs.length = L.length := Paired.len hw3
    refine ⟨.ref Wl, rfl, Nat.zero_le _, fun t nt => ?_⟩
    have e4 := Evl.Ex.new (o := .lst []) nt
    have gt : (upd H3 t (.lst [])) t = some (.lst []) := upd_same
    generalize upd H3 t (.lst []) = H4 at e4 gt
    refine ⟨.list (L.map dW), .list [], .lst (SqL.of (e4 _ _ hW3)) (dp_ws (Paired.imp (fun _ _ => Wd.mono (TX.ex e4)) hw3)), .lst (SqL.of gt) .nil, fine_ws smL, fine_ws (ws := []) (fun u hu => nomatch hu), _, rfl, ?_⟩
    rw [eqv_wsN]
    have e04 := e3.trans e4
    have hD4 := e4 _ _ hD3
    have hW4 := e4 _ _ hW3
    have hw4 : Paired (Wd K H4) wvs L := Paired.imp (fun _ _ => Wd.mono (TX.ex e4)) hw3
    by_cases c : L = []
    · subst c
      refine iteF ?_
      exact ⟨.ref D, rfl, q H4 D F e04 nD hD4 rs.nd f96 rs.okF fun x => rs.done x⟩
    · obtain ⟨L', at_, rfl⟩ : ∃ L' at_, L = L' ++ [at_] := by
        rcases List.eq_nil_or_concat L with h | ⟨L, b, h⟩
        · exact absurd h c
        · exact ⟨L, b, by rw [h]; simp⟩
      obtain ⟨wvs', x, rfl, hw4', ⟨xa, rfl, hxa⟩⟩ := paired_snoc hw4
      refine ite2 (fun _ => ?_) (fun hc => absurd hc (by simp))
      refine ⟨fun σ' H' => ∃ (F2 L2 : List Word) (wvs : List V) (y4 : Option V), σ' = [some v, some (.ref a), some (.ref D), some (.ref Wl), y4] ∧ Evl.Ex H H' ∧ H' D = some (.dT (kvT F2)) ∧ H' Wl = some (.lst wvs) ∧ Paired (Wd K H') wvs L2 ∧ RSt l S F2 L2 ∧ L2.length ≤ 96 + 96 * F2.length ∧ (96 - F2.length) * 97 + L2.length < (96 - F.length) * 97 + (L' ++ [at_]).length, ?_, ?_⟩
      · rintro σ' H' ⟨F2, L2, wvs, y4, h1, h2, h3, h4, h5, h6, h7, h8⟩
        exact ⟨_, h8, F2, L2, wvs, y4, h1, h2, h3, h4, h5, h6, h7, rfl⟩
      rw [List.length_append, List.length_singleton] at ll wvl ⊢
      refine ⟨fun σ' H' => σ' = [some v, some (.ref a), some (.ref D), some (.ref Wl), some (.ref xa)] ∧ Evl.Ex H H' ∧ H' D = some (.dT (kvT F)) ∧ H' Wl = some (.lst wvs') ∧ Paired (Wd K H') wvs' L' ∧ H' xa = some (.tup (at_.map V.int)), ?_, ?_⟩
      · have tx := TX.put (K := K) (o := .lst wvs') hW4
        refine ⟨.ref Wl, rfl, .inl ⟨rfl, _, SqL.of hW4⟩, Wl, _, .ref xa, rfl, rfl, hW4, by simp, rfl, e04.mut nW, by rw [upd_ne nWD.symm]; exact hD4, ?_, ?_, ?_⟩
        · rw [upd_same]
          simp
        · rw [List.dropLast_concat]
          exact Paired.imp (fun _ _ => Wd.mono tx) hw4'
        · rw [List.dropLast_concat]
          exact tx.2 _ _ hxa
      rintro _ H5 ⟨rfl, e5, hD5, hW5, hw5, hxa5⟩
      have ina := rs.okL at_ (List.mem_append_right _ List.mem_cons_self)
      refine ⟨.ref xa, rfl, .ref D, rfl, D, _, rfl, DGet.t hD5 (k := keyW at_) (by rw [keyW_kV]; exact hxa5), _, rfl, ?_⟩
      rw [kvT_some]
      by_cases hin : at_ ∈ F
      · rw [decide_eq_true hin]
        refine iteF ?_
        exact ⟨F, L', wvs', _, rfl, e5, hD5, hW5, hw5, rs.had hin, by omega, by omega⟩
      · rw [decide_eq_false hin]
        refine iteT ?_
        have f71 : F.length + 1 ≤ 96 := by
          have nd' : (F ++ [at_]).Nodup := by
            rw [List.nodup_append]
            refine ⟨rs.nd, by simp, fun x hx y hy e => ?_⟩
            rw [List.mem_singleton.mp hy] at e
            exact hin (e ▸ hx)
          have := many96 lk nd' fun w hw => by
            rcases List.mem_append.mp hw with h1 | h1
            · exact rs.okF w h1
            · rw [List.mem_singleton.mp h1]; exact ina
          rwa [List.length_append, List.length_singleton] at this
        refine ⟨.ref D, rfl, .ref xa, rfl, D, _, rfl, DPut.t hD5 (k := keyW at_) (by rw [keyW_kV]; exact hxa5) (Nat.lt_of_le_of_lt (by unfold kvT; rw [List.length_map]; exact f96) (by decide)), ?_⟩
        rw [kvT_put hin]
        have hW6 : (upd H5 D (.dT (kvT (F ++ [at_])))) Wl = some (.lst wvs') := by rw [upd_ne nWD]; exact hW5
        have hD6 : (upd H5 D (.dT (kvT (F ++ [at_])))) D = some (.dT (kvT (F ++ [at_]))) := upd_same
        have e6 : Evl.Ex H (upd H5 D (.dT (kvT (F ++ [at_])))) := e5.mut nD
        have nx : xa ≠ D := fun z => by rw [z, hD5] at hxa5; cases hxa5
        have k6 : ∀ b xs, H5 b = some (.tup xs) → (upd H5 D (.dT (kvT (F ++ [at_])))) b = some (.tup xs) := fun b xs h => by
          rw [upd_ne (fun z => by rw [z, hD5] at h; cases h)]
          exact h
        generalize upd H5 D (.dT (kvT (F ++ [at_]))) = H6 at hW6 hD6 e6 k6
        have hw6 : Paired (Wd K H6) wvs' L' := Paired.imp (fun _ _ ⟨x, r, h⟩ => ⟨x, r, k6 _ _ h⟩) hw5
        refine ⟨.ref Wl, rfl, .inl ⟨rfl, _, SqL.of hW6⟩, v, rfl, .ref xa, rfl, v, .ref xa, l, at_, rfl, hl.mono (TX.ex e6), lk, ⟨xa, rfl, k6 _ _ hxa5⟩, inAll_len ina, inAll_small lk ina, fun H7 r bvs ws e7 nr hr7 hbv iff l96 => ?_⟩
        have hW7 := e7 _ _ hW6
        have bvl : bvs.length = ws.length := Paired.len hbv
        have wl6 : wvs'.length = L'.length := Paired.len hw6
        have tx := TX.put (K := K) (o := .lst (wvs' ++ bvs)) hW7
        refine ⟨Wl, r, _, _, rfl, rfl, hW7, hr7, Nat.le_trans (by omega : wvs'.length + bvs.length ≤ 10000) (by decide), ?_⟩
        refine ⟨F ++ [at_], L' ++ ws, wvs' ++ bvs, _, rfl, (e6.trans e7).mut nW, by rw [upd_ne nWD.symm]; exact e7 _ _ hD6, upd_same, Paired.imp (fun _ _ => Wd.mono tx) (Paired.app (Paired.imp (fun _ _ => Wd.mono (TX.ex e7)) hw6) hbv), rs.new lk hin iff, ?_, ?_⟩
        · rw [List.length_append, List.length_append, List.length_singleton]
          omega
        · rw [List.length_append, List.length_append, List.length_singleton]
          omega
end
end Wb

set_option Elab.async false
set_option linter.all false
set_option maxRecDepth 100000
set_option maxHeartbeats 8000000
set_option pp.maxSteps 900
set_option pp.deepTerms false
namespace Wb
open PySem PySem.Spec PyProof.Rows L2
theorem prodI_take : ∀ {ms : List Int} (k : Nat), (∀ m ∈ ms, 1 ≤ m) → prodI (ms.take k) ≤ prodI ms
  | [], k, _ => by rw [List.take_nil]; exact Int.le_refl _
  | m :: r, 0, h => by
    rw [List.take_zero]
    exact prodI_pos h
  | m :: r, k + 1, h => by
    rw [List.take_succ_cons, prodI, prodI]
    exact Int.mul_le_mul_of_nonneg_left (prodI_take k fun x hx => h x (List.mem_cons_of_mem _ hx)) (by have := h m List.mem_cons_self; omega)
theorem lks_take {l : Lock} (lk : LkS l) (k : Nat) : LkS (l.take k) := by
  refine ⟨by rw [List.length_take]; have := lk.few; omega, fun b hb => lk.gaps b (List.mem_of_mem_take hb), fun b hb => lk.goes b (List.mem_of_mem_take hb), ?_⟩
  have z := prodI_take (ms := manysOf l) k fun m hm => by
    obtain ⟨b, hb, rfl⟩ := List.mem_map.mp hm
    exact (lk.goes b hb).1.1
  unfold manysOf at z ⊢
  rw [List.map_take]
  exact Int.le_trans z lk.prod
theorem inAll_takeL {l : Lock} {st : Word} (h : InAll st (manysOf l)) (k : Nat) : InAll (st.take k) (manysOf (l.take k)) := by
  have z := inAll_take h k
  unfold manysOf at z ⊢
  rw [List.map_take]
  exact z
theorem paired_take {α β : Type} {R : α → β → Prop} {xs : List α} {ys : List β} (h : Paired R xs ys) : ∀ k, Paired R (xs.take k) (ys.take k) := by
  induction h with
  | nil => intro k; rw [List.take_nil, List.take_nil]; exact .nil
  | cons r _ ih =>
    intro k
    cases k with
    | zero => exact .nil
    | succ k => exact .cons r (ih k)
/-- a lock whose own tuple is tracked -/
def LockT (K : PySem.W.Frag) (H : Hp) (v : V) (l : Lock) : Prop := ∃ a bs, v = .ref a ∧ H a = some (.tup bs) ∧ Paired (BoltAt K H) bs l
theorem LockT.mono {K : PySem.W.Frag} {H H' : Hp} {v : V} (e : TX K H H') {l : Lock} (h : LockT K H v l) : LockT K H' v l := by
  obtain ⟨a, bs, r, q1, q2⟩ := h
  exact ⟨a, bs, r, e.2 _ _ q1, Paired.imp (fun _ _ => BoltAt.mono e) q2⟩
theorem LockT.at_ {K : PySem.W.Frag} {H : Hp} {v : V} {l : Lock} (h : LockT K H v l) : LockAt K H v l := by
  obtain ⟨a, bs, r, q1, q2⟩ := h
  exact ⟨a, bs, r, .inl (.inl q1), q2⟩
end Wb

set_option Elab.async false
set_option linter.all false
set_option maxRecDepth 100000
set_option maxHeartbeats 4000000
set_option pp.maxSteps 900
set_option pp.deepTerms false
namespace Wb
open PySem PySem.Spec PyProof.Rows L2
/-! ### dicts whose keys are tuples of whole numbers, texts, None and such tuples, however deep (to 8) -/
abbrev NKey := NestedKey
abbrev nk (k : NKey) : NestedKey := k
theorem nk_inj {a b : NKey} (h : nk a = nk b) : a = b := h
mutual
/-- a value is a key -/
inductive NkV (H : Hp) : V → NestedKey → Prop where
  | non : NkV H .non .none
  | int (i : Int) : NkV H (.int i) (.num i)
  | str (x : Str) : NkV H (.str x) (.text x)
  | tup {a : Addr} {xs : List V} {ks : List NestedKey} : H a = some (.tup xs) → NkAll H xs ks → NkV H (.ref a) (.tup ks)
inductive NkAll (H : Hp) : List V → List NestedKey → Prop where
  | nil : NkAll H [] []
  | cons {v : V} {k : NestedKey} {vs : List V} {ks : List NestedKey} : NkV H v k → NkAll H vs ks → NkAll H (v :: vs) (k :: ks)
end
mutual
theorem NkV.keep {H H' : Hp} (e : ∀ b xs, H b = some (.tup xs) → H' b = some (.tup xs)) : ∀ {v : V} {k : NestedKey}, NkV H v k → NkV H' v k
  | _, _, .non => .non
  | _, _, .int i => .int i
  | _, _, .str x => .str x
  | _, _, .tup h a => .tup (e _ _ h) (NkAll.keep e a)
theorem NkAll.keep {H H' : Hp} (e : ∀ b xs, H b = some (.tup xs) → H' b = some (.tup xs)) : ∀ {vs : List V} {ks : List NestedKey}, NkAll H vs ks → NkAll H' vs ks
  | _, _, .nil => .nil
  | _, _, .cons h t => .cons (NkV.keep e h) (NkAll.keep e t)
end
theorem NkAll.nums {H : Hp} : ∀ ns : List Int, NkAll H (ns.map V.int) (ns.map NestedKey.num)
  | [] => .nil
  | n :: ns => .cons (.int n) (NkAll.nums ns)
theorem nums_inj {a b : List Int} (h : a.map NestedKey.num = b.map NestedKey.num) : a = b := (List.map_inj_right (fun _ _ e => NestedKey.num.inj e)).mp h
theorem depth_nums : ∀ ns : List Int, NestedKey.depthAll (ns.map NestedKey.num) = 0
  | [] => rfl
  | n :: ns => by
    show max 0 (NestedKey.depthAll (ns.map NestedKey.num)) = 0
    rw [depth_nums ns]
    rfl
theorem depth_app : ∀ ks ls : List NestedKey, NestedKey.depthAll (ks ++ ls) = max (NestedKey.depthAll ks) (NestedKey.depthAll ls)
  | [], ls => (Nat.zero_max _).symm
  | k :: ks, ls => by
    show max k.depth (NestedKey.depthAll (ks ++ ls)) = max (max k.depth (NestedKey.depthAll ks)) _
    rw [depth_app ks ls, Nat.max_assoc]
/-- the key's own tuple stands at q -/
def KAt (H : Hp) (q : Addr) (k : NKey) : Prop := NkV H (.ref q) k ∧ k.depth ≤ 8
theorem KAt.keep {H H' : Hp} {q : Addr} {k : NKey} (e : ∀ b xs, H b = some (.tup xs) → H' b = some (.tup xs)) (h : KAt H q k) : KAt H' q k := ⟨h.1.keep e, h.2⟩
theorem KAt.ex {H H' : Hp} {q : Addr} {k : NKey} (e : Evl.Ex H H') (h : KAt H q k) : KAt H' q k := h.keep fun _ _ z => e _ _ z
section
variable {P : Program} {w : World} {H : Hp} {h : Heap}
mutual
theorem nkv_is (ok : HOk P w H h) : ∀ {v : V} {k : NestedKey} {u : Value}, NkV H v k → RelV v u → NestedIs h k u
  | _, _, u, .non, r => by
    obtain rfl : u = Value.none := r
    exact .none
  | _, _, _, .int i, r => by
    obtain ⟨t, rfl⟩ := r
    exact .int i t
  | _, _, _, .str x, r => by
    obtain ⟨t, rfl⟩ := r
    exact .text x t
  | _, _, u, .tup (a := a) (xs := xs) (ks := ks) hx hk, r => by
    obtain rfl : u = Value.ref a := r
    obtain ⟨_, us, rv, o, e1, e2, n, e3⟩ := (show ObjOk P w H h a (.tup xs) from ok a _ hx)
    exact .tup e1 e2 e3 (by rw [show us.toArray.toList = us by simp]; exact nkall_is ok hk rv)
theorem nkall_is (ok : HOk P w H h) : ∀ {vs : List V} {ks : List NestedKey} {us : List Value}, NkAll H vs ks → Vals vs us → NestedAll h ks us
  | _, _, _, .nil, r => by cases r; exact .nil
  | _, _, _, .cons a b, r => by
    cases r with
    | cons r1 r2 => exact .cons (nkv_is ok a r1) (nkall_is ok b r2)
end
theorem nk_is (ok : HOk P w H h) {q : Addr} {k : NKey} (hk : KAt H q k) : (nestedKind P w).is h (nk k) q := ⟨nkv_is ok hk.1 rfl, hk.2⟩
end
/-! ### such a dict's object -/
def DN (P : Program) (w : World) (a : Addr) (xs : List (NestedKey × Addr × Value)) : HO := .ext fun h => (a == sysModules) = false ∧ xs.length ≤ sizeLine ∧ ∃ o es ep, h.get? a = some o ∧ o.ExactDict ∧ o.data = .dict es ep ∧ es.toList = xs.map (entryOfKey (nestedKind P w)) ∧ (xs.map (·.1)).Nodup
abbrev NRel (H : Hp) (p : NKey × V) (q : NestedKey × Addr × Value) : Prop := q.1 = nk p.1 ∧ KAt H q.2.1 p.1 ∧ RelV p.2 q.2.2
/-- at a stands, or stands locked, a dict with these keys and values -/
def ND (P : Program) (w : World) (H : Hp) (a : Addr) (kvs : List (NKey × V)) : Prop := ∃ xs, Rd H a (DN P w a xs) ∧ Paired (NRel H) kvs xs
/-- .. not locked -/
def NDm (P : Program) (w : World) (H : Hp) (a : Addr) (kvs : List (NKey × V)) : Prop := ∃ xs, H a = some (DN P w a xs) ∧ Paired (NRel H) kvs xs
theorem NRel.keep {H H' : Hp} (e : ∀ b xs, H b = some (.tup xs) → H' b = some (.tup xs)) {p : NKey × V} {q : NestedKey × Addr × Value} (h : NRel H p q) : NRel H' p q := ⟨h.1, h.2.1.keep e, h.2.2⟩
theorem NDm.nd {P : Program} {w : World} {H : Hp} {a : Addr} {kvs : List (NKey × V)} (h : NDm P w H a kvs) : ND P w H a kvs := by
  obtain ⟨xs, h1, h2⟩ := h
  exact ⟨xs, .inl h1, h2⟩
theorem NDm.keep {P : Program} {w : World} {H H' : Hp} {a : Addr} {kvs : List (NKey × V)} (e : ∀ b xs, H b = some (.tup xs) → H' b = some (.tup xs)) (ea : ∀ o, H a = some o → H' a = some o) (h : NDm P w H a kvs) : NDm P w H' a kvs := by
  obtain ⟨xs, h1, h2⟩ := h
  exact ⟨xs, ea _ h1, Paired.mapP h2 fun _ _ => NRel.keep e⟩
theorem ND.keep {P : Program} {w : World} {H H' : Hp} {a : Addr} {kvs : List (NKey × V)} (e : ∀ b xs, H b = some (.tup xs) → H' b = some (.tup xs)) (ea : ∀ o, H a = some o → H' a = some o) (h : ND P w H a kvs) : ND P w H' a kvs := by
  obtain ⟨xs, h1, h2⟩ := h
  exact ⟨xs, h1.imp (ea _) (fun ⟨o, z⟩ => ⟨o, ea _ z⟩), Paired.mapP h2 fun _ _ => NRel.keep e⟩
theorem NDm.ex {P : Program} {w : World} {H H' : Hp} {a : Addr} {kvs : List (NKey × V)} (e : Evl.Ex H H') (h : NDm P w H a kvs) : NDm P w H' a kvs := h.keep (fun _ _ z => e _ _ z) (fun _ z => e _ _ z)
theorem ND.ex {P : Program} {w : World} {H H' : Hp} {a : Addr} {kvs : List (NKey × V)} (e : Evl.Ex H H') (h : ND P w H a kvs) : ND P w H' a kvs := h.keep (fun _ _ z => e _ _ z) (fun _ z => e _ _ z)
theorem nrel_val {H : Hp} {kvs : List (NKey × V)} {xs : List (NestedKey × Addr × Value)} (r : Paired (NRel H) kvs xs) (k : NKey) : RelO (valV kvs k) ((atKey xs (nk k)).map (·.2)) := by
  induction r with
  | nil => exact True.intro
  | @cons p q ps qs h t ih =>
    obtain ⟨e1, _, e3⟩ := h
    by_cases e : p.1 = k
    · have e' : q.1 = nk k := e1.trans (congrArg nk e)
      have b : atKey (q :: qs) (nk k) = some q.2 := by simp [atKey, List.find?_cons, e']
      rw [valV_pos e, b]
      exact e3
    · have e' : ¬ q.1 = nk k := fun z => e (nk_inj (e1.symm.trans z))
      have b : atKey (q :: qs) (nk k) = atKey qs (nk k) := by simp [atKey, List.find?_cons, e']
      rw [valV_neg e, b]
      exact ih
theorem nrel_any {H : Hp} : ∀ {kvs : List (NKey × V)} {xs : List (NestedKey × Addr × Value)}, Paired (NRel H) kvs xs → ∀ k : NKey, (kvs.any fun kv => decide (kv.1 = k)) = (atKey xs (nk k)).isSome := by
  intro kvs xs r k
  rw [valV_any, (nrel_val r k).isSome_eq, Option.isSome_map]
theorem nrel_repl {H : Hp} : ∀ {kvs : List (NKey × V)} {xs : List (NestedKey × Addr × Value)} (_ : Paired (NRel H) kvs xs) (k : NKey) {y : V} {u : Value}, RelV y u →
    Paired (NRel H) (kvs.map fun kv => if kv.1 = k then (kv.1, y) else kv) (xs.map (putAt (nk k) u))
  | _, _, .nil, _, _, _, _ => .nil
  | _, _, .cons (a := p) (b := q) r t, k, y, u, ry => by
    obtain ⟨pk, pv⟩ := p
    obtain ⟨qk, qa, qv⟩ := q
    obtain ⟨e1, e2, e3⟩ := r
    have e1' : qk = pk := e1
    rw [e1']
    refine .cons ?_ (nrel_repl t k ry)
    by_cases h : pk = k
    · rw [h] at e2 ⊢
      simp only [putAt, if_true]
      exact ⟨rfl, e2, ry⟩
    · simp only [putAt, if_neg h]
      exact ⟨rfl, e2, e3⟩
theorem nrel_put {H : Hp} {kvs : List (NKey × V)} {xs : List (NestedKey × Addr × Value)} (r : Paired (NRel H) kvs xs) (k : NKey) {b : Addr} {y : V} {u : Value} (hb : KAt H b k) (ry : RelV y u) : Paired (NRel H) (putK kvs k y) (storedH xs (nk k) b u) := by
  unfold putK storedH
  rw [nrel_any r k]
  by_cases q : (atKey xs (nk k)).isSome = true
  · rw [if_pos q, if_pos q]
    exact nrel_repl r k ry
  · rw [if_neg q, if_neg q]
    exact Paired.snoc r ⟨rfl, hb, ry⟩
/-! ### rules for such dicts -/
section
variable {P : Program} {w : World} {H : Hp} {h : Heap} {a : Addr} {kvs : List (NKey × V)} {xs : List (NestedKey × Addr × Value)}
theorem dn_rd (ok : HOk P w H h) (e : Rd H a (DN P w a xs)) (r : Paired (NRel H) kvs xs) : xs.length ≤ sizeLine ∧ (a == sysModules) = false ∧ h.DictOfH (nestedKind P w) a xs := by
  obtain ⟨⟨z1, z2, o, es, ep, h1, h2, h3, h4, h5⟩, _, _⟩ := (show ObjOk P w H h a (DN P w a xs) from rd_of ok e)
  refine ⟨z2, z1, o, es, ep, h1, h2, h3, h4, fun x hx => ?_, h5⟩
  obtain ⟨i, hi⟩ := List.mem_iff_getElem?.mp hx
  obtain ⟨p, _, e1, e2, _⟩ := Paired.get2 r hi
  rw [e1]
  exact nk_is ok e2
theorem dn_ok {H' : Hp} {h' : Heap} (z : xs.length ≤ sizeLine) (hd : (a == sysModules) = false) (dd : h'.DictOfH (nestedKind P w) a xs) : ObjOk P w H' h' a (DN P w a xs) := by
  obtain ⟨o, es, ep, h1, h2, h3, h4, _, h5⟩ := dd
  refine ⟨⟨hd, z, o, es, ep, h1, h2, h3, h4, h5⟩, ⟨o, h1⟩, ?_⟩
  rintro g1 g2 ⟨y1, y2, o', es', ep', e1, e2, e3, e4, e5⟩ k
  exact ⟨y1, y2, o', es', ep', k _ e1, e2, e3, e4, e5⟩
theorem nd_len (ok : HOk P w H h) (d : ND P w H a kvs) : kvs.length ≤ sizeLine := by
  obtain ⟨xs, e, r⟩ := d
  rw [Paired.len r]
  exact (dn_rd ok e r).1
end
/-- {} that is to have such keys -/
def tDNewN (P : Program) (w : World) : TE := fun _ H Q => ∀ p, H p = none → Q (.ref p) (upd H p (DN P w p []))
theorem NDm.empty {P : Program} {w : World} {H : Hp} {p : Addr} : NDm P w (upd H p (DN P w p [])) p [] := ⟨[], upd_same, .nil⟩
theorem nd_typeIs {X : Cx} {pins : List (Addr × Obj)} {σ : L2.St} {H : Hp} {s : Shared} {a : Addr} {kvs : List (NKey × V)} (I : Inv X pins σ H s) (d : ND X.prog X.w H a kvs) :
    s.TypeIs (.ref a) "dict" ∧ (∀ b, Value.ref a = .ref b → ∃ ob, s.heap.get? b = some ob ∧ ob.dict = none) ∧ (a == sysModules) = false := by
  obtain ⟨xs, e, r⟩ := d
  obtain ⟨_, hd, dd⟩ := dn_rd I.hok e r
  refine ⟨dd.typeIs, fun b q => ?_, hd⟩
  cases q
  obtain ⟨ob, _, _, h1, h2, _⟩ := dd
  exact ⟨ob, h1, h2.2.1⟩
theorem ty_dictN {X : Cx} : TyOk X "dict" (fun x H => ∃ a kvs, x = .ref a ∧ ND X.prog X.w H a kvs) := by
  intro pins σ H s x v I r h
  obtain ⟨a, kvs, rfl, d⟩ := h
  obtain rfl : v = Value.ref a := r
  obtain ⟨t1, t2, _⟩ := nd_typeIs I d
  exact ⟨t1, t2⟩
theorem nested_room {P : Program} {w : World} {A : Around} (hu : A.units + 9 < cLine) : (nestedKind P w).room A.in1 := by
  show A.in1.units + 8 < cLine
  have : A.in1.units ≤ A.units + 1 := Nat.le_refl _
  omega
section
variable {X : Cx} {pos pos' : Pos}
theorem pe_dnewN : PE X (.Dict [] [] pos) (tDNewN X.prog X.w) := ⟨fun pins s σ H Q I h => by
  have hb : (s.heap.objs.size == sysModules) = false := beq_eq_false_iff_ne.mpr (Ne.symm (Nat.ne_of_lt I.big))
  exact wpAny_Dict_empty ⟨.ref s.heap.objs.size, _, I.laid (a := s.heap.objs.size) (o := DN X.prog X.w s.heap.objs.size []) (t' := s.toks) (fun _ _ q => Heap.get?_push_of_some _ q) (Nat.le_refl _)
    (dn_ok (Nat.zero_le _) hb (Heap.DictOfH.new s.heap)), rfl, h _ (I.hok.fresh (Nat.le_refl _))⟩⟩
end
/-- d[y]; y not in d -/
def tNGet (P : Program) (w : World) (td ty : TE) : TE := fun σ H Q => td σ H fun x H1 => ty σ H1 fun y H2 => ∃ (a b : Addr) (kvs : List (NKey × V)) (k : NKey) (v : V), x = .ref a ∧ y = .ref b ∧ KAt H2 b k ∧ ND P w H2 a kvs ∧ valV kvs k = some v ∧ Q v H2
def tNNotIn (P : Program) (w : World) (ty td : TE) : TE := fun σ H Q => ty σ H fun y H1 => td σ H1 fun x H2 => ∃ (a b : Addr) (kvs : List (NKey × V)) (k : NKey), x = .ref a ∧ y = .ref b ∧ KAt H2 b k ∧ ND P w H2 a kvs ∧ Q (.bl (!(valV kvs k).isSome)) H2
section
variable {X : Cx} {o i e : Expr} {pos : Pos} {td ty : TE}
theorem pe_nget (hu : X.A.units + 9 < cLine) (ho : PE X o td) (hi : PE X i ty) (hs : NoSl i) : PE X (.Subscript o i pos) (tNGet X.prog X.w td ty) := by
  refine ⟨fun pins s σ H Q I h => ?_⟩
  refine subD_of PySem.F.slot_dict_getitem.lookup hs (thn (ho.run pins s σ H _ I h) fun u s1 ⟨x, H1, I1, rx, q1⟩ => thn (hi.run pins s1 σ H1 _ I1 q1) fun iv s2 ⟨y, H2, I2, ry, a, b, kvs, k, v, ex, ey, hk, d, l, q2⟩ => ?_)
  subst ex ey
  obtain rfl : u = Value.ref a := rx
  obtain rfl : iv = Value.ref b := ry
  refine ⟨(nd_typeIs I2 d).1, ?_⟩
  obtain ⟨xs, hx, r⟩ := d
  obtain ⟨z, hd, dd⟩ := dn_rd I2.hok hx r
  obtain ⟨w', hw, rw'⟩ := RelO.some_of (v := v) (o := (atKey xs (nk k)).map (·.2)) (by rw [← l]; exact nrel_val r k)
  obtain ⟨p, hp, hp2⟩ := Option.map_eq_some_iff.mp hw
  refine wpAny_getItem_heap (nested_room hu) (nk_is I2.hok hk) dd hp ?_
  rw [hp2]
  exact ⟨v, H2, I2.tok _, rw', q2⟩
theorem pc_nnotin (hu : X.A.units + 9 < cLine) (hi : PE X i ty) (ho : PE X o td) : PC X .NotIn i o (tNNotIn X.prog X.w ty td) := by
  refine ⟨fun pins s σ H Q I h => ?_⟩
  refine thn (hi.run pins s σ H _ I h) fun iv s1 ⟨y, H1, I1, ry, q1⟩ => thn (ho.run pins s1 σ H1 _ I1 q1) fun u s2 ⟨x, H2, I2, rx, a, b, kvs, k, ex, ey, hk, d, q2⟩ => ?_
  subst ex ey
  obtain rfl : u = Value.ref a := rx
  obtain rfl : iv = Value.ref b := ry
  obtain ⟨xs, hx, r⟩ := d
  obtain ⟨z, hd, dd⟩ := dn_rd I2.hok hx r
  refine wpAny_notIn_heap (nested_room hu) (nk_is I2.hok hk) hd dd ?_
  have q := (nrel_val r k).isSome_eq
  rw [Option.isSome_map] at q
  rw [← q]
  exact ⟨.bl (!(valV kvs k).isSome), H2, I2.tok _, rfl, q2⟩
end
/-- d.get(y, x) -/
def rGetN (P : Program) (w : World) : V → List V → Hp → VK → Prop := fun x vs H Q => ∃ (a b : Addr) (z : V) (kvs : List (NKey × V)) (k : NKey), x = .ref a ∧ vs = [.ref b, z] ∧ KAt H b k ∧ ND P w H a kvs ∧ Q ((valV kvs k).getD z) H
theorem mt_getN {X : Cx} (hu : X.A.units + 9 < cLine) : MtR X "dict.get" (rGetN X.prog X.w) := by
  intro pins s σ H x vs v us Q I rx rv h
  obtain ⟨a, b, z, kvs, k, rfl, rfl, hk, d, q⟩ := h
  obtain rfl : v = Value.ref a := rx
  obtain ⟨u1, u2, rfl, r1, r2⟩ := vals2 rv
  obtain rfl : u1 = Value.ref b := r1
  obtain ⟨xs, hx, r⟩ := d
  obtain ⟨zl, hd, dd⟩ := dn_rd I.hok hx r
  refine call_meetsIn PySem.F.slot_dict_get dd.typeIs PySem.F.entry_dict_get (PySem.F.args_dict_get_3 _ _ _) (meetsH_dict_get_default (nestedKind X.prog X.w) a b hd u2) ⟨nested_room hu, nk k, xs, nk_is I.hok hk, dd, ?_⟩
  exact ⟨_, _, I.tok _, (nrel_val r k).getD r2, q⟩
/-! ### d.update([(key, value) ..]) -/
def putsN (cur new : List (NKey × V)) : List (NKey × V) := new.foldl (fun acc kv => putK acc kv.1 kv.2) cur
theorem putsN_len : ∀ (new cur : List (NKey × V)), (putsN cur new).length ≤ cur.length + new.length
  | [], cur => Nat.le_refl _
  | p :: r, cur => by
    have h1 := putsN_len r (putK cur p.1 p.2)
    have h2 := length_putK cur p.1 p.2
    show (putsN (putK cur p.1 p.2) r).length ≤ _
    rw [List.length_cons]
    omega
/-- a tuple of a key and its value -/
def PairN (H : Hp) (p : Addr) (kv : NKey × V) : Prop := ∃ b, H p = some (.tup [.ref b, kv.2]) ∧ KAt H b kv.1
def rUpdN (P : Program) (w : World) : V → List V → Hp → VK → Prop := fun x vs H Q => ∃ (d l : Addr) (cur new : List (NKey × V)) (ps : List Addr), x = .ref d ∧ vs = [.ref l] ∧ NDm P w H d cur ∧ H l = some (.lst (ps.map V.ref)) ∧ Paired (PairN H) ps new ∧
  cur.length + new.length ≤ sizeLine ∧ ∀ xs, NDm P w (upd H d (DN P w d xs)) d (putsN cur new) → Q .non (upd H d (DN P w d xs))
section
variable {X : Cx}
theorem pairsN {pins : List (Addr × Obj)} {σ : L2.St} {H : Hp} {s : Shared} (I : Inv X pins σ H s) : ∀ {ps : List Addr} {new : List (NKey × V)}, Paired (PairN H) ps new →
    ∃ prs : List (NestedKey × Addr × Value), prs.length = ps.length ∧ Paired (NRel H) new prs ∧
      ∀ (j : Nat) (q : NestedKey × Addr × Value), prs[j]? = some q → ∃ p, ps[j]? = some p ∧ PairAt s.heap p (.ref q.2.1) q.2.2
  | _, _, .nil => ⟨[], rfl, .nil, fun j q e => by simp at e⟩
  | _, _, .cons (a := p) (b := u) h t => by
    obtain ⟨prs, hl, hp, hq⟩ := pairsN I t
    obtain ⟨b, h1, h2⟩ := h
    obtain ⟨_, its, rv, o, e1, e2, n, e3⟩ := (show ObjOk X.prog X.w H s.heap p (.tup [.ref b, u.2]) from I.hok p _ h1)
    obtain ⟨v1, v2, rfl, r1, r2⟩ := vals2 rv
    obtain rfl : v1 = Value.ref b := r1
    refine ⟨(nk u.1, b, v2) :: prs, by rw [List.length_cons, List.length_cons, hl], .cons ⟨rfl, h2, r2⟩ hp, fun j q e => ?_⟩
    cases j with
    | zero =>
      have e' : (nk u.1, b, v2) = q := Option.some.inj e
      subst e'
      exact ⟨p, rfl, .inl ⟨o, e1, e2, n, e3⟩⟩
    | succ j => exact hq j q e
theorem nrel_puts {H : Hp} : ∀ {new : List (NKey × V)} {prs : List (NestedKey × Addr × Value)} {cur : List (NKey × V)} {xs : List (NestedKey × Addr × Value)}, Paired (NRel H) new prs → Paired (NRel H) cur xs → Paired (NRel H) (putsN cur new) (storedAllH xs prs)
  | _, _, _, _, .nil, h => h
  | _, _, cur, xs, .cons (a := p) (b := q) (l₁ := new) (l₂ := prs) r t, h => by
    obtain ⟨pk, pv⟩ := p
    obtain ⟨qk, qa, qv⟩ := q
    obtain ⟨e1, e2, e3⟩ := r
    have e1' : qk = pk := e1
    rw [e1']
    show Paired (NRel H) (putsN (putK cur pk pv) new) (storedAllH (storedH xs (nk pk) qa qv) prs)
    exact nrel_puts t (nrel_put h pk e2 e3)
theorem mt_updN (hc : X.calm = true) (hu : X.A.units + 9 < cLine) : MtR X "dict.update" (rUpdN X.prog X.w) := by
  intro pins s σ H x vs v us Q I rx rv h
  obtain ⟨d, l, cur, new, ps, rfl, rfl, ⟨xs, hd, rel⟩, hl, hp, hz, q⟩ := h
  obtain rfl : v = Value.ref d := rx
  obtain ⟨u, rfl, ru⟩ := rv.one
  obtain rfl : u = Value.ref l := ru
  obtain ⟨zl, its, n, r, _, hle⟩ := I.lstM hl
  have ei := refs_at r
  subst ei
  obtain ⟨z, hdm, dd⟩ := dn_rd I.hok (.inl hd) rel
  obtain ⟨prs, pl, hpw, hpp⟩ := pairsN I hp
  have pwl : ps.length = new.length := Paired.len hp
  have xl : cur.length = xs.length := Paired.length rel
  have ndl : d ≠ l := ne_of hd hl (fun z => nomatch z)
  have tupAt : ∀ {b : Addr} {ys : List V}, H b = some (.tup ys) → b ≠ d := fun hb => ne_of hb hd (fun z => nomatch z)
  have keyStay : ∀ (h' : Heap), (∀ b o, b ≠ d → b ∉ ([] : List Addr) → s.heap.get? b = some o → h'.get? b = some o) → ∀ (k : NKey) (b : Addr), KAt H b k → (nestedKind X.prog X.w).is h' (nk k) b := by
    intro h' hk k b hb
    exact HeapKind.Stays.but nestedKind_stays (let ⟨o, es, ep, e1, _, e3, _⟩ := dd; ⟨o, es, ep, e1, e3⟩) h' hk _ _ (nk_is I.hok hb)
  let Ts : Nat → Addr := fun j => ps.getD j 0
  have tsAt : ∀ {j : Nat} {p : Addr}, ps[j]? = some p → Ts j = p := fun {j p} e => by
    show ps.getD j 0 = p
    rw [List.getD_eq_getElem?_getD, e]
    rfl
  have qsAt : ∀ {j : Nat} {k v : Value}, (prs.map fun q => (Value.ref q.2.1, q.2.2))[j]? = some (k, v) → ∃ q, prs[j]? = some q ∧ k = .ref q.2.1 ∧ v = q.2.2 := fun {j k v} e => by
    rw [List.getElem?_map] at e
    cases hq : prs[j]? with
    | none => rw [hq] at e; cases e
    | some q =>
      rw [hq] at e
      have e' : (Value.ref q.2.1, q.2.2) = (k, v) := Option.some.inj e
      cases e'
      exact ⟨q, rfl, rfl, rfl⟩
  have ql : (prs.map fun q => (Value.ref q.2.1, q.2.2)).length = ps.length := by rw [List.length_map, pl]
  refine call_update_pairsH (knd := nestedKind X.prog X.w) (acc := xs) (ps := prs) (PairArg.list l (ps.map Value.ref).toArray Ts (prs.map fun q => (Value.ref q.2.1, q.2.2))) (I.ok.hd hc) (nested_room hu)
    ⟨⟨_, n, hle, rfl, rfl, rfl⟩, by simp [pl], fun j k v e => ?_⟩ (fun hm => ?_) ⟨by rw [List.length_map], fun i key v e => ?_⟩ (fun h' hk x hx => ?_) dd (by rw [← xl, ql, pwl]; exact hz) fun h' tk dd' hk => ?_
  · obtain ⟨q', hq, rfl, rfl⟩ := qsAt e
    obtain ⟨p, h1, h2⟩ := hpp j q' hq
    refine ⟨?_, by rw [tsAt h1]; exact h2⟩
    rw [tsAt h1]
    simp [h1]
  · rcases List.mem_cons.mp hm with e | hm
    · exact ndl e
    · obtain ⟨j, hj, e⟩ := List.mem_map.mp hm
      rw [List.mem_range, ql] at hj
      have hp1 : ps[j]? = some (ps[j]'hj) := List.getElem?_eq_getElem hj
      rw [tsAt hp1] at e
      obtain ⟨u, _, b, h1, _⟩ := Paired.get1 hp hp1
      exact tupAt h1 e
  · obtain ⟨q', hq, rfl, rfl⟩ := qsAt e
    exact ⟨q'.1, q'.2.1, hq, rfl⟩
  · rcases List.mem_append.mp hx with hx | hx
    · obtain ⟨i, hi⟩ := List.mem_iff_getElem?.mp hx
      obtain ⟨p, hp1, e1, e2, _⟩ := Paired.get2 rel hi
      rw [e1]
      exact keyStay h' hk _ _ e2
    · obtain ⟨i, hi⟩ := List.mem_iff_getElem?.mp hx
      obtain ⟨u, hu1, e1, e2, _⟩ := Paired.get2 hpw hi
      rw [e1]
      exact keyStay h' hk _ _ e2
  · have r2 := nrel_puts hpw rel
    have lN : (storedAllH xs prs).length ≤ sizeLine := by
      rw [← Paired.len r2]
      exact Nat.le_trans (putsN_len new cur) hz
    have he : ∃ o, h'.get? d = some o := let ⟨o, _, _, e1, _⟩ := dd'; ⟨o, e1⟩
    refine ⟨.non, _, I.write (x := d) (e := d) (by rw [hd]; exact True.intro) (.inl rfl) (fun b u hb e => hk b u hb (by simp) e) he (dn_ok lN hdm dd'), rfl, q _ ⟨_, upd_same, Paired.mapP r2 fun _ _ => NRel.keep fun b ys e => ?_⟩⟩
    rw [upd_ne (tupAt e)]
    exact e
end
/-! ### for key in d: the tuples that are keys, one after another; d locked -/
def Itkn (P : Program) (w : World) (d : Addr) (o : Obj) (xs : List (NestedKey × Addr × Value)) : It where
  go i H := H d = some (.frz o (DN P w d xs)) ∧ i < xs.length
  yld i H x H' := H' = H ∧ ∃ e, xs[i]? = some e ∧ x = .ref e.2.1
  stop i H := H d = some (.frz o (DN P w d xs)) ∧ xs.length ≤ i
theorem frzN {X : Cx} {pins : List (Addr × Obj)} {σ : L2.St} {H : Hp} {s : Shared} {d : Addr} {o : Obj} {xs : List (NestedKey × Addr × Value)} (I : Inv X pins σ H s) (h : H d = some (.frz o (DN X.prog X.w d xs))) :
    (d == sysModules) = false ∧ s.heap.get? d = some o ∧ o.ExactDict ∧ ∃ (es : Array DictEntry) (ep : Nat), o.data = .dict es ep ∧ es.size = xs.length ∧ ∀ (i : Nat) (e : NestedKey × Addr × Value), xs[i]? = some e → ∃ en : DictEntry, es[i]? = some en ∧ en.key = .ref e.2.1 := by
  obtain ⟨hg, ⟨z1, z2, o', es, ep, e1, e2, e3, e4, _⟩, _⟩ := I.hok d _ h
  rw [hg] at e1
  cases e1
  refine ⟨z1, hg, e2, es, ep, e3, size_of_entries e4, ?_⟩
  intro i e he
  have q := entry_at e4 i
  rw [he] at q
  exact ⟨_, q, rfl⟩
theorem turn_keysN {P : Program} {w : World} {K : PySem.W.Frag} {tg : Expr} {d : Addr} {o : Obj} {es : Array DictEntry} {ep : Nat} {xs : List (NestedKey × Addr × Value)} (it : Addr) (hod : o.data = .dict es ep) :
    Turn P w K tg (Itkn P w d o xs) [it] it (fun i h => h.IsKeyIter it d i xs.length ep) where
  mem := List.mem_singleton.mpr rfl
  obj := by
    intro i h st b hb
    obtain rfl : b = it := List.mem_singleton.mp hb
    obtain ⟨oi, e, c, dd⟩ := st
    refine ⟨oi, e, ?_⟩
    intro v z
    rw [dd] at z
    cases z
  keep := by
    intro i h h' st k
    exact st.at (fun oi e => k it (List.mem_singleton.mpr rfl) oi e)
  item := by
    rintro X rfl rfl rfl hc i pins s σ H E I hf st ⟨hd, hi⟩
    obtain ⟨f0, f1, f2, f3, f4, f5⟩ := hf it (List.mem_singleton.mpr rfl)
    obtain ⟨hs, hgd, hx, es', ep', hdt, hsz, ent⟩ := frzN I hd
    obtain ⟨rfl, rfl⟩ := dict_ep hod hdt
    obtain ⟨e, he⟩ : ∃ e, xs[i]? = some e := ⟨xs[i], List.getElem?_eq_getElem hi⟩
    obtain ⟨en, hen, hkey⟩ := ent i e he
    refine next_key_item st hgd hdt hsz hen ?_
    intro h' st' sb
    have I1 : Inv X pins σ H { s with heap := h' } := I.turned (t' := s.toks) (fun b ob hb e => (sb.2 b hb).trans e) f0 f1 f3 f4 f5
    obtain ⟨oi, e1, c, dd⟩ := id st'
    exact ⟨en.key, rfl, go_of (s := { s with heap := h' }) e1 c dd (by decide) ⟨.ref e.2.1, H, I1, hkey, ⟨rfl, e, he, rfl⟩, st', fun b hb => (hf b hb).1⟩⟩
  done := by
    rintro X rfl rfl rfl hc i pins s σ H E I hf st ⟨hd, hi⟩
    obtain ⟨f0, f1, f2, f3, f4, f5⟩ := hf it (List.mem_singleton.mpr rfl)
    obtain ⟨hs, hgd, hx, es', ep', hdt, hsz, ent⟩ := frzN I hd
    obtain ⟨rfl, rfl⟩ := dict_ep hod hdt
    refine next_key_end (I.ok.hd hc) st hgd hdt hsz hi ?_
    intro h' eb
    exact ⟨rfl, I.turned (t' := s.toks) (fun b ob hb e => eb b ob hb e) f0 f1 f3 f4 f5⟩
  self := by
    intro A i s Q E st h
    exact (turn_keysT (P := P) (w := w) (K := K) (tg := tg) (d := d) (o := o) (es := es) (ep := ep) (kvs := xs.map fun _ => ([], .non)) it hod).self A i s Q E (by rw [List.length_map]; exact st) h
def iKeysN (P : Program) (w : World) (td : TE) : TI := fun σ H R => td σ H fun x H1 => ∃ d o xs, x = .ref d ∧ H1 d = some (.frz o (DN P w d xs)) ∧ R (Itkn P w d o xs) H1
theorem pi_keysN {X : Cx} {tg e : Expr} {td : TE} (he : PE X e td) : PI X tg e (iKeysN X.prog X.w td) := by
  constructor
  intro pins s σ H R I h
  refine thn (he.run pins s σ H _ I h) ?_
  rintro u s1 ⟨x, H1, I1, rx, d, o, xs, rfl, hd, q⟩
  obtain rfl : u = Value.ref d := rx
  obtain ⟨hs, hgd, hx, es, ep, hdt, hsz, ent⟩ := frzN I1 hd
  refine iter_keys hs hgd hx hdt (pi_one (tk := s1.toks) I1 _ (turn_keysN _ hdt) ⟨_, Heap.get?_push_size _ rfl, rfl, ?_⟩ q)
  rw [hsz] <;> rfl

theorem walk_keysN {P : Program} {w : World} {d : Addr} {o : Obj} {xs : List (NestedKey × Addr × Value)} : Walk (Itkn P w d o xs) xs.length (fun H => H d = some (.frz o (DN P w d xs))) (fun i H x H' => H' = H ∧ ∃ e, xs[i]? = some e ∧ x = .ref e.2.1) :=
  ⟨fun _ _ hi q => ⟨q, hi⟩, fun _ q => ⟨q, Nat.le_refl _⟩, fun _ _ _ _ _ _ y => y⟩
theorem hu9_of {k : Nat} {A : Around} (h : Room k A) : A.units + 9 < cLine := by
  have := h.un
  omega
/-! ### d[y] = v -/
def sNPut (P : Program) (w : World) (td ty tv : TE) : TS := fun D σ H => tv σ H fun v H1 => td σ H1 fun x H2 => ty σ H2 fun y H3 => ∃ (a b : Addr) (kvs : List (NKey × V)) (k : NKey), x = .ref a ∧ y = .ref b ∧ KAt H3 b k ∧ NDm P w H3 a kvs ∧ kvs.length < sizeLine ∧
  ∀ xs, NDm P w (upd H3 a (DN P w a xs)) a (putK kvs k v) → D.nx σ (upd H3 a (DN P w a xs))
section
variable {X : Cx} {o i value : Expr} {pos pos' : Pos} {td ty tv : TE}
theorem ps_nput (hu : X.A.units + 9 < cLine) (ho : PE X o td) (hi : PE X i ty) (hv : PE X value tv) (hs : swapsWith value (some (.Subscript o i pos')) pos.line X.env = pure false) :
    PS X (.Assign [.Subscript o i pos'] value pos) (sNPut X.prog X.w td ty tv) := by
  refine ⟨fun pins s σ H D I h => ?_⟩
  refine wpAny_Assign_Subscript (thn (hv.run pins s σ H _ I h) fun r s1 ⟨v, H1, I1, rv, q1⟩ => thn (ho.run pins s1 σ H1 _ I1 q1) fun u s2 ⟨x, H2, I2, rx, q2⟩ => thn (hi.run pins s2 σ H2 _ I2 q2) fun iv s3 ⟨y, H3, I3, ry, a, b, kvs, k, ex, ey, hk, d, hz, q3⟩ => ?_) hs
  subst ex ey
  obtain rfl : u = Value.ref a := rx
  obtain rfl : iv = Value.ref b := ry
  obtain ⟨xs, hx, rel⟩ := d
  obtain ⟨z, hd, dd⟩ := dn_rd I3.hok (.inl hx) rel
  have xl : kvs.length = xs.length := Paired.length rel
  have hl : (storedH xs (nk k) b r).length ≤ sizeLine := by have := storedH_length xs (nk k) b r; omega
  refine wpAny_setItem_heap (hsz := by omega) (nested_room hu) (nk_is I3.hok hk) dd fun h' dd' hs' => ?_
  obtain ⟨q, es, ep, hq, h2, h3, h4, _, h5⟩ := id dd'
  have keep : ∀ c ys, H3 c = some (.tup ys) → upd H3 a (DN X.prog X.w a (storedH xs (nk k) b r)) c = some (.tup ys) := fun c ys e => by
    rw [upd_ne (ne_of e hx (fun z => nomatch z))]
    exact e
  refine ⟨σ, _, d_write I3 (by rw [hx]; exact True.intro) hs' ⟨q, hq⟩ (dn_ok hl hd dd'), q3 _ ⟨_, upd_same, ?_⟩⟩
  exact Paired.mapP (nrel_put rel k hk rv) fun _ _ => NRel.keep keep
end
/-! ### {key: value}, the key such a tuple -/
def tDisp1N (P : Program) (w : World) (tk tv : TE) : TE := fun σ H Q => ∀ p, H p = none → tk σ (upd H p (DN P w p [])) fun y H1 => tv σ H1 fun v H2 => ∃ (b : Addr) (k : NKey), y = .ref b ∧ KAt H2 b k ∧ H2 p = some (DN P w p []) ∧
  ∀ xs, NDm P w (upd H2 p (DN P w p xs)) p [(k, v)] → Q (.ref p) (upd H2 p (DN P w p xs))
theorem pe_disp1N {X : Cx} {pos : Pos} {k v : Expr} {tk tv : TE} (hu : X.A.units + 9 < cLine) (hk : PE X k tk) (hv : PE X v tv) : PE X (.Dict [some k] [v] pos) (tDisp1N X.prog X.w tk tv) := by
  refine ⟨fun pins s σ H Q I q => ?_⟩
  have hn := I.hok.fresh (Nat.le_refl s.heap.objs.size)
  have hb : (s.heap.objs.size == sysModules) = false := beq_eq_false_iff_ne.mpr (Ne.symm (Nat.ne_of_lt I.big))
  have I1 := I.laid (a := s.heap.objs.size) (o := DN X.prog X.w s.heap.objs.size []) (h' := s.heap.push { cls := .type "dict", data := .dict #[] }) (t' := s.toks) (fun _ _ q => Heap.get?_push_of_some _ q) (Nat.le_refl _) (dn_ok (Nat.zero_le _) hb (Heap.DictOfH.new s.heap))
  have hp : pairTrees [some k] [v] X.env pos ≠ [] := by
    intro he
    have hl := pairTrees_length [some k] [v] X.env pos rfl rfl
    rw [he] at hl
    cases hl
  have hl := pairTrees_length [some k] [v] X.env pos rfl rfl
  rw [arm_eval_Dict, zip_pairTrees [some k] [v] X.env pos rfl rfl, dictDisplay_pairs _ hp (by rw [hl]; exact (by decide : 1 < 17))]
  have hr : (nestedKind X.prog X.w).room X.A := by
    show X.A.units + 8 < cLine
    omega
  refine wpAny_bind (wpAny_standAt (wpAny_bind (wpAny_subDictH (knd := nestedKind X.prog X.w) (Q := fun d s' => wpAny (model X.prog X.w) X.A (pure (Value.ref d)) _ X.xe s') hr (by rw [hl]; exact (by decide : 1 ≤ 15)) ?_)))
  refine pairTrees_cons_walk (thn (hk.run pins _ σ _ _ I1 (q _ hn)) fun u s1 ⟨x, H1, I1', rx, q1⟩ => thn (hv.run pins s1 σ H1 _ I1' q1) fun w2 s2 ⟨y, H2, I2, ry, b, ky, ey, hky, hH, q2⟩ => ?_)
  subst ey
  obtain rfl : u = Value.ref b := rx
  refine pairTrees_nil_walk ?_
  obtain ⟨z, hd, dd⟩ := dn_rd (kvs := []) I2.hok (.inl hH) .nil
  refine ⟨[(nk ky, b, w2)], ⟨rfl, rfl, nk_is I2.hok hky, trivial⟩, dd, fun h' tk dd' hs' => wpAny_pure ?_⟩
  obtain ⟨q', es, ep, hq, h2, h3, h4, _, h5⟩ := id dd'
  have keep : ∀ c ys, H2 c = some (.tup ys) → upd H2 s.heap.objs.size (DN X.prog X.w s.heap.objs.size (storedAllH [] [(nk ky, b, w2)])) c = some (.tup ys) := fun c ys e => by
    rw [upd_ne (ne_of e hH (fun z => nomatch z))]
    exact e
  refine ⟨.ref s.heap.objs.size, _, d_write (t' := tk) I2 (by rw [hH]; exact True.intro) hs' ⟨q', hq⟩ (dn_ok (xs := storedAllH [] [(nk ky, b, w2)]) (show 1 ≤ sizeLine by decide) hd dd'), rfl, q2 _ ⟨_, upd_same, ?_⟩⟩
  exact .cons ⟨rfl, hky.keep keep, ry⟩ .nil
end Wb

set_option Elab.async false
set_option linter.all false
set_option maxRecDepth 100000
set_option maxHeartbeats 4000000
namespace Wb
open PySem PySem.Spec PyProof.Rows L2
/-! ### lists as counted things -/
def ex {α : Type} (kvs : List (α × Nat)) : List α := kvs.flatMap fun p => List.replicate p.2 p.1
def look {α : Type} [DecidableEq α] (kvs : List (α × Nat)) (k : α) : Option Nat := (kvs.find? fun p => decide (p.1 = k)).map (·.2)
def addN {α : Type} [DecidableEq α] (kvs : List (α × Nat)) (k : α) (c : Nat) : List (α × Nat) :=
  if (kvs.any fun p => decide (p.1 = k)) = true then kvs.map (fun p => if p.1 = k then (p.1, (look kvs k).getD 0 + c) else p) else kvs ++ [(k, c)]
section
variable {α : Type} [DecidableEq α]
theorem ex_cons (p : α × Nat) (r : List (α × Nat)) : ex (p :: r) = List.replicate p.2 p.1 ++ ex r := rfl
theorem ex_app (a b : List (α × Nat)) : ex (a ++ b) = ex a ++ ex b := List.flatMap_append
theorem rep_add (k : α) (a b : Nat) : List.replicate (a + b) k = List.replicate a k ++ List.replicate b k := by
  rw [List.replicate_append_replicate]
theorem look_none {kvs : List (α × Nat)} {k : α} (h : (kvs.any fun p => decide (p.1 = k)) = false) : look kvs k = none := by
  unfold look
  rw [List.find?_eq_none.mpr]
  · rfl
  · intro p hp q
    have := List.any_eq_false.mp h p hp
    exact this q
theorem addN_perm : ∀ {kvs : List (α × Nat)} (_ : (kvs.map (·.1)).Nodup) (k : α) (c : Nat), (ex (addN kvs k c)).Perm (ex kvs ++ List.replicate c k) := by
  intro kvs nd k c
  unfold addN
  by_cases h : (kvs.any fun p => decide (p.1 = k)) = true
  · rw [if_pos h]
    have key : ∀ (v : Nat) (l : List (α × Nat)), (l.map (·.1)).Nodup → (l.any fun p => decide (p.1 = k)) = true → look l k = some v → (ex (l.map fun p => if p.1 = k then (p.1, v + c) else p)).Perm (ex l ++ List.replicate c k) := by
      intro v l
      induction l with
      | nil => intro _ h; simp at h
      | cons p r ih =>
        intro nd h lk
        rw [List.map_cons, List.nodup_cons] at nd
        by_cases e : p.1 = k
        · have lv : p.2 = v := by
            unfold look at lk
            rw [List.find?_cons_of_pos (by rw [decide_eq_true e])] at lk
            exact Option.some.inj lk
          have same : r.map (fun p => if p.1 = k then (p.1, v + c) else p) = r := by
            refine (List.map_congr_left fun q hq => ?_).trans (List.map_id _)
            have : ¬ q.1 = k := fun z => nd.1 (List.mem_map.mpr ⟨q, hq, by rw [z, e]⟩)
            rw [if_neg this]
            rfl
          rw [List.map_cons, if_pos e, same, ex_cons, ex_cons, ← lv]
          show (List.replicate (p.2 + c) p.1 ++ ex r).Perm (List.replicate p.2 p.1 ++ ex r ++ List.replicate c k)
          rw [rep_add, e, List.append_assoc, List.append_assoc]
          exact List.Perm.append_left _ List.perm_append_comm
        · have h' : (r.any fun p => decide (p.1 = k)) = true := by
            rw [List.any_cons, decide_eq_false e, Bool.false_or] at h
            exact h
          have lk' : look r k = some v := by
            unfold look at lk ⊢
            rw [List.find?_cons_of_neg (by rw [decide_eq_false e]; exact Bool.false_ne_true)] at lk
            exact lk
          rw [List.map_cons, if_neg e, ex_cons, ex_cons, List.append_assoc]
          exact List.Perm.append_left _ (ih nd.2 h' lk')
    obtain ⟨v, hv⟩ : ∃ v, look kvs k = some v := by
      obtain ⟨p, hp, e⟩ := List.any_eq_true.mp h
      cases hl : kvs.find? fun p => decide (p.1 = k) with
      | none => exact absurd e (by simpa using List.find?_eq_none.mp hl p hp)
      | some q => exact ⟨q.2, by unfold look; rw [hl]; rfl⟩
    have := key v kvs nd h hv
    rw [hv, Option.getD_some]
    exact this
  · rw [if_neg h, ex_app]
    show (ex kvs ++ (List.replicate c k ++ [])).Perm _
    rw [List.append_nil]
theorem addN_keys (kvs : List (α × Nat)) (k : α) (c : Nat) : (addN kvs k c).map (·.1) = if (kvs.any fun p => decide (p.1 = k)) = true then kvs.map (·.1) else kvs.map (·.1) ++ [k] := by
  unfold addN
  by_cases h : (kvs.any fun p => decide (p.1 = k)) = true
  · rw [if_pos h, if_pos h, List.map_map]
    refine List.map_congr_left fun p _ => ?_
    show (if p.1 = k then (p.1, _) else p).1 = p.1
    split <;> rfl
  · rw [if_neg h, if_neg h, List.map_append]
    rfl
structure Hist (kvs : List (α × Nat)) (L : List α) : Prop where
  nd : (kvs.map (·.1)).Nodup
  pos : ∀ p ∈ kvs, 1 ≤ p.2
  per : (ex kvs).Perm L
theorem Hist.nil : Hist ([] : List (α × Nat)) [] := ⟨List.nodup_nil, fun p h => (nomatch h), List.Perm.refl _⟩
theorem Hist.add {kvs : List (α × Nat)} {L : List α} (h : Hist kvs L) (k : α) {c : Nat} (hc : 1 ≤ c) : Hist (addN kvs k c) (L ++ List.replicate c k) := by
  refine ⟨?_, fun p hp => ?_, (addN_perm h.nd k c).trans (h.per.append_right _)⟩
  · rw [addN_keys]
    split
    · exact h.nd
    · rename_i ha
      rw [List.nodup_append]
      refine ⟨h.nd, by simp, fun x hx y hy e => ha ?_⟩
      obtain ⟨p, hp, rfl⟩ := List.mem_map.mp hx
      rw [List.mem_singleton.mp hy] at e
      exact List.any_eq_true.mpr ⟨p, hp, decide_eq_true e⟩
  · unfold addN at hp
    split at hp
    · obtain ⟨q, hq, rfl⟩ := List.mem_map.mp hp
      split
      · exact Nat.le_trans hc (Nat.le_add_left _ _)
      · exact h.pos q hq
    · rcases List.mem_append.mp hp with hp | hp
      · exact h.pos p hp
      · rw [List.mem_singleton.mp hp]; exact hc
theorem Hist.perm {kvs : List (α × Nat)} {L M : List α} (h : Hist kvs L) (p : L.Perm M) : Hist kvs M := ⟨h.nd, h.pos, h.per.trans p⟩
theorem ex_len {kvs : List (α × Nat)} (h : ∀ p ∈ kvs, 1 ≤ p.2) : kvs.length ≤ (ex kvs).length := by
  induction kvs with
  | nil => exact Nat.le_refl _
  | cons p r ih =>
    have a := ih fun q hq => h q (List.mem_cons_of_mem _ hq)
    have b := h p List.mem_cons_self
    rw [ex_cons, List.length_append, List.length_replicate, List.length_cons]
    omega
theorem Hist.len {kvs : List (α × Nat)} {L : List α} (h : Hist kvs L) : kvs.length ≤ L.length := by
  rw [← h.per.length_eq]
  exact ex_len h.pos
theorem count_ex {kvs : List (α × Nat)} (nd : (kvs.map (·.1)).Nodup) {k : α} {c : Nat} (h : (k, c) ∈ kvs) : (ex kvs).count k = c := by
  induction kvs with
  | nil => cases h
  | cons p r ih =>
    rw [List.map_cons, List.nodup_cons] at nd
    rw [ex_cons, List.count_append]
    have zero : ∀ l : List (α × Nat), k ∉ l.map (·.1) → (ex l).count k = 0 := by
      intro l hl
      refine List.count_eq_zero.mpr fun hm => hl ?_
      obtain ⟨q, hq, hr⟩ := List.mem_flatMap.mp hm
      exact List.mem_map.mpr ⟨q, hq, (List.eq_of_mem_replicate hr).symm⟩
    rcases List.mem_cons.mp h with e | h'
    · rw [← e] at nd ⊢
      rw [List.count_replicate_self, zero r nd.1, Nat.add_zero]
    · have ne : p.1 ≠ k := fun z => nd.1 (by rw [z]; exact List.mem_map.mpr ⟨_, h', rfl⟩)
      rw [List.count_replicate, if_neg (by simpa using ne), ih nd.2 h', Nat.zero_add]
/-- one counting of the same things -/
theorem Hist.uniq {kvs ms : List (α × Nat)} {L : List α} (h : Hist kvs L) (m : Hist ms L) : kvs.Perm ms := by
  have go : ∀ {a b : List (α × Nat)}, Hist a L → Hist b L → ∀ p, p ∈ a → p ∈ b := by
    rintro a b ha hb ⟨k, c⟩ hp
    have c1 := count_ex ha.nd hp
    have c2 : (ex b).count k = c := by rw [← c1]; exact (hb.per.trans ha.per.symm).count_eq k
    have pos := ha.pos _ hp
    have hm : k ∈ ex b := List.count_pos_iff.mp (by rw [c2]; exact pos)
    obtain ⟨q, hq, hr⟩ := List.mem_flatMap.mp hm
    have e := List.eq_of_mem_replicate hr
    have c3 := count_ex hb.nd (k := q.1) (c := q.2) hq
    have : q = (k, c) := by
      rw [← e] at c3
      exact Prod.ext e.symm (c3.symm.trans c2)
    rw [← this]
    exact hq
  have ndp : ∀ {a : List (α × Nat)}, (a.map (·.1)).Nodup → a.Nodup := fun h => (List.pairwise_map.mp h).imp fun h e => h (congrArg Prod.fst e)
  exact (List.perm_ext_iff_of_nodup (ndp h.nd) (ndp m.nd)).mpr fun p => ⟨go h m p, go m h p⟩
/-! ### such a counting as a dict -/
def encD {κ : Type} (enc : α → κ) (kvs : List (α × Nat)) : List (κ × V) := kvs.map fun p => (enc p.1, V.int (p.2 : Nat))
section
variable {κ : Type} [DecidableEq κ] {enc : α → κ} (inj : ∀ a b, enc a = enc b → a = b)
include inj
theorem encD_any (kvs : List (α × Nat)) (k : α) : ((encD enc kvs).any fun kv => decide (kv.1 = enc k)) = kvs.any fun p => decide (p.1 = k) := by
  unfold encD
  rw [List.any_map]
  refine congrArg (fun f => kvs.any f) (funext fun p => ?_)
  show decide (enc p.1 = enc k) = decide (p.1 = k)
  exact decide_eq_decide.mpr ⟨inj _ _, fun h => by rw [h]⟩
theorem encD_val (kvs : List (α × Nat)) (k : α) : valV (encD enc kvs) (enc k) = (look kvs k).map fun n => V.int (n : Nat) := by
  unfold valV look encD
  rw [List.find?_map]
  have e : ((fun kv : κ × V => decide (kv.1 = enc k)) ∘ fun p : α × Nat => (enc p.1, V.int (p.2 : Nat))) = fun p => decide (p.1 = k) := funext fun p => by
    show decide (enc p.1 = enc k) = decide (p.1 = k)
    exact decide_eq_decide.mpr ⟨inj _ _, fun h => by rw [h]⟩
  rw [e, Option.map_map, Option.map_map]
  rfl
theorem encD_put (kvs : List (α × Nat)) (k : α) (c : Nat) : putK (encD enc kvs) (enc k) (.int (((look kvs k).getD 0 + c : Nat) : Int)) = encD enc (addN kvs k c) := by
  unfold putK addN
  rw [encD_any inj]
  by_cases h : (kvs.any fun p => decide (p.1 = k)) = true
  · rw [if_pos h, if_pos h]
    unfold encD
    rw [List.map_map, List.map_map]
    refine List.map_congr_left fun p _ => ?_
    show (if enc p.1 = enc k then (enc p.1, _) else (enc p.1, V.int (p.2 : Nat))) = _
    by_cases e : p.1 = k
    · rw [if_pos (by rw [e])]
      show _ = (enc (if p.1 = k then (p.1, _) else p).1, V.int ((if p.1 = k then (p.1, (look kvs k).getD 0 + c) else p).2 : Nat))
      rw [if_pos e]
    · rw [if_neg (fun z => e (inj _ _ z))]
      show _ = (enc (if p.1 = k then (p.1, _) else p).1, V.int ((if p.1 = k then (p.1, (look kvs k).getD 0 + c) else p).2 : Nat))
      rw [if_neg e]
  · rw [if_neg h, if_neg h]
    have hf : (kvs.any fun p => decide (p.1 = k)) = false := Bool.eq_false_iff.mpr h
    rw [look_none hf]
    unfold encD
    rw [List.map_append]
    show _ = _ ++ [(enc k, V.int (c : Nat))]
    rw [Option.getD_none, Nat.zero_add]
end
end
end Wb

set_option Elab.async false
set_option linter.all false
set_option maxRecDepth 100000
set_option maxHeartbeats 4000000
namespace Wb
open PySem PySem.Spec PyProof.Rows L2
/-! ### places and blocks -/
def plc (m : Int) : List Int := (List.range m.toNat).map fun (i : Nat) => (i : Int)
theorem mem_plc {m x : Int} : x ∈ plc m ↔ 0 ≤ x ∧ x < m := by
  unfold plc
  rw [List.mem_map]
  constructor
  · rintro ⟨i, hi, rfl⟩
    have := List.mem_range.mp hi
    omega
  · rintro ⟨h1, h2⟩
    exact ⟨x.toNat, List.mem_range.mpr (by omega), Int.toNat_of_nonneg h1⟩
theorem plc_up (m : Int) : (plc m).Pairwise (· < ·) :=
  List.pairwise_map.mpr (List.pairwise_lt_range.imp fun h => Int.ofNat_lt.mpr h)
theorem up_eq : ∀ {a b : List Int}, a.Pairwise (· < ·) → b.Pairwise (· < ·) → (∀ x, x ∈ a ↔ x ∈ b) → a = b
  | [], [], _, _, _ => rfl
  | [], y :: b, _, _, h => by have := (h y).mpr List.mem_cons_self; cases this
  | x :: a, [], _, _, h => by have := (h x).mp List.mem_cons_self; cases this
  | x :: a, y :: b, ha, hb, h => by
    obtain ⟨ha1, ha2⟩ := List.pairwise_cons.mp ha
    obtain ⟨hb1, hb2⟩ := List.pairwise_cons.mp hb
    have le1 : y ≤ x := by
      rcases List.mem_cons.mp ((h x).mp List.mem_cons_self) with e | e
      · omega
      · have := hb1 x e; omega
    have le2 : x ≤ y := by
      rcases List.mem_cons.mp ((h y).mpr List.mem_cons_self) with e | e
      · omega
      · have := ha1 y e; omega
    have e : x = y := by omega
    subst e
    refine congrArg (x :: ·) (up_eq ha2 hb2 fun z => ⟨fun hz => ?_, fun hz => ?_⟩)
    · rcases List.mem_cons.mp ((h z).mp (List.mem_cons_of_mem _ hz)) with e | e
      · have := ha1 z hz; omega
      · exact e
    · rcases List.mem_cons.mp ((h z).mpr (List.mem_cons_of_mem _ hz)) with e | e
      · have := hb1 z hz; omega
      · exact e
noncomputable def blkOf (gs : List Gap) (ns : List Word) (m p : Int) : List Int := (plc m).filter fun q => @decide (BRc gs (· ∈ ns) p q) (Classical.propDecidable _)
/-- the blocks -/
noncomputable def blocksOf (gs : List Gap) (ns : List Word) (m : Int) : List (List Int) := ((plc m).filter fun p => decide ((blkOf gs ns m p).head? = some p)).map (blkOf gs ns m)
theorem blk_up (gs : List Gap) (ns : List Word) (m p : Int) : (blkOf gs ns m p).Pairwise (· < ·) := (plc_up m).filter _
theorem brc_low {gs : List Gap} {N : Word → Prop} {m p q : Int} (to : ∀ g ∈ gs, 0 ≤ g.to_ ∧ g.to_ < m) (hp : 0 ≤ p ∧ p < m) (h : BRc gs N p q) : 0 ≤ q ∧ q < m := by
  cases h with
  | refl => exact hp
  | step g w _ hg _ _ _ => exact to g hg
theorem mem_blk {gs : List Gap} {ns : List Word} {m p q : Int} (to : ∀ g ∈ gs, 0 ≤ g.to_ ∧ g.to_ < m) (hp : 0 ≤ p ∧ p < m) : q ∈ blkOf gs ns m p ↔ BRc gs (· ∈ ns) p q := by
  unfold blkOf
  rw [List.mem_filter, @decide_eq_true_eq _ (Classical.propDecidable _), mem_plc]
  exact ⟨fun h => h.2, fun h => ⟨brc_low to hp h, h⟩⟩
theorem blk_eq {gs : List Gap} {ns : List Word} {m p : Int} {bk : List Int} (to : ∀ g ∈ gs, 0 ≤ g.to_ ∧ g.to_ < m) (hp : 0 ≤ p ∧ p < m) (up : bk.Pairwise (· < ·)) (h : ∀ q, q ∈ bk ↔ BRc gs (· ∈ ns) p q) : bk = blkOf gs ns m p :=
  up_eq up (blk_up _ _ _ _) fun x => (h x).trans (mem_blk to hp).symm
structure BlocksOk (gs : List Gap) (N : Word → Prop) (m : Int) (Bs : List (List Int)) : Prop where
  ne : ∀ B ∈ Bs, B ≠ []
  nd : ∀ B ∈ Bs, B.Nodup
  cls : ∀ B ∈ Bs, ∀ p ∈ B, (0 ≤ p ∧ p < m) ∧ ∀ q, q ∈ B ↔ BRc gs N p q
  cov : ∀ p, 0 ≤ p → p < m → ∃ B ∈ Bs, p ∈ B
  dis : Bs.Pairwise fun B D => ∀ p ∈ B, p ∉ D
def TwoB (gs : List Gap) : Prop := ∀ g ∈ gs, ∃ h ∈ gs, h.frm = g.to_ ∧ h.to_ = g.frm ∧ h.ways = g.ways
theorem head_mem {α : Type} {l : List α} {x : α} (h : l.head? = some x) : x ∈ l := by
  cases l with
  | nil => cases h
  | cons a r => cases h; exact List.mem_cons_self
theorem blocks_ok {gs : List Gap} {ns : List Word} {m : Int} (t : TwoB gs) (to : ∀ g ∈ gs, 0 ≤ g.to_ ∧ g.to_ < m) : BlocksOk gs (· ∈ ns) m (blocksOf gs ns m) := by
  have get : ∀ B ∈ blocksOf gs ns m, ∃ i, (0 ≤ i ∧ i < m) ∧ (blkOf gs ns m i).head? = some i ∧ B = blkOf gs ns m i := by
    intro B hB
    obtain ⟨i, hi, rfl⟩ := List.mem_map.mp hB
    obtain ⟨h1, h2⟩ := List.mem_filter.mp hi
    exact ⟨i, mem_plc.mp h1, of_decide_eq_true h2, rfl⟩
  have same : ∀ {i p : Int}, 0 ≤ i ∧ i < m → p ∈ blkOf gs ns m i → blkOf gs ns m i = blkOf gs ns m p := by
    intro i p hi hp
    have r := (mem_blk to hi).mp hp
    have lp := brc_low to hi r
    refine up_eq (blk_up _ _ _ _) (blk_up _ _ _ _) fun x => ?_
    rw [mem_blk to hi, mem_blk to lp]
    exact ⟨fun h => (brc_back t r).trans h, fun h => r.trans h⟩
  refine ⟨fun B hB e => ?_, fun B hB => ?_, fun B hB p hp => ?_, fun p h0 h1 => ?_, ?_⟩
  · obtain ⟨i, hi, h, rfl⟩ := get B hB
    rw [e] at h
    cases h
  · obtain ⟨i, hi, h, rfl⟩ := get B hB
    exact (blk_up _ _ _ _).imp fun h => Int.ne_of_lt h
  · obtain ⟨i, hi, h, rfl⟩ := get B hB
    have lp := brc_low to hi ((mem_blk to hi).mp hp)
    refine ⟨lp, fun q => ?_⟩
    rw [same hi hp]
    exact mem_blk to lp
  · have hp : p ∈ blkOf gs ns m p := (mem_blk to ⟨h0, h1⟩).mpr (.refl p)
    obtain ⟨i, hi⟩ : ∃ i, (blkOf gs ns m p).head? = some i := by
      cases h : blkOf gs ns m p with
      | nil => rw [h] at hp; cases hp
      | cons a r => exact ⟨a, rfl⟩
    have mi := head_mem hi
    have li := brc_low to ⟨h0, h1⟩ ((mem_blk to ⟨h0, h1⟩).mp mi)
    have e := same ⟨h0, h1⟩ mi
    refine ⟨blkOf gs ns m i, List.mem_map.mpr ⟨i, List.mem_filter.mpr ⟨mem_plc.mpr li, decide_eq_true (by rw [← e]; exact hi)⟩, rfl⟩, by rw [← e]; exact hp⟩
  · unfold blocksOf
    rw [List.pairwise_map]
    refine List.Pairwise.imp_of_mem ?_ ((plc_up m).filter _)
    intro i j hi hj lt u hu hv
    obtain ⟨i1, i2⟩ := List.mem_filter.mp hi
    obtain ⟨j1, j2⟩ := List.mem_filter.mp hj
    have e1 := same (mem_plc.mp i1) hu
    have e2 := same (mem_plc.mp j1) hv
    have z1 : (blkOf gs ns m i).head? = some i := of_decide_eq_true i2
    have z2 : (blkOf gs ns m j).head? = some j := of_decide_eq_true j2
    rw [e1] at z1
    rw [e2, z1] at z2
    have := Option.some.inj z2
    omega
theorem BlocksOk.congr {gs : List Gap} {N M : Word → Prop} {m : Int} {Bs : List (List Int)} (h : BlocksOk gs N m Bs) (e : ∀ g ∈ gs, ∀ w ∈ g.ways, (N w ↔ M w)) : BlocksOk gs M m Bs :=
  ⟨h.ne, h.nd, fun B hB p hp => ⟨(h.cls B hB p hp).1, fun q => ((h.cls B hB p hp).2 q).trans ⟨BRc.mono fun g hg w hw => (e g hg w hw).mp, BRc.mono fun g hg w hw => (e g hg w hw).mpr⟩⟩, h.cov, h.dis⟩
/-! ### parts -/
structure PartsOf (l : Lock) (Cs : List (List Word)) : Prop where
  ne : ∀ C ∈ Cs, C ≠ []
  nd : ∀ C ∈ Cs, C.Nodup
  cls : ∀ C ∈ Cs, ∀ u ∈ C, InAll u (manysOf l) ∧ ∀ v, v ∈ C ↔ Rch l u v
  cov : ∀ u, InAll u (manysOf l) → ∃ C ∈ Cs, u ∈ C
  dis : Cs.Pairwise fun C D => ∀ u ∈ C, u ∉ D
def crossW (C : List Word) (B : List Int) : List Word := C.flatMap fun x => B.map fun p => x ++ [p]
theorem mem_cross {C : List Word} {B : List Int} {v : Word} : v ∈ crossW C B ↔ ∃ x ∈ C, ∃ p ∈ B, v = x ++ [p] := by
  unfold crossW
  rw [List.mem_flatMap]
  refine exists_congr fun x => and_congr_right fun _ => ?_
  rw [List.mem_map]
  exact ⟨fun ⟨p, h, e⟩ => ⟨p, h, e.symm⟩, fun ⟨p, h, e⟩ => ⟨p, h, e.symm⟩⟩
theorem mem_cross1 {C : List Word} {B : List Int} {x : Word} {p : Int} : x ++ [p] ∈ crossW C B ↔ x ∈ C ∧ p ∈ B := by
  rw [mem_cross]
  constructor
  · rintro ⟨y, hy, q, hq, e⟩
    obtain ⟨e1, e2⟩ := List.append_inj' e rfl
    cases e2
    subst e1
    exact ⟨hy, hq⟩
  · rintro ⟨h1, h2⟩
    exact ⟨x, h1, p, h2, rfl⟩
theorem cross_len (C : List Word) (B : List Int) : (crossW C B).length = C.length * B.length := by
  unfold crossW
  rw [List.length_flatMap]
  have e : C.map (fun x => (B.map fun p => x ++ [p]).length) = C.map fun _ => B.length := List.map_congr_left fun x _ => List.length_map ..
  rw [e]
  clear e
  induction C with
  | nil => simp
  | cons x C ih => rw [List.map_cons, List.sum_cons, ih, List.length_cons, Nat.succ_mul, Nat.add_comm]
theorem inAll_un {x ms : Word} {p m : Int} (h : InAll (x ++ [p]) (ms ++ [m])) : InAll x ms ∧ 0 ≤ p ∧ p < m := by
  have hl : x.length = ms.length := by
    have := h.1
    rw [List.length_append, List.length_append, List.length_singleton, List.length_singleton] at this
    omega
  refine ⟨⟨hl, fun i n k h1 h2 => h.2 i n k ?_ ?_⟩, h.2 x.length p m ?_ ?_⟩
  · rw [List.getElem?_append_left (List.getElem?_eq_some_iff.mp h1).1]; exact h1
  · rw [List.getElem?_append_left (List.getElem?_eq_some_iff.mp h2).1]; exact h2
  · rw [List.getElem?_append_right (Nat.le_refl _), Nat.sub_self]; rfl
  · rw [hl, List.getElem?_append_right (Nat.le_refl _), Nat.sub_self]; rfl
theorem parts_zero : PartsOf [] [[[]]] := by
  refine ⟨fun C hC => ?_, fun C hC => ?_, fun C hC u hu => ?_, fun u hu => ?_, List.pairwise_singleton _ _⟩
  · rw [List.mem_singleton.mp hC]; simp
  · rw [List.mem_singleton.mp hC]; simp
  · rw [List.mem_singleton.mp hC] at hu ⊢
    rw [List.mem_singleton.mp hu]
    refine ⟨inAll_nil, fun v => ⟨fun hv => by rw [List.mem_singleton.mp hv]; exact .refl _, fun r => ?_⟩⟩
    have := rch_len r
    rw [List.eq_nil_of_length_eq_zero this]
    exact List.mem_cons_self
  · refine ⟨_, List.mem_cons_self, ?_⟩
    have := hu.1
    rw [List.eq_nil_of_length_eq_zero this]
    exact List.mem_cons_self
theorem parts_step {l : Lock} {b : Bolt} {Cs : List (List Word)} {ws : List Word} (t : TwoWay l) (tb : TwoB b.gaps) (to : ∀ g ∈ b.gaps, 0 ≤ g.to_ ∧ g.to_ < b.many) (hws : ∀ g ∈ b.gaps, ∀ w ∈ g.ways, w ∈ ws) (P : PartsOf l Cs) :
    PartsOf (l ++ [b]) (Cs.flatMap fun C => (blocksOf b.gaps (ws.filter fun w => decide (w ∈ C)) b.many).map (crossW C)) := by
  have ml : manysOf (l ++ [b]) = manysOf l ++ [b.many] := by unfold manysOf; rw [List.map_append]; rfl
  have bo : ∀ C ∈ Cs, ∀ u ∈ C, BlocksOk b.gaps (Rch l u) b.many (blocksOf b.gaps (ws.filter fun w => decide (w ∈ C)) b.many) := fun C hC u hu =>
    (blocks_ok tb to).congr fun g hg w hw => by
      rw [List.mem_filter, decide_eq_true_eq, (P.cls C hC u hu).2]
      exact ⟨fun h => h.2, fun h => ⟨hws g hg w hw, h⟩⟩
  have ul : ∀ C ∈ Cs, ∀ u ∈ C, u.length = l.length := fun C hC u hu => inAll_len (P.cls C hC u hu).1
  refine ⟨fun E hE e => ?_, fun E hE => ?_, fun E hE u hu => ?_, fun u hu => ?_, ?_⟩
  · obtain ⟨C, hC, hE⟩ := List.mem_flatMap.mp hE
    obtain ⟨B, hB, rfl⟩ := List.mem_map.mp hE
    obtain ⟨x, C', rfl⟩ := List.exists_cons_of_ne_nil (P.ne C hC)
    obtain ⟨p, B', rfl⟩ := List.exists_cons_of_ne_nil ((blocks_ok tb to).ne B hB)
    have : x ++ [p] ∈ crossW (x :: C') (p :: B') := mem_cross1.mpr ⟨List.mem_cons_self, List.mem_cons_self⟩
    rw [e] at this
    cases this
  · obtain ⟨C, hC, hE⟩ := List.mem_flatMap.mp hE
    obtain ⟨B, hB, rfl⟩ := List.mem_map.mp hE
    unfold crossW
    refine List.pairwise_flatMap.mpr ⟨fun x _ => List.pairwise_map.mpr (((blocks_ok tb to).nd B hB).imp fun h e => h ?_), (P.nd C hC).imp fun h u hu v hv e => h ?_⟩
    · have := List.append_cancel_left e
      exact List.singleton_inj.mp this
    · obtain ⟨p, _, rfl⟩ := List.mem_map.mp hu
      obtain ⟨q, _, rfl⟩ := List.mem_map.mp hv
      exact (List.append_inj' e rfl).1
  · obtain ⟨C, hC, hE⟩ := List.mem_flatMap.mp hE
    obtain ⟨B, hB, rfl⟩ := List.mem_map.mp hE
    obtain ⟨x, hx, p, hp, rfl⟩ := mem_cross.mp hu
    obtain ⟨lp, iff⟩ := (bo C hC x hx).cls B hB p hp
    obtain ⟨ix, rx⟩ := P.cls C hC x hx
    refine ⟨by rw [ml]; exact inAll_snoc ix lp.1 lp.2, fun v => ?_⟩
    rw [rch_snoc t (ul C hC x hx), mem_cross]
    constructor
    · rintro ⟨y, hy, q, hq, rfl⟩
      exact ⟨y, q, rfl, (rx y).mp hy, (iff q).mp hq⟩
    · rintro ⟨y, q, rfl, hy, hq⟩
      exact ⟨y, (rx y).mpr hy, q, (iff q).mpr hq, rfl⟩
  · rw [ml] at hu
    obtain ⟨x, p, rfl⟩ : ∃ x p, u = x ++ [p] := by
      rcases List.eq_nil_or_concat u with z | ⟨L, b, z⟩
      · have := hu.1
        rw [z, List.length_append] at this
        simp at this
      · exact ⟨L, b, by rw [z]; simp⟩
    obtain ⟨ix, p0, p1⟩ := inAll_un hu
    obtain ⟨C, hC, hx⟩ := P.cov x ix
    obtain ⟨B, hB, hp⟩ := (bo C hC x hx).cov p p0 p1
    exact ⟨crossW C B, List.mem_flatMap.mpr ⟨C, hC, List.mem_map.mpr ⟨B, hB, rfl⟩⟩, mem_cross1.mpr ⟨hx, hp⟩⟩
  · refine List.pairwise_flatMap.mpr ⟨fun C hC => List.pairwise_map.mpr ((blocks_ok tb to).dis.imp fun h u hu hv => ?_), P.dis.imp fun h E hE F hF u hu hv => ?_⟩
    · obtain ⟨x, _, p, hp, rfl⟩ := mem_cross.mp hu
      exact h p hp (mem_cross1.mp hv).2
    · obtain ⟨B, _, rfl⟩ := List.mem_map.mp hE
      obtain ⟨D, _, rfl⟩ := List.mem_map.mp hF
      obtain ⟨x, hx, p, hp, rfl⟩ := mem_cross.mp hu
      exact h x hx (mem_cross1.mp hv).1
/-- two partings of one lock have parts of the same sizes -/
theorem same_sizes {α : Type} [DecidableEq α] : ∀ {Cs Ds : List (List α)}, (∀ C ∈ Cs, C ≠ []) → (∀ D ∈ Ds, D ≠ []) → (∀ C ∈ Cs, C.Nodup) → (∀ D ∈ Ds, D.Nodup) → Cs.Pairwise (fun C D => ∀ u ∈ C, u ∉ D) → Ds.Pairwise (fun C D => ∀ u ∈ C, u ∉ D) →
    (∀ C ∈ Cs, ∃ D ∈ Ds, ∀ x, x ∈ C ↔ x ∈ D) → (∀ D ∈ Ds, ∃ C ∈ Cs, ∀ x, x ∈ C ↔ x ∈ D) → (Cs.map List.length).Perm (Ds.map List.length)
  | [], [], _, _, _, _, _, _, _, _ => List.Perm.refl _
  | [], D :: Ds, _, _, _, _, _, _, _, h => by
    obtain ⟨C, hC, _⟩ := h D List.mem_cons_self
    cases hC
  | C :: Cs, Ds, nc, nd, uc, ud, pc, pd, h1, h2 => by
    obtain ⟨D, hD, hCD⟩ := h1 C List.mem_cons_self
    obtain ⟨A, B, rfl⟩ := List.append_of_mem hD
    have pr : (A ++ D :: B).Perm (D :: (A ++ B)) := List.perm_middle
    have pd' : (D :: (A ++ B)).Pairwise fun C D => ∀ u ∈ C, u ∉ D := (pr.pairwise_iff fun h u hu hv => h u hv hu).mp pd
    obtain ⟨pc1, pc2⟩ := List.pairwise_cons.mp pc
    obtain ⟨pd1, pd2⟩ := List.pairwise_cons.mp pd'
    have cd : C.length = D.length := ((List.perm_ext_iff_of_nodup (uc C List.mem_cons_self) (ud D hD)).mpr hCD).length_eq
    have up : ∀ E, E ∈ A ++ B → E ∈ A ++ D :: B := fun E hE => pr.mem_iff.mpr (List.mem_cons_of_mem _ hE)
    have ih := same_sizes (Cs := Cs) (Ds := A ++ B) (fun E hE => nc E (List.mem_cons_of_mem _ hE)) (fun E hE => nd E (up E hE)) (fun E hE => uc E (List.mem_cons_of_mem _ hE)) (fun E hE => ud E (up E hE)) pc2 pd2
      (fun E hE => by
        obtain ⟨F, hF, e⟩ := h1 E (List.mem_cons_of_mem _ hE)
        rcases List.mem_cons.mp (pr.mem_iff.mp hF) with rfl | hF
        · obtain ⟨x, r, rfl⟩ := List.exists_cons_of_ne_nil (nc E (List.mem_cons_of_mem _ hE))
          exact absurd List.mem_cons_self (pc1 _ hE x ((hCD x).mpr ((e x).mp List.mem_cons_self)))
        · exact ⟨F, hF, e⟩)
      (fun F hF => by
        obtain ⟨E, hE, e⟩ := h2 F (up F hF)
        rcases List.mem_cons.mp hE with rfl | hE
        · obtain ⟨x, r, rfl⟩ := List.exists_cons_of_ne_nil (nd F (up F hF))
          exact absurd List.mem_cons_self (pd1 _ hF x ((hCD x).mp ((e x).mpr List.mem_cons_self)))
        · exact ⟨E, hE, e⟩)
    refine (List.Perm.trans ?_ (pr.map _).symm)
    rw [List.map_cons, List.map_cons, cd]
    exact ih.cons _
theorem parts_same {l : Lock} {Cs Ds : List (List Word)} (P : PartsOf l Cs) (R : PartsOf l Ds) : (Cs.map List.length).Perm (Ds.map List.length) := by
  have go : ∀ {Cs Ds : List (List Word)}, PartsOf l Cs → PartsOf l Ds → ∀ C ∈ Cs, ∃ D ∈ Ds, ∀ x, x ∈ C ↔ x ∈ D := by
    intro Cs Ds P R C hC
    obtain ⟨u, r, rfl⟩ := List.exists_cons_of_ne_nil (P.ne C hC)
    obtain ⟨i, e⟩ := P.cls _ hC u List.mem_cons_self
    obtain ⟨D, hD, hu⟩ := R.cov u i
    exact ⟨D, hD, fun x => (e x).trans ((R.cls D hD u hu).2 x).symm⟩
  refine same_sizes P.ne R.ne P.nd R.nd P.dis R.dis (go P R) fun D hD => ?_
  obtain ⟨C, hC, e⟩ := go R P D hD
  exact ⟨C, hC, fun x => (e x).symm⟩
/-! ### the counting of the parts, step by step -/
def nearOf (ws C : List Word) : List Word := ws.filter fun w => decide (w ∈ C)
def keyP (ws C : List Word) : List Word × Nat := (nearOf ws C, C.length)
theorem near_cross {l : Lock} {k : Nat} {ws0 ws1 : List Word} (ok : LockOk l) (h0 : WordsAt l k ws0) (h1 : WordsAt l (k + 1) ws1) (C : List Word) (B : List Int) : ws1.filter (isNear (nearOf ws0 C) B) = nearOf ws1 (crossW C B) := by
  unfold nearOf
  refine List.filter_congr fun w hw => ?_
  have hc := (h1.2 w).mp hw
  have wl := (cut_small ok hc).2
  obtain ⟨v, q, rfl⟩ : ∃ v q, w = v ++ [q] := by
    rcases List.eq_nil_or_concat w with z | ⟨L, b, z⟩
    · rw [z] at wl
      cases wl
    · exact ⟨L, b, by rw [z]; simp⟩
  have vl : v.length = k := by
    rw [List.length_append, List.length_singleton] at wl
    omega
  have hv0 : v ∈ ws0 := (h0.2 v).mpr (cut_less hc vl)
  unfold isNear
  rw [List.getLast?_concat, List.dropLast_concat, Bool.eq_iff_iff, Bool.and_eq_true, decide_eq_true_eq, decide_eq_true_eq, decide_eq_true_eq, mem_cross1, List.mem_filter, decide_eq_true_eq]
  constructor
  · rintro ⟨⟨q', e, hq⟩, _, hv⟩
    cases e
    exact ⟨hv, hq⟩
  · rintro ⟨hv, hq⟩
    exact ⟨⟨q, rfl, hq⟩, hv0, hv⟩
theorem flatMap_same {α β : Type} {f g : α → List β} : ∀ {l : List α}, (∀ x ∈ l, f x = g x) → l.flatMap f = l.flatMap g
  | [], _ => rfl
  | a :: l, h => by
    rw [List.flatMap_cons, List.flatMap_cons, h a List.mem_cons_self, flatMap_same fun x hx => h x (List.mem_cons_of_mem _ hx)]
theorem flat_rep {α β γ : Type} (bs : List β) (g : α → β → γ) (x : α) : ∀ c : Nat, ((List.replicate c x).flatMap fun x => bs.map (g x)).Perm (bs.flatMap fun b => List.replicate c (g x b))
  | 0 => by
    rw [List.replicate_zero, List.flatMap_nil, (List.flatMap_eq_nil_iff (l := bs) (f := fun b => List.replicate 0 (g x b))).mpr (fun b _ => rfl)]
  | c + 1 => by
    rw [List.replicate_succ, List.flatMap_cons]
    have split : ∀ bs : List β, (bs.map (g x) ++ bs.flatMap fun b => List.replicate c (g x b)).Perm (bs.flatMap fun b => List.replicate (c + 1) (g x b)) := by
      intro bs
      induction bs with
      | nil => exact List.Perm.refl _
      | cons b bs ih =>
        rw [List.map_cons, List.flatMap_cons, List.flatMap_cons, List.replicate_succ, List.cons_append, List.cons_append]
        refine List.Perm.cons _ ?_
        refine List.Perm.trans ?_ (List.Perm.append_left _ ih)
        rw [← List.append_assoc, ← List.append_assoc]
        exact List.Perm.append_right _ List.perm_append_comm
    exact (List.Perm.append_left _ (flat_rep bs g x c)).trans (split bs)
theorem flat_ex {α γ : Type} {β : Type} [DecidableEq α] (bl : α → List β) (g : α → β → γ) : ∀ kvs : List (α × Nat), ((ex kvs).flatMap fun x => (bl x).map (g x)).Perm (kvs.flatMap fun p => (bl p.1).flatMap fun b => List.replicate p.2 (g p.1 b))
  | [] => List.Perm.refl _
  | p :: r => by
    rw [ex_cons, List.flatMap_append, List.flatMap_cons]
    refine List.Perm.append ?_ (flat_ex bl g r)
    have : (List.replicate p.2 p.1).flatMap (fun x => (bl x).map (g x)) = (List.replicate p.2 p.1).flatMap fun x => (bl p.1).map (g x) := by
      refine flatMap_same fun x hx => ?_
      rw [List.eq_of_mem_replicate hx]
    rw [this]
    exact flat_rep (bl p.1) g p.1 p.2
/-- the keys that come of a part at bolt k, and of a block there -/
def keyN (ws1 : List Word) (x : List Word × Nat) (B : List Int) : List Word × Nat := (ws1.filter (isNear x.1 B), x.2 * B.length)
noncomputable def newL (gs : List Gap) (m : Int) (ws1 : List Word) (kvs : List ((List Word × Nat) × Nat)) : List (List Word × Nat) := kvs.flatMap fun p => (blocksOf gs p.1.1 m).flatMap fun B => List.replicate p.2 (keyN ws1 p.1 B)
noncomputable def nextP (gs : List Gap) (m : Int) (ws0 : List Word) (Cs : List (List Word)) : List (List Word) := Cs.flatMap fun C => (blocksOf gs (ws0.filter fun w => decide (w ∈ C)) m).map (crossW C)
theorem step_perm {l : Lock} {k : Nat} {ws0 ws1 : List Word} (ok : LockOk l) (h0 : WordsAt l k ws0) (h1 : WordsAt l (k + 1) ws1) (gs : List Gap) (m : Int) {kvs : List ((List Word × Nat) × Nat)} {Cs : List (List Word)} (h : Hist kvs (Cs.map (keyP ws0))) :
    (newL gs m ws1 kvs).Perm ((nextP gs m ws0 Cs).map (keyP ws1)) := by
  refine (flat_ex (fun x => blocksOf gs x.1 m) (keyN ws1) kvs).symm.trans ?_
  refine (List.Perm.flatMap_right _ h.per).trans ?_
  unfold nextP
  rw [List.map_flatMap, List.flatMap_map]
  refine List.Perm.of_eq (flatMap_same fun C hC => ?_)
  show (blocksOf gs (nearOf ws0 C) m).map _ = _
  rw [List.map_map]
  refine List.map_congr_left fun B _ => ?_
  show keyN ws1 (keyP ws0 C) B = keyP ws1 (crossW C B)
  unfold keyN keyP
  rw [near_cross ok h0 h1, cross_len]
/-- in the end: the sizes, counted -/
theorem ends_hist {kvs : List ((List Word × Nat) × Nat)} {Cs : List (List Word)} (h : Hist kvs (Cs.map (keyP []))) : (∀ p ∈ kvs, p.1.1 = []) ∧ Hist (kvs.map fun p => (p.1.2, p.2)) (Cs.map List.length) := by
  have nil : ∀ p ∈ kvs, p.1.1 = [] := fun p hp => by
    have : p.1 ∈ ex kvs := List.mem_flatMap.mpr ⟨p, hp, List.mem_replicate.mpr ⟨by have := h.pos p hp; omega, rfl⟩⟩
    obtain ⟨C, _, e⟩ := List.mem_map.mp (h.per.mem_iff.mp this)
    rw [← e]
    rfl
  refine ⟨nil, ?_, fun p hp => ?_, ?_⟩
  · rw [List.map_map]
    have e : kvs.map (·.1) = kvs.map fun p => (([] : List Word), p.1.2) := List.map_congr_left fun p hp => Prod.ext (nil p hp) rfl
    have nd := h.nd
    rw [e] at nd
    refine List.pairwise_map.mpr ((List.pairwise_map.mp nd).imp fun h e => h ?_)
    exact Prod.ext rfl e
  · obtain ⟨q, hq, rfl⟩ := List.mem_map.mp hp
    exact h.pos q hq
  · have e : ∀ kvs : List ((List Word × Nat) × Nat), ex (kvs.map fun p => (p.1.2, p.2)) = (ex kvs).map Prod.snd := by
      intro kvs
      unfold ex
      rw [List.flatMap_map, List.map_flatMap]
      refine flatMap_same fun p _ => ?_
      rw [List.map_replicate]
    rw [e]
    refine (h.per.map _).trans ?_
    rw [List.map_map]
    exact List.Perm.refl _
end Wb

set_option Elab.async false
set_option linter.all false
set_option maxRecDepth 100000
set_option maxHeartbeats 4000000
namespace Wb
open PySem PySem.Spec PyProof.Rows L2
/-! ### the levels of a lock -/
def meetsW (w : List (Option Int)) (x : Word) : Prop := x.length = w.length ∧ ∀ (k : Nat) (o : Option Int) (q : Int), w[k]? = some o → x[k]? = some q → lastOk o q
theorem meets_up (w : List (Option Int)) (last : Option Int) : upT (meetsW w) last = meetsW (w ++ [last]) := by
  funext x
  refine propext ⟨?_, ?_⟩
  · rintro ⟨v, q, rfl, ⟨h1, h2⟩, hq⟩
    refine ⟨by rw [List.length_append, List.length_append, h1]; rfl, fun k o r ho hr => ?_⟩
    rcases Nat.lt_or_ge k w.length with lt | ge
    · rw [List.getElem?_append_left lt] at ho
      rw [List.getElem?_append_left (by omega)] at hr
      exact h2 k o r ho hr
    · have kl := (List.getElem?_eq_some_iff.mp ho).1
      rw [List.length_append, List.length_singleton] at kl
      have ek : k = w.length := by omega
      subst ek
      rw [List.getElem?_append_right (Nat.le_refl _), Nat.sub_self] at ho
      rw [List.getElem?_append_right (by omega), h1, Nat.sub_self] at hr
      cases ho
      cases hr
      exact hq
  · rintro ⟨h1, h2⟩
    obtain ⟨v, q, rfl⟩ : ∃ v q, x = v ++ [q] := by
      rcases List.eq_nil_or_concat x with z | ⟨L, b, z⟩
      · rw [z, List.length_append] at h1
        simp at h1
      · exact ⟨L, b, by rw [z]; simp⟩
    have vl : v.length = w.length := by
      rw [List.length_append, List.length_append, List.length_singleton, List.length_singleton] at h1
      omega
    refine ⟨v, q, rfl, ⟨vl, fun k o r ho hr => h2 k o r ?_ ?_⟩, h2 w.length last q ?_ ?_⟩
    · rw [List.getElem?_append_left (List.getElem?_eq_some_iff.mp ho).1]; exact ho
    · rw [List.getElem?_append_left (List.getElem?_eq_some_iff.mp hr).1]; exact hr
    · rw [List.getElem?_append_right (Nat.le_refl _), Nat.sub_self]; rfl
    · rw [← vl, List.getElem?_append_right (Nat.le_refl _), Nat.sub_self]; rfl
theorem word_up (v : Word) (q : Int) : upT (fun x => x = v) (some q) = fun x => x = v ++ [q] := by
  funext x
  refine propext ⟨?_, ?_⟩
  · rintro ⟨u, r, rfl, rfl, h⟩
    rcases h with h | h
    · cases h
    · rw [Option.some.inj h]
  · rintro rfl
    exact ⟨v, q, rfl, rfl, .inr rfl⟩
def TsOf (ws : List Word) (w : List (Option Int)) : List (Word → Prop) := ws.map (fun u x => x = u) ++ [meetsW w]
theorem ts_len (ws : List Word) (w : List (Option Int)) : (TsOf ws w).length = ws.length + 1 := by
  unfold TsOf
  rw [List.length_append, List.length_map, List.length_singleton]
theorem ts_word {ws : List Word} (w : List (Option Int)) {j : Nat} {u : Word} (h : ws[j]? = some u) : (TsOf ws w)[j]? = some (fun x => x = u) := by
  unfold TsOf
  have jl := (List.getElem?_eq_some_iff.mp h).1
  rw [List.getElem?_append_left (by rw [List.length_map]; exact jl), List.getElem?_map, h]
  rfl
theorem ts_last (ws : List Word) (w : List (Option Int)) : (TsOf ws w)[ws.length]? = some (meetsW w) := by
  unfold TsOf
  rw [List.getElem?_append_right (by rw [List.length_map]; exact Nat.le_refl _), List.length_map, Nat.sub_self]
  rfl
def idxW (ws : List Word) (u : Word) : Nat := ws.idxOf u
theorem idx_at {ws : List Word} {u : Word} (h : u ∈ ws) : ws[idxW ws u]? = some u := by
  unfold idxW
  have lt : ws.idxOf u < ws.length := List.idxOf_lt_length_of_mem h
  rw [List.getElem?_eq_getElem lt, List.getElem_idxOf lt]
def stopsOf (ws0 ws1 : List Word) : List (Nat × Int) := ws1.map fun u => (idxW ws0 u.dropLast, u.getLastD 0)
def endsOf (ws0 ws1 : List Word) (o : Option Int) : List End := (stopsOf ws0 ws1).map (fun s => (s.1, some s.2)) ++ [(ws0.length, o)]
theorem last_drop {u : Word} (h : u ≠ []) : u.dropLast ++ [u.getLastD 0] = u := by
  rcases List.eq_nil_or_concat u with z | ⟨L, b, z⟩
  · exact absurd z h
  · rw [List.concat_eq_append] at z
    subst z
    rw [List.dropLast_concat, List.getLastD_concat]
theorem ts_up {ws0 ws1 : List Word} (w : List (Option Int)) (o : Option Int) (h : ∀ u ∈ ws1, u ≠ [] ∧ u.dropLast ∈ ws0) : upTs (TsOf ws0 w) (endsOf ws0 ws1 o) = TsOf ws1 (w ++ [o]) := by
  unfold upTs endsOf stopsOf
  rw [List.map_append, List.map_map, List.map_map]
  have e1 : ws1.map ((fun e : End => upT ((TsOf ws0 w).getD e.1 fun _ => False) e.2) ∘ (fun s : Nat × Int => ((s.1, some s.2) : End)) ∘ fun u => (idxW ws0 u.dropLast, u.getLastD 0)) = ws1.map fun u x => x = u := by
    refine List.map_congr_left fun u hu => ?_
    obtain ⟨ne, hm⟩ := h u hu
    show upT ((TsOf ws0 w).getD (idxW ws0 u.dropLast) fun _ => False) (some (u.getLastD 0)) = _
    rw [List.getD_eq_getElem?_getD, ts_word w (idx_at hm)]
    show upT (fun x => x = u.dropLast) (some (u.getLastD 0)) = _
    rw [word_up, last_drop ne]
  refine (congrArg (· ++ _) e1).trans ?_
  have e2 : TsOf ws1 (w ++ [o]) = ws1.map (fun u x => x = u) ++ [meetsW (w ++ [o])] := rfl
  rw [e2]
  refine congrArg (ws1.map (fun u x => x = u) ++ ·) ?_
  show [upT ((TsOf ws0 w).getD ws0.length fun _ => False) o] = [meetsW (w ++ [o])]
  rw [List.getD_eq_getElem?_getD, ts_last]
  show [upT (meetsW w) o] = _
  rw [meets_up]
theorem ends_low (ws0 ws1 : List Word) (w : List (Option Int)) (o : Option Int) (h : ∀ u ∈ ws1, u ≠ [] ∧ u.dropLast ∈ ws0) : ∀ e ∈ endsOf ws0 ws1 o, e.1 < (TsOf ws0 w).length := by
  intro e he
  rw [ts_len]
  unfold endsOf stopsOf at he
  rcases List.mem_append.mp he with he | he
  · obtain ⟨s, hs, rfl⟩ := List.mem_map.mp he
    obtain ⟨u, hu, rfl⟩ := List.mem_map.mp hs
    have := List.idxOf_lt_length_of_mem (h u hu).2
    show ws0.idxOf u.dropLast < _
    omega
  · rw [List.mem_singleton.mp he]
    show ws0.length < _
    omega
def msOf (b : Bolt) (ws : List Word) : List NMv := b.gaps.flatMap fun g => g.ways.map fun u => (idxW ws u, g.frm, g.to_)
theorem moves_ok {b : Bolt} {ws : List Word} (sub : ∀ g ∈ b.gaps, ∀ u ∈ g.ways, u ∈ ws) : MovesOk b ws (msOf b ws) := by
  refine ⟨fun m hm => ?_, fun m => ⟨?_, ?_⟩⟩
  · obtain ⟨g, hg, hm⟩ := List.mem_flatMap.mp hm
    obtain ⟨u, hu, rfl⟩ := List.mem_map.mp hm
    exact List.idxOf_lt_length_of_mem (sub g hg u hu)
  · rintro ⟨g, hg, hw, e1, e2⟩
    exact ⟨(idxW ws m.w, g.frm, g.to_), List.mem_flatMap.mpr ⟨g, hg, List.mem_map.mpr ⟨m.w, hw, rfl⟩⟩, idx_at (sub g hg _ hw), e1, e2⟩
  · rintro ⟨n, hn, hw, e1, e2⟩
    obtain ⟨g, hg, hn⟩ := List.mem_flatMap.mp hn
    obtain ⟨u, hu, rfl⟩ := List.mem_map.mp hn
    have := idx_at (sub g hg u hu)
    rw [show ws[idxW ws u]? = some m.w from hw] at this
    have eu : m.w = u := Option.some.inj this
    exact ⟨g, hg, by rw [eu]; exact hu, e1, e2⟩
/-- the bits of the words -/
noncomputable def RsOf (l : Lock) (ws : List Word) (w : List (Option Int)) : List Nat := ws.map (maskOf l (TsOf ws w))
theorem below_is (l : Lock) (ws : List Word) (w : List (Option Int)) : BelowIs l ws (TsOf ws w) (RsOf l ws w) := by
  refine ⟨by unfold RsOf; rw [List.length_map], fun j u h => ts_word w h, fun j u x h hx => ?_⟩
  unfold RsOf at hx
  rw [List.getElem?_map, h] at hx
  cases hx
  exact mask_is _ _ _
section
variable {l : Lock} {b : Bolt} {ws0 ws1 : List Word} {w : List (Option Int)} {o : Option Int}
/-- one floor up -/
theorem floor_mask (sub : ∀ g ∈ b.gaps, ∀ u ∈ g.ways, u ∈ ws0) (wl : ∀ u ∈ ws0, u.length = l.length) (h1 : ∀ u ∈ ws1, u ≠ [] ∧ u.dropLast ∈ ws0) {A : List Nat} (al : A.length = (msOf b ws0).length)
    (ha : ∀ a y, A[a]? = some y → AfterIs (endsOf ws0 ws1 o) (msOf b ws0) (RsOf l ws0 w) a y) {u : Word} (hu : u.length = l.length) (p : Int) :
    ofN (endsOf ws0 ws1 o) (msOf b ws0) A (maskOf l (TsOf ws0 w) u) p = maskOf (l ++ [b]) (TsOf ws1 (w ++ [o])) (u ++ [p]) := by
  rw [← ts_up w o h1]
  exact of_mask (moves_ok sub) (below_is l ws0 w) (ends_low ws0 ws1 w o h1) wl al ha hu p
theorem next_below (sub : ∀ g ∈ b.gaps, ∀ u ∈ g.ways, u ∈ ws0) (wl : ∀ u ∈ ws0, u.length = l.length) (h1 : ∀ u ∈ ws1, u ≠ [] ∧ u.dropLast ∈ ws0) {A : List Nat} (al : A.length = (msOf b ws0).length)
    (ha : ∀ a y, A[a]? = some y → AfterIs (endsOf ws0 ws1 o) (msOf b ws0) (RsOf l ws0 w) a y) :
    ((stopsOf ws0 ws1).map fun s => ofN (endsOf ws0 ws1 o) (msOf b ws0) A ((RsOf l ws0 w).getD s.1 0) s.2) = RsOf (l ++ [b]) ws1 (w ++ [o]) := by
  unfold stopsOf RsOf
  rw [List.map_map]
  refine List.map_congr_left fun u hu => ?_
  obtain ⟨ne, hm⟩ := h1 u hu
  show ofN _ _ A ((ws0.map (maskOf l (TsOf ws0 w))).getD (idxW ws0 u.dropLast) 0) (u.getLastD 0) = _
  have e : (ws0.map (maskOf l (TsOf ws0 w))).getD (idxW ws0 u.dropLast) 0 = maskOf l (TsOf ws0 w) u.dropLast := by
    rw [List.getD_eq_getElem?_getD, List.getElem?_map, idx_at hm]
    rfl
  rw [e, floor_mask sub wl h1 al ha (wl _ hm), last_drop ne]
end
/-- at the ground all is met -/
theorem ground_mask (ws : List Word) (h : ∀ u ∈ ws, u = []) : maskOf [] (TsOf ws []) [] = 2 ^ (ws.length + 1) - 1 := by
  refine Nat.eq_of_testBit_eq fun j => ?_
  rw [Nat.testBit_two_pow_sub_one]
  have m := mask_is [] (TsOf ws []) []
  by_cases c : j < ws.length + 1
  · rw [decide_eq_true c]
    have hT : ∃ T, (TsOf ws [])[j]? = some T ∧ leadsT [] [] T := by
      rcases Nat.lt_or_ge j ws.length with lt | ge
      · refine ⟨_, ts_word [] (List.getElem?_eq_getElem lt), [], .refl _, ?_⟩
        exact (h _ (List.getElem_mem lt)).symm
      · have : j = ws.length := by omega
        subst this
        exact ⟨_, ts_last ws [], [], .refl _, rfl, fun k o q ho => by simp at ho⟩
    obtain ⟨T, hT, r⟩ := hT
    exact (m.bit j T hT).mpr r
  · rw [decide_eq_false c]
    refine Nat.testBit_lt_two_pow (Nat.lt_of_lt_of_le m.lt ?_)
    rw [ts_len]
    exact Nat.pow_le_pow_right (by decide) (by omega)
/-- at the top: one bit -/
theorem top_mask (l : Lock) (w : List (Option Int)) (u : Word) : maskOf l (TsOf [] w) u = 1 ↔ leadsT l u (meetsW w) := by
  have m := mask_is l (TsOf [] w) u
  have lt := m.lt
  have b0 := m.bit 0 (meetsW w) (ts_last [] w)
  rw [ts_len] at lt
  have lt' : maskOf l (TsOf [] w) u < 2 := lt
  rw [← b0, Nat.testBit_zero, decide_eq_true_eq]
  omega
end Wb

set_option Elab.async false
set_option linter.all false
set_option maxRecDepth 100000
set_option maxHeartbeats 4000000
namespace Wb
open PySem PySem.Spec PyProof.Rows L2
/-! ### counting stands by what they lead to -/
def standsOf (ms : List Int) : List Word := ms.foldl (fun F m => crossW F (plc m)) [[]]
theorem stands_snoc (ms : List Int) (m : Int) : standsOf (ms ++ [m]) = crossW (standsOf ms) (plc m) := by
  unfold standsOf
  rw [List.foldl_append]
  rfl
theorem stands_mem (ms : List Int) : ∀ u, u ∈ standsOf ms ↔ InAll u ms := by
  generalize hn : ms.length = n
  induction n generalizing ms with
  | zero =>
    have : ms = [] := List.eq_nil_of_length_eq_zero hn
    subst this
    intro u
    show u ∈ [[]] ↔ _
    constructor
    · intro h
      rw [List.mem_singleton.mp h]
      exact inAll_nil
    · intro h
      rw [List.eq_nil_of_length_eq_zero h.1]
      exact List.mem_cons_self
  | succ n ih =>
    obtain ⟨ms', m, rfl⟩ : ∃ ms' m, ms = ms' ++ [m] := by
      rcases List.eq_nil_or_concat ms with z | ⟨L, b, z⟩
      · rw [z] at hn; cases hn
      · exact ⟨L, b, by rw [z]; simp⟩
    rw [List.length_append, List.length_singleton] at hn
    have ih' := ih ms' (by omega)
    intro u
    rw [stands_snoc]
    constructor
    · intro hu
      obtain ⟨x, hx, p, hp, rfl⟩ := mem_cross.mp hu
      have lp := mem_plc.mp hp
      exact inAll_snoc ((ih' x).mp hx) lp.1 lp.2
    · intro hu
      obtain ⟨x, p, rfl⟩ : ∃ x p, u = x ++ [p] := by
        rcases List.eq_nil_or_concat u with z | ⟨L, b, z⟩
        · have := hu.1
          rw [z, List.length_append] at this
          simp at this
        · exact ⟨L, b, by rw [z]; simp⟩
      obtain ⟨ix, p0, p1⟩ := inAll_un hu
      exact mem_cross1.mpr ⟨(ih' x).mpr ix, mem_plc.mpr ⟨p0, p1⟩⟩
theorem cross_nodup {C : List Word} {B : List Int} (h : C.Nodup) (g : B.Nodup) : (crossW C B).Nodup := by
  unfold crossW
  refine List.pairwise_flatMap.mpr ⟨fun x _ => List.pairwise_map.mpr (g.imp fun h e => h ?_), h.imp fun h u hu v hv e => h ?_⟩
  · have := List.append_cancel_left e
    exact List.singleton_inj.mp this
  · obtain ⟨p, _, rfl⟩ := List.mem_map.mp hu
    obtain ⟨q, _, rfl⟩ := List.mem_map.mp hv
    exact (List.append_inj' e rfl).1
theorem stands_nodup (ms : List Int) : (standsOf ms).Nodup := by
  generalize hn : ms.length = n
  induction n generalizing ms with
  | zero =>
    have : ms = [] := List.eq_nil_of_length_eq_zero hn
    subst this
    show [[]].Nodup
    simp
  | succ n ih =>
    obtain ⟨ms', m, rfl⟩ : ∃ ms' m, ms = ms' ++ [m] := by
      rcases List.eq_nil_or_concat ms with z | ⟨L, b, z⟩
      · rw [z] at hn; cases hn
      · exact ⟨L, b, by rw [z]; simp⟩
    rw [List.length_append, List.length_singleton] at hn
    rw [stands_snoc]
    exact cross_nodup (ih ms' (by omega)) ((plc_up m).imp fun h => Int.ne_of_lt h)
theorem count_step {kvs : List (Nat × Nat)} {U : List Word} {r r' : Word → Nat} {G : Nat → Int → Nat} {m : Int} (h : Hist kvs (U.map r)) (g : ∀ u ∈ U, ∀ p ∈ plc m, G (r u) p = r' (u ++ [p])) :
    (kvs.flatMap fun q => (plc m).flatMap fun p => List.replicate q.2 (G q.1 p)).Perm ((crossW U (plc m)).map r') := by
  refine (flat_ex (fun _ => plc m) G kvs).symm.trans ?_
  refine (List.Perm.flatMap_right _ h.per).trans ?_
  unfold crossW
  rw [List.map_flatMap, List.flatMap_map]
  refine List.Perm.of_eq (flatMap_same fun u hu => ?_)
  rw [List.map_map]
  exact List.map_congr_left fun p hp => g u hu p hp
theorem look_count {α : Type} [DecidableEq α] {kvs : List (α × Nat)} {L : List α} (h : Hist kvs L) (k : α) : (look kvs k).getD 0 = L.count k := by
  cases e : look kvs k with
  | some c =>
    unfold look at e
    cases f : kvs.find? fun p => decide (p.1 = k) with
    | none => rw [f] at e; cases e
    | some p =>
      rw [f] at e
      have ec : p.2 = c := Option.some.inj e
      have hm := List.mem_of_find?_eq_some f
      have hk : p.1 = k := of_decide_eq_true (show decide (p.1 = k) = true from List.find?_some (p := fun p : α × Nat => decide (p.1 = k)) f)
      have z := count_ex h.nd (k := p.1) (c := p.2) hm
      rw [h.per.count_eq] at z
      rw [← hk, z, ec]
      rfl
  | none =>
    refine (List.count_eq_zero.mpr fun hm => ?_).symm
    have := h.per.mem_iff.mpr hm
    obtain ⟨p, hp, hr⟩ := List.mem_flatMap.mp this
    have ek := List.eq_of_mem_replicate hr
    unfold look at e
    cases f : kvs.find? fun p => decide (p.1 = k) with
    | some q => rw [f] at e; cases e
    | none => exact absurd (decide_eq_true ek.symm) (List.find?_eq_none.mp f p hp)
theorem count_map {U : List Word} {r : Word → Nat} (k : Nat) : (U.map r).count k = (U.filter fun u => decide (r u = k)).length := by
  rw [List.count_eq_countP, List.countP_map, List.countP_eq_length_filter]
  refine congrArg List.length (List.filter_congr fun u _ => ?_)
  show (r u == k) = decide (r u = k)
  rw [Bool.eq_iff_iff, beq_iff_eq, decide_eq_true_eq]
/-- how many stands lead to a wish: as long as any list of just these -/
theorem count_leads {l : Lock} {w : List (Option Int)} {kvs : List (Nat × Nat)} (h : Hist kvs ((standsOf (manysOf l)).map (maskOf l (TsOf [] w)))) {F : List Word} (nd : F.Nodup) (mem : ∀ u, u ∈ F ↔ InAll u (manysOf l) ∧ leadsT l u (meetsW w)) :
    (look kvs 1).getD 0 = F.length := by
  rw [look_count h, count_map]
  refine ((List.perm_ext_iff_of_nodup ((stands_nodup _).filter _) nd).mpr fun u => ?_).length_eq
  rw [List.mem_filter, decide_eq_true_eq, top_mask, stands_mem, mem]
end Wb

set_option Elab.async false
set_option linter.all false
set_option maxRecDepth 100000
set_option maxHeartbeats 8000000
set_option pp.maxSteps 900
set_option pp.deepTerms false
namespace Wb
open PySem PySem.Spec PyProof.Rows L2
/-! ### the class Reach -/
abbrev cReach : Stmt := topS 40
abbrev rS (i : Nat) : Stmt := (clsBody cReach).getD i (.Pass ⟨0, 0, 0, 0⟩)
abbrev sRInit : Stmt := rS 0
abbrev nRInit : List Str := ["self", "lock", "wish", "words", "below", "k", "_", "gaps", "numbers", "moves", "stops", "floor", "bolt", "number", "word", "here", "there", "ways", "way", "place"]
theorem scRInit : FnScope nRInit ["self", "lock", "wish"] (defScope sRInit) := ⟨rfl, rfl, rfl, by decide +kernel, rfl, by decide +kernel, by decide +kernel⟩
abbrev sCount : Stmt := rS 2
abbrev nCount : List Str := ["self", "counts", "floor", "many", "above", "reach", "place", "behind"]
theorem scCount : FnScope nCount ["self"] (defScope sCount) := ⟨rfl, rfl, rfl, by decide +kernel, rfl, by decide +kernel, by decide +kernel⟩
structure RcC (K : PySem.W.Frag) (mg : Str → Option Value) where
  C : Addr
  cl : Cls K C
  nm : NoAttr K C "manys"
  nf : NoAttr K C "floors"
  ng : NoAttr K C "ground"
  g : mg "Reach" = some (.ref C)
  f0 : Addr
  d0 : FuncData
  F0 : Fun K "__init__" "Reach.__init__" sRInit f0 d0
  b0 : Binds K d0 ["self", "lock", "wish"] []
  M : Mk K C f0
  f2 : Addr
  d2 : FuncData
  F2 : Fun K "stand_count" "Reach.stand_count" sCount f2 d2
  b2 : Binds K d2 ["self"] []
  m2 : Meth K C "stand_count" f2
/-- the floor of bolt k -/
def FloorK (CF : Addr) (H : Hp) (l : Lock) (ws : Nat → List Word) (w : List (Option Int)) (k : Nat) (fl : Addr) : Prop := ∃ (b : Bolt) (o : Option Int) (A : List Nat), l[k]? = some b ∧ w[k]? = some o ∧
  FlDone CF H fl (RsOf (l.take k) (ws k) (w.take k)) (msOf b (ws k)) (endsOf (ws k) (ws (k + 1)) o) A ∧ A.length = (msOf b (ws k)).length ∧ ∀ a y, A[a]? = some y → AfterIs (endsOf (ws k) (ws (k + 1)) o) (msOf b (ws k)) (RsOf (l.take k) (ws k) (w.take k)) a y
/-- words of all levels, none behind the last -/
structure Levels (l : Lock) (ws : Nat → List Word) : Prop where
  zero : ∀ u ∈ ws 0, u = []
  len : ∀ k, k ≤ l.length → ∀ u ∈ ws k, u.length = k
  down : ∀ k, k < l.length → ∀ u ∈ ws (k + 1), u.dropLast ∈ ws k
  ways : ∀ (k : Nat) (b : Bolt), l[k]? = some b → ∀ g ∈ b.gaps, ∀ u ∈ g.ways, u ∈ ws k
  top : ws l.length = []
structure ReachAt (CF C : Addr) (H : Hp) (rc : Addr) (l : Lock) (ws : Nat → List Word) (w : List (Option Int)) : Prop where
  at_ : ∃ (dx lm lf : Addr) (fls : List Addr), H rc = some (.ins C dx [("manys", V.ref lm), ("floors", V.ref lf), ("ground", V.int ((2 ^ ((ws 0).length + 1) - 1 : Nat) : Int))]) ∧ H lm = some (.lst ((manysOf l).map V.int)) ∧ H lf = some (.lst (fls.map V.ref)) ∧ fls.length = l.length ∧ ∀ (k : Nat) (fl : Addr), fls[k]? = some fl → FloorK CF H l ws w k fl
def cntK (n : Nat) : L2.Key := Sum.inl (n : Int)
theorem cntK_inj (a b : Nat) (h : cntK a = cntK b) : a = b := Int.ofNat.inj (Sum.inl.inj h)
def newC (G : Nat → Int → Nat) (pl : List Int) (kvs : List (Nat × Nat)) : List Nat := kvs.flatMap fun q => pl.flatMap fun p => List.replicate q.2 (G q.1 p)
theorem newC_snoc (G : Nat → Int → Nat) (pl : List Int) {kvs : List (Nat × Nat)} {j : Nat} {p : Nat × Nat} (h : kvs[j]? = some p) : newC G pl (kvs.take (j + 1)) = newC G pl (kvs.take j) ++ pl.flatMap fun x => List.replicate p.2 (G p.1 x) := by
  unfold newC
  rw [take_succ_get h, List.flatMap_append, List.flatMap_cons, List.flatMap_nil, List.append_nil]
theorem newC_len (G : Nat → Int → Nat) (pl : List Int) {kvs : List (Nat × Nat)} {j : Nat} {p : Nat × Nat} (h : kvs[j]? = some p) (t : Nat) :
    (newC G pl (kvs.take j) ++ (pl.take t).flatMap fun x => List.replicate p.2 (G p.1 x)).length ≤ (newC G pl kvs).length := by
  have e1 : newC G pl kvs = newC G pl (kvs.take (j + 1)) ++ newC G pl (kvs.drop (j + 1)) := by
    conv => lhs; rw [← List.take_append_drop (j + 1) kvs]
    unfold newC
    exact List.flatMap_append
  have e2 : pl.flatMap (fun x => List.replicate p.2 (G p.1 x)) = (pl.take t).flatMap (fun x => List.replicate p.2 (G p.1 x)) ++ (pl.drop t).flatMap fun x => List.replicate p.2 (G p.1 x) := by
    rw [← List.flatMap_append, List.take_append_drop]
  rw [e1, newC_snoc G pl h, e2]
  simp only [List.length_append]
  omega
theorem look_mem {α : Type} [DecidableEq α] {kvs : List (α × Nat)} (nd : (kvs.map (·.1)).Nodup) {p : α × Nat} (hp : p ∈ kvs) : look kvs p.1 = some p.2 := by
  induction kvs with
  | nil => cases hp
  | cons q r ih =>
    rw [List.map_cons, List.nodup_cons] at nd
    unfold look
    rcases List.mem_cons.mp hp with rfl | hp
    · rw [List.find?_cons_of_pos (by simp)]
      rfl
    · rw [List.find?_cons_of_neg (by simp only [decide_eq_true_eq]; exact fun e => nd.1 (by rw [e]; exact List.mem_map.mpr ⟨p, hp, rfl⟩))]
      exact ih nd.2 hp
theorem plc_get {m : Int} {i : Nat} (h : i < m.toNat) : (plc m)[i]? = some (i : Int) := by
  unfold plc
  rw [List.getElem?_map, List.getElem?_range h]
  rfl
theorem plc_len (m : Int) : (plc m).length = m.toNat := by
  unfold plc
  rw [List.length_map, List.length_range]
def spCount (CF C : Addr) : Sp := fun vs H Q _ => ∃ (rc : Addr) (l : Lock) (ws : Nat → List Word) (w : List (Option Int)), vs = [.ref rc] ∧ ReachAt CF C H rc l ws w ∧ Levels l ws ∧ w.length = l.length ∧ LkS l ∧
  ∀ H' kvs, Evl.Ex H H' → Hist kvs ((standsOf (manysOf l)).map (maskOf l (TsOf [] w))) → Q (.int ((look kvs 1).getD 0 : Nat)) H'
section
variable {P : Program} {w : World} {K : PySem.W.Frag} {mg : Str → Option Value} {base : Heap}
theorem ok_count (F : FlC K mg) (R : RcC K mg) (B : Bi mg) : FnOk P w K mg base CX0 3 R.f2 R.d2 ["self"] (spCount F.C R.C) := by
  have G4 : FnOk P w K mg base CX0 2 F.f4 F.d4 ["self", "reach", "place"] (spReachOf F.C) := ok_reachOf F B
  refine R.F2.ok scCount (fun vs H Q E h => ?_) (fun cdv A' outer s H vs Q E hr h => ?_)
  · obtain ⟨rc, l, ws, w, rfl, _⟩ := h; rfl
  · obtain ⟨rc, l, ws, w, rfl, ra, lv, wl, lk, q⟩ := h
    have hu := hu_of hr
    refine ⟨_, (Evl.pss_cut (ps_set (i := 1) scCount.nd rfl (.inl rfl) (pe_disp (pps_cons (pe_fld (pv 0) rfl) pe_int pps_nil) rfl rfl (by decide) (by decide)))
      (pss_cons (ps_for PassesOwn.never rfl (pi_zip (by rfl) B.zip (pa_cons (pe_fld (pv 0) rfl) (pa_cons (pe_fld (pv 0) rfl) pa_nil))) (pg_tup rfl (pgs_cons (pg_name (i := 2) scCount.nd rfl (.inl rfl)) (pgs_cons (pg_name (i := 3) scCount.nd rfl (.inl rfl)) pgs_nil)))
        (Evl.pss_cut (ps_set (i := 4) scCount.nd rfl (.inl rfl) pe_dnewK)
        (pss_cons (ps_lock (ps_for PassesOwn.never rfl (pi_keys (pv 1)) (pg_name (i := 5) scCount.nd rfl (.inl rfl))
          (pss_one (ps_for PassesOwn.never rfl (pi_range1 (by rfl) B.range (pa_cons (pv 3) pa_nil)) (pg_name (i := 6) scCount.nd rfl (.inl rfl))
            (Evl.pss_cut (ps_set (i := 7) scCount.nd rfl (.inl rfl) (pe_meth (pv 2) F.cl F.m4 G4 hr F.b4 .nil pass0 (pa_cons (pv 5) (pa_cons (pv 6) pa_nil))))
            (pss_one (ps_dput hu (pv 4) (pv 7) (pe_op op_add (pe_dget2 hu (pv 4) (pv 7) pe_int ⟨rfl, rfl, rfl, rfl⟩) (pe_dget hu (pv 1) (pv 5) (fun _ _ => rfl))) rfl)))))))
        (pss_one (ps_set (i := 1) scCount.nd rfl (.inl rfl) (pv 4))))))
      (pss_one (ps_ret (pe_dget2 hu (pv 1) pe_int pe_int ⟨rfl, rfl, rfl, rfl⟩))))), ?_⟩
    obtain ⟨dx, lm, lf, fls, hrc, hlm, hlf, fll, hfl⟩ := ra.at_
    have cnt192 : ∀ i, i ≤ l.length → (standsOf (manysOf (l.take i))).length ≤ 96 := fun i hi => many96 (lks_take lk i) (stands_nodup _) fun u hu => (stands_mem _ u).mp hu
    refine ⟨fun σ H1 => ∃ (D : Addr) (kvs : List (Nat × Nat)), σ = [some (.ref rc), some (.ref D), none, none, none, none, none, none] ∧ H D = none ∧ Evl.Ex H H1 ∧ H1 D = some (.dK (encD cntK kvs)) ∧ Hist kvs ((standsOf (manysOf (l.take 0))).map (maskOf (l.take 0) (TsOf (ws 0) (w.take 0)))), ?_, ?_⟩
    · intro D nD
      have e1 : Evl.Ex H (upd H D (.dK [])) := Evl.Ex.new nD
      refine ⟨.ref rc, rfl, rc, R.C, dx, _, _, rfl, e1 _ _ hrc, R.cl, R.ng, rfl, upd_same, [(.inl ((2 ^ ((ws 0).length + 1) - 1 : Nat) : Int), .int 1)], rfl, (show 1 ≤ 15 by decide), D, [(2 ^ ((ws 0).length + 1) - 1, 1)], rfl, nD, e1.mut nD, upd_same, ?_⟩
      rw [List.take_zero, List.take_zero]
      have z : (standsOf (manysOf [])).map (maskOf [] (TsOf (ws 0) [])) = [2 ^ ((ws 0).length + 1) - 1] := by
        show [maskOf [] (TsOf (ws 0) []) []] = _
        rw [ground_mask (ws 0) lv.zero]
      rw [z]
      exact ⟨by simp, fun p hp => by rw [List.mem_singleton.mp hp]; exact Nat.le_refl 1, List.Perm.refl _⟩
    rintro _ H1 ⟨D0, kvs0, rfl, nD0, e1, hD1, h0⟩
    have hrc1 := e1 _ _ hrc
    refine ⟨.ref rc, rfl, rc, R.C, dx, _, _, rfl, hrc1, R.cl, R.nf, rfl, .ref rc, rfl, rc, R.C, dx, _, _, rfl, hrc1, R.cl, R.nm, rfl, lf, lm, _, _, rfl, SqL.of (e1 _ _ hlf), SqL.of (e1 _ _ hlm), ?_⟩
    have mlen : ((manysOf l).map V.int).length = l.length := by unfold manysOf; rw [List.length_map, List.length_map]
    have flen : (fls.map V.ref).length = l.length := by rw [List.length_map, fll]
    refine for_it (walk_zip (K := K) (a := lf) (b := lm) (xs := fls.map V.ref) (ys := (manysOf l).map V.int) (n := l.length) (by rw [mlen, flen, Nat.min_self])) (fun i σ H' => ∃ (D : Addr) (kvs : List (Nat × Nat)) (y2 y3 y4 y5 y6 y7 : Option V), σ = [some (.ref rc), some (.ref D), y2, y3, y4, y5, y6, y7] ∧ H D = none ∧ Evl.Ex H H' ∧ H' D = some (.dK (encD cntK kvs)) ∧ Hist kvs ((standsOf (manysOf (l.take i))).map (maskOf (l.take i) (TsOf (ws i) (w.take i)))))
      ⟨D0, kvs0, none, none, none, none, none, none, rfl, nD0, e1, hD1, h0⟩ ?_ ?_ ?_
    · rintro i σ H' _ ⟨_, _, _, _, _, _, _, _, _, _, e, _⟩
      exact ⟨SqL.of (e _ _ hlf), SqL.of (e _ _ hlm)⟩
    · rintro i x σ H2 H2' hi ⟨D, kvs, y2, y3, y4, y5, y6, y7, rfl, nD, e2, hD2, hist⟩ ⟨T, x1, x2, rfl, nT, rfl, ex1, ey1⟩
      obtain ⟨fl, hfi, rfl⟩ : ∃ fl, fls[i]? = some fl ∧ x1 = .ref fl := by
        have z : (fls.map V.ref)[i]? = some x1 := ex1
        rw [List.getElem?_map] at z
        cases y : fls[i]? with
        | none => rw [y] at z; cases z
        | some d => rw [y] at z; exact ⟨d, rfl, (Option.some.inj z).symm⟩
      obtain ⟨b, o, A, hb, ho, fd, al, ha⟩ := hfl i fl hfi
      obtain rfl : V.int b.many = x2 := by
        have z : ((manysOf l).map V.int)[i]? = some x2 := ey1
        unfold manysOf at z
        rw [List.getElem?_map, List.getElem?_map, hb] at z
        exact Option.some.inj z
      have many := (lk.goes b (List.mem_of_getElem? hb)).1
      have e3 := Evl.Ex.new (o := .tup [.ref fl, .int b.many]) nT
      have gT : (upd H2 T (.tup [.ref fl, .int b.many])) T = some (.tup [.ref fl, .int b.many]) := upd_same
      generalize upd H2 T (.tup [.ref fl, .int b.many]) = H3 at e3 gT
      have e03 := e2.trans e3
      refine ⟨T, _, rfl, .inl (.inl gT), rfl, _, _, rfl, _, _, rfl, rfl, ?_⟩
      refine ⟨fun σ' H' => ∃ Da, σ' = [some (.ref rc), some (.ref D), some (.ref fl), some (.int b.many), some (.ref Da), y5, y6, y7] ∧ H3 Da = none ∧ Evl.Ex H3 H' ∧ H' Da = some (.dK (encD cntK [])), fun Da nDa => ⟨Da, rfl, nDa, Evl.Ex.new nDa, upd_same⟩, ?_⟩
      rintro _ H4 ⟨Da, rfl, nDa3, e4, hDa4⟩
      have nDa : H Da = none := Evl.fresh_back e03 nDa3
      have hD4 := (e3.trans e4) _ _ hD2
      have nDD : D ≠ Da := fun z => by rw [← z, e3 _ _ hD2] at nDa3; cases nDa3
      refine ⟨D, .dK (encD cntK kvs), hD4, True.intro, fun od => ?_⟩
      have hL : (upd H4 D (.frz od (.dK (encD cntK kvs)))) D = some (.frz od (.dK (encD cntK kvs))) := upd_same
      have hDaL : (upd H4 D (.frz od (.dK (encD cntK kvs)))) Da = some (.dK (encD cntK [])) := by rw [upd_ne nDD.symm]; exact hDa4
      have eL : Evl.Ex H (upd H4 D (.frz od (.dK (encD cntK kvs)))) := (e03.trans e4).mut nD
      generalize upd H4 D (.frz od (.dK (encD cntK kvs))) = HL at hL hDaL eL
      have kl : (encD cntK kvs).length = kvs.length := by unfold encD; rw [List.length_map]
      have step := count_step (G := ofN (endsOf (ws i) (ws (i + 1)) o) (msOf b (ws i)) A) (m := b.many) (r' := maskOf (l.take (i + 1)) (TsOf (ws (i + 1)) (w.take (i + 1)))) hist (fun u hu p hp => by
        rw [take_succ_get hb, take_succ_get ho]
        have tl : (l.take i).length = i := by rw [List.length_take]; omega
        refine floor_mask (lv.ways i b hb) (fun v hv => by rw [tl]; exact lv.len i (by omega) v hv) (fun v hv => ⟨fun z => ?_, lv.down i hi v hv⟩) al ha ?_ p
        · have := lv.len (i + 1) (by omega) v hv
          rw [z] at this
          cases this
        · have := ((stands_mem _ u).mp hu).1
          unfold manysOf at this
          rwa [List.length_map] at this)
      have e_cross : crossW (standsOf (manysOf (l.take i))) (plc b.many) = standsOf (manysOf (l.take (i + 1))) := by
        rw [take_succ_get hb, show manysOf (l.take i ++ [b]) = manysOf (l.take i) ++ [b.many] by unfold manysOf; rw [List.map_append]; rfl, stands_snoc]
      rw [e_cross] at step
      have tot : (newC (ofN (endsOf (ws i) (ws (i + 1)) o) (msOf b (ws i)) A) (plc b.many) kvs).length ≤ 96 := by
        have h1 := step.length_eq
        rw [List.length_map] at h1
        have h2 := cnt192 (i + 1) (by omega)
        exact Nat.le_trans (Nat.le_of_eq h1) h2
      refine ⟨.ref D, rfl, D, od, rfl, .inl ⟨_, hL, ?_⟩⟩
      refine for_it (walk_keys (kvs := encD cntK kvs) (d := D) (o := od)) (fun j σ H' => ∃ (acc : List (Nat × Nat)) (y5 y6 y7 : Option V), σ = [some (.ref rc), some (.ref D), some (.ref fl), some (.int b.many), some (.ref Da), y5, y6, y7] ∧ Evl.Ex H H' ∧ H' D = some (.frz od (.dK (encD cntK kvs))) ∧ H' Da = some (.dK (encD cntK acc)) ∧ Hist acc (newC (ofN (endsOf (ws i) (ws (i + 1)) o) (msOf b (ws i)) A) (plc b.many) (kvs.take j)))
        ⟨[], y5, y6, y7, rfl, eL, hL, hDaL, by rw [List.take_zero]; exact Hist.nil⟩ ?_ ?_ ?_
      · rintro j σ H' _ ⟨_, _, _, _, _, _, h, _⟩
        exact h
      · rintro j v σ H5 H5' hj ⟨acc, y5, y6, y7, rfl, e5, hD5, hDa5, h5⟩ ⟨rfl, kk, vv, hkv, rfl⟩
        rw [kl] at hj
        obtain ⟨pr, hpr⟩ : ∃ pr, kvs[j]? = some pr := ⟨_, List.getElem?_eq_getElem hj⟩
        obtain ⟨x, c⟩ := pr
        obtain ⟨rfl, rfl⟩ : cntK x = kk ∧ V.int (c : Nat) = vv := by
          unfold encD at hkv
          rw [List.getElem?_map, hpr] at hkv
          have := Option.some.inj hkv
          exact ⟨congrArg Prod.fst this, congrArg Prod.snd this⟩
        have cpos : 1 ≤ c := hist.pos _ (List.mem_of_getElem? hpr)
        refine ⟨.int b.many, rfl, b.many, rfl, by omega, by omega, ?_⟩
        refine for_range (lo := 0) (n := b.many.toNat) (fun t σ H' => ∃ (acc : List (Nat × Nat)) (y6 y7 : Option V), σ = [some (.ref rc), some (.ref D), some (.ref fl), some (.int b.many), some (.ref Da), some (.int (x : Nat)), y6, y7] ∧ Evl.Ex H H' ∧ H' D = some (.frz od (.dK (encD cntK kvs))) ∧ H' Da = some (.dK (encD cntK acc)) ∧ Hist acc (newC (ofN (endsOf (ws i) (ws (i + 1)) o) (msOf b (ws i)) A) (plc b.many) (kvs.take j) ++ ((plc b.many).take t).flatMap fun p => List.replicate c (ofN (endsOf (ws i) (ws (i + 1)) o) (msOf b (ws i)) A x p)))
          ⟨acc, y6, y7, rfl, e5, hD5, hDa5, by rw [List.take_zero, List.flatMap_nil, List.append_nil]; exact h5⟩ ?_ ?_
        · rintro t σ H6 ht ⟨acc, y6, y7, rfl, e6, hD6, hDa6, h6⟩
          have z0 : (0 : Int) + (t : Nat) = (t : Int) := by omega
          rw [z0]
          refine ⟨fun σ' H' => σ' = [some (.ref rc), some (.ref D), some (.ref fl), some (.int b.many), some (.ref Da), some (.int (x : Nat)), some (.int (t : Int)), some (.int (ofN (endsOf (ws i) (ws (i + 1)) o) (msOf b (ws i)) A x (t : Int) : Nat))] ∧ Evl.Ex H6 H', ?_, ?_⟩
          · have fd6 := fd.ex e6
            obtain ⟨dxf, fsf, lbf, lmf, lef, laf, mvf, evf, faf, _⟩ := fd6.at_
            exact ⟨.ref fl, rfl, fl, dxf, fsf, rfl, faf.obj, faf.n4, .int (x : Nat), rfl, .int (t : Int), rfl, fl, _, _, _, A, x, (t : Int), rfl, fd6, al, fun H7 e7 => ⟨rfl, e7⟩⟩
          rintro _ H7 ⟨rfl, e7⟩
          have hD7 := e7 _ _ hD6
          have hDa7 := e7 _ _ hDa6
          generalize hg : ofN (endsOf (ws i) (ws (i + 1)) o) (msOf b (ws i)) A x (t : Int) = gx
          have gv : (valV (encD cntK acc) (cntK gx)).getD (.int 0) = .int (((look acc gx).getD 0 : Nat) : Int) := by
            rw [encD_val cntK_inj]
            cases look acc gx <;> rfl
          have cv : valV (encD cntK kvs) (cntK x) = some (.int (c : Nat)) := by
            rw [encD_val cntK_inj, look_mem hist.nd (List.mem_of_getElem? hpr)]
            rfl
          refine ⟨.ref Da, rfl, Da, rfl, .inl ⟨_, .inl hDa7⟩, .int (gx : Nat), rfl, valV (encD cntK acc) (cntK gx), DGet.k hDa7 (k := cntK gx), ?_⟩
          rw [gv]
          refine ⟨.ref D, rfl, .int (x : Nat), rfl, D, .int (c : Nat), rfl, .inl ⟨_, cntK x, .inr ⟨od, hD7⟩, rfl, cv.symm⟩, (((look acc gx).getD 0 : Nat) : Int), (c : Nat), rfl, rfl, ?_⟩
          have ei : ((((look acc gx).getD 0 : Nat) : Int) + ((c : Nat) : Int)) = (((look acc gx).getD 0 + c : Nat) : Int) := (Int.natCast_add _ _).symm
          have dput : DPut H7 Da (.int (gx : Nat)) (.int ((((look acc gx).getD 0 : Nat) : Int) + ((c : Nat) : Int))) (upd H7 Da (.dK (encD cntK (addN acc gx c)))) := by
            rw [ei, ← encD_put cntK_inj]
            refine DPut.k hDa7 (k := cntK gx) (Nat.lt_of_le_of_lt ?_ (by decide : 96 < sizeLine))
            have h1 := h6.len
            have h2 := newC_len (ofN (endsOf (ws i) (ws (i + 1)) o) (msOf b (ws i)) A) (plc b.many) hpr t
            unfold encD
            rw [List.length_map]
            exact Nat.le_trans h1 (Nat.le_trans h2 tot)
          refine ⟨.ref Da, rfl, .int (gx : Nat), rfl, Da, _, rfl, dput, ?_⟩
          refine ⟨addN acc gx c, _, _, rfl, (e6.trans e7).mut nDa, by rw [upd_ne nDD]; exact hD7, upd_same, ?_⟩
          rw [take_succ_get (plc_get ht), List.flatMap_append, List.flatMap_cons, List.flatMap_nil, List.append_nil, ← List.append_assoc, hg]
          exact h6.add _ cpos
        · rintro σ H6 ⟨acc, y6, y7, rfl, e6, hD6, hDa6, h6⟩
          rw [← plc_len, List.take_length, ← newC_snoc _ _ hpr] at h6
          exact ⟨acc, _, _, _, rfl, e6, hD6, hDa6, h6⟩
      · rintro σ H5 ⟨acc, y5, y6, y7, rfl, e5, hD5, hDa5, h5⟩
        rw [kl, List.take_length] at h5
        refine ⟨hD5, .ref Da, rfl, ?_⟩
        exact ⟨Da, acc, _, _, _, _, _, _, rfl, nDa, e5.mut nD, by rw [upd_ne nDD.symm]; exact hDa5, h5.perm step⟩
    · rintro σ H2 ⟨D, kvs, y2, y3, y4, y5, y6, y7, rfl, nD, e2, hD2, hist⟩
      have wt : w.take l.length = w := by rw [← wl, List.take_length]
      rw [List.take_length, lv.top, wt] at hist
      have gv : (valV (encD cntK kvs) (cntK 1)).getD (.int 0) = .int (((look kvs 1).getD 0 : Nat) : Int) := by
        rw [encD_val cntK_inj]
        cases look kvs 1 <;> rfl
      refine ⟨.ref D, rfl, D, rfl, .inl ⟨_, .inl hD2⟩, valV (encD cntK kvs) (cntK 1), DGet.k hD2 (k := cntK 1), ?_⟩
      rw [gv]
      exact q H2 kvs e2 hist
end
end Wb

set_option Elab.async false
set_option linter.all false
set_option maxRecDepth 100000
set_option maxHeartbeats 4000000
namespace Wb
open PySem PySem.Spec PyProof.Rows L2
/-! ### the words of all levels -/
def WsFor (l : Lock) (ws : Nat → List Word) : Prop := (∀ k, k < l.length → WordsAt l k (ws k)) ∧ ∀ k, l.length ≤ k → ws k = []
section
variable {l : Lock} {ws : Nat → List Word}
theorem WsFor.nodup (h : WsFor l ws) (k : Nat) : (ws k).Nodup := by
  by_cases c : k < l.length
  · exact (h.1 k c).1
  · rw [h.2 k (by omega)]; exact List.nodup_nil
theorem WsFor.few (ok : LockOk l) (h : WsFor l ws) (k : Nat) : (ws k).length ≤ 8 := by
  by_cases c : k < l.length
  · exact ok.words k _ c (h.1 k c).1 fun u hu => ((h.1 k c).2 u).mp hu
  · rw [h.2 k (by omega)]; exact Nat.zero_le _
theorem levels_of (ok : LockOk l) (h : WsFor l ws) : Levels l ws := by
  have len : ∀ k, k ≤ l.length → ∀ u ∈ ws k, u.length = k := fun k hk u hu => by
    by_cases c : k < l.length
    · exact (cut_small ok (((h.1 k c).2 u).mp hu)).2
    · rw [h.2 k (by omega)] at hu; cases hu
  refine ⟨fun u hu => List.eq_nil_of_length_eq_zero (len 0 (Nat.zero_le _) u hu), len, fun k hk u hu => ?_, fun k b hb g hg u hu => ?_, h.2 _ (Nat.le_refl _)⟩
  · have ul := len (k + 1) (by omega) u hu
    by_cases c : k + 1 < l.length
    · obtain ⟨j, b, g, u0, h1, h2, h3, h4, h5⟩ := ((h.1 _ c).2 u).mp hu
      refine ((h.1 k hk).2 _).mpr ⟨j, b, g, u0, by omega, h2, h3, h4, ?_⟩
      rw [List.dropLast_eq_take, ul, h5, List.take_take]
      congr 1
      omega
    · rw [h.2 _ (by omega)] at hu; cases hu
  · have kl := (List.getElem?_eq_some_iff.mp hb).1
    exact ((h.1 k kl).2 u).mpr ((cuts_step ok hb u).mpr (.inr ⟨g, hg, hu⟩))
end
/-- lists of the words -/
structure Rows (K : PySem.W.Frag) (H : Hp) (W : Addr) (n : Nat) (ws : Nat → List Word) : Prop where
  at_ : ∃ rs : List Addr, H W = some (.lst (rs.map V.ref)) ∧ rs.length = n + 1 ∧ ∀ (k : Nat) (r : Addr), rs[k]? = some r → RowAt K H r (ws k)
theorem Rows.ex {K : PySem.W.Frag} {H H' : Hp} (e : Evl.Ex H H') {W : Addr} {n : Nat} {ws : Nat → List Word} (h : Rows K H W n ws) : Rows K H' W n ws := by
  obtain ⟨rs, h1, h2, h3⟩ := h.at_
  exact ⟨rs, e _ _ h1, h2, fun k r hk => (h3 k r hk).ex e⟩
theorem Rows.row {K : PySem.W.Frag} {H : Hp} {W : Addr} {n : Nat} {ws : Nat → List Word} (h : Rows K H W n ws) {k : Nat} (hk : k ≤ n) : ∃ (rs : List Addr) (r : Addr) (us : List V), H W = some (.lst (rs.map V.ref)) ∧ (rs.map V.ref)[k]? = some (.ref r) ∧ H r = some (.lst us) ∧ Paired (Wd K H) us (ws k) := by
  obtain ⟨rs, h1, h2, h3⟩ := h.at_
  obtain ⟨r, hr⟩ : ∃ r, rs[k]? = some r := ⟨_, List.getElem?_eq_getElem (by omega)⟩
  obtain ⟨us, hu, hp⟩ := h3 k r hr
  exact ⟨rs, r, us, h1, by rw [List.getElem?_map, hr]; rfl, hu, hp⟩
/-- the words' numbers, as a dict -/
def numF (us : List Word) (n : Nat) : List (List Key × V) := (us.zipIdx n).map fun p => (keyW p.1, V.int (p.2 : Nat))
abbrev numD (us : List Word) : List (List Key × V) := numF us 0
theorem num_val {u : Word} : ∀ (us : List Word) (n : Nat), u ∈ us → valV (numF us n) (keyW u) = some (V.int ((idxW us u + n : Nat) : Int))
  | [], _, h => nomatch h
  | x :: us, n, h => by
    by_cases c : x = u
    · subst c
      have z : idxW (x :: us) x = 0 := by unfold idxW; exact List.idxOf_cons_self
      rw [z, Nat.zero_add]
      exact valV_pos rfl
    · have hm : u ∈ us := (List.mem_cons.mp h).resolve_left fun z => c z.symm
      have ne : ¬ keyW x = keyW u := fun e => c (keyW_inj e)
      have z1 : valV (numF (x :: us) n) (keyW u) = valV (numF us (n + 1)) (keyW u) := valV_neg ne
      have z2 : idxW (x :: us) u = idxW us u + 1 := by
        unfold idxW
        rw [List.idxOf_cons, beq_false_of_ne c]
        rfl
      rw [z1, num_val us (n + 1) hm, z2]
      congr 3
      omega
theorem num_len (us : List Word) (n : Nat) : (numF us n).length = us.length := by
  unfold numF
  rw [List.length_map, List.length_zipIdx]
theorem num_put {us : List Word} {u : Word} (h : u ∉ us) : putK (numD us) (keyW u) (V.int (us.length : Nat)) = numD (us ++ [u]) := by
  have na : ((numD us).any fun kv => decide (kv.1 = keyW u)) = false := by
    rw [List.any_eq_false]
    intro kv hkv
    obtain ⟨p, hp, rfl⟩ := List.mem_map.mp hkv
    rw [decide_eq_true_eq]
    intro e
    have := List.fst_mem_of_mem_zipIdx hp
    rw [keyW_inj e] at this
    exact h this
  unfold putK
  rw [na, if_neg Bool.false_ne_true]
  show numF us 0 ++ [(keyW u, V.int (us.length : Nat))] = numF (us ++ [u]) 0
  unfold numF
  rw [List.zipIdx_append, List.map_append]
  simp
/-- the heap without one address -/
def hid (H : Hp) (a : Addr) : Hp := fun c => if c = a then none else H c
theorem hid_ex (H : Hp) (a : Addr) : Evl.Ex (hid H a) H := fun b o h => by
  unfold hid at h
  by_cases c : b = a
  · rw [if_pos c] at h; cases h
  · rwa [if_neg c] at h
theorem hid_at {H : Hp} {a b : Addr} {o : HO} (n : b ≠ a) (h : H b = some o) : hid H a b = some o := by
  unfold hid
  rw [if_neg n]; exact h
end Wb

set_option Elab.async false
set_option linter.all false
set_option maxRecDepth 100000
set_option maxHeartbeats 8000000
set_option pp.maxSteps 900
set_option pp.deepTerms false
namespace Wb
open PySem PySem.Spec PyProof.Rows L2
/-! ### Reach.__init__ -/
abbrev ownMv : List (Str × Nat) := [("here", 15), ("there", 16), ("_", 6), ("ways", 17), ("way", 18)]
abbrev tMv : TE := tTup (tCons (tDGet (tVar 8) (tVar 18)) (tCons (tVar 15) (tCons (tVar 16) tNil)))
abbrev tStop (K : PySem.W.Frag) : TE := tTup (tCons (tDGet (tVar 8) (tSl (rSlA K) (tVar 14) tNoPart (tPart (tVar 5)))) (tCons (tOp (rIxT K) (tVar 14) (tVar 5)) tNil))
theorem tx_keep {K : PySem.W.Frag} {H H' : Hp} {rc C dx : Addr} {fs : List (Str × V)} (hr : H rc = some (.ins C dx fs)) (k : ∀ b o, b ≠ rc → H b = some o → H' b = some o) : TX K H H' := by
  refine ⟨fun a xs h => ?_, fun a xs h => k a _ (ne_of h hr (fun z => nomatch z)) h⟩
  rcases h with (h | h) | h
  · exact .inl (.inl (k a _ (ne_of h hr (fun z => nomatch z)) h))
  · obtain ⟨o, h⟩ := h
    exact .inl (.inr ⟨o, k a _ (ne_of h hr (fun z => nomatch z)) h⟩)
  · exact .inr h
theorem rs_ground (ws : List Word) (h : ∀ u ∈ ws, u = []) : RsOf [] ws [] = List.replicate ws.length (2 ^ (ws.length + 1) - 1) := by
  unfold RsOf
  refine List.eq_replicate_iff.mpr ⟨List.length_map _, fun b hb => ?_⟩
  obtain ⟨u, hu, rfl⟩ := List.mem_map.mp hb
  rw [h u hu]
  exact ground_mask ws h
def mvG (ws : List Word) (g : Gap) : List NMv := g.ways.map fun u => (idxW ws u, g.frm, g.to_)
def SpT (H : Hp) (v : V) (s : Nat × Int) : Prop := ∃ t, v = .ref t ∧ H t = some (.tup [.int (s.1 : Nat), .int s.2])
theorem ex_hid {H H' : Hp} {a : Addr} (k : ∀ b o, b ≠ a → H b = some o → H' b = some o) : Evl.Ex (hid H a) (hid H' a) := fun b o h => by
  have nb : b ≠ a := fun z => by unfold hid at h; rw [if_pos z] at h; cases h
  exact hid_at nb (k b o nb (hid_ex H a _ _ h))
theorem FloorK.ex {CF : Addr} {H H' : Hp} (e : Evl.Ex H H') {l : Lock} {ws : Nat → List Word} {w : List (Option Int)} {k : Nat} {fl : Addr} (h : FloorK CF H l ws w k fl) : FloorK CF H' l ws w k fl := by
  obtain ⟨b, o, A, h1, h2, h3, h4, h5⟩ := h
  exact ⟨b, o, A, h1, h2, h3.ex e, h4, h5⟩
theorem ReachAt.ex {CF C : Addr} {H H' : Hp} (e : Evl.Ex H H') {rc : Addr} {l : Lock} {ws : Nat → List Word} {w : List (Option Int)} (h : ReachAt CF C H rc l ws w) : ReachAt CF C H' rc l ws w := by
  obtain ⟨dx, lm, lf, fls, h1, h2, h3, h4, h5⟩ := h.at_
  exact ⟨dx, lm, lf, fls, e _ _ h1, e _ _ h2, e _ _ h3, h4, fun k fl hk => (h5 k fl hk).ex e⟩
theorem ends_paired {H : Hp} {svs : List V} {st : List (Nat × Int)} (h : Paired (SpT H) svs st) {q : Addr} {n : Nat} {o : Option Int} (hq : H q = some (.tup [.int (n : Nat), oV o])) : Paired (EndT H) (svs ++ [.ref q]) (st.map (fun s => ((s.1, some s.2) : End)) ++ [(n, o)]) := by
  induction h with
  | nil => exact .cons ⟨q, rfl, hq⟩ .nil
  | cons r t ih =>
    obtain ⟨u, rfl, hu⟩ := r
    exact .cons ⟨u, rfl, hu⟩ ih
def spRInit (K : PySem.W.Frag) (CF C : Addr) : Sp := fun vs H Q _ => ∃ (rc dx wa : Addr) (v : V) (l : Lock) (w : List (Option Int)), vs = [.ref rc, v, .ref wa] ∧ H rc = some (.ins C dx []) ∧ LockAt K H v l ∧ LockOk l ∧ LkS l ∧ SqT K H wa (w.map oV) ∧ w.length = l.length ∧
  ∀ H' ws, (∀ b o, b ≠ rc → H b = some o → H' b = some o) → ReachAt CF C H' rc l ws w → Levels l ws → Q .non H'
section
variable {P : Program} {w : World} {K : PySem.W.Frag} {mg : Str → Option Value} {base : Heap}
theorem ok_rInit {f10 : Addr} {d10 : FuncData} (F10 : Fun K "words_of" "words_of" sWords f10 d10) (g10 : mg "words_of" = some (.ref f10)) (b10 : Binds K d10 ["lock"] []) (F : FlC K mg) (R : RcC K mg) (B : Bi mg) : FnOk P w K mg base CX0 5 R.f0 R.d0 ["self", "lock", "wish"] (spRInit K F.C R.C) := by
  have G10 : FnOk P w K mg base CX0 1 f10 d10 ["lock"] (spWords K) := ok_words F10 B
  have GI : FnOk P w K mg base CX0 3 F.f0 F.d0 ["self", "below", "moves", "ends"] (spFInit F.C) := ok_fInit F B
  have G4 : FnOk P w K mg base CX0 2 F.f4 F.d4 ["self", "reach", "place"] (spReachOf F.C) := ok_reachOf F B
  refine R.F0.ok scRInit (fun vs H Q E h => ?_) (fun cdv A' outer s H vs Q E hr h => ?_)
  · obtain ⟨rc, dx, wa, v, l, w, rfl, _⟩ := h; rfl
  · obtain ⟨rc, dx, wa, v, l, w, rfl, hrc, hl, ok, lk, hwa, wl, q⟩ := h
    have hu := hu_of hr
    have hr1 : Room 1 _ := hr.mono (by decide)
    have hr3 : Room 2 _ := hr.mono (by decide)
    have hr2 : Room 2 _ := hr.mono (by decide)
    refine ⟨_, (Evl.pss_cut (ps_set (i := 3) scRInit.nd rfl (.inl rfl) (pe_op op_cat (pe_call G10 hr1 (by rfl) g10 F10.kp b10 .nil pass0 (pa_cons (pv 1) pa_nil)) (pe_lst (pa_cons (pe_lst pa_nil) pa_nil))))
      (Evl.pss_cut (ps_fld (pv 0) (pe_lc (own := [("bolt", 12)]) (g := gName 12) (te := tOp (rIxT K) (tVar 12) (tC (V.int 0))) rfl scRInit.nd (pi_tup (pv 1)) (blkOk_by (own := [("bolt", 12)]) (N := nRInit) (sc := defScope sRInit) (by decide +kernel))
          (fun _ _ _ _ _ => pg_name (i := 12) scRInit.nd rfl (Or.inl rfl)) (fun _ _ _ _ _ => pts_nil) (fun _ _ _ _ _ => pe_ix (r := rIxT K) ix_tup (pv 12) pe_int (fun _ _ => rfl))) rfl)
      (pss_cons (ps_fld (pv 0) (pe_lst pa_nil) rfl)
      (Evl.pss_cut (ps_fld (pv 0) (pe_op op_sub (pe_op op_oneShl pe_int (pe_op op_add (pe_callB call_len_seq (by rfl) B.len PySem.boot_len (pa_cons (pe_ix ix_list (pv 3) pe_int (fun _ _ => rfl)) pa_nil)) pe_int)) pe_int) rfl)
      (Evl.pss_cut (ps_set (i := 4) scRInit.nd rfl (.inr rfl) (pe_lc (own := [("_", 6)]) (g := gName 6) (te := tFld K (tVar 0) "ground") rfl scRInit.nd (pi_list (pe_ix ix_list (pv 3) pe_int (fun _ _ => rfl))) (blkOk_by (own := [("_", 6)]) (N := nRInit) (sc := defScope sRInit) (by decide +kernel))
          (fun _ _ _ _ _ => pg_name (i := 6) scRInit.nd rfl (Or.inl rfl)) (fun _ _ _ _ _ => pts_nil) (fun _ _ _ _ _ => pe_fld (pv 0) rfl)))
      (pss_one (ps_for PassesOwn.never rfl (pi_enumT (by rfl) B.enum (pa_cons (pv 1) pa_nil)) (pg_tup rfl (pgs_cons (pg_name (i := 5) scRInit.nd rfl (.inr rfl)) (pgs_cons (pg_tup rfl (pgs_cons (pg_name (i := 6) scRInit.nd rfl (.inl rfl)) (pgs_cons (pg_name (i := 7) scRInit.nd rfl (.inl rfl)) pgs_nil))) pgs_nil)))
        (Evl.pss_cut (ps_set (i := 8) scRInit.nd rfl (.inr rfl) (pe_dcT (own := [("number", 13), ("word", 14)]) (g := gTup K 2 (gCons (gName 13) (gCons (gName 14) gNil))) (tk := tVar 14) (tv := tVar 13) hu rfl scRInit.nd (pi_enum (by rfl) B.enum (pa_cons (pe_ix ix_list (pv 3) (pv 5) (fun _ _ => rfl)) pa_nil)) (blkOk_by (own := [("number", 13), ("word", 14)]) (N := nRInit) (sc := defScope sRInit) (by decide +kernel))
          (fun _ _ _ _ _ => pg_tup rfl (pgs_cons (pg_name (i := 13) scRInit.nd rfl (Or.inl rfl)) (pgs_cons (pg_name (i := 14) scRInit.nd rfl (Or.inl rfl)) pgs_nil))) (fun _ _ _ _ _ => pts_nil) (fun _ _ _ _ _ => pv 14) (fun _ _ _ _ _ => pv 13)))
        (Evl.pss_cut (ps_setLc2 (i := 9) (own := ownMv) (vs1 := [18]) (g := gTup K 4 (gCons (gName 15) (gCons (gName 16) (gCons (gName 6) (gCons (gName 17) gNil))))) (g1 := gName 18) (wi1 := iTup K (tVar 17)) (te := tMv) rfl scRInit.nd rfl rfl rfl (pi_tup (pv 7)) (blkOk_by (own := ownMv) (N := nRInit) (sc := defScope sRInit) (by decide +kernel)) (by decide)
          (fun _ _ _ _ _ => pg_tup rfl (pgs_cons (pg_name (i := 15) scRInit.nd rfl (Or.inl rfl)) (pgs_cons (pg_name (i := 16) scRInit.nd rfl (Or.inl rfl)) (pgs_cons (pg_name (i := 6) scRInit.nd rfl (Or.inl rfl)) (pgs_cons (pg_name (i := 17) scRInit.nd rfl (Or.inl rfl)) pgs_nil))))) (fun _ _ _ _ _ => pts_nil)
          (fun _ _ _ _ _ => pi_tup (pv 17)) (fun _ _ _ _ _ => pg_name (i := 18) scRInit.nd rfl (Or.inl rfl)) (fun _ _ _ _ _ => pts_nil)
          (fun _ _ _ _ _ => pe_tup (pa_cons (pe_dget hu (pv 8) (pv 18) (fun _ _ => rfl)) (pa_cons (pv 15) (pa_cons (pv 16) pa_nil)))))
        (Evl.pss_cut (ps_setLc (i := 10) (own := [("word", 14)]) (g := gName 14) (te := tStop K) rfl scRInit.nd rfl rfl rfl (pi_list (pe_ix ix_list (pv 3) (pe_op op_add (pv 5) pe_int) (fun _ _ => rfl))) (blkOk_by (own := [("word", 14)]) (N := nRInit) (sc := defScope sRInit) (by decide +kernel))
          (fun _ _ _ _ _ => pg_name (i := 14) scRInit.nd rfl (Or.inl rfl)) (fun _ _ _ _ _ => pts_nil)
          (fun _ _ _ _ _ => pe_tup (pa_cons (pe_dget hu (pv 8) (pe_slice (r := rSlA K) sl_tupA (pv 14) po_none (po_some (pv 5))) (fun _ _ => rfl)) (pa_cons (pe_ix (r := rIxT K) ix_tup (pv 14) (pv 5) (fun _ _ => rfl)) pa_nil))))
        (Evl.pss_cut (ps_set (i := 11) scRInit.nd rfl (.inr rfl) (pe_make F.M GI hr (by rfl) F.g F.b0 .nil pass0 (pa_cons (pv 4) (pa_cons (pv 9) (pa_cons (pe_op op_cat (pv 10) (pe_lst (pa_cons (pe_tup (pa_cons (pe_callB call_len_seq (by rfl) B.len PySem.boot_len (pa_cons (pe_ix ix_list (pv 3) (pv 5) (fun _ _ => rfl)) pa_nil)) (pa_cons (pe_ix (r := rIxT K) ix_tup (pv 2) (pv 5) (fun _ _ => rfl)) pa_nil))) pa_nil))) pa_nil)))))
        (Evl.pss_cut (ps_expr (pe_bm PySem.F.plainAttrs_list PySem.F.slot_list_append PySem.F.type_list_append mt_append (pe_fld (pv 0) rfl) (pa_cons (pv 11) pa_nil)))
        (pss_one (ps_set (i := 4) scRInit.nd rfl (.inr rfl) (pe_lc (own := [("word", 14), ("place", 19)]) (g := gTup K 2 (gCons (gName 14) (gCons (gName 19) gNil))) (te := tMeth F.C "reach_of" (spReachOf F.C) [] E0 (tVar 11) (tCons (tOp (rIxL K) (tVar 4) (tVar 14)) (tCons (tVar 19) tNil))) rfl scRInit.nd (pi_list (pv 10)) (blkOk_by (own := [("word", 14), ("place", 19)]) (N := nRInit) (sc := defScope sRInit) (by decide +kernel))
          (fun _ _ _ _ _ => pg_tup rfl (pgs_cons (pg_name (i := 14) scRInit.nd rfl (Or.inl rfl)) (pgs_cons (pg_name (i := 19) scRInit.nd rfl (Or.inl rfl)) pgs_nil))) (fun _ _ _ _ _ => pts_nil)
          (fun _ _ _ _ _ => pe_meth (pv 11) F.cl F.m4 G4 hr2 F.b4 .nil pass0 (pa_cons (pe_ix ix_list (pv 4) (pv 14) (fun _ _ => rfl)) (pa_cons (pv 19) pa_nil)))))))))))))))))), ?_⟩
    have l60 := ok.n1
    have l1 := ok.n0
    refine ⟨fun σ H1 => ∃ (W : Addr) (ws : Nat → List Word), σ = [some (.ref rc), some v, some (.ref wa), some (.ref W), none, none, none, none, none, none, none, none, none, none, none, none, none, none, none, none] ∧ Evl.Ex H H1 ∧ WsFor l ws ∧ Rows K (hid H1 rc) W l.length ws, ?_, ?_⟩
    · refine ⟨v, rfl, v, l, rfl, hl, ok, fun H1 p rs e1 np hp rl hrs => ?_⟩
      refine ⟨Nat.zero_le _, fun e ne => ?_⟩
      have e2 := Evl.Ex.new (o := .lst []) ne
      have ge : (upd H1 e (.lst [])) e = some (.lst []) := upd_same
      generalize upd H1 e (.lst []) = H2 at e2 ge
      refine ⟨(by show 1 ≤ sizeLine; decide), fun o no => ?_⟩
      have e3 := Evl.Ex.new (o := .lst [.ref e]) no
      have go : (upd H2 o (.lst [.ref e])) o = some (.lst [.ref e]) := upd_same
      generalize upd H2 o (.lst [.ref e]) = H3 at e3 go
      refine ⟨p, o, _, _, rfl, rfl, (e2.trans e3) _ _ hp, go, Nat.le_trans (by rw [List.length_map, List.length_singleton]; omega : (rs.map V.ref).length + [V.ref e].length ≤ 61) (by decide), fun c nc => ?_⟩
      have e4 := Evl.Ex.new (o := .lst (rs.map V.ref ++ [.ref e])) nc
      have gc : (upd H3 c (.lst (rs.map V.ref ++ [.ref e]))) c = some (.lst (rs.map V.ref ++ [.ref e])) := upd_same
      generalize upd H3 c (.lst (rs.map V.ref ++ [.ref e])) = H4 at e4 gc
      have e14 := e2.trans (e3.trans e4)
      have x4 := e1.trans e14
      have r4 : H4 rc = some (.ins R.C dx []) := x4 _ _ hrc
      have ch : ∀ k, ∃ u : List Word, (k < l.length → WordsAt l k u) ∧ (l.length ≤ k → u = []) ∧ ∀ r, (rs ++ [e])[k]? = some r → RowAt K (hid H4 rc) r u := by
        intro k
        by_cases c : k < l.length
        · obtain ⟨r, hr⟩ : ∃ r, rs[k]? = some r := ⟨_, List.getElem?_eq_getElem (by omega)⟩
          obtain ⟨_, u, ⟨us, h1, h2⟩, h3⟩ := hrs k r hr
          refine ⟨u, fun _ => h3, fun z => absurd c (by omega), fun r' hr' => ?_⟩
          rw [List.getElem?_append_left (by omega), hr] at hr'
          cases hr'
          exact ⟨us, hid_at (ne_of (e14 _ _ h1) r4 (fun z => nomatch z)) (e14 _ _ h1), Paired.imp (fun _ _ ⟨a, q1, q2⟩ => ⟨a, q1, hid_at (ne_of (e14 _ _ q2) r4 (fun z => nomatch z)) (e14 _ _ q2)⟩) h2⟩
        · refine ⟨[], fun z => absurd z c, fun _ => rfl, fun r' hr' => ?_⟩
          have kl := (List.getElem?_eq_some_iff.mp hr').1
          rw [List.length_append, List.length_singleton] at kl
          rw [List.getElem?_append_right (by omega), show k - rs.length = 0 by omega] at hr'
          cases hr'
          have z := (e3.trans e4) _ _ ge
          exact ⟨[], hid_at (ne_of z r4 (fun z => nomatch z)) z, .nil⟩
      obtain ⟨ws, hws⟩ := Classical.axiomOfChoice ch
      refine ⟨c, ws, rfl, x4, ⟨fun k h => (hws k).1 h, fun k h => (hws k).2.1 h⟩, rs ++ [e], ?_, by rw [List.length_append, rl]; rfl, fun k r h => (hws k).2.2 r h⟩
      refine hid_at (ne_of gc r4 (fun z => nomatch z)) ?_
      rw [gc, List.map_append]
      rfl
    rintro _ H1 ⟨W, ws, rfl, e1, wf, rw1⟩
    have lv := levels_of ok wf
    have r1 : H1 rc = some (.ins R.C dx []) := e1 _ _ hrc
    refine ⟨fun σ H2 => ∃ lm, σ = [some (.ref rc), some v, some (.ref wa), some (.ref W), none, none, none, none, none, none, none, none, none, none, none, none, none, none, none, none] ∧ Evl.Ex (hid H1 rc) (hid H2 rc) ∧ H2 rc = some (.ins R.C dx [("manys", V.ref lm)]) ∧ hid H2 rc lm = some (.lst ((manysOf l).map V.int)), ?_, ?_⟩
    · obtain ⟨a, bs, rfl, hx, hp⟩ := hl
      have bl : bs.length = l.length := Paired.len hp
      have wlm : (manysOf l).length = l.length := by unfold manysOf; rw [List.length_map]
      refine ⟨.ref a, rfl, a, rfl, ⟨bs, Evl.ex_t e1 hx⟩, fun D nD => ?_⟩
      have nDr : D ≠ rc := fun z => by rw [z, r1] at nD; cases nD
      refine lc_tup (K := K) (a := a) (xs := bs) (fun i H' => Evl.Ex H1 H' ∧ H' D = some (.lst (((manysOf l).take i).map V.int))) ⟨Evl.Ex.new nD, upd_same⟩ ?_ ?_ ?_
      · rintro i H2 _ ⟨e2, _⟩
        exact Evl.ex_t (e1.trans e2) hx
      · rintro i x H2 hi ⟨e2, hD⟩
        obtain ⟨b, hb, ⟨ab, cb, gs, rfl, k1, k2, k3⟩⟩ := Paired.get1 hp hi
        have il : i < l.length := (List.getElem?_eq_some_iff.mp hb).1
        have hm : (manysOf l)[i]? = some b.many := by
          unfold manysOf
          rw [List.getElem?_map, hb]
          rfl
        refine ⟨rfl, .ref ab, rfl, ab, _, 0, .int b.many, rfl, rfl, Evl.ex_t (e1.trans e2) k1, atI_nat (j := 0) rfl, ?_⟩
        refine ⟨_, hD, Nat.lt_of_le_of_lt (by rw [List.length_map, List.length_take]; omega : (((manysOf l).take i).map V.int).length ≤ 60) (by decide), e2.mut nD, ?_⟩
        rw [upd_same, take_succ_get hm, List.map_append]
        rfl
      · rintro H2 ⟨e2, hD⟩
        rw [bl, ← wlm, List.take_length] at hD
        have r2 := e2 _ _ r1
        refine ⟨.ref rc, rfl, rc, R.C, dx, [], rfl, r2, R.cl, R.nm, by decide, D, rfl, fun b o h => ?_, upd_same, ?_⟩
        · have nb : b ≠ rc := fun z => by unfold hid at h; rw [if_pos z] at h; cases h
          refine hid_at nb ?_
          rw [upd_ne nb]
          exact e2 _ _ (hid_ex H1 rc _ _ h)
        · refine hid_at nDr ?_
          rw [upd_ne nDr]
          exact hD
    rintro _ H2 ⟨lm, rfl, e2, r2, hm2⟩
    refine ⟨Nat.zero_le _, fun lf nlf => ?_⟩
    have nfr : lf ≠ rc := fun z => by rw [z, r2] at nlf; cases nlf
    have e3 := Evl.Ex.new (o := .lst []) nlf
    have gf : (upd H2 lf (.lst [])) lf = some (.lst []) := upd_same
    generalize upd H2 lf (.lst []) = H3 at e3 gf
    have r3 := e3 _ _ r2
    refine ⟨.ref rc, rfl, rc, R.C, dx, _, rfl, r3, R.cl, R.nf, (by show 1 < 1000; decide), ?_⟩
    have k4 : ∀ b o, b ≠ rc → H2 b = some o → (upd H3 rc (.ins R.C dx (putF "floors" (.ref lf) [("manys", V.ref lm)]))) b = some o := fun b o n h => by
      rw [upd_ne n]; exact e3 _ _ h
    have f4 : (upd H3 rc (.ins R.C dx (putF "floors" (.ref lf) [("manys", V.ref lm)]))) lf = some (.lst []) := by
      rw [upd_ne nfr]; exact gf
    have r4 : (upd H3 rc (.ins R.C dx (putF "floors" (.ref lf) [("manys", V.ref lm)]))) rc = some (.ins R.C dx [("manys", V.ref lm), ("floors", V.ref lf)]) := upd_same
    generalize upd H3 rc (.ins R.C dx (putF "floors" (.ref lf) [("manys", V.ref lm)])) = H4 at k4 f4 r4
    obtain ⟨rs, r0, us0, hW1, hr0, hu0, hp0⟩ := rw1.row (Nat.zero_le _)
    have ul : us0.length = (ws 0).length := Paired.len hp0
    have w8 := wf.few ok 0
    have k24 : ∀ b o, hid H1 rc b = some o → b ≠ rc ∧ H4 b = some o := fun b o h => by
      have nb : b ≠ rc := fun z => by unfold hid at h; rw [if_pos z] at h; cases h
      exact ⟨nb, k4 b o nb (hid_ex H2 rc _ _ (e2 _ _ h))⟩
    have eg : (2 : Int) ^ (us0.length + 1) - 1 = ((2 ^ ((ws 0).length + 1) - 1 : Nat) : Int) := by
      rw [ul]
      have h1 : 1 ≤ 2 ^ ((ws 0).length + 1) := Nat.one_le_two_pow
      have h2 : ((2 ^ ((ws 0).length + 1) : Nat) : Int) = (2 : Int) ^ ((ws 0).length + 1) := Int.natCast_pow 2 _
      omega
    refine ⟨fun σ H5 => σ = [some (.ref rc), some v, some (.ref wa), some (.ref W), none, none, none, none, none, none, none, none, none, none, none, none, none, none, none, none] ∧ (∀ b o, b ≠ rc → H4 b = some o → H5 b = some o) ∧ H5 rc = some (.ins R.C dx [("manys", V.ref lm), ("floors", V.ref lf), ("ground", V.int ((2 ^ ((ws 0).length + 1) - 1 : Nat) : Int))]), ?_, ?_⟩
    · refine ⟨.ref W, rfl, W, _, 0, .ref r0, rfl, rfl, SqL.of (k24 _ _ hW1).2, atI_nat (j := 0) hr0, r0, us0, rfl, .inl (SqL.of (k24 _ _ hu0).2), ?_⟩
      refine ⟨_, _, rfl, rfl, ?_⟩
      refine ⟨us0.length + 1, rfl, rfl, (by omega), ?_⟩
      refine ⟨_, _, rfl, rfl, ?_⟩
      refine ⟨.ref rc, rfl, rc, R.C, dx, _, rfl, r4, R.cl, R.ng, (by show 2 < 1000; decide), rfl, fun b o n h => ?_, ?_⟩
      · rw [upd_ne n]; exact h
      · rw [← eg, upd_same]; rfl
    rintro _ H5 ⟨rfl, k45, r5⟩
    have k5 : ∀ b o, hid H1 rc b = some o → b ≠ rc ∧ H5 b = some o := fun b o h => ⟨(k24 b o h).1, k45 b o (k24 b o h).1 (k24 b o h).2⟩
    have f5 : H5 lf = some (.lst []) := k45 _ _ nfr f4
    have nmr : lm ≠ rc := fun z => by unfold hid at hm2; rw [if_pos z] at hm2; cases hm2
    have hm2' : H2 lm = some (.lst ((manysOf l).map V.int)) := hid_ex H2 rc _ _ hm2
    have nmf : lm ≠ lf := fun z => by rw [← z, hm2'] at nlf; cases nlf
    have m5 : H5 lm = some (.lst ((manysOf l).map V.int)) := k45 _ _ nmr (k4 _ _ nmr hm2')
    have nf1 : ∀ b o, hid H1 rc b = some o → b ≠ lf := fun b o h z => by
      rw [z] at h
      rw [hid_ex H2 rc _ _ (e2 _ _ h)] at nlf
      cases nlf
    refine ⟨fun σ H6 => ∃ lb, σ = [some (.ref rc), some v, some (.ref wa), some (.ref W), some (.ref lb), none, none, none, none, none, none, none, none, none, none, none, none, none, none, none] ∧ Evl.Ex H5 H6 ∧ H5 lb = none ∧ H6 lb = some (.lst (natsV (RsOf (l.take 0) (ws 0) (w.take 0)))), ?_, ?_⟩
    · refine ⟨.ref W, rfl, W, _, 0, .ref r0, rfl, rfl, SqL.of (k5 _ _ hW1).2, atI_nat (j := 0) hr0, r0, rfl, ⟨us0, SqL.of (k5 _ _ hu0).2⟩, fun D nD => ?_⟩
      refine lc_it (walk_list (K := K) (a := r0) (xs := us0)) (fun i H' => Evl.Ex H5 H' ∧ H' D = some (.lst (natsV (List.replicate i (2 ^ ((ws 0).length + 1) - 1))))) ⟨Evl.Ex.new nD, upd_same⟩ ?_ ?_ ?_
      · rintro i H' _ ⟨e, _⟩
        exact SqL.of (e _ _ (k5 _ _ hu0).2)
      · rintro i x H6 H7 hi ⟨e, hD⟩ ⟨rfl, ex⟩
        refine ⟨rfl, .ref rc, rfl, rc, R.C, dx, _, V.int ((2 ^ ((ws 0).length + 1) - 1 : Nat) : Int), rfl, e _ _ r5, R.cl, R.ng, rfl, ?_⟩
        refine ⟨_, hD, Nat.lt_of_le_of_lt (by unfold natsV; rw [List.length_map, List.length_replicate]; omega : (natsV (List.replicate i (2 ^ ((ws 0).length + 1) - 1))).length ≤ 8) (by decide), e.mut nD, ?_⟩
        rw [upd_same, List.replicate_succ']
        unfold natsV
        rw [List.map_append]
        rfl
      · rintro H6 ⟨e, hD⟩
        refine ⟨D, rfl, e, nD, ?_⟩
        rw [hD, List.take_zero, List.take_zero, rs_ground _ lv.zero, ul]
    rintro _ H6 ⟨lb, rfl, e6, nlb, hb6⟩
    obtain ⟨a, bs, rfl, hx, hp⟩ := hl
    have bl : bs.length = l.length := Paired.len hp
    have k06 : ∀ b o, b ≠ rc → H b = some o → b ≠ lf ∧ H6 b = some o := fun b o n h => by
      have h1 : hid H1 rc b = some o := hid_at n (e1 _ _ h)
      exact ⟨nf1 _ _ h1, e6 _ _ (k5 _ _ h1).2⟩
    have tx6 : TX K H H6 := tx_keep hrc fun b o n h => (k06 b o n h).2
    have f6 : H6 lf = some (.lst []) := e6 _ _ f5
    have nbf : lb ≠ lf := fun z => by rw [z, f5] at nlb; cases nlb
    have r6 := e6 _ _ r5
    have nfr6 : rc ≠ lf := fun z => nfr z.symm
    have rw6 : Rows K (hid H6 lf) W l.length ws := rw1.ex fun b o h => hid_at (nf1 _ _ h) (e6 _ _ (k5 _ _ h).2)
    refine ⟨.ref a, rfl, a, bs, rfl, tx6.1 _ _ hx, ?_⟩
    refine for_it (walk_et (K := K) (a := a) (xs := bs)) (fun i σ H' => ∃ (lb : Addr) (fls : List Addr) (y5 y6 y7 y8 y9 y10 y11 : Option V), σ = [some (.ref rc), some (.ref a), some (.ref wa), some (.ref W), some (.ref lb), y5, y6, y7, y8, y9, y10, y11, none, none, none, none, none, none, none, none] ∧
        (∀ b o, b ≠ lf → H6 b = some o → H' b = some o) ∧ H' lf = some (.lst (fls.map V.ref)) ∧ fls.length = i ∧ lb ≠ lf ∧ H' lb = some (.lst (natsV (RsOf (l.take i) (ws i) (w.take i)))) ∧ ∀ (k : Nat) (fl : Addr), fls[k]? = some fl → FloorK F.C (hid H' lf) l ws w k fl)
      ⟨lb, [], none, none, none, none, none, none, none, rfl, fun b o _ h => h, f6, rfl, nbf, hb6, fun k fl h => by simp at h⟩ ?_ ?_ ?_
    · rintro i σ H7 _ ⟨lb', fls, y5, y6, y7, y8, y9, y10, y11, rfl, k7, _⟩
      have k7' : Exx lf H6 H7 := fun b o n h => k7 b o n h
      exact (k7'.tx (fun xs => by rintro (z | ⟨o, z⟩) <;> (rw [f6] at z; cases z))).1 _ _ (tx6.1 _ _ hx)
    · rintro i x σ H7 H7' hi ⟨lb', fls, y5, y6, y7, y8, y9, y10, y11, rfl, k7, f7, fl7, nb7, hb7, hfl7⟩ ⟨T, x1, x2, rfl, nT, rfl, ex1, ey1⟩
      cases ex1
      obtain ⟨b, hb, ⟨ab, cb, gs, rfl, k1, k2, k3⟩⟩ := Paired.get1 hp ey1
      have il : i < l.length := (List.getElem?_eq_some_iff.mp hb).1
      have tx7 : TX K H H7 := tx6.trans ((show Exx lf H6 H7 from fun b o n h => k7 b o n h).tx (fun xs => by rintro (z | ⟨o, z⟩) <;> (rw [f6] at z; cases z)))
      have e8 := Evl.Ex.new (o := .tup [.int (i : Nat), .ref ab]) nT
      have gT : (upd H7 T (.tup [.int (i : Nat), .ref ab])) T = some (.tup [.int (i : Nat), .ref ab]) := upd_same
      generalize upd H7 T (.tup [.int (i : Nat), .ref ab]) = H8 at e8 gT
      have tx8 : TX K H H8 := tx7.trans (TX.ex e8)
      have x68 : Evl.Ex (hid H6 lf) H8 := fun b o h => by
        have nb : b ≠ lf := fun z => by unfold hid at h; rw [if_pos z] at h; cases h
        exact e8 _ _ (k7 b o nb (hid_ex H6 lf _ _ h))
      have rw8 := rw6.ex x68
      obtain ⟨rs, ri, ui, hW8, hri, hui, hpi⟩ := rw8.row (Nat.le_of_lt il)
      have uil : ui.length = (ws i).length := Paired.len hpi
      have wi8 := wf.few ok i
      refine ⟨T, _, rfl, .inl (.inl gT), rfl, _, _, rfl, _, _, rfl, ⟨ab, _, rfl, tx8.1 _ _ k1, rfl, _, _, rfl, _, _, rfl, rfl, ?_⟩⟩
      refine ⟨rfl, fun σ' H' => ∃ D, σ' = [some (.ref rc), some (.ref a), some (.ref wa), some (.ref W), some (.ref lb'), some (.int (i : Nat)), some (.int b.many), some (.ref cb), some (.ref D), y9, y10, y11, none, none, none, none, none, none, none, none] ∧ Evl.Ex H8 H' ∧ H8 D = none ∧ H' D = some (.dT (numD (ws i))), ?_, ?_⟩
      · refine ⟨.ref W, rfl, .int (i : Nat), rfl, W, _, _, .ref ri, rfl, rfl, SqL.of (hW8), atI_nat (j := i) hri, ri, ui, rfl, SqL.of hui, fun D nD => ?_⟩
        refine dct_it (walk_enum (K := K) (a := ri) (xs := ui)) (fun m H' => Evl.Ex H8 H' ∧ H' D = some (.dT (numD ((ws i).take m)))) ⟨Evl.Ex.new nD, upd_same⟩ ?_ ?_ ?_
        · rintro m H' _ ⟨e, _⟩
          exact SqL.of (e _ _ hui)
        · rintro m x H9 H10 hm ⟨e9, hD9⟩ ⟨T2, v1, v2, rfl, nT2, rfl, ex2, ey2⟩
          cases ex2
          obtain ⟨t, ht, ⟨ax, rfl, hax⟩⟩ := Paired.get1 hpi ey2
          have e10 := Evl.Ex.new (o := .tup [.int (m : Nat), .ref ax]) nT2
          have gT2 : (upd H9 T2 (.tup [.int (m : Nat), .ref ax])) T2 = some (.tup [.int (m : Nat), .ref ax]) := upd_same
          generalize upd H9 T2 (.tup [.int (m : Nat), .ref ax]) = H10 at e10 gT2
          have ml : m < (ws i).length := (List.getElem?_eq_some_iff.mp ht).1
          have tn : t ∉ (ws i).take m := by
            intro hmem
            obtain ⟨j, hj, ej⟩ := List.getElem_of_mem hmem
            rw [List.length_take] at hj
            rw [List.getElem_take] at ej
            obtain ⟨l1, q1⟩ := List.getElem?_eq_some_iff.mp ht
            have := (List.getElem_inj (wf.nodup i)).mp (ej.trans q1.symm)
            omega
          refine ⟨T2, _, rfl, .inl (.inl gT2), rfl, _, _, rfl, _, _, rfl, rfl, ?_⟩
          refine ⟨rfl, .ref ax, rfl, .int (m : Nat), rfl, numD ((ws i).take m), keyW t, ax, rfl, ?_, e10 _ _ hD9, ?_, (e9.trans e10).mut nD, ?_⟩
          · rw [keyW_kV]
            exact (e9.trans e10) _ _ hax
          · rw [num_len, List.length_take]
            exact Nat.lt_of_le_of_lt (by omega : min m (ws i).length ≤ 8) (by decide)
          · have pe := num_put tn
            rw [List.length_take, Nat.min_eq_left (Nat.le_of_lt ml)] at pe
            rw [upd_same, pe, take_succ_get ht]
        · rintro H9 ⟨e9, hD9⟩
          refine ⟨D, rfl, e9, nD, ?_⟩
          rw [uil, List.take_length] at hD9
          exact hD9
      rintro _ H9 ⟨D, rfl, e9, nD, hD9⟩
      have tx9 : TX K H H9 := tx8.trans (TX.ex e9)
      have BO := ok.bolts i b hb
      have g16 := gaps_16 ok hb
      have gl : gs.length = b.gaps.length := Paired.len k3
      refine ⟨fun σ' H' => ∃ M mvs, σ' = [some (.ref rc), some (.ref a), some (.ref wa), some (.ref W), some (.ref lb'), some (.int (i : Nat)), some (.int b.many), some (.ref cb), some (.ref D), some (.ref M), y10, y11, none, none, none, none, none, none, none, none] ∧ Evl.Ex H9 H' ∧ H9 M = none ∧ H' M = some (.lst mvs) ∧ Paired (MvT H') mvs (msOf b (ws i)) ∧ mvs.length ≤ 128, ?_, ?_⟩
      · refine ⟨.ref cb, rfl, cb, rfl, ⟨gs, tx9.1 _ _ k2⟩, fun M nM => ?_⟩
        refine w_it (walk_tup (K := K) (a := cb) (xs := gs)) (fun j H' => ∃ mvs, Evl.Ex H9 H' ∧ H' M = some (.lst mvs) ∧ Paired (MvT H') mvs ((b.gaps.take j).flatMap (mvG (ws i))) ∧ mvs.length ≤ 8 * j) ⟨[], Evl.Ex.new nM, upd_same, .nil, Nat.le_refl _⟩ ?_ ?_ ?_
        · rintro j H' _ ⟨_, e, _⟩
          exact Evl.ex_t e (tx9.1 _ _ k2)
        · rintro j x H10 H10' hj ⟨mvs, e10, hM10, pm, ml⟩ ⟨rfl, hx3⟩
          obtain ⟨g, hg, ⟨ag, bg, uvs, rfl, j1, j2, j3⟩⟩ := Paired.get1 k3 hx3
          have gm : g ∈ b.gaps := List.mem_of_getElem? hg
          have g8 := (BO.gaps g gm).few
          have uvl : uvs.length = g.ways.length := Paired.len j3
          have jl : j < b.gaps.length := (List.getElem?_eq_some_iff.mp hg).1
          refine ⟨ag, _, rfl, Evl.ex_t e10 (tx9.1 _ _ j1), rfl, _, _, rfl, _, _, rfl, _, _, rfl, _, _, rfl, rfl, ?_⟩
          refine ⟨rfl, ?_⟩
          refine ⟨.ref bg, rfl, bg, rfl, ⟨uvs, Evl.ex_t e10 (tx9.1 _ _ j2)⟩, ?_⟩
          refine w_it (walk_tup (K := K) (a := bg) (xs := uvs)) (fun t H' => ∃ mvs, Evl.Ex H9 H' ∧ H' M = some (.lst mvs) ∧ Paired (MvT H') mvs ((b.gaps.take j).flatMap (mvG (ws i)) ++ (mvG (ws i) g).take t) ∧ mvs.length ≤ 8 * j + t) ⟨mvs, e10, hM10, by rw [List.take_zero, List.append_nil]; exact pm, ml⟩ ?_ ?_ ?_
          · rintro t H' _ ⟨_, e, _⟩
            exact Evl.ex_t e (tx9.1 _ _ j2)
          · rintro t x H11 H11' ht ⟨mvs', e11, hM11, pm', ml'⟩ ⟨rfl, hx4⟩
            obtain ⟨u, hu, ⟨ax, rfl, hax⟩⟩ := Paired.get1 j3 hx4
            have um : u ∈ ws i := lv.ways i b hb g gm u (List.mem_of_getElem? hu)
            have ax11 := e11 _ _ (tx9.2 _ _ hax)
            refine ⟨rfl, ?_⟩
            refine ⟨.ref D, rfl, .ref ax, rfl, D, .int ((idxW (ws i) u : Nat) : Int), rfl, ?_, ?_⟩
            · have z := DGet.t (k := keyW u) (e11 _ _ hD9) (by rw [keyW_kV]; exact ax11)
              rw [num_val _ _ um] at z
              exact z
            · refine ⟨.int g.frm, rfl, .int g.to_, rfl, (by show 3 ≤ sizeLine; decide), fun p np => ?_⟩
              have e12 := Evl.Ex.new (o := .tup [.int ((idxW (ws i) u : Nat) : Int), .int g.frm, .int g.to_]) np
              have gp : (upd H11' p (.tup [.int ((idxW (ws i) u : Nat) : Int), .int g.frm, .int g.to_])) p = some (.tup [.int ((idxW (ws i) u : Nat) : Int), .int g.frm, .int g.to_]) := upd_same
              generalize upd H11' p (.tup [.int ((idxW (ws i) u : Nat) : Int), .int g.frm, .int g.to_]) = H12 at e12 gp
              refine ⟨mvs', e12 _ _ hM11, Nat.lt_of_le_of_lt (by omega : mvs'.length ≤ 200) (by decide), mvs' ++ [.ref p], (e11.trans e12).mut nM, upd_same, ?_, by rw [List.length_append, List.length_singleton]; omega⟩
              have hg' : (mvG (ws i) g)[t]? = some (idxW (ws i) u, g.frm, g.to_) := by
                unfold mvG
                rw [List.getElem?_map, hu]
                rfl
              have hM12 := e12 _ _ hM11
              have keep : ∀ c xs, H12 c = some (.tup xs) → (upd H12 M (.lst (mvs' ++ [V.ref p]))) c = some (.tup xs) := fun c xs h => by
                rw [upd_ne (ne_of h hM12 (fun z => nomatch z))]
                exact h
              rw [take_succ_get hg', ← List.append_assoc]
              exact Paired.snoc (Paired.imp (fun _ _ ⟨q1, q2, q3⟩ => ⟨q1, q2, keep _ _ (e12 _ _ q3)⟩) pm') ⟨p, rfl, keep _ _ gp⟩
          · rintro H11 ⟨mvs', e11, hM11, pm', ml'⟩
            refine ⟨mvs', e11, hM11, ?_, by omega⟩
            rw [take_succ_get hg, List.flatMap_append, List.flatMap_singleton]
            have z : (mvG (ws i) g).length = uvs.length := by unfold mvG; rw [List.length_map, uvl]
            rw [← z, List.take_length] at pm'
            exact pm'
        · rintro H10 ⟨mvs, e10, hM10, pm, ml⟩
          rw [gl, List.take_length] at pm
          exact ⟨M, mvs, rfl, e10, nM, hM10, pm, by omega⟩
      rintro _ H10 ⟨M, mvs, rfl, e10, nM, hM10, pm, ml⟩
      have e810 := e9.trans e10
      obtain ⟨rs2, rn, un, hW2, hrn, hun, hpn⟩ := (rw8.ex e810).row (show i + 1 ≤ l.length from il)
      have unl : un.length = (ws (i + 1)).length := Paired.len hpn
      have wn8 := wf.few ok (i + 1)
      refine ⟨fun σ' H' => ∃ S svs, σ' = [some (.ref rc), some (.ref a), some (.ref wa), some (.ref W), some (.ref lb'), some (.int (i : Nat)), some (.int b.many), some (.ref cb), some (.ref D), some (.ref M), some (.ref S), y11, none, none, none, none, none, none, none, none] ∧ Evl.Ex H10 H' ∧ H10 S = none ∧ H' S = some (.lst svs) ∧ Paired (SpT H') svs (stopsOf (ws i) (ws (i + 1))), ?_, ?_⟩
      · refine ⟨.ref W, rfl, .int (i : Nat), rfl, _, _, rfl, rfl, W, _, _, .ref rn, rfl, rfl, SqL.of hW2, atI_nat (j := i + 1) hrn, rn, rfl, ⟨un, SqL.of hun⟩, fun S nS => ?_⟩
        refine lc_it (walk_list (K := K) (a := rn) (xs := un)) (fun t H' => ∃ svs, Evl.Ex H10 H' ∧ H' S = some (.lst svs) ∧ Paired (SpT H') svs ((stopsOf (ws i) (ws (i + 1))).take t) ∧ svs.length = t) ⟨[], Evl.Ex.new nS, upd_same, .nil, rfl⟩ ?_ ?_ ?_
        · rintro t H' _ ⟨_, e, _⟩
          exact SqL.of (e _ _ hun)
        · rintro t x H11 H11' ht ⟨svs, e11, hS11, ps, sl⟩ ⟨rfl, ex⟩
          obtain ⟨u, hu, ⟨ax, rfl, hax⟩⟩ := Paired.get1 hpn ex
          have um : u ∈ ws (i + 1) := List.mem_of_getElem? hu
          have ul1 : u.length = i + 1 := lv.len (i + 1) il u um
          have dm := lv.down i il u um
          have hax11 := e11 _ _ hax
          refine ⟨rfl, .ref D, rfl, .ref ax, rfl, ?_⟩
          refine nopart1 ?_
          refine ⟨.int (i : Nat), rfl, (i : Nat), rfl, ?_⟩
          refine sl_own (K := K) (lo := none) (hi := some ((i : Nat) : Int)) hax11 fun H12 z e12 hz => ?_
          rw [cut_take, ← List.map_take, show u.take i = u.dropLast by rw [List.dropLast_eq_take, ul1, Nat.add_sub_cancel]] at hz
          have e1012 := e11.trans e12
          refine ⟨D, .int ((idxW (ws i) u.dropLast : Nat) : Int), rfl, ?_, ?_⟩
          · have y := DGet.t (k := keyW u.dropLast) ((e10.trans e1012) _ _ hD9) (by rw [keyW_kV]; exact hz)
            rw [num_val _ _ dm] at y
            exact y
          · have hl : (u.map V.int)[i]? = some (V.int (u.getLastD 0)) := by
              have ne : u ≠ [] := fun y => by rw [y] at ul1; cases ul1
              have e := last_drop ne
              rw [List.getElem?_map]
              have z : u[i]? = some (u.getLastD 0) := by
                conv => lhs; rw [← e]
                rw [List.getElem?_append_right (by rw [List.length_dropLast]; omega), List.length_dropLast, ul1, Nat.add_sub_cancel, Nat.sub_self]
                rfl
              rw [z]; rfl
            refine ⟨.ref ax, rfl, .int (i : Nat), rfl, ax, _, ((i : Nat) : Int), .int (u.getLastD 0), rfl, rfl, .inl (.inl (e12 _ _ hax11)), atI_nat (j := i) hl, (by show 2 ≤ sizeLine; decide), fun p np => ?_⟩
            have e13 := Evl.Ex.new (o := .tup [.int ((idxW (ws i) u.dropLast : Nat) : Int), .int (u.getLastD 0)]) np
            have gp : (upd H12 p (.tup [.int ((idxW (ws i) u.dropLast : Nat) : Int), .int (u.getLastD 0)])) p = some (.tup [.int ((idxW (ws i) u.dropLast : Nat) : Int), .int (u.getLastD 0)]) := upd_same
            generalize upd H12 p (.tup [.int ((idxW (ws i) u.dropLast : Nat) : Int), .int (u.getLastD 0)]) = H13 at e13 gp
            have hS13 := (e12.trans e13) _ _ hS11
            have tl : t < (stopsOf (ws i) (ws (i + 1))).length := by
              unfold stopsOf; rw [List.length_map]
              exact (List.getElem?_eq_some_iff.mp hu).1
            refine ⟨svs, hS13, Nat.lt_of_le_of_lt (by unfold stopsOf at tl; rw [List.length_map] at tl; omega : svs.length ≤ 200) (by decide), svs ++ [.ref p], ((e11.trans e12).trans e13).mut nS, upd_same, ?_, by rw [List.length_append, List.length_singleton, sl]⟩
            have keep : ∀ c xs, H13 c = some (.tup xs) → (upd H13 S (.lst (svs ++ [V.ref p]))) c = some (.tup xs) := fun c xs h => by
              rw [upd_ne (ne_of h hS13 (fun z => nomatch z))]
              exact h
            have hs' : (stopsOf (ws i) (ws (i + 1)))[t]? = some (idxW (ws i) u.dropLast, u.getLastD 0) := by
              unfold stopsOf
              rw [List.getElem?_map, hu]
              rfl
            rw [take_succ_get hs']
            exact Paired.snoc (Paired.imp (fun _ _ ⟨q1, q2, q3⟩ => ⟨q1, q2, keep _ _ ((e12.trans e13) _ _ q3)⟩) ps) ⟨p, rfl, keep _ _ gp⟩
        · rintro H11 ⟨svs, e11, hS11, ps, sl⟩
          rw [unl, show (ws (i + 1)).length = (stopsOf (ws i) (ws (i + 1))).length by unfold stopsOf; rw [List.length_map], List.take_length] at ps
          exact ⟨S, svs, rfl, e11, nS, hS11, ps⟩
      rintro _ H11 ⟨S, svs, rfl, e11, nS, hS11, ps⟩
      have e811 := e810.trans e11
      obtain ⟨o, ho⟩ : ∃ o, w[i]? = some o := ⟨_, List.getElem?_eq_getElem (by omega)⟩
      have f11 := e811 _ _ (e8 _ _ f7)
      have tx11 : TX K H H11 := tx8.trans (TX.ex e811)
      have hwv : (w.map oV)[i]? = some (oV o) := by rw [List.getElem?_map, ho]; rfl
      refine ⟨fun σ' H' => ∃ fl, σ' = [some (.ref rc), some (.ref a), some (.ref wa), some (.ref W), some (.ref lb'), some (.int (i : Nat)), some (.int b.many), some (.ref cb), some (.ref D), some (.ref M), some (.ref S), some (.ref fl), none, none, none, none, none, none, none, none] ∧ Evl.Ex H11 H' ∧ H11 fl = none ∧ FloorK F.C (hid H' lf) l ws w i fl, ?_, ?_⟩
      · refine ⟨.ref lb', rfl, .ref M, rfl, .ref S, rfl, ?_⟩
        refine ⟨.ref W, rfl, .int (i : Nat), rfl, W, _, _, .ref ri, rfl, rfl, SqL.of (e811 _ _ hW8), atI_nat (j := i) hri, ri, ui, rfl, .inl (SqL.of (e811 _ _ hui)), ?_⟩
        refine ⟨.ref wa, rfl, .int (i : Nat), rfl, wa, _, ((i : Nat) : Int), oV o, rfl, rfl, tx11.1 _ _ hwa, atI_nat (j := i) hwv, (by show 2 ≤ sizeLine; decide), fun p np => ?_⟩
        rw [uil]
        have e12 := Evl.Ex.new (o := .tup [.int ((ws i).length : Nat), oV o]) np
        have gp : (upd H11 p (.tup [.int ((ws i).length : Nat), oV o])) p = some (.tup [.int ((ws i).length : Nat), oV o]) := upd_same
        generalize upd H11 p (.tup [.int ((ws i).length : Nat), oV o]) = H12 at e12 gp
        refine ⟨(by show 1 ≤ sizeLine; decide), fun t nt => ?_⟩
        have e13 := Evl.Ex.new (o := .lst [.ref p]) nt
        have gt : (upd H12 t (.lst [.ref p])) t = some (.lst [.ref p]) := upd_same
        generalize upd H12 t (.lst [.ref p]) = H13 at e13 gt
        have sl8 : svs.length ≤ 8 := by
          have z : svs.length = (stopsOf (ws i) (ws (i + 1))).length := Paired.len ps
          unfold stopsOf at z
          rw [List.length_map] at z
          omega
        refine ⟨S, t, svs, [.ref p], rfl, rfl, (e12.trans e13) _ _ hS11, gt, Nat.le_trans (by rw [List.length_singleton]; omega : svs.length + [V.ref p].length ≤ 9) (by decide), fun E nE => ?_⟩
        have e14 := Evl.Ex.new (o := .lst (svs ++ [.ref p])) nE
        have gE : (upd H13 E (.lst (svs ++ [.ref p]))) E = some (.lst (svs ++ [.ref p])) := upd_same
        generalize upd H13 E (.lst (svs ++ [.ref p])) = H14 at e14 gE
        have e1114 := (e12.trans e13).trans e14
        intro fl dxf nfl ndx ndf
        have e15 : Evl.Ex H14 (upd (upd H14 dxf (.own fl)) fl (.ins F.C dxf [])) := fun c y h => by
          rw [upd_ne (fun z => by rw [z, nfl] at h; cases h), upd_ne (fun z => by rw [z, ndx] at h; cases h)]
          exact h
        have gfl : (upd (upd H14 dxf (.own fl)) fl (.ins F.C dxf [])) fl = some (.ins F.C dxf []) := upd_same
        generalize upd (upd H14 dxf (.own fl)) fl (.ins F.C dxf []) = H15 at e15 gfl
        have e1115 := e1114.trans e15
        have e1015 := e11.trans e1115
        have e815 := e811.trans e1115
        have hb15 := e815 _ _ (e8 _ _ hb7)
        have hM15 := e1015 _ _ hM10
        have pm15 : Paired (MvT H15) mvs (msOf b (ws i)) := Paired.imp (fun _ _ ⟨q1, q2, q3⟩ => ⟨q1, q2, e1015 _ _ q3⟩) pm
        have pe15 : Paired (EndT H15) (svs ++ [.ref p]) (endsOf (ws i) (ws (i + 1)) o) := ends_paired (Paired.imp (fun _ _ ⟨q1, q2, q3⟩ => ⟨q1, q2, e1115 _ _ q3⟩) ps) (((e13.trans e14).trans e15) _ _ gp)
        have ml' : (msOf b (ws i)).length = mvs.length := (Paired.len pm15).symm
        have el' : (endsOf (ws i) (ws (i + 1)) o).length = svs.length + 1 := by
          rw [← Paired.len pe15, List.length_append]; rfl
        refine ⟨fl, dxf, lb', M, E, mvs, svs ++ [.ref p], RsOf (l.take i) (ws i) (w.take i), msOf b (ws i), endsOf (ws i) (ws (i + 1)) o, rfl, gfl, hb15, hM15, pm15, e15 _ _ gE, pe15, ⟨by omega, by omega⟩, fun m hm => ?_, fun H16 A k16 fn al ha => ?_⟩
        · have z := (moves_ok (lv.ways i b hb)).low m hm
          unfold RsOf
          rw [List.length_map]
          exact z
        · refine ⟨rfl, fl, rfl, fun c y h => k16 c y (fun z => by rw [z, (Evl.fresh_back e1114 nfl)] at h; cases h) (e1115 _ _ h), Evl.fresh_back e1114 nfl, b, o, A, hb, ho, ?_, al, ha⟩
          obtain ⟨la, nla, nlf', g16, ga16⟩ := fn.at_
          have f15 := e1115 _ _ f11
          have nff : lf ≠ fl := fun z => by rw [← z, e1114 _ _ f11] at nfl; cases nfl
          have nlaf : la ≠ lf := fun z => by rw [z, f15] at nla; cases nla
          have nEf : E ≠ lf := fun z => by rw [z, (e12.trans e13) _ _ f11] at nE; cases nE
          have nMf : M ≠ lf := fun z => by rw [z, e9 _ _ (e8 _ _ f7)] at nM; cases nM
          have nb15 : lb' ≠ fl := fun z => by rw [← z, e1114 _ _ (e811 _ _ (e8 _ _ hb7))] at nfl; cases nfl
          have nM15 : M ≠ fl := ne_of hM15 gfl (fun z => nomatch z)
          have nE15 : E ≠ fl := ne_of (e15 _ _ gE) gfl (fun z => nomatch z)
          have tk : ∀ c xs, H15 c = some (.tup xs) → hid H16 lf c = some (.tup xs) := fun c xs h => hid_at (ne_of h f15 (fun z => nomatch z)) (k16 c _ (ne_of h gfl (fun z => nomatch z)) h)
          refine ⟨dxf, _, lb', M, E, la, mvs, svs ++ [.ref p], ⟨hid_at nff.symm g16, rfl, rfl, rfl, rfl, rfl, rfl, rfl, hid_at nb7 (k16 _ _ nb15 hb15), hid_at nMf (k16 _ _ nM15 hM15), Paired.imp (fun _ _ ⟨q1, q2, q3⟩ => ⟨q1, q2, tk _ _ q3⟩) pm15, hid_at nEf (k16 _ _ nE15 (e15 _ _ gE)), Paired.imp (fun _ _ ⟨q1, q2, q3⟩ => ⟨q1, q2, tk _ _ q3⟩) pe15, ⟨by omega, by omega⟩⟩, rfl, hid_at nlaf ga16⟩
      rintro _ H12 ⟨fl, rfl, e12, nfl, hfl⟩
      have e712 := e8.trans (e811.trans e12)
      have f12 := e12 _ _ f11
      have r12 := e712 _ _ (k7 _ _ nfr6 r6)
      refine ⟨fun σ' H' => σ' = [some (.ref rc), some (.ref a), some (.ref wa), some (.ref W), some (.ref lb'), some (.int (i : Nat)), some (.int b.many), some (.ref cb), some (.ref D), some (.ref M), some (.ref S), some (.ref fl), none, none, none, none, none, none, none, none] ∧ (∀ c y, c ≠ lf → H12 c = some y → H' c = some y) ∧ H' lf = some (.lst ((fls ++ [fl]).map V.ref)), ?_, ?_⟩
      · refine ⟨.ref rc, rfl, rc, R.C, dx, _, .ref lf, rfl, r12, R.cl, R.nf, rfl, .inl ⟨rfl, _, .inl (.inl f12)⟩, .ref fl, rfl, lf, _, _, rfl, rfl, f12, Nat.lt_of_le_of_lt (by rw [List.length_map]; omega : (fls.map V.ref).length ≤ 60) (by decide), rfl, fun c y n h => ?_, ?_⟩
        · rw [upd_ne n]; exact h
        · rw [upd_same, List.map_append]; rfl
      rintro _ H13 ⟨rfl, k13, f13⟩
      have hx13 : Evl.Ex (hid H12 lf) (hid H13 lf) := ex_hid k13
      have hfl13 := hfl.ex hx13
      obtain ⟨b', o', A, hb', ho', fd, al, ha⟩ := hfl13
      obtain rfl : b = b' := Option.some.inj (hb.symm.trans hb')
      obtain rfl : o = o' := Option.some.inj (ho.symm.trans ho')
      have fd13 := fd.ex (hid_ex H13 lf)
      have nSf : S ≠ lf := fun z => by rw [z, e10 _ _ (e9 _ _ (e8 _ _ f7))] at nS; cases nS
      have hS13 := k13 _ _ nSf (e12 _ _ hS11)
      have hb13 := k13 _ _ nb7 (e712 _ _ hb7)
      have ps13 : Paired (SpT H13) svs (stopsOf (ws i) (ws (i + 1))) := Paired.imp (fun _ _ ⟨q1, q2, q3⟩ => ⟨q1, q2, k13 _ _ (ne_of (e12 _ _ q3) f12 (fun z => nomatch z)) (e12 _ _ q3)⟩) ps
      have sl : svs.length = (stopsOf (ws i) (ws (i + 1))).length := Paired.len ps13
      have low : ∀ s ∈ stopsOf (ws i) (ws (i + 1)), s.1 < (RsOf (l.take i) (ws i) (w.take i)).length := fun s hs => by
        unfold stopsOf at hs
        obtain ⟨u, hu, rfl⟩ := List.mem_map.mp hs
        unfold RsOf
        rw [List.length_map]
        exact List.idxOf_lt_length_of_mem (lv.down i il u hu)
      have s8 : (stopsOf (ws i) (ws (i + 1))).length ≤ 8 := by unfold stopsOf; rw [List.length_map]; exact wn8
      have tl : (l.take i).length = i := by rw [List.length_take]; omega
      have nxt := next_below (w := w.take i) (lv.ways i b hb) (fun v hv => by rw [tl]; exact lv.len i (by omega) v hv) (fun v hv => ⟨fun z => (by have y := lv.len (i + 1) (by omega) v hv; rw [z] at y; cases y), lv.down i il v hv⟩) al ha
      rw [← take_succ_get hb, ← take_succ_get ho] at nxt
      have k713 : ∀ c y, c ≠ lf → H6 c = some y → H13 c = some y := fun c y n h => k13 c y n (e712 _ _ (k7 c y n h))
      refine ⟨.ref S, rfl, S, rfl, ⟨svs, SqL.of hS13⟩, fun Z nZ => ?_⟩
      have nZf : Z ≠ lf := fun z => by rw [z, f13] at nZ; cases nZ
      refine lc_it (walk_list (K := K) (a := S) (xs := svs)) (fun t H' => Evl.Ex H13 H' ∧ H' Z = some (.lst (natsV (((stopsOf (ws i) (ws (i + 1))).take t).map fun s => ofN (endsOf (ws i) (ws (i + 1)) o) (msOf b (ws i)) A ((RsOf (l.take i) (ws i) (w.take i)).getD s.1 0) s.2)))) ⟨Evl.Ex.new nZ, upd_same⟩ ?_ ?_ ?_
      · rintro t H' _ ⟨e, _⟩
        exact SqL.of (e _ _ hS13)
      · rintro t x H14 H14' ht ⟨e14, hZ⟩ ⟨rfl, ex⟩
        obtain ⟨s, hs, ⟨T, rfl, hT⟩⟩ := Paired.get1 ps13 ex
        have fd14 := fd13.ex e14
        obtain ⟨dxf, fsf, lbf, lmf, lef, laf, mvf, evf, faf, _⟩ := fd14.at_
        have sm : s ∈ stopsOf (ws i) (ws (i + 1)) := List.mem_of_getElem? hs
        have hy : (natsV (RsOf (l.take i) (ws i) (w.take i)))[s.1]? = some (.int ((RsOf (l.take i) (ws i) (w.take i)).getD s.1 0 : Nat)) := by
          unfold natsV
          rw [List.getElem?_map, List.getD_eq_getElem?_getD, List.getElem?_eq_getElem (low s sm)]
          rfl
        refine ⟨T, _, rfl, .inl (.inl (e14 _ _ hT)), rfl, _, _, rfl, _, _, rfl, rfl, ?_⟩
        refine ⟨rfl, ?_⟩
        refine ⟨.ref fl, rfl, fl, dxf, fsf, rfl, faf.obj, faf.n4, .ref lb', rfl, .int (s.1 : Nat), rfl, lb', _, ((s.1 : Nat) : Int), _, rfl, rfl, SqL.of (e14 _ _ hb13), atI_nat (j := s.1) hy, .int s.2, rfl, fl, _, _, _, A, _, s.2, rfl, fd14, al, fun H15 e15 => ?_⟩
        refine ⟨_, e15 _ _ hZ, Nat.lt_of_le_of_lt (by unfold natsV; rw [List.length_map, List.length_map, List.length_take]; omega : (natsV (((stopsOf (ws i) (ws (i + 1))).take t).map fun s => ofN (endsOf (ws i) (ws (i + 1)) o) (msOf b (ws i)) A ((RsOf (l.take i) (ws i) (w.take i)).getD s.1 0) s.2)).length ≤ 8) (by decide), (e14.trans e15).mut nZ, ?_⟩
        rw [upd_same, take_succ_get hs]
        unfold natsV
        rw [List.map_append, List.map_append]
        rfl
      · rintro H14 ⟨e14, hZ⟩
        rw [sl, List.take_length, nxt] at hZ
        refine ⟨Z, fls ++ [fl], _, _, _, _, _, _, _, rfl, fun c y n h => e14 _ _ (k713 c y n h), e14 _ _ f13, by rw [List.length_append, fl7]; rfl, nZf, hZ, fun k fl' hk => ?_⟩
        have ex14 : Evl.Ex (hid H13 lf) (hid H14 lf) := ex_hid fun c y _ h => e14 _ _ h
        by_cases c : k < fls.length
        · rw [List.getElem?_append_left c] at hk
          exact (hfl7 k fl' hk).ex (ex_hid fun c y n h => e14 _ _ (k13 c y n (e712 _ _ h)))
        · have kl := (List.getElem?_eq_some_iff.mp hk).1
          rw [List.length_append, List.length_singleton] at kl
          rw [List.getElem?_append_right (by omega), show k - fls.length = 0 by omega] at hk
          cases hk
          rw [show k = i by omega]
          exact hfl.ex (hx13.trans ex14)
    · rintro σ H7 ⟨lb', fls, y5, y6, y7, y8, y9, y10, y11, rfl, k7, f7, fl7, nb7, hb7, hfl7⟩
      have ex67 : Evl.Ex (hid H6 lf) H7 := fun b o h => by
        have nb : b ≠ lf := fun z => by unfold hid at h; rw [if_pos z] at h; cases h
        exact k7 b o nb (hid_ex H6 lf _ _ h)
      refine q H7 ws (fun b o n h => k7 b o (k06 b o n h).1 (k06 b o n h).2) ⟨dx, lm, lf, fls, k7 _ _ nfr6 r6, k7 _ _ nmf (e6 _ _ m5), f7, by rw [fl7, bl], fun k fl h => ?_⟩ lv
      obtain ⟨b, o, A, h1, h2, h3, h4, h5⟩ := hfl7 k fl h
      exact ⟨b, o, A, h1, h2, h3.ex (hid_ex H7 lf), h4, h5⟩
end
end Wb

set_option Elab.async false
set_option linter.all false
set_option maxRecDepth 100000
set_option maxHeartbeats 4000000
set_option pp.maxSteps 600
set_option pp.deepTerms false
namespace Wb
open PySem PySem.Spec PyProof.Rows L2
/-! ### things of whatever kind: data, with dicts {} and {0: 1} within -/
def one0 : List (Key × V) := [(.inl 0, .int 1)]
mutual
inductive Th (K : PySem.W.Frag) (H : Hp) : V → PyData → Prop where
  | non : Th K H .non .none
  | bl (b : Bool) : Th K H (.bl b) (.bool b)
  | int (i : Int) : Th K H (.int i) (.int i)
  | str (x : Str) : Th K H (.str x) (.str x)
  | d0 {a : Addr} : H a = some (.dK []) → Th K H (.ref a) (.dict [])
  | d1 {a : Addr} : H a = some (.dK one0) → Th K H (.ref a) (.dict [(.int 0, .int 1)])
  | lst {a : Addr} {xs : List V} {ds : List PyData} : H a = some (.lst xs) → ThAll K H xs ds → Th K H (.ref a) (.list ds)
  | tup {a : Addr} {xs : List V} {ds : List PyData} : Rd H a (.tup xs) → ThAll K H xs ds → Th K H (.ref a) (.tuple ds)
inductive ThAll (K : PySem.W.Frag) (H : Hp) : List V → List PyData → Prop where
  | nil : ThAll K H [] []
  | cons {v : V} {d : PyData} {vs : List V} {ds : List PyData} : Th K H v d → ThAll K H vs ds → ThAll K H (v :: vs) (d :: ds)
end
/-- what such things lean on stays -/
structure TK (K : PySem.W.Frag) (H H' : Hp) : Prop where
  t : ∀ a xs, Rd H a (.tup xs) → Rd H' a (.tup xs)
  l : ∀ a xs, H a = some (.lst xs) → H' a = some (.lst xs)
  d0 : ∀ a, H a = some (.dK []) → H' a = some (.dK [])
  d1 : ∀ a, H a = some (.dK one0) → H' a = some (.dK one0)
section
variable {K : PySem.W.Frag} {H H' : Hp} {p c : Addr} {T : Int}
theorem rd_ex {G G' : Hp} (e : Evl.Ex G G') {a : Addr} {u : HO} (h : Rd G a u) : Rd G' a u := h.imp (fun z => e _ _ z) fun ⟨o, z⟩ => ⟨o, e _ _ z⟩
theorem TK.ex (e : Evl.Ex H H') : TK K H H' := ⟨fun _ _ h => rd_ex e h, fun _ _ h => e _ _ h, fun _ h => e _ _ h, fun _ h => e _ _ h⟩
theorem TK.refl (K : PySem.W.Frag) (H : Hp) : TK K H H := TK.ex (Evl.Ex.refl H)
theorem TK.trans {H1 : Hp} (a : TK K H H1) (b : TK K H1 H') : TK K H H' := ⟨fun x o h => b.t x o (a.t x o h), fun x o h => b.l x o (a.l x o h), fun x h => b.d0 x (a.d0 x h), fun x h => b.d1 x (a.d1 x h)⟩
mutual
theorem Th.keep (e : TK K H H') : ∀ {v : V} {d : PyData}, Th K H v d → Th K H' v d
  | _, _, .non => .non
  | _, _, .bl b => .bl b
  | _, _, .int i => .int i
  | _, _, .str x => .str x
  | _, _, .d0 h => .d0 (e.d0 _ h)
  | _, _, .d1 h => .d1 (e.d1 _ h)
  | _, _, .lst h a => .lst (e.l _ _ h) (ThAll.keep e a)
  | _, _, .tup h a => .tup (e.t _ _ h) (ThAll.keep e a)
theorem ThAll.keep (e : TK K H H') : ∀ {vs : List V} {ds : List PyData}, ThAll K H vs ds → ThAll K H' vs ds
  | _, _, .nil => .nil
  | _, _, .cons h a => .cons (Th.keep e h) (ThAll.keep e a)
end
theorem Th.ex (e : Evl.Ex H H') {v : V} {d : PyData} (h : Th K H v d) : Th K H' v d := h.keep (TK.ex e)
theorem ThAll.paired : ∀ {vs : List V} {ds : List PyData}, ThAll K H vs ds → Paired (Th K H) vs ds
  | _, _, .nil => .nil
  | _, _, .cons h t => .cons h (ThAll.paired t)
theorem thAll : ∀ {vs : List V} {ds : List PyData}, Paired (Th K H) vs ds → ThAll K H vs ds
  | _, _, .nil => .nil
  | _, _, .cons h t => .cons h (thAll t)
def tyS : PyData → String
  | .none => "NoneType"
  | .bool _ => "bool"
  | .int _ => "int"
  | .str _ => "str"
  | .list _ => "list"
  | .tuple _ => "tuple"
  | .dict _ => "dict"
theorem tyx_lst {a : Addr} {xs : List V} (h : SqL K H a xs) : TyX K H (.ref a) (.type "list") := by
  rcases h with (h | ⟨o, h⟩) | ⟨o, its, n, h, c, _⟩
  · exact .base (.lst h)
  · exact .base (.frz h)
  · exact .kList h c
theorem Th.ty {v : V} {d : PyData} (h : Th K H v d) : TyX K H v (.type (tyS d)) := by
  cases h with
  | non => exact .base .non
  | bl b => exact .base (.bl b)
  | int i => exact .base (.int i)
  | str x => exact .base (.str x)
  | d0 h => exact .base (.dK h)
  | d1 h => exact .base (.dK h)
  | lst h _ => exact tyx_lst (.inl (.inl h))
  | tup h _ => exact tyx_tup (.inl h)
def isInt : PyData → Bool
  | .int _ => true
  | .bool _ => true
  | _ => false
def isBool : PyData → Bool
  | .bool _ => true
  | _ => false
def isTup : PyData → Bool
  | .tuple _ => true
  | _ => false
def isLst : PyData → Bool
  | .list _ => true
  | _ => false
def isStr : PyData → Bool
  | .str _ => true
  | _ => false
theorem kit_int (d : PyData) : kitB (tyS d) "int" = some (isInt d) := by cases d <;> (simp only [tyS, isInt]; decide +kernel)
theorem kit_bool (d : PyData) : kitB (tyS d) "bool" = some (isBool d) := by cases d <;> (simp only [tyS, isBool]; decide +kernel)
theorem kit_tup (d : PyData) : kitB (tyS d) "tuple" = some (isTup d) := by cases d <;> (simp only [tyS, isTup]; decide +kernel)
theorem kit_lst (d : PyData) : kitB (tyS d) "list" = some (isLst d) := by cases d <;> (simp only [tyS, isLst]; decide +kernel)
theorem kit_str (d : PyData) : kitB (tyS d) "str" = some (isStr d) := by cases d <;> (simp only [tyS, isStr]; decide +kernel)
theorem Th.itemsS {v : V} {ds : List PyData} (h : Th K H v (.tuple ds)) : ∃ a xs, v = .ref a ∧ Rd H a (.tup xs) ∧ Paired (Th K H) xs ds := by
  cases h with
  | tup h a => exact ⟨_, _, rfl, h, a.paired⟩
theorem Th.items {v : V} {ds : List PyData} (h : Th K H v (.tuple ds)) : ∃ a xs, v = .ref a ∧ SqT K H a xs ∧ Paired (Th K H) xs ds := by
  obtain ⟨a, xs, e, h, t⟩ := h.itemsS
  exact ⟨a, xs, e, .inl h, t⟩
theorem Th.tupI {a : Addr} {xs : List V} {ds : List PyData} (h : H a = some (.tup xs)) (hi : Paired (Th K H) xs ds) : Th K H (.ref a) (.tuple ds) := .tup (.inl h) (thAll hi)
end
end Wb

set_option Elab.async false
set_option linter.all false
set_option maxRecDepth 100000
set_option maxHeartbeats 4000000
set_option pp.maxSteps 600
set_option pp.deepTerms false
namespace Wb
open PySem PySem.Spec PyProof.Rows L2
def itemsD : PyData → List PyData
  | .tuple ds => ds
  | _ => []
def placeB : PyData → Int → Bool
  | .int i, m => decide (0 ≤ i) && decide (i < m)
  | _, _ => false
def allP : List PyData → List Int → Bool
  | d :: ds, m :: ms => placeB d m && allP ds ms
  | _, _ => true
def placesB (d : PyData) (ms : List Int) : Bool := isTup d && (decide ((itemsD d).length = ms.length) && allP (itemsD d) ms)
theorem allP_bad : ∀ {ds : List PyData} {ms : List Int} {i : Nat} {d : PyData} {m : Int}, ds[i]? = some d → ms[i]? = some m → placeB d m = false → allP ds ms = false
  | _ :: _, _ :: _, 0, d, m, h1, h2, h => by
    simp at h1 h2
    subst h1 h2
    simp [allP, h]
  | _ :: _, _ :: _, i + 1, d, m, h1, h2, h => by
    have := allP_bad (i := i) (by simpa using h1) (by simpa using h2) h
    simp [allP, this]
  | [], _, _, _, _, h1, _, _ => by simp at h1
  | _ :: _, [], _, _, _, _, h2, _ => by simp at h2
theorem allP_all : ∀ {ds : List PyData} {ms : List Int}, (∀ (i : Nat) (d : PyData) (m : Int), ds[i]? = some d → ms[i]? = some m → placeB d m = true) → allP ds ms = true
  | d :: ds, m :: ms, h => by
    have h0 := h 0 d m rfl rfl
    have := allP_all (ds := ds) (ms := ms) fun i d' m' a b => h (i + 1) d' m' (by simpa using a) (by simpa using b)
    simp [allP, h0, this]
  | [], _, _ => by simp [allP]
  | _ :: _, [], _ => by simp [allP]
def isNon : PyData → Bool
  | .none => true
  | _ => false
section
variable {K : PySem.W.Frag} {H : Hp}
theorem tup_of {d : PyData} (h : isTup d = true) : ∃ ds, d = .tuple ds := by
  cases d <;> first
    | exact ⟨_, rfl⟩
    | cases h
/-- the value of a thing is no int or bool that its data isn't -/
theorem Th.int_of {v : V} {d : PyData} (h : Th K H v d) (hi : isInt d = true) (hb : isBool d = false) : ∃ i, d = .int i ∧ v = .int i := by
  cases d <;> first
    | (cases hi; done)
    | (cases hb; done)
    | skip
  rename_i i
  refine ⟨i, rfl, ?_⟩
  cases h
  rfl
theorem Th.non_iff {v : V} {d : PyData} (h : Th K H v d) : decide (v = .non) = isNon d := by
  cases h <;> simp [isNon]
end
def spTupG (K : PySem.W.Frag) : Sp := fun vs H Q _ => ∃ (v : V) (d : PyData) (l h : Int), vs = [v, .int l, .int h] ∧ Th K H v d ∧ Q (.bl (isTup d && (decide (l ≤ ((itemsD d).length : Int)) && decide (((itemsD d).length : Int) ≤ h)))) H
section
variable {P : Program} {w : World} {K : PySem.W.Frag} {mg : Str → Option Value} {base : Heap}
theorem ok_tupG {f : Addr} {fd : FuncData} (F : Fun K "is_tuple_of" "is_tuple_of" sTupOf f fd) (B : Bi mg) : FnOk P w K mg base CX0 1 f fd ["thing", "low", "high"] (spTupG K) := by
  refine F.ok scTupOf (fun vs H Q E h => ?_) (fun cdv A outer s H vs Q E hr h => ?_)
  · obtain ⟨v, d, l, m, rfl, _⟩ := h; rfl
  · obtain ⟨v, d, l, m, rfl, hv, q⟩ := h
    refine ⟨_, pss_one (ps_ret (pe_and (pe_callB call_isi (by rfl) B.isi boot_isinstance (pa_cons (pv 0) (pa_cons (pe_bltn (v := .ty "tuple") (by rfl) B.tuple (by decide +kernel) rfl) pa_nil)))
      (pe_one (pe_chain op_le op_le (pv 1) (pe_callB call_len_seq (by rfl) B.len PySem.boot_len (pa_cons (pv 0) pa_nil)) (pv 2))))), ?_⟩
    refine ⟨v, rfl, v, .ty "tuple", .type (tyS d), .type "tuple", isTup d, rfl, .ty _, hv.ty, kit_ty (kit_tup d), isTup d, rfl, ?_⟩
    cases ht : isTup d with
    | false =>
      rw [ht] at q
      rw [if_neg Bool.false_ne_true]
      exact q
    | true =>
      rw [ht] at q
      rw [if_pos rfl]
      obtain ⟨ds, rfl⟩ := tup_of ht
      obtain ⟨a, xs, rfl, hx, hi⟩ := hv.items
      have e : ((itemsD (.tuple ds)).length : Int) = xs.length := by rw [(Paired.len hi)]; rfl
      rw [e] at q
      refine ⟨.int l, rfl, .ref a, rfl, a, xs, rfl, .inr hx, l, xs.length, rfl, rfl, decide (l ≤ (xs.length : Int)), rfl, ?_⟩
      by_cases h1 : l ≤ (xs.length : Int)
      · rw [if_pos (decide_eq_true h1)]
        refine ⟨.int m, rfl, xs.length, m, rfl, rfl, ?_⟩
        rw [decide_eq_true h1] at q
        exact q
      · rw [if_neg (by rw [decide_eq_false h1]; exact Bool.false_ne_true)]
        rw [decide_eq_false h1] at q
        exact q
end
def wholeB : PyData → Int → Int → Bool
  | .int i, l, m => decide (l ≤ i) && decide (i ≤ m)
  | _, _, _ => false
def plainInt : PyData → Bool
  | .int _ => true
  | _ => false
theorem plain_eq (d : PyData) : (isInt d && !isBool d) = plainInt d := by cases d <;> rfl
def spWholeG (K : PySem.W.Frag) : Sp := fun vs H Q _ => ∃ (v : V) (d : PyData), vs = [v] ∧ Th K H v d ∧ Q (.bl (plainInt d)) H
def spWholeInG (K : PySem.W.Frag) : Sp := fun vs H Q _ => ∃ (v : V) (d : PyData) (l m : Int), vs = [v, .int l, .int m] ∧ Th K H v d ∧ Q (.bl (wholeB d l m)) H
section
variable {P : Program} {w : World} {K : PySem.W.Frag} {mg : Str → Option Value} {base : Heap}
theorem ok_wholeG {f : Addr} {fd : FuncData} (F : Fun K "is_whole" "is_whole" sWhole f fd) (B : Bi mg) : FnOk P w K mg base CX0 1 f fd ["thing"] (spWholeG K) := by
  refine F.ok scWhole (fun vs H Q E h => ?_) (fun cdv A outer s H vs Q E hr h => ?_)
  · obtain ⟨v, d, rfl, _⟩ := h; rfl
  · obtain ⟨v, d, rfl, hv, q⟩ := h
    refine ⟨_, pss_one (ps_ret (pe_and (pe_callB call_isi (by rfl) B.isi boot_isinstance (pa_cons (pv 0) (pa_cons (pe_bltn (v := .ty "int") (by rfl) B.int (by decide +kernel) rfl) pa_nil)))
      (pe_one (pe_not (pe_callB call_isi (by rfl) B.isi boot_isinstance (pa_cons (pv 0) (pa_cons (pe_bltn (v := .ty "bool") (by rfl) B.bool (by decide +kernel) rfl) pa_nil))))))), ?_⟩
    refine ⟨v, rfl, v, .ty "int", .type (tyS d), .type "int", isInt d, rfl, .ty _, hv.ty, kit_ty (kit_int d), isInt d, rfl, ?_⟩
    rw [← plain_eq] at q
    cases hi : isInt d with
    | false =>
      rw [hi] at q
      rw [if_neg Bool.false_ne_true]
      exact q
    | true =>
      rw [hi] at q
      rw [if_pos rfl]
      exact ⟨v, rfl, v, .ty "bool", .type (tyS d), .type "bool", isBool d, rfl, .ty _, hv.ty, kit_ty (kit_bool d), isBool d, rfl, q⟩
theorem plain_of {v : V} {d : PyData} {H : Hp} (h : Th K H v d) (hp : plainInt d = true) : ∃ i, d = .int i ∧ v = .int i := by
  cases d <;> first
    | (cases hp; done)
    | skip
  rename_i i
  refine ⟨i, rfl, ?_⟩
  cases h
  rfl
theorem ok_wholeInG {f f1 : Addr} {fd fd1 : FuncData} (F : Fun K "is_whole_in" "is_whole_in" sWholeIn f fd) (F1 : Fun K "is_whole" "is_whole" sWhole f1 fd1) (b1 : Binds K fd1 ["thing"] []) (g1 : mg "is_whole" = some (.ref f1)) (B : Bi mg) :
    FnOk P w K mg base CX0 2 f fd ["thing", "low", "high"] (spWholeInG K) := by
  have G1 : FnOk P w K mg base CX0 1 f1 fd1 ["thing"] (spWholeG K) := ok_wholeG F1 B
  refine F.ok scWholeIn (fun vs H Q E h => ?_) (fun cdv A outer s H vs Q E hr h => ?_)
  · obtain ⟨v, d, l, m, rfl, _⟩ := h; rfl
  · obtain ⟨v, d, l, m, rfl, hv, q⟩ := h
    refine ⟨_, pss_one (ps_ret (pe_and (pe_call G1 hr (by rfl) g1 F1.kp b1 .nil pass0 (pa_cons (pv 0) pa_nil)) (pe_one (pe_chain op_le op_le (pv 1) (pv 0) (pv 2))))), ?_⟩
    refine ⟨v, rfl, v, d, rfl, hv, plainInt d, rfl, ?_⟩
    cases hp : plainInt d with
    | false =>
      rw [if_neg Bool.false_ne_true]
      have z : wholeB d l m = false := by
        cases d <;> first
          | rfl
          | cases hp
      rw [z] at q
      exact q
    | true =>
      rw [if_pos rfl]
      obtain ⟨i, rfl, rfl⟩ := plain_of hv hp
      have z : wholeB (.int i) l m = (decide (l ≤ i) && decide (i ≤ m)) := rfl
      rw [z] at q
      refine ⟨.int l, rfl, .int i, rfl, l, i, rfl, rfl, decide (l ≤ i), rfl, ?_⟩
      by_cases h1 : l ≤ i
      · rw [if_pos (decide_eq_true h1)]
        refine ⟨.int m, rfl, i, m, rfl, rfl, ?_⟩
        rw [decide_eq_true h1] at q
        exact q
      · rw [if_neg (by rw [decide_eq_false h1]; exact Bool.false_ne_true)]
        rw [decide_eq_false h1] at q
        exact q
def spPlacesG (K : PySem.W.Frag) : Sp := fun vs H Q _ => ∃ (v : V) (d : PyData) (b : Addr) (m : Bool) (ms : List Int), vs = [v, .ref b] ∧ Th K H v d ∧ SqX K m H b (ms.map V.int) ∧ ∀ H', Evl.Ex H H' → Q (.bl (placesB d ms)) H'
theorem ok_placesG {f f1 : Addr} {fd fd1 : FuncData} (F : Fun K "are_places" "are_places" sPlaces f fd) (F1 : Fun K "is_tuple_of" "is_tuple_of" sTupOf f1 fd1) (b1 : Binds K fd1 ["thing", "low", "high"] []) (g1 : mg "is_tuple_of" = some (.ref f1)) (B : Bi mg) :
    FnOk P w K mg base CX0 2 f fd ["thing", "manys"] (spPlacesG K) := by
  have G1 : FnOk P w K mg base CX0 1 f1 fd1 ["thing", "low", "high"] (spTupG K) := ok_tupG F1 B
  refine F.ok scPlaces (fun vs H Q E h => ?_) (fun cdv A outer s H vs Q E hr h => ?_)
  · obtain ⟨v, d, b, m, ms, rfl, _⟩ := h; rfl
  · obtain ⟨v, d, b, mm, ms, rfl, hv, hy, q⟩ := h
    refine ⟨_, pss_cons (ps_if (pt_not (pt_val (pe_call G1 hr (by rfl) g1 F1.kp b1 .nil pass0 (pa_cons (pv 0) (pa_cons (pe_callB call_len_seq (by rfl) B.len PySem.boot_len (pa_cons (pv 1) pa_nil)) (pa_cons (pe_callB call_len_seq (by rfl) B.len PySem.boot_len (pa_cons (pv 1) pa_nil)) pa_nil))))))
        (pss_one (ps_ret pe_bl)) pss_nil)
      (pss_cons (ps_for PassesOwn.never rfl (pi_zipX (by rfl) B.zip (pa_cons (pv 0) (pa_cons (pv 1) pa_nil))) (pg_tup rfl (pgs_cons (pg_name (i := 2) scPlaces.nd rfl (.inl rfl)) (pgs_cons (pg_name (i := 3) scPlaces.nd rfl (.inl rfl)) pgs_nil)))
        (pss_one (ps_if (PW.pt (pw_or (pt_val (pe_callB call_isi (by rfl) B.isi boot_isinstance (pa_cons (pv 2) (pa_cons (pe_bltn (v := .ty "bool") (by rfl) B.bool (by decide +kernel) rfl) pa_nil))))
            (pw_or (pt_not (pt_val (pe_callB call_isi (by rfl) B.isi boot_isinstance (pa_cons (pv 2) (pa_cons (pe_bltn (v := .ty "int") (by rfl) B.int (by decide +kernel) rfl) pa_nil)))))
              (pw_or1 (pt_not (pt_chain op_le op_lt pe_int (pv 2) (pv 3)))))))
          (pss_one (ps_ret pe_bl)) pss_nil)))
      (pss_one (ps_ret pe_bl))), ?_⟩
    refine ⟨v, rfl, .ref b, rfl, b, _, rfl, sqx_seq hy, .ref b, rfl, b, _, rfl, sqx_seq hy, v, d, _, _, rfl, hv, _, rfl, ?_⟩
    have lm : ((ms.map V.int).length) = ms.length := List.length_map ..
    cases ht : isTup d with
    | false =>
      have z : placesB d ms = false := by unfold placesB; rw [ht]; rfl
      rw [z] at q
      refine iteT ?_
      exact q H (Evl.Ex.refl H)
    | true =>
      obtain ⟨ds, rfl⟩ := tup_of ht
      obtain ⟨a, xs, rfl, hx, hi⟩ := hv.items
      have xl := (Paired.len hi)
      by_cases hl : ds.length = ms.length
      · have z : (decide (((ms.map V.int).length : Int) ≤ ((itemsD (.tuple ds)).length : Int)) && decide (((itemsD (.tuple ds)).length : Int) ≤ ((ms.map V.int).length : Int))) = true := by
          rw [lm]
          show (decide ((ms.length : Int) ≤ (ds.length : Int)) && decide ((ds.length : Int) ≤ (ms.length : Int))) = true
          rw [hl]
          simp
        rw [z]
        refine iteF ?_
        have pB : placesB (.tuple ds) ms = allP ds ms := by
          show (true && (decide (ds.length = ms.length) && allP ds ms)) = _
          rw [decide_eq_true hl]
          simp
        rw [pB] at q
        refine ⟨.ref a, rfl, .ref b, rfl, false, mm, a, b, xs, ms.map V.int, rfl, hx, hy, ?_⟩
        refine for_it (walk_zx (l := false) (m := mm) (xs := xs) (ys := ms.map V.int) (by rw [lm, xl, hl])) (fun i σ H' => ∃ y2 y3, σ = [some (.ref a), some (.ref b), y2, y3] ∧ Evl.Ex H H' ∧ ∀ j d m, j < i → ds[j]? = some d → ms[j]? = some m → placeB d m = true) ⟨none, none, rfl, Evl.Ex.refl H, fun j _ _ z => absurd z (Nat.not_lt_zero j)⟩ ?_ ?_ ?_
        · rintro i σ H' _ ⟨_, _, _, e, _⟩
          exact ⟨Evl.ex_t e hx, sqx_ex e hy⟩
        · rintro i v σ H1 H2 hii ⟨y2, y3, rfl, e, hall⟩ ⟨T, x, y, rfl, nT, rfl, ex, ey⟩
          obtain ⟨k, hk, rfl⟩ := get_map_int ey
          obtain ⟨dx, hdx, hth⟩ := Paired.get1 hi ex
          have e2 : Evl.Ex H (upd H1 T (.tup [x, .int k])) := e.trans (Evl.Ex.new nT)
          have hth2 := hth.keep (TK.ex e2)
          refine ⟨T, [x, .int k], rfl, .inl (.inl upd_same), rfl, x, [.int k], rfl, .int k, [], rfl, rfl, ?_⟩
          refine ⟨x, rfl, x, .ty "bool", .type (tyS dx), .type "bool", isBool dx, rfl, .ty _, hth2.ty, kit_ty (kit_bool dx), isBool dx, rfl, ?_⟩
          have bad : placeB dx k = false → Q (.bl false) (upd H1 T (.tup [x, .int k])) := fun z => by
            have := q _ e2
            rw [allP_bad hdx hk z] at this
            exact this
          cases hb : isBool dx with
          | true =>
            refine iteT (iteT ?_)
            refine bad ?_
            cases dx <;> first
              | rfl
              | cases hb
          | false =>
            refine iteF ?_
            refine ⟨x, rfl, x, .ty "int", .type (tyS dx), .type "int", isInt dx, rfl, .ty _, hth2.ty, kit_ty (kit_int dx), isInt dx, rfl, ?_⟩
            cases hn : isInt dx with
            | false =>
              refine iteT (iteT ?_)
              refine bad ?_
              cases dx <;> first
                | rfl
                | cases hn
            | true =>
              refine iteF ?_
              obtain ⟨n, rfl, rfl⟩ := hth.int_of hn hb
              refine ⟨.int n, rfl, 0, n, rfl, rfl, decide ((0:Int) ≤ n), rfl, ?_⟩
              by_cases h0 : (0 : Int) ≤ n
              · rw [if_pos (decide_eq_true h0)]
                refine ⟨.int k, rfl, n, k, rfl, rfl, decide (n < k), rfl, ?_⟩
                by_cases h1 : n < k
                · rw [decide_eq_true h1]
                  refine iteF ?_
                  refine ⟨_, _, rfl, e2, fun j d m hj hd hm => ?_⟩
                  by_cases hji : j = i
                  · subst hji
                    rw [hdx] at hd
                    rw [hk] at hm
                    cases hd
                    cases hm
                    show (decide (0 ≤ n) && decide (n < k)) = true
                    rw [decide_eq_true h0, decide_eq_true h1]
                    rfl
                  · exact hall j d m (by omega) hd hm
                · rw [decide_eq_false h1]
                  refine iteT ?_
                  refine bad ?_
                  show (decide (0 ≤ n) && decide (n < k)) = false
                  rw [decide_eq_false h1]
                  simp
              · rw [if_neg (by rw [decide_eq_false h0]; exact Bool.false_ne_true)]
                refine ⟨false, rfl, ?_⟩
                refine iteT ?_
                refine bad ?_
                show (decide (0 ≤ n) && decide (n < k)) = false
                rw [decide_eq_false h0]
                rfl
        · rintro σ H' ⟨y2, y3, rfl, e, hall⟩
          have z2 : allP ds ms = true := allP_all fun i d m hd hm => hall i d m (by
            have := (List.getElem?_eq_some_iff.mp hd).1
            omega) hd hm
          have := q H' e
          rw [z2] at this
          exact this
      · have z : (decide (((ms.map V.int).length : Int) ≤ ((itemsD (.tuple ds)).length : Int)) && decide (((itemsD (.tuple ds)).length : Int) ≤ ((ms.map V.int).length : Int))) = false := by
          rw [lm]
          show (decide ((ms.length : Int) ≤ (ds.length : Int)) && decide ((ds.length : Int) ≤ (ms.length : Int))) = false
          rw [Bool.and_eq_false_iff]
          by_cases h : (ms.length : Int) ≤ ds.length
          · exact .inr (decide_eq_false (by omega))
          · exact .inl (decide_eq_false h)
        rw [z]
        have pB : placesB (.tuple ds) ms = false := by
          show (true && (decide (ds.length = ms.length) && allP ds ms)) = false
          rw [decide_eq_false hl]
          rfl
        rw [pB] at q
        refine iteT ?_
        exact q H (Evl.Ex.refl H)
end
end Wb

set_option Elab.async false
set_option linter.all false
set_option maxRecDepth 100000
set_option maxHeartbeats 4000000
set_option pp.maxSteps 600
set_option pp.deepTerms false
namespace Wb
open PySem PySem.Spec PyProof.Rows L2
/-! ### several clauses, each with a name for what it caught -/
/-- a clause: its class, the name's slot, its suite -/
abbrev Cls3 := Value × Nat × (Addr → Value → Option Addr → TS)
/-- a suite's ends, where the name in slot i is gone -/
def unname (i : Nat) (D : Ends) : Ends := { nx := fun τ G => D.nx (τ.set i none) G, rt := D.rt, bk := fun τ G => D.bk (τ.set i none) G, ct := fun τ G => D.ct (τ.set i none) G }
def wEach (K : PySem.W.Frag) (n : Nat) (out : WX) (D : Ends) : List Cls3 → WX
  | [] => out
  | cl :: more => fun kl dd τ G => ∃ t : Bool, PySem.W.exmOne K kl cl.1 = some t ∧ (t = true → ∀ p, G p = none → τ.length = n → cl.2.2 p kl dd (unname cl.2.1 D) (τ.set cl.2.1 (some (.ref p))) G) ∧ (t = false → wEach K n out D more kl dd τ G)
inductive Each (X : Cx) : List ExceptHandler → List Cls3 → Prop
  | nil : Each X [] []
  | cons {x n : Str} {c : Value} {i : Nat} {ts : Addr → Value → Option Addr → TS} {st0 : Stmt} {sts : List Stmt} {p1 p2 : Pos} {hs : List ExceptHandler} {cls : List Cls3} (nm : Names X x c) (at_ : X.N[i]? = some n) (kd : X.env.kindOf n = some .local)
      (go : ∀ (p : Addr) (o : Obj) (kl : Value) (dd : Option Addr) (pn : List (Addr × Obj)), Zc kl dd o → (∃ us, o.data = .fields us) → PSs (X.suite p ((p, o) :: pn)) (st0 :: sts) (ts p kl dd)) (more : Each X hs cls) :
      Each X (.ExceptHandler (some (.Name x p1)) (some n) (st0 :: sts) p2 :: hs) ((c, i, ts) :: cls)
section
variable {X : Cx} {body : List Stmt} {hd0 : ExceptHandler} {hds : List ExceptHandler} {cls : List Cls3} {pos : Pos} {tb : WX → TS} {out : WX}
theorem ps_try_each (stk : X.stack = X.env :: X.outer) (fr : X.env.frame = some X.env.locals) (nodup : X.N.Nodup) (tk : Takes X out)
    (run : ∀ (W : WX) (pn : List (Addr × Obj)) (xe : Value → Shared → Prop), Takes (X.tr pn xe) W → PassesOwn (model X.prog X.w) X.A X.env xe → PSs (X.tr pn xe) body (tb W))
    (each : Each X (hd0 :: hds) cls) : PS X (.Try body (hd0 :: hds) [] [] pos) (fun D τ G => tb (wEach X.K X.N.length out D cls) D τ G) := by
  constructor
  intro pins t0 τ G D I0 ask
  have fine := I0.ok
  have frames : X.A.frames = some (X.env :: X.outer) := by rw [fine.frames, stk]
  apply wpAny_Try_except
  have inner := (run (wEach X.K X.N.length out D cls) (X.pn ++ pins) (fun e t1 => wpAny (model X.prog X.w) X.A (noteFrame e X.env)
    (fun _ t2 => wpAny (model X.prog X.w) X.A (setFlight e none) (fun _ t3 => wpAny (model X.prog X.w) X.A (handleBy e X.env (hd0 :: hds)) (SP X pins D) X.xe t3) X.xe t2) X.xe t1) ?thrown PassesOwn.looking).run [] t0 τ G D (I0.toTry _) ask
  case thrown =>
    intro u t1 xx
    obtain ⟨p, B, tI, pins1, τ1, G1, kl, dd, rfl, J1, newb, ups, sky1, noG, eos, ages, wish⟩ := xx
    have J : Inv X pins τ1 G1 tI := J1.ofTry fine
    rw [stk] at sky1
    show wpAny (model X.prog X.w) X.A (noteFrame (.ref p) X.env) _ _ _
    apply Sky.land Zc.steady frames fr sky1
    intro hh fly up2
    obtain ⟨ob, us, obAt, obZ, obD⟩ := fly.there
    have noFrame : ∀ {h : Heap} {o : Obj} {vs : Array Value}, h.FunFrames B (X.env :: X.outer) → h.get? p = some o → o.data = .fields vs → p ∉ frs (X.env :: X.outer) := by
      intro h o vs ff e1 e2 hm
      obtain ⟨_, o2, e3, no⟩ := ff.mem hm
      rw [e1] at e3
      cases e3
      exact no _ e2
    have out1 := noFrame fly.2.2.1 obAt obD
    have neL : p ≠ X.env.locals := by
      intro z
      exact out1 (List.mem_filterMap.mpr ⟨X.env, List.mem_cons_self, by rw [fr, z]⟩)
    have neF : p ∉ X.fs := by
      intro hm
      obtain ⟨e, he, q⟩ := List.mem_filterMap.mp hm
      exact out1 (List.mem_filterMap.mpr ⟨e, List.mem_cons_of_mem _ he, q⟩)
    have Jh : Inv X pins τ1 G1 { t1 with heap := hh } := J.landed newb fly.1 (ups.trans up2) eos ages
    have Sh := Jh.suite obAt obD noG neL neF
    -- the clauses, one after the other
    have walk : ∀ {hs : List ExceptHandler} {cl : List Cls3}, Each X hs cl → wEach X.K X.N.length out D cl kl dd τ1 G1 → wpAny (model X.prog X.w) X.A (handleBy (.ref p) X.env hs) (SP X pins D) X.xe { t1 with heap := hh } := by
      intro hs cl ok
      induction ok with
      | nil =>
        intro wish1
        apply wpAny_handleBy_nil
        obtain ⟨_, _, _, o2, v2, T, _, _, q1, _, q2, q3, _⟩ := id fly
        unfold PySem.passOn
        apply wpAny_bind (wpAny_field q1 q2 q3 _)
        rw [if_neg (show ¬ ((Value.ref T == Value.none) = true) from by simp)]
        have lift : wpAny (model X.prog X.w) X.A (setFlight (.ref p) X.env.frame) (fun _ t4 => wpAny (model X.prog X.w) X.A (throw (.ref p) : Sem Flow) (SP X pins D) X.xe t4) X.xe { t1 with heap := hh } := by
          rw [fr]
          apply HandSPX.setFlight_upZ fly
          intro h4 held up4
          apply wpAny_throw
          apply tk
          exact ⟨p, B, tI, pins, τ1, G1, kl, dd, rfl, J, newb, (ups.trans up2).trans up4, .inr (.inr (by rw [stk]; exact held)), noG, eos, ages, wish1⟩
        first
          | exact wpAny_bind (wpAny_pure (wpAny_bind lift))
          | exact wpAny_bind lift
      | @cons x n c i ts st0 sts p1 p2 hs2 cl2 nm at_ kd go more ih =>
        intro wish1
        obtain ⟨t, is_, yes, no⟩ := wish1
        refine wpAny_handleBy_cons (codeAny_handlers_test ?_) (fun z => nomatch z)
        have looks := PySem.W.exm_one (M := model X.prog X.w) Jh.kIn (fun A' Q' E' t' keep q => wpAny_typeOf_ref (keep _ _ obAt) (by rw [obZ.1]; exact q)) is_
        have name : ∀ {Q' E' : Value → Shared → Prop}, Q' c { t1 with heap := hh } → wpAny (model X.prog X.w) (X.A.mark (some (.ref p))) (eval (.Name x p1) X.env) Q' E' { t1 with heap := hh } := by
          intro Q' E' q
          obtain ⟨gl, nd, own | ⟨non, blt, nn⟩⟩ := nm
          · exact ld_glob (X := X.suite p ((p, ob) :: (X.pn ++ pins))) Sh gl own q nd
          · exact ld_blt (X := X.suite p ((p, ob) :: (X.pn ++ pins))) Sh gl non blt q nn nd
        apply name
        apply looks.here
        cases t with
        | false =>
          show wpAny _ X.A (handleBy (.ref p) X.env hs2) _ _ _
          exact ih (no rfl)
        | true =>
          apply codeAny_handlers_suite_as
          apply HandSPX.lands_againZ fly
          intro h4 fly4 up4
          obtain ⟨o4, v4, q1, q2, q3⟩ := fly4.there
          have J4 : Inv X pins τ1 G1 { t1 with heap := h4 } := J.landed newb fly4.1 ((ups.trans up2).trans up4) eos ages
          have S4 := J4.suite q1 q3 noG neL neF
          refine store_ok (X := X.suite p ((p, o4) :: (X.pn ++ pins))) (v := .ref p) S4 nodup at_ (.inl kd) rfl (fun t5 S5 => ?_) (.inr kd)
          have ran := (go p o4 kl dd (X.pn ++ pins) q2 ⟨_, q3⟩).run [] t5 _ G1 _ S5 (yes rfl p noG J.len)
          apply wpAny_mono ran ?_ (fun _ _ z => False.elim z)
          intro fl t6 sp6
          have leave : ∀ {τ6 : L2.St} {G6 : Hp} {Q6 : Shared → Prop}, Inv (X.suite p ((p, o4) :: (X.pn ++ pins))) [] τ6 G6 t6 → (∀ t7, Inv X pins (τ6.set i none) G6 t7 → Q6 t7) →
              wpAny (model X.prog X.w) X.A (do bindName X.env n .none; unbindBehindTheSuite X.env n p2) (fun _ t7 => Q6 t7) X.xe t6 := by
            intro τ6 G6 Q6 S6 hq
            exact gone_ok (S6.unsuite fine) nodup at_ kd hq
          cases fl with
          | next =>
            obtain ⟨τ6, G6, S6, q6⟩ := sp6
            exact leave S6 fun t7 J7 => ⟨_, _, J7, q6⟩
          | brk =>
            obtain ⟨τ6, G6, S6, q6⟩ := sp6
            exact leave S6 fun t7 J7 => ⟨_, _, J7, q6⟩
          | cont =>
            obtain ⟨τ6, G6, S6, q6⟩ := sp6
            exact leave S6 fun t7 J7 => ⟨_, _, J7, q6⟩
          | ret u6 =>
            obtain ⟨v6, τ6, G6, S6, r6, q6⟩ := sp6
            exact leave S6 fun t7 J7 => ⟨_, _, _, J7, r6, q6⟩
    exact walk each wish
  refine wpAny_mono inner (fun fl t1 sp1 => ?_) (fun _ _ z => z)
  cases fl with
  | next =>
    obtain ⟨τ1, G1, J1, q⟩ := sp1
    exact wpAny_execs_nil ⟨τ1, G1, J1.ofTry fine, q⟩
  | brk =>
    obtain ⟨τ1, G1, J1, q⟩ := sp1
    exact ⟨τ1, G1, J1.ofTry fine, q⟩
  | cont =>
    obtain ⟨τ1, G1, J1, q⟩ := sp1
    exact ⟨τ1, G1, J1.ofTry fine, q⟩
  | ret u =>
    obtain ⟨v1, τ1, G1, J1, r1, q⟩ := sp1
    exact ⟨v1, τ1, G1, J1.ofTry fine, r1, q⟩
end
/-- isinstance(e, c), e what this clause caught, of whatever class -/
def rIsO (K : PySem.W.Frag) (kl : Value) (dd : Option Addr) (p : Addr) : List V → Hp → VK → Prop := fun xs H Q => ∃ (D : Addr) (c : V) (cv : Value) (b : Bool), kl = .ref D ∧ dd = none ∧ ExcC K D ∧ xs = [.ref p, c] ∧ (∀ u, RelV c u → u = cv) ∧ PySem.W.kitOne K (.ref D) cv = some b ∧ Q (.bl b) H
theorem call_isO {X : Cx} {p : Addr} {o : Obj} {kl : Value} {dd : Option Addr} {pn : List (Addr × Obj)} (z : Zc kl dd o) (fs : ∃ us, o.data = .fields us) : CallR (X.suite p ((p, o) :: pn)) (.builtin "isinstance") (rIsO X.K kl dd p) := by
  intro pins t τ G xs us Q I r h
  obtain ⟨D, c, cv, b, rfl, rfl, C, e, k1, k2, q⟩ := h
  exact call_isE C z fs pins t τ G xs us Q I r ⟨c, cv, b, e, k1, k2, q⟩
/-! ### raise X(), X an own class of exceptions without a call of its own -/
theorem pmk_own0 {X : Cx} {C : Addr} {bmB : List Value} {B newId initId : String} {x : Str} {p pos : Pos} (F : ExcBaseFacts B newId initId bmB) (q : PySem.W.excIn X.K C bmB newId = true) (gC : X.mg x = some (.ref C))
    (kC : PySem.W.keepIn X.K (.ref C) = true) (r : Raises X (.ref C)) (hg : Gl X x) (hdb : (x == ("__debug__" : Str)) = false := by decide) : PMk X (.Call (.Name x p) [] [] pos) (fun _ G Q => Q (.ref C) none G) := by
  intro pins t τ G Q I h
  apply wpAny_Call_Name_kw
  apply ld_glob I hg gC _ hdb
  apply PySem.W.callWith_K0 I.kIn kC
  obtain ⟨bm, N, nm, qn, bs, hdct, sn, sub, ab, col, dd, k0, k1, k2, k3, k5, mN, hC, hN, hni, T⟩ := exc_obj I.kIn q
  exact wpAny_call_exc_subT F T hC hN hni (fun h1 e hm => mk_of I hm r h (I.hok.gone hm.new)) (Nat.zero_le _)
end Wb

set_option Elab.async false
set_option linter.all false
set_option maxRecDepth 100000
set_option maxHeartbeats 8000000
set_option pp.maxSteps 900
set_option pp.deepTerms false
namespace Wb
open PySem PySem.Spec PyProof.Rows L2
/-! ### wishes, of any thing -/
abbrev sWished : Stmt := topS 6
theorem scWished : FnScope ["thing", "manys", "place"] ["thing", "manys"] (defScope sWished) := ⟨rfl, rfl, rfl, by decide +kernel, rfl, by decide +kernel, by decide +kernel⟩
abbrev sNeedW : Stmt := topS 32
theorem scNeedW : FnScope ["lock", "thing"] ["lock", "thing"] (defScope sNeedW) := ⟨rfl, rfl, rfl, by decide +kernel, rfl, by decide +kernel, by decide +kernel⟩
/-- an own class of refusals -/
structure XcK (K : PySem.W.Frag) (mg : Str → Option Value) (nm : Str) where
  C : Addr
  g : mg nm = some (.ref C)
  q : PySem.W.excIn K C [.type "ValueError", .type "Exception", .type "BaseException", .type "object"] "ValueError.__new__" = true
  k : PySem.W.keepIn K (.ref C) = true
  s : PySem.W.subIn K (.ref C) (.type "BaseException") = some true
  t : PySem.W.typeIn K (.ref C) = some (.type "type")
structure WiK (K : PySem.W.Frag) (mg : Str → Option Value) where
  f5 : Addr
  d5 : FuncData
  F5 : Fun K "are_wished" "are_wished" sWished f5 d5
  b5 : Binds K d5 ["thing", "manys"] []
  g5 : mg "are_wished" = some (.ref f5)
  f6 : Addr
  d6 : FuncData
  F6 : Fun K "need_wish" "need_wish" sNeedW f6 d6
  b6 : Binds K d6 ["lock", "thing"] []
  g6 : mg "need_wish" = some (.ref f6)
def orZero : PyData → PyData
  | .none => .int 0
  | d => d
def wishedB (d : PyData) (ms : List Int) : Bool := isTup d && (decide ((itemsD d).length = ms.length) && allP ((itemsD d).map orZero) ms)
def zV (v : V) : V := if decide (v = .non) = true then .int 0 else v
section
variable {K : PySem.W.Frag} {H H' : Hp}
theorem th_zero {v : V} {d : PyData} (h : Th K H v d) : Th K H (zV v) (orZero d) := by
  cases h with
  | non => exact .int 0
  | bl b => exact .bl b
  | int i => exact .int i
  | str x => exact .str x
  | d0 h => exact .d0 h
  | d1 h => exact .d1 h
  | lst h a => exact .lst h a
  | tup h a => exact .tup h a
theorem th_zeros : ∀ {xs : List V} {ds : List PyData}, Paired (Th K H) xs ds → Paired (Th K H) (xs.map zV) (ds.map orZero)
  | _, _, .nil => .nil
  | _, _, .cons r t => .cons (th_zero r) (th_zeros t)
def oD (o : Option Int) : PyData := match o with
  | none => .none
  | some q => .int q
def oVw (o : Option Int) : V := match o with
  | none => .non
  | some q => .int q
/-- the places of a wish -/
def WishIn (w : List (Option Int)) (ms : List Int) : Prop := w.length = ms.length ∧ ∀ (i : Nat) (x m : Int), w[i]? = some (some x) → ms[i]? = some m → 0 ≤ x ∧ x < m
theorem allP_wish : ∀ {w : List (Option Int)} {ms : List Int}, (∀ m ∈ ms, 1 ≤ m) → (∀ (i : Nat) (x m : Int), w[i]? = some (some x) → ms[i]? = some m → 0 ≤ x ∧ x < m) → allP ((w.map oD).map orZero) ms = true
  | [], _, _, _ => by simp [allP]
  | _ :: _, [], _, _ => by simp [allP]
  | o :: w, m :: ms, p, f => by
    have ih := allP_wish (w := w) (ms := ms) (fun m hm => p m (List.mem_cons_of_mem _ hm)) fun i y n a b => f (i + 1) y n (by simpa using a) (by simpa using b)
    have m1 := p m List.mem_cons_self
    rw [List.map_cons, List.map_cons]
    unfold allP
    rw [ih, Bool.and_true]
    cases o with
    | none =>
      show (decide ((0 : Int) ≤ 0) && decide ((0 : Int) < m)) = true
      rw [decide_eq_true (by omega : (0 : Int) < m)]
      rfl
    | some x =>
      obtain ⟨h0, h1⟩ := f 0 x m rfl rfl
      show (decide (0 ≤ x) && decide (x < m)) = true
      rw [decide_eq_true h0, decide_eq_true h1]
      rfl
theorem wished_of {w : List (Option Int)} {ms : List Int} (p : ∀ m ∈ ms, 1 ≤ m) (h : WishIn w ms) : wishedB (.tuple (w.map oD)) ms = true := by
  unfold wishedB itemsD isTup
  rw [Bool.true_and, decide_eq_true (by rw [List.length_map]; exact h.1), Bool.true_and]
  exact allP_wish p h.2
theorem th_wish : ∀ w : List (Option Int), ThAll K H (w.map oVw) (w.map oD)
  | [] => .nil
  | none :: w => .cons .non (th_wish w)
  | some x :: w => .cons (.int x) (th_wish w)
end
def spWishedG (K : PySem.W.Frag) : Sp := fun vs H Q _ => ∃ (v : V) (d : PyData) (b : Addr) (ms : List Int), vs = [v, .ref b] ∧ Th K H v d ∧ SqL K H b (ms.map V.int) ∧ ms.length ≤ 60 ∧ ∀ H', Evl.Ex H H' → Q (.bl (wishedB d ms)) H'
def spNeedWX (K : PySem.W.Frag) (C : Addr) : Sp := fun vs H Q E => ∃ (v u : V) (l : Lock) (d : PyData), vs = [v, u] ∧ LockAt K H v l ∧ l.length ≤ 60 ∧ Th K H u d ∧ (wishedB d (manysOf l) = true → ∀ H', Evl.Ex H H' → Q .non H') ∧ (wishedB d (manysOf l) = false → ∀ H', Evl.Ex H H' → E (.ref C) none H')
section
variable {P : Program} {w : World} {K : PySem.W.Frag} {mg : Str → Option Value} {base : Heap}
theorem ok_wishedG {f f1 f2 : Addr} {fd fd1 fd2 : FuncData} (F : Fun K "are_wished" "are_wished" sWished f fd) (F1 : Fun K "is_tuple_of" "is_tuple_of" sTupOf f1 fd1) (b1 : Binds K fd1 ["thing", "low", "high"] []) (g1 : mg "is_tuple_of" = some (.ref f1))
    (F2 : Fun K "are_places" "are_places" sPlaces f2 fd2) (b2 : Binds K fd2 ["thing", "manys"] []) (g2 : mg "are_places" = some (.ref f2)) (B : Bi mg) :
    FnOk P w K mg base CX0 3 f fd ["thing", "manys"] (spWishedG K) := by
  have G1 : FnOk P w K mg base CX0 1 f1 fd1 ["thing", "low", "high"] (spTupG K) := ok_tupG F1 B
  have G2 : FnOk P w K mg base CX0 2 f2 fd2 ["thing", "manys"] (spPlacesG K) := ok_placesG F2 F1 b1 g1 B
  refine F.ok scWished (fun vs H Q E h => ?_) (fun cdv A outer s H vs Q E hr h => ?_)
  · obtain ⟨v, d, b, ms, rfl, _⟩ := h; rfl
  · obtain ⟨v, d, b, ms, rfl, hv, hy, m60, q⟩ := h
    have hr1 : Room 1 _ := hr.mono (by decide)
    refine ⟨_, pss_cons (ps_if (pt_not (pt_val (pe_call G1 hr1 (by rfl) g1 F1.kp b1 .nil pass0 (pa_cons (pv 0) (pa_cons (pe_callB call_len_seq (by rfl) B.len PySem.boot_len (pa_cons (pv 1) pa_nil)) (pa_cons (pe_callB call_len_seq (by rfl) B.len PySem.boot_len (pa_cons (pv 1) pa_nil)) pa_nil))))))
        (pss_one (ps_ret pe_bl)) pss_nil)
      (pss_one (ps_ret (pe_call G2 hr (by rfl) g2 F2.kp b2 .nil pass0 (pa_cons (pe_callTy (r := rTupK K) call_tupK (by rfl) B.tuple PyProof.Rows.boot_tuple (pa_cons
        (pe_lc (own := [("place", 2)]) (wi := iTup K (tVar 0)) (g := gName 2) rfl scWished.nd (pi_tup (pv 0)) (blkOk_by (own := [("place", 2)]) (N := ["thing", "manys", "place"]) (sc := defScope sWished) (by decide +kernel))
          (fun _ _ _ _ _ => pg_name (i := 2) scWished.nd rfl (Or.inl rfl)) (fun _ _ _ _ _ => pts_nil)
          (fun _ _ _ _ _ => pe_ifExp (pt_cmpR op_isN (pv 2) pe_non (nomark _)) pe_int (pv 2))) pa_nil)) (pa_cons (pv 1) pa_nil))))), ?_⟩
    refine ⟨v, rfl, .ref b, rfl, b, _, rfl, .inl hy, .ref b, rfl, b, _, rfl, .inl hy, v, d, _, _, rfl, hv, _, rfl, ?_⟩
    have lm : ((ms.map V.int).length) = ms.length := List.length_map ..
    cases ht : isTup d with
    | false =>
      have z : wishedB d ms = false := by unfold wishedB; rw [ht]; rfl
      rw [z] at q
      refine iteT ?_
      exact q H (Evl.Ex.refl H)
    | true =>
      obtain ⟨ds, rfl⟩ := tup_of ht
      obtain ⟨a, xs, rfl, hx, hi⟩ := hv.items
      have xl : xs.length = ds.length := Paired.len hi
      by_cases hl : ds.length = ms.length
      · have z : (decide (((ms.map V.int).length : Int) ≤ ((itemsD (.tuple ds)).length : Int)) && decide (((itemsD (.tuple ds)).length : Int) ≤ ((ms.map V.int).length : Int))) = true := by
          rw [lm]
          show (decide ((ms.length : Int) ≤ (ds.length : Int)) && decide ((ds.length : Int) ≤ (ms.length : Int))) = true
          rw [hl]
          simp
        rw [z]
        refine iteF ?_
        refine ⟨.ref a, rfl, a, rfl, ⟨_, hx⟩, fun D hD => ?_⟩
        refine lc_tup (K := K) (a := a) (xs := xs) (fun i H' => Evl.Ex H H' ∧ H' D = some (.lst ((xs.take i).map zV))) ⟨Evl.Ex.new hD, upd_same⟩ ?_ ?_ ?_
        · rintro i H' _ ⟨e, _⟩
          exact Evl.ex_t e hx
        · rintro i x H1 hxi ⟨e, hD1⟩
          have il : i < xs.length := (List.getElem?_eq_some_iff.mp hxi).1
          refine ⟨rfl, x, rfl, rfl, decide (x = .non), rfl, ?_⟩
          have step : H1 D = some (.lst ((xs.take i).map zV)) ∧ ((xs.take i).map zV).length < sizeLine ∧ Evl.Ex H (upd H1 D (.lst ((xs.take i).map zV ++ [zV x]))) ∧ (upd H1 D (.lst ((xs.take i).map zV ++ [zV x]))) D = some (.lst ((xs.take (i + 1)).map zV)) := by
            refine ⟨hD1, Nat.lt_of_le_of_lt (by rw [List.length_map, List.length_take]; omega : ((xs.take i).map zV).length ≤ 60) (by decide), e.mut hD, ?_⟩
            rw [upd_same, take_succ_get hxi, List.map_append]
            rfl
          by_cases hx0 : x = .non
          · have hz : zV x = .int 0 := by unfold zV; rw [if_pos (decide_eq_true hx0)]
            rw [hz] at step
            rw [decide_eq_true hx0]
            refine iteT ?_
            exact ⟨_, step⟩
          · have hz : zV x = x := by unfold zV; rw [if_neg (by rw [decide_eq_false hx0]; exact Bool.false_ne_true)]
            rw [hz] at step
            rw [decide_eq_false hx0]
            refine iteF ?_
            exact ⟨x, rfl, _, step⟩
        · rintro H1 ⟨e, hD1⟩
          rw [List.take_length] at hD1
          refine ⟨D, _, rfl, .inl ⟨.inl (.inl hD1), fun t nt => ?_⟩⟩
          have e2 := Evl.Ex.new (o := .tup (xs.map zV)) nt
          have e12 := e.trans e2
          have hT : Th K (upd H1 t (.tup (xs.map zV))) (.ref t) (.tuple (ds.map orZero)) := Th.tupI upd_same (Paired.imp (fun _ _ z => Th.ex e12 z) (th_zeros hi))
          have pB : placesB (.tuple (ds.map orZero)) ms = wishedB (.tuple ds) ms := by
            show (true && (decide ((ds.map orZero).length = ms.length) && allP (ds.map orZero) ms)) = (true && (decide (ds.length = ms.length) && allP (ds.map orZero) ms))
            rw [List.length_map]
          refine ⟨.ref b, rfl, .ref t, _, b, true, ms, rfl, hT, Evl.ex_l e12 hy, fun H2 e3 => ?_⟩
          rw [pB]
          exact q H2 (e12.trans e3)
      · have z : (decide (((ms.map V.int).length : Int) ≤ ((itemsD (.tuple ds)).length : Int)) && decide (((itemsD (.tuple ds)).length : Int) ≤ ((ms.map V.int).length : Int))) = false := by
          rw [lm]
          show (decide ((ms.length : Int) ≤ (ds.length : Int)) && decide ((ds.length : Int) ≤ (ms.length : Int))) = false
          rw [Bool.and_eq_false_iff]
          by_cases h : (ms.length : Int) ≤ ds.length
          · exact .inr (decide_eq_false (by omega))
          · exact .inl (decide_eq_false h)
        rw [z]
        have pB : wishedB (.tuple ds) ms = false := by
          show (true && (decide (ds.length = ms.length) && allP (ds.map orZero) ms)) = false
          rw [decide_eq_false hl]
          rfl
        rw [pB] at q
        refine iteT ?_
        exact q H (Evl.Ex.refl H)
theorem ok_needWX (D : Pr K mg) (W : WiK K mg) (NW : XcK K mg "NoWish") : FnOk P w K mg base (L2.CX P w) 4 W.f6 W.d6 ["lock", "thing"] (spNeedWX K NW.C) := by
  have G23 : FnOk P w K mg base CX0 1 D.f23 D.d23 ["lock"] (spManys K) := ok_manys D
  have G5 : FnOk P w K mg base CX0 3 W.f5 W.d5 ["thing", "manys"] (spWishedG K) := ok_wishedG W.F5 D.F3 D.b3 D.g3 D.F4 D.b4 D.g4 D.B
  refine W.F6.okX scNeedW (fun vs H Q E h => ?_) (fun cdv A outer s H vs Q E hr h => ?_)
  · obtain ⟨v, u, l, d, rfl, _⟩ := h; rfl
  · obtain ⟨v, u, l, d, rfl, hv, l60, hu, q1, q2⟩ := h
    have hr1 : Room 1 _ := hr.mono (by decide)
    refine ⟨_, pss_one (ps_if (pt_not (pt_val (pe_call G5 hr (by rfl) W.g5 W.F5.kp W.b5 .nil pass0 (pa_cons (pv 1) (pa_cons (pe_call G23 hr1 (by rfl) D.g23 D.F23.kp D.b23 .nil pass0 (pa_cons (pv 0) pa_nil)) pa_nil)))))
      (pss_one (ps_raise rfl (takes_of rfl rfl rfl rfl) (pmk_own0 PySem.F.excBase_ValueError NW.q NW.g NW.k (raises_own NW.s NW.t) (by rfl)))) pss_nil), ?_⟩
    refine ⟨u, rfl, v, rfl, v, l, rfl, hv, l60, fun H1 p e1 np hp => ?_⟩
    refine ⟨u, d, p, manysOf l, rfl, hu.ex e1, SqL.of hp, by unfold manysOf; rw [List.length_map]; exact l60, fun H2 e2 => ?_⟩
    refine ⟨_, rfl, ?_⟩
    cases c : wishedB d (manysOf l) with
    | true => exact iteF (q1 c H2 (e1.trans e2))
    | false => exact iteT (q2 c H2 (e1.trans e2))
end
end Wb

set_option Elab.async false
set_option linter.all false
set_option maxRecDepth 100000
set_option maxHeartbeats 4000000
set_option pp.maxSteps 600
set_option pp.deepTerms false
namespace Wb
open PySem PySem.Spec PyProof.Rows L2
abbrev sTold : Stmt := topS 36
abbrev sTurned : Stmt := topS 37
abbrev nTurned : List Str := ["lock", "bolts", "many", "gaps", "there", "here", "price", "ways"]
theorem scTold : FnScope ["lock"] ["lock"] (defScope sTold) := ⟨rfl, rfl, rfl, by decide +kernel, rfl, by decide +kernel, by decide +kernel⟩
theorem scTurned : FnScope nTurned ["lock"] (defScope sTurned) := ⟨rfl, rfl, rfl, by decide +kernel, rfl, by decide +kernel, by decide +kernel⟩
/-! ### locks turned about -/
def turnG (g : Gap) : Gap := ⟨g.to_, g.frm, g.price, g.ways⟩
theorem turnG_turnG (g : Gap) : turnG (turnG g) = g := rfl
structure IsTurn (b b' : Bolt) : Prop where
  many : b'.many = b.many
  perm : b'.gaps.Perm (b.gaps.map turnG)
  rise : b'.gaps.Pairwise (fun g h => lexLt2 g.frm g.to_ h.frm h.to_)
theorem IsTurn.mem {b b' : Bolt} (h : IsTurn b b') {g : Gap} : g ∈ b'.gaps ↔ turnG g ∈ b.gaps := by
  rw [h.perm.mem_iff, List.mem_map]
  constructor
  · rintro ⟨x, hx, rfl⟩
    exact hx
  · intro hx
    exact ⟨turnG g, hx, rfl⟩
theorem IsTurn.back {b b' : Bolt} (h : IsTurn b b') (r : b.gaps.Pairwise (fun g h => lexLt2 g.frm g.to_ h.frm h.to_)) : IsTurn b' b := by
  refine ⟨h.many.symm, ?_, r⟩
  have z := (h.perm.map turnG).symm
  rw [List.map_map] at z
  have e : (turnG ∘ turnG) = id := rfl
  rw [e, List.map_id] at z
  exact z
theorem IsTurn.one {b b' b'' : Bolt} (h : IsTurn b b') (h' : IsTurn b b'') : b' = b'' := by
  obtain ⟨m', g'⟩ := b'
  obtain ⟨m'', g''⟩ := b''
  have e1 : m' = m'' := h.many.trans h'.many.symm
  have pm : g'.Perm g'' := h.perm.trans h'.perm.symm
  have e2 : g' = g'' := pm.eq_of_pairwise (le := fun g h => lexLt2 g.frm g.to_ h.frm h.to_) (fun a b _ _ h1 h2 => by
    unfold lexLt2 at h1 h2
    omega) h.rise h'.rise
  rw [e1, e2]
theorem turns_one : ∀ {l l' l'' : Lock}, Paired IsTurn l l' → Paired IsTurn l l'' → l' = l''
  | _, _, _, .nil, .nil => rfl
  | _, _, _, .cons a t, .cons a' t' => by rw [a.one a', turns_one t t']
theorem turns_back : ∀ {l l' : Lock}, Paired IsTurn l l' → (∀ b ∈ l, b.gaps.Pairwise (fun g h => lexLt2 g.frm g.to_ h.frm h.to_)) → Paired IsTurn l' l
  | _, _, .nil, _ => .nil
  | _, _, .cons a t, h => .cons (a.back (h _ List.mem_cons_self)) (turns_back t fun b hb => h b (List.mem_cons_of_mem _ hb))
theorem turns_manys : ∀ {l l' : Lock}, Paired IsTurn l l' → manysOf l' = manysOf l
  | _, _, .nil => rfl
  | _, _, .cons a t => by
    have := turns_manys t
    unfold manysOf at *
    rw [List.map_cons, List.map_cons, a.many, this]
theorem rise_of {l : Lock} (ok : LockOk l) : ∀ b ∈ l, b.gaps.Pairwise (fun g h => lexLt2 g.frm g.to_ h.frm h.to_) := fun b hb => by
  obtain ⟨k, hk⟩ := List.mem_iff_getElem?.mp hb
  exact (ok.bolts k b hk).rise
theorem turns_ok {l l' : Lock} (h : Paired IsTurn l l') (ok : LockOk l) : LockOk l' := by
  have ll : l.length = l'.length := Paired.len h
  have n0 := ok.n0
  have n1 := ok.n1
  refine ⟨by omega, by omega, fun k b' hb' => ?_, fun k ws hk nd hc => ?_⟩
  · obtain ⟨b, hb, ht⟩ := Paired.get2 h hb'
    have BO := ok.bolts k b hb
    have mt : manysOf (l'.take k) = manysOf (l.take k) := turns_manys (Paired.takeN k h)
    rw [mt]
    refine ⟨by rw [ht.many]; exact BO.m0, by rw [ht.many]; exact BO.m1, fun g hg => ?_, ht.rise, ?_⟩
    · have G := BO.gaps _ (ht.mem.mp hg)
      rw [ht.many]
      exact ⟨G.t0, G.t1, G.f0, G.f1, fun z => G.ne z.symm, G.p0, G.p1, G.few, G.words, G.rise⟩
    · have e := (ht.perm.map (fun g : Gap => g.ways.length)).sum_nat
      rw [e, List.map_map]
      exact BO.few
  · refine ok.words k ws (by omega) nd fun w hw => ?_
    obtain ⟨j, b', g, u, hj, hb', hg, hu, e⟩ := hc w hw
    obtain ⟨b, hb, ht⟩ := Paired.get2 h hb'
    exact ⟨j, b, turnG g, u, hj, hb, ht.mem.mp hg, hu, e⟩
def gKeyN (g : Gap) : Word := [g.frm, g.to_]
/-- a gap's own tuple -/
def FoundN (H : Hp) (x : V) (g : Gap) : Prop := ∃ (t : Addr) (q : Int) (y : V), x = .ref t ∧ H t = some (.tup [.int g.frm, .int g.to_, .int q, y])
def GFN (K : PySem.W.Frag) (H : Hp) (x : V) (g : Gap) : Prop := GapAt K H x g ∧ FoundN H x g
theorem GFN.mono {K : PySem.W.Frag} {H H' : Hp} (e : TX K H H') {x : V} {g : Gap} (h : GFN K H x g) : GFN K H' x g := by
  obtain ⟨h1, t, q, y, rfl, h2⟩ := h
  exact ⟨GapAt.mono e h1, t, q, y, rfl, e.2 _ _ h2⟩
def kN (H : Hp) : V → Int × Int
  | .ref t => (match H t with
    | some (.tup (.int i :: .int j :: _)) => (i, j)
    | _ => (0, 0))
  | _ => (0, 0)
theorem kN_of {H : Hp} {x : V} {g : Gap} (h : FoundN H x g) : kN H x = (g.frm, g.to_) := by
  obtain ⟨t, q, y, rfl, ht⟩ := h
  simp only [kN, ht]
theorem paired_permN {α β : Type} {R : α → β → Prop} {xs xs' : List α} (h : xs'.Perm xs) : ∀ {ys : List β}, Paired R xs ys → ∃ ys', ys'.Perm ys ∧ Paired R xs' ys' := by
  induction h with
  | nil => intro ys p; cases p; exact ⟨[], List.Perm.refl _, .nil⟩
  | cons x _ ih =>
    intro ys p
    cases p with
    | cons r t =>
      obtain ⟨ys', h1, h2⟩ := ih t
      exact ⟨_, h1.cons _, .cons r h2⟩
  | swap x y l =>
    intro ys p
    cases p with
    | cons r t =>
      cases t with
      | cons r2 t2 => exact ⟨_, List.Perm.swap _ _ _, .cons r2 (.cons r t2)⟩
  | trans _ _ ih1 ih2 =>
    intro ys p
    obtain ⟨ys2, a1, a2⟩ := ih2 p
    obtain ⟨ys3, b1, b2⟩ := ih1 a2
    exact ⟨ys3, b1.trans a1, b2⟩
def spTurn (K : PySem.W.Frag) : Sp := fun vs H Q _ => ∃ (v : V) (l : Lock), vs = [v] ∧ LockAt K H v l ∧ LockOk l ∧ ∀ H' v' l', Evl.Ex H H' → LockAt K H' v' l' → Paired IsTurn l l' → Q v' H'
section
variable {P : Program} {w : World} {K : PySem.W.Frag} {mg : Str → Option Value} {base : Heap}
theorem ok_told (D : Pr K mg) {f : Addr} {fd : FuncData} (F : Fun K "told_lock" "told_lock" sTold f fd) : FnOk P w K mg base CX0 8 f fd ["lock"] (fun vs H Q _ => ∃ (v : V) (l : Lock), vs = [v] ∧ LockAt K H v l ∧ LockOk l ∧ ∀ H', Evl.Ex H H' → Q v H') := by
  have G24 : FnOk P w K mg base CX0 7 D.f24 D.d24 ["lock"] (spFault K) := ok_needL D
  refine F.ok scTold (fun vs H Q E h => ?_) (fun cdv A outer s H vs Q E hr h => ?_)
  · obtain ⟨v, l, rfl, _⟩ := h; rfl
  · obtain ⟨v, l, rfl, hv, ok, q⟩ := h
    refine ⟨_, pss_cons (ps_expr (pe_call G24 hr (by rfl) D.g24 D.F24.kp D.b24 .nil pass0 (pa_cons (pv 0) pa_nil))) (pss_one (ps_ret (pv 0))), ?_⟩
    exact ⟨v, rfl, v, l, rfl, hv, ok, fun H1 e1 => ⟨v, rfl, q H1 e1⟩⟩
/-- the sorted list of the gaps turned about makes the bolt turned about -/
theorem turn_sorted {H : Hp} {b : Bolt} {rvs ys : List V} (BO : ∃ ms, BoltOk ms b) (hr : Paired (GFN K H) rvs (b.gaps.map turnG)) (pm : ys.Perm rvs) (pw : ys.Pairwise (fun x y => TS.rk4 (kN H x) ≤ TS.rk4 (kN H y))) :
    ∃ gs', Paired (GFN K H) ys gs' ∧ IsTurn b ⟨b.many, gs'⟩ := by
  obtain ⟨ms, BO⟩ := BO
  obtain ⟨gs2, gpm, hgy⟩ := paired_permN pm hr
  refine ⟨gs2, hgy, rfl, gpm, ?_⟩
  have m1 := BO.m1
  have bd : ∀ g ∈ gs2, 0 ≤ g.frm ∧ g.frm < 4 ∧ 0 ≤ g.to_ ∧ g.to_ < 4 := fun g hg => by
    obtain ⟨x, hx, rfl⟩ := List.mem_map.mp (gpm.mem_iff.mp hg)
    have G := BO.gaps x hx
    have f0 := G.f0
    have f1 := G.f1
    have t0 := G.t0
    have t1 := G.t1
    exact ⟨t0, by show x.to_ < 4; omega, f0, by show x.frm < 4; omega⟩
  have nd : (gs2.map gKeyN).Nodup := by
    refine (gpm.map gKeyN).nodup_iff.mpr ?_
    rw [List.map_map]
    refine List.pairwise_map.mpr (BO.rise.imp fun {g h} q => ?_)
    intro z
    have z' : [g.to_, g.frm] = [h.to_, h.frm] := z
    injection z' with z1 z2
    injection z2 with z2 _
    unfold lexLt2 at q
    omega
  have ysl : ys.length = gs2.length := Paired.len hgy
  show gs2.Pairwise _
  rw [List.pairwise_iff_getElem]
  intro i j hi hj hij
  obtain ⟨gi, hgi, fi⟩ := Paired.get1 hgy (List.getElem?_eq_getElem (show i < ys.length by omega))
  obtain ⟨gj, hgj, fj⟩ := Paired.get1 hgy (List.getElem?_eq_getElem (show j < ys.length by omega))
  have c := List.pairwise_iff_getElem.mp pw i j (by omega) (by omega) hij
  rw [kN_of fi.2, kN_of fj.2] at c
  have ei : gs2[i] = gi := by rw [List.getElem?_eq_getElem hi] at hgi; exact Option.some.inj hgi
  have ej : gs2[j] = gj := by rw [List.getElem?_eq_getElem hj] at hgj; exact Option.some.inj hgj
  have ne := List.pairwise_iff_getElem.mp nd i j (by rw [List.length_map]; exact hi) (by rw [List.length_map]; exact hj) hij
  rw [List.getElem_map, List.getElem_map, ei, ej] at ne
  rw [ei, ej]
  obtain ⟨a1, a2, a3, a4⟩ := bd gi (by rw [← ei]; exact List.getElem_mem hi)
  obtain ⟨b1, b2, b3, b4⟩ := bd gj (by rw [← ej]; exact List.getElem_mem hj)
  unfold TS.rk4 at c
  have c' : 4 * gi.frm + gi.to_ ≤ 4 * gj.frm + gj.to_ := c
  unfold gKeyN at ne
  have ne' : ¬ (gi.frm = gj.frm ∧ gi.to_ = gj.to_) := fun z => ne (by rw [z.1, z.2])
  unfold lexLt2
  omega
/-- what sorted asks of the list of the gaps turned about -/
theorem turn_asks {H : Hp} {b : Bolt} {rvs : List V} (BO : ∃ ms, BoltOk ms b) (hr : Paired (GFN K H) rvs (b.gaps.map turnG)) :
    (∀ x ∈ rvs, ∃ (t : Addr) (q : Int) (y : V), x = .ref t ∧ SqT K H t [.int (kN H x).1, .int (kN H x).2, .int q, y] ∧ 0 ≤ (kN H x).1 ∧ (kN H x).1 < 4 ∧ 0 ≤ (kN H x).2 ∧ (kN H x).2 < 4) ∧ (∀ x ∈ rvs, ∀ y ∈ rvs, kN H x = kN H y → x = y) := by
  obtain ⟨ms, BO⟩ := BO
  have m1 := BO.m1
  refine ⟨fun x hx => ?_, fun x hx y hy e => ?_⟩
  · obtain ⟨i, hi⟩ := List.mem_iff_getElem?.mp hx
    obtain ⟨g, hg, ⟨_, fa⟩⟩ := Paired.get1 hr hi
    have hk := kN_of fa
    obtain ⟨t, q0, y0, rfl, ht⟩ := fa
    obtain ⟨x0, hx0, rfl⟩ := List.mem_map.mp (List.mem_of_getElem? hg)
    have G := BO.gaps x0 hx0
    have f0 := G.f0
    have f1 := G.f1
    have t0 := G.t0
    have t1 := G.t1
    refine ⟨t, q0, y0, rfl, ?_, ?_⟩
    · rw [hk]
      exact .inl (.inl ht)
    · rw [hk]
      exact ⟨t0, by show x0.to_ < 4; omega, f0, by show x0.frm < 4; omega⟩
  · obtain ⟨i, hi⟩ := List.mem_iff_getElem?.mp hx
    obtain ⟨j, hj⟩ := List.mem_iff_getElem?.mp hy
    obtain ⟨g, hg, hgf⟩ := Paired.get1 hr hi
    obtain ⟨g', hg', hgf'⟩ := Paired.get1 hr hj
    rw [kN_of hgf.2, kN_of hgf'.2] at e
    have q1 : g.frm = g'.frm := congrArg Prod.fst e
    have q2 : g.to_ = g'.to_ := congrArg Prod.snd e
    rw [List.getElem?_map] at hg hg'
    have nd : (b.gaps.map gKeyN).Nodup := List.pairwise_map.mpr (BO.rise.imp fun {g h} q => by
      intro z
      have z' : [g.frm, g.to_] = [h.frm, h.to_] := z
      injection z' with z1 z2
      injection z2 with z2 _
      unfold lexLt2 at q
      omega)
    obtain ⟨a, ha, rfl⟩ := Option.map_eq_some_iff.mp hg
    obtain ⟨a', ha', rfl⟩ := Option.map_eq_some_iff.mp hg'
    have ek : gKeyN a = gKeyN a' := by
      have z1 : a.to_ = a'.to_ := q1
      have z2 : a.frm = a'.frm := q2
      unfold gKeyN
      rw [z1, z2]
    have e1 : (b.gaps.map gKeyN)[i]? = some (gKeyN a) := by rw [List.getElem?_map, ha]; rfl
    have e2 : (b.gaps.map gKeyN)[j]? = some (gKeyN a) := by rw [List.getElem?_map, ha', ek]; rfl
    have il := (List.getElem?_eq_some_iff.mp e1).1
    have ij : i = j := (List.getElem?_inj il nd).mp (e1.trans e2.symm)
    subst ij
    rw [hi] at hj
    exact Option.some.inj hj
end
/-- a gap's tuple turned about, made of its four things -/
theorem gf_turn {K : PySem.W.Frag} {H : Hp} {t b2 : Addr} {ws : List V} {g : Gap} (h : H t = some (.tup [.int g.to_, .int g.frm, .int g.price, .ref b2])) (k2 : SqT K H b2 ws) (k3 : Paired (Wd K H) ws g.ways) : GFN K H (.ref t) (turnG g) :=
  ⟨⟨t, b2, ws, rfl, .inl (.inl h), k2, k3⟩, t, g.price, .ref b2, rfl, h⟩
theorem GFN.new {K : PySem.W.Frag} {H H' : Hp} (e : Evl.Ex H H') {x : V} {g : Gap} (h : GFN K H x g) : GFN K H' x g := GFN.mono (TX.ex e) h
theorem GFN.put {K : PySem.W.Frag} {H : Hp} {l : Addr} {xs : List V} {o : HO} (h : H l = some (.lst xs)) {x : V} {g : Gap} (q : GFN K H x g) : GFN K (upd H l o) x g := GFN.mono (TX.put h) q
section
variable {P : Program} {w : World} {K : PySem.W.Frag} {mg : Str → Option Value} {base : Heap}
theorem ok_turned (D : Pr K mg) {f f1 : Addr} {fd fd1 : FuncData} (F : Fun K "turned" "turned" sTurned f fd) (F1 : Fun K "told_lock" "told_lock" sTold f1 fd1) (b1 : Binds K fd1 ["lock"] []) (g1 : mg "told_lock" = some (.ref f1)) : FnOk P w K mg base CX0 9 f fd ["lock"] (spTurn K) := by
  have G24 : FnOk P w K mg base CX0 7 D.f24 D.d24 ["lock"] (spFault K) := ok_needL D
  have G1 := ok_told (P := P) (w := w) (base := base) D F1
  refine F.ok scTurned (fun vs H Q E h => ?_) (fun cdv A outer s H vs Q E hr h => ?_)
  · obtain ⟨v, l, rfl, _⟩ := h; rfl
  · obtain ⟨v, l, rfl, hv, ok, q⟩ := h
    have hr7 : Room 7 _ := hr.mono (by decide)
    refine ⟨_, pss_cons (ps_expr (pe_call G24 hr7 (by rfl) D.g24 D.F24.kp D.b24 .nil pass0 (pa_cons (pv 0) pa_nil)))
      (pss_cons (ps_set (i := 1) scTurned.nd rfl (.inl rfl) (pe_lst pa_nil))
      (pss_cons (ps_for PassesOwn.never rfl (pi_tup (pv 0)) (pg_tup rfl (pgs_cons (pg_name (i := 2) scTurned.nd rfl (.inl rfl)) (pgs_cons (pg_name (i := 3) scTurned.nd rfl (.inl rfl)) pgs_nil)))
        (pss_one (ps_expr (pe_bm PySem.F.plainAttrs_list PySem.F.slot_list_append PySem.F.type_list_append mt_append (pv 1) (pa_cons (pe_tup (pa_cons (pv 2) (pa_cons
          (pe_callTy call_tuple_of (by rfl) D.B.tuple PyProof.Rows.boot_tuple (pa_cons (pe_callB cr_sortG (by rfl) D.B.sorted boot_sorted (pa_cons
            (pe_lc (own := [("there", 4), ("here", 5), ("price", 6), ("ways", 7)]) (wi := iTup K (tVar 3)) (g := gTup K 4 (gCons (gName 5) (gCons (gName 4) (gCons (gName 6) (gCons (gName 7) gNil))))) rfl scTurned.nd (pi_tup (pv 3))
              (blkOk_by (own := [("there", 4), ("here", 5), ("price", 6), ("ways", 7)]) (N := nTurned) (sc := defScope sTurned) (by decide +kernel))
              (fun _ _ _ _ _ => pg_tup rfl (pgs_cons (pg_name (i := 5) scTurned.nd rfl (Or.inl rfl)) (pgs_cons (pg_name (i := 4) scTurned.nd rfl (Or.inl rfl)) (pgs_cons (pg_name (i := 6) scTurned.nd rfl (Or.inl rfl)) (pgs_cons (pg_name (i := 7) scTurned.nd rfl (Or.inl rfl)) pgs_nil)))))
              (fun _ _ _ _ _ => pts_nil)
              (fun _ _ _ _ _ => pe_tup (pa_cons (pv 4) (pa_cons (pv 5) (pa_cons (pv 6) (pa_cons (pv 7) pa_nil)))))) pa_nil)) pa_nil)) pa_nil))) pa_nil)))))
      (pss_one (ps_ret (pe_call G1 hr (by rfl) g1 F1.kp b1 .nil pass0 (pa_cons (pe_callTy call_tuple_of (by rfl) D.B.tuple PyProof.Rows.boot_tuple (pa_cons (pv 1) pa_nil)) pa_nil)))))), ?_⟩
    refine ⟨v, rfl, v, l, rfl, hv, ok, fun H0 e0 => ?_⟩
    obtain ⟨a, bs, rfl, ha, hbs⟩ := hv
    have bl : bs.length = l.length := Paired.len hbs
    have l60 := ok.n1
    refine ⟨Nat.zero_le _, fun r0 nr0 => ?_⟩
    have e1 := e0.trans (Evl.Ex.new (o := .lst []) nr0)
    have nr : H r0 = none := Evl.fresh_back e0 nr0
    refine ⟨.ref a, rfl, a, rfl, ⟨bs, Evl.ex_t e1 ha⟩, ?_⟩
    refine for_tup (K := K) (a := a) (xs := bs) (fun i σ H' => ∃ (rvs : List V) (rl : Lock) (y2 y3 y4 y5 y6 y7 : Option V), σ = [some (.ref a), some (.ref r0), y2, y3, y4, y5, y6, y7] ∧ Evl.Ex H H' ∧ H' r0 = some (.lst rvs) ∧ Paired (BoltAt K H') rvs rl ∧ Paired IsTurn (l.take i) rl)
      ⟨[], [], none, none, none, none, none, none, rfl, e1, upd_same, .nil, .nil⟩ ?_ ?_ ?_
    · rintro i σ H1 _ ⟨_, _, _, _, _, _, _, _, _, e, _⟩
      exact Evl.ex_t e ha
    · rintro i x σ H1 hx ⟨rvs, rl, y2, y3, y4, y5, y6, y7, rfl, e1, hr1, hrv, hT⟩
      obtain ⟨b, hb, ⟨a1, c1, gs, rfl, h1, h2, h3⟩⟩ := Paired.get1 hbs hx
      have il : i < l.length := (List.getElem?_eq_some_iff.mp hb).1
      have BO := ok.bolts i b hb
      have g16 := gaps_16 ok hb
      have gl : gs.length = b.gaps.length := Paired.len h3
      have rvl : rvs.length = rl.length := Paired.len hrv
      have rll : (l.take i).length = rl.length := Paired.len hT
      rw [List.length_take] at rll
      refine ⟨a1, _, rfl, Evl.ex_t e1 h1, rfl, _, _, rfl, _, _, rfl, rfl, ?_⟩
      refine ⟨.ref r0, rfl, .inl ⟨rfl, _, SqL.of hr1⟩, .int b.many, rfl, ?_⟩
      refine ⟨.ref c1, rfl, c1, rfl, ⟨gs, Evl.ex_t e1 h2⟩, fun D0 hD => ?_⟩
      refine lc_tup (K := K) (a := c1) (xs := gs) (fun j H' => ∃ vvs : List V, Evl.Ex H1 H' ∧ H' D0 = some (.lst vvs) ∧ Paired (GFN K H') vvs ((b.gaps.take j).map turnG)) ⟨[], Evl.Ex.new hD, upd_same, .nil⟩ ?_ ?_ ?_
      · rintro j H2 _ ⟨_, e2, _⟩
        exact Evl.ex_t (e1.trans e2) h2
      · rintro j x H2 hj ⟨vvs, e2, hD2, hvv⟩
        obtain ⟨g, hg, ⟨a2, b2, ws, rfl, k1, k2, k3⟩⟩ := Paired.get1 h3 hj
        have jl : j < b.gaps.length := (List.getElem?_eq_some_iff.mp hg).1
        have vl : vvs.length = j := by
          have := Paired.len hvv
          rw [List.length_map, List.length_take] at this
          omega
        have e12 := e1.trans e2
        refine ⟨a2, _, rfl, Evl.ex_t e12 k1, rfl, _, _, rfl, _, _, rfl, _, _, rfl, _, _, rfl, rfl, rfl, ?_⟩
        refine ⟨.int g.to_, rfl, .int g.frm, rfl, .int g.price, rfl, .ref b2, rfl, (by show 4 ≤ sizeLine; decide), fun t nt => ?_⟩
        have e3 := Evl.Ex.new (o := .tup [.int g.to_, .int g.frm, .int g.price, .ref b2]) nt
        have g3 : (upd H2 t (.tup [.int g.to_, .int g.frm, .int g.price, .ref b2])) t = some (.tup [.int g.to_, .int g.frm, .int g.price, .ref b2]) := upd_same
        generalize upd H2 t (.tup [.int g.to_, .int g.frm, .int g.price, .ref b2]) = H3 at e3 g3
        have hD3 := e3 _ _ hD2
        refine ⟨vvs, hD3, Nat.lt_of_le_of_lt (by omega : vvs.length ≤ 16) (by decide), vvs ++ [.ref t], (e2.trans e3).mut hD, upd_same, ?_⟩
        rw [take_succ_get hg, List.map_append]
        have e123 := e12.trans e3
        exact Paired.imp (fun _ _ => GFN.put hD3) (paired_app1 (Paired.imp (fun _ _ => GFN.new e3) hvv) (gf_turn g3 (Evl.ex_t e123 k2) (Paired.imp (fun _ _ => Wd.mono (TX.ex e123)) k3)))
      · rintro H2 ⟨vvs, e2, hD2, hvv⟩
        rw [gl, List.take_length] at hvv
        have vl : vvs.length = b.gaps.length := by rw [Paired.len hvv, List.length_map]
        obtain ⟨t1, t2⟩ := turn_asks ⟨_, BO⟩ hvv
        refine ⟨D0, vvs, kN H2, rfl, SqL.of hD2, by omega, t1, t2, fun ys O pm pw nO => ?_⟩
        obtain ⟨gs', hgs, hIT⟩ := turn_sorted ⟨_, BO⟩ hvv pm pw
        have e3 := Evl.Ex.new (o := .lst ys) nO
        have gO : (upd H2 O (.lst ys)) O = some (.lst ys) := upd_same
        generalize upd H2 O (.lst ys) = H3 at e3 gO
        refine ⟨O, ys, rfl, .inl ⟨.inl (.inl gO), fun t nt => ?_⟩⟩
        have e4 := Evl.Ex.new (o := .tup ys) nt
        have gt : (upd H3 t (.tup ys)) t = some (.tup ys) := upd_same
        generalize upd H3 t (.tup ys) = H4 at e4 gt
        refine ⟨(by show 2 ≤ sizeLine; decide), fun tb ntb => ?_⟩
        have e5 := Evl.Ex.new (o := .tup [.int b.many, .ref t]) ntb
        have gb : (upd H4 tb (.tup [.int b.many, .ref t])) tb = some (.tup [.int b.many, .ref t]) := upd_same
        generalize upd H4 tb (.tup [.int b.many, .ref t]) = H5 at e5 gb
        have e15 := e2.trans (e3.trans (e4.trans e5))
        have hr5 := e15 _ _ hr1
        have hB : BoltAt K H5 (.ref tb) ⟨b.many, gs'⟩ := ⟨tb, t, ys, rfl, .inl (.inl gb), .inl (.inl (e5 _ _ gt)), Paired.imp (fun _ _ h => GapAt.mono (TX.ex (e3.trans (e4.trans e5))) h.1) hgs⟩
        refine ⟨r0, rvs, _, rfl, rfl, hr5, Nat.lt_of_le_of_lt (by omega : rvs.length ≤ 60) (by decide), rvs ++ [.ref tb], rl ++ [⟨b.many, gs'⟩], _, _, _, _, _, _, rfl, (e1.trans e15).mut nr, upd_same, ?_, ?_⟩
        · exact Paired.imp (fun _ _ => BoltAt.mono (TX.put hr5)) (paired_app1 (Paired.imp (fun _ _ => BoltAt.mono (TX.ex e15)) hrv) hB)
        · rw [take_succ_get hb]
          exact paired_app1 hT hIT
    · rintro σ H1 ⟨rvs, rl, y2, y3, y4, y5, y6, y7, rfl, e1, hr1, hrv, hT⟩
      rw [bl, List.take_length] at hT
      refine ⟨.ref r0, rfl, r0, rvs, rfl, .inl ⟨.inl (.inl hr1), fun t nt => ?_⟩⟩
      have e2 := Evl.Ex.new (o := .tup rvs) nt
      have gt : (upd H1 t (.tup rvs)) t = some (.tup rvs) := upd_same
      generalize upd H1 t (.tup rvs) = H2 at e2 gt
      have hL : LockAt K H2 (.ref t) rl := ⟨t, rvs, rfl, .inl (.inl gt), Paired.imp (fun _ _ => BoltAt.mono (TX.ex e2)) hrv⟩
      refine ⟨.ref t, rl, rfl, hL, turns_ok hT ok, fun H3 e3 => ?_⟩
      exact q H3 (.ref t) rl (e1.trans (e2.trans e3)) (LockAt.mono (TX.ex e3) hL) hT
end
/-! ### ways in a lock turned about -/
theorem stp_turn {l l' : Lock} (h : Paired IsTurn l l') {u v : Word} (s : Stp l' u v) : Stp l v u := by
  obtain ⟨k, b', g, hb', hg, hf, hw, rfl⟩ := s
  obtain ⟨b, hb, ht⟩ := Paired.get2 h hb'
  have kl : k < u.length := (List.getElem?_eq_some_iff.mp hf).1
  refine ⟨k, b, turnG g, hb, ht.mem.mp hg, List.getElem?_set_self kl, ?_, ?_⟩
  · rw [List.take_set_of_le (Nat.le_refl k)]
    exact hw
  · exact (set_self hf g.to_).symm
theorem rch_turn {l l' : Lock} (h : Paired IsTurn l l') {u v : Word} (r : Rch l' u v) : Rch l v u := by
  induction r with
  | refl => exact .refl _
  | step _ s ih => exact (Rch.one (stp_turn h s)).trans ih
theorem rch_turns {l l' : Lock} (h : Paired IsTurn l l') (ok : LockOk l) {u v : Word} : Rch l' u v ↔ Rch l v u := ⟨rch_turn h, rch_turn (turns_back h (rise_of ok))⟩
end Wb

set_option Elab.async false
set_option linter.all false
set_option maxRecDepth 100000
set_option maxHeartbeats 8000000
set_option pp.maxSteps 900
set_option pp.deepTerms false
namespace Wb
open PySem PySem.Spec PyProof.Rows L2
/-! ### coming, come_to -/
abbrev sComeTo : Stmt := topS 41
theorem scComeTo : FnScope ["lock", "wish"] ["lock", "wish"] (defScope sComeTo) := ⟨rfl, rfl, rfl, by decide +kernel, rfl, by decide +kernel, by decide +kernel⟩
structure CoK (K : PySem.W.Frag) (mg : Str → Option Value) where
  f2 : Addr
  d2 : FuncData
  F2 : Fun K "come_to" "come_to" sComeTo f2 d2
  b2 : Binds K d2 ["lock", "wish"] []
  g2 : mg "come_to" = some (.ref f2)
  f3 : Addr
  d3 : FuncData
  F3 : Fun K "told_lock" "told_lock" sTold f3 d3
  b3 : Binds K d3 ["lock"] []
  g3 : mg "told_lock" = some (.ref f3)
  f4 : Addr
  d4 : FuncData
  F4 : Fun K "turned" "turned" sTurned f4 d4
  b4 : Binds K d4 ["lock"] []
  g4 : mg "turned" = some (.ref f4)
theorem oVw_eq : oVw = oV := by funext o; cases o <;> rfl
theorem lks_from {l l' : Lock} (lk : LkS l) (e : manysOf l' = manysOf l) (ok : LockOk l') : LkS l' := by
  refine ⟨?_, fun b hb => ?_, fun b hb => ?_, by rw [e]; exact lk.prod⟩
  · have h := congrArg List.length e
    unfold manysOf at h
    rw [List.length_map, List.length_map] at h
    rw [h]
    exact lk.few
  · obtain ⟨k, hk⟩ := List.mem_iff_getElem?.mp hb
    exact ⟨gaps_16 ok hk, fun g hg => small_ways ok hk hg⟩
  · obtain ⟨k, hk⟩ := List.mem_iff_getElem?.mp hb
    have B := ok.bolts k b hk
    have h2 := B.m0
    refine ⟨⟨by omega, B.m1⟩, fun g hg => ?_⟩
    have G := B.gaps g hg
    exact ⟨G.t0, G.t1⟩
theorem many_pos {l : Lock} (ok : LockOk l) : ∀ m ∈ manysOf l, 1 ≤ m := fun m hm => by
  unfold manysOf at hm
  obtain ⟨b, hb, rfl⟩ := List.mem_map.mp hm
  obtain ⟨k, hk⟩ := List.mem_iff_getElem?.mp hb
  have := (ok.bolts k b hk).m0
  omega
/-- what is asked of a wish, and what is told of it -/
def WishAsk (K : PySem.W.Frag) (H : Hp) (u : V) (ms : List Int) (CW : Addr) (Q : VK) (E : XK) (T : List (Option Int) → Word → Prop) : Prop :=
  (∃ (wa : Addr) (w : List (Option Int)), u = .ref wa ∧ Rd H wa (.tup (w.map oV)) ∧ WishIn w ms ∧ ∀ H' n, Evl.Ex H H' → (∀ F : List Word, F.Nodup → (∀ x, x ∈ F ↔ InAll x ms ∧ T w x) → F.length = n) → Q (.int (n : Nat)) H') ∨
  ∃ d, Th K H u d ∧ wishedB d ms = false ∧ ∀ H', Evl.Ex H H' → E (.ref CW) none H'
def spComeTo (K : PySem.W.Frag) (CW : Addr) : Sp := fun vs H Q E => ∃ (v u : V) (l : Lock), vs = [v, u] ∧ LockAt K H v l ∧ LockOk l ∧ LkS l ∧ WishAsk K H u (manysOf l) CW Q E fun w x => ∃ s, Rch l s x ∧ meetsW w s
section
variable {P : Program} {w : World} {K : PySem.W.Frag} {mg : Str → Option Value} {base : Heap}
theorem ok_comeTo (D : Pr K mg) (W : WiK K mg) (NW : XcK K mg "NoWish") (F : FlC K mg) (R : RcC K mg) (C : CoK K mg) : FnOk P w K mg base (L2.CX P w) 10 C.f2 C.d2 ["lock", "wish"] (spComeTo K NW.C) := by
  have GL : FnOk P w K mg base CX0 7 D.f24 D.d24 ["lock"] (spFault K) := ok_needL D
  have GW : FnOk P w K mg base (L2.CX P w) 4 W.f6 W.d6 ["lock", "thing"] (spNeedWX K NW.C) := ok_needWX D W NW
  have GT : FnOk P w K mg base CX0 9 C.f4 C.d4 ["lock"] (spTurn K) := ok_turned D C.F4 C.F3 C.b3 C.g3
  have GI : FnOk P w K mg base CX0 5 R.f0 R.d0 ["self", "lock", "wish"] (spRInit K F.C R.C) := ok_rInit D.F10 D.g10 D.b10 F R D.B
  have GC : FnOk P w K mg base CX0 3 R.f2 R.d2 ["self"] (spCount F.C R.C) := ok_count F R D.B
  refine C.F2.okX scComeTo (fun vs H Q E h => ?_) (fun cdv A' outer s H vs Q E hr h => ?_)
  · obtain ⟨v, u, l, rfl, _⟩ := h; rfl
  · obtain ⟨v, u, l, rfl, hl, ok, lk, ask⟩ := h
    have hr3 : Room 3 _ := hr.mono (by decide)
    have hr4 : Room 4 _ := hr.mono (by decide)
    have hr6 : Room 6 _ := hr.mono (by decide)
    have hr7 : Room 7 _ := hr.mono (by decide)
    refine ⟨_, (pss_cons (ps_expr (pe_call GL hr7 (by rfl) D.g24 D.F24.kp D.b24 .nil pass0 (pa_cons (pv 0) pa_nil)))
      (pss_cons (ps_expr (pe_call GW hr4 (by rfl) W.g6 W.F6.kp W.b6 .nil (passes_call (W := fun cls dd _ G => E cls dd G) (takes_of rfl rfl rfl rfl) (fun _ _ _ _ z => z)) (pa_cons (pv 0) (pa_cons (pv 1) pa_nil))))
      (pss_one (ps_ret (pe_meth0 (pe_make R.M GI hr6 (by rfl) R.g R.b0 .nil pass0 (pa_cons (pe_call GT hr (by rfl) C.g4 C.F4.kp C.b4 .nil pass0 (pa_cons (pv 0) pa_nil)) (pa_cons (pv 1) pa_nil))) R.cl R.m2 GC hr3 R.b2 .nil pass0))))), ?_⟩
    refine ⟨v, rfl, v, l, rfl, hl, ok, fun H1 e1 => ?_⟩
    rcases ask with ⟨wa, ww, rfl, hw, wi, q⟩ | ⟨d, hd, bad, q⟩
    · have th : Th K H1 (.ref wa) (.tuple (ww.map oD)) := .tup (rd_ex e1 (by rw [oVw_eq]; exact hw)) (th_wish ww)
      refine ⟨v, rfl, .ref wa, rfl, v, .ref wa, l, _, rfl, hl.mono (TX.ex e1), ok.n1, th, fun _ H2 e2 => ?_, fun z => absurd (z.symm.trans (wished_of (many_pos ok) wi)) Bool.false_ne_true⟩
      have e12 := e1.trans e2
      refine ⟨v, rfl, v, l, rfl, hl.mono (TX.ex e12), ok, fun H2' v' l' e2' hl' tn => ?_⟩
      have e12' := e12.trans e2'
      have ok' := turns_ok tn ok
      have em := turns_manys tn
      have lk' := lks_from lk em ok'
      refine ⟨.ref wa, rfl, fun x dx nx ndx ndf => ?_⟩
      have e3 : Evl.Ex H2' (upd (upd H2' dx (.own x)) x (.ins R.C dx [])) := fun c y h => by
        rw [upd_ne (fun z => by rw [z, nx] at h; cases h), upd_ne (fun z => by rw [z, ndx] at h; cases h)]
        exact h
      have gx : (upd (upd H2' dx (.own x)) x (.ins R.C dx [])) x = some (.ins R.C dx []) := upd_same
      generalize upd (upd H2' dx (.own x)) x (.ins R.C dx []) = H3 at e3 gx
      have wl : ww.length = l'.length := by
        rw [wi.1, ← em]; unfold manysOf; rw [List.length_map]
      refine ⟨x, dx, wa, v', l', ww, rfl, gx, hl'.mono (TX.ex e3), ok', lk', .inl (rd_ex (e12'.trans e3) hw), wl, fun H4 ws k4 ra lv => ?_⟩
      have e24 : Evl.Ex H2' H4 := fun b o h => k4 b o (fun z => by rw [z, nx] at h; cases h) (e3 _ _ h)
      have ra' := ra.at_
      obtain ⟨dx', lm, lf, fls, hrc, _⟩ := ra'
      refine ⟨rfl, x, dx', _, rfl, hrc, rfl, x, l', ws, ww, rfl, ra, lv, wl, lk', fun H5 kvs e5 hist => ?_⟩
      refine q H5 _ (e12'.trans (e24.trans e5)) fun F nd mem => (count_leads hist nd fun y => ?_).symm
      rw [mem y, em]
      exact and_congr_right fun _ => exists_congr fun s => and_congr_left fun _ => (rch_turns tn ok).symm
    · exact ⟨v, rfl, u, rfl, v, u, l, d, rfl, hl.mono (TX.ex e1), ok.n1, hd.ex e1, fun z => absurd (bad.symm.trans z) Bool.false_ne_true, fun _ H2 e2 => q H2 (e1.trans e2)⟩
end
end Wb

set_option Elab.async false
set_option linter.all false
set_option maxRecDepth 100000
set_option maxHeartbeats 8000000
set_option pp.maxSteps 900
set_option pp.deepTerms false
namespace Wb
open PySem PySem.Spec PyProof.Rows L2
/-! ### stands and wishes as the law draws them -/
abbrev sWish : Stmt := topS 49
abbrev nWish : List Str := ["_law_pen_here", "_law_sizes_here", "_law_is_open", "_law_lot", "_law_many", "_law_place"]
theorem scWish : FnScope nWish ["_law_pen_here", "_law_sizes_here", "_law_is_open"] (defScope sWish) := ⟨rfl, rfl, rfl, by decide +kernel, rfl, by decide +kernel, by decide +kernel⟩
theorem wishIn_nil : WishIn [] [] := ⟨rfl, fun i x m h => by simp at h⟩
theorem wishIn_snoc {w : List (Option Int)} {ms : List Int} {o : Option Int} {m : Int} (h : WishIn w ms) (ho : ∀ x, o = some x → 0 ≤ x ∧ x < m) : WishIn (w ++ [o]) (ms ++ [m]) := by
  refine ⟨by rw [List.length_append, List.length_append, h.1]; rfl, fun i a b ha hb => ?_⟩
  by_cases hi : i < w.length
  · rw [List.getElem?_append_left hi] at ha
    rw [List.getElem?_append_left (by rw [← h.1]; exact hi)] at hb
    exact h.2 i a b ha hb
  · rw [List.getElem?_append_right (by omega)] at ha
    rw [List.getElem?_append_right (by rw [← h.1]; omega)] at hb
    by_cases e : i - w.length = 0
    · rw [e] at ha
      rw [← h.1, e] at hb
      cases hb
      exact ho a (Option.some.inj ha)
    · rw [List.getElem?_eq_none (by simp; omega)] at ha
      cases ha
/-- a wish that is open nowhere is a stand -/
theorem wish_word {w : List (Option Int)} {ms : List Int} (h : WishIn w ms) (n : none ∉ w) : ∃ st : Word, w = st.map some ∧ InAll st ms := by
  have hw : ∃ st : Word, w = st.map some := by
    clear h
    induction w with
    | nil => exact ⟨[], rfl⟩
    | cons o w ih =>
      obtain ⟨st, rfl⟩ := ih fun z => n (List.mem_cons_of_mem _ z)
      cases o with
      | none => exact absurd List.mem_cons_self n
      | some x => exact ⟨x :: st, rfl⟩
  obtain ⟨st, rfl⟩ := hw
  refine ⟨st, rfl, by have := h.1; rwa [List.length_map] at this, fun i x m hx hm => h.2 i x m ?_ hm⟩
  rw [List.getElem?_map, hx]
  rfl
def spWish (K : PySem.W.Frag) : Sp := fun vs H Q _ => ∃ (p c S : Addr) (T : Int) (ms : List Int) (o : Bool), vs = [.ref p, .ref S, .bl o] ∧ PenAt H p c T ∧ T ≤ 8000000 ∧ S ≠ p ∧ H S = some (.lst (ms.map V.int)) ∧ (∀ m ∈ ms, 2 ≤ m ∧ m ≤ 4) ∧ ms.length ≤ 6 ∧
  ∀ H' u w, Exx p H H' → PenAt H' p c (T + 20) → H' u = some (.tup (w.map oV)) → WishIn w ms → (o = false → none ∉ w) → Q (.ref u) H'
section
variable {P : Program} {w : World} {K : PySem.W.Frag} {mg : Str → Option Value} {base : Heap}
theorem ok_wish {f f1 : Addr} {fd fd1 : FuncData} (F : Fun K "_law_wish" "_law_wish" sWish f fd) (F1 : Fun K "_law_draw" "_law_draw" sDraw f1 fd1) (b1 : Binds K fd1 ["_law_pen_here", "_law_many"] []) (g1 : mg "_law_draw" = some (.ref f1)) (B : Bi mg) :
    FnOk P w K mg base CX0 2 f fd ["_law_pen_here", "_law_sizes_here", "_law_is_open"] (spWish K) := by
  have GD : FnOk P w K mg base CX0 1 f1 fd1 ["_law_pen_here", "_law_many"] spDraw := ok_draw F1 B
  refine F.ok scWish (fun vs H Q E h => ?_) (fun cdv A outer s H vs Q E hr h => ?_)
  · obtain ⟨p, c, S, T, ms, o, rfl, _⟩ := h; rfl
  · obtain ⟨p, c, S, T, ms, o, rfl, hp, T8, nSp, hS, each, m6, q⟩ := h
    refine ⟨_, (pss_cons (ps_set (i := 3) scWish.nd rfl (.inl rfl) (pe_lst pa_nil))
 (pss_cons (ps_for PassesOwn.never rfl (pi_list (pv 1)) (pg_name (i := 4) scWish.nd rfl (.inl rfl))
 (pss_cons (ps_set (i := 5) scWish.nd rfl (.inl rfl) (pe_call GD hr (by rfl) g1 F1.kp b1 .nil pass0 (pa_cons (pv 0) (pa_cons (pv 4) pa_nil))))
 (pss_one (ps_expr (pe_bm PySem.F.plainAttrs_list PySem.F.slot_list_append PySem.F.type_list_append mt_append (pv 3) (pa_cons (pe_ifExp (PW.pt (pw_and (pt_val (pv 2)) (pw_and1 (pt_cmpR op_eq (pe_call GD hr (by rfl) g1 F1.kp b1 .nil pass0 (pa_cons (pv 0) (pa_cons pe_int pa_nil))) pe_int (nomark _))))) pe_non (pv 5)) pa_nil))))))
 (pss_one (ps_ret (pe_callTy (r := rTupK K) call_tupK (by rfl) B.tuple PyProof.Rows.boot_tuple (pa_cons (pv 3) pa_nil)))))), ?_⟩
    refine ⟨Nat.zero_le _, fun z nz => ?_⟩
    have e1 := Evl.Ex.new (o := .lst []) nz
    have gz : (upd H z (.lst [])) z = some (.lst []) := upd_same
    have nzp : z ≠ p := hp.new1 nz
    have nzc : z ≠ c := hp.new2 nz
    have nSz : S ≠ z := fun y => by rw [← y, hS] at nz; cases nz
    have hp1 := hp.ex e1
    generalize upd H z (.lst []) = H1 at e1 gz hp1
    refine ⟨.ref S, rfl, S, rfl, ⟨_, SqL.of (e1 _ _ hS)⟩, ?_⟩
    refine for_it (walk_list (K := K) (a := S) (xs := ms.map V.int)) (fun i σ H' => ∃ (w : List (Option Int)) (y4 y5 : Option V), σ = [some (.ref p), some (.ref S), some (.bl o), some (.ref z), y4, y5] ∧ Exx p H H' ∧ PenAt H' p c (T + 2 * (i : Nat)) ∧ H' S = some (.lst (ms.map V.int)) ∧ H' z = some (.lst (w.map oV)) ∧ WishIn w (ms.take i) ∧ (o = false → none ∉ w))
      ⟨[], none, none, rfl, Exx.ex e1, by simpa using hp1, e1 _ _ hS, gz, wishIn_nil, fun _ => by simp⟩ ?_ ?_ ?_
    · rintro i σ H' _ ⟨_, _, _, _, _, _, h, _⟩
      exact SqL.of h
    · rintro i x σ H3 H4 hi ⟨w, y4, y5, rfl, x3, hp3, hS3, hz3, hin, hno⟩ ⟨rfl, hx⟩
      rw [List.length_map] at hi
      obtain ⟨m, hm, rfl⟩ : ∃ m, ms[i]? = some m ∧ x = .int m := by
        have ex' : (ms.map V.int)[i]? = some x := hx
        rw [List.getElem?_map] at ex'
        cases e : ms[i]? with
        | none => rw [e] at ex'; cases ex'
        | some m => rw [e] at ex'; exact ⟨m, rfl, (Option.some.inj ex').symm⟩
      have m24 := each m (List.mem_of_getElem? hm)
      have wl : w.length = i := by
        have := hin.1
        rw [List.length_take] at this
        omega
      refine ⟨.ref p, rfl, .int m, rfl, p, c, m, _, rfl, hp3, by omega, by omega, by omega, fun d H5 d0 d1 x5 hp5 => ?_⟩
      have hz5 := x5 _ _ nzp hz3
      refine ⟨.ref z, rfl, .inl ⟨rfl, _, SqL.of hz5⟩, ?_⟩
      have put : ∀ (H6 : Hp) (q : Option Int), (∀ x, q = some x → 0 ≤ x ∧ x < m) → (o = false → q ≠ none) → Exx p H5 H6 → PenAt H6 p c (T + 2 * (i : Nat) + 2) → 
          ∃ (l : Addr) (xs : List V) (v : V), (V.ref z) = .ref l ∧ [oV q] = [v] ∧ H6 l = some (.lst xs) ∧ xs.length < sizeLine ∧ ∃ (w : List (Option Int)) (y4' y5' : Option V), ([some (.ref p), some (.ref S), some (.bl o), some (.ref z), some (.int m), some (.int d)] : L2.St) = [some (.ref p), some (.ref S), some (.bl o), some (.ref z), y4', y5'] ∧ Exx p H (upd H6 l (.lst (xs ++ [v]))) ∧ PenAt (upd H6 l (.lst (xs ++ [v]))) p c (T + 2 * ((i + 1 : Nat) : Int)) ∧ (upd H6 l (.lst (xs ++ [v]))) S = some (.lst (ms.map V.int)) ∧ (upd H6 l (.lst (xs ++ [v]))) z = some (.lst (w.map oV)) ∧ WishIn w (ms.take (i + 1)) ∧ (o = false → none ∉ w) := by
        intro H6 q hq hqo x6 hp6
        have hz6 := x6 _ _ nzp hz5
        refine ⟨z, _, _, rfl, rfl, hz6, Nat.lt_of_le_of_lt (by rw [List.length_map]; omega : (w.map oV).length ≤ 6) (by decide), w ++ [q], _, _, rfl, (x3.trans (x5.trans x6)).mut nz, (hp6.put nzp nzc).mono (by omega), by rw [upd_ne nSz]; exact x6 _ _ nSp (x5 _ _ nSp hS3), by rw [upd_same, List.map_append]; rfl, ?_, fun h => ?_⟩
        · rw [take_succ_get hm]
          exact wishIn_snoc hin hq
        · intro hmem
          rcases List.mem_append.mp hmem with y | y
          · exact hno h y
          · exact hqo h (List.mem_singleton.mp y).symm
      have some_d := fun H6 => put H6 (some d) (fun x e => by cases e; exact ⟨d0, d1⟩) (fun _ => by simp)
      refine ⟨.bl o, rfl, o, rfl, ?_⟩
      cases o with
      | false =>
        refine iteF ?_
        exact ⟨.int d, rfl, some_d H5 (Exx.refl p H5) (hp5.mono (by omega))⟩
      | true =>
        refine iteT ?_
        refine ⟨.ref p, rfl, p, c, 3, _, rfl, hp5, by decide, by decide, by omega, fun r H6 _ _ x6 hp6 => ?_⟩
        refine ⟨rfl, _, rfl, ?_⟩
        refine ite2 (fun _ => ?_) (fun _ => ?_)
        · exact put H6 none (fun x e => nomatch e) (fun z => nomatch z) x6 (hp6.mono (by omega))
        · exact ⟨.int d, rfl, some_d H6 x6 (hp6.mono (by omega))⟩
    · rintro σ H3 ⟨w, y4, y5, rfl, x3, hp3, hS3, hz3, hin, hno⟩
      rw [List.length_map, List.take_length] at hin
      rw [List.length_map] at hp3
      refine ⟨.ref z, rfl, z, _, rfl, .inl ⟨SqL.of hz3, fun t nt => ?_⟩⟩
      exact q _ _ w (x3.trans (Exx.ex (Evl.Ex.new nt))) ((hp3.ex (Evl.Ex.new nt)).mono (by omega)) upd_same hin hno
end
end Wb

set_option Elab.async false
set_option linter.all false
set_option maxRecDepth 100000
set_option maxHeartbeats 8000000
set_option pp.maxSteps 900
set_option pp.deepTerms false
namespace L2
open PySem PySem.Spec PyProof.Rows
/-- for k in e, e a new dict with tuple keys: it is locked from then on -/
def iKeysL (td : TE) : TI := fun σ H R => td σ H fun x H1 => ∃ d kvs, x = .ref d ∧ H1 d = some (.dT kvs) ∧ ∀ o, R (Itkt d o kvs) (upd H1 d (.frz o (.dT kvs)))
section
variable {X : Cx} {tg e : Expr} {td : TE}
theorem pi_keysL (he : PE X e td) : PI X tg e (iKeysL td) := by
  refine ⟨fun pins s σ H R I h => ?_⟩
  refine thn (he.run pins s σ H _ I h) fun u s1 ⟨x, H1, I1, rx, d, kvs, ex, hd, q⟩ => ?_
  subst ex
  obtain rfl : u = Value.ref d := rx
  obtain ⟨od, I2⟩ := I1.lock hd True.intro
  have hd2 : (upd H1 d (.frz od (.dT kvs))) d = some (.frz od (.dT kvs)) := upd_same
  obtain ⟨hs, hgd, hx, es, ep, hdt, hsz, ent⟩ := I2.frzT hd2
  refine iter_keys hs hgd hx hdt (pi_one (tk := s1.toks) I2 _ (turn_keysT _ hdt) ⟨_, Heap.get?_push_size _ rfl, rfl, ?_⟩ (q od))
  rw [hsz] <;> rfl
end
end L2
namespace Wb
open PySem PySem.Spec PyProof.Rows L2
/-! ### met, and whether a way leads to a wish -/
abbrev sMet : Stmt := topS 51
abbrev nMet : List Str := ["_law_stand", "_law_wish_here", "_law_k"]
theorem scMet : FnScope nMet ["_law_stand", "_law_wish_here"] (defScope sMet) := ⟨rfl, rfl, rfl, by decide +kernel, rfl, by decide +kernel, by decide +kernel⟩
def badAt (w : List (Option Int)) (st : Word) (k : Nat) : Bool := match w[k]?, st[k]? with
  | some (some q), some p => !decide (q = p)
  | _, _ => false
theorem met_iff {w : List (Option Int)} {st : Word} (h : w.length = st.length) : ((List.range w.length).filter (badAt w st)).isEmpty = true ↔ meetsW w st := by
  rw [List.isEmpty_iff, List.filter_eq_nil_iff]
  constructor
  · intro f
    refine ⟨h.symm, fun k o q ho hq => ?_⟩
    have kl := (List.getElem?_eq_some_iff.mp ho).1
    have z := f k (List.mem_range.mpr kl)
    unfold badAt at z
    rw [ho, hq] at z
    cases o with
    | none => exact .inl rfl
    | some x =>
      refine .inr (congrArg some ?_)
      by_cases c : x = q
      · exact c
      · simp [c] at z
  · rintro ⟨_, f⟩ k hk z
    have kl := List.mem_range.mp hk
    unfold badAt at z
    rw [List.getElem?_eq_getElem kl, List.getElem?_eq_getElem (by omega : k < st.length)] at z
    have y := f k w[k] st[k] (List.getElem?_eq_getElem kl) (List.getElem?_eq_getElem (by omega))
    cases c : w[k] with
    | none => rw [c] at z; cases z
    | some x =>
      rw [c] at z y
      rcases y with y | y
      · cases y
      · have := Option.some.inj y
        simp [this] at z
noncomputable def leadB (l : Lock) (st : Word) (w : List (Option Int)) : Bool := @decide (leadsT l st (meetsW w)) (Classical.propDecidable _)
theorem leadB_iff {l : Lock} {st : Word} {w : List (Option Int)} : leadB l st w = true ↔ leadsT l st (meetsW w) := by
  unfold leadB
  exact @decide_eq_true_iff _ (Classical.propDecidable _)
theorem eqv_lN (ds : List PyData) : PyData.eqv (.list ds) (.list []) = ds.isEmpty := by
  cases ds with
  | nil => simp [PyData.eqv, PyData.eqvAll]
  | cons w ws => simp [PyData.eqv, PyData.eqvAll]
theorem dp_nats {K : PySem.W.Frag} {H : Hp} : ∀ ks : List Nat, DpAll K H (ks.map fun k => V.int (k : Nat)) (ks.map fun k => PyData.int (k : Nat))
  | [] => .nil
  | x :: bk => .cons (.int _) (dp_nats bk)
theorem fine_nats {ks : List Nat} (h : ∀ k ∈ ks, k ≤ 60) : SeqAt.shaped (.list (ks.map fun k => PyData.int (k : Nat))) = true := by
  have f : FineAll (ks.map fun k => PyData.int (k : Nat)) 0 ((ks.map fun k => PyData.int (k : Nat)).length * (8 + 2)) := FineAll.rep fun d hd => by
    obtain ⟨u, hu, rfl⟩ := List.mem_map.mp hd
    have := h u hu
    exact fine_small (by omega) (by omega)
  exact (fine_lst f).shaped (by decide)
def spMet (K : PySem.W.Frag) : Sp := fun vs H Q _ => ∃ (u : V) (wa : Addr) (st : Word) (w : List (Option Int)), vs = [u, .ref wa] ∧ Wd K H u st ∧ H wa = some (.tup (w.map oV)) ∧ w.length = st.length ∧ st.length ≤ 60 ∧
  ∀ H' b, Evl.Ex H H' → (b = true ↔ meetsW w st) → Q (.bl b) H'
def rNotN : R2 := fun x y H Q => y = .non ∧ Q (.bl (!decide (x = .non))) H
abbrev tMetT (K : PySem.W.Frag) : TT := tAnd (tTest (tOp rNotN (tOp (rIxT K) (tVar 1) (tVar 2)) (tC V.non))) (tTest (tOp rNe (tOp (rIxT K) (tVar 1) (tVar 2)) (tOp (rIxT K) (tVar 0) (tVar 2))))
section
variable {P : Program} {w : World} {K : PySem.W.Frag} {mg : Str → Option Value} {base : Heap}
theorem ok_met {f : Addr} {fd : FuncData} (F : Fun K "_law_met" "_law_met" sMet f fd) (B : Bi mg) : FnOk P w K mg base CX0 1 f fd ["_law_stand", "_law_wish_here"] (spMet K) := by
  refine F.ok scMet (fun vs H Q E h => ?_) (fun cdv A outer s H vs Q E hr h => ?_)
  · obtain ⟨u, wa, st, w, rfl, _⟩ := h; rfl
  · obtain ⟨u, wa, st, w, rfl, ⟨ua, rfl, hua⟩, hwa, wl, s60, q⟩ := h
    refine ⟨_, pss_one (ps_ret (pe_cmpR (op_eqD hr.units) (pe_lc (own := [("_law_k", 2)]) (g := gName 2) (te := tVar 2) (tt := tMetT K) rfl scMet.nd (pi_range1 (by rfl) B.range (pa_cons (pe_callB call_len_seq (by rfl) B.len PySem.boot_len (pa_cons (pv 1) pa_nil)) pa_nil)) (blkOk_by (own := [("_law_k", 2)]) (N := nMet) (sc := defScope sMet) (by decide +kernel))
      (fun _ _ _ _ _ => pg_name (i := 2) scMet.nd rfl (Or.inl rfl))
      (fun _ _ _ _ _ => pts_one (PW.pt (pw_and (pt_cmpR (r := rNotN) op_notN (pe_ix (r := rIxT K) ix_tup (pv 1) (pv 2) (fun _ _ => rfl)) pe_non (nomark _)) (pw_and1 (pt_cmpR op_ne (pe_ix (r := rIxT K) ix_tup (pv 1) (pv 2) (fun _ _ => rfl)) (pe_ix (r := rIxT K) ix_tup (pv 0) (pv 2) (fun _ _ => rfl)) (nomark _))))))
      (fun _ _ _ _ _ => pv 2)) (pe_lst pa_nil) (nomark _))), ?_⟩
    have wl' : (w.map oV).length = w.length := List.length_map _
    refine ⟨.ref wa, rfl, wa, w.map oV, rfl, .inr (.inl (.inl hwa)), _, rfl, by omega, by omega, fun D nD => ?_⟩
    refine lc_range (lo := 0) (n := (((w.map oV).length : Nat) : Int).toNat) (fun i H' => Evl.Ex H H' ∧ H' D = some (.lst (((List.range i).filter (badAt w st)).map fun k => V.int (k : Nat)))) ⟨Evl.Ex.new nD, upd_same⟩ ?_ ?_
    · rintro i H1 hi ⟨e1, hD1⟩
      have z0 : (0 : Int) + (i : Nat) = (i : Int) := by omega
      rw [z0]
      have il : i < w.length := by omega
      have ho : w[i]? = some w[i] := List.getElem?_eq_getElem il
      have hp : st[i]? = some (st[i]'(by omega)) := List.getElem?_eq_getElem (by omega)
      generalize w[i] = o at ho
      generalize st[i]'(by omega) = p at hp
      have hoV : (w.map oV)[i]? = some (oV o) := by rw [List.getElem?_map, ho]; rfl
      have hpV : (st.map V.int)[i]? = some (V.int p) := by rw [List.getElem?_map, hp]; rfl
      have ix1 : atI (w.map oV) ((i : Nat) : Int) = some (oV o) := atI_nat hoV
      have ix2 : atI (st.map V.int) ((i : Nat) : Int) = some (V.int p) := atI_nat hpV
      have stay : badAt w st i = false → H1 D = some (.lst (((List.range (i + 1)).filter (badAt w st)).map fun k => V.int (k : Nat))) := fun z => by
        rw [List.range_succ, List.filter_append, List.filter_cons, if_neg (by rw [z]; exact Bool.false_ne_true), List.filter_nil, List.append_nil]
        exact hD1
      refine ⟨rfl, .ref wa, rfl, .int (i : Nat), rfl, wa, _, ((i : Nat) : Int), oV o, rfl, rfl, .inl (.inl (e1 _ _ hwa)), ix1, rfl, _, rfl, ?_⟩
      cases o with
      | none =>
        refine iteF ?_
        exact ⟨e1, stay (by unfold badAt; rw [ho, hp])⟩
      | some x =>
        refine iteT ?_
        refine ⟨.ref wa, rfl, .int (i : Nat), rfl, wa, _, ((i : Nat) : Int), oV (some x), rfl, rfl, .inl (.inl (e1 _ _ hwa)), ix1, .ref ua, rfl, .int (i : Nat), rfl, ua, _, ((i : Nat) : Int), .int p, rfl, rfl, .inl (.inl (e1 _ _ hua)), ix2, rfl, _, rfl, ?_⟩
        have bx : badAt w st i = !decide (x = p) := by unfold badAt; rw [ho, hp]
        by_cases c : x = p
        · rw [show decide (oV (some x) = V.int p) = true from decide_eq_true (by rw [c]; rfl)]
          refine iteF ?_
          exact ⟨e1, stay (by rw [bx, decide_eq_true c]; rfl)⟩
        · rw [show decide (oV (some x) = V.int p) = false from decide_eq_false (fun z => c (V.int.inj z))]
          refine iteT ?_
          refine ⟨.int (i : Nat), rfl, _, hD1, Nat.lt_of_le_of_lt (by rw [List.length_map]; exact Nat.le_trans (List.length_filter_le _ _) (by rw [List.length_range]; omega) : (((List.range i).filter (badAt w st)).map fun k => V.int (k : Nat)).length ≤ 60) (by decide), e1.mut nD, ?_⟩
          rw [upd_same, List.range_succ, List.filter_append, List.filter_cons, if_pos (by rw [bx, decide_eq_false c]; rfl), List.filter_nil, List.map_append]
          rfl
    · rintro H1 ⟨e1, hD1⟩
      rw [wl', Int.toNat_natCast] at hD1
      refine ⟨Nat.zero_le _, fun t nt => ?_⟩
      have e2 := Evl.Ex.new (o := .lst []) nt
      have gt : (upd H1 t (.lst [])) t = some (.lst []) := upd_same
      generalize upd H1 t (.lst []) = H2 at e2 gt
      refine ⟨.list (((List.range w.length).filter (badAt w st)).map fun k => PyData.int (k : Nat)), .list [], .lst (SqL.of (e2 _ _ hD1)) (dp_nats _), .lst (SqL.of gt) .nil, fine_nats (fun k hk => ?_), (by decide), ?_⟩
      · have := List.mem_range.mp (List.mem_filter.mp hk).1
        omega
      rw [eqv_lN]
      refine q H2 _ (e1.trans e2) ?_
      rw [List.isEmpty_map, met_iff wl]
end
end Wb

set_option Elab.async false
set_option linter.all false
set_option maxRecDepth 100000
set_option maxHeartbeats 8000000
set_option pp.maxSteps 900
set_option pp.deepTerms false
namespace Wb
open PySem PySem.Spec PyProof.Rows L2
abbrev sWord : Stmt := topS 55
abbrev nWord : List Str := ["_law_lock_here", "_law_wish_here", "_law_found"]
theorem scWord : FnScope nWord ["_law_lock_here", "_law_wish_here"] (defScope sWord) := ⟨rfl, rfl, rfl, by decide +kernel, rfl, by decide +kernel, by decide +kernel⟩
section
variable {X : Cx} {W : WX} {E : XK}
theorem passes_callN (tk : Takes X W) (hW : ∀ cls d σ H, σ.length = X.N.length → E cls d H → W cls d σ H) : ∀ (pins : List (Addr × Obj)) (σ : L2.St) (H : Hp) (s : Shared) (e : Value) (s' : Shared), Inv X pins σ H s → L2.CX X.prog X.w X.stack H s E e s' → X.xe e s' :=
  fun _ σ _ _ e s' I c => tk e s' (XE.of_call I (fun cls d H' h => hW cls d σ H' I.len h) c)
end
def spWord (K : PySem.W.Frag) : Sp := fun vs H Q _ => ∃ (v x : V) (l : Lock) (d : PyData), vs = [v, x] ∧ LockAt K H v l ∧ LockOk l ∧ LkS l ∧ Th K H x d ∧ wishedB d (manysOf l) = false ∧ ∀ H', Evl.Ex H H' → Q (.str "wish") H'
section
variable {P : Program} {w : World} {K : PySem.W.Frag} {mg : Str → Option Value} {base : Heap}
theorem ok_word (D : Pr K mg) (WI : WiK K mg) (NW : XcK K mg "NoWish") (FL : FlC K mg) (RC : RcC K mg) (L : CoK K mg) {CB : Addr} (gB : mg "BoltError" = some (.ref CB))
    (tw1 : PySem.W.exmOne K (.ref NW.C) (.ref NW.C) = some true) {f : Addr} {fd : FuncData} (F : Fun K "_law_word" "_law_word" sWord f fd) :
    FnOk P w K mg base CX0 11 f fd ["_law_lock_here", "_law_wish_here"] (spWord K) := by
  have GA : FnOk P w K mg base (L2.CX P w) 10 L.f2 L.d2 ["lock", "wish"] (spComeTo K NW.C) := ok_comeTo D WI NW FL RC L
  refine F.ok scWord (fun vs H Q E h => ?_) (fun cdv A' outer s H vs Q E hr h => ?_)
  · obtain ⟨v, x, l, d, rfl, _⟩ := h; rfl
  · obtain ⟨v, x, l, d, rfl, hl, ok, lk, hd, bad, q⟩ := h
    refine ⟨_, pss_cons (ps_set (i := 2) scWord.nd rfl (.inl rfl) pe_non)
      (Evl.pss_cut (ps_try_many (X := (cxOf CX0 P w K mg base nWord "_law_word" (defScope sWord) f cdv A' outer s H E).nox) (Wout := fun _ _ _ _ => False)
        (l := [(.ref NW.C, _), (.ref CB, _)])
        (tb := fun W D σ H => ∃ Ech : XK, (∀ cls d σ' H', σ'.length = 3 → Ech cls d H' → W cls d σ' H') ∧ tAsg (tCall (spComeTo K NW.C) [] Ech (tCons (tVar 0) (tCons (tVar 1) tNil))) (gName 2) D σ H)
        rfl rfl LamX.takes0 (fun W pn xe tk _ => ?_)
        (.cons ⟨rfl, by decide, .inl NW.g⟩ (fun a oe cls d pn _ _ => pss_one (ps_set (i := 2) scWord.nd rfl (.inl rfl) pe_str))
        (.cons ⟨rfl, by decide, .inl gB⟩ (fun a oe cls d pn _ _ => pss_one (ps_set (i := 2) scWord.nd rfl (.inl rfl) pe_str)) .nil)))
      (pss_one (ps_ret (pv 2)))), ?_⟩
    · refine pss_one ⟨fun pins s' σ H' D' I h' => ?_⟩
      obtain ⟨Ech, hW, h2⟩ := h'
      exact (ps_set (i := 2) scWord.nd rfl (.inl rfl) (pe_call GA hr (by rfl) L.g2 L.F2.kp L.b2 .nil (passes_callN (W := W) tk hW) (pa_cons (pv 0) (pa_cons (pv 1) pa_nil)))).run pins s' σ H' D' I h2
    · refine ⟨fun σ H' => σ[2]? = some (some (.str "wish")) ∧ Evl.Ex H H', ?_, ?_⟩
      · refine ⟨fun cls d H' => cls = .ref NW.C ∧ Evl.Ex H H', ?_, ?_⟩
        · rintro cls d σ' H' ln ⟨rfl, ex⟩
          refine ⟨true, tw1, fun _ a na => ?_, fun z => absurd z (Ne.symm Bool.false_ne_true)⟩
          refine ⟨?_, ex⟩
          rw [List.getElem?_set_self (by omega)]
        · refine ⟨v, rfl, x, rfl, v, x, l, rfl, hl, ok, lk, .inr ⟨d, hd, bad, fun H' ex => ⟨rfl, ex⟩⟩⟩
      · rintro σ H' ⟨h3, ex⟩
        exact ⟨_, h3, q H' ex⟩
end
end Wb

set_option Elab.async false
set_option linter.all false
set_option maxRecDepth 100000
set_option maxHeartbeats 4000000
namespace PySem
open Sem (wp)
section
variable {prog : Program} {w : World} {A : Around} {R : Result → Shared → Prop} {I : Addr} {fp wr : List Addr} {n : Nat} {Pv : Nat → Value → Prop} {St : Nat → Heap → Prop}
/-- sum over lists, behind a list: the loop -/
theorem codeAny_sum_loopL (W : Walks prog w A.in1 I fp wr n Pv St) (as : Nat → Addr) (ys : Nat → List Value) (M : Nat) (hP : ∀ i v, Pv i v → v = .ref (as i)) (hM : M ≤ sizeLine) (S : Addr) (hSf : S ∉ fp) (hfpA : ∀ i, i < n → as i ∉ wr ∧ as i ≠ S)
    (hfs : ∀ i h, St i h → ∀ b ∈ fp, b < h.objs.size) :
    ∀ (k i : Nat) (s : Shared) (T : Addr) (acc : List Value) (cT c : Nat), n - i = k → i ≤ n → St i s.heap → s.heap.get? S = some { cls := .type "list", dict := none, data := .seq #[.ref T] c, slots := #[] } →
    s.heap.get? T = some { cls := .type "list", data := .seq acc.toArray cT } → T ∉ wr → T ≠ S →
    (∀ j, i ≤ j → j < n → ∃ cj, s.heap.get? (as j) = some { cls := .type "list", data := .seq (ys j).toArray cj }) →
    acc.length + (((List.range' i (n - i)).map fun j => (ys j).length).sum) ≤ M →
    (∀ h' tk T' cT', (∀ b o, b ∉ wr → b ≠ S → s.heap.get? b = some o → h'.get? b = some o) → h'.get? T' = some { cls := .type "list", data := .seq (acc ++ (List.range' i (n - i)).flatMap ys).toArray cT' } → T' ∉ wr → T' ≠ S → (T' = T ∨ s.heap.get? T' = none) → R (.ok (.ret (.ref T'))) { s with heap := h', toks := tk }) →
    codeAny (model prog w) A (.builtin "sum.loop" ⟨[.ref I, .ref S, rawInt 2, rawInt 0], []⟩) R s := by
  have hSw : S ∉ wr := fun h => hSf (W.sub _ h)
  intro k
  induction k with
  | zero =>
    intro i s T acc cT c hk hi hst hS hT hTw hTS hys hm hR
    have hin : i = n := by omega
    subst hin
    refine codeAny_builtin F.entry_sum_loop ?_
    rw [Around.under_plainId F.plain_sum_loop _]
    show wpAny _ A.in1 (seqItems? (.ref S) >>= _) _ _ s
    refine wpAny_bind (wpAny_seqItems hS rfl ?_)
    show wpAny _ A.in1 (tryCatch (pyNext (.ref I)) _ >>= _) _ _ s
    refine wpAny_bind (wpAny_tryCatch (W.done s _ _ hst fun h' tk hk' => ?_))
    refine wpAny_pure (hR h' tk T cT (fun b o hbw _ e => hk' b o hbw e) ?_ hTw hTS (.inl rfl))
    rw [Nat.sub_self, List.range'_zero, List.flatMap_nil, List.append_nil]
    exact hk' _ _ hTw hT
  | succ k ih =>
    intro i s T acc cT c hk hi hst hS hT hTw hTS hys hm hR
    have hlt : i < n := by omega
    have er : List.range' i (n - i) = i :: List.range' (i + 1) (n - (i + 1)) := by
      rw [show n - i = (n - (i + 1)) + 1 by omega, List.range'_succ]
    rw [er] at hm hR
    rw [List.map_cons, List.sum_cons] at hm
    refine codeAny_builtin F.entry_sum_loop ?_
    rw [Around.under_plainId F.plain_sum_loop _]
    show wpAny _ A.in1 (seqItems? (.ref S) >>= _) _ _ s
    refine wpAny_bind (wpAny_seqItems hS rfl ?_)
    show wpAny _ A.in1 (tryCatch (pyNext (.ref I)) _ >>= _) _ _ s
    refine wpAny_bind (wpAny_tryCatch (W.item i s _ _ hlt hst fun v h' tk hPv hst' hk' => ?_))
    obtain rfl := hP i v hPv
    have hS' := hk' S _ hSw hS
    have hT' := hk' T _ hTw hT
    obtain ⟨ci, hai⟩ := hys i (Nat.le_refl _) hlt
    have hai' := hk' _ _ (hfpA i hlt).1 hai
    show wpAny _ A.in1 ((holding [Value.ref (as i)] (binaryOp .Add (.ref T) (.ref (as i)))).attempt >>= _) _ _ _
    refine wpAny_bind (wpAny_attempt (wpAny_holding (PySem.P.add_list (s := { s with heap := h', toks := tk }) hT' hai' ?_ (by rw [List.size_toArray, List.size_toArray]; omega))))
    have ea : acc.toArray ++ (ys i).toArray = (acc ++ ys i).toArray := by simp
    rw [ea]
    have hS2 : (h'.push { cls := .type "list", data := .seq (acc ++ ys i).toArray }).get? S = some { cls := .type "list", dict := none, data := .seq #[.ref T] c, slots := #[] } := Heap.get?_push_of_some _ hS'
    have nS : h'.objs.size ≠ S := Nat.ne_of_gt (Heap.lt_size hS')
    have nf : h'.objs.size ∉ fp := fun hm => Nat.lt_irrefl _ (hfs _ _ hst' _ hm)
    show wpAny _ A.in1 (updateSeq S (fun _ => #[.ref h'.objs.size]) >>= _) _ _ { s with heap := h'.push { cls := .type "list", data := .seq (acc ++ ys i).toArray }, toks := tk }
    refine wpAny_bind (wpAny_updateSeq hS2 rfl ?_)
    have hS3 := Heap.get?_update_self (Obj.mapSeq fun _ => #[Value.ref h'.objs.size]) hS2 rfl
    have oth : ∀ b o, b ≠ S → h'.get? b = some o → ((h'.push { cls := .type "list", data := .seq (acc ++ ys i).toArray }).update S (Obj.mapSeq fun _ => #[Value.ref h'.objs.size])).get? b = some o := fun b o hb e =>
      (Heap.get?_update_other _ _ (Ne.symm hb)).trans (Heap.get?_push_of_some _ e)
    have hN : ((h'.push { cls := .type "list", data := .seq (acc ++ ys i).toArray }).update S (Obj.mapSeq fun _ => #[Value.ref h'.objs.size])).get? h'.objs.size = some { cls := .type "list", data := .seq (acc ++ ys i).toArray } :=
      (Heap.get?_update_other _ _ (Ne.symm nS)).trans (Heap.get?_push_size _ rfl)
    generalize (h'.push { cls := .type "list", data := .seq (acc ++ ys i).toArray }).update S (Obj.mapSeq fun _ => #[Value.ref h'.objs.size]) = h2 at hS3 oth hN ⊢
    refine wpAny_bind (wpAny_letGo ?_)
    refine wpAny_bind (wpAny_updateSeq hS3 rfl ?_)
    have hS4 := Heap.get?_update_self (Obj.mapSeq fun _ => #[Value.ref h'.objs.size]) hS3 rfl
    have oth2 : ∀ b o, b ≠ S → h'.get? b = some o → (h2.update S (Obj.mapSeq fun _ => #[Value.ref h'.objs.size])).get? b = some o := fun b o hb e => (Heap.get?_update_other _ _ (Ne.symm hb)).trans (oth b o hb e)
    have hN2 : (h2.update S (Obj.mapSeq fun _ => #[Value.ref h'.objs.size])).get? h'.objs.size = some { cls := .type "list", data := .seq (acc ++ ys i).toArray } := (Heap.get?_update_other _ _ (Ne.symm nS)).trans hN
    generalize h2.update S (Obj.mapSeq fun _ => #[Value.ref h'.objs.size]) = h3 at hS4 oth2 hN2 ⊢
    have nw : h'.objs.size ∉ wr := fun h => nf (W.sub _ h)
    refine wpAny_pure ⟨plainId_quiet F.plain_sum_loop _, ih (i + 1) { s with heap := h3, toks := tk } h'.objs.size (acc ++ ys i) _ _ (by omega) hlt (W.frame _ _ _ hst' fun b hb o e => oth2 b o (fun z => hSf (z ▸ hb)) e) hS4 hN2 nw nS (fun j h1 h4 => ?_) (by rw [List.length_append]; omega) fun h'' tk'' T' cT' k1 k2 k3 k4 k5 => ?_⟩
    · obtain ⟨cj, hj⟩ := hys j (by omega) h4
      exact ⟨cj, oth2 _ _ (hfpA j h4).2 (hk' _ _ (hfpA j h4).1 hj)⟩
    · refine hR h'' tk'' T' cT' (fun b o hbw hbS e => k1 b o hbw hbS (oth2 b o hbS (hk' b o hbw e))) ?_ k3 k4 (.inr ?_)
      · rw [List.flatMap_cons, ← List.append_assoc]
        exact k2
      · cases e : s.heap.get? T' with
        | none => rfl
        | some o =>
          have e2 := hk' T' o k3 e
          rcases k5 with z | z
          · rw [z] at e2
            exact absurd (Heap.lt_size e2) (Nat.lt_irrefl _)
          · have e3 := oth2 T' o k4 e2
            rw [show h3.get? T' = none from z] at e3
            cases e3
end
section
variable {prog : Program} {w : World} {A : Around} {E : Value → Shared → Prop} {s : Shared}
theorem args_sum2 (a b : Value) : argsOk "sum" ⟨[a, b], []⟩ := by unfold argsOk; kernel_rfl
theorem sub_list_bytes : isSubtype (.type "list") (.type "bytes") = pure false := by rw [isSubtype_type]; kernel_rfl
theorem sub_list_bytearray : isSubtype (.type "list") (.type "bytearray") = pure false := by rw [isSubtype_type]; kernel_rfl
theorem call_sum_lists {x : Addr} {b : Addr} {zs : List Value} {cz : Nat} {Q : Value → Shared → Prop} (hb : s.heap.get? b = some { cls := .type "list", data := .seq zs.toArray cz })
    (h : wpAny (model prog w) A.in1 (pyIter (.ref x)) (fun it s₂ => ∃ (I : Addr) (fp wr : List Addr) (n : Nat) (Pv : Nat → Value → Prop) (St : Nat → Heap → Prop) (as : Nat → Addr) (ys : Nat → List Value), it = .ref I ∧ Walks prog w A.in1 I fp wr n Pv St ∧ St 0 s₂.heap ∧ (∀ i h, St i h → ∀ b ∈ fp, b < h.objs.size) ∧
      (∀ i v, Pv i v → v = .ref (as i)) ∧ (∀ i, i < n → as i ∉ wr ∧ as i < s₂.heap.objs.size) ∧ s₂.heap.get? b = some { cls := .type "list", data := .seq zs.toArray cz } ∧ b ∉ wr ∧ (∀ j, j < n → ∃ cj, s₂.heap.get? (as j) = some { cls := .type "list", data := .seq (ys j).toArray cj }) ∧
      zs.length + (((List.range' 0 n).map fun j => (ys j).length).sum) ≤ sizeLine ∧
      ∀ h' tk T' cT', (∀ b o, b ∉ wr → s₂.heap.get? b = some o → h'.get? b = some o) → h'.get? T' = some { cls := .type "list", data := .seq (zs ++ (List.range' 0 n).flatMap ys).toArray cT' } → T' ∉ wr → (T' = b ∨ s₂.heap.get? T' = none) → Q (.ref T') { s₂ with heap := h', toks := tk }) E s) :
    wpAny (model prog w) A (call (.builtin "sum") [.ref x, .ref b]) Q E s := by
  refine call_function_tree F.kind_sum F.plain_sum F.entry_sum (args_sum2 _ _) ?_
  unfold Builtin.«sum»
  simp only [List.length_cons, List.length_nil]
  rw [if_neg (by decide)]
  refine wpAny_bind (wpAny_of_eq (show Builtin.Builtins.bindParams "sum" ["start"] 0 ⟨[.ref b], []⟩ = pure [some (.ref b)] from rfl) ?_)
  refine wpAny_bind (wpAny_mono h (fun it s₂ h₂ => ?_) fun _ _ e => e)
  obtain ⟨I, fp, wr, n, Pv, St, as, ys, rfl, W, hst, hfs, hP, hA, hb2, hbw, hys, hm, hQ⟩ := h₂
  refine wpAny_bind (wpAny_pure ?_)
  simp only [List.forIn_cons, List.forIn_nil]
  have tb : s₂.TypeIs (.ref b) "list" := ⟨_, hb2, rfl⟩
  refine wpAny_bind (wpAny_bind (wpAny_bind (wpAny_isInstance (T := "list") (b := false) tb F.sub_list_str ?_)))
  simp only [Bool.false_eq_true, if_false]
  refine wpAny_pure (wpAny_bind (wpAny_bind (wpAny_isInstance (T := "list") (b := false) tb sub_list_bytes ?_)))
  simp only [Bool.false_eq_true, if_false]
  refine wpAny_pure (wpAny_bind (wpAny_bind (wpAny_isInstance (T := "list") (b := false) tb sub_list_bytearray ?_)))
  simp only [Bool.false_eq_true, if_false]
  refine wpAny_pure (wpAny_pure ?_)
  refine wpAny_bind (wpAny_newObj_type ?_)
  have hSf : s₂.heap.objs.size ∉ fp := fun hm => Nat.lt_irrefl _ (hfs _ _ hst _ hm)
  have hSw : s₂.heap.objs.size ∉ wr := fun h => hSf (W.sub _ h)
  refine wpAny_pure ⟨plainId_quiet F.plain_sum_loop _, codeAny_sum_loopL W as ys sizeLine hP (Nat.le_refl _) s₂.heap.objs.size hSf (fun i hi => ⟨(hA i hi).1, Nat.ne_of_lt (hA i hi).2⟩) hfs n 0 _ b zs cz 0 rfl (Nat.zero_le _)
    (W.frame 0 _ _ hst fun b _ o e => Heap.get?_push_of_some _ e) (Heap.get?_push_size _ rfl) (Heap.get?_push_of_some _ hb2) hbw (Nat.ne_of_lt (Heap.lt_size hb2)) (fun j _ hj => ?_) (by rw [Nat.sub_zero]; exact hm) fun h' tk T' cT' k1 k2 k3 k4 k5 => ?_⟩
  · obtain ⟨cj, e⟩ := hys j hj
    exact ⟨cj, Heap.get?_push_of_some _ e⟩
  · rw [Nat.sub_zero] at k2
    refine hQ h' tk T' cT' (fun c o hc e => k1 c o hc (Nat.ne_of_lt (Heap.lt_size e)) (Heap.get?_push_of_some _ e)) k2 k3 ?_
    rcases k5 with z | z
    · exact .inl z
    · refine .inr ?_
      cases e : s₂.heap.get? T' with
      | none => rfl
      | some o =>
        have e2 := Heap.get?_push_of_some { cls := .type "list", data := .seq [Value.ref b].toArray } e
        rw [show (s₂.heap.push { cls := .type "list", data := .seq [Value.ref b].toArray }).get? T' = none from z] at e2
        cases e2
end
end PySem
namespace Wb
open PySem PySem.Spec PyProof.Rows L2
/-- sum(ls, b): lists behind a list -/
def rSumL (K : PySem.W.Frag) : List V → Hp → VK → Prop := fun vs H Q => ∃ (a b : Addr) (ls : List Addr) (yss : List (List V)) (zs : List V), vs = [.ref a, .ref b] ∧ SqL K H a (ls.map V.ref) ∧ H b = some (.lst zs) ∧ Paired (fun l ys => H l = some (.lst ys)) ls yss ∧
  zs.length + yss.flatten.length ≤ sizeLine ∧ (∀ p, H p = none → Q (.ref p) (upd H p (.lst (zs ++ yss.flatten)))) ∧ (yss.flatten = [] → Q (.ref b) H)
theorem flatMap_range {α : Type} (f : Nat → List α) (yss : List (List α)) (h : ∀ j y, yss[j]? = some y → f j = y) : (List.range' 0 yss.length).flatMap f = yss.flatten := by
  have e : (List.range' 0 yss.length).map f = yss := by
    apply List.ext_getElem?
    intro j
    rw [List.getElem?_map]
    by_cases c : j < yss.length
    · rw [List.getElem?_range' c, List.getElem?_eq_getElem c, Option.map_some, h (0 + 1 * j) yss[j] (by rw [show 0 + 1 * j = j by omega]; exact List.getElem?_eq_getElem c)]
    · rw [List.getElem?_eq_none (by rw [List.length_range']; omega), List.getElem?_eq_none (by omega)]
      rfl
  rw [List.flatMap_def, e]
theorem sum_range {α : Type} (f : Nat → List α) (yss : List (List α)) (h : ∀ j y, yss[j]? = some y → f j = y) : ((List.range' 0 yss.length).map fun j => (f j).length).sum = yss.flatten.length := by
  rw [← flatMap_range f yss h, List.length_flatMap]
theorem cr_sumL {X : Cx} (hc : X.calm = true) : CallR X (.builtin "sum") (rSumL X.K) := by
  intro pins s σ H vs us Q I r h
  obtain ⟨a, b, ls, yss, zs, rfl, ha, hb, hp, hz, q1, q2⟩ := h
  obtain ⟨u1, u2, rfl, r1, r2⟩ := vals2 r
  obtain rfl : u1 = Value.ref a := r1
  obtain rfl : u2 = Value.ref b := r2
  obtain ⟨its, rv, hl, hzl⟩ := I.list ha
  have ei : its = ls.map Value.ref := refs_at rv
  subst ei
  obtain ⟨zb, zits, nb, zrv, zl, hbo⟩ := I.lstM hb
  have lsl : ls.length = yss.length := Paired.len hp
  have lists : ∀ j : Nat, j < ls.length → ∃ (uy : List Value) (ys : List V) (cj : Nat), yss[j]? = some ys ∧ Vals ys uy ∧ s.heap.get? (ls.getD j 0) = some { cls := .type "list", data := .seq uy.toArray cj } := by
    intro j hj
    have hlj : ls[j]? = some (ls.getD j 0) := by rw [List.getD_eq_getElem?_getD, List.getElem?_eq_getElem hj]; rfl
    obtain ⟨ys, hy, hH⟩ := Paired.get1 hp hlj
    obtain ⟨_, uy, cj, ruy, _, huo⟩ := I.lstM hH
    exact ⟨uy, ys, cj, hy, ruy, huo⟩
  let ysF : Nat → List Value := fun j => if h : j < ls.length then Classical.choose (lists j h) else []
  have ysF_at : ∀ j, j < ls.length → ∃ (ys : List V) (cj : Nat), yss[j]? = some ys ∧ Vals ys (ysF j) ∧ s.heap.get? (ls.getD j 0) = some { cls := .type "list", data := .seq (ysF j).toArray cj } := by
    intro j hj
    have e : ysF j = Classical.choose (lists j hj) := dif_pos hj
    rw [e]
    exact Classical.choose_spec (lists j hj)
  have fl : ∀ n, n ≤ ls.length → Vals ((yss.take n).flatten) ((List.range' 0 n).flatMap ysF) := by
    intro n
    induction n with
    | zero => intro _; rw [List.take_zero]; exact .nil
    | succ n ih =>
      intro hn
      obtain ⟨ys, cj, h1, h2, _⟩ := ysF_at n (by omega)
      rw [take_succ_get h1, List.flatten_append, List.range'_concat, List.flatMap_append]
      refine (ih (by omega)).append ?_
      simp only [List.flatten_cons, List.flatten_nil, List.append_nil, List.flatMap_cons, List.flatMap_nil, Nat.zero_add, Nat.one_mul]
      exact h2
  have flat : Vals yss.flatten ((List.range' 0 ls.length).flatMap ysF) := by
    have z := fl ls.length (Nat.le_refl _)
    rw [lsl, List.take_length, ← lsl] at z
    exact z
  have zlen : zits.length = zs.length := zrv.length.symm
  have flen : ((List.range' 0 ls.length).flatMap ysF).length = yss.flatten.length := flat.length.symm
  have slen : ((List.range' 0 ls.length).map fun j => (ysF j).length).sum = yss.flatten.length := by
    rw [← flen, List.length_flatMap]
  have hh : X.A.handled = none := I.ok.hd hc
  have lsz : a < s.heap.objs.size := hl.lt
  refine PySem.call_sum_lists hbo ?_
  have hl' : s.heap.IsList a (ls.map Value.ref).toArray := hl.isList
  refine PySem.wpAny_pyIter_list hl' ?_
  have isz : (ls.map Value.ref).toArray.size = ls.length := by rw [List.size_toArray, List.length_map]
  have old : ∀ c o, s.heap.get? c = some o → c ≠ s.heap.objs.size := fun c o e => Nat.ne_of_lt (Heap.lt_size e)
  have W := Walks.list (prog := X.prog) (w := X.w) (A := X.A.in1) hh s.heap.objs.size a (Nat.ne_of_lt lsz) (ls.map Value.ref).toArray
  refine ⟨s.heap.objs.size, [s.heap.objs.size, a], [s.heap.objs.size], (ls.map Value.ref).toArray.size, _, _, fun j => ls.getD j 0, ysF, rfl, W, ⟨⟨_, Heap.get?_push_size _ rfl, rfl, rfl⟩, hl'.at fun o e => Heap.get?_push_of_some _ e⟩, ?_, ?_, ?_, ?_, ?_, ?_, ?_, ?_⟩
  · rintro i h ⟨⟨o, e, _⟩, il⟩ c hcm
    rcases List.mem_cons.mp hcm with rfl | hcm
    · exact Heap.lt_size e
    · rw [List.mem_singleton.mp hcm]
      obtain ⟨o2, e2, _⟩ := il
      exact Heap.lt_size e2
  · intro i v hv
    have e : (ls.map Value.ref)[i]? = some v := by simpa using hv
    rw [List.getElem?_map] at e
    cases hx : ls[i]? with
    | none => rw [hx] at e; cases e
    | some x =>
      rw [hx] at e
      cases e
      show Value.ref x = Value.ref (ls.getD i 0)
      rw [List.getD_eq_getElem?_getD, hx]
      rfl
  · intro i hi
    rw [isz] at hi
    obtain ⟨_, _, _, _, e⟩ := ysF_at i hi
    refine ⟨fun hm => old _ _ e (List.mem_singleton.mp hm), ?_⟩
    exact Heap.lt_size (Heap.get?_push_of_some { cls := .type "list_iterator", data := .fields #[.ref a, .int 0 0] } e)
  · exact Heap.get?_push_of_some _ hbo
  · exact fun hm => old _ _ hbo (List.mem_singleton.mp hm)
  · intro j hj
    rw [isz] at hj
    obtain ⟨_, cj, _, _, e⟩ := ysF_at j hj
    exact ⟨cj, Heap.get?_push_of_some _ e⟩
  · rw [isz, slen]
    omega
  · intro h' tk T' cT' k1 k2 k3 k4
    rw [isz] at k2
    have kS : ∀ c o, s.heap.get? c = some o → h'.get? c = some o := fun c o e => k1 c o (fun hm => old c o e (List.mem_singleton.mp hm)) (Heap.get?_push_of_some _ e)
    have hlen : (zs ++ yss.flatten).length ≤ sizeLine := by rw [List.length_append]; exact hz
    rcases k4 with rfl | k4
    · have e := kS _ _ hbo
      rw [k2] at e
      have e2 : Data.seq (zits ++ (List.range' 0 ls.length).flatMap ysF).toArray cT' = Data.seq zits.toArray nb := congrArg Obj.data (Option.some.inj e)
      injection e2 with e3 _
      have e4 := congrArg (fun a => a.toList.length) e3
      simp only [List.length_append] at e4
      have fz : yss.flatten.length = 0 := by rw [← flen]; simpa using e4
      exact ⟨.ref T', H, I.kept (t' := tk) kS, rfl, q2 (List.eq_nil_of_length_eq_zero fz)⟩
    · have nT : s.heap.get? T' = none := by
        cases e : s.heap.get? T' with
        | none => rfl
        | some o =>
          have z := Heap.get?_push_of_some { cls := .type "list_iterator", data := .fields #[.ref a, .int 0 0] } e
          rw [show (s.heap.push { cls := .type "list_iterator", data := .fields #[.ref a, .int 0 0] }).get? T' = none from k4] at z
          cases z
      have np : H T' = none := I.hok.gone nT
      exact ⟨.ref T', upd H T' (.lst (zs ++ yss.flatten)), I.laidN (t' := tk) kS nT np ⟨hlen, _, cT', zrv.append flat, k2⟩, rfl, q1 T' np⟩
end Wb

set_option Elab.async false
set_option linter.all false
set_option maxRecDepth 100000
set_option maxHeartbeats 8000000
set_option pp.maxSteps 900
set_option pp.deepTerms false
namespace L2
open PySem PySem.Spec PyProof.Rows
section
variable {X : Cx} {e a b : Expr} {pos : Pos} {tA ta tb : TT}
/-- a if t else b, as a test -/
def tIfT (t u v : TT) : TT := fun σ H Q => t σ H fun c H1 => if c = true then u σ H1 Q else v σ H1 Q
theorem pt_ifExp (hc : PT X e tA) (ha : PT X a ta) (hb : PT X b tb) : PT X (.IfExp e a b pos) (tIfT tA ta tb) := by
  refine ⟨fun pins s σ H Q I h => ?_⟩
  refine isTrue_IfExp (thn (hc.run pins s σ H _ I h) fun d s1 ⟨H1, I1, q1⟩ => ?_)
  cases d with
  | true => exact ha.run pins s1 σ H1 Q I1 q1
  | false => exact hb.run pins s1 σ H1 Q I1 q1
/-- sorted(set) of tuples of as many ints each, or of none -/
def rSortedW0 (K : PySem.W.Frag) (P : Program) (w : World) : List V → Hp → VK → Prop := fun vs H Q => ∃ (a : Addr) (L : List (Addr × List Int)) (d : Nat) (B : Int), vs = [V.ref a] ∧ H a = some (SetTO P w a L) ∧
  (∀ p ∈ L, SqT K H p.1 (p.2.map V.int)) ∧ (∀ p ∈ L, p.2.length = d ∧ TS.Bd B p.2) ∧
  ∀ (L' : List (Addr × List Int)) (p : Addr), L'.Perm L → (L'.map (·.2)).Nodup → L'.length < 64 → L'.Pairwise (fun q r => TS.code B q.2 ≤ TS.code B r.2) → H p = none → Q (.ref p) (upd H p (.lst (L'.map fun q => V.ref q.1)))
theorem cr_sortedW0 (hc : X.calm = true) : CallR X (.builtin "sorted") (rSortedW0 X.K X.prog X.w) := by
  intro pins s σ H vs us Q I r h
  obtain ⟨a, L, d, B, e1, ha, hk, hB, q⟩ := h
  by_cases hL : L = []
  · subst hL
    exact cr_sortedT hc pins s σ H vs us Q I r ⟨a, [], 1, B, e1, ha, hk, Nat.le_refl 1, fun p hp => (nomatch hp), q⟩
  · exact cr_sortedW hc pins s σ H vs us Q I r ⟨a, L, d, B, e1, ha, hk, hB, hL, q⟩
end
end L2
namespace Wb
open PySem PySem.Spec PyProof.Rows L2
abbrev sGaps : Stmt := topS 46
abbrev nGaps : List Str := ["_law_pen_here", "_law_many", "_law_words", "_law_gaps_here", "_law_left", "_law_here", "_law_there", "_law_is_near", "_law_lot", "_law_price", "_law_word_here"]
theorem scGaps : FnScope nGaps ["_law_pen_here", "_law_many", "_law_words"] (defScope sGaps) := ⟨rfl, rfl, rfl, by decide +kernel, rfl, by decide +kernel, by decide +kernel⟩
/-- gaps as they are drawn: left so many ways of eight -/
structure Gps (wide : Int) (ws : List Word) (gs : List Gap) (left : Int) : Prop where
  each : ∀ g ∈ gs, (0 ≤ g.frm ∧ g.frm < wide) ∧ (0 ≤ g.to_ ∧ g.to_ < wide) ∧ g.frm ≠ g.to_ ∧ (1 ≤ g.price ∧ g.price ≤ 1000000) ∧ g.ways.Pairwise (fun u w => HT.lexLt u w = true) ∧ ∀ u ∈ g.ways, u ∈ ws
  rise : gs.Pairwise (fun g h => lexLt2 g.frm g.to_ h.frm h.to_)
  sum : (((gs.map (fun g => g.ways.length)).sum : Nat) : Int) + left = 8
  left0 : 0 ≤ left
theorem gps0 {wide : Int} {ws : List Word} : Gps wide ws [] 8 := ⟨fun g hg => (by cases hg), List.Pairwise.nil, by decide, by decide⟩
theorem lex_pw {us : List Word} {d : Nat} (nd : us.Nodup) (hb : ∀ w ∈ us, w.length = d ∧ TS.Bd 4 w) (pw : us.Pairwise (fun u v => TS.code 4 u ≤ TS.code 4 v)) : us.Pairwise (fun u w => HT.lexLt u w = true) := by
  rw [List.pairwise_iff_getElem]
  intro i j hi hj hij
  have ne := List.pairwise_iff_getElem.mp nd i j hi hj hij
  have cd := List.pairwise_iff_getElem.mp pw i j hi hj hij
  obtain ⟨a1, a2⟩ := hb us[i] (List.getElem_mem hi)
  obtain ⟨a3, a4⟩ := hb us[j] (List.getElem_mem hj)
  exact lex_of_code (by omega) a2 a4 cd ne
theorem near_test {σ : L2.St} {H : Hp} {F : Bool → Hp → Prop} {p c : Addr} {T : Int} {nb : Bool} {i : Nat} {ta tb : TT} (h7 : σ[i]? = some (some (.bl nb)))
    (ha : ∀ Q : Bool → Hp → Prop, (∀ b H', Exx p H H' → PenAt H' p c T → Q b H') → ta σ H Q) (hb : ∀ Q : Bool → Hp → Prop, (∀ b H', Exx p H H' → PenAt H' p c T → Q b H') → tb σ H Q)
    (q : ∀ b H', Exx p H H' → PenAt H' p c T → F b H') : tIfT (tB (tVar i)) ta tb σ H F := by
  refine ⟨.bl nb, h7, nb, rfl, ?_⟩
  cases nb with
  | true => exact ha _ q
  | false => exact hb _ q
def spGaps (K : PySem.W.Frag) : Sp := fun vs H Q _ => ∃ (p c wl : Addr) (wide T : Int) (us : List V) (ws : List Word) (d : Nat), vs = [.ref p, .int wide, .ref wl] ∧ PenAt H p c T ∧ T ≤ 9000000 ∧ 2 ≤ wide ∧ wide ≤ 4 ∧ wl ≠ p ∧
  H wl = some (.lst us) ∧ Paired (Wd K H) us ws ∧ ws.length ≤ 8 ∧ (∀ w ∈ ws, w.length = d ∧ TS.Bd 4 w) ∧
  ∀ H' a gvs gs left, Exx p H H' → PenAt H' p c (T + 400) → H' a = some (.tup gvs) → Paired (GapAt K H') gvs gs → Gps wide ws gs left → Q (.ref a) H'
section
variable {P : Program} {w : World} {K : PySem.W.Frag} {mg : Str → Option Value} {base : Heap}
theorem ok_gaps {f f1 f2 : Addr} {fd fd1 fd2 : FuncData} (F : Fun K "_law_gaps" "_law_gaps" sGaps f fd) (F1 : Fun K "_law_draw" "_law_draw" sDraw f1 fd1) (b1 : Binds K fd1 ["_law_pen_here", "_law_many"] []) (g1 : mg "_law_draw" = some (.ref f1))
    (F2 : Fun K "_law_pick" "_law_pick" sPick f2 fd2) (b2 : Binds K fd2 ["_law_pen_here", "_law_lot"] []) (g2 : mg "_law_pick" = some (.ref f2)) (B : Bi mg) :
    FnOk P w K mg base CX0 3 f fd ["_law_pen_here", "_law_many", "_law_words"] (spGaps K) := by
  have G1 : FnOk P w K mg base CX0 1 f1 fd1 ["_law_pen_here", "_law_many"] spDraw := ok_draw F1 B
  have G2 : FnOk P w K mg base CX0 2 f2 fd2 ["_law_pen_here", "_law_lot"] (spPick K) := ok_pick F2 F1 b1 g1 B
  refine F.ok scGaps (fun vs H Q E h => ?_) (fun cdv A outer s H vs Q E hr h => ?_)
  · obtain ⟨p, c, wl, wide, T, us, ws, d, rfl, _⟩ := h; rfl
  · obtain ⟨p, c, wl, wide, T, us, ws, d, rfl, hp, T9, w2, w4, nwp, hwl, hws, w8, hbd, q⟩ := h
    have hr1 : Room 1 _ := hr.mono (by decide)
    refine ⟨_, (pss_cons (ps_par (by rfl) scGaps.nd (i := 3) (j := 4) rfl rfl (by decide) rfl rfl (pa_cons (pe_lst pa_nil) (pa_cons pe_int pa_nil)) (by rfl))
 (pss_cons (ps_for PassesOwn.never rfl (pi_range1 (by rfl) B.range (pa_cons (pv 1) pa_nil)) (pg_name (i := 5) scGaps.nd rfl (.inl rfl))
 (pss_one (ps_for PassesOwn.never rfl (pi_range1 (by rfl) B.range (pa_cons (pv 1) pa_nil)) (pg_name (i := 6) scGaps.nd rfl (.inl rfl))
 (Evl.pss_cut (ps_set (i := 7) scGaps.nd rfl (.inl rfl) (pe_cmpR op_eq (pe_callB call_abs (by rfl) B.abs PyProof.Rows.boot_abs (pa_cons (pe_op op_sub (pv 5) (pv 6)) pa_nil)) pe_int (nomark _)))
 (pss_one (ps_if (PW.pt (pw_and (pt_cmpR op_ne (pv 5) (pv 6) (nomark _)) (pw_and1 (pt_ifExp (pt_val (pv 7)) (pt_cmpR op_gt (pe_call G1 hr1 (by rfl) g1 F1.kp b1 .nil pass0 (pa_cons (pv 0) (pa_cons pe_int pa_nil))) pe_int (nomark _)) (pt_cmpR op_eq (pe_call G1 hr1 (by rfl) g1 F1.kp b1 .nil pass0 (pa_cons (pv 0) (pa_cons pe_int pa_nil))) pe_int (nomark _))))))
 (Evl.pss_cut (ps_set (i := 8) scGaps.nd rfl (.inl rfl) (pe_slice sl_list (pe_callB (cr_sortedW0 rfl) (by rfl) B.sorted boot_sorted (pa_cons (pe_callTy (cr_setOfT rfl hr.units) (by rfl) B.set PyProof.Rows.boot_set (pa_cons (pe_lc (own := [("_law_word_here", 10)]) (g := gName 10) (wi := iList K (tVar 2)) (te := tVar 10) rfl scGaps.nd (pi_list (pv 2)) (blkOk_by (own := [("_law_word_here", 10)]) (N := nGaps) (sc := defScope sGaps) (by decide +kernel)) (fun _ _ _ _ _ => (pg_name (i := 10) scGaps.nd rfl (.inl rfl))) (fun _ _ _ _ _ => (pts_one (pt_cmpR op_gt (pe_call G1 hr1 (by rfl) g1 F1.kp b1 .nil pass0 (pa_cons (pv 0) (pa_cons pe_int pa_nil))) pe_int (nomark _)))) (fun _ _ _ _ _ => (pv 10))) pa_nil)) pa_nil)) po_none (po_some (pv 4))))
 (pss_cons (ps_set (i := 4) scGaps.nd rfl (.inl rfl) (pe_op op_sub (pv 4) (pe_callB call_len_seq (by rfl) B.len PySem.boot_len (pa_cons (pv 8) pa_nil))))
 (pss_cons (ps_set (i := 9) scGaps.nd rfl (.inl rfl) (pe_call G2 hr (by rfl) g2 F2.kp b2 .nil pass0 (pa_cons (pv 0) (pa_cons (pe_lst (pa_cons pe_int (pa_cons pe_int (pa_cons (pe_op op_add pe_int (pe_call G1 hr1 (by rfl) g1 F1.kp b1 .nil pass0 (pa_cons (pv 0) (pa_cons pe_int pa_nil)))) (pa_cons (pe_op op_add pe_int (pe_call G1 hr1 (by rfl) g1 F1.kp b1 .nil pass0 (pa_cons (pv 0) (pa_cons (pe_op op_pow pe_int pe_int) pa_nil)))) (pa_cons (pe_op op_pow pe_int pe_int) pa_nil)))))) pa_nil))))
 (pss_one (ps_expr (pe_bm PySem.F.plainAttrs_list PySem.F.slot_list_append PySem.F.type_list_append mt_append (pv 3) (pa_cons (pe_tup (pa_cons (pv 5) (pa_cons (pv 6) (pa_cons (pv 9) (pa_cons (pe_callTy (r := rTupK K) call_tupK (by rfl) B.tuple PyProof.Rows.boot_tuple (pa_cons (pv 8) pa_nil)) pa_nil))))) pa_nil)))))))
 pss_nil))))))
 (pss_one (ps_ret (pe_callTy (r := rTupK K) call_tupK (by rfl) B.tuple PyProof.Rows.boot_tuple (pa_cons (pv 3) pa_nil)))))), ?_⟩
    have ul : us.length = ws.length := Paired.len hws
    refine ⟨Nat.zero_le _, fun l nl => ?_⟩
    have nlp : l ≠ p := hp.new1 nl
    have nlc : l ≠ c := hp.new2 nl
    have nlw : l ≠ wl := fun z => by rw [z, hwl] at nl; cases nl
    refine ⟨.ref l, .int 8, rfl, ?_⟩
    refine ⟨.int wide, rfl, wide, rfl, by omega, by omega, for_range (lo := 0) (n := wide.toNat) (fun i σ H' => ∃ (gvs : List V) (gs : List Gap) (left : Int) (y5 y6 y7 y8 y9 y10 : Option V), σ = [some (.ref p), some (.int wide), some (.ref wl), some (.ref l), some (.int left), y5, y6, y7, y8, y9, y10] ∧
        Exx p H H' ∧ PenAt H' p c (T + 80 * i) ∧ H' l = some (.lst gvs) ∧ Paired (GapAt K H') gvs gs ∧ Gps wide ws gs left ∧ gvs.length ≤ 4 * i ∧ ∀ g ∈ gs, g.frm < (i : Int)) ⟨[], [], 8, none, none, none, none, none, none, rfl, Exx.ex (Evl.Ex.new nl), ?_, upd_same, .nil, gps0, Nat.zero_le _, fun g hg => nomatch hg⟩ ?_ ?_⟩
    · have := hp.put (o := .lst []) nlp nlc
      simpa using this
    · rintro i σ H1 hi ⟨gvs, gs, left, y5, y6, y7, y8, y9, y10, rfl, x1, hp1, hl1, hg1, hd1, gl1, hlt1⟩
      have i4 : i < 4 := by omega
      have ei : (0 : Int) + (i : Nat) = (i : Int) := by omega
      rw [ei]
      refine ⟨.int wide, rfl, wide, rfl, by omega, by omega, for_range (lo := 0) (n := wide.toNat) (fun j σ H' => ∃ (gvs : List V) (gs : List Gap) (left : Int) (y6 y7 y8 y9 y10 : Option V), σ = [some (.ref p), some (.int wide), some (.ref wl), some (.ref l), some (.int left), some (.int (i : Nat)), y6, y7, y8, y9, y10] ∧
          Exx p H H' ∧ PenAt H' p c (T + 80 * i + 20 * j) ∧ H' l = some (.lst gvs) ∧ Paired (GapAt K H') gvs gs ∧ Gps wide ws gs left ∧ gvs.length ≤ 4 * i + j ∧ ∀ g ∈ gs, lexLt2 g.frm g.to_ i j) ⟨gvs, gs, left, _, _, _, _, _, rfl, x1, by simpa using hp1, hl1, hg1, hd1, by omega, fun g hg => .inl (hlt1 g hg)⟩ ?_ ?_⟩
      · rintro j σ H2 hj ⟨gvs, gs, left, y6, y7, y8, y9, y10, rfl, x2, hp2, hl2, hg2, hd2, gl2, hlt2⟩
        have j4 : j < 4 := by omega
        have ej : (0 : Int) + (j : Nat) = (j : Int) := by omega
        rw [ej]
        have hi' : (i : Int) < wide := by omega
        have hj' : (j : Int) < wide := by omega
        refine ⟨fun σ' H' => ∃ nb : Bool, σ' = [some (.ref p), some (.int wide), some (.ref wl), some (.ref l), some (.int left), some (.int (i : Nat)), some (.int (j : Nat)), some (.bl nb), y8, y9, y10] ∧ H2 = H', ?_, ?_⟩
        · exact ⟨.int (i : Nat), rfl, .int (j : Nat), rfl, (i : Nat), (j : Nat), rfl, rfl, _, rfl, rfl, _, rfl, rfl⟩
        rintro _ _ ⟨nb, rfl, rfl⟩
        -- nothing is put in
        have stay : ∀ {Hx : Hp} {y8 y9 y10 : Option V} {k : Int}, Exx p H2 Hx → PenAt Hx p c (T + 80 * i + 20 * j + k) → k ≤ 20 → ∃ (gvs : List V) (gs : List Gap) (left' : Int) (y6 y7' y8' y9' y10' : Option V), ([some (.ref p), some (.int wide), some (.ref wl), some (.ref l), some (.int left), some (.int (i : Nat)), some (.int (j : Nat)), some (.bl nb), y8, y9, y10] : L2.St) = [some (.ref p), some (.int wide), some (.ref wl), some (.ref l), some (.int left'), some (.int (i : Nat)), y6, y7', y8', y9', y10'] ∧
            Exx p H Hx ∧ PenAt Hx p c (T + 80 * i + 20 * ((j + 1 : Nat) : Int)) ∧ Hx l = some (.lst gvs) ∧ Paired (GapAt K Hx) gvs gs ∧ Gps wide ws gs left' ∧ gvs.length ≤ 4 * i + (j + 1) ∧ ∀ g ∈ gs, lexLt2 g.frm g.to_ i ((j + 1 : Nat) : Int) := by
          intro Hx y8 y9 y10 k ex hpx hk
          refine ⟨gvs, gs, left, _, _, _, _, _, rfl, x2.trans ex, hpx.mono (by omega), ex _ _ nlp hl2, Paired.imp (fun _ _ => GapAt.mono (hp2.tx ex)) hg2, hd2, by omega, fun g hg => ?_⟩
          rcases hlt2 g hg with h | ⟨h, h'⟩
          · exact .inl h
          · exact .inr ⟨h, by omega⟩
        refine ⟨.int (i : Nat), rfl, .int (j : Nat), rfl, rfl, _, rfl, ?_⟩
        by_cases eij : i = j
        · subst eij
          have z : (!decide (V.int (i : Nat) = V.int (i : Nat))) = false := by simp
          rw [z]
          refine iteF ?_
          exact stay (k := 0) (Exx.refl p H2) (by simpa using hp2) (by decide)
        · have z : (!decide (V.int (i : Nat) = V.int (j : Nat))) = true := by
            have : ¬ V.int (i : Nat) = V.int (j : Nat) := fun e => eij (by have := V.int.inj e; omega)
            rw [decide_eq_false this]
            rfl
          rw [z]
          refine iteT ?_
          refine near_test (i := 7) (p := p) (c := c) (T := T + 80 * i + 20 * j + 1) rfl (fun Q' h => ⟨.ref p, rfl, p, c, 5, _, rfl, hp2, by decide, by decide, by omega, fun r H3 _ _ x3 hp3 => ⟨r, 0, rfl, rfl, _, rfl, h _ _ x3 hp3⟩⟩) (fun Q' h => ⟨.ref p, rfl, p, c, 4, _, rfl, hp2, by decide, by decide, by omega, fun r H3 _ _ x3 hp3 => ⟨rfl, _, rfl, h _ _ x3 hp3⟩⟩) fun bb H3 x3 hp3 => ?_
          refine ite2 (fun _ => ?_) (fun _ => ?_)
          · have x23 := x2.trans x3
            have hwl3 : H3 wl = some (.lst us) := x23 _ _ nwp hwl
            have tx3 : TX K H H3 := hp.tx x23
            have left0 := hd2.left0
            obtain ⟨ln, hln⟩ : ∃ ln : Nat, left = (ln : Int) := ⟨left.toNat, by omega⟩
            subst hln
            have hl3 := x3 _ _ nlp hl2
            -- the words drawn
            refine ⟨fun σ' H' => ∃ (D2 : Addr) (vs : List V) (ss : List Word), σ' = [some (.ref p), some (.int wide), some (.ref wl), some (.ref l), some (.int (ln : Int)), some (.int (i : Nat)), some (.int (j : Nat)), some (.bl nb), some (.ref D2), y9, y10] ∧
                Exx p H3 H' ∧ PenAt H' p c (T + 80 * i + 20 * j + 10) ∧ H' D2 = some (.lst vs) ∧ Paired (Wd K H') vs ss ∧ D2 ≠ p ∧ D2 ≠ l ∧ ss.length ≤ ln ∧ ss.length ≤ 8 ∧ ss.Pairwise (fun u w => HT.lexLt u w = true) ∧ ∀ u ∈ ss, u ∈ ws, ?_, ?_⟩
            · refine ⟨.ref wl, rfl, wl, rfl, ⟨us, .inl (.inl hwl3)⟩, fun D hD => ?_⟩
              have nDp : D ≠ p := hp3.new1 hD
              have nDc : D ≠ c := hp3.new2 hD
              have nDw : D ≠ wl := fun z => by rw [z, hwl3] at hD; cases hD
              refine lc_list (K := K) (a := wl) (xs := us) (fun m H' => ∃ (vs : List V) (ss : List Word), Exx p H3 H' ∧ PenAt H' p c (T + 80 * i + 20 * j + 1 + m) ∧ H' D = some (.lst vs) ∧ Paired (Wd K H') vs ss ∧ ss.Sublist (ws.take m)) ⟨[], [], Exx.ex (Evl.Ex.new hD), ?_, upd_same, .nil, List.nil_sublist _⟩ ?_ ?_ ?_
              · have := hp3.put (o := .lst []) nDp nDc
                simpa using this
              · rintro m H' _ ⟨_, _, x, _⟩
                exact .inl (.inl (x _ _ nwp hwl3))
              · rintro m x H4 hm ⟨vs, ss, x4, hp4, hD4, hv4, hs4⟩
                obtain ⟨t, ht, hax⟩ := Paired.get1 hws hm
                have m8 : m < 8 := by
                  have := (List.getElem?_eq_some_iff.mp ht).1
                  omega
                refine ⟨rfl, .ref p, rfl, p, c, 4, _, rfl, hp4, by decide, by decide, by omega, fun r' H5 _ _ x5 hp5 => ?_⟩
                refine ⟨r', 0, rfl, rfl, _, rfl, ?_⟩
                have vlen : vs.length ≤ m := by
                  have h1 := hs4.length_le
                  rw [List.length_take] at h1
                  have h2 : vs.length = ss.length := Paired.len hv4
                  omega
                have hD5 := x5 _ _ nDp hD4
                have hv5 : Paired (Wd K H5) vs ss := Paired.imp (fun _ _ => Wd.mono (hp4.tx x5)) hv4
                refine ite2 (fun _ => ?_) (fun _ => ?_)
                · refine ⟨x, rfl, vs, hD5, Nat.lt_of_le_of_lt (by omega : vs.length ≤ 8) (by decide), vs ++ [x], ss ++ [t], (x4.trans x5).mut hD, ?_, upd_same, ?_, ?_⟩
                  · have := (hp5.put (o := .lst (vs ++ [x])) nDp nDc).mono (T' := T + 80 * i + 20 * j + 1 + ((m + 1 : Nat) : Int)) (by omega)
                    exact this
                  · have tx5 : TX K H H5 := tx3.trans ((hp3.tx x4).trans (hp4.tx x5))
                    exact Paired.imp (fun _ _ => Wd.mono (TX.put hD5)) (paired_app1 hv5 (hax.mono tx5))
                  · rw [take_succ_get ht]
                    exact List.Sublist.append hs4 (List.Sublist.refl _)
                · refine ⟨vs, ss, x4.trans x5, hp5.mono (by omega), hD5, hv5, ?_⟩
                  rw [take_succ_get ht]
                  exact hs4.trans (List.sublist_append_left _ _)
              · rintro H4 ⟨vs, ss0, x4, hp4, hD4, hv4, hs4⟩
                rw [ul, List.take_length] at hs4
                rw [ul] at hp4
                have s08 : ss0.length ≤ 8 := Nat.le_trans hs4.length_le w8
                obtain ⟨ks, rfl, hks, hkt⟩ := keys_of hv4
                have ksl : ks.length = ss0.length := by
                  have := congrArg List.length hks
                  rwa [List.length_map] at this
                have inw : ∀ q ∈ ks, q.2 ∈ ws := fun q hq => by
                  have : q.2 ∈ ss0 := by rw [← hks]; exact List.mem_map.mpr ⟨q, hq, rfl⟩
                  exact hs4.subset this
                refine ⟨D, ks, rfl, SqL.of hD4, fun q hq => .inl (.inl (hkt q hq)), by omega, fun sa L nsa hL1 hL2 => ?_⟩
                have e9 := Evl.Ex.new (o := SetTO P w sa L) nsa
                refine ⟨sa, L, d, 4, rfl, upd_same, fun q hq => .inl (.inl (e9 _ _ (hkt q (hL1 q hq)))), fun q hq => hbd _ (inw q (hL1 q hq)), fun L' sl perm nodup l64 pw nsl => ?_⟩
                have e10 : Evl.Ex (upd H4 sa (SetTO P w sa L)) (upd (upd H4 sa (SetTO P w sa L)) sl (.lst (L'.map fun q => V.ref q.1))) := Evl.Ex.new nsl
                have e410 := e9.trans e10
                have hL' : ∀ q ∈ L', q ∈ ks := fun q hq => hL1 q (perm.mem_iff.mp hq)
                have rows : Paired (Wd K (upd (upd H4 sa (SetTO P w sa L)) sl (.lst (L'.map fun q => V.ref q.1)))) (L'.map fun q => V.ref q.1) (L'.map (·.2)) := rows_of_keys fun q hq => e410 _ _ (hkt q (hL' q hq))
                have gsl : (upd (upd H4 sa (SetTO P w sa L)) sl (.lst (L'.map fun q => V.ref q.1))) sl = some (.lst (L'.map fun q => V.ref q.1)) := upd_same
                have sub : ∀ u ∈ L'.map (·.2), u ∈ ws := fun u hu => by
                  obtain ⟨q, hq, rfl⟩ := List.mem_map.mp hu
                  exact inw q (hL' q hq)
                have lex := lex_pw (d := d) nodup (fun u hu => hbd u (sub u hu)) (List.pairwise_map.mpr pw)
                have hp4' := hp4.ex e410
                have ss8 : (L'.map (·.2)).length ≤ 8 := Nat.le_trans (nodup_le nodup sub) w8
                refine ⟨.int (ln : Int), rfl, (ln : Int), rfl, sl, _, rfl, SqL.of gsl, fun D2 hD2 => ?_⟩
                rw [cut_take]
                have hD2' : (upd (upd H4 sa (SetTO P w sa L)) sl (.lst (L'.map fun q => V.ref q.1))) D2 = none := hD2
                have e5 := Evl.Ex.new (o := .lst ((L'.map fun q => V.ref q.1).take ln)) hD2'
                have rows2 : Paired (Wd K (upd (upd H4 sa (SetTO P w sa L)) sl (.lst (L'.map fun q => V.ref q.1)))) ((L'.map fun q => V.ref q.1).take ln) ((L'.map (·.2)).take ln) := Paired.takeN ln rows
                have hl4 := e410 _ _ (x4 _ _ nlp hl3)
                refine ⟨D2, (L'.map fun q => V.ref q.1).take ln, (L'.map (·.2)).take ln, rfl, (x4.trans (Exx.ex e410)).trans (Exx.ex e5), (hp4'.ex e5).mono (by omega), upd_same, Paired.imp (fun _ _ => Wd.mono (TX.ex e5)) rows2, hp4'.new1 hD2', (fun z => by rw [z, hl4] at hD2'; cases hD2'), by rw [List.length_take]; exact Nat.min_le_left _ _, by rw [List.length_take]; omega, lex.sublist (List.take_sublist ln _), fun u hu => sub u (List.mem_of_mem_take hu)⟩
            rintro _ H5 ⟨D2, vs, ss, rfl, x35, hp5, hD25, rows, nD2p, nD2l, ssl, ss8, lex, sub⟩
            refine ⟨.int (ln : Int), rfl, .ref D2, rfl, D2, _, rfl, .inl (SqL.of hD25), (ln : Int), _, rfl, rfl, ?_⟩
            -- the price
            refine ⟨.ref p, rfl, .ref p, rfl, p, c, 5, _, rfl, hp5, by decide, by decide, by omega, fun q1 H6 a1 a2 x6 hp6 => ⟨1, q1, rfl, rfl, ?_⟩⟩
            refine ⟨.ref p, rfl, 10, 6, rfl, rfl, (show (0 : Int) ≤ 6 ∧ (6 : Int) ≤ 1000000 ∧ (10 : Int).natAbs < 2 ^ 64 by decide), p, c, 1000000, _, rfl, hp6, by decide, by decide, by omega, fun q2 H7 a3 a4 x7 hp7 => ⟨1, q2, rfl, rfl, ?_⟩⟩
            refine ⟨10, 6, rfl, rfl, (show (0 : Int) ≤ 6 ∧ (6 : Int) ≤ 1000000 ∧ (10 : Int).natAbs < 2 ^ 64 by decide), (by show 5 ≤ sizeLine; decide), fun L9 hL9 => ?_⟩
            have nLp : L9 ≠ p := hp7.new1 hL9
            refine ⟨p, c, L9, _, [.int 1, .int 1, .int (1 + q1), .int (1 + q2), .int 1000000], rfl, hp7.ex (Evl.Ex.new hL9), by omega, SqL.of upd_same, nLp, (by simp), (by show 5 ≤ 1000000; decide), fun pr H10 hpr x10 hp10 => ?_⟩
            obtain ⟨pi, rfl, pi1, pi2⟩ : ∃ pi, pr = .int pi ∧ 1 ≤ pi ∧ pi ≤ 1000000 := by
              simp only [List.mem_cons, List.not_mem_nil, or_false] at hpr
              rcases hpr with rfl | rfl | rfl | rfl | rfl
              · exact ⟨_, rfl, by decide, by decide⟩
              · exact ⟨_, rfl, by decide, by decide⟩
              · exact ⟨_, rfl, by omega, by omega⟩
              · exact ⟨_, rfl, by omega, by omega⟩
              · exact ⟨_, rfl, by decide, by decide⟩
            have x510 : Exx p H5 H10 := ((x6.trans x7).trans (Exx.ex (Evl.Ex.new hL9))).trans x10
            have hD210 : H10 D2 = some (.lst vs) := x510 _ _ nD2p hD25
            have xA : Exx p H3 H10 := x35.trans x510
            have xB : Exx p H H10 := x23.trans xA
            have hl10 : H10 l = some (.lst gvs) := xA _ _ nlp (x3 _ _ nlp hl2)
            have hv10 : Paired (Wd K H10) vs ss := Paired.imp (fun _ _ => Wd.mono (hp5.tx x510)) rows
            have hg10 : Paired (GapAt K H10) gvs gs := Paired.imp (fun _ _ => GapAt.mono ((hp2.tx x3).trans (hp3.tx xA))) hg2
            refine ⟨.ref l, rfl, .inl ⟨rfl, _, SqL.of hl10⟩, .int (i : Nat), rfl, .int (j : Nat), rfl, .int pi, rfl, .ref D2, rfl, D2, _, rfl, .inl ⟨.inl (.inl hD210), fun W hW => ?_⟩⟩
            have e11 := Evl.Ex.new (o := .tup vs) hW
            generalize hH11 : upd H10 W (.tup vs) = H11 at e11
            have hW11 : H11 W = some (.tup vs) := by rw [← hH11]; exact upd_same
            refine ⟨(by show 4 ≤ sizeLine; decide), fun G hG => ?_⟩
            have e12 := Evl.Ex.new (o := .tup [.int (i : Nat), .int (j : Nat), .int pi, .ref W]) hG
            generalize hH12 : upd H11 G (.tup [.int (i : Nat), .int (j : Nat), .int pi, .ref W]) = H12 at e12
            have hG12 : H12 G = some (.tup [.int (i : Nat), .int (j : Nat), .int pi, .ref W]) := by rw [← hH12]; exact upd_same
            have e1012 := e11.trans e12
            have hl12 := e1012 _ _ hl10
            refine ⟨l, gvs, _, rfl, rfl, hl12, Nat.lt_of_le_of_lt (by omega : gvs.length ≤ 20) (by decide), ?_⟩
            let g : Gap := ⟨i, j, pi, ss⟩
            have hpF : PenAt (upd H12 l (.lst (gvs ++ [.ref G]))) p c (T + 80 * i + 20 * ((j + 1 : Nat) : Int)) := ((hp10.ex e1012).put (o := .lst (gvs ++ [.ref G])) nlp nlc).mono (by omega)
            have gAt : GapAt K H12 (.ref G) g := ⟨G, W, vs, rfl, .inl (.inl hG12), .inl (.inl (e12 _ _ hW11)), Paired.imp (fun _ _ => wd_ex e1012) hv10⟩
            have vsl : vs.length = ss.length := Paired.len hv10
            refine ⟨gvs ++ [.ref G], gs ++ [g], (ln : Int) - (vs.length : Int), _, _, _, _, _, rfl, (xB.trans (Exx.ex e1012)).mut nl, hpF, upd_same, ?_, ?_, ?_, ?_⟩
            · exact Paired.imp (fun _ _ => GapAt.mono (TX.put hl12)) (paired_app1 (Paired.imp (fun _ _ => GapAt.mono (TX.ex e1012)) hg10) gAt)
            · refine ⟨?_, ?_, ?_, ?_⟩
              · intro g' hg'
                rcases List.mem_append.mp hg' with h | h
                · exact hd2.each g' h
                · have : g' = g := by simpa using h
                  subst this
                  exact ⟨⟨by show (0 : Int) ≤ i; omega, hi'⟩, ⟨by show (0 : Int) ≤ j; omega, hj'⟩, (by show (i : Int) ≠ j; omega), ⟨pi1, pi2⟩, lex, sub⟩
              · rw [List.pairwise_append]
                refine ⟨hd2.rise, by simp, ?_⟩
                intro g' hg' g'' hg''
                have : g'' = g := by simpa using hg''
                subst this
                exact hlt2 g' hg'
              · have h := hd2.sum
                rw [List.map_append, List.sum_append, vsl]
                simp only [List.map_cons, List.map_nil, List.sum_cons, List.sum_nil]
                show ((((gs.map (fun g => g.ways.length)).sum + (ss.length + 0) : Nat)) : Int) + ((ln : Int) - (ss.length : Int)) = 8
                omega
              · have : vs.length ≤ ln := by omega
                omega
            · rw [List.length_append]
              simp
              omega
            · intro g' hg'
              rcases List.mem_append.mp hg' with h | h
              · rcases hlt2 g' h with h | ⟨h, h'⟩
                · exact .inl h
                · exact .inr ⟨h, by omega⟩
              · have : g' = g := by simpa using h
                subst this
                exact .inr ⟨rfl, by show (j : Int) < ((j + 1 : Nat) : Int); omega⟩
          · exact stay (k := 1) x3 hp3 (by decide)
      · rintro σ H2 ⟨gvs, gs, left, y6, y7, y8, y9, y10, rfl, x2, hp2, hl2, hg2, hd2, gl2, hlt2⟩
        refine ⟨gvs, gs, left, _, _, _, _, _, _, rfl, x2, hp2.mono (by omega), hl2, hg2, hd2, by omega, fun g hg => ?_⟩
        have hj := ((hd2.each g hg).2.1).2
        rcases hlt2 g hg with h | ⟨h, h'⟩
        · omega
        · omega
    · rintro σ H1 ⟨gvs, gs, left, y5, y6, y7, y8, y9, y10, rfl, x1, hp1, hl1, hg1, hd1, gl1, hlt1⟩
      refine ⟨.ref l, rfl, l, gvs, rfl, .inl ⟨.inl (.inl hl1), fun a na => ?_⟩⟩
      have e2 := Evl.Ex.new (o := .tup gvs) na
      exact q _ a gvs gs left (x1.trans (Exx.ex e2)) ((hp1.ex e2).mono (by omega)) upd_same (Paired.imp (fun _ _ => GapAt.mono (TX.ex e2)) hg1) hd1
end
end Wb

set_option Elab.async false
set_option linter.all false
set_option maxRecDepth 100000
set_option maxHeartbeats 8000000
set_option pp.maxSteps 900
set_option pp.deepTerms false
namespace Wb
open PySem PySem.Spec PyProof.Rows L2
abbrev sLock : Stmt := topS 47
abbrev nLock : List Str := ["_law_pen_here", "_law_sizes_here", "_law_stands", "_law_k", "_law_bolts", "_law_many", "_law_stand"]
theorem scLock : FnScope nLock ["_law_pen_here", "_law_sizes_here"] (defScope sLock) := ⟨rfl, rfl, rfl, by decide +kernel, rfl, by decide +kernel, by decide +kernel⟩
/-- a bolt as the law draws it: its ways are cuts of the bases -/
structure LBolt (ms : List Int) (bases : List Word) (k : Nat) (b : Bolt) : Prop where
  many : ms[k]? = some b.many
  gp : ∃ left, Gps b.many (bases.map fun u => u.take k) b.gaps left
theorem manys_of_l {ms : List Int} {bases : List Word} {l : Lock} (ll : l.length = ms.length) (h : ∀ j b, l[j]? = some b → LBolt ms bases j b) : manysOf l = ms := by
  unfold manysOf
  refine List.ext_getElem? fun i => ?_
  rw [List.getElem?_map]
  cases e : l[i]? with
  | none =>
    rw [List.getElem?_eq_none_iff] at e
    rw [List.getElem?_eq_none (by omega)]
    rfl
  | some b => exact ((h i b e).many).symm
theorem lock_of_l {ms : List Int} {bases : List Word} {l : Lock} (so : SizesOk ms) (ll : l.length = ms.length) (bl : bases.length ≤ 3) (hb : ∀ u ∈ bases, InAll u ms) (h : ∀ j b, l[j]? = some b → LBolt ms bases j b) : LockOk l := by
  have mo := manys_of_l ll h
  have m1 : 1 ≤ ms.length := List.length_pos_iff.mpr so.ne
  have m6 := so.few
  refine ⟨by omega, by omega, fun k b hk => ?_, fun k ws kl nd hw => ?_⟩
  · have t := h k b hk
    obtain ⟨left, gp⟩ := t.gp
    have m24 := so.each b.many (List.mem_of_getElem? t.many)
    have kl := (List.getElem?_eq_some_iff.mp hk).1
    have mk : manysOf (l.take k) = ms.take k := by
      rw [← mo]
      unfold manysOf
      rw [List.map_take]
    have sum8 : (b.gaps.map (fun g => g.ways.length)).sum ≤ 8 := by
      have h1 := gp.sum
      have h2 := gp.left0
      omega
    refine ⟨m24.1, m24.2, fun g hg => ?_, gp.rise, sum8⟩
    obtain ⟨a1, a2, a3, a4, a6, a7⟩ := gp.each g hg
    have g8 : g.ways.length ≤ 8 := by
      have : g.ways.length ≤ (b.gaps.map (fun g => g.ways.length)).sum := le_sum (List.mem_map.mpr ⟨g, hg, rfl⟩)
      omega
    refine ⟨a1.1, a1.2, a2.1, a2.2, a3, a4.1, a4.2, g8, fun u hu => ?_, a6⟩
    obtain ⟨s, hs, rfl⟩ := List.mem_map.mp (a7 u hu)
    rw [mk]
    exact inAll_take (hb s hs) k
  · have sub : ∀ w ∈ ws, w ∈ bases.map (fun u => u.take k) := fun w hw' => by
      obtain ⟨j, b, g, u, kj, hj, hg, hu, rfl⟩ := hw w hw'
      obtain ⟨left, gp⟩ := (h j b hj).gp
      obtain ⟨s, hs, rfl⟩ := List.mem_map.mp ((gp.each g hg).2.2.2.2.2 u hu)
      exact List.mem_map.mpr ⟨s, hs, by rw [List.take_take, Nat.min_eq_left kj]⟩
    have := nodup_le nd sub
    rw [List.length_map] at this
    omega
theorem cut_bd {ms : List Int} {s : Word} (each : ∀ m ∈ ms, 2 ≤ m ∧ m ≤ 4) (ia : InAll s ms) {k : Nat} (kl : k ≤ ms.length) : (s.take k).length = k ∧ TS.Bd 4 (s.take k) := by
  have sl := ia.1
  refine ⟨by rw [List.length_take]; omega, fun y hy => ?_⟩
  obtain ⟨j, hj⟩ := List.mem_iff_getElem?.mp (List.mem_of_mem_take hy)
  have jl := (List.getElem?_eq_some_iff.mp hj).1
  obtain ⟨mj, hmj⟩ : ∃ mj, ms[j]? = some mj := ⟨_, List.getElem?_eq_getElem (by omega)⟩
  have := ia.2 j y mj hj hmj
  have := each mj (List.mem_of_getElem? hmj)
  omega
def spLock (K : PySem.W.Frag) : Sp := fun vs H Q _ => ∃ (p c S : Addr) (T : Int) (ms : List Int), vs = [.ref p, .ref S] ∧ PenAt H p c T ∧ T ≤ 8000000 ∧ S ≠ p ∧ H S = some (.lst (ms.map V.int)) ∧ SizesOk ms ∧
  ∀ H' v l, Exx p H H' → PenAt H' p c (T + 4000) → LockT K H' v l → LockOk l → manysOf l = ms → Q v H'
section
variable {P : Program} {w : World} {K : PySem.W.Frag} {mg : Str → Option Value} {base : Heap}
theorem ok_lock {f f1 f2 f3 : Addr} {fd fd1 fd2 fd3 : FuncData} (F : Fun K "_law_lock" "_law_lock" sLock f fd) (F1 : Fun K "_law_draw" "_law_draw" sDraw f1 fd1) (b1 : Binds K fd1 ["_law_pen_here", "_law_many"] []) (g1 : mg "_law_draw" = some (.ref f1))
    (F2 : Fun K "_law_pick" "_law_pick" sPick f2 fd2) (b2 : Binds K fd2 ["_law_pen_here", "_law_lot"] []) (g2 : mg "_law_pick" = some (.ref f2))
    (F3 : Fun K "_law_gaps" "_law_gaps" sGaps f3 fd3) (b3 : Binds K fd3 ["_law_pen_here", "_law_many", "_law_words"] []) (g3 : mg "_law_gaps" = some (.ref f3)) (B : Bi mg) :
    FnOk P w K mg base CX0 4 f fd ["_law_pen_here", "_law_sizes_here"] (spLock K) := by
  have G1 : FnOk P w K mg base CX0 1 f1 fd1 ["_law_pen_here", "_law_many"] spDraw := ok_draw F1 B
  have G3 : FnOk P w K mg base CX0 3 f3 fd3 ["_law_pen_here", "_law_many", "_law_words"] (spGaps K) := ok_gaps F3 F1 b1 g1 F2 b2 g2 B
  refine F.ok scLock (fun vs H Q E h => ?_) (fun cdv A outer s H vs Q E hr h => ?_)
  · obtain ⟨p, c, S, T, ms, rfl, _⟩ := h; rfl
  · obtain ⟨p, c, S, T, ms, rfl, hp, T8, nSp, hS, so, q⟩ := h
    have hr1 : Room 1 _ := hr.mono (by decide)
    have hw1 : ∀ x ∈ ms, 1 ≤ x ∧ x ≤ 1000000 := fun x hx => by have := so.each x hx; omega
    have m6 := so.few
    have m1 : 1 ≤ ms.length := List.length_pos_iff.mpr so.ne
    refine ⟨_, (pss_cons (ps_set (i := 2) scLock.nd rfl (.inl rfl) (pe_lst pa_nil))
 (pss_cons (ps_for PassesOwn.never rfl (pi_range1 (by rfl) B.range (pa_cons (pe_op op_add pe_int (pe_call G1 hr1 (by rfl) g1 F1.kp b1 .nil pass0 (pa_cons (pv 0) (pa_cons pe_int pa_nil)))) pa_nil)) (pg_name (i := 3) scLock.nd rfl (.inr rfl))
 (pss_one (ps_expr (pe_bm PySem.F.plainAttrs_list PySem.F.slot_list_append PySem.F.type_list_append mt_append (pv 2) (pa_cons (pe_callTy (r := rTupK K) call_tupK (by rfl) B.tuple PyProof.Rows.boot_tuple (pa_cons (pe_lc (own := [("_law_many", 5)]) (wi := iList K (tVar 1)) (g := gName 5) rfl scLock.nd (pi_list (pv 1)) (blkOk_by (own := [("_law_many", 5)]) (N := nLock) (sc := defScope sLock) (by decide +kernel)) (fun _ _ _ _ _ => (pg_name (i := 5) scLock.nd rfl (.inl rfl))) (fun _ _ _ _ _ => pts_nil) (fun _ _ _ _ _ => (pe_call G1 hr1 (by rfl) g1 F1.kp b1 .nil pass0 (pa_cons (pv 0) (pa_cons (pv 5) pa_nil))))) pa_nil)) pa_nil)))))
 (pss_cons (ps_set (i := 4) scLock.nd rfl (.inl rfl) (pe_lst pa_nil))
 (pss_cons (ps_for PassesOwn.never rfl (pi_range1 (by rfl) B.range (pa_cons (pe_callB call_len_seq (by rfl) B.len PySem.boot_len (pa_cons (pv 1) pa_nil)) pa_nil)) (pg_name (i := 3) scLock.nd rfl (.inr rfl))
 (pss_one (ps_expr (pe_bm PySem.F.plainAttrs_list PySem.F.slot_list_append PySem.F.type_list_append mt_append (pv 4) (pa_cons (pe_tup (pa_cons (pe_ix ix_list (pv 1) (pv 3) (fun _ _ => rfl)) (pa_cons (pe_call G3 hr (by rfl) g3 F3.kp b3 .nil pass0 (pa_cons (pv 0) (pa_cons (pe_ix ix_list (pv 1) (pv 3) (fun _ _ => rfl)) (pa_cons (pe_lc (own := [("_law_stand", 6)]) (wi := iList K (tVar 2)) (te := tSl (rSlA K) (tVar 6) tNoPart (tPart (tVar 3))) (g := gName 6) rfl scLock.nd (pi_list (pv 2)) (blkOk_by (own := [("_law_stand", 6)]) (N := nLock) (sc := defScope sLock) (by decide +kernel)) (fun _ _ _ _ _ => (pg_name (i := 6) scLock.nd rfl (.inl rfl))) (fun _ _ _ _ _ => pts_nil) (fun _ _ _ _ _ => (pe_slice (r := rSlA K) sl_tupA (pv 6) po_none (po_some (pv 3))))) pa_nil)))) pa_nil))) pa_nil)))))
 (pss_one (ps_ret (pe_callTy (r := rTupK K) call_tupK (by rfl) B.tuple PyProof.Rows.boot_tuple (pa_cons (pv 4) pa_nil)))))))), ?_⟩
    refine ⟨Nat.zero_le _, fun bs nbs => ?_⟩
    have nbsp : bs ≠ p := hp.new1 nbs
    have nbsc : bs ≠ c := hp.new2 nbs
    have nSbs : S ≠ bs := fun y => by rw [← y, hS] at nbs; cases nbs
    have e1 := Evl.Ex.new (o := .lst []) nbs
    have gbs : (upd H bs (.lst [])) bs = some (.lst []) := upd_same
    have hp1 := hp.ex e1
    have hS1 := e1 _ _ hS
    generalize upd H bs (.lst []) = H1 at e1 gbs hp1 hS1
    refine ⟨.ref p, rfl, p, c, 3, _, rfl, hp1, by decide, by decide, by omega, fun r H2 r0 r1 x2 hp2 => ⟨1, r, rfl, rfl, _, rfl, by omega, by omega, ?_⟩⟩
    refine for_range (lo := 0) (n := (1 + r).toNat) (fun i σ H' => ∃ (bvs : List V) (bases : List Word) (y3 : Option V), σ = [some (.ref p), some (.ref S), some (.ref bs), y3, none, none, none] ∧ Exx p H H' ∧ PenAt H' p c (T + 1 + 6 * (i : Nat)) ∧ H' S = some (.lst (ms.map V.int)) ∧ H' bs = some (.lst bvs) ∧ Paired (Wd K H') bvs bases ∧ bases.length = i ∧ ∀ u ∈ bases, InAll u ms)
      ⟨[], [], none, rfl, (Exx.ex e1).trans x2, by simpa using hp2, x2 _ _ nSp hS1, x2 _ _ nbsp gbs, .nil, rfl, fun u hu => nomatch hu⟩ ?_ ?_
    · rintro i σ H3 hi ⟨bvs, bases, y3, rfl, x3, hp3, hS3, hbs3, hbv, bl, hb⟩
      refine ⟨.ref bs, rfl, .inl ⟨rfl, _, SqL.of hbs3⟩, ?_⟩
      refine tcons1 ?_
      refine tcb1 ?_
      refine lc_draws (K := K) (vs := [5]) (i := 5) (wds := ms) (p := p) (c := c) hp3 ?_ (by omega) hw1 (by omega) ?_ ?_ ?_ ?_
      · exact fun Q' h => ⟨.ref S, rfl, h S H3 (Exx.refl p H3) hp3 (.inl (.inl hS3)) nSp⟩
      · exact fun _ => rfl
      · exact fun _ => rfl
      · exact fun _ => rfl
      intro H4 D xs x4 hp4 nD hD hin
      refine ⟨D, _, rfl, .inl ⟨.inl (.inl hD), fun t nt => ?_⟩⟩
      have e5 := Evl.Ex.new (o := .tup (xs.map V.int)) nt
      have gt : (upd H4 t (.tup (xs.map V.int))) t = some (.tup (xs.map V.int)) := upd_same
      have hp5 := hp4.ex e5
      generalize upd H4 t (.tup (xs.map V.int)) = H5 at e5 gt hp5
      have hbs5 := e5 _ _ (x4 _ _ nbsp hbs3)
      have bvl : bvs.length = bases.length := Paired.len hbv
      have tx5 : TX K H3 H5 := (hp3.tx x4).trans (TX.ex e5)
      refine ⟨bs, bvs, _, rfl, rfl, hbs5, Nat.lt_of_le_of_lt (by omega : bvs.length ≤ 3) (by decide), ?_⟩
      refine ⟨bvs ++ [.ref t], bases ++ [xs], _, rfl, (x3.trans (x4.trans (Exx.ex e5))).mut nbs, (hp5.put nbsp nbsc).mono (by omega), by rw [upd_ne nSbs]; exact e5 _ _ (x4 _ _ nSp hS3), upd_same, ?_, by rw [List.length_append, bl]; rfl, ?_⟩
      · exact Paired.imp (fun _ _ => Wd.mono (TX.put hbs5)) (paired_app1 (Paired.imp (fun _ _ => Wd.mono tx5) hbv) ⟨t, rfl, gt⟩)
      · intro u hu
        rcases List.mem_append.mp hu with h | h
        · exact hb u h
        · rw [List.mem_singleton.mp h]; exact hin
    · rintro σ H3 ⟨bvs, bases, y3, rfl, x3, hp3, hS3, hbs3, hbv, bl, hb⟩
      have bl3 : bases.length ≤ 3 := by omega
      have bl1 : 1 ≤ bases.length := by omega
      refine ⟨Nat.zero_le _, fun lk nlk => ?_⟩
      have nlkp : lk ≠ p := hp3.new1 nlk
      have nlkc : lk ≠ c := hp3.new2 nlk
      have nlkS : S ≠ lk := fun y => by rw [← y, hS3] at nlk; cases nlk
      have nlkb : bs ≠ lk := fun y => by rw [← y, hbs3] at nlk; cases nlk
      have nlk0 : H lk = none := fresh_exx x3 hp3.here nlk
      have e4 := Evl.Ex.new (o := .lst []) nlk
      have glk : (upd H3 lk (.lst [])) lk = some (.lst []) := upd_same
      have hp4 := hp3.ex e4
      have hS4 := e4 _ _ hS3
      have hbs4 := e4 _ _ hbs3
      have hbv4 : Paired (Wd K (upd H3 lk (.lst []))) bvs bases := Paired.imp (fun _ _ => Wd.mono (TX.ex e4)) hbv
      have x4 := x3.trans (Exx.ex e4)
      generalize upd H3 lk (.lst []) = H4 at e4 glk hp4 hS4 hbs4 hbv4 x4
      have bvl : bvs.length = bases.length := Paired.len hbv
      have lmS : (ms.map V.int).length = ms.length := List.length_map _
      refine ⟨.ref S, rfl, S, _, rfl, .inl (SqL.of hS4), _, rfl, by omega, by omega, ?_⟩
      refine for_range (lo := 0) (n := (((ms.map V.int).length : Nat) : Int).toNat) (fun k σ H' => ∃ (lvs : List V) (l : Lock) (y3 y5 y6 : Option V), σ = [some (.ref p), some (.ref S), some (.ref bs), y3, some (.ref lk), y5, y6] ∧
          Exx p H H' ∧ PenAt H' p c (T + 30 + 400 * (k : Nat)) ∧ H' S = some (.lst (ms.map V.int)) ∧ H' bs = some (.lst bvs) ∧ Paired (Wd K H') bvs bases ∧ H' lk = some (.lst lvs) ∧ Paired (BoltAt K H') lvs l ∧ l.length = k ∧ ∀ j b, l[j]? = some b → LBolt ms bases j b)
        ⟨[], [], y3, none, none, rfl, x4, hp4.mono (by omega), hS4, hbs4, hbv4, glk, .nil, rfl, fun j b h => by simp at h⟩ ?_ ?_
      · rintro k σ H5 hk ⟨lvs, l, y3, y5, y6, rfl, x5, hp5, hS5, hbs5, hbv5, hlk5, hlv5, ll, htb⟩
        have ek : (0 : Int) + (k : Nat) = ((k : Nat) : Int) := by omega
        rw [ek]
        have kl : k < ms.length := by
          rw [List.length_map] at hk
          omega
        obtain ⟨m, hm⟩ : ∃ m, ms[k]? = some m := ⟨ms[k], List.getElem?_eq_getElem kl⟩
        have m24 := so.each m (List.mem_of_getElem? hm)
        have lvl : lvs.length = l.length := Paired.len hlv5
        refine ⟨.ref lk, rfl, .inl ⟨rfl, _, SqL.of hlk5⟩, ?_⟩
        refine ⟨.ref S, rfl, .int (k : Nat), rfl, S, _, (k : Nat), .int m, rfl, rfl, SqL.of hS5, atI_nat (map_int_get hm), ?_⟩
        refine ⟨.ref p, rfl, .ref S, rfl, .int (k : Nat), rfl, S, _, (k : Nat), .int m, rfl, rfl, SqL.of hS5, atI_nat (map_int_get hm), ?_⟩
        refine ⟨.ref bs, rfl, bs, rfl, ⟨bvs, SqL.of hbs5⟩, fun wlA nwl => ?_⟩
        refine lc_list (K := K) (a := bs) (xs := bvs) (fun m H' => ∃ vs : List V, Evl.Ex H5 H' ∧ H' wlA = some (.lst vs) ∧ Paired (Wd K H') vs ((bases.take m).map (fun u => u.take k))) ⟨[], Evl.Ex.new nwl, upd_same, .nil⟩ ?_ ?_ ?_
        · rintro m H' _ ⟨_, e, _⟩
          exact SqL.of (e _ _ hbs5)
        · rintro m x H7 hm ⟨vs, e7, hwl7, hv7⟩
          obtain ⟨u, hu, ⟨ax, rfl, hax⟩⟩ := Paired.get1 hbv5 hm
          refine ⟨rfl, .ref ax, rfl, ?_⟩
          refine nopart1 ?_
          refine ⟨.int (k : Nat), rfl, (k : Nat), rfl, ?_⟩
          refine sl_own (K := K) (lo := none) (hi := some ((k : Nat) : Int)) (e7 _ _ hax) fun H8 z8 e8 q8 => ?_
          rw [cut_take, ← List.map_take] at q8
          have vl : vs.length ≤ 3 := by
            have := Paired.len hv7
            rw [List.length_map, List.length_take] at this
            omega
          refine ⟨vs, e8 _ _ hwl7, Nat.lt_of_le_of_lt vl (by decide), vs ++ [.ref z8], (e7.trans e8).mut nwl, upd_same, ?_⟩
          rw [take_map_succ k hu]
          exact Paired.imp (fun _ _ => Wd.mono (TX.put (e8 _ _ hwl7))) (paired_app1 (Paired.imp (fun _ _ => wd_ex e8) hv7) ⟨z8, rfl, q8⟩)
        · rintro H7 ⟨vs, e7, hwl7, hv7⟩
          rw [bvl, List.take_length] at hv7
          have hp7 := hp5.ex e7
          have nwp : wlA ≠ p := hp5.new1 nwl
          refine ⟨p, c, wlA, m, _, vs, _, k, rfl, hp7, by omega, m24.1, m24.2, nwp, hwl7, hv7, by rw [List.length_map]; omega, fun u hu => ?_, fun H8 a gvs gs left x8 hp8 ha8 hg8 gp => ?_⟩
          · obtain ⟨s, hs, rfl⟩ := List.mem_map.mp hu
            exact cut_bd so.each (hb s hs) (Nat.le_of_lt kl)
          refine ⟨(by show 2 ≤ sizeLine; decide), fun tb ntb => ?_⟩
          have e9 := Evl.Ex.new (o := .tup [.int m, .ref a]) ntb
          have gtb : (upd H8 tb (.tup [.int m, .ref a])) tb = some (.tup [.int m, .ref a]) := upd_same
          have hp9 := hp8.ex e9
          generalize upd H8 tb (.tup [.int m, .ref a]) = H9 at e9 gtb hp9
          have x59 : Exx p H5 H9 := (Exx.ex e7).trans (x8.trans (Exx.ex e9))
          have tx59 : TX K H5 H9 := hp5.tx x59
          have hlk9 := x59 _ _ nlkp hlk5
          refine ⟨lk, lvs, _, rfl, rfl, hlk9, Nat.lt_of_le_of_lt (by omega : lvs.length ≤ 6) (by decide), ?_⟩
          have bAt : BoltAt K H9 (.ref tb) ⟨m, gs⟩ := ⟨tb, a, gvs, rfl, .inl (.inl gtb), .inl (.inl (e9 _ _ ha8)), Paired.imp (fun _ _ => GapAt.mono (TX.ex e9)) hg8⟩
          refine ⟨lvs ++ [.ref tb], l ++ [⟨m, gs⟩], _, _, _, rfl, (x5.trans x59).mut nlk0, (hp9.put nlkp nlkc).mono (by omega), by rw [upd_ne nlkS]; exact x59 _ _ nSp hS5, by rw [upd_ne nlkb]; exact x59 _ _ nbsp hbs5, Paired.imp (fun _ _ z => Wd.mono (TX.put hlk9) (Wd.mono tx59 z)) hbv5, upd_same, ?_, by rw [List.length_append, ll]; rfl, fun j b hj => ?_⟩
          · exact Paired.imp (fun _ _ => BoltAt.mono (TX.put hlk9)) (paired_app1 (Paired.imp (fun _ _ => BoltAt.mono tx59) hlv5) bAt)
          · by_cases cj : j < l.length
            · rw [List.getElem?_append_left cj] at hj
              exact htb j b hj
            · have jl := (List.getElem?_eq_some_iff.mp hj).1
              rw [List.length_append, List.length_singleton] at jl
              rw [List.getElem?_append_right (by omega), show j - l.length = 0 by omega] at hj
              cases hj
              rw [show j = k by omega]
              exact ⟨hm, left, gp⟩
      · rintro σ H5 ⟨lvs, l, y3, y5, y6, rfl, x5, hp5, hS5, hbs5, hbv5, hlk5, hlv5, ll, htb⟩
        have ll' : l.length = ms.length := by
          rw [ll, List.length_map]
          omega
        refine ⟨.ref lk, rfl, lk, lvs, rfl, .inl ⟨.inl (.inl hlk5), fun t nt => ?_⟩⟩
        have e6 := Evl.Ex.new (o := .tup lvs) nt
        refine q _ _ l (x5.trans (Exx.ex e6)) ((hp5.ex e6).mono (by rw [List.length_map]; omega)) ⟨t, lvs, rfl, upd_same, Paired.imp (fun _ _ => BoltAt.mono (TX.ex e6)) hlv5⟩ (lock_of_l so ll' bl3 hb htb) (manys_of_l ll' htb)
end
end Wb

set_option Elab.async false
set_option linter.all false
set_option maxRecDepth 100000
set_option maxHeartbeats 8000000
set_option pp.maxSteps 900
set_option pp.deepTerms false
namespace Wb
open PySem PySem.Spec PyProof.Rows L2
abbrev sAll : Stmt := topS 52
abbrev nAll : List Str := ["_law_lock_here", "_law_found", "_law_bolt", "_law_rows", "_law_stand", "_law_place"]
theorem scAll : FnScope nAll ["_law_lock_here"] (defScope sAll) := ⟨rfl, rfl, rfl, by decide +kernel, rfl, by decide +kernel, by decide +kernel⟩
theorem paired_imp_mem {α β : Type} {R S : α → β → Prop} {xs : List α} {ys : List β} (f : ∀ x y, x ∈ xs → R x y → S x y) (h : Paired R xs ys) : Paired S xs ys := by
  induction h with
  | nil => exact .nil
  | cons r _ ih => exact .cons (f _ _ List.mem_cons_self r) (ih fun x y hx => f x y (List.mem_cons_of_mem _ hx))
abbrev blkAll : Scope := { kind := .function, names := [(".0", .local), ("_law_stand", .cell), ("range", .globalImplicit), ("_law_bolt", .cell)], isGenerator := false, isCoroutine := false }
def spAll (K : PySem.W.Frag) : Sp := fun vs H Q _ => ∃ (v : V) (l : Lock), vs = [v] ∧ LockAt K H v l ∧ LkS l ∧
  ∀ H' r wvs (ws : List Word), Evl.Ex H H' → H r = none → H' r = some (.lst wvs) → Paired (Wd K H') wvs ws → ws = standsOf (manysOf l) → ws.length ≤ 96 → Q (.ref r) H'
abbrev tRow (K : PySem.W.Frag) : TE := tLc (iRng1 (tCons (tOp (rIxT K) (tVar 2) (tC (V.int 0))) tNil)) (gName 5) tYes (tOp (rCatA K) (tVar 4) (tTup (tCons (tVar 5) tNil))) [5]
theorem cross_in {F : List Word} {ms : List Int} {m : Int} (h : ∀ u, u ∈ F ↔ InAll u ms) (u : Word) : u ∈ crossW F (plc m) ↔ InAll u (ms ++ [m]) := by
  constructor
  · intro hu
    obtain ⟨x, hx, p, hp, rfl⟩ := mem_cross.mp hu
    have lp := mem_plc.mp hp
    exact inAll_snoc ((h x).mp hx) lp.1 lp.2
  · intro hu
    obtain ⟨x, p, rfl⟩ : ∃ x p, u = x ++ [p] := by
      rcases List.eq_nil_or_concat u with z | ⟨L, b, z⟩
      · have := hu.1
        rw [z, List.length_append] at this
        simp at this
      · exact ⟨L, b, by rw [z]; simp⟩
    obtain ⟨ix, p0, p1⟩ := inAll_un hu
    exact mem_cross1.mpr ⟨(h x).mpr ix, mem_plc.mpr ⟨p0, p1⟩⟩
theorem rows_get {K : PySem.W.Frag} {H : Hp} : ∀ {rs : List Addr} {rows : List (List Word)}, Paired (RowAt K H) rs rows → ∃ yss : List (List V), Paired (fun r ys => H r = some (.lst ys)) rs yss ∧ Paired (Paired (Wd K H)) yss rows
  | _, _, .nil => ⟨[], .nil, .nil⟩
  | _, _, .cons r t => by
    obtain ⟨us, h1, h2⟩ := r
    obtain ⟨yss, h3, h4⟩ := rows_get t
    exact ⟨us :: yss, .cons h1 h3, .cons h2 h4⟩
theorem paired_flat {α β : Type} {R : α → β → Prop} : ∀ {xss : List (List α)} {yss : List (List β)}, Paired (Paired R) xss yss → Paired R xss.flatten yss.flatten
  | _, _, .nil => .nil
  | _, _, .cons r t => by
    rw [List.flatten_cons, List.flatten_cons]
    exact Paired.app r (paired_flat t)
section
variable {P : Program} {w : World} {K : PySem.W.Frag} {mg : Str → Option Value} {base : Heap}
theorem ok_all {f : Addr} {fd : FuncData} (F : Fun K "_law_all" "_law_all" sAll f fd) (B : Bi mg) (sm : mg "sum" = none) : FnOk P w K mg base CX0 1 f fd ["_law_lock_here"] (spAll K) := by
  refine F.ok scAll (fun vs H Q E h => ?_) (fun cdv A' outer s H vs Q E hr h => ?_)
  · obtain ⟨v, l, rfl, _⟩ := h; rfl
  · obtain ⟨v, l, rfl, ⟨a, bs, rfl, ha, hbs⟩, lk, q⟩ := h
    refine ⟨_, (Evl.pss_cut (ps_set (i := 1) scAll.nd rfl (.inl rfl) (pe_lst (pa_cons (pe_tup pa_nil) pa_nil)))
      (pss_cons (ps_for PassesOwn.never rfl (pi_tup (pv 0)) (pg_name (i := 2) scAll.nd rfl (.inr rfl))
        (Evl.pss_cut (ps_setLc (i := 3) (own := [("_law_stand", 4)]) (wi := iList K (tVar 1)) (te := tRow K) (g := gName 4) rfl scAll.nd rfl rfl (sw_true rfl rfl rfl (by decide +kernel)) (pi_list (pv 1)) (blkOk_by (own := [("_law_stand", 4)]) (N := nAll) (sc := defScope sAll) (by decide +kernel)) (fun _ _ _ _ _ => (pg_name (i := 4) scAll.nd rfl (.inr rfl))) (fun _ _ _ _ _ => pts_nil)
          (fun _ _ _ _ _ => (pe_lc (own := [("_law_place", 5)]) (wi := iRng1 (tCons (tOp (rIxT K) (tVar 2) (tC (V.int 0))) tNil)) (te := tOp (rCatA K) (tVar 4) (tTup (tCons (tVar 5) tNil))) (g := gName 5) rfl scAll.nd (pi_range1 (by rfl) B.range (pa_cons (pe_ix (r := rIxT K) ix_tup (pv 2) pe_int (fun _ _ => rfl)) pa_nil)) (blkOk_by (own := [("_law_place", 5)]) (N := nAll) (sc := blkAll) (by decide +kernel)) (fun _ _ _ _ _ => (pg_name (i := 5) scAll.nd rfl (.inl rfl))) (fun _ _ _ _ _ => pts_nil)
            (fun _ _ _ _ _ => (pe_op (r := rCatA K) op_catA (pv 4) (pe_tup (pa_cons (pv 5) pa_nil)))))))
        (pss_one (ps_set (i := 1) scAll.nd rfl (.inl rfl) (pe_callB (cr_sumL rfl) (by rfl) sm boot_sum (pa_cons (pv 3) (pa_cons (pe_lst pa_nil) pa_nil)))))))
      (pss_one (ps_ret (pv 1))))), ?_⟩
    have bl : bs.length = l.length := Paired.len hbs
    refine ⟨fun σ H1 => ∃ (fa : Addr) (wvs : List V), σ = [some (.ref a), some (.ref fa), none, none, none, none] ∧ Evl.Ex H H1 ∧ H fa = none ∧ H1 fa = some (.lst wvs) ∧ Paired (Wd K H1) wvs [[]], ?_, ?_⟩
    · refine ⟨Nat.zero_le _, fun p np => ⟨(by show 1 ≤ sizeLine; decide), fun fa nf => ?_⟩⟩
      have e1 := Evl.Ex.new (o := .tup []) np
      have e2 := Evl.Ex.new (o := .lst [.ref p]) nf
      exact ⟨fa, [.ref p], rfl, e1.trans e2, Evl.fresh_back e1 nf, upd_same, .cons ⟨p, rfl, e2 _ _ upd_same⟩ .nil⟩
    rintro _ H1 ⟨fa0, wv0, rfl, e1, nf0, hf0, hw0⟩
    refine ⟨.ref a, rfl, a, rfl, ⟨bs, Evl.ex_t e1 ha⟩, ?_⟩
    refine for_it (walk_tup (K := K) (a := a) (xs := bs)) (fun i σ H' => ∃ (fa : Addr) (wvs : List V) (ws : List Word) (y2 y3 : Option V), σ = [some (.ref a), some (.ref fa), y2, y3, none, none] ∧ Evl.Ex H H' ∧ H fa = none ∧ H' fa = some (.lst wvs) ∧ Paired (Wd K H') wvs ws ∧
        (∀ u, u ∈ ws ↔ InAll u (manysOf (l.take i))) ∧ ((ws.length : Nat) : Int) = prodI (manysOf (l.take i)) ∧ ws = standsOf (manysOf (l.take i)))
      ⟨fa0, wv0, [[]], none, none, rfl, e1, nf0, hf0, hw0, fun u => ?_, rfl, rfl⟩ ?_ ?_ ?_
    · constructor
      · intro h
        rw [List.mem_singleton.mp h]
        exact inAll_nil
      · intro h
        have := h.1
        rw [List.eq_nil_of_length_eq_zero this]
        exact List.mem_cons_self
    · rintro i σ H' _ ⟨_, _, _, _, _, _, e, _⟩
      exact Evl.ex_t e ha
    · rintro i x σ H2 H2' hi ⟨fa, wvs, ws, y2, y3, rfl, e2, nf, hf, hw, iff, cnt, eqs⟩ ⟨rfl, hx⟩
      obtain ⟨b, hb, ⟨ab, cb, gs, rfl, k1, k2, k3⟩⟩ := Paired.get1 hbs hx
      have many := (lk.goes b (List.mem_of_getElem? hb)).1
      have wl : wvs.length = ws.length := Paired.len hw
      have tk : manysOf (l.take (i + 1)) = manysOf (l.take i) ++ [b.many] := by
        rw [take_succ_get hb]
        unfold manysOf
        rw [List.map_append]
        rfl
      have lt : prodI (manysOf (l.take (i + 1))) ≤ 96 := (lks_take lk (i + 1)).prod
      have cnt' : (((crossW ws (plc b.many)).length : Nat) : Int) = prodI (manysOf (l.take (i + 1))) := by
        rw [tk, prodI_snoc, cross_len, plc_len, Int.natCast_mul, cnt, Int.toNat_of_nonneg (by omega)]
      have w96 : ws.length ≤ 96 := by
        have := (lks_take lk i).prod
        omega
      refine ⟨fun σ' H' => ∃ (Ra : Addr) (rs : List Addr), σ' = [some (.ref a), some (.ref fa), some (.ref ab), some (.ref Ra), none, none] ∧ Evl.Ex H2' H' ∧ H' Ra = some (.lst (rs.map V.ref)) ∧ Paired (RowAt K H') rs (ws.map fun x => (plc b.many).map fun p => x ++ [p]), ?_, ?_⟩
      · refine ⟨.ref fa, rfl, fa, rfl, ⟨wvs, SqL.of hf⟩, fun Ra nRa => ?_⟩
        refine lc_it (walk_list (K := K) (a := fa) (xs := wvs)) (fun j H' => ∃ rs : List Addr, Evl.Ex H2' H' ∧ H' Ra = some (.lst (rs.map V.ref)) ∧ (∀ r ∈ rs, r ≠ Ra) ∧ Paired (RowAt K H') rs ((ws.take j).map fun x => (plc b.many).map fun p => x ++ [p])) ⟨[], Evl.Ex.new nRa, upd_same, (fun r h => nomatch h), .nil⟩ ?_ ?_ ?_
        · rintro j H' _ ⟨_, e3, _⟩
          exact SqL.of (e3 _ _ hf)
        · rintro j x H3 H3' hj ⟨rs, e3, hR3, nr, hrs⟩ ⟨rfl, hx3⟩
          obtain ⟨wd, hwd, ⟨xa, rfl, hxa⟩⟩ := Paired.get1 hw hx3
          refine ⟨rfl, ?_⟩
          have rl : rs.length ≤ 96 := by
            have := Paired.len hrs
            rw [List.length_map, List.length_take] at this
            omega
          have lw : wd.length ≤ 6 := by
            have h1 := inAll_len ((iff wd).mp (List.mem_of_getElem? hwd))
            have h2 := (lks_take lk i).few
            omega
          refine ⟨.ref ab, rfl, ab, _, 0, .int b.many, rfl, rfl, Evl.ex_t (e2.trans e3) k1, atI_nat (j := 0) rfl, b.many, rfl, by omega, by omega, fun D nD => lc_range (lo := 0) (n := b.many.toNat) (fun k H' => ∃ vs : List V, Evl.Ex H3' H' ∧ H' D = some (.lst vs) ∧ Paired (Wd K H') vs (((plc b.many).take k).map fun p => wd ++ [p])) ⟨[], Evl.Ex.new nD, upd_same, .nil⟩ ?_ ?_⟩
          · rintro k H4 hk ⟨vs, e4, hD4, hvs⟩
            have z0 : (0 : Int) + (k : Nat) = (k : Int) := by omega
            refine ⟨rfl, .ref xa, rfl, .int ((0 : Int) + (k : Nat)), rfl, (by show 1 ≤ sizeLine; decide), fun y ny => ?_⟩
            rw [z0]
            have e5 := Evl.Ex.new (o := .tup [.int (k : Int)]) ny
            have q5 : (upd H4 y (.tup [.int (k : Int)])) y = some (.tup [.int (k : Int)]) := upd_same
            generalize upd H4 y (.tup [.int (k : Int)]) = H5 at e5 q5
            have hxa5 := (e3.trans (e4.trans e5)) _ _ hxa
            refine cat_own (K := K) hxa5 q5 (Nat.le_trans (by rw [List.length_map, List.length_singleton]; omega : (wd.map V.int).length + [V.int (k : Int)].length ≤ 101) (by decide)) fun H6 z6 e6 q6 => ?_
            have e46 := e5.trans e6
            have hD6 := e46 _ _ hD4
            have vl : vs.length ≤ 4 := by
              have := Paired.len hvs
              rw [List.length_map, List.length_take, plc_len] at this
              omega
            refine ⟨vs, hD6, Nat.lt_of_le_of_lt vl (by decide), vs ++ [.ref z6], (e4.trans e46).mut nD, upd_same, ?_⟩
            rw [take_succ_get (plc_get hk), List.map_append]
            refine Paired.imp (fun _ _ => Wd.mono (TX.put hD6)) (paired_app1 (Paired.imp (fun _ _ => Wd.mono (TX.ex e46)) hvs) ⟨z6, rfl, ?_⟩)
            show H6 z6 = some (.tup ((wd ++ [(k : Int)]).map V.int))
            rw [List.map_append]
            exact q6
          · rintro H4 ⟨vs, e4, hD4, hvs⟩
            rw [← plc_len b.many, List.take_length] at hvs
            have hR4 := e4 _ _ hR3
            have nDR : D ≠ Ra := fun y => by rw [y, hR3] at nD; cases nD
            refine ⟨rs.map V.ref, hR4, Nat.lt_of_le_of_lt (by rw [List.length_map]; exact rl) (by decide), rs ++ [D], (e3.trans e4).mut nRa, by rw [upd_same, List.map_append]; rfl, ?_, ?_⟩
            · intro r hr
              rcases List.mem_append.mp hr with h | h
              · exact nr r h
              · rw [List.mem_singleton.mp h]; exact nDR
            · rw [take_succ_get hwd, List.map_append]
              have kp : ∀ r us, r ≠ Ra → RowAt K H4 r us → RowAt K (upd H4 Ra (.lst (rs.map V.ref ++ [.ref D]))) r us := by
                rintro r us n ⟨vv, h1, h2⟩
                exact ⟨vv, by rw [upd_ne n]; exact h1, Paired.imp (fun _ _ => Wd.mono (TX.put hR4)) h2⟩
              refine paired_app1 (paired_imp_mem (fun r us hr h => kp r us (nr r hr) (h.ex e4)) hrs) (kp D _ nDR ⟨vs, hD4, hvs⟩)
        · rintro H3 ⟨rs, e3, hR3, _, hrs⟩
          rw [wl, List.take_length] at hrs
          exact ⟨Ra, rs, rfl, e3, hR3, hrs⟩
      rintro _ H3 ⟨Ra, rs, rfl, e3, hR3, hrs⟩
      have e23 := e2.trans e3
      refine ⟨.ref Ra, rfl, Nat.zero_le _, fun c nc => ?_⟩
      have e4 := Evl.Ex.new (o := .lst []) nc
      have hc4 : (upd H3 c (.lst [])) c = some (.lst []) := upd_same
      generalize upd H3 c (.lst []) = H4 at e4 hc4
      obtain ⟨yss, y1, y2'⟩ := rows_get (Paired.imp (fun _ _ h => RowAt.ex e4 h) hrs)
      have fl : Paired (Wd K H4) yss.flatten (crossW ws (plc b.many)) := by
        have := paired_flat y2'
        rw [← List.flatMap_def] at this
        exact this
      have fll : yss.flatten.length ≤ 96 := by
        have := Paired.len fl
        omega
      have e24 := e23.trans e4
      have done : ∀ H5 c, H c = none → Evl.Ex H4 H5 ∨ (Evl.Ex H H5 ∧ ∀ b ys, H4 b = some (.tup ys) → H5 b = some (.tup ys)) → H5 c = some (.lst yss.flatten) → ∃ (fa : Addr) (wvs : List V) (ws : List Word) (y2 y3 : Option V), [some (.ref a), some (.ref c), some (.ref ab), some (.ref Ra), none, none] = [some (.ref a), some (.ref fa), y2, y3, none, none] ∧ Evl.Ex H H5 ∧ H fa = none ∧ H5 fa = some (.lst wvs) ∧ Paired (Wd K H5) wvs ws ∧
          (∀ u, u ∈ ws ↔ InAll u (manysOf (l.take (i + 1)))) ∧ ((ws.length : Nat) : Int) = prodI (manysOf (l.take (i + 1))) ∧ ws = standsOf (manysOf (l.take (i + 1))) := by
        intro H5 c nc5 e5 hc5
        have tk5 : ∀ b ys, H4 b = some (.tup ys) → H5 b = some (.tup ys) := fun b ys h => e5.elim (fun e => e _ _ h) (fun e => e.2 _ _ h)
        refine ⟨c, yss.flatten, crossW ws (plc b.many), _, _, rfl, e5.elim (fun e => e24.trans e) (fun e => e.1), nc5, hc5, Paired.imp (fun _ _ ⟨x, r, h⟩ => ⟨x, r, tk5 _ _ h⟩) fl, fun u => ?_, cnt', by rw [tk, stands_snoc, ← eqs]⟩
        rw [tk]
        exact cross_in iff u
      refine ⟨Ra, c, rs, yss, [], rfl, SqL.of (e4 _ _ hR3), hc4, y1, Nat.le_trans (by rw [List.length_nil]; omega : ([] : List V).length + yss.flatten.length ≤ 96) (by decide), fun p np => ?_, fun h0 => ?_⟩
      · exact done _ p (Evl.fresh_back e24 np) (.inl (Evl.Ex.new np)) upd_same
      · exact done _ c (Evl.fresh_back e23 nc) (.inl (Evl.Ex.refl _)) (by rw [h0]; exact hc4)
    · rintro σ H2 ⟨fa, wvs, ws, y2, y3, rfl, e2, nf, hf, hw, iff, cnt, eqs⟩
      rw [bl, List.take_length] at iff cnt eqs
      have := lk.prod
      exact ⟨.ref fa, rfl, q H2 fa wvs ws e2 nf hf hw eqs (by omega)⟩
end
end Wb

set_option Elab.async false
set_option linter.all false
set_option maxRecDepth 100000
set_option maxHeartbeats 4000000
namespace L2
open PySem PySem.Spec PyProof.Rows
/-! ### tuple * int, for none and one too -/
theorem tuple_mul1 (l : Addr) (items : Array Value) (n : Nat) (dd : Option Addr) (sl : Array (Option Value)) (u : Tok) :
    Meets (Builtin.«tuple.__mul__» ⟨[.ref l, .int 1 u], []⟩) (fun _ R s => s.heap.get? l = some { cls := .type "tuple", dict := dd, data := .seq items n, slots := sl } ∧ R (.ok (.ret (Value.ref l))) s) :=
  .of_wp fun prog w A R s h => by
    obtain ⟨hp, g, d, tk, os⟩ := s
    obtain ⟨hl, h⟩ := h
    have f1 := AutoSeq1.idx_int
    have c1 : (items.isEmpty || (1 : Int) == 1) = true := by rw [Bool.or_eq_true]; exact .inr rfl
    wp_walk using wpAny_loadPart' hl
    repeat (first
      | (refine wpAny_ite_true (decide_eq_true c1) ?_; wp_walk using wpAny_loadPart' hl)
      | (refine wpAny_ite_false (decide_eq_false (by decide)) ?_; wp_walk using wpAny_loadPart' hl))
    exact ⟨_, rfl, h⟩
theorem tuple_mul0 (l : Addr) (items : Array Value) (n : Nat) (dd : Option Addr) (sl : Array (Option Value)) (u : Tok) (c1 : (items.isEmpty || (0 : Int) == 1) = false) :
    Meets (Builtin.«tuple.__mul__» ⟨[.ref l, .int 0 u], []⟩) (fun _ R s => s.heap.get? l = some { cls := .type "tuple", dict := dd, data := .seq items n, slots := sl } ∧
      R (.ok (.ret (Value.ref s.heap.objs.size))) { s with heap := s.heap.push { cls := Value.type "tuple", data := Data.seq #[] }, toks := s.toks }) :=
  .of_wp fun prog w A R s h => by
    obtain ⟨hp, g, d, tk, os⟩ := s
    obtain ⟨hl, h⟩ := h
    have f1 := AutoSeq1.idx_int
    have c2 : (decide ((0 : Int) ≤ 0) || items.isEmpty) = true := by rw [Bool.or_eq_true]; exact .inl (by decide)
    have c3 : (#[] : Array Value).size ≤ sizeLine := Nat.zero_le _
    wp_walk using wpAny_loadPart' hl
    repeat (first
      | (refine wpAny_ite_false (decide_eq_false (by decide)) ?_; wp_walk using wpAny_loadPart' hl)
      | (refine wpAny_ite_false (decide_eq_false (by rw [c1]; exact Bool.false_ne_true)) ?_; wp_walk using wpAny_loadPart' hl)
      | (refine wpAny_ite_true (decide_eq_true c2) ?_; wp_walk using wpAny_loadPart' hl)
      | (refine wpAny_ite_false (decide_eq_false (Nat.not_lt.mpr c3)) ?_; wp_walk using wpAny_loadPart' hl))
    exact ⟨_, rfl, h⟩
def rRepN (K : PySem.W.Frag) : R2 := fun x y H Q => ∃ l k xs, x = .ref l ∧ y = .int k ∧ SqT K H l xs ∧ xs ≠ [] ∧ 0 ≤ k ∧ k ≤ 1000 ∧ xs.length ≤ 1000 ∧ (k = 1 → Q (.ref l) H) ∧ (k ≠ 1 → ∀ p, H p = none → Q (.ref p) (upd H p (.tup (List.replicate k.toNat xs).flatten)))
section
variable {X : Cx}
theorem op_repN : OpR X (binaryOp .Mult) (rRepN X.K) := by
  intro pins s σ H x y v u Q I rx ry h
  obtain ⟨l, k, xs, rfl, rfl, hT, hne, h1, h2, hz, q1, q⟩ := h
  by_cases k2 : 2 ≤ k
  · exact op_repT pins s σ H _ _ v u Q I rx ry ⟨l, k, xs, rfl, rfl, hT, hne, k2, h2, hz, q (by omega)⟩
  cases rx
  obtain ⟨t, rfl⟩ := ry
  obtain ⟨its, r, ⟨⟨cls, dd, data, sl⟩, ho, hc, n, hd⟩, hs⟩ := I.tuple hT
  simp only at hc hd
  subst hc hd
  have hle : its.length = xs.length := r.length.symm
  have hn : its ≠ [] := fun e => hne (by
    rw [e] at hle
    exact List.eq_nil_of_length_eq_zero hle.symm)
  have hi : its.toArray.isEmpty = false := by
    cases its with
    | nil => exact absurd rfl hn
    | cons a b => rfl
  by_cases k1 : k = 1
  · subst k1
    refine wpAny_binaryOp_repeat_ref (T := "tuple") (U := "int") (by decide) ⟨_, ho, rfl⟩ (fun s' => typeIs_int s' 1 t) noFill_tuple_mul F.fills_int_mul F.slot_int_rmul repeat_tuple F.slot_int_index.lookup
      (call_meets F.slot_int_rmul (typeIs_int s 1 t) F.entry_int_rmul (F.args_int_rmul_2 _ _) (int_rmul_tuple 1 t l its.toArray n dd sl)
        ⟨ho, rfl, ⟨_, ho, rfl⟩, call_meets F.slot_tuple_mul ⟨_, ho, rfl⟩ F.entry_tuple_mul (F.args_tuple_mul_2 _ _) (tuple_mul1 l its.toArray n dd sl t) ⟨ho, ?_⟩⟩)
    exact ⟨.ref l, H, I, rfl, q1 rfl⟩
  · have k0 : k = 0 := by omega
    subst k0
    refine wpAny_binaryOp_repeat_ref (T := "tuple") (U := "int") (by decide) ⟨_, ho, rfl⟩ (fun s' => typeIs_int s' 0 t) noFill_tuple_mul F.fills_int_mul F.slot_int_rmul repeat_tuple F.slot_int_index.lookup
      (call_meets F.slot_int_rmul (typeIs_int s 0 t) F.entry_int_rmul (F.args_int_rmul_2 _ _) (int_rmul_tuple 0 t l its.toArray n dd sl)
        ⟨ho, rfl, ⟨_, ho, rfl⟩, call_meets F.slot_tuple_mul ⟨_, ho, rfl⟩ F.entry_tuple_mul (F.args_tuple_mul_2 _ _) (tuple_mul0 l its.toArray n dd sl t (by rw [hi]; rfl)) ⟨ho, ?_⟩⟩)
    refine ⟨.ref s.heap.objs.size, _, I.laid (t' := s.toks) (o := .tup (List.replicate (0 : Int).toNat xs).flatten) (fun b ob q => Heap.get?_push_of_some _ q) (Nat.le_refl _) ?_, rfl, q (by decide) _ (I.hok.fresh (Nat.le_refl _))⟩
    exact ⟨Nat.zero_le _, [], .nil, IsTup.new _ _⟩
end
end L2

set_option Elab.async false
set_option linter.all false
set_option maxRecDepth 100000
set_option maxHeartbeats 4000000
set_option pp.maxSteps 600
set_option pp.deepTerms false
namespace Wb
open PySem PySem.Spec PyProof.Rows L2
abbrev sStepsAt : Stmt := topS 33
abbrev nStepsAt : List Str := ["moves", "stand", "found", "k", "place", "word", "here", "there", "price"]
theorem scStepsAt : FnScope nStepsAt ["moves", "stand"] (defScope sStepsAt) := ⟨rfl, rfl, rfl, by decide +kernel, rfl, by decide +kernel, by decide +kernel⟩
/-- the steps of bolt k -/
def pickAt (k : Nat) (p : Int) (ts : List Tr3) : List Tr3 := (ts.filter fun t => decide (t.frm = p)).map fun t => ⟨(k : Int), t.to_, t.price⟩
def stepsOf (l : Lock) (st : Word) (k : Nat) : List Tr3 :=
  match l[k]?, st[k]? with
  | some b, some p => pickAt k p (movesL b.gaps (st.take k))
  | _, _ => []
def stepsUpto (l : Lock) (st : Word) (n : Nat) : List Tr3 := (List.range n).flatMap (stepsOf l st)
def stepsL (l : Lock) (st : Word) : List Tr3 := stepsUpto l st l.length
theorem stepsUpto_succ (l : Lock) (st : Word) (n : Nat) : stepsUpto l st (n + 1) = stepsUpto l st n ++ stepsOf l st n := by
  unfold stepsUpto
  rw [List.range_succ, List.flatMap_append]
  simp
theorem movesL_len (gs : List Gap) (w' : Word) : (movesL gs w').length ≤ (gs.map (fun g => g.ways.length)).sum := by
  unfold movesL
  rw [List.length_map]
  induction gs with
  | nil => simp
  | cons g gs ih =>
    rw [List.filter_cons, List.map_cons, List.sum_cons]
    split
    · rename_i hm
      have : 1 ≤ g.ways.length := List.length_pos_of_mem (of_decide_eq_true hm)
      rw [List.length_cons]
      omega
    · omega
theorem pickAt_len (k : Nat) (p : Int) (ts : List Tr3) : (pickAt k p ts).length ≤ ts.length := by
  unfold pickAt
  rw [List.length_map]
  exact List.length_filter_le _ _
/-- behind a word that none of the bolts from k on waits for, no bolt steps -/
theorem steps_none {l : Lock} (ok : LockOk l) {st : Word} {k : Nat} (hn : ¬ cutsFrom l k (st.take k)) : ∀ j, k ≤ j → stepsOf l st j = [] := by
  intro j hj
  unfold stepsOf
  cases hb : l[j]? with
  | none => rfl
  | some b =>
    cases hp : st[j]? with
    | none => rfl
    | some p =>
      have z : movesL b.gaps (st.take j) = [] := by
        unfold movesL
        rw [List.map_eq_nil_iff, List.filter_eq_nil_iff]
        intro g hg hm
        apply hn
        refine ⟨j, b, g, st.take j, hj, hb, hg, of_decide_eq_true hm, ?_⟩
        rw [List.take_take, Nat.min_eq_left hj]
      show pickAt j p (movesL b.gaps (st.take j)) = []
      rw [z]
      rfl
theorem steps_stop {l : Lock} (ok : LockOk l) {st : Word} {k : Nat} (hk : k ≤ l.length) (hn : ¬ cutsFrom l k (st.take k)) : stepsUpto l st k = stepsL l st := by
  have z : ∀ n, stepsUpto l st (k + n) = stepsUpto l st k := by
    intro n
    induction n with
    | zero => rfl
    | succ n ih =>
      rw [show k + (n + 1) = (k + n) + 1 by omega, stepsUpto_succ, ih, steps_none ok hn _ (by omega), List.append_nil]
  have := z (l.length - k)
  rw [show k + (l.length - k) = l.length by omega] at this
  exact this.symm

def spStepsAt (K : PySem.W.Frag) : Sp := fun vs H Q _ => ∃ (mv : Addr) (u : V) (ds : List Addr) (l : Lock) (st : Word), vs = [.ref mv, u] ∧ H mv = some (.lst (ds.map V.ref)) ∧ ds.length = l.length ∧ LockOk l ∧ Wd K H u st ∧ st.length = l.length ∧
  (∀ k d b, ds[k]? = some d → l[k]? = some b → ∃ (Bh : Hp) (ws : List Word), WordsAt l k ws ∧ MvAt Bh H mv d b.gaps ws) ∧
  ∀ H' p us, Evl.Ex H H' → H p = none → H' p = some (.lst us) → Paired (TrAt H') us (stepsL l st) → Q (.ref p) H'
section
variable {P : Program} {w : World} {K : PySem.W.Frag} {mg : Str → Option Value} {base : Heap}
theorem ok_stepsAt {f : Addr} {fd : FuncData} (F : Fun K "steps_at" "steps_at" sStepsAt f fd) (B : Bi mg) : FnOk P w K mg base CX0 1 f fd ["moves", "stand"] (spStepsAt K) := by
  refine F.ok scStepsAt (fun vs H Q E h => ?_) (fun cdv A outer s H vs Q E hr h => ?_)
  · obtain ⟨mv, u, ds, l, st, rfl, _⟩ := h; rfl
  · obtain ⟨mv, u, ds, l, st, rfl, hmv, dl, ok, ⟨a, rfl, ha⟩, sl, hds, q⟩ := h
    have hu := hu_of hr
    have hx : SqT K H a (st.map V.int) := .inl (.inl ha)
    refine ⟨_, pss_cons (ps_set (i := 2) scStepsAt.nd rfl (.inl rfl) (pe_lst pa_nil))
      (pss_cons (ps_for PassesOwn.never rfl (pi_enumT (by rfl) B.enum (pa_cons (pv 1) pa_nil)) (pg_tup rfl (pgs_cons (pg_name (i := 3) scStepsAt.nd rfl (.inl rfl)) (pgs_cons (pg_name (i := 4) scStepsAt.nd rfl (.inl rfl)) pgs_nil)))
        (pss_cons (ps_set (i := 5) scStepsAt.nd rfl (.inl rfl) (pe_slice sl_tupA (pv 1) po_none (po_some (pv 3))))
        (pss_cons (ps_if (pt_cmp (pc_dnotin hu (pv 5) (pe_ix ix_list (pv 0) (pv 3) (fun _ _ => rfl)))) (pss_one ps_break) pss_nil)
        (pss_one (ps_for PassesOwn.never rfl (pi_list (pe_dget hu (pe_ix ix_list (pv 0) (pv 3) (fun _ _ => rfl)) (pv 5) (fun _ _ => rfl))) (pg_tup rfl (pgs_cons (pg_name (i := 6) scStepsAt.nd rfl (.inl rfl)) (pgs_cons (pg_name (i := 7) scStepsAt.nd rfl (.inl rfl)) (pgs_cons (pg_name (i := 8) scStepsAt.nd rfl (.inl rfl)) pgs_nil))))
          (pss_one (ps_if (pt_cmpR op_eq (pv 6) (pv 4) (nomark _))
            (pss_one (ps_expr (pe_bm PySem.F.plainAttrs_list PySem.F.slot_list_append PySem.F.type_list_append mt_append (pv 2) (pa_cons (pe_tup (pa_cons (pv 3) (pa_cons (pv 7) (pa_cons (pv 8) pa_nil)))) pa_nil)))) pss_nil)))))))
      (pss_one (ps_ret (pv 2)))), ?_⟩
    have n60 := ok.n1
    refine ⟨Nat.zero_le _, fun r0 nr0 => ?_⟩
    have x1 : Evl.Ex H (upd H r0 (.lst [])) := Evl.Ex.new nr0
    refine ⟨.ref a, rfl, a, _, rfl, Evl.ex_t x1 hx, ?_⟩
    refine for_it (walk_et (xs := st.map V.int)) (fun i σ H' => ∃ (us : List V) (y3 y4 y5 y6 y7 y8 : Option V), σ = [some (.ref mv), some (.ref a), some (.ref r0), y3, y4, y5, y6, y7, y8] ∧ Evl.Ex H H' ∧ H' r0 = some (.lst us) ∧ us.length ≤ 8 * i ∧ Paired (TrAt H') us (stepsUpto l st i))
      ⟨[], none, none, none, none, none, none, rfl, x1, upd_same, Nat.zero_le _, .nil⟩ ?_ ?_ ?_
    · rintro i σ H' _ ⟨_, _, _, _, _, _, _, _, e, _⟩
      exact Evl.ex_t e hx
    · rintro i v σ H1 H2 hi ⟨us, y3, y4, y5, y6, y7, y8, rfl, e1, hR, ulen, hus⟩ ⟨T, x, y, rfl, nT, rfl, ex, ey⟩
      cases ex
      rw [List.length_map, sl] at hi
      obtain ⟨pl, hpl, rfl⟩ := get_map_int ey
      obtain ⟨b, hb⟩ : ∃ b, l[i]? = some b := ⟨l[i], List.getElem?_eq_getElem hi⟩
      obtain ⟨d, hd⟩ : ∃ d, ds[i]? = some d := ⟨ds[i], List.getElem?_eq_getElem (by omega)⟩
      obtain ⟨Bh, ws, hW, hmvd⟩ := hds i d b hd hb
      have e2 := Evl.Ex.new (o := .tup [.int (i : Nat), .int pl]) nT
      generalize hH2 : upd H1 T (.tup [.int (i : Nat), .int pl]) = H2 at e2
      have hT2 : H2 T = some (.tup [.int (i : Nat), .int pl]) := by rw [← hH2]; exact upd_same
      have e12 := e1.trans e2
      refine ⟨T, _, rfl, .inl (.inl hT2), rfl, _, _, rfl, _, _, rfl, rfl, ?_⟩
      refine ⟨.ref a, rfl, .int (i : Nat), rfl, (i : Nat), rfl, a, _, rfl, Evl.ex_t e12 hx, fun z => absurd (slice_whole z.2) (by rw [List.length_map]; omega), fun _ p np => ?_⟩
      rw [cut_take, ← List.map_take]
      have e3 := Evl.Ex.new (o := .tup ((st.take i).map V.int)) np
      generalize hH3 : upd H2 p (.tup ((st.take i).map V.int)) = H3 at e3
      have hp3 : H3 p = some (.tup ((st.take i).map V.int)) := by rw [← hH3]; exact upd_same
      have e13 := e12.trans e3
      have hmv3 : H3 mv = some (.lst (ds.map V.ref)) := e13 _ _ hmv
      have hd' : (ds.map V.ref)[i]? = some (.ref d) := by rw [List.getElem?_map, hd]; rfl
      obtain ⟨ps, hps, hdd, hq⟩ := hmvd.ex e13
      have ndp : (ps.map (·.1)).Nodup := by rw [hps]; exact hW.1
      have hR3 : H3 r0 = some (.lst us) := e3 _ _ (e2 _ _ hR)
      have hus3 : Paired (TrAt H3) us (stepsUpto l st i) := Paired.imp (fun _ _ => TrAt.ex (e2.trans e3)) hus
      have gets : ∀ o, valV (kps ps) (keyW (st.take i)) = o → DGet H3 d (.ref p) o := by
        rintro o rfl
        exact DGet.t hdd (by rw [keyW_kV]; exact hp3)
      by_cases hin : st.take i ∈ ws
      · rw [← hps] at hin
        obtain ⟨qq, hqq, eqq⟩ := List.mem_map.mp hin
        obtain ⟨_, uq, h1, h2⟩ := hq qq hqq
        have hval := valV_kps ndp hqq
        rw [eqq] at hval h2
        refine ⟨.ref p, rfl, .ref mv, rfl, .int (i : Nat), rfl, mv, _, (i : Nat), .ref d, rfl, rfl, .inl (.inl hmv3), atI_nat hd', d, _, rfl, gets _ hval, false, rfl, iteF ?_⟩
        refine ⟨.ref mv, rfl, .int (i : Nat), rfl, mv, _, (i : Nat), .ref d, rfl, rfl, .inl (.inl hmv3), atI_nat hd', .ref p, rfl, d, .ref qq.2, rfl, gets _ hval, qq.2, rfl, ⟨uq, .inl (.inl h1)⟩, ?_⟩
        have uql : uq.length = (movesL b.gaps (st.take i)).length := Paired.len h2
        have u8 : uq.length ≤ 8 := by
          have z1 := movesL_len b.gaps (st.take i)
          have z2 := (ok.bolts i b hb).few
          omega
        have nrq : qq.2 ≠ r0 := fun z => by
          obtain ⟨ps', hps', hdd', hq'⟩ := hmvd
          have z1 : (H d) = some (.dT (kps ps')) := hdd'
          have z2 : H3 d = some (.dT (kps ps')) := e13 _ _ z1
          rw [hdd] at z2
          have z3 : kps ps = kps ps' := HO.dT.inj (Option.some.inj z2)
          have z4 : qq.2 ∈ ps'.map (·.2) := by
            have z5 : (keyW qq.1, V.ref qq.2) ∈ kps ps' := by rw [← z3]; exact List.mem_map.mpr ⟨qq, hqq, rfl⟩
            obtain ⟨q2, hq2, eq2⟩ := List.mem_map.mp z5
            have z6 : V.ref q2.2 = V.ref qq.2 := (Prod.mk.inj eq2).2
            exact List.mem_map.mpr ⟨q2, hq2, V.ref.inj z6⟩
          obtain ⟨q2, hq2, eq2⟩ := List.mem_map.mp z4
          obtain ⟨_, u2, h3, _⟩ := hq' q2 hq2
          rw [eq2, z, nr0] at h3
          cases h3
        refine for_list (K := K) (a := qq.2) (xs := uq) (fun m σ H' => ∃ (us' : List V) (y6 y7 y8 : Option V), σ = [some (.ref mv), some (.ref a), some (.ref r0), some (.int (i : Nat)), some (.int pl), some (.ref p), y6, y7, y8] ∧ Evl.Ex H H' ∧ H' qq.2 = some (.lst uq) ∧ (∀ b' o, b' ≠ r0 → H3 b' = some o → H' b' = some o) ∧ H' r0 = some (.lst us') ∧ us'.length ≤ 8 * i + m ∧
            Paired (TrAt H') us' (stepsUpto l st i ++ pickAt i pl ((movesL b.gaps (st.take i)).take m))) ⟨us, _, _, _, rfl, e13, h1, fun _ _ _ h => h, hR3, ulen, by simpa [pickAt] using hus3⟩ ?_ ?_ ?_
        · rintro m σ H' _ ⟨_, _, _, _, _, _, h, _⟩
          exact .inl (.inl h)
        · rintro m x σ H4 hm ⟨us', z6, z7, z8, rfl, e4, hq4, k4, hR4, ul4, hus4⟩
          obtain ⟨t, ht, ⟨at_, rfl, hat⟩⟩ := Paired.get1 h2 hm
          have hat4 : H4 at_ = some (.tup [.int t.frm, .int t.to_, .int t.price]) := k4 _ _ (ne_of hat hR3 (fun z => nomatch z)) hat
          refine ⟨at_, _, rfl, .inl (.inl hat4), rfl, _, _, rfl, _, _, rfl, _, _, rfl, rfl, ?_⟩
          refine ⟨.int t.frm, rfl, .int pl, rfl, rfl, decide (V.int t.frm = V.int pl), rfl, ?_⟩
          have m8 : m < 8 := by
            have := (List.getElem?_eq_some_iff.mp hm).1
            omega
          have pk : pickAt i pl ((movesL b.gaps (st.take i)).take (m + 1)) = pickAt i pl ((movesL b.gaps (st.take i)).take m) ++ (if t.frm = pl then [⟨(i : Int), t.to_, t.price⟩] else []) := by
            unfold pickAt
            rw [take_succ_get ht, List.filter_append, List.map_append]
            congr 1
            by_cases hh : t.frm = pl
            · rw [if_pos hh, List.filter_cons, if_pos (decide_eq_true hh)]
              rfl
            · rw [if_neg hh, List.filter_cons, if_neg (by rw [decide_eq_false hh]; exact Bool.false_ne_true)]
              rfl
          refine ite2 (fun hc => ?_) (fun hc => ?_)
          · have hc' : t.frm = pl := V.int.inj (of_decide_eq_true hc)
            refine ⟨.ref r0, rfl, .inl ⟨rfl, _, SqL.of hR4⟩, .int (i : Nat), rfl, .int t.to_, rfl, .int t.price, rfl, (by show 3 ≤ sizeLine; decide), fun p' np' => ?_⟩
            have e5 := Evl.Ex.new (o := .tup [.int (i : Nat), .int t.to_, .int t.price]) np'
            have nrp : r0 ≠ p' := fun z => by rw [← z, hR4] at np'; cases np'
            refine ⟨r0, us', _, rfl, rfl, e5 _ _ hR4, ?_, us' ++ [.ref p'], _, _, _, rfl, (e4.trans e5).mut nr0, ?_, ?_, upd_same, ?_, ?_⟩
            · exact Nat.lt_of_le_of_lt (by omega : us'.length ≤ 8 * 60 + 8) (by decide)
            · rw [upd_ne nrq]
              exact e5 _ _ hq4
            · intro b' o nb h0
              rw [upd_ne nb]
              exact e5 _ _ (k4 b' o nb h0)
            · rw [List.length_append]
              simp
              omega
            · rw [pk, if_pos hc', ← List.append_assoc]
              refine paired_app1 (Paired.imp (fun v t3 => ?_) hus4) ⟨p', rfl, by rw [upd_ne nrp.symm]; exact upd_same⟩
              rintro ⟨c, rfl, hcc⟩
              exact ⟨c, rfl, by rw [upd_ne (ne_of hcc hR4 (fun z => nomatch z))]; exact e5 _ _ hcc⟩
          · have hc' : ¬ t.frm = pl := fun z => hc (decide_eq_true (by rw [z]))
            refine ⟨us', _, _, _, rfl, e4, hq4, k4, hR4, by omega, ?_⟩
            rw [pk, if_neg hc', List.append_nil]
            exact hus4
        · rintro σ H4 ⟨us', z6, z7, z8, rfl, e4, hq4, k4, hR4, ul4, hus4⟩
          refine ⟨us', _, _, _, _, _, _, rfl, e4, hR4, by omega, ?_⟩
          rw [uql, List.take_length] at hus4
          rw [stepsUpto_succ]
          have z : stepsOf l st i = pickAt i pl (movesL b.gaps (st.take i)) := by
            unfold stepsOf
            rw [hb, hpl]
          rw [z]
          exact hus4
      · have hval : valV (kps ps) (keyW (st.take i)) = none := valV_kps_none (by rw [hps]; exact hin)
        refine ⟨.ref p, rfl, .ref mv, rfl, .int (i : Nat), rfl, mv, _, (i : Nat), .ref d, rfl, rfl, .inl (.inl hmv3), atI_nat hd', d, _, rfl, gets _ hval, true, rfl, iteT ?_⟩
        refine ⟨.ref r0, rfl, ?_⟩
        refine q H3 r0 us e13 nr0 hR3 ?_
        rw [← steps_stop ok (Nat.le_of_lt hi) (fun z => hin ((hW.2 _).mpr z))]
        exact hus3
    · rintro σ H1 ⟨us, y3, y4, y5, y6, y7, y8, rfl, e1, hR, ulen, hus⟩
      rw [List.length_map, sl] at hus
      exact ⟨.ref r0, rfl, q H1 r0 us e1 nr0 hR hus⟩
end
end Wb

set_option Elab.async false
set_option linter.all false
set_option maxRecDepth 100000
set_option maxHeartbeats 8000000
set_option pp.maxSteps 900
set_option pp.deepTerms false
namespace Wb
open PySem PySem.Spec PyProof.Rows L2
/-! ### behind a step; need_stand of any thing -/
abbrev tBeh (K : PySem.W.Frag) (ai ki ti : Nat) : TE := tOp (rCatA K) (tOp (rCatA K) (tSl (rSlA K) (tVar ai) tNoPart (tPart (tVar ki))) (tTup (tCons (tVar ti) tNil))) (tSl (rSlA K) (tVar ai) (tPart (tOp (rI0 fun i j => V.int (i + j)) (tVar ki) (tC (V.int 1)))) tNoPart)
/-- stand[:k] + (to,) + stand[k + 1:] -/
theorem rd_behind {K : PySem.W.Frag} {σ : L2.St} {H : Hp} {Q : VK} {ai ki ti : Nat} {ua : Addr} {st : Word} {k : Nat} {to : Int} (hu : σ[ai]? = some (some (.ref ua))) (hk : σ[ki]? = some (some (.int (k : Nat)))) (ht : σ[ti]? = some (some (.int to))) (hua : H ua = some (.tup (st.map V.int))) (kl : k < st.length) (s60 : st.length ≤ 60)
    (q : ∀ H' z, Evl.Ex H H' → H' z = some (.tup ((st.set k to).map V.int)) → Q (.ref z) H') : tBeh K ai ki ti σ H Q := by
  refine ⟨.ref ua, hu, ?_⟩
  refine nopart1 ?_
  refine ⟨.int (k : Nat), hk, (k : Nat), rfl, ?_⟩
  refine sl_own (K := K) (lo := none) (hi := some ((k : Nat) : Int)) hua fun H3 z3 e3 q3 => ?_
  rw [cut_take, ← List.map_take] at q3
  refine ⟨.int to, ht, (by show 1 ≤ sizeLine; decide), fun y ny => ?_⟩
  have e4 := Evl.Ex.new (o := .tup [.int to]) ny
  have q4 : (upd H3 y (.tup [.int to])) y = some (.tup [.int to]) := upd_same
  generalize upd H3 y (.tup [.int to]) = H4 at e4 q4
  refine cat_own (K := K) (e4 _ _ q3) q4 (Nat.le_trans (by rw [List.length_map, List.length_take, List.length_singleton]; omega : ((st.take k).map V.int).length + [V.int to].length ≤ 101) (by decide)) fun H5 z5 e5 q5 => ?_
  have a5 := (e3.trans (e4.trans e5)) _ _ hua
  refine ⟨.ref ua, hu, .int (k : Nat), hk, (k : Nat), 1, rfl, rfl, ((k + 1 : Nat) : Int), by rw [Int.natCast_add]; rfl, ?_⟩
  refine nopart1 ?_
  refine sl_own (K := K) (lo := some ((k + 1 : Nat) : Int)) (hi := none) a5 fun H6 z6 e6 q6 => ?_
  rw [cut_drop (st.map V.int) (k := k + 1) (by rw [List.length_map]; omega), ← List.map_drop] at q6
  refine cat_own (K := K) (e6 _ _ q5) q6 (Nat.le_trans (by simp only [List.length_append, List.length_map, List.length_take, List.length_drop, List.length_singleton]; omega : ((st.take k).map V.int ++ [V.int to]).length + ((st.drop (k + 1)).map V.int).length ≤ 201) (by decide)) fun H7 z7 e7 q7 => ?_
  refine q H7 z7 (e3.trans (e4.trans (e5.trans (e6.trans e7)))) ?_
  rw [← after_set kl, List.map_append, List.map_append]
  exact q7
/-- a step of the list: its bolt, a number below all bolts -/
theorem step_frm {l : Lock} {st : Word} {t : Tr3} (h : t ∈ stepsL l st) : ∃ k : Nat, t.frm = (k : Int) ∧ k < l.length := by
  obtain ⟨k, hk, hs⟩ := List.mem_flatMap.mp h
  have kl : k < l.length := List.mem_range.mp hk
  refine ⟨k, ?_, kl⟩
  unfold stepsOf at hs
  split at hs
  · unfold pickAt at hs
    obtain ⟨m, _, rfl⟩ := List.mem_map.mp hs
    rfl
  · cases hs
theorem steps_few {l : Lock} (ok : LockOk l) (st : Word) : ∀ n, n ≤ l.length → (stepsUpto l st n).length ≤ 8 * n
  | 0, _ => by unfold stepsUpto; simp
  | n + 1, h => by
    have ih := steps_few ok st n (by omega)
    have z : (stepsOf l st n).length ≤ 8 := by
      unfold stepsOf
      split
      · rename_i b pl hb hp
        have h1 := pickAt_len n pl (movesL b.gaps (st.take n))
        have h2 := movesL_len b.gaps (st.take n)
        have h3 := (ok.bolts n b hb).few
        omega
      · simp
    rw [stepsUpto_succ, List.length_append]
    omega
theorem steps_480 {l : Lock} (ok : LockOk l) (st : Word) : (stepsL l st).length ≤ 480 := by
  have := steps_few ok st l.length (Nat.le_refl _)
  have := ok.n1
  unfold stepsL
  omega
def spNeedSX (K : PySem.W.Frag) (C : Addr) : Sp := fun vs H Q E => ∃ (v u : V) (l : Lock) (d : PyData), vs = [v, u] ∧ LockAt K H v l ∧ l.length ≤ 60 ∧ Th K H u d ∧ (placesB d (manysOf l) = true → ∀ H', Evl.Ex H H' → Q .non H') ∧ (placesB d (manysOf l) = false → ∀ H', Evl.Ex H H' → E (.ref C) none H')
theorem th_ints {K : PySem.W.Frag} {H : Hp} : ∀ st : List Int, ThAll K H (st.map V.int) (st.map .int)
  | [] => .nil
  | x :: st => .cons (.int x) (th_ints st)
theorem th_wd {K : PySem.W.Frag} {H : Hp} {v : V} {st : Word} (h : Wd K H v st) : Th K H v (dW st) := by
  obtain ⟨a, rfl, ha⟩ := h
  exact .tup (.inl ha) (th_ints st)
theorem allP_ints : ∀ {st ms : List Int}, st.length = ms.length → (∀ (i : Nat) (x m : Int), st[i]? = some x → ms[i]? = some m → 0 ≤ x ∧ x < m) → allP (st.map .int) ms = true
  | [], [], _, _ => rfl
  | x :: st, m :: ms, h, f => by
    have h0 := f 0 x m rfl rfl
    have ih := allP_ints (st := st) (ms := ms) (by simpa using h) fun i y n a b => f (i + 1) y n (by simpa using a) (by simpa using b)
    simp only [List.map_cons, allP, placeB, ih, Bool.and_true, Bool.and_eq_true, decide_eq_true_eq]
    exact h0
  | [], _ :: _, h, _ => by simp at h
  | _ :: _, [], h, _ => by simp at h
theorem places_of {st ms : List Int} (h : InAll st ms) : placesB (dW st) ms = true := by
  unfold placesB itemsD dW
  simp only [isTup, Bool.true_and, Bool.and_eq_true, decide_eq_true_eq, List.length_map]
  exact ⟨h.1, allP_ints h.1 h.2⟩
section
variable {P : Program} {w : World} {K : PySem.W.Frag} {mg : Str → Option Value} {base : Heap}
theorem ok_needSX (D : Pr K mg) (NS : XcK K mg "NoStand") : FnOk P w K mg base (L2.CX P w) 3 D.f25 D.d25 ["lock", "thing"] (spNeedSX K NS.C) := by
  have G23 : FnOk P w K mg base CX0 1 D.f23 D.d23 ["lock"] (spManys K) := ok_manys D
  have G4 : FnOk P w K mg base CX0 2 D.f4 D.d4 ["thing", "manys"] (spPlacesG K) := ok_placesG D.F4 D.F3 D.b3 D.g3 D.B
  refine D.F25.okX scNeedS (fun vs H Q E h => ?_) (fun cdv A outer s H vs Q E hr h => ?_)
  · obtain ⟨v, u, l, d, rfl, _⟩ := h; rfl
  · obtain ⟨v, u, l, d, rfl, hv, l60, hu, q1, q2⟩ := h
    have hr1 : Room 1 _ := hr.mono (by decide)
    refine ⟨_, pss_one (ps_if (pt_not (pt_val (pe_call G4 hr (by rfl) D.g4 D.F4.kp D.b4 .nil pass0 (pa_cons (pv 1) (pa_cons (pe_call G23 hr1 (by rfl) D.g23 D.F23.kp D.b23 .nil pass0 (pa_cons (pv 0) pa_nil)) pa_nil)))))
      (pss_one (ps_raise rfl (takes_of rfl rfl rfl rfl) (pmk_own0 PySem.F.excBase_ValueError NS.q NS.g NS.k (raises_own NS.s NS.t) (by rfl)))) pss_nil), ?_⟩
    refine ⟨u, rfl, v, rfl, v, l, rfl, hv, l60, fun H1 p e1 np hp => ?_⟩
    refine ⟨u, d, p, true, manysOf l, rfl, hu.ex e1, Or.inl (Or.inl hp), fun H2 e2 => ?_⟩
    refine ⟨_, rfl, ?_⟩
    cases c : placesB d (manysOf l) with
    | true => exact iteF (q1 c H2 (e1.trans e2))
    | false => exact iteT (q2 c H2 (e1.trans e2))
end
end Wb

/-! least prices, stand by stand: what is found, what waits, what is gone through; no program here -/
set_option Elab.async false
set_option linter.all false
namespace Dj
section
variable {α : Type} [DecidableEq α]
/-- in its place, or at the end -/
def put (F : List (α × Int)) (x : α) (v : Int) : List (α × Int) := if x ∈ F.map (·.1) then F.map (fun q => if q.1 = x then (q.1, v) else q) else F ++ [(x, v)]
theorem put_keys (F : List (α × Int)) (x : α) (v : Int) : (put F x v).map (·.1) = if x ∈ F.map (·.1) then F.map (·.1) else F.map (·.1) ++ [x] := by
  unfold put
  split
  · rw [List.map_map]
    apply List.map_congr_left
    intro q _
    simp only [Function.comp]
    split <;> rfl
  · rw [List.map_append]; rfl
theorem put_nodup {F : List (α × Int)} (nd : (F.map (·.1)).Nodup) (x : α) (v : Int) : ((put F x v).map (·.1)).Nodup := by
  rw [put_keys]
  split
  · exact nd
  · rename_i h
    rw [List.nodup_append]
    exact ⟨nd, by simp, fun a ha b hb e => by rw [List.mem_singleton.mp hb] at e; exact h (e ▸ ha)⟩
theorem one_val {F : List (α × Int)} (nd : (F.map (·.1)).Nodup) {x : α} {v w : Int} (h1 : (x, v) ∈ F) (h2 : (x, w) ∈ F) : v = w := by
  induction F with
  | nil => cases h1
  | cons q F ih =>
    rw [List.map_cons, List.nodup_cons] at nd
    rcases List.mem_cons.mp h1 with e1 | m1 <;> rcases List.mem_cons.mp h2 with e2 | m2
    · rw [← e1] at e2; exact (Prod.mk.inj e2).2.symm
    · exact absurd (List.mem_map.mpr ⟨_, m2, by rw [← e1]⟩) nd.1
    · exact absurd (List.mem_map.mpr ⟨_, m1, by rw [← e2]⟩) nd.1
    · exact ih nd.2 m1 m2
theorem put_mem {F : List (α × Int)} {x : α} {v : Int} (y : α) (w : Int) : (y, w) ∈ put F x v ↔ (y = x ∧ w = v) ∨ (y ≠ x ∧ (y, w) ∈ F) := by
  unfold put
  split
  · rename_i h
    rw [List.mem_map]
    constructor
    · rintro ⟨q, hq, e⟩
      by_cases c : q.1 = x
      · rw [if_pos c] at e
        obtain ⟨e1, e2⟩ := Prod.mk.inj e
        exact .inl ⟨by rw [← e1, c], e2.symm⟩
      · rw [if_neg c] at e
        subst e
        exact .inr ⟨c, hq⟩
    · rintro (⟨rfl, rfl⟩ | ⟨ne, hm⟩)
      · obtain ⟨q, hq, e⟩ := List.mem_map.mp h
        exact ⟨q, hq, by rw [if_pos e, e]⟩
      · exact ⟨(y, w), hm, by rw [if_neg ne]⟩
  · rename_i h
    rw [List.mem_append, List.mem_singleton]
    constructor
    · rintro (hm | e)
      · exact .inr ⟨fun z => h (List.mem_map.mpr ⟨_, hm, z⟩), hm⟩
      · exact .inl (Prod.mk.inj e)
    · rintro (⟨rfl, rfl⟩ | ⟨ne, hm⟩)
      · exact .inr rfl
      · exact .inl hm
inductive Rc (out : α → List (α × Int)) (a : α) : α → Prop
  | refl : Rc out a a
  | step {x y : α} {c : Int} : Rc out a x → (y, c) ∈ out x → Rc out a y
structure St (out : α → List (α × Int)) (price : Int) (a : α) (F : List (α × Int)) (Q : List (Int × α)) (E : List α) : Prop where
  nd : (F.map (·.1)).Nodup
  st : ∃ v, v ≤ 0 ∧ (a, v) ∈ F
  rch : ∀ q ∈ F, Rc out a q.1
  que : ∀ p x, (p, x) ∈ Q → ∃ v, (x, v) ∈ F ∧ v ≤ p
  qnd : Q.Nodup
  nde : E.Nodup
  exp : ∀ e ∈ E, ∃ v, (e, v) ∈ F ∧ (∀ x c, (x, c) ∈ out e → v + c ≤ price → ∃ w, (x, w) ∈ F ∧ w ≤ v + c) ∧ (∀ p x, (p, x) ∈ Q → v ≤ p) ∧ (v, e) ∉ Q
  opn : ∀ x v, (x, v) ∈ F → x ∉ E → (v, x) ∈ Q
/-- here, at paid, is gone through; the steps dn are done -/
structure Mid (out : α → List (α × Int)) (price : Int) (a : α) (F : List (α × Int)) (Q : List (Int × α)) (E : List α) (here : α) (paid : Int) (dn : List (α × Int)) : Prop where
  nd : (F.map (·.1)).Nodup
  st : ∃ v, v ≤ 0 ∧ (a, v) ∈ F
  rch : ∀ q ∈ F, Rc out a q.1
  que : ∀ p x, (p, x) ∈ Q → ∃ v, (x, v) ∈ F ∧ v ≤ p
  qnd : Q.Nodup
  nde : E.Nodup
  exp : ∀ e ∈ E, ∃ v, (e, v) ∈ F ∧ (∀ x c, (x, c) ∈ out e → v + c ≤ price → ∃ w, (x, w) ∈ F ∧ w ≤ v + c) ∧ v ≤ paid ∧ (v, e) ∉ Q
  opn : ∀ x v, (x, v) ∈ F → x ∉ E → x ≠ here → (v, x) ∈ Q
  me : (here, paid) ∈ F
  new : here ∉ E
  low : ∀ p x, (p, x) ∈ Q → paid ≤ p
  out_ : (paid, here) ∉ Q
  dn_ : ∀ x c, (x, c) ∈ dn → paid + c ≤ price → ∃ w, (x, w) ∈ F ∧ w ≤ paid + c
variable {out : α → List (α × Int)} {price : Int} {a : α} {F : List (α × Int)} {Q Q' : List (Int × α)} {E : List α} {here : α} {paid : Int} {dn : List (α × Int)}
theorem St.start (h0 : 0 ≤ price) : St out price a [(a, 0)] [(0, a)] [] := by
  refine ⟨by simp, ⟨0, Int.le_refl _, by simp⟩, fun q hq => ?_, fun p x h => ?_, by simp, List.nodup_nil, (fun e he => nomatch he), fun x v h _ => ?_⟩
  · rw [List.mem_singleton.mp hq]; exact .refl
  · obtain ⟨rfl, rfl⟩ := Prod.mk.inj (List.mem_singleton.mp h)
    exact ⟨0, by simp, Int.le_refl _⟩
  · obtain ⟨rfl, rfl⟩ := Prod.mk.inj (List.mem_singleton.mp h)
    simp
/-- one that is out of date -/
theorem St.old (h : St out price a F Q E) (pm : Q.Perm ((paid, here) :: Q')) {v : Int} (hv : (here, v) ∈ F) (lt : v < paid) : St out price a F Q' E := by
  have sub : ∀ q, q ∈ Q' → q ∈ Q := fun q hq => pm.mem_iff.mpr (List.mem_cons_of_mem _ hq)
  have nd2 := (pm.nodup_iff.mp h.qnd)
  refine ⟨h.nd, h.st, h.rch, fun p x hp => h.que p x (sub _ hp), (List.nodup_cons.mp nd2).2, h.nde, fun e he => ?_, fun x w hx hn => ?_⟩
  · obtain ⟨w, h1, h2, h3, h4⟩ := h.exp e he
    exact ⟨w, h1, h2, fun p x hp => h3 p x (sub _ hp), fun z => h4 (sub _ z)⟩
  · rcases List.mem_cons.mp (pm.mem_iff.mp (h.opn x w hx hn)) with e | m
    · obtain ⟨rfl, rfl⟩ := Prod.mk.inj e
      have := one_val h.nd hv hx
      omega
    · exact m
/-- one to be gone through -/
theorem St.go (h : St out price a F Q E) (pm : Q.Perm ((paid, here) :: Q')) (hv : (here, paid) ∈ F) (least : ∀ p x, (p, x) ∈ Q' → paid ≤ p) : Mid out price a F Q' E here paid [] := by
  have sub : ∀ q, q ∈ Q' → q ∈ Q := fun q hq => pm.mem_iff.mpr (List.mem_cons_of_mem _ hq)
  have nd2 := List.nodup_cons.mp (pm.nodup_iff.mp h.qnd)
  have inQ : (paid, here) ∈ Q := pm.mem_iff.mpr List.mem_cons_self
  have ne : here ∉ E := fun he => by
    obtain ⟨w, h1, _, _, h4⟩ := h.exp here he
    have := one_val h.nd h1 hv
    subst this
    exact h4 inQ
  refine ⟨h.nd, h.st, h.rch, fun p x hp => h.que p x (sub _ hp), nd2.2, h.nde, fun e he => ?_, fun x w hx hn hne => ?_, hv, ne, least, nd2.1, (fun x c hx => nomatch hx)⟩
  · obtain ⟨w, h1, h2, h3, h4⟩ := h.exp e he
    exact ⟨w, h1, h2, h3 _ _ inQ, fun z => h4 (sub _ z)⟩
  · rcases List.mem_cons.mp (pm.mem_iff.mp (h.opn x w hx hn)) with e | m
    · obtain ⟨rfl, rfl⟩ := Prod.mk.inj e
      exact absurd rfl hne
    · exact m
/-- a step that leads to nothing better -/
theorem Mid.skip (h : Mid out price a F Q E here paid dn) {x : α} {c : Int} (no : paid + c ≤ price → ∃ w, (x, w) ∈ F ∧ w ≤ paid + c) : Mid out price a F Q E here paid (dn ++ [(x, c)]) := by
  refine ⟨h.nd, h.st, h.rch, h.que, h.qnd, h.nde, h.exp, h.opn, h.me, h.new, h.low, h.out_, fun y d hy => ?_⟩
  rcases List.mem_append.mp hy with m | m
  · exact h.dn_ y d m
  · obtain ⟨rfl, rfl⟩ := Prod.mk.inj (List.mem_singleton.mp m)
    exact no
/-- a step that leads to something better -/
theorem Mid.better (h : Mid out price a F Q E here paid dn) {x : α} {c : Int} (c1 : 1 ≤ c) (ho : (x, c) ∈ out here) (bet : ∀ w, (x, w) ∈ F → paid + c < w) (pm : Q'.Perm ((paid + c, x) :: Q)) : Mid out price a (put F x (paid + c)) Q' E here paid (dn ++ [(x, c)]) := by
  have nx : x ≠ here := fun z => by
    subst z
    have := bet _ h.me
    omega
  have nE : x ∉ E := fun z => by
    obtain ⟨w, h1, _, h3, _⟩ := h.exp x z
    have := bet _ h1
    omega
  have old : ∀ y w, (y, w) ∈ F → ∃ w', (y, w') ∈ put F x (paid + c) ∧ w' ≤ w := fun y w hy => by
    by_cases e : y = x
    · subst e
      exact ⟨paid + c, (put_mem _ _).mpr (.inl ⟨rfl, rfl⟩), Int.le_of_lt (bet _ hy)⟩
    · exact ⟨w, (put_mem _ _).mpr (.inr ⟨e, hy⟩), Int.le_refl _⟩
  have keep : ∀ y w, y ≠ x → (y, w) ∈ F → (y, w) ∈ put F x (paid + c) := fun y w e hy => (put_mem _ _).mpr (.inr ⟨e, hy⟩)
  have inQ : ∀ q, q ∈ Q' ↔ q = (paid + c, x) ∨ q ∈ Q := fun q => by rw [pm.mem_iff, List.mem_cons]
  refine ⟨put_nodup h.nd _ _, ?_, fun q hq => ?_, fun p y hp => ?_, ?_, h.nde, fun e he => ?_, fun y w hy hn hne => ?_, keep _ _ (Ne.symm nx) h.me, h.new, fun p y hp => ?_, fun z => ?_, fun y d hy hd => ?_⟩
  · obtain ⟨v, v0, hv⟩ := h.st
    obtain ⟨w, hw, le⟩ := old _ _ hv
    exact ⟨w, by omega, hw⟩
  · obtain ⟨y, w⟩ := q
    rcases (put_mem _ _).mp hq with ⟨rfl, rfl⟩ | ⟨_, hm⟩
    · exact (h.rch _ h.me).step ho
    · exact h.rch _ hm
  · rcases (inQ _).mp hp with e | m
    · obtain ⟨rfl, rfl⟩ := Prod.mk.inj e
      exact ⟨_, (put_mem _ _).mpr (.inl ⟨rfl, rfl⟩), Int.le_refl _⟩
    · obtain ⟨v, hv, le⟩ := h.que p y m
      obtain ⟨w, hw, le2⟩ := old _ _ hv
      exact ⟨w, hw, by omega⟩
  · refine pm.nodup_iff.mpr (List.nodup_cons.mpr ⟨fun z => ?_, h.qnd⟩)
    obtain ⟨v, hv, le⟩ := h.que _ _ z
    have := bet _ hv
    omega
  · obtain ⟨v, h1, h2, h3, h4⟩ := h.exp e he
    have ex : e ≠ x := fun z => nE (z ▸ he)
    refine ⟨v, keep _ _ ex h1, fun y d hy hd => ?_, h3, fun z => ?_⟩
    · obtain ⟨w, hw, le⟩ := h2 y d hy hd
      obtain ⟨w', hw', le'⟩ := old _ _ hw
      exact ⟨w', hw', by omega⟩
    · rcases (inQ _).mp z with e2 | m
      · exact ex (Prod.mk.inj e2).2
      · exact h4 m
  · rcases (put_mem _ _).mp hy with ⟨rfl, rfl⟩ | ⟨_, hm⟩
    · exact (inQ _).mpr (.inl rfl)
    · exact (inQ _).mpr (.inr (h.opn _ _ hm hn hne))
  · rcases (inQ _).mp hp with e | m
    · have := (Prod.mk.inj e).1
      omega
    · exact h.low _ _ m
  · rcases (inQ _).mp z with e | m
    · exact nx (Prod.mk.inj e).2.symm
    · exact h.out_ m
  · rcases List.mem_append.mp hy with m | m
    · obtain ⟨w, hw, le⟩ := h.dn_ y d m hd
      obtain ⟨w', hw', le'⟩ := old _ _ hw
      exact ⟨w', hw', by omega⟩
    · obtain ⟨rfl, rfl⟩ := Prod.mk.inj (List.mem_singleton.mp m)
      exact ⟨_, (put_mem _ _).mpr (.inl ⟨rfl, rfl⟩), Int.le_refl _⟩
theorem Mid.done (h : Mid out price a F Q E here paid (out here)) : St out price a F Q (E ++ [here]) := by
  refine ⟨h.nd, h.st, h.rch, h.que, h.qnd, ?_, fun e he => ?_, fun x v hx hn => ?_⟩
  · rw [List.nodup_append]
    exact ⟨h.nde, by simp, fun y hy z hz e => by rw [List.mem_singleton.mp hz] at e; exact h.new (e ▸ hy)⟩
  · rcases List.mem_append.mp he with m | m
    · obtain ⟨v, h1, h2, h3, h4⟩ := h.exp e m
      exact ⟨v, h1, h2, fun p x hp => Int.le_trans h3 (h.low p x hp), h4⟩
    · rw [List.mem_singleton.mp m]
      exact ⟨paid, h.me, fun x c hx hc => h.dn_ x c hx hc, h.low, h.out_⟩
  · exact h.opn x v hx (fun z => hn (List.mem_append_left _ z)) fun z => hn (List.mem_append_right _ (by rw [z]; exact List.mem_cons_self))
/-- nothing waits: all that can be come to is found -/
theorem St.all (h : St out price a F [] E) {M C : Nat} (big : ((M * C : Nat) : Int) ≤ price) (cst : ∀ x y c, (y, c) ∈ out x → c ≤ C) (few : F.length ≤ M) {x : α} (r : Rc out a x) : x ∈ F.map (·.1) := by
  have cl : ∀ x v, (x, v) ∈ F → ∀ y c, (y, c) ∈ out x → v + c ≤ price → ∃ w, (y, w) ∈ F ∧ w ≤ v + c := fun x v hx y c hy hc => by
    by_cases e : x ∈ E
    · obtain ⟨w, h1, h2, _, _⟩ := h.exp x e
      have := one_val h.nd h1 hx
      subst this
      exact h2 y c hy hc
    · exact nomatch h.opn x v hx e
  have lev : ∀ n, n ≤ M → (∃ m, m ≤ n ∧ ∀ x v, (x, v) ∈ F → v ≤ ((m * C : Nat) : Int) → ∀ y c, (y, c) ∈ out x → ∃ w, (y, w) ∈ F ∧ w ≤ ((m * C : Nat) : Int)) ∨ n + 1 ≤ (F.filter fun q => decide (q.2 ≤ ((n * C : Nat) : Int))).length := by
    intro n
    induction n with
    | zero =>
      intro _
      refine .inr ?_
      obtain ⟨v, v0, hv⟩ := h.st
      exact List.length_pos_of_mem (List.mem_filter.mpr ⟨hv, decide_eq_true (by simpa using v0)⟩)
    | succ n ih =>
      intro hn
      rcases ih (by omega) with ⟨m, hm, q⟩ | big1
      · exact .inl ⟨m, by omega, q⟩
      · by_cases c2 : n + 1 + 1 ≤ (F.filter fun q => decide (q.2 ≤ (((n + 1) * C : Nat) : Int))).length
        · exact .inr c2
        · refine .inl ⟨n, by omega, fun x v hx hv y c hy => ?_⟩
          have nC : (n + 1) * C = n * C + C := Nat.succ_mul n C
          have mC : (n + 1) * C ≤ M * C := Nat.mul_le_mul_right C hn
          have hc := cst _ _ _ hy
          obtain ⟨w, hw, le⟩ := cl x v hx y c hy (by omega)
          have sub : (F.filter fun q => decide (q.2 ≤ ((n * C : Nat) : Int))).Sublist (F.filter fun q => decide (q.2 ≤ (((n + 1) * C : Nat) : Int))) := by
            have e : (F.filter fun q => decide (q.2 ≤ ((n * C : Nat) : Int))) = (F.filter fun q => decide (q.2 ≤ (((n + 1) * C : Nat) : Int))).filter fun q => decide (q.2 ≤ ((n * C : Nat) : Int)) := by
              rw [List.filter_filter]
              apply List.filter_congr
              intro q _
              by_cases c3 : q.2 ≤ ((n * C : Nat) : Int)
              · rw [decide_eq_true c3, decide_eq_true (by omega), Bool.and_self]
              · rw [decide_eq_false c3, Bool.false_and]
            rw [e]
            exact List.filter_sublist
          have eq := sub.eq_of_length_le (by omega)
          have mem : (y, w) ∈ F.filter fun q => decide (q.2 ≤ (((n + 1) * C : Nat) : Int)) := List.mem_filter.mpr ⟨hw, decide_eq_true (by show w ≤ _; omega)⟩
          rw [← eq] at mem
          exact ⟨w, hw, of_decide_eq_true (List.mem_filter.mp mem).2⟩
  rcases lev M (Nat.le_refl _) with ⟨m, hm, q⟩ | bad
  · have : ∃ w, (x, w) ∈ F ∧ w ≤ ((m * C : Nat) : Int) := by
      induction r with
      | refl =>
        obtain ⟨v, v0, hv⟩ := h.st
        exact ⟨v, hv, by omega⟩
      | step _ hy ih =>
        obtain ⟨w, hw, le⟩ := ih
        exact q _ _ hw le _ _ hy
    obtain ⟨w, hw, _⟩ := this
    exact List.mem_map.mpr ⟨_, hw, rfl⟩
  · have := List.length_filter_le (fun q => decide (q.2 ≤ ((M * C : Nat) : Int))) F
    omega
end
end Dj

/-! heaps as lists: sifting up and down under a strict weak order; no program here -/
set_option Elab.async false
set_option linter.all false
namespace Hq
section
variable {α : Type}
def swp (L : List α) (i j : Nat) : List α :=
  match L[i]?, L[j]? with
  | some x, some y => (L.set i y).set j x
  | _, _ => L
theorem swp_len (L : List α) (i j : Nat) : (swp L i j).length = L.length := by
  unfold swp
  split <;> simp
theorem swp_eq {L : List α} {i j : Nat} {x y : α} (hx : L[i]? = some x) (hy : L[j]? = some y) : swp L i j = (L.set i y).set j x := by
  unfold swp
  rw [hx, hy]
theorem swp_get {L : List α} {i j : Nat} {x y : α} (hx : L[i]? = some x) (hy : L[j]? = some y) (k : Nat) : (swp L i j)[k]? = if k = j then some x else if k = i then some y else L[k]? := by
  have li : i < L.length := (List.getElem?_eq_some_iff.mp hx).1
  have lj : j < L.length := (List.getElem?_eq_some_iff.mp hy).1
  rw [swp_eq hx hy, List.getElem?_set, List.length_set, List.getElem?_set]
  by_cases e : j = k
  · subst e; simp [lj]
  · have e' : ¬ k = j := fun h => e h.symm
    rw [if_neg e, if_neg e']
    by_cases e2 : i = k
    · subst e2; simp [li]
    · have e2' : ¬ k = i := fun h => e2 h.symm
      rw [if_neg e2, if_neg e2']
theorem swp_perm (L : List α) (i j : Nat) : (swp L i j).Perm L := by
  unfold swp
  split
  · rename_i x y hx hy
    obtain ⟨li, ex⟩ := List.getElem?_eq_some_iff.mp hx
    obtain ⟨lj, ey⟩ := List.getElem?_eq_some_iff.mp hy
    have h := Array.swap_perm (xs := L.toArray) (i := i) (j := j) (by simpa using li) (by simpa using lj)
    have h2 := Array.perm_iff_toList_perm.mp h
    rw [Array.swap_def] at h2
    simpa [ex, ey] using h2
  · exact List.Perm.refl _
variable (lt : α → α → Bool)
def up (L : List α) (pos : Nat) : List α :=
  if h : 0 < pos then
    match L[pos]?, L[(pos - 1) / 2]? with
    | some x, some p => if lt x p = true then up (swp L ((pos - 1) / 2) pos) ((pos - 1) / 2) else L
    | _, _ => L
  else L
termination_by pos
decreasing_by omega
/-- the child that goes up -/
def kid (L : List α) (pos : Nat) : Nat :=
  match L[2 * pos + 1]?, L[2 * pos + 1 + 1]? with
  | some l, some r => if lt l r = true then 2 * pos + 1 else 2 * pos + 1 + 1
  | _, _ => 2 * pos + 1
theorem kid_or (L : List α) (pos : Nat) : kid lt L pos = 2 * pos + 1 ∨ kid lt L pos = 2 * pos + 2 := by
  unfold kid
  split
  · split
    · exact .inl rfl
    · exact .inr rfl
  · exact .inl rfl
def down (L : List α) (pos : Nat) : List α :=
  if h : pos < L.length / 2 then down (swp L (kid lt L pos) pos) (kid lt L pos) else up lt L pos
termination_by L.length - pos
decreasing_by
  rw [swp_len]
  have := kid_or lt L pos
  omega
def hpush (L : List α) (x : α) : List α := up lt (L ++ [x]) L.length
/-- what is left when the first is taken out, z the last -/
def hrest (L : List α) (z : α) : List α := if L.length = 1 then [] else down lt (L.dropLast.set 0 z) 0
variable {lt}
theorem up_zero (L : List α) : up lt L 0 = L := by unfold up; rw [dif_neg (by decide)]
theorem up_yes {L : List α} {pos : Nat} {x p : α} (h : 0 < pos) (hx : L[pos]? = some x) (hp : L[(pos - 1) / 2]? = some p) (c : lt x p = true) : up lt L pos = up lt (swp L ((pos - 1) / 2) pos) ((pos - 1) / 2) := by
  rw [up, dif_pos h, hx, hp]
  simp only [c, if_true]
theorem up_no {L : List α} {pos : Nat} {x p : α} (h : 0 < pos) (hx : L[pos]? = some x) (hp : L[(pos - 1) / 2]? = some p) (c : lt x p = false) : up lt L pos = L := by
  rw [up, dif_pos h, hx, hp]
  simp only [c, Bool.false_eq_true, if_false]
theorem down_yes {L : List α} {pos : Nat} (h : pos < L.length / 2) : down lt L pos = down lt (swp L (kid lt L pos) pos) (kid lt L pos) := by
  rw [down, dif_pos h]
theorem down_no {L : List α} {pos : Nat} (h : ¬ pos < L.length / 2) : down lt L pos = up lt L pos := by
  rw [down, dif_neg h]
theorem up_perm : ∀ (n pos : Nat) (L : List α), pos ≤ n → (up lt L pos).Perm L := by
  intro n
  induction n with
  | zero =>
    intro pos L h
    have : pos = 0 := by omega
    subst this
    rw [up_zero]
  | succ n ih =>
    intro pos L h
    rw [up]
    split
    · split
      · split
        · exact (ih _ _ (by omega)).trans (swp_perm _ _ _)
        · exact List.Perm.refl _
      · exact List.Perm.refl _
    · exact List.Perm.refl _
theorem down_perm : ∀ (n pos : Nat) (L : List α), L.length - pos ≤ n → (down lt L pos).Perm L := by
  intro n
  induction n with
  | zero =>
    intro pos L h
    rw [down_no (by omega)]
    exact up_perm _ _ _ (Nat.le_refl _)
  | succ n ih =>
    intro pos L h
    by_cases c : pos < L.length / 2
    · rw [down_yes c]
      have := kid_or lt L pos
      exact (ih _ _ (by rw [swp_len]; omega)).trans (swp_perm _ _ _)
    · rw [down_no c]
      exact up_perm _ _ _ (Nat.le_refl _)
theorem hpush_perm (L : List α) (x : α) : (hpush lt L x).Perm (x :: L) := by
  unfold hpush
  exact (up_perm _ _ _ (Nat.le_refl _)).trans (List.perm_append_comm (l₁ := L) (l₂ := [x]))
theorem hrest_perm {L : List α} {x z : α} (h0 : L[0]? = some x) (hz : L[L.length - 1]? = some z) : (x :: hrest lt L z).Perm L := by
  match L, h0, hz with
  | [a], h0, hz =>
    simp only [List.getElem?_cons_zero, Option.some.injEq] at h0
    subst h0
    unfold hrest
    simp
  | a :: b :: r, h0, hz =>
    simp only [List.getElem?_cons_zero, Option.some.injEq] at h0
    subst h0
    unfold hrest
    rw [if_neg (by simp)]
    have e : (a :: b :: r) = a :: ((b :: r).dropLast ++ [z]) := by
      have h2 := List.dropLast_concat_getLast (l := b :: r) (by simp)
      have e3 : (b :: r).getLast (by simp) = z := by
        rw [List.getLast_eq_getElem]
        simpa using hz
      rw [e3] at h2
      rw [h2]
    have e4 : ((a :: b :: r).dropLast.set 0 z) = z :: (b :: r).dropLast := by
      simp [List.dropLast]
    rw [e4]
    refine ((down_perm _ _ _ (Nat.le_refl _)).cons a).trans ?_
    rw [e]
    refine List.Perm.cons a ?_
    exact (List.perm_append_comm (l₁ := [z]) (l₂ := (b :: r).dropLast))
end
/-! ### the order -/
section
variable {α : Type} (lt : α → α → Bool)
structure Ord : Prop where
  asym : ∀ x y, lt x y = true → lt y x = false
  tr : ∀ x y z, lt y x = false → lt z y = false → lt z x = false
/-- no item is below the one over it -/
def Heap (L : List α) : Prop := ∀ j x p, 0 < j → L[j]? = some x → L[(j - 1) / 2]? = some p → lt x p = false
/-- a heap but for what stands at pos over its parent -/
structure Upw (L : List α) (pos : Nat) : Prop where
  other : ∀ j x p, 0 < j → j ≠ pos → L[j]? = some x → L[(j - 1) / 2]? = some p → lt x p = false
  over : ∀ j x p, 0 < j → 0 < pos → (j - 1) / 2 = pos → L[j]? = some x → L[(pos - 1) / 2]? = some p → lt x p = false
/-- a heap but for what stands at pos, to both sides -/
structure Dnw (L : List α) (pos : Nat) : Prop where
  other : ∀ j x p, 0 < j → j ≠ pos → (j - 1) / 2 ≠ pos → L[j]? = some x → L[(j - 1) / 2]? = some p → lt x p = false
  over : ∀ j x p, 0 < j → 0 < pos → (j - 1) / 2 = pos → L[j]? = some x → L[(pos - 1) / 2]? = some p → lt x p = false
variable {lt}
theorem up_heap (O : Ord lt) : ∀ (n pos : Nat) (L : List α), pos ≤ n → pos < L.length → Upw lt L pos → Heap lt (up lt L pos) := by
  intro n
  induction n with
  | zero =>
    intro pos L h hl u
    have : pos = 0 := by omega
    subst this
    rw [up_zero]
    exact fun j x p h0 hx hp => u.other j x p h0 (by omega) hx hp
  | succ n ih =>
    intro pos L h hl u
    by_cases h0 : 0 < pos
    · obtain ⟨x, hx⟩ : ∃ x, L[pos]? = some x := ⟨_, List.getElem?_eq_getElem hl⟩
      obtain ⟨p, hp⟩ : ∃ p, L[(pos - 1) / 2]? = some p := ⟨_, List.getElem?_eq_getElem (by omega)⟩
      cases c : lt x p with
      | false =>
        rw [up_no h0 hx hp c]
        intro j y q j0 hy hq
        by_cases e : j = pos
        · subst e
          rw [hx] at hy
          rw [hp] at hq
          cases hy
          cases hq
          exact c
        · exact u.other j y q j0 e hy hq
      | true =>
        rw [up_yes h0 hx hp c]
        refine ih _ _ (by omega) (by rw [swp_len]; omega) ⟨fun j y q j0 jn hy hq => ?_, fun j y q j0 p0 je hy hq => ?_⟩
        · rw [swp_get hp hx] at hy hq
          by_cases e1 : j = pos
          · subst e1
            rw [if_pos rfl] at hy
            rw [if_neg (by omega), if_pos rfl] at hq
            cases hy
            cases hq
            exact O.asym _ _ c
          · rw [if_neg e1, if_neg jn] at hy
            by_cases e2 : (j - 1) / 2 = pos
            · rw [if_pos e2] at hq
              cases hq
              exact u.over j y p j0 h0 e2 hy hp
            · rw [if_neg e2] at hq
              by_cases e3 : (j - 1) / 2 = (pos - 1) / 2
              · rw [if_pos e3] at hq
                cases hq
                have h1 := u.other j y p j0 e1 hy (by rw [e3]; exact hp)
                exact O.tr x p y (O.asym _ _ c) h1
              · rw [if_neg e3] at hq
                exact u.other j y q j0 e1 hy hq
        · rw [swp_get hp hx] at hy hq
          rw [if_neg (by omega), if_neg (by omega)] at hq
          have hpq := u.other ((pos - 1) / 2) p q p0 (by omega) hp hq
          by_cases e1 : j = pos
          · subst e1
            rw [if_pos rfl] at hy
            cases hy
            exact hpq
          · rw [if_neg e1, if_neg (by omega)] at hy
            have h1 := u.other j y p j0 e1 hy (by rw [je]; exact hp)
            exact O.tr q p y hpq h1
    · have : pos = 0 := by omega
      subst this
      rw [up_zero]
      exact fun j x p h0 hx hp => u.other j x p h0 (by omega) hx hp
theorem down_heap (O : Ord lt) : ∀ (n pos : Nat) (L : List α), L.length - pos ≤ n → pos < L.length → Dnw lt L pos → Heap lt (down lt L pos) := by
  intro n
  induction n with
  | zero =>
    intro pos L h hl u
    omega
  | succ n ih =>
    intro pos L h hl u
    by_cases c : pos < L.length / 2
    · rw [down_yes c]
      have k12 := kid_or lt L pos
      obtain ⟨x, hx⟩ : ∃ x, L[pos]? = some x := ⟨_, List.getElem?_eq_getElem hl⟩
      obtain ⟨l, hL⟩ : ∃ l, L[2 * pos + 1]? = some l := ⟨_, List.getElem?_eq_getElem (by omega)⟩
      -- the child is there, and not above its sibling
      have kk : ∃ y, L[kid lt L pos]? = some y ∧ ∀ j z, 0 < j → (j - 1) / 2 = pos → L[j]? = some z → lt z y = false := by
        cases hR : L[2 * pos + 1 + 1]? with
        | none =>
          have ek : kid lt L pos = 2 * pos + 1 := by unfold kid; rw [hL, hR]
          rw [ek]
          refine ⟨l, hL, fun j z j0 je hz => ?_⟩
          have : j = 2 * pos + 1 ∨ j = 2 * pos + 1 + 1 := by omega
          rcases this with rfl | rfl
          · rw [hL] at hz; cases hz
            cases q : lt l l with
            | false => rfl
            | true => have := O.asym _ _ q; rw [q] at this; exact this
          · rw [hR] at hz; cases hz
        | some r =>
          cases q : lt l r with
          | true =>
            have ek : kid lt L pos = 2 * pos + 1 := by unfold kid; rw [hL, hR]; simp only [q, if_true]
            rw [ek]
            refine ⟨l, hL, fun j z j0 je hz => ?_⟩
            have : j = 2 * pos + 1 ∨ j = 2 * pos + 1 + 1 := by omega
            rcases this with rfl | rfl
            · rw [hL] at hz; cases hz
              cases q : lt l l with
              | false => rfl
              | true => have := O.asym _ _ q; rw [q] at this; exact this
            · rw [hR] at hz; cases hz
              exact O.asym _ _ q
          | false =>
            have ek : kid lt L pos = 2 * pos + 1 + 1 := by unfold kid; rw [hL, hR]; simp only [q, Bool.false_eq_true, if_false]
            rw [ek]
            refine ⟨r, hR, fun j z j0 je hz => ?_⟩
            have : j = 2 * pos + 1 ∨ j = 2 * pos + 1 + 1 := by omega
            rcases this with rfl | rfl
            · rw [hL] at hz; cases hz
              exact q
            · rw [hR] at hz; cases hz
              cases q : lt r r with
              | false => rfl
              | true => have := O.asym _ _ q; rw [q] at this; exact this
      obtain ⟨y, hy, sm⟩ := kk
      have kl : kid lt L pos < L.length := (List.getElem?_eq_some_iff.mp hy).1
      have kp : (kid lt L pos - 1) / 2 = pos := by omega
      generalize kid lt L pos = k at hy kl kp k12
      refine ih _ _ (by rw [swp_len]; omega) (by rw [swp_len]; exact kl) ⟨fun j z q j0 jn jk hz hq => ?_, fun j z q j0 k0 je hz hq => ?_⟩
      · rw [swp_get hy hx] at hz hq
        by_cases e1 : j = pos
        · subst e1
          rw [if_pos rfl] at hz
          rw [if_neg (by omega), if_neg (by omega)] at hq
          cases hz
          exact u.over k y q (by omega) j0 kp hy hq
        · rw [if_neg e1, if_neg jn] at hz
          by_cases e2 : (j - 1) / 2 = pos
          · rw [if_pos e2] at hq
            cases hq
            exact sm j z j0 e2 hz
          · rw [if_neg e2, if_neg jk] at hq
            exact u.other j z q j0 e1 e2 hz hq
      · rw [swp_get hy hx] at hz hq
        rw [kp, if_pos rfl] at hq
        cases hq
        rw [if_neg (by omega), if_neg (by omega)] at hz
        exact u.other j z y j0 (by omega) (by omega) hz (by rw [je]; exact hy)
    · rw [down_no c]
      refine up_heap O _ _ _ (Nat.le_refl _) hl ⟨fun j x p j0 jn hx hp => ?_, fun j x p j0 p0 je hx hp => ?_⟩
      · have : j < L.length := (List.getElem?_eq_some_iff.mp hx).1
        exact u.other j x p j0 jn (by omega) hx hp
      · exact u.over j x p j0 p0 je hx hp
theorem heap_congr {lt lt' : α → α → Bool} {L : List α} (h : Heap lt L) (e : ∀ x ∈ L, ∀ y ∈ L, lt' x y = lt x y) : Heap lt' L := fun j x p j0 hx hp => by
  rw [e x (List.mem_of_getElem? hx) p (List.mem_of_getElem? hp)]
  exact h j x p j0 hx hp
theorem hpush_heap (O : Ord lt) {L : List α} {x : α} (h : Heap lt L) : Heap lt (hpush lt L x) := by
  unfold hpush
  refine up_heap O _ _ _ (Nat.le_refl _) (by simp) ⟨fun j y p j0 jn hy hp => ?_, fun j y p j0 p0 je hy hp => ?_⟩
  · have hj : j < (L ++ [x]).length := (List.getElem?_eq_some_iff.mp hy).1
    rw [List.length_append, List.length_singleton] at hj
    rw [List.getElem?_append_left (by omega)] at hy hp
    exact h j y p j0 hy hp
  · have hj : j < (L ++ [x]).length := (List.getElem?_eq_some_iff.mp hy).1
    rw [List.length_append, List.length_singleton] at hj
    omega
theorem hrest_heap (O : Ord lt) {L : List α} {z : α} (h : Heap lt L) : Heap lt (hrest lt L z) := by
  unfold hrest
  split
  · intro j x p _ hx _
    simp at hx
  · by_cases l2 : 2 ≤ L.length
    · refine down_heap O _ _ _ (Nat.le_refl _) (by rw [List.length_set, List.length_dropLast]; omega) ⟨fun j x p j0 jn jp hx hp => ?_, fun j x p j0 p0 _ _ _ => absurd p0 (by decide)⟩
      rw [List.getElem?_set_ne (by omega)] at hx hp
      have hj : j < L.dropLast.length := (List.getElem?_eq_some_iff.mp hx).1
      rw [List.length_dropLast] at hj
      rw [List.getElem?_dropLast, if_pos (by omega)] at hx hp
      exact h j x p j0 hx hp
    · have : L = [] := List.eq_nil_of_length_eq_zero (by omega)
      subst this
      rw [List.dropLast_nil, List.set_nil]
      have e : down lt ([] : List α) 0 = [] := by rw [down_no (by simp), up_zero]
      rw [e]
      intro j x p _ hx _
      simp at hx
/-- the first is not above any -/
theorem heap_least (O : Ord lt) {L : List α} {x : α} (h : Heap lt L) (hx : L[0]? = some x) : ∀ (n j : Nat) (y : α), j ≤ n → L[j]? = some y → lt y x = false := by
  intro n
  induction n with
  | zero =>
    intro j y hj hy
    have : j = 0 := by omega
    subst this
    rw [hx] at hy
    cases hy
    cases q : lt x x with
    | false => rfl
    | true => have := O.asym _ _ q; rw [q] at this; exact this
  | succ n ih =>
    intro j y hj hy
    by_cases j0 : 0 < j
    · have hl : j < L.length := (List.getElem?_eq_some_iff.mp hy).1
      obtain ⟨p, hp⟩ : ∃ p, L[(j - 1) / 2]? = some p := ⟨_, List.getElem?_eq_getElem (by omega)⟩
      exact O.tr x p y (ih _ p (by omega) hp) (h j y p j0 hy hp)
    · have : j = 0 := by omega
      subst this
      rw [hx] at hy
      cases hy
      cases q : lt x x with
      | false => rfl
      | true => have := O.asym _ _ q; rw [q] at this; exact this
end
end Hq

set_option Elab.async false
set_option linter.all false
set_option maxRecDepth 100000
set_option maxHeartbeats 4000000
namespace Hq
open PySem PySem.Spec PyProof.Rows L2
theorem entry_push : entryFor table "_heapq.heappush" = some Builtin.«_heapq.heappush» := entryFor_of_tree (by kernel_rfl)
theorem kind_push : builtinKind "_heapq.heappush" = none := by kernel_rfl
theorem plain_push : plainId "_heapq.heappush" = true := by decide +kernel
theorem args_push (a b : Value) : argsOk "_heapq.heappush" ⟨[a, b], []⟩ := by unfold argsOk; kernel_rfl
theorem entry_pop : entryFor table "_heapq.heappop" = some Builtin.«_heapq.heappop» := entryFor_of_tree (by kernel_rfl)
theorem kind_pop : builtinKind "_heapq.heappop" = none := by kernel_rfl
theorem plain_pop : plainId "_heapq.heappop" = true := by decide +kernel
theorem args_pop (a : Value) : argsOk "_heapq.heappop" ⟨[a], []⟩ := by unfold argsOk; kernel_rfl
theorem entry_sift : entryFor table "_heapq.heapify.sift" = some Builtin.«_heapq.heapify.sift» := entryFor_of_tree (by kernel_rfl)
theorem plain_sift : plainId "_heapq.heapify.sift" = true := by decide +kernel

/-! ### items: a price and a word -/
abbrev Pw := Int × List Int
def ltK (x y : Pw) : Bool := if x.1 = y.1 then (if x.2 = y.2 then false else HT.lexLt x.2 y.2) else decide (x.1 < y.1)
theorem lex_asym : ∀ xs ys : List Int, HT.lexLt xs ys = true → HT.lexLt ys xs = false
  | [], [], h => by cases h
  | [], y :: ys, _ => rfl
  | x :: xs, [], h => by cases h
  | x :: xs, y :: ys, h => by
    rw [HT.lexLt_cons] at h ⊢
    by_cases e : x = y
    · subst e
      rw [if_pos rfl] at h ⊢
      exact lex_asym xs ys h
    · rw [if_neg e] at h
      rw [if_neg (fun z => e z.symm)]
      have := of_decide_eq_true h
      exact decide_eq_false (by omega)
theorem lex_tr : ∀ xs ys zs : List Int, HT.lexLt ys xs = false → HT.lexLt zs ys = false → HT.lexLt zs xs = false
  | [], [], [], _, _ => rfl
  | [], [], z :: zs, _, _ => by rfl
  | [], y :: ys, [], _, h => by cases h
  | [], y :: ys, z :: zs, _, _ => by rfl
  | x :: xs, [], _, h, _ => by cases h
  | x :: xs, y :: ys, [], _, h => by cases h
  | x :: xs, y :: ys, z :: zs, h1, h2 => by
    rw [HT.lexLt_cons] at h1 h2 ⊢
    by_cases e1 : y = x
    · subst e1
      rw [if_pos rfl] at h1
      by_cases e2 : z = y
      · subst e2
        rw [if_pos rfl] at h2 ⊢
        exact lex_tr xs ys zs h1 h2
      · rw [if_neg e2] at h2 ⊢
        exact h2
    · rw [if_neg e1] at h1
      have k1 := of_decide_eq_false h1
      by_cases e2 : z = y
      · subst e2
        rw [if_neg e1]
        exact h1
      · rw [if_neg e2] at h2
        have k2 := of_decide_eq_false h2
        rw [if_neg (by omega)]
        exact decide_eq_false (by omega)
theorem lex_irr (xs : List Int) : HT.lexLt xs xs = false := by
  cases h : HT.lexLt xs xs with
  | false => rfl
  | true => have := lex_asym _ _ h; rw [h] at this; exact this
theorem ltK_eq (x y : Pw) : ltK x y = if x.1 = y.1 then HT.lexLt x.2 y.2 else decide (x.1 < y.1) := by
  unfold ltK
  by_cases e : x.1 = y.1
  · rw [if_pos e, if_pos e]
    by_cases e2 : x.2 = y.2
    · rw [if_pos e2, e2, lex_irr]
    · rw [if_neg e2]
  · rw [if_neg e, if_neg e]
theorem ltK_ord : Ord ltK := ⟨fun x y h => by
  rw [ltK_eq] at h ⊢
  by_cases e : x.1 = y.1
  · rw [if_pos e] at h
    rw [if_pos e.symm]
    exact lex_asym _ _ h
  · rw [if_neg e] at h
    rw [if_neg (fun z => e z.symm)]
    have := of_decide_eq_true h
    exact decide_eq_false (by omega), fun x y z h1 h2 => by
  rw [ltK_eq] at h1 h2 ⊢
  by_cases e1 : y.1 = x.1
  · rw [if_pos e1] at h1
    by_cases e2 : z.1 = y.1
    · rw [if_pos e2] at h2
      rw [if_pos (e2.trans e1)]
      exact lex_tr _ _ _ h1 h2
    · rw [if_neg e2] at h2
      rw [if_neg (fun q => e2 (q.trans e1.symm)), ← e1]
      exact h2
  · rw [if_neg e1] at h1
    have k1 := of_decide_eq_false h1
    by_cases e2 : z.1 = y.1
    · rw [e2, if_neg e1]
      exact h1
    · rw [if_neg e2] at h2
      have k2 := of_decide_eq_false h2
      rw [if_neg (by omega)]
      exact decide_eq_false (by omega)⟩
theorem ltK_price {x y : Pw} (h : ltK y x = false) : x.1 ≤ y.1 := by
  rw [ltK_eq] at h
  by_cases e : y.1 = x.1
  · omega
  · rw [if_neg e] at h
    have := of_decide_eq_false h
    omega
theorem ord_map {α β : Type} {lt : β → β → Bool} (O : Ord lt) (f : α → β) : Ord (fun x y => lt (f x) (f y)) := ⟨fun x y => O.asym _ _, fun x y z => O.tr _ _ _⟩
def ItK (K : PySem.W.Frag) (H : Hp) (i : Addr) (x : Pw) : Prop := ∃ st, SqT K H i [.int x.1, .ref st] ∧ SqT K H st (x.2.map V.int)
theorem sqt_lst {K : PySem.W.Frag} {H : Hp} {p a : Addr} {xs : List V} {ys : List V} {o : HO} (h : SqT K H a xs) (hp : H p = some (.lst ys)) : SqT K (upd H p o) a xs := by
  rcases h with h | h
  · have ne : a ≠ p := fun z => by
      subst z
      rcases h with h | ⟨o, h⟩
      · rw [hp] at h; cases h
      · rw [hp] at h; cases h
    refine .inl ?_
    rcases h with h | ⟨o, h⟩
    · exact .inl (by rw [upd_ne ne]; exact h)
    · exact .inr ⟨o, by rw [upd_ne ne]; exact h⟩
  · exact .inr h
theorem ItK.lst {K : PySem.W.Frag} {H : Hp} {p i : Addr} {x : Pw} {ys : List V} {o : HO} (h : ItK K H i x) (hp : H p = some (.lst ys)) : ItK K (upd H p o) i x := by
  obtain ⟨st, h1, h2⟩ := h
  exact ⟨st, sqt_lst h1 hp, sqt_lst h2 hp⟩
theorem beq_dec (a b : Int) : (a == b) = decide (a = b) := by
  by_cases q : a = b
  · rw [decide_eq_true q]; exact beq_iff_eq.mpr q
  · rw [decide_eq_false q]; exact beq_eq_false_iff_ne.mpr q
theorem all_eq : ∀ ns ms : List Int, ((List.range (min ns.length ms.length)).all (fun j => decide (ns.getD j 0 = ms.getD j 0)) && ns.length == ms.length) = decide (ns = ms) := by
  intro ns ms
  by_cases e : ns = ms
  · subst e
    rw [decide_eq_true rfl]
    simp
  · rw [decide_eq_false e]
    by_cases l : ns.length = ms.length
    · have : ∃ j, j < ns.length ∧ ns.getD j 0 ≠ ms.getD j 0 := by
        apply Classical.byContradiction
        intro h
        apply e
        apply List.ext_getElem? 
        intro j
        by_cases jl : j < ns.length
        · have z : ns.getD j 0 = ms.getD j 0 := Classical.byContradiction fun q => h ⟨j, jl, q⟩
          rw [List.getD_eq_getElem?_getD, List.getD_eq_getElem?_getD, List.getElem?_eq_getElem jl, List.getElem?_eq_getElem (by omega)] at z
          rw [List.getElem?_eq_getElem jl, List.getElem?_eq_getElem (by omega)]
          exact congrArg some z
        · rw [List.getElem?_eq_none (by omega), List.getElem?_eq_none (by omega)]
      obtain ⟨j, jl, hj⟩ := this
      have : (List.range (min ns.length ms.length)).all (fun j => decide (ns.getD j 0 = ms.getD j 0)) = false := by
        rw [List.all_eq_false]
        exact ⟨j, List.mem_range.mpr (by omega), by simpa using hj⟩
      rw [this, Bool.false_and]
    · have : (ns.length == ms.length) = false := beq_eq_false_iff_ne.mpr l
      rw [this, Bool.and_false]
section
variable {X : Cx} {pins : List (Addr × Obj)} {σ : L2.St} {H : Hp} {s : Shared}
/-- words: equal or not -/
theorem eq_words (I : Inv X pins σ H s) {A : Around} (hu : A.units < cLine) {a b : Addr} {ns ms : List Int} (ha : SqT X.K H a (ns.map V.int)) (hb : SqT X.K H b (ms.map V.int)) : SeqAt.EqAt A s (.ref a) (.ref b) (decide (ns = ms)) := by
  obtain ⟨its, r1, p1, _⟩ := I.tuple ha
  obtain ⟨its2, r2, p2, _⟩ := I.tuple hb
  have i1 : IntsAre its ns := Vals.ints r1
  have i2 : IntsAre its2 ms := Vals.ints r2
  by_cases e : a = b
  · subst e
    obtain ⟨o, ho, hc, n, hd⟩ := p1
    obtain ⟨o2, ho2, hc2, n2, hd2⟩ := p2
    have : o2 = o := Option.some.inj (ho2.symm.trans ho)
    subst this
    rw [hd] at hd2
    have z : its = its2 := by
      injection hd2 with z _
      simpa using z
    subst z
    have z2 : ns.map V.int = ms.map V.int := Vals.inj r1 r2
    have z3 : ns = ms := (List.map_inj_right (fun x y h => by cases h; rfl)).mp z2
    rw [decide_eq_true z3]
    exact SeqAt.EqAt.same _
  · have e1 : its.toArray.size = ns.length := by rw [List.size_toArray]; exact i1.length
    have e2 : its2.toArray.size = ms.length := by rw [List.size_toArray]; exact i2.length
    have at1 : ∀ j (h1 : j < its.toArray.size), ∃ t, its.toArray[j] = .int (ns.getD j 0) t := fun j h1 => PyProof.Rows.IntsAre.int_at i1 _ _ (by simp at h1; simp [h1])
    have at2 : ∀ j (h1 : j < its2.toArray.size), ∃ t, its2.toArray[j] = .int (ms.getD j 0) t := fun j h1 => PyProof.Rows.IntsAre.int_at i2 _ _ (by simp at h1; simp [h1])
    have R := SeqAt.RcAt.tuples (A := A) (s := s) (e := fun j => decide (ns.getD j 0 = ms.getD j 0)) p1 p2 hu (fun j h1 h2 => by
      obtain ⟨t, et⟩ := at1 j h1
      obtain ⟨t', et'⟩ := at2 j h2
      rw [et, et', ← beq_dec]
      exact SeqAt.EqAt.int_int _ _ _ _)
    rw [e1, e2, all_eq] at R
    exact SeqAt.EqAt.of_refs e R
/-- items: lower or not -/
theorem lt_items (I : Inv X pins σ H s) {A : Around} (hu : A.units + 3 < cLine) {i j : Addr} {x y : Pw} (hi : ItK X.K H i x) (hj : ItK X.K H j y) : Ob.RcOp .Lt A s (.ref i) (.ref j) (ltK x y) := by
  obtain ⟨a, hi, ha⟩ := hi
  obtain ⟨b, hj, hb⟩ := hj
  obtain ⟨its, r1, p1, _⟩ := I.tuple hi
  obtain ⟨its2, r2, p2, _⟩ := I.tuple hj
  obtain ⟨u1, u2, rfl, q1, q2⟩ := r1.two
  obtain ⟨v1, v2, rfl, w1, w2⟩ := r2.two
  obtain ⟨t1, rfl⟩ := q1
  obtain ⟨t2, rfl⟩ := w1
  cases q2
  cases w2
  have R := Ob.RcOp.tuples_lt (A := A) (s := s) (e := fun j => if j = 0 then decide (x.1 = y.1) else decide (x.2 = y.2)) (r := fun j => if j = 0 then decide (x.1 < y.1) else HT.lexLt x.2 y.2) p1 p2 (by omega) (fun j h1 h2 => by
    have h1' : j < 2 := h1
    match j, h1' with
    | 0, _ =>
      show SeqAt.EqAt A.in1 s (.int x.1 t1) (.int y.1 t2) (decide (x.1 = y.1))
      rw [← beq_dec]
      exact SeqAt.EqAt.int_int _ _ _ _
    | 1, _ => exact eq_words I (show A.units + 1 < cLine by omega) ha hb) (fun j h1 h2 hf => by
    have h1' : j < 2 := h1
    match j, h1' with
    | 0, _ => exact Ob.RcOp.lt_int _ _ _ _
    | 1, _ =>
      intro prog w E Q h
      obtain ⟨k1, g1, m1, _⟩ := I.tuple ha
      obtain ⟨k2, g2, m2, _⟩ := I.tuple hb
      exact HT.lt_tupInts m1 m2 (intsAre_of g1) (intsAre_of g2) (show A.units + 1 < cLine by omega) h)
  have e : Ob.lexAt (fun j => if j = 0 then decide (x.1 = y.1) else decide (x.2 = y.2)) (fun j => if j = 0 then decide (x.1 < y.1) else HT.lexLt x.2 y.2) (decide ([Value.int x.1 t1, .ref a].toArray.size < [Value.int y.1 t2, .ref b].toArray.size)) 0 (min [Value.int x.1 t1, .ref a].toArray.size [Value.int y.1 t2, .ref b].toArray.size) = ltK x y := by
    show (if decide (x.1 = y.1) = true then (if decide (x.2 = y.2) = true then decide (2 < 2) else HT.lexLt x.2 y.2) else decide (x.1 < y.1)) = ltK x y
    unfold ltK
    simp
  rw [e] at R
  exact R
end
end Hq

set_option Elab.async false
set_option linter.all false
set_option maxRecDepth 100000
set_option maxHeartbeats 4000000
set_option pp.maxSteps 3000
namespace Hq
open PySem PySem.Spec PyProof.Rows L2
theorem vals_refs : ∀ {L : List Addr} {us : List Value}, Vals (L.map V.ref) us → us = L.map Value.ref
  | [], us, r => by rw [List.map_nil] at r; cases r; rfl
  | a :: L, us, r => by
    rw [List.map_cons] at r
    cases r with
    | cons h t => cases h; rw [vals_refs t]; rfl
/-- the items of a list at an address -/
def itemsAt (a : Addr) : Sem (Array Value) := do
  let some xs ← seqItems? (.ref a) | unsupported "internal:_heapq"
  return xs
def atOf (xs : Array Value) (i : Nat) : Sem Value :=
  match xs[i]? with
  | some v => pure v
  | none => unsupported "internal:_heapq.index"
section
variable {M : Model} {A : Around} {E : Value → Shared → Prop} {s : Shared}
theorem at_run {xs : Array Value} {i : Nat} {v : Value} {Q : Value → Shared → Prop} (h : xs[i]? = some v) (q : Q v s) : wpAny M A (atOf xs i) Q E s := by
  unfold atOf
  rw [h]
  exact wpAny_pure q
end
section
variable {X : Cx} {pins : List (Addr × Obj)} {σ : L2.St} {H : Hp} {p : Addr} {key : Addr → Pw} {A : Around} {result : Value} {R : Result → Shared → Prop}
theorem refs_get {L : List Addr} {i : Nat} {a : Addr} (h : L[i]? = some a) : ((L.map Value.ref).toArray)[i]? = some (.ref a) := by
  rw [List.getElem?_toArray, List.getElem?_map, h]
  rfl
/-- the list of a heap, as it stands -/
theorem lst_at {s : Shared} {L : List Addr} (I : Inv X pins σ (upd H p (.lst (L.map V.ref))) s) : L.length ≤ sizeLine ∧ ∃ n, s.heap.get? p = some { cls := .type "list", data := .seq (L.map Value.ref).toArray n } := by
  obtain ⟨z, its, n, r, hl, e⟩ := I.lstM upd_same
  rw [vals_refs r] at e
  rw [List.length_map] at z
  exact ⟨z, n, e⟩
theorem vals_of : ∀ L : List Addr, Vals (L.map V.ref) (L.map Value.ref)
  | [] => .nil
  | a :: L => .cons rfl (vals_of L)
/-- two of the list change places -/
theorem swap_run {s : Shared} {L : List Addr} {i j : Nat} {Q : Unit → Shared → Prop} {E : Value → Shared → Prop} (I : Inv X pins σ (upd H p (.lst (L.map V.ref))) s) (hi : i < L.length) (hj : j < L.length)
    (q : ∀ s', Inv X pins σ (upd H p (.lst ((swp L i j).map V.ref))) s' → Q () s') :
    wpAny (model X.prog X.w) A (do
      let xs ← itemsAt p
      let x ← atOf xs i
      let y ← atOf xs j
      updateSeq p fun xs => (xs.setIfInBounds i y).setIfInBounds j x) Q E s := by
  obtain ⟨z, n, e⟩ := lst_at I
  have gi : L[i]? = some L[i] := List.getElem?_eq_getElem hi
  have gj : L[j]? = some L[j] := List.getElem?_eq_getElem hj
  refine wpAny_bind (wpAny_bind (wpAny_seqItems e rfl (wpAny_pure ?_)))
  refine wpAny_bind (at_run (refs_get gi) (wpAny_bind (at_run (refs_get gj) ?_)))
  refine wpAny_updateSeq e rfl ?_ (by rw [List.size_toArray, List.length_map]; exact z) (by rw [Array.size_setIfInBounds, Array.size_setIfInBounds, List.size_toArray, List.length_map]; omega)
  have I2 := I.lset (its' := (swp L i j).map Value.ref) (ys := (swp L i j).map V.ref) (t' := s.toks) upd_same e (f := fun xs => (xs.setIfInBounds i (.ref L[j])).setIfInBounds j (.ref L[i])) (by
    rw [swp_eq gi gj, List.map_set, List.map_set]
    simp) (vals_of _) (by rw [List.length_map, swp_len]; exact z)
  rw [upd_upd] at I2
  exact q _ I2
/-- one asked whether it is below another -/
theorem less_run {s : Shared} {L : List Addr} {i j : Addr} {b : Bool} {k : Nat} {Q : Bool → Shared → Prop} {E : Value → Shared → Prop} (I : Inv X pins σ (upd H p (.lst (L.map V.ref))) s) (hr : Ob.RcOp .Lt A s (.ref i) (.ref j) b) (hk : k = L.length) (q : Q b s) :
    wpAny (model X.prog X.w) A (do
      let less ← holding [.ref i, .ref j] (do truthOfDropped (← richCompare .Lt (.ref i) (.ref j)))
      if (← itemsAt p).size != k then rule "_heapq.size-changed"; raiseError "RuntimeError" "list changed size during iteration"
      return less) Q E s := by
  obtain ⟨z, n, e⟩ := lst_at I
  refine wpAny_bind (wpAny_holding (wpAny_bind (hr _ _ _ _ ?_)))
  refine wpAny_truthy_bool ?_
  refine wpAny_bind (wpAny_bind (wpAny_seqItems e rfl (wpAny_pure ?_)))
  have e2 : ((List.map Value.ref L).toArray.size != k) = false := by
    rw [List.size_toArray, List.length_map, hk]
    simp
  rw [e2]
  exact wpAny_pure q
theorem run_up (hu : A.units + 4 < cLine) : ∀ (n pos : Nat) (L : List Addr) (s : Shared), pos ≤ n → pos < L.length → Inv X pins σ (upd H p (.lst (L.map V.ref))) s → (∀ i ∈ L, ∀ o, ItK X.K (upd H p o) i (key i)) →
    (∀ s', Inv X pins σ (upd H p (.lst ((up (fun i j => ltK (key i) (key j)) L pos).map V.ref))) s' → R (.ok (.ret result)) s') →
    codeAny (model X.prog X.w) A (.builtin "_heapq.heapify.sift" ⟨[.ref p, .bool false, .bool false, rawInt pos, rawInt (0 : Nat), result, rawInt (-1)], []⟩) R s := by
  intro n
  induction n with
  | zero =>
    intro pos L s hn hl I hK hR
    have : pos = 0 := by omega
    subst this
    rw [up_zero] at hR
    obtain ⟨z, n, e⟩ := lst_at I
    refine codeAny_builtin entry_sift ?_
    rw [Around.under_plainId plain_sift _]
    unfold Builtin.«_heapq.heapify.sift»
    dsimp only
    simp only [rawInt, Int.toNat_natCast, Bool.false_eq_true, if_false]
    refine wpAny_bind (wpAny_bind (wpAny_seqItems e rfl (wpAny_pure ?_)))
    rw [if_neg (by decide), if_pos (by decide)]
    exact wpAny_pure (hR _ I)
  | succ n ih =>
    intro pos L s hn hl I hK hR
    obtain ⟨z, m, e⟩ := lst_at I
    refine codeAny_builtin entry_sift ?_
    rw [Around.under_plainId plain_sift _]
    unfold Builtin.«_heapq.heapify.sift»
    dsimp only
    simp only [rawInt, Int.toNat_natCast, Bool.false_eq_true, if_false]
    refine wpAny_bind (wpAny_bind (wpAny_seqItems e rfl (wpAny_pure ?_)))
    by_cases h0 : 0 < pos
    · obtain ⟨x, hx⟩ : ∃ x, L[pos]? = some x := ⟨_, List.getElem?_eq_getElem hl⟩
      have l2 : (pos - 1) / 2 < L.length := by omega
      obtain ⟨y, hy⟩ : ∃ y, L[(pos - 1) / 2]? = some y := ⟨_, List.getElem?_eq_getElem l2⟩
      rw [if_pos (show pos > 0 from h0)]
      refine wpAny_bind (at_run (refs_get hx) (wpAny_bind (at_run (refs_get hy) ?_)))
      refine wpAny_bind (less_run I (lt_items I (show A.units + 1 + 3 < cLine by omega) (hK x (List.mem_of_getElem? hx) _) (hK y (List.mem_of_getElem? hy) _)) (by rw [List.size_toArray, List.length_map]) ?_)
      cases c : ltK (key x) (key y) with
      | true =>
        rw [if_pos rfl]
        rw [up_yes h0 hx hy c] at hR
        refine wpAny_bind (swap_run I l2 hl fun s' I' => ?_)
        refine wpAny_pure ⟨plainId_quiet plain_sift _, ?_⟩
        exact ih ((pos - 1) / 2) _ s' (by omega) (by rw [swp_len]; exact l2) I' (fun i hi => hK i ((swp_perm L _ _).mem_iff.mp hi)) hR
      | false =>
        rw [if_neg (by decide), if_pos (by decide)]
        rw [up_no h0 hx hy c] at hR
        exact wpAny_pure (hR _ I)
    · have : pos = 0 := by omega
      subst this
      rw [up_zero] at hR
      rw [if_neg (by decide), if_pos (by decide)]
      exact wpAny_pure (hR _ I)
theorem ite_not {α : Type} {c : Bool} {a b : α} : (if (!c) = true then a else b) = if c = true then b else a := by cases c <;> rfl
theorem run_down (hu : A.units + 4 < cLine) : ∀ (n pos : Nat) (L : List Addr) (s : Shared), L.length - pos ≤ n → pos < L.length → Inv X pins σ (upd H p (.lst (L.map V.ref))) s → (∀ i ∈ L, ∀ o, ItK X.K (upd H p o) i (key i)) →
    (∀ s', Inv X pins σ (upd H p (.lst ((down (fun i j => ltK (key i) (key j)) L pos).map V.ref))) s' → R (.ok (.ret result)) s') →
    codeAny (model X.prog X.w) A (.builtin "_heapq.heapify.sift" ⟨[.ref p, .bool false, .bool true, rawInt pos, rawInt (0 : Nat), result, rawInt (-1)], []⟩) R s := by
  intro n
  induction n with
  | zero =>
    intro pos L s hn hl I hK hR
    omega
  | succ n ih =>
    intro pos L s hn hl I hK hR
    obtain ⟨z, m, e⟩ := lst_at I
    refine codeAny_builtin entry_sift ?_
    rw [Around.under_plainId plain_sift _]
    unfold Builtin.«_heapq.heapify.sift»
    dsimp only
    simp only [rawInt, Int.toNat_natCast, Bool.false_eq_true, if_false, if_true]
    refine wpAny_bind (wpAny_bind (wpAny_seqItems e rfl (wpAny_pure ?_)))
    simp only [List.size_toArray, List.length_map]
    by_cases h0 : pos < L.length / 2
    · rw [if_pos h0]
      rw [down_yes h0] at hR
      have l1 : 2 * pos + 1 < L.length := by omega
      obtain ⟨l, hL⟩ : ∃ l, L[2 * pos + 1]? = some l := ⟨_, List.getElem?_eq_getElem l1⟩
      by_cases h1 : 2 * pos + 1 + 1 < L.length
      · rw [if_pos h1]
        obtain ⟨r, hr⟩ : ∃ r, L[2 * pos + 1 + 1]? = some r := ⟨_, List.getElem?_eq_getElem h1⟩
        refine wpAny_bind (at_run (refs_get hL) (wpAny_bind (at_run (refs_get hr) ?_)))
        refine wpAny_bind (less_run I (lt_items I (show A.units + 1 + 3 < cLine by omega) (hK l (List.mem_of_getElem? hL) _) (hK r (List.mem_of_getElem? hr) _)) rfl ?_)
        rw [ite_not]
        cases c : ltK (key l) (key r) with
        | true =>
          rw [if_pos rfl]
          have ek : kid (fun i j => ltK (key i) (key j)) L pos = 2 * pos + 1 := by unfold kid; rw [hL, hr]; simp only [c, if_true]
          rw [ek] at hR
          refine wpAny_bind (swap_run I l1 hl fun s' I' => ?_)
          refine wpAny_pure ⟨plainId_quiet plain_sift _, ?_⟩
          exact ih (2 * pos + 1) _ s' (by rw [swp_len]; omega) (by rw [swp_len]; exact l1) I' (fun i hi => hK i ((swp_perm L _ _).mem_iff.mp hi)) hR
        | false =>
          rw [if_neg (by decide)]
          have ek : kid (fun i j => ltK (key i) (key j)) L pos = 2 * pos + 1 + 1 := by unfold kid; rw [hL, hr]; simp only [c, Bool.false_eq_true, if_false]
          rw [ek] at hR
          refine wpAny_bind (swap_run I h1 hl fun s' I' => ?_)
          refine wpAny_pure ⟨plainId_quiet plain_sift _, ?_⟩
          exact ih (2 * pos + 1 + 1) _ s' (by rw [swp_len]; omega) (by rw [swp_len]; exact h1) I' (fun i hi => hK i ((swp_perm L _ _).mem_iff.mp hi)) hR
      · rw [if_neg h1]
        have hr : L[2 * pos + 1 + 1]? = none := List.getElem?_eq_none (by omega)
        have ek : kid (fun i j => ltK (key i) (key j)) L pos = 2 * pos + 1 := by unfold kid; rw [hL, hr]
        rw [ek] at hR
        refine wpAny_bind (swap_run I l1 hl fun s' I' => ?_)
        refine wpAny_pure ⟨plainId_quiet plain_sift _, ?_⟩
        exact ih (2 * pos + 1) _ s' (by rw [swp_len]; omega) (by rw [swp_len]; exact l1) I' (fun i hi => hK i ((swp_perm L _ _).mem_iff.mp hi)) hR
    · rw [if_neg h0]
      rw [down_no h0] at hR
      refine wpAny_pure ⟨plainId_quiet plain_sift _, ?_⟩
      exact run_up hu pos pos L s (Nat.le_refl _) hl I hK hR
end
/-! ### heappush, heappop -/
theorem upd_eq {H : Hp} {a : Addr} {o : HO} (h : H a = some o) : upd H a o = H := by
  funext b
  by_cases e : b = a
  · subst e; rw [upd_same, h]
  · rw [upd_ne e]
section
variable {X : Cx}
/-- heappush(q, x): q a heap of items, each of a price and a word -/
def rPush (K : PySem.W.Frag) : List V → Hp → VK → Prop := fun vs H Q => ∃ (p t : Addr) (L : List Addr) (key : Addr → Pw), vs = [.ref p, .ref t] ∧ H p = some (.lst (L.map V.ref)) ∧ L.length < sizeLine ∧ (∀ i ∈ L ++ [t], ItK K H i (key i)) ∧
  Q .non (upd H p (.lst ((hpush (fun i j => ltK (key i) (key j)) L t).map V.ref)))
theorem cr_push (hu : X.A.units + 64 < cLine) : CallR X (.builtin "_heapq.heappush") (rPush X.K) := by
  intro pins s σ H vs us Q I r h
  obtain ⟨p, t, L, key, rfl, hp, hz, hK, q⟩ := h
  obtain ⟨u1, u2, rfl, q1, q2⟩ := r.two
  cases q1
  cases q2
  have hu' : upd H p (.lst (L.map V.ref)) = H := upd_eq hp
  have I0 : Inv X pins σ (upd H p (.lst (L.map V.ref))) s := by rw [hu']; exact I
  obtain ⟨z, n, e⟩ := lst_at I0
  refine call_function_tree kind_push plain_push entry_push (args_push _ _) ?_
  unfold Builtin.«_heapq.heappush»
  have ty : s.TypeIs (.ref p) "list" := ⟨_, e, rfl⟩
  refine wpAny_bind (wpAny_bind (wpAny_pure (wpAny_bind (wpAny_pure (wpAny_bind (wpAny_bind (wpAny_isInstance (T := "list") (b := true) ty (by rw [isSubtype_type]; kernel_rfl) (wpAny_pure (wpAny_pure ?_)))))))))
  refine wpAny_bind (wpAny_updateSeq e rfl ?_ (by rw [List.size_toArray, List.length_map]; exact z) (by rw [Array.size_push, List.size_toArray, List.length_map]; omega))
  have I1 := I0.lset (its' := (L ++ [t]).map Value.ref) (ys := (L ++ [t]).map V.ref) (t' := s.toks) upd_same e (f := fun xs => xs.push (.ref t)) (by simp) (vals_of _) (by rw [List.length_map, List.length_append, List.length_singleton]; omega)
  rw [upd_upd] at I1
  generalize s.heap.update p (Obj.mapSeq fun xs => xs.push (.ref t)) = h1 at I1
  obtain ⟨z1, n1, e1⟩ := lst_at I1
  refine wpAny_bind (wpAny_bind (wpAny_seqItems e1 rfl (wpAny_pure ?_)))
  refine wpAny_pure ⟨plainId_quiet plain_sift _, ?_⟩
  have es : (List.map Value.ref (L ++ [t])).toArray.size - 1 = L.length := by
    rw [List.size_toArray, List.length_map, List.length_append, List.length_singleton]; omega
  rw [es]
  refine run_up (key := key) (by show X.A.units + 4 < cLine; omega) L.length L.length (L ++ [t]) _ (Nat.le_refl _) (by simp) I1 (fun i hi o => (hK i hi).lst hp) fun s' I' => ?_
  exact ⟨.non, _, I', rfl, q⟩
/-- heappop(q) -/
def rPop (K : PySem.W.Frag) : List V → Hp → VK → Prop := fun vs H Q => ∃ (p x z : Addr) (L : List Addr) (key : Addr → Pw), vs = [.ref p] ∧ H p = some (.lst (L.map V.ref)) ∧ L[0]? = some x ∧ L[L.length - 1]? = some z ∧ (∀ i ∈ L, ItK K H i (key i)) ∧
  Q (.ref x) (upd H p (.lst ((hrest (fun i j => ltK (key i) (key j)) L z).map V.ref)))
theorem cr_pop (hu : X.A.units + 64 < cLine) : CallR X (.builtin "_heapq.heappop") (rPop X.K) := by
  intro pins s σ H vs us Q I r h
  obtain ⟨p, x, y, L, key, rfl, hp, h0, hl, hK, q⟩ := h
  obtain ⟨u1, rfl, q1⟩ := r.one
  cases q1
  have hu' : upd H p (.lst (L.map V.ref)) = H := upd_eq hp
  have I0 : Inv X pins σ (upd H p (.lst (L.map V.ref))) s := by rw [hu']; exact I
  obtain ⟨z, n, e⟩ := lst_at I0
  refine call_function_tree kind_pop plain_pop entry_pop (args_pop _) ?_
  unfold Builtin.«_heapq.heappop»
  have ty : s.TypeIs (.ref p) "list" := ⟨_, e, rfl⟩
  refine wpAny_bind (wpAny_bind (wpAny_pure (wpAny_bind (wpAny_bind (wpAny_isInstance (T := "list") (b := true) ty (by rw [isSubtype_type]; kernel_rfl) (wpAny_pure (wpAny_pure ?_)))))))
  refine wpAny_bind (wpAny_bind (wpAny_seqItems e rfl (wpAny_pure ?_)))
  have lne : 0 < L.length := (List.getElem?_eq_some_iff.mp h0).1
  have hb : (List.map Value.ref L).toArray.back? = some (.ref y) := by
    rw [Array.back?_eq_getElem?, List.size_toArray, List.length_map]
    exact refs_get hl
  rw [hb]
  dsimp only
  refine wpAny_bind (wpAny_updateSeq e rfl ?_ (by rw [List.size_toArray, List.length_map]; exact z) (by rw [Array.size_pop, List.size_toArray, List.length_map]; omega))
  have I1 := I0.lset (its' := (L.dropLast).map Value.ref) (ys := (L.dropLast).map V.ref) (t' := s.toks) upd_same e (f := fun xs => xs.pop) (by simp) (vals_of _) (by rw [List.length_map, List.length_dropLast]; omega)
  rw [upd_upd] at I1
  generalize s.heap.update p (Obj.mapSeq fun xs => xs.pop) = h1 at I1
  simp only [List.size_toArray, List.length_map]
  by_cases c : L.length = 1
  · have eh : hrest (fun i j => ltK (key i) (key j)) L y = [] := by unfold hrest; rw [if_pos c]
    rw [eh] at q
    have ed : L.dropLast = [] := List.eq_nil_of_length_eq_zero (by rw [List.length_dropLast]; omega)
    rw [ed] at I1
    have exy : x = y := by
      rw [c] at hl
      exact Option.some.inj (h0.symm.trans hl)
    subst exy
    rw [if_pos (by rw [c]; rfl)]
    exact wpAny_pure ⟨.ref x, _, I1, rfl, q⟩
  · have eh : hrest (fun i j => ltK (key i) (key j)) L y = down (fun i j => ltK (key i) (key j)) (L.dropLast.set 0 y) 0 := by unfold hrest; rw [if_neg c]
    rw [eh] at q
    rw [if_neg (by simpa using c)]
    refine wpAny_bind (at_run (refs_get h0) ?_)
    obtain ⟨z1, n1, e1⟩ := lst_at I1
    refine wpAny_bind (wpAny_updateSeq e1 rfl ?_ (by rw [List.size_toArray, List.length_map]; exact z1) (by rw [Array.size_setIfInBounds, List.size_toArray, List.length_map]; omega))
    have I2 := I1.lset (its' := (L.dropLast.set 0 y).map Value.ref) (ys := (L.dropLast.set 0 y).map V.ref) (t' := s.toks) upd_same e1 (f := fun xs => xs.setIfInBounds 0 (.ref y)) (by rw [List.map_set]; simp) (vals_of _) (by rw [List.length_map, List.length_set]; exact z1)
    rw [upd_upd] at I2
    generalize h1.update p (Obj.mapSeq fun xs => xs.setIfInBounds 0 (.ref y)) = h2 at I2
    refine wpAny_pure ⟨plainId_quiet plain_sift _, ?_⟩
    refine run_down (key := key) (by show X.A.units + 4 < cLine; omega) _ 0 (L.dropLast.set 0 y) _ (Nat.le_refl _) (by rw [List.length_set, List.length_dropLast]; omega) I2 (fun i hi o => ?_) fun s' I' => ?_
    · have hi' : i ∈ L := by
        rcases List.mem_or_eq_of_mem_set hi with hi | rfl
        · exact (List.dropLast_sublist L).mem hi
        · exact List.mem_of_getElem? hl
      exact (hK i hi').lst hp
    · exact ⟨.ref x, _, I', rfl, q⟩
end
end Hq

set_option Elab.async false
set_option linter.all false
set_option maxRecDepth 100000
set_option maxHeartbeats 8000000
set_option pp.maxSteps 900
set_option pp.deepTerms false
namespace Wb
open PySem PySem.Spec PyProof.Rows L2
/-! ### {t: v}, t a tuple of ints and texts -/
def tDisp1T (tk tv : TE) : TE := fun σ H Q => ∀ p, H p = none → tk σ (upd H p (.dT [])) fun y H1 => tv σ H1 fun v H2 => ∃ (b : Addr) (k : List Key), y = .ref b ∧ H2 b = some (.tup (k.map kV)) ∧ H2 p = some (.dT []) ∧ Q (.ref p) (upd H2 p (.dT [(k, v)]))
theorem pe_disp1T {X : Cx} {pos : Pos} {k v : Expr} {tk tv : TE} (hu : X.A.units + 1 < cLine) (hk : PE X k tk) (hv : PE X v tv) : PE X (.Dict [some k] [v] pos) (tDisp1T tk tv) := by
  refine ⟨fun pins s σ H Q I q => ?_⟩
  have hn := I.hok.fresh (Nat.le_refl s.heap.objs.size)
  have I1 := I.laid (a := s.heap.objs.size) (o := .dT []) (h' := s.heap.push { cls := .type "dict", data := .dict #[] }) (t' := s.toks) (fun _ _ q => Heap.get?_push_of_some _ q) (Nat.le_refl _) (dt_empty s.heap I.big)
  have hp : pairTrees [some k] [v] X.env pos ≠ [] := by
    intro he
    have hl := pairTrees_length [some k] [v] X.env pos rfl rfl
    rw [he] at hl
    cases hl
  have hl := pairTrees_length [some k] [v] X.env pos rfl rfl
  rw [arm_eval_Dict, zip_pairTrees [some k] [v] X.env pos rfl rfl, dictDisplay_pairs _ hp (by rw [hl]; exact (by decide : 1 < 17))]
  have hr : (tupleKind (mixKind X.prog X.w)).room X.A := (by show X.A.units < cLine; omega)
  refine wpAny_bind (wpAny_standAt (wpAny_bind (wpAny_subDictH (knd := tupleKind (mixKind X.prog X.w)) (Q := fun d s' => wpAny (model X.prog X.w) X.A (pure (Value.ref d)) _ X.xe s') hr (by rw [hl]; exact (by decide : 1 ≤ 15)) ?_)))
  refine pairTrees_cons_walk (thn (hk.run pins _ σ _ _ I1 (q _ hn)) fun u s1 ⟨x, H1, I1', rx, q1⟩ => thn (hv.run pins s1 σ H1 _ I1' q1) fun w2 s2 ⟨y, H2, I2, ry, b, ky, ey, hky, hH, q2⟩ => ?_)
  subst ey
  obtain rfl : u = Value.ref b := rx
  refine pairTrees_nil_walk ?_
  obtain ⟨z, hd, xs, rel, dd⟩ := dt_of (kvs := []) I2.hok hH
  cases rel
  refine ⟨[(ky, b, w2)], ⟨rfl, rfl, key_of I2.hok hky, trivial⟩, dd, fun h' tk dd' hs' => wpAny_pure ?_⟩
  obtain ⟨q', es, ep, hq, h2, h3, h4, _, h5⟩ := id dd'
  refine ⟨.ref s.heap.objs.size, upd H2 s.heap.objs.size (.dT [(ky, y)]), d_write (t' := tk) I2 (by rw [hH]; exact True.intro) hs' ⟨q', hq⟩ ⟨show 1 ≤ sizeLine by decide, hd, storedAllH [] [(ky, b, w2)], ?_, q', es, ep, hq, h2, h3, h4, h5⟩, rfl, q2⟩
  refine .cons ⟨rfl, ?_, ry⟩ .nil
  rw [upd_ne (ne_of hky hH (fun z => nomatch z))]
  exact hky
/-! ### found: stands and prices -/
def kvF (F : List (Word × Int)) : List (List Key × V) := F.map fun q => (keyW q.1, .int q.2)
theorem kvF_any (F : List (Word × Int)) (w : Word) : ((kvF F).any fun kv => decide (kv.1 = keyW w)) = decide (w ∈ F.map (·.1)) := by
  unfold kvF
  rw [List.any_map, Bool.eq_iff_iff]
  simp only [List.any_eq_true, Function.comp, decide_eq_true_eq, List.mem_map]
  constructor
  · rintro ⟨q, hq, e⟩
    exact ⟨q, hq, keyW_inj e⟩
  · rintro ⟨q, hq, e⟩
    exact ⟨q, hq, by rw [e]⟩
theorem kvF_put (F : List (Word × Int)) (w : Word) (v : Int) : putK (kvF F) (keyW w) (.int v) = kvF (Dj.put F w v) := by
  unfold putK Dj.put
  rw [kvF_any]
  by_cases h : w ∈ F.map (·.1)
  · rw [if_pos (decide_eq_true h), if_pos h]
    unfold kvF
    rw [List.map_map, List.map_map]
    apply List.map_congr_left
    intro q _
    simp only [Function.comp]
    by_cases e : q.1 = w
    · rw [if_pos e, if_pos (by rw [e])]
    · rw [if_neg e, if_neg (fun z => e (keyW_inj z))]
  · rw [if_neg (by rw [decide_eq_false h]; exact Bool.false_ne_true), if_neg h]
    unfold kvF
    rw [List.map_append]
    rfl
theorem kvF_val {F : List (Word × Int)} (nd : (F.map (·.1)).Nodup) {w : Word} {v : Int} (h : (w, v) ∈ F) : valV (kvF F) (keyW w) = some (.int v) := by
  induction F with
  | nil => cases h
  | cons p F ih =>
    rw [List.map_cons, List.nodup_cons] at nd
    rcases List.mem_cons.mp h with rfl | h
    · exact valV_pos rfl
    · have ne : ¬ keyW p.1 = keyW w := fun e => nd.1 (by rw [keyW_inj e]; exact List.mem_map.mpr ⟨_, h, rfl⟩)
      have z : valV (kvF (p :: F)) (keyW w) = valV (kvF F) (keyW w) := valV_neg ne
      rw [z]
      exact ih nd.2 h
theorem kvF_none {F : List (Word × Int)} {w : Word} (h : w ∉ F.map (·.1)) : valV (kvF F) (keyW w) = none := by
  have z := valV_any (keyW w) (kvF F)
  rw [kvF_any, decide_eq_false h] at z
  cases e : valV (kvF F) (keyW w) with
  | none => rfl
  | some v => rw [e] at z; cases z
/-! ### the steps, as stands and prices -/
def outL (l : Lock) (u : Word) : List (Word × Int) := (stepsL l u).map fun t => (u.set t.frm.toNat t.to_, t.price)
theorem mem_steps {l : Lock} {u : Word} {t : Tr3} : t ∈ stepsL l u ↔ ∃ (k : Nat) (b : Bolt) (g : Gap), l[k]? = some b ∧ g ∈ b.gaps ∧ u[k]? = some g.frm ∧ u.take k ∈ g.ways ∧ t = ⟨(k : Int), g.to_, g.price⟩ := by
  constructor
  · intro h
    obtain ⟨k, hk, hs⟩ := List.mem_flatMap.mp h
    unfold stepsOf at hs
    split at hs
    · rename_i b p hb hp
      unfold pickAt at hs
      obtain ⟨m, hm, rfl⟩ := List.mem_map.mp hs
      obtain ⟨hm, hf⟩ := List.mem_filter.mp hm
      unfold movesL at hm
      obtain ⟨g, hg, rfl⟩ := List.mem_map.mp hm
      obtain ⟨hg, hw⟩ := List.mem_filter.mp hg
      have e : g.frm = p := of_decide_eq_true hf
      exact ⟨k, b, g, hb, hg, by rw [e]; exact hp, of_decide_eq_true hw, rfl⟩
    · cases hs
  · rintro ⟨k, b, g, hb, hg, hu, hw, rfl⟩
    refine List.mem_flatMap.mpr ⟨k, List.mem_range.mpr (List.getElem?_eq_some_iff.mp hb).1, ?_⟩
    unfold stepsOf
    rw [hb, hu]
    show _ ∈ pickAt k g.frm (movesL b.gaps (u.take k))
    unfold pickAt
    refine List.mem_map.mpr ⟨trOf g, List.mem_filter.mpr ⟨?_, decide_eq_true rfl⟩, rfl⟩
    unfold movesL
    exact List.mem_map.mpr ⟨g, List.mem_filter.mpr ⟨hg, decide_eq_true hw⟩, rfl⟩
theorem out_stp {l : Lock} {u v : Word} {c : Int} (h : (v, c) ∈ outL l u) : Stp l u v := by
  unfold outL at h
  obtain ⟨t, ht, e⟩ := List.mem_map.mp h
  obtain ⟨k, b, g, hb, hg, hu, hw, rfl⟩ := mem_steps.mp ht
  obtain ⟨rfl, rfl⟩ := Prod.mk.inj e
  exact ⟨k, b, g, hb, hg, hu, hw, rfl⟩
theorem stp_out {l : Lock} {u v : Word} (h : Stp l u v) : ∃ c, (v, c) ∈ outL l u := by
  obtain ⟨k, b, g, hb, hg, hu, hw, rfl⟩ := h
  exact ⟨g.price, List.mem_map.mpr ⟨_, mem_steps.mpr ⟨k, b, g, hb, hg, hu, hw, rfl⟩, rfl⟩⟩
theorem step_price {l : Lock} (ok : LockOk l) {u : Word} {t : Tr3} (h : t ∈ stepsL l u) : 1 ≤ t.price ∧ t.price ≤ 1000000 := by
  obtain ⟨k, b, g, hb, hg, hu, hw, rfl⟩ := mem_steps.mp h
  have G := (ok.bolts k b hb).gaps g hg
  exact ⟨G.p0, G.p1⟩
theorem out_price {l : Lock} (ok : LockOk l) {u v : Word} {c : Int} (h : (v, c) ∈ outL l u) : 1 ≤ c ∧ c ≤ 1000000 := by
  unfold outL at h
  obtain ⟨t, ht, e⟩ := List.mem_map.mp h
  obtain ⟨rfl, rfl⟩ := Prod.mk.inj e
  exact step_price ok ht
theorem rc_rch {l : Lock} {a x : Word} : Dj.Rc (outL l) a x ↔ Rch l a x := by
  constructor
  · intro h
    induction h with
    | refl => exact .refl _
    | step _ hy ih => exact ih.step (out_stp hy)
  · intro h
    induction h with
    | refl => exact .refl
    | step _ s ih =>
      obtain ⟨c, hc⟩ := stp_out s
      exact ih.step hc
/-! ### what waits -/
def ItO (H : Hp) (i : Addr) (x : Hq.Pw) : Prop := ∃ st, H i = some (.tup [.int x.1, .ref st]) ∧ H st = some (.tup (x.2.map V.int))
theorem ItO.k {K : PySem.W.Frag} {H : Hp} {i : Addr} {x : Hq.Pw} (h : ItO H i x) : Hq.ItK K H i x := by
  obtain ⟨st, h1, h2⟩ := h
  exact ⟨st, SqT.of h1, SqT.of h2⟩
theorem ItO.mono {K : PySem.W.Frag} {H H' : Hp} (t : TX K H H') {i : Addr} {x : Hq.Pw} (h : ItO H i x) : ItO H' i x := by
  obtain ⟨st, h1, h2⟩ := h
  exact ⟨st, t.2 _ _ h1, t.2 _ _ h2⟩
end Wb

set_option Elab.async false
set_option linter.all false
set_option maxRecDepth 100000
set_option maxHeartbeats 8000000
set_option pp.maxSteps 1200
set_option pp.deepTerms false
namespace Wb
open PySem PySem.Spec PyProof.Rows L2
abbrev sSpread : Stmt := topS 34
abbrev nSpread : List Str := ["lock", "stand", "price", "moves", "found", "queue", "paid", "here", "k", "to", "cost", "total", "behind"]
theorem scSpread : FnScope nSpread ["lock", "stand", "price"] (defScope sSpread) := ⟨rfl, rfl, rfl, by decide +kernel, rfl, by decide +kernel, by decide +kernel⟩
structure SpK (K : PySem.W.Frag) (mg : Str → Option Value) where
  f1 : Addr
  d1 : FuncData
  F1 : Fun K "spread" "spread" sSpread f1 d1
  b1 : Binds K d1 ["lock", "stand", "price"] []
  g1 : mg "spread" = some (.ref f1)
  f2 : Addr
  d2 : FuncData
  F2 : Fun K "steps_at" "steps_at" sStepsAt f2 d2
  b2 : Binds K d2 ["moves", "stand"] []
  g2 : mg "steps_at" = some (.ref f2)
  pop : mg "heappop" = some (.builtin "_heapq.heappop")
  push : mg "heappush" = some (.builtin "_heapq.heappush")
  most : ∃ t, mg "MOST_STANDS" = some (.int 2000 t)
/-- spread of a small lock's stand, at a price that is above all -/
def spSpread (K : PySem.W.Frag) : Sp := fun vs H Q _ => ∃ (v u : V) (l : Lock) (st : Word), vs = [v, u, .int 1000000000] ∧ LockAt K H v l ∧ LockOk l ∧ LkS l ∧ Wd K H u st ∧ InAll st (manysOf l) ∧
  ∀ H' D kvs, Evl.Ex H H' → H' D = some (.dT kvs) → (∀ F : List Word, F.Nodup → (∀ x, x ∈ F ↔ Rch l st x) → F.length = kvs.length) → Q (.ref D) H'
abbrev ltA (key : Addr → Hq.Pw) : Addr → Addr → Bool := fun i j => Hq.ltK (key i) (key j)
/-- something better: put into found, and pushed -/
theorem relax {K : PySem.W.Frag} {De : Ends} {σ : L2.St} {H : Hp} {D Wl z : Addr} {F1 : List (Word × Int)} {L1 : List Addr} {key1 : Addr → Hq.Pw} {be : Word} {tot : Int} (h4 : σ[4]? = some (some (.ref D))) (h5 : σ[5]? = some (some (.ref Wl))) (h11 : σ[11]? = some (some (.int tot))) (h12 : σ[12]? = some (some (.ref z)))
    (hD : H D = some (.dT (kvF F1))) (hW : H Wl = some (.lst (L1.map V.ref))) (nWD : Wl ≠ D) (hz : H z = some (.tup (be.map V.int))) (hF : F1.length ≤ 1000) (hL : L1.length ≤ 1000000) (hit : ∀ i ∈ L1, ItO H i (key1 i)) (hp : Hq.Heap (ltA key1) L1)
    (q : ∀ (H' : Hp) (L2 : List Addr) (key2 : Addr → Hq.Pw), (∀ b o, b ≠ D → b ≠ Wl → H b = some o → H' b = some o) → H' D = some (.dT (kvF (Dj.put F1 be tot))) → H' Wl = some (.lst (L2.map V.ref)) → (∀ i ∈ L2, ItO H' i (key2 i)) → Hq.Heap (ltA key2) L2 → (L2.map key2).Perm ((tot, be) :: L1.map key1) → L2.length = L1.length + 1 → De.nx σ H') :
    tSeq (sDPut (tVar 4) (tVar 12) (tVar 11)) (tDrop (tCB (Hq.rPush K) (tCons (tVar 5) (tCons (tTup (tCons (tVar 11) (tCons (tVar 12) tNil))) tNil)))) De σ H := by
  refine ⟨.int tot, h11, .ref D, h4, .ref z, h12, D, _, rfl, DPut.t hD (k := keyW be) (by rw [keyW_kV]; exact hz) (Nat.lt_of_le_of_lt (by unfold kvF; rw [List.length_map]; exact hF) (by decide)), ?_⟩
  rw [kvF_put]
  have hD1 : (upd H D (.dT (kvF (Dj.put F1 be tot)))) D = some (.dT (kvF (Dj.put F1 be tot))) := upd_same
  have o1 : ∀ b o, b ≠ D → H b = some o → (upd H D (.dT (kvF (Dj.put F1 be tot)))) b = some o := fun b o nb h => by rw [upd_ne nb]; exact h
  have b1 : ∀ t, (upd H D (.dT (kvF (Dj.put F1 be tot)))) t = none → H t = none := fun t ht => by
    by_cases e : t = D
    · rw [e, hD1] at ht; cases ht
    · rw [upd_ne e] at ht; exact ht
  generalize upd H D (.dT (kvF (Dj.put F1 be tot))) = H1 at hD1 o1 b1
  refine ⟨.ref Wl, h5, .int tot, h11, .ref z, h12, (by show 2 ≤ sizeLine; decide), fun t nt => ?_⟩
  have nt0 := b1 t nt
  have e2 := Evl.Ex.new (o := .tup [.int tot, .ref z]) nt
  have gt : (upd H1 t (.tup [.int tot, .ref z])) t = some (.tup [.int tot, .ref z]) := upd_same
  generalize upd H1 t (.tup [.int tot, .ref z]) = H2 at e2 gt
  have hW2 : H2 Wl = some (.lst (L1.map V.ref)) := e2 _ _ (o1 _ _ nWD hW)
  have tupk : ∀ b xs, H b = some (.tup xs) → H2 b = some (.tup xs) := fun b xs h => e2 _ _ (o1 _ _ (fun y => by rw [y, hD] at h; cases h) h)
  have nL : t ∉ L1 := fun h => by
    obtain ⟨sx, hx, _⟩ := hit t h
    rw [nt0] at hx
    cases hx
  have kold : ∀ i ∈ L1, (if i = t then (tot, be) else key1 i) = key1 i := fun i hi => if_neg fun (y : i = t) => nL (y ▸ hi)
  have items : ∀ i ∈ L1 ++ [t], ItO H2 i (if i = t then (tot, be) else key1 i) := fun i hi => by
    rcases List.mem_append.mp hi with m | m
    · rw [kold i m]
      obtain ⟨sx, h1, h2⟩ := hit i m
      exact ⟨sx, tupk _ _ h1, tupk _ _ h2⟩
    · rw [List.mem_singleton.mp m, if_pos rfl]
      exact ⟨z, gt, tupk _ _ hz⟩
  refine ⟨Wl, t, L1, fun i => if i = t then (tot, be) else key1 i, rfl, hW2, Nat.lt_of_le_of_lt hL (by decide), fun i hi => (items i hi).k, ?_⟩
  have hpm : (Hq.hpush (ltA fun i => if i = t then (tot, be) else key1 i) L1 t).Perm (t :: L1) := Hq.hpush_perm L1 t
  have hph : Hq.Heap (ltA fun i => if i = t then (tot, be) else key1 i) (Hq.hpush (ltA fun i => if i = t then (tot, be) else key1 i) L1 t) :=
    Hq.hpush_heap (Hq.ord_map Hq.ltK_ord _) (Hq.heap_congr hp fun x hx y hy => by
      show Hq.ltK _ _ = Hq.ltK _ _
      rw [kold x hx, kold y hy])
  have tx := TX.put (K := K) (o := .lst ((Hq.hpush (ltA fun i => if i = t then (tot, be) else key1 i) L1 t).map V.ref)) hW2
  refine q _ _ (fun i => if i = t then (tot, be) else key1 i) (fun b o n1 n2 h => by rw [upd_ne n2]; exact e2 _ _ (o1 _ _ n1 h)) (by rw [upd_ne nWD.symm]; exact e2 _ _ hD1) upd_same (fun i hi => ?_) hph ?_ ?_
  · refine (items i ?_).mono tx
    rcases List.mem_cons.mp (hpm.mem_iff.mp hi) with m | m
    · rw [m]; exact List.mem_append_right _ List.mem_cons_self
    · exact List.mem_append_left _ m
  · have := hpm.map fun i => if i = t then (tot, be) else key1 i
    rw [List.map_cons, if_pos rfl] at this
    refine this.trans (List.Perm.of_eq ?_)
    congr 1
    exact List.map_congr_left kold
  · rw [hpm.length_eq, List.length_cons]
section
variable {P : Program} {w : World} {K : PySem.W.Frag} {mg : Str → Option Value} {base : Heap}
theorem ok_spread (D : Pr K mg) (S : SpK K mg) : FnOk P w K mg base CX0 8 S.f1 S.d1 ["lock", "stand", "price"] (spSpread K) := by
  have GL : FnOk P w K mg base CX0 7 D.f24 D.d24 ["lock"] (spFault K) := ok_needL D
  have GS : FnOk P w K mg base CX0 3 D.f25 D.d25 ["lock", "thing"] (spNeedS K) := ok_needS D
  have GH : FnOk P w K mg base CX0 1 D.f1 D.d1 ["thing"] spWhole := ok_whole D.F1 D.B
  have GM : FnOk P w K mg base CX0 2 D.f11 D.d11 ["lock"] (spMoves K) := ok_moves D.F11 D.F10 D.b10 D.g10 D.B
  have GA : FnOk P w K mg base CX0 1 S.f2 S.d2 ["moves", "stand"] (spStepsAt K) := ok_stepsAt S.F2 D.B
  obtain ⟨tm, em⟩ := S.most
  refine S.F1.ok scSpread (fun vs H Q E h => ?_) (fun cdv A outer s H vs Q E hr h => ?_)
  · obtain ⟨v, u, l, st, rfl, _⟩ := h; rfl
  · obtain ⟨v, u, l, st, rfl, hl, ok, lk, hu, iu, q⟩ := h
    have hr1 : Room 1 _ := hr.mono (by decide)
    have hr2 : Room 2 _ := hr.mono (by decide)
    have hr3 : Room 3 _ := hr.mono (by decide)
    have hu1 := hu_of hr
    refine ⟨_, (pss_cons (ps_expr (pe_call GL hr (by rfl) D.g24 D.F24.kp D.b24 .nil pass0 (pa_cons (pv 0) pa_nil)))
      (pss_cons (ps_expr (pe_call GS hr3 (by rfl) D.g25 D.F25.kp D.b25 .nil pass0 (pa_cons (pv 0) (pa_cons (pv 1) pa_nil))))
      (pss_cons (ps_if (PW.pt (pw_or (pt_not (pt_val (pe_call GH hr1 (by rfl) D.g1 D.F1.kp D.b1 .nil pass0 (pa_cons (pv 2) pa_nil)))) (pw_or1 (pt_cmpR op_lt (pv 2) pe_int (nomark _))))) pss_never pss_nil)
      (Evl.pss_cut (ps_set (i := 3) scSpread.nd rfl (.inl rfl) (pe_call GM hr2 (by rfl) D.g11 D.F11.kp D.b11 .nil pass0 (pa_cons (pv 0) pa_nil)))
      (Evl.pss_cut (ps_set (i := 4) scSpread.nd rfl (.inl rfl) (pe_disp1T hu1 (pe_callTy (r := rTupK K) call_tupK (by rfl) D.B.tuple PyProof.Rows.boot_tuple (pa_cons (pv 1) pa_nil)) pe_int))
      (Evl.pss_cut (ps_set (i := 5) scSpread.nd rfl (.inl rfl) (pe_lst (pa_cons (pe_tup (pa_cons pe_int (pa_cons (pe_callTy (r := rTupK K) call_tupK (by rfl) D.B.tuple PyProof.Rows.boot_tuple (pa_cons (pv 1) pa_nil)) pa_nil))) pa_nil)))
      (pss_cons (ps_while PassesOwn.never (pt_truth (pv 5) (fun _ => rfl))
        (Evl.pss_cut (ps_asg (pe_callBfun (r := Hq.rPop K) (Hq.cr_pop hr.units) (by rfl) S.pop (pa_cons (pv 5) pa_nil)) (pg_tup rfl (pgs_cons (pg_name (i := 6) scSpread.nd rfl (.inl rfl)) (pgs_cons (pg_name (i := 7) scSpread.nd rfl (.inl rfl)) pgs_nil))))
        (pss_cons (ps_if (pt_cmpR op_gt (pv 6) (pe_dget hu1 (pv 4) (pv 7) (fun _ _ => rfl)) (nomark _)) (pss_one ps_continue) pss_nil)
        (pss_cons (ps_for PassesOwn.never rfl (pi_list (pe_call GA hr1 (by rfl) S.g2 S.F2.kp S.b2 .nil pass0 (pa_cons (pv 3) (pa_cons (pv 7) pa_nil)))) (pg_tup rfl (pgs_cons (pg_name (i := 8) scSpread.nd rfl (.inl rfl)) (pgs_cons (pg_name (i := 9) scSpread.nd rfl (.inl rfl)) (pgs_cons (pg_name (i := 10) scSpread.nd rfl (.inl rfl)) pgs_nil))))
          (pss_cons (ps_set (i := 11) scSpread.nd rfl (.inl rfl) (pe_op op_add (pv 6) (pv 10)))
          (Evl.pss_cut (ps_set (te := tBeh K 7 8 9) (i := 12) scSpread.nd rfl (.inl rfl) (pe_op (r := rCatA K) op_catA (pe_op (r := rCatA K) op_catA (pe_slice (r := rSlA K) sl_tupA (pv 7) po_none (po_some (pv 8))) (pe_tup (pa_cons (pv 9) pa_nil))) (pe_slice (r := rSlA K) sl_tupA (pv 7) (po_some (pe_op op_add (pv 8) pe_int)) po_none)))
          (pss_one (ps_if (PW.pt (pw_and (pt_cmpR op_le (pv 11) (pv 2) (nomark _)) (pw_and1 (PW.pt (pw_or (pt_cmp (pc_dnotin hu1 (pv 12) (pv 4)) rfl) (pw_or1 (pt_cmpR op_lt (pv 11) (pe_dget hu1 (pv 4) (pv 12) (fun _ _ => rfl)) (nomark _))))))))
            (pss_cons (ps_dput hu1 (pv 4) (pv 12) (pv 11) rfl)
            (pss_one (ps_expr (pe_callBfun (r := Hq.rPush K) (Hq.cr_push hr.units) (by rfl) S.push (pa_cons (pv 5) (pa_cons (pe_tup (pa_cons (pv 11) (pa_cons (pv 12) pa_nil))) pa_nil)))))) pss_nil)))))
        (pss_one (ps_if (pt_cmpR op_gt (pe_callB call_len_dT (by rfl) D.B.len PySem.boot_len (pa_cons (pv 4) pa_nil)) (pe_glob (v := .int 2000) (by rfl) em ⟨_, rfl⟩) (nomark _)) pss_never pss_nil))))))
      (pss_one (ps_ret (pv 4)))))))))), ?_⟩
    obtain ⟨a, rfl, ha⟩ := hu
    refine ⟨v, rfl, v, l, rfl, hl, ok, fun H1 e1 => ?_⟩
    refine ⟨v, rfl, .ref a, rfl, v, .ref a, l, st, rfl, hl.mono (TX.ex e1), ok, ⟨a, rfl, e1 _ _ ha⟩, iu, fun H2 e2 => ?_⟩
    have e12 := e1.trans e2
    refine ⟨.int 1000000000, rfl, 1000000000, rfl, true, rfl, ?_⟩
    refine iteF ?_
    refine ⟨.int 1000000000, rfl, 1000000000, 0, rfl, rfl, _, rfl, ?_⟩
    refine iteF ?_
    refine ⟨fun σ H' => ∃ (mv : Addr) (ds : List Addr), σ = [some v, some (.ref a), some (.int 1000000000), some (.ref mv), none, none, none, none, none, none, none, none, none] ∧ Evl.Ex H H' ∧ H' mv = some (.lst (ds.map V.ref)) ∧ ds.length = l.length ∧
      ∀ k d b, ds[k]? = some d → l[k]? = some b → ∃ (Bh : Hp) (ws : List Word), WordsAt l k ws ∧ MvAt Bh H' mv d b.gaps ws, ?_, ?_⟩
    · refine ⟨v, rfl, v, l, rfl, hl.mono (TX.ex e12), ok, fun H3 mv ds e3 nmv hmv dl hds => ?_⟩
      refine ⟨mv, ds, rfl, e12.trans e3, hmv, dl, fun k d b h1 h2 => ?_⟩
      obtain ⟨ws, z1, z2⟩ := hds k d b h1 h2
      exact ⟨_, ws, z1, z2⟩
    rintro _ H3 ⟨mv, ds, rfl, e3, hmv, dl, hds⟩
    have ha3 := e3 _ _ ha
    refine ⟨fun σ H' => ∃ D : Addr, σ = [some v, some (.ref a), some (.int 1000000000), some (.ref mv), some (.ref D), none, none, none, none, none, none, none, none] ∧ Evl.Ex H3 H' ∧ H3 D = none ∧ H' D = some (.dT (kvF [(st, 0)])), ?_, ?_⟩
    · intro D nD
      have e4 := Evl.Ex.new (o := .dT []) nD
      refine ⟨.ref a, rfl, a, _, rfl, .inr ⟨SqT.of (e4 _ _ ha3), ?_⟩⟩
      refine ⟨a, keyW st, rfl, by rw [keyW_kV]; exact e4 _ _ ha3, upd_same, ?_⟩
      refine ⟨D, rfl, ?_, nD, upd_same⟩
      rw [upd_upd]
      exact Evl.Ex.new nD
    rintro _ H4 ⟨D, rfl, e4, nD, hD4⟩
    have e34 := e3.trans e4
    have ha4 := e4 _ _ ha3
    refine ⟨fun σ H' => ∃ (Wl i0 : Addr), σ = [some v, some (.ref a), some (.int 1000000000), some (.ref mv), some (.ref D), some (.ref Wl), none, none, none, none, none, none, none] ∧ Evl.Ex H4 H' ∧ H4 Wl = none ∧ H' Wl = some (.lst ([i0].map V.ref)) ∧ ItO H' i0 (0, st), ?_, ?_⟩
    · refine ⟨.ref a, rfl, a, _, rfl, .inr ⟨SqT.of ha4, ?_⟩⟩
      refine ⟨by show 2 ≤ sizeLine; decide, fun i0 ni => ?_⟩
      have e5 := Evl.Ex.new (o := .tup [.int 0, .ref a]) ni
      have g5 : (upd H4 i0 (.tup [.int 0, .ref a])) i0 = some (.tup [.int 0, .ref a]) := upd_same
      generalize upd H4 i0 (.tup [.int 0, .ref a]) = H5 at e5 g5
      refine ⟨by show 1 ≤ sizeLine; decide, fun Wl nW => ?_⟩
      have e6 := Evl.Ex.new (o := .lst [.ref i0]) nW
      exact ⟨Wl, i0, rfl, e5.trans e6, Evl.fresh_back e5 nW, upd_same, a, e6 _ _ g5, e6 _ _ (e5 _ _ ha4)⟩
    rintro _ H5 ⟨Wl, i0, rfl, e5, nW4, hW5, hi0⟩
    have e45 := e4.trans e5
    have nW : H3 Wl = none := Evl.fresh_back e4 nW4
    have nWD : Wl ≠ D := fun z => by rw [z, hD4] at nW4; cases nW4
    have okF : ∀ {F : List (Word × Int)} {Q : List (Int × Word)} {E : List Word}, Dj.St (outL l) 1000000000 st F Q E → ∀ x ∈ F.map (·.1), InAll x (manysOf l) := fun h x hx => by
      obtain ⟨q, hq, rfl⟩ := List.mem_map.mp hx
      have r := rc_rch.mp (h.rch q hq)
      generalize q.1 = y at r
      induction r with
      | refl => exact iu
      | step _ s ih => exact inAll_stp lk ih s
    refine ⟨fun m σ H' => ∃ (F : List (Word × Int)) (L : List Addr) (key : Addr → Hq.Pw) (E' : List Word) (y6 y7 y8 y9 y10 y11 y12 : Option V), σ = [some v, some (.ref a), some (.int 1000000000), some (.ref mv), some (.ref D), some (.ref Wl), y6, y7, y8, y9, y10, y11, y12] ∧ Evl.Ex H3 H' ∧ H' D = some (.dT (kvF F)) ∧ H' Wl = some (.lst (L.map V.ref)) ∧
        (∀ i ∈ L, ItO H' i (key i)) ∧ Hq.Heap (ltA key) L ∧ Dj.St (outL l) 1000000000 st F (L.map key) E' ∧ L.length ≤ 1 + 480 * E'.length ∧ m = (96 - E'.length) * 481 + L.length,
      ⟨_, [(st, 0)], [i0], fun _ => (0, st), [], none, none, none, none, none, none, none, rfl, e45, e5 _ _ hD4, hW5, (fun i hi => by rw [List.mem_singleton.mp hi]; exact hi0), (fun j x p j0 hx hp => by
        have : j < 1 := (List.getElem?_eq_some_iff.mp hx).1
        omega), Dj.St.start (by decide), by simp, rfl⟩, ?_⟩
    rintro m σ H6 ⟨F, L, key, E', y6, y7, y8, y9, y10, y11, y12, rfl, e6, hD6, hW6, hit, hp, S0, ll, rfl⟩
    have nEx : ∀ {F : List (Word × Int)} {Q : List (Int × Word)} {E : List Word}, Dj.St (outL l) 1000000000 st F Q E → F.length ≤ 96 ∧ E.length ≤ 96 := fun {F Q E} h => by
      refine ⟨?_, ?_⟩
      · have := many96 lk h.nd (okF h)
        rwa [List.length_map] at this
      · refine many96 lk h.nde fun x hx => okF h x ?_
        obtain ⟨w, hw, _⟩ := h.exp x hx
        exact List.mem_map.mpr ⟨_, hw, rfl⟩
    obtain ⟨f96, n96⟩ := nEx S0
    refine ⟨.ref Wl, rfl, _, .inl ⟨_, SqL.of hW6, rfl⟩, ?_⟩
    rcases L with _ | ⟨x, L0⟩
    · refine iteF ?_
      refine ⟨.ref D, rfl, ?_⟩
      refine q H6 D (kvF F) (e3.trans e6) hD6 fun F' nd mem => ?_
      have pm : F'.Perm (F.map (·.1)) := (List.perm_ext_iff_of_nodup nd S0.nd).mpr fun y => by
        rw [mem y]
        constructor
        · intro r
          exact S0.all (M := 96) (C := 1000000) (by decide) (fun x y c h => (out_price ok h).2) f96 (rc_rch.mpr r)
        · intro h
          obtain ⟨q, hq, rfl⟩ := List.mem_map.mp h
          exact rc_rch.mp (S0.rch q hq)
      rw [pm.length_eq, List.length_map]
      unfold kvF
      rw [List.length_map]
    refine ite2 (fun _ => ?_) (fun hc => absurd hc (by simp))
    generalize hL : x :: L0 = L at *
    have h0 : L[0]? = some x := by rw [← hL]; rfl
    have lne : 0 < L.length := (List.getElem?_eq_some_iff.mp h0).1
    obtain ⟨z, hz⟩ : ∃ z, L[L.length - 1]? = some z := ⟨_, List.getElem?_eq_getElem (by omega)⟩
    rcases hkx : key x with ⟨paid, here⟩
    refine ⟨fun σ' H' => ∃ (F : List (Word × Int)) (L1 : List Addr) (key : Addr → Hq.Pw) (E1 : List Word) (y6 y7 y8 y9 y10 y11 y12 : Option V), σ' = [some v, some (.ref a), some (.int 1000000000), some (.ref mv), some (.ref D), some (.ref Wl), y6, y7, y8, y9, y10, y11, y12] ∧ Evl.Ex H3 H' ∧ H' D = some (.dT (kvF F)) ∧ H' Wl = some (.lst (L1.map V.ref)) ∧
        (∀ i ∈ L1, ItO H' i (key i)) ∧ Hq.Heap (ltA key) L1 ∧ Dj.St (outL l) 1000000000 st F (L1.map key) E1 ∧ L1.length ≤ 1 + 480 * E1.length ∧ (96 - E1.length) * 481 + L1.length < (96 - E'.length) * 481 + L.length, ?_, ?_⟩
    · rintro σ' H' ⟨F, L1, key, E1, y6, y7, y8, y9, y10, y11, y12, h1, h2, h3, h4, h5, h6, h7, h8, h9⟩
      exact ⟨_, h9, F, L1, key, E1, y6, y7, y8, y9, y10, y11, y12, h1, h2, h3, h4, h5, h6, h7, h8, rfl⟩
    have pm : (x :: Hq.hrest (ltA key) L z).Perm L := Hq.hrest_perm h0 hz
    have rh : Hq.Heap (ltA key) (Hq.hrest (ltA key) L z) := Hq.hrest_heap (Hq.ord_map Hq.ltK_ord key) hp
    have lst : ∀ i ∈ L, paid ≤ (key i).1 := fun i hi => by
      obtain ⟨j, hj⟩ := List.mem_iff_getElem?.mp hi
      have := Hq.ltK_price (Hq.heap_least (Hq.ord_map Hq.ltK_ord key) hp h0 j j i (Nat.le_refl _) hj)
      rw [hkx] at this
      exact this
    generalize hL' : Hq.hrest (ltA key) L z = L' at pm rh
    have pl : L.length = L'.length + 1 := by rw [← pm.length_eq, List.length_cons]
    have pk : (L.map key).Perm ((paid, here) :: L'.map key) := by
      have := (pm.map key).symm
      rw [List.map_cons, hkx] at this
      exact this
    have sub : ∀ i ∈ L', i ∈ L := fun i hi => pm.mem_iff.mp (List.mem_cons_of_mem _ hi)
    refine ⟨fun σ' H' => ∃ sa : Addr, σ' = [some v, some (.ref a), some (.int 1000000000), some (.ref mv), some (.ref D), some (.ref Wl), some (.int paid), some (.ref sa), y8, y9, y10, y11, y12] ∧ Evl.Ex H3 H' ∧ H' D = some (.dT (kvF F)) ∧ H' Wl = some (.lst (L'.map V.ref)) ∧ (∀ i ∈ L', ItO H' i (key i)) ∧ H' sa = some (.tup (here.map V.int)), ?_, ?_⟩
    · refine ⟨.ref Wl, rfl, Wl, x, z, L, key, rfl, hW6, h0, hz, (fun i hi => (hit i hi).k), ?_⟩
      obtain ⟨sa, hx1, hx2⟩ := hit x (List.mem_of_getElem? h0)
      rw [hkx] at hx1 hx2
      rw [show Hq.hrest (fun i j => Hq.ltK (key i) (key j)) L z = L' from hL']
      have tx := TX.put (K := K) (o := .lst (L'.map V.ref)) hW6
      have nWDx : (upd H6 Wl (.lst (L'.map V.ref))) D = some (.dT (kvF F)) := by rw [upd_ne nWD.symm]; exact hD6
      refine ⟨x, _, rfl, .inl (.inl (tx.2 _ _ hx1)), rfl, _, _, rfl, _, _, rfl, rfl, ?_⟩
      exact ⟨sa, rfl, e6.mut nW, nWDx, upd_same, (fun i hi => (hit i (sub i hi)).mono tx), tx.2 _ _ hx2⟩
    rintro _ H7 ⟨sa, rfl, e7, hD7, hW7, hit7, hsa7⟩
    have inQ : (paid, here) ∈ L.map key := pk.mem_iff.mpr List.mem_cons_self
    obtain ⟨v0, hv0, le0⟩ := S0.que _ _ inQ
    refine ⟨.int paid, rfl, .ref D, rfl, .ref sa, rfl, D, .int v0, rfl, ?_, ?_⟩
    · have g := DGet.t hD7 (k := keyW here) (by rw [keyW_kV]; exact hsa7)
      rw [kvF_val S0.nd hv0] at g
      exact g
    refine ⟨paid, v0, rfl, rfl, _, rfl, ite2 (fun hc => ?_) (fun hc => ?_)⟩
    · have lt : v0 < paid := of_decide_eq_true hc
      exact ⟨F, L', key, E', _, _, _, _, _, _, _, rfl, e7, hD7, hW7, hit7, rh, S0.old pk hv0 lt, by omega, by omega⟩
    have ev : v0 = paid := by
      have : ¬ v0 < paid := fun h => hc (decide_eq_true h)
      omega
    subst ev
    have M0 := S0.go pk hv0 (fun p y hy => by
      obtain ⟨i, hi, ei⟩ := List.mem_map.mp hy
      have := lst i (sub i hi)
      rw [ei] at this
      exact this)
    have ih : InAll here (manysOf l) := okF S0 here (List.mem_map.mpr ⟨_, hv0, rfl⟩)
    have hlen := inAll_len ih
    refine ⟨.ref mv, rfl, .ref sa, rfl, mv, .ref sa, ds, l, here, rfl, e7 _ _ hmv, dl, ok, ⟨sa, rfl, hsa7⟩, hlen, (fun k d b h1 h2 => by
      obtain ⟨Bh, ws, z1, z2⟩ := hds k d b h1 h2
      exact ⟨Bh, ws, z1, z2.ex e7⟩), fun H8 p us e8 np hp8 htr => ?_⟩
    have ul : us.length = (stepsL l here).length := Paired.len htr
    have u480 := steps_480 ok here
    have nDp : D ≠ p := fun z => by rw [← z, hD7] at np; cases np
    have nWp : Wl ≠ p := fun z => by rw [← z, hW7] at np; cases np
    have e38 := e7.trans e8
    have tx8 : TX K H7 H8 := TX.ex e8
    refine ⟨p, rfl, ⟨us, SqL.of hp8⟩, ?_⟩
    refine for_list (K := K) (a := p) (xs := us) (fun i σ' H' => ∃ (F1 : List (Word × Int)) (L1 : List Addr) (key1 : Addr → Hq.Pw) (y8 y9 y10 y11 y12 : Option V), σ' = [some v, some (.ref a), some (.int 1000000000), some (.ref mv), some (.ref D), some (.ref Wl), some (.int v0), some (.ref sa), y8, y9, y10, y11, y12] ∧ Evl.Ex H3 H' ∧ H' D = some (.dT (kvF F1)) ∧ H' Wl = some (.lst (L1.map V.ref)) ∧
        (∀ i ∈ L1, ItO H' i (key1 i)) ∧ Hq.Heap (ltA key1) L1 ∧ Dj.Mid (outL l) 1000000000 st F1 (L1.map key1) E' here v0 ((outL l here).take i) ∧ L1.length ≤ L'.length + i ∧ (∀ b o, b ≠ D → b ≠ Wl → H8 b = some o → H' b = some o))
      ⟨F, L', key, _, _, _, _, _, rfl, e38, e8 _ _ hD7, e8 _ _ hW7, (fun i hi => (hit7 i hi).mono tx8), rh, M0, Nat.le_refl _, fun _ _ _ _ h => h⟩ ?_ ?_ ?_
    · rintro i σ' H' _ ⟨_, _, _, _, _, _, _, _, _, _, _, _, _, _, _, _, k8⟩
      exact SqL.of (k8 _ _ nDp.symm nWp.symm hp8)
    · rintro i xv σ' H9 hi ⟨F1, L1, key1, z8, z9, z10, z11, z12, rfl, e9, hD9, hW9, hit9, hp9, M1, l1, k9⟩
      obtain ⟨t, ht, ⟨at_, rfl, hat⟩⟩ := Paired.get1 htr hi
      have hm : t ∈ stepsL l here := List.mem_of_getElem? ht
      have hpr := step_price ok hm
      have hout : (outL l here)[i]? = some (here.set t.frm.toNat t.to_, t.price) := by
        unfold outL
        rw [List.getElem?_map, ht]
        rfl
      obtain ⟨k, b, g, hb, hg, hug, hw, rfl⟩ := mem_steps.mp hm
      have kl : k < here.length := (List.getElem?_eq_some_iff.mp hug).1
      have hat9 : H9 at_ = some (.tup [.int (k : Nat), .int g.to_, .int g.price]) := k9 _ _ (fun z => by rw [z, e8 _ _ hD7] at hat; cases hat) (fun z => by rw [z, e8 _ _ hW7] at hat; cases hat) hat
      have hsa9 : H9 sa = some (.tup (here.map V.int)) := k9 _ _ (fun z => by rw [z, hD7] at hsa7; cases hsa7) (fun z => by rw [z, hW7] at hsa7; cases hsa7) (e8 _ _ hsa7)
      refine ⟨at_, _, rfl, .inl (.inl hat9), rfl, _, _, rfl, _, _, rfl, _, _, rfl, rfl, ?_⟩
      refine ⟨.int v0, rfl, .int g.price, rfl, v0, g.price, rfl, rfl, ?_⟩
      have h60 : here.length ≤ 60 := by rw [hlen]; exact ok.n1
      rw [show ((k : Int)).toNat = k from Int.toNat_natCast k] at hout
      have tk : (outL l here).take (i + 1) = (outL l here).take i ++ [(here.set k g.to_, g.price)] := take_succ_get hout
      have inout : (here.set k g.to_, g.price) ∈ outL l here := List.mem_of_getElem? hout
      generalize hbe : here.set k g.to_ = be at *
      refine ⟨fun σ' H' => ∃ z, σ' = [some v, some (.ref a), some (.int 1000000000), some (.ref mv), some (.ref D), some (.ref Wl), some (.int v0), some (.ref sa), some (.int (k : Nat)), some (.int g.to_), some (.int g.price), some (.int (v0 + g.price)), some (.ref z)] ∧ Evl.Ex H9 H' ∧ H' z = some (.tup (be.map V.int)), ?_, ?_⟩
      · refine rd_behind (k := k) (to := g.to_) (st := here) rfl rfl rfl hsa9 kl h60 fun H10 z e10 q10 => ?_
        rw [hbe] at q10
        exact ⟨z, rfl, e10, q10⟩
      rintro _ H10 ⟨z, rfl, e10, hz10⟩
      have hD10 := e10 _ _ hD9
      have hW10 := e10 _ _ hW9
      have e310 := e9.trans e10
      have hit10 : ∀ i ∈ L1, ItO H10 i (key1 i) := fun i hi => (hit9 i hi).mono (K := K) (TX.ex e10)
      have k10 : ∀ b o, b ≠ D → b ≠ Wl → H8 b = some o → H10 b = some o := fun b o h1 h2 h3 => e10 _ _ (k9 b o h1 h2 h3)
      have skip : (v0 + g.price ≤ 1000000000 → ∃ w, (be, w) ∈ F1 ∧ w ≤ v0 + g.price) → _ := fun no => (⟨F1, L1, key1, _, _, _, _, _, rfl, e310, hD10, hW10, hit10, hp9, by rw [tk]; exact M1.skip no, by omega, k10⟩ :
        ∃ (F1 : List (Word × Int)) (L1 : List Addr) (key1 : Addr → Hq.Pw) (y8 y9 y10 y11 y12 : Option V), [some v, some (.ref a), some (.int 1000000000), some (.ref mv), some (.ref D), some (.ref Wl), some (.int v0), some (.ref sa), some (.int (k : Nat)), some (.int g.to_), some (.int g.price), some (.int (v0 + g.price)), some (.ref z)] = [some v, some (.ref a), some (.int 1000000000), some (.ref mv), some (.ref D), some (.ref Wl), some (.int v0), some (.ref sa), y8, y9, y10, y11, y12] ∧ Evl.Ex H3 H10 ∧ H10 D = some (.dT (kvF F1)) ∧ H10 Wl = some (.lst (L1.map V.ref)) ∧
          (∀ i ∈ L1, ItO H10 i (key1 i)) ∧ Hq.Heap (ltA key1) L1 ∧ Dj.Mid (outL l) 1000000000 st F1 (L1.map key1) E' here v0 ((outL l here).take (i + 1)) ∧ L1.length ≤ L'.length + (i + 1) ∧ (∀ b o, b ≠ D → b ≠ Wl → H8 b = some o → H10 b = some o))
      refine ⟨.int (v0 + g.price), rfl, .int 1000000000, rfl, v0 + g.price, 1000000000, rfl, rfl, _, rfl, ite2 (fun hc => ?_) (fun hc => skip fun h => absurd (decide_eq_true h) hc)⟩
      have gD := DGet.t hD10 (k := keyW be) (by rw [keyW_kV]; exact hz10)
      have f1s : F1.length ≤ 1000 := by
        have : (F1.map (·.1)).length ≤ 96 := many96 lk M1.nd fun x hx => by
          obtain ⟨q, hq, rfl⟩ := List.mem_map.mp hx
          have r := rc_rch.mp (M1.rch q hq)
          generalize q.1 = y at r
          induction r with
          | refl => exact iu
          | step _ s ih => exact inAll_stp lk ih s
        rw [List.length_map] at this
        omega
      have i480 : i < 480 := by
        have := (List.getElem?_eq_some_iff.mp hi).1
        omega
      have l1s : L1.length ≤ 1000000 := by omega
      have c1 : 1 ≤ g.price := hpr.1
      by_cases hin : be ∈ F1.map (·.1)
      · obtain ⟨⟨be', w0⟩, hq0, e0⟩ := List.mem_map.mp hin
        have e0' : be' = be := e0
        subst e0'
        rw [kvF_val M1.nd hq0] at gD
        refine ⟨.ref z, rfl, .ref D, rfl, D, _, rfl, gD, _, rfl, iteF ?_⟩
        refine ⟨.int (v0 + g.price), rfl, .ref D, rfl, .ref z, rfl, D, .int w0, rfl, gD, v0 + g.price, w0, rfl, rfl, _, rfl, ite2 (fun hc2 => ?_) (fun hc2 => skip fun _ => ⟨w0, hq0, Int.not_lt.mp fun y => hc2 (decide_eq_true y)⟩)⟩
        refine relax rfl rfl rfl rfl hD10 hW10 nWD hz10 f1s l1s hit10 hp9 fun H' L2 key2 o2 hD2 hW2 hit2 hp2 pm2 ll2 => ?_
        refine ⟨_, L2, key2, _, _, _, _, _, rfl, ?_, hD2, hW2, hit2, hp2, by rw [tk]; exact M1.better c1 inout (fun w hw => by rw [← Dj.one_val M1.nd hq0 hw]; exact of_decide_eq_true hc2) pm2, by omega, fun b o n1 n2 h => o2 _ _ n1 n2 (k10 b o n1 n2 h)⟩
        exact fun b o h => o2 b o (fun y => by rw [y, nD] at h; cases h) (fun y => by rw [y, nW] at h; cases h) (e310 _ _ h)
      · rw [kvF_none hin] at gD
        refine ⟨.ref z, rfl, .ref D, rfl, D, _, rfl, gD, _, rfl, iteT ?_⟩
        refine relax rfl rfl rfl rfl hD10 hW10 nWD hz10 f1s l1s hit10 hp9 fun H' L2 key2 o2 hD2 hW2 hit2 hp2 pm2 ll2 => ?_
        refine ⟨_, L2, key2, _, _, _, _, _, rfl, ?_, hD2, hW2, hit2, hp2, by rw [tk]; exact M1.better c1 inout (fun w hw => absurd (List.mem_map.mpr ⟨_, hw, rfl⟩) hin) pm2, by omega, fun b o n1 n2 h => o2 _ _ n1 n2 (k10 b o n1 n2 h)⟩
        exact fun b o h => o2 b o (fun y => by rw [y, nD] at h; cases h) (fun y => by rw [y, nW] at h; cases h) (e310 _ _ h)
    · rintro σ' H9 ⟨F1, L1, key1, z8, z9, z10, z11, z12, rfl, e9, hD9, hW9, hit9, hp9, M1, l1, k9⟩
      have eo : (outL l here).take us.length = outL l here := List.take_of_length_le (by unfold outL; rw [List.length_map, ul]; exact Nat.le_refl _)
      rw [eo] at M1
      have S1 := M1.done
      obtain ⟨g96, m96⟩ := nEx S1
      rw [List.length_append, List.length_singleton] at m96
      refine ⟨.ref D, rfl, D, kvF F1, rfl, hD9, ?_⟩
      refine ⟨((kvF F1).length : Nat), 2000, rfl, rfl, _, rfl, ite2 (fun hc => ?_) (fun _ => ?_)⟩
      · have := of_decide_eq_true hc
        unfold kvF at this
        rw [List.length_map] at this
        omega
      · exact ⟨F1, L1, key1, _, _, _, _, _, _, _, _, rfl, e9, hD9, hW9, hit9, hp9, S1, by rw [List.length_append, List.length_singleton]; omega, by rw [List.length_append, List.length_singleton]; omega⟩
end
end Wb

set_option Elab.async false
set_option linter.all false
set_option maxRecDepth 100000
set_option maxHeartbeats 16000000
set_option pp.maxSteps 900
set_option pp.deepTerms false
namespace Wb
open PySem PySem.Spec PyProof.Rows L2
abbrev sLaw : Stmt := topS 56
abbrev nLaw : List Str := ["_law_script", "_law_pen_here", "_law_turn", "_law_sizes_here", "_law_lock_here", "_law_stands", "_law_again", "_law_wish_here", "_law_told", "_law_bad", "_law_stand"]
theorem scLaw : FnScope nLaw ["_law_script"] (defScope sLaw) := ⟨rfl, rfl, rfl, by decide +kernel, rfl, by decide +kernel, by decide +kernel⟩
structure Ld (K : PySem.W.Frag) (mg : Str → Option Value) where
  f43 : Addr
  d43 : FuncData
  F43 : Fun K "_law_pen" "_law_pen" sPen f43 d43
  b43 : Binds K d43 ["_law_script"] []
  g43 : mg "_law_pen" = some (.ref f43)
  f44 : Addr
  d44 : FuncData
  F44 : Fun K "_law_draw" "_law_draw" sDraw f44 d44
  b44 : Binds K d44 ["_law_pen_here", "_law_many"] []
  g44 : mg "_law_draw" = some (.ref f44)
  f45 : Addr
  d45 : FuncData
  F45 : Fun K "_law_pick" "_law_pick" sPick f45 d45
  b45 : Binds K d45 ["_law_pen_here", "_law_lot"] []
  g45 : mg "_law_pick" = some (.ref f45)
  f46 : Addr
  d46 : FuncData
  F46 : Fun K "_law_gaps" "_law_gaps" sGaps f46 d46
  b46 : Binds K d46 ["_law_pen_here", "_law_many", "_law_words"] []
  g46 : mg "_law_gaps" = some (.ref f46)
  f47 : Addr
  d47 : FuncData
  F47 : Fun K "_law_lock" "_law_lock" sLock f47 d47
  b47 : Binds K d47 ["_law_pen_here", "_law_sizes_here"] []
  g47 : mg "_law_lock" = some (.ref f47)
  f48 : Addr
  d48 : FuncData
  F48 : Fun K "_law_sizes" "_law_sizes" sSizes f48 d48
  b48 : Binds K d48 ["_law_pen_here", "_law_most"] []
  g48 : mg "_law_sizes" = some (.ref f48)
  f49 : Addr
  d49 : FuncData
  F49 : Fun K "_law_wish" "_law_wish" sWish f49 d49
  b49 : Binds K d49 ["_law_pen_here", "_law_sizes_here", "_law_is_open"] []
  g49 : mg "_law_wish" = some (.ref f49)
  f50 : Addr
  d50 : FuncData
  F50 : Fun K "_law_steps" "_law_steps" sSteps f50 d50
  b50 : Binds K d50 ["_law_lock_here", "_law_stand"] []
  g50 : mg "_law_steps" = some (.ref f50)
  f51 : Addr
  d51 : FuncData
  F51 : Fun K "_law_met" "_law_met" sMet f51 d51
  b51 : Binds K d51 ["_law_stand", "_law_wish_here"] []
  g51 : mg "_law_met" = some (.ref f51)
  f52 : Addr
  d52 : FuncData
  F52 : Fun K "_law_all" "_law_all" sAll f52 d52
  b52 : Binds K d52 ["_law_lock_here"] []
  g52 : mg "_law_all" = some (.ref f52)
  f53 : Addr
  d53 : FuncData
  F53 : Fun K "_law_behind" "_law_behind" sBehind f53 d53
  b53 : Binds K d53 ["_law_lock_here", "_law_stand"] []
  g53 : mg "_law_behind" = some (.ref f53)
  f54 : Addr
  d54 : FuncData
  F54 : Fun K "_law_reach" "_law_reach" sReach f54 d54
  b54 : Binds K d54 ["_law_lock_here", "_law_stands"] []
  g54 : mg "_law_reach" = some (.ref f54)
  f55 : Addr
  d55 : FuncData
  F55 : Fun K "_law_word" "_law_word" sWord f55 d55
  b55 : Binds K d55 ["_law_lock_here", "_law_wish_here"] []
  g55 : mg "_law_word" = some (.ref f55)
  mn : mg "min" = none
  sm : mg "sum" = none
theorem lks_of {l : Lock} {ms : List Int} (ok : LockOk l) (e : manysOf l = ms) (so : SizesOk ms) : LkS l := by
  refine ⟨?_, fun b hb => ?_, fun b hb => ?_, by rw [e]; exact Int.le_trans so.prod (by decide)⟩
  · have h := so.few
    rw [← e] at h
    unfold manysOf at h
    rwa [List.length_map] at h
  · obtain ⟨k, hk⟩ := List.mem_iff_getElem?.mp hb
    exact ⟨gaps_16 ok hk, fun g hg => small_ways ok hk hg⟩
  · obtain ⟨k, hk⟩ := List.mem_iff_getElem?.mp hb
    have B := ok.bolts k b hk
    have h2 := B.m0
    refine ⟨⟨by omega, B.m1⟩, fun g hg => ?_⟩
    have G := B.gaps g hg
    exact ⟨G.t0, G.t1⟩
theorem wished_len {w : List (Option Int)} {ms : List Int} (h : w.length ≠ ms.length) : wishedB (.tuple (w.map oD)) ms = false := by
  unfold wishedB
  have e : decide ((itemsD (.tuple (w.map oD))).length = ms.length) = false := decide_eq_false (by
    show (w.map oD).length ≠ ms.length
    rw [List.length_map]
    exact h)
  rw [e, Bool.false_and, Bool.and_false]
theorem wished_none {d : PyData} {ms : List Int} (h : isTup d = false) : wishedB d ms = false := by
  unfold wishedB
  rw [h, Bool.false_and]
theorem wished_head {x : Int} {w : List (Option Int)} {ms : List Int} (hm : ms ≠ []) (hd : ∀ m ∈ ms, m ≤ x) : wishedB (.tuple ((some x :: w).map oD)) ms = false := by
  cases ms with
  | nil => exact absurd rfl hm
  | cons m ms =>
    unfold wishedB
    have z : allP ((itemsD (.tuple ((some x :: w).map oD))).map orZero) (m :: ms) = false := by
      have h1 : placeB (.int x) m = false := by
        show (decide (0 ≤ x) && decide (x < m)) = false
        have := hd m List.mem_cons_self
        rw [decide_eq_false (p := x < m) (by omega), Bool.and_false]
      show (placeB (.int x) m && _) = false
      rw [h1, Bool.false_and]
    rw [z, Bool.and_false, Bool.and_false]
/-- a heap without the pen -/
def offP (p : Addr) (H : Hp) : Hp := fun a => if a = p then none else H a
theorem offP_ex {p : Addr} {H H' : Hp} (x : Exx p H H') : Evl.Ex (offP p H) H' := fun a o h => by
  unfold offP at h
  by_cases e : a = p
  · rw [if_pos e] at h; cases h
  · rw [if_neg e] at h; exact x a o e h
theorem offP_at {p a : Addr} {H : Hp} {o : HO} (h : H a = some o) (n : a ≠ p) : offP p H a = some o := by
  unfold offP
  rw [if_neg n]
  exact h
theorem off_tup {p c : Addr} {T : Int} {H : Hp} {a : Addr} {xs : List V} (hp : PenAt H p c T) (h : H a = some (.tup xs)) : offP p H a = some (.tup xs) := offP_at h fun z => hp.no xs (.inl (z ▸ h))
theorem th_wishes {K : PySem.W.Frag} {H : Hp} (w : List (Option Int)) : ThAll K H (w.map oV) (w.map oD) := by
  rw [← oVw_eq]
  exact th_wish w
theorem wished_true {ds : List PyData} {ms : List Int} (hm : ms ≠ []) : wishedB (.tuple (.bool true :: ds)) ms = false := by
  cases ms with
  | nil => exact absurd rfl hm
  | cons m ms =>
    unfold wishedB
    have z : allP ((itemsD (.tuple (.bool true :: ds))).map orZero) (m :: ms) = false := by
      show (placeB (.bool true) m && _) = false
      have h1 : placeB (.bool true) m = false := rfl
      rw [h1, Bool.false_and]
    rw [z, Bool.and_false, Bool.and_false]
theorem small_log {n : Nat} (h : n ≤ 96) : ((n : Nat) : Int).natAbs.log2 < 1920 := by
  rw [Int.natAbs_natCast]
  have := Nat.log2_le_self n
  omega
noncomputable def metB (w : List (Option Int)) (x : Word) : Bool := @decide (meetsW w x) (Classical.propDecidable _)
theorem metB_iff {w : List (Option Int)} {x : Word} : metB w x = true ↔ meetsW w x := by
  unfold metB
  exact @decide_eq_true_iff _ (Classical.propDecidable _)
theorem stp_from {l : Lock} (ok : LockOk l) {u v : Word} (hv : InAll v (manysOf l)) (s : Stp l u v) : InAll u (manysOf l) := by
  obtain ⟨k, b, g, hb, hg, he, hw, rfl⟩ := s
  have G := (ok.bolts k b hb).gaps g hg
  have len := hv.1
  rw [List.length_set] at len
  refine ⟨len, fun i n m hn hm => ?_⟩
  by_cases e : k = i
  · subst e
    rw [he] at hn
    cases hn
    unfold manysOf at hm
    rw [List.getElem?_map, hb] at hm
    cases hm
    exact ⟨G.f0, G.f1⟩
  · exact hv.2 i n m (by rw [List.getElem?_set_ne e]; exact hn) hm
theorem rch_from {l : Lock} (ok : LockOk l) {u v : Word} (h : Rch l u v) : InAll v (manysOf l) → InAll u (manysOf l) := by
  induction h with
  | refl => exact id
  | step _ s ih => exact fun h => ih (stp_from ok h s)
def spLaw (K : PySem.W.Frag) : Sp := fun vs H Q _ => ∃ (a : Addr) (ns : List Int), vs = [.ref a] ∧ SqL K H a (ns.map V.int) ∧ ∀ H', Q (.bl true) H'
section
variable {P : Program} {w : World} {K : PySem.W.Frag} {mg : Str → Option Value} {base : Heap}
theorem ok_law {f : Addr} {fd : FuncData} (F : Fun K "law" "law" sLaw f fd) (D : Pr K mg) (L : Ld K mg) (WI : WiK K mg) (C : CoK K mg) (SK : SpK K mg) (FL : FlC K mg) (RC : RcC K mg) (NW : XcK K mg "NoWish") {CB : Addr} (gB : mg "BoltError" = some (.ref CB)) (tw1 : PySem.W.exmOne K (.ref NW.C) (.ref NW.C) = some true) : FnG P w K mg base 12 f fd ["_law_script"] (spLaw K) := by
  have B := D.B
  have GC : FnOk P w K mg base (L2.CX P w) 10 C.f2 C.d2 ["lock", "wish"] (spComeTo K NW.C) := ok_comeTo D WI NW FL RC C
  have GSP : FnOk P w K mg base CX0 8 SK.f1 SK.d1 ["lock", "stand", "price"] (spSpread K) := ok_spread D SK
  have GP : FnOk P w K mg base CX0 1 L.f43 L.d43 ["_law_script"] (spPen K) := ok_pen L.F43 B
  have GI : FnOk P w K mg base CX0 2 L.f45 L.d45 ["_law_pen_here", "_law_lot"] (spPick K) := ok_pick L.F45 L.F44 L.b44 L.g44 B
  have GK : FnOk P w K mg base CX0 4 L.f47 L.d47 ["_law_pen_here", "_law_sizes_here"] (spLock K) := ok_lock L.F47 L.F44 L.b44 L.g44 L.F45 L.b45 L.g45 L.F46 L.b46 L.g46 B
  have GZ : FnOk P w K mg base CX0 3 L.f48 L.d48 ["_law_pen_here", "_law_most"] (spSizes K) := ok_sizes L.F48 L.F44 L.b44 L.g44 L.F45 L.b45 L.g45 B L.mn
  have GW : FnOk P w K mg base CX0 2 L.f49 L.d49 ["_law_pen_here", "_law_sizes_here", "_law_is_open"] (spWish K) := ok_wish L.F49 L.F44 L.b44 L.g44 B
  have GM : FnOk P w K mg base CX0 1 L.f51 L.d51 ["_law_stand", "_law_wish_here"] (spMet K) := ok_met L.F51 B
  have GA : FnOk P w K mg base CX0 1 L.f52 L.d52 ["_law_lock_here"] (spAll K) := ok_all L.F52 B L.sm
  have GR : FnOk P w K mg base CX0 3 L.f54 L.d54 ["_law_lock_here", "_law_stands"] (spReach K) := ok_reach L.F54 L.F53 L.b53 L.g53 L.F50 L.b50 L.g50 B
  have GO : FnOk P w K mg base CX0 11 L.f55 L.d55 ["_law_lock_here", "_law_wish_here"] (spWord K) := ok_word D WI NW FL RC C gB tw1 L.F55
  refine fnG_ok F scLaw (fun vs H Q E h => ?_) (fun cdv A' outer s H vs Q E hgd hr h => ?_)
  · obtain ⟨a, ns, rfl, _⟩ := h; rfl
  · obtain ⟨a, ns, rfl, hS, q⟩ := h
    have hr1 : Room 1 _ := hr.mono (by decide)
    have hr2 : Room 2 _ := hr.mono (by decide)
    have hr3 : Room 3 _ := hr.mono (by decide)
    have hr4 : Room 4 _ := hr.mono (by decide)
    have hr8 : Room 8 _ := hr.mono (by decide)
    have hr10 : Room 10 _ := hr.mono (by decide)
    refine ⟨_, (pss_cons (ps_set (i := 1) scLaw.nd rfl (.inl rfl) (pe_call GP hr1 (by rfl) L.g43 L.F43.kp L.b43 .nil pass0 (pa_cons (pv 0) pa_nil)))
 (pss_cons (ps_for PassesOwn.never rfl (pi_range1 (by rfl) B.range (pa_cons pe_int pa_nil)) (pg_name (i := 2) scLaw.nd rfl (.inl rfl))
 (Evl.pss_cut (ps_set (i := 3) scLaw.nd rfl (.inl rfl) (pe_call GZ hr3 (by rfl) L.g48 L.F48.kp L.b48 .nil pass0 (pa_cons (pv 1) (pa_cons pe_int pa_nil))))
 (Evl.pss_cut (ps_par (by rfl) scLaw.nd (i := 4) (j := 5) rfl rfl (by decide) rfl rfl (pa_cons (pe_call GK hr4 (by rfl) L.g47 L.F47.kp L.b47 .nil pass0 (pa_cons (pv 1) (pa_cons (pv 3) pa_nil))) (pa_cons (pe_lst pa_nil) pa_nil)) (by rfl))
 (pss_cons (ps_for PassesOwn.never rfl (pi_range1 (by rfl) B.range (pa_cons pe_int pa_nil)) (pg_name (i := 6) scLaw.nd rfl (.inl rfl))
 (Evl.pss_cut (ps_set (i := 7) scLaw.nd rfl (.inr rfl) (pe_call GW hr2 (by rfl) L.g49 L.F49.kp L.b49 .nil pass0 (pa_cons (pv 1) (pa_cons (pv 3) (pa_cons (pe_cmpR op_lt (pv 6) pe_int (nomark _)) pa_nil)))))
 (Evl.pss_cut (ps_setLc (i := 5) (own := [("_law_stand", 10)]) (wi := iList K (tCall (spAll K) [] E0 (tCons (tVar 4) tNil))) (te := tVar 10) (tt := tB (tCall (spMet K) [] E0 (tCons (tVar 10) (tCons (tVar 7) tNil)))) (g := gName 10) rfl scLaw.nd rfl rfl rfl (pi_list (pe_call GA hr1 (by rfl) L.g52 L.F52.kp L.b52 .nil pass0 (pa_cons (pv 4) pa_nil))) (blkOk_by (own := [("_law_stand", 10)]) (N := nLaw) (sc := defScope sLaw) (by decide +kernel)) (fun _ _ _ _ _ => (pg_name (i := 10) scLaw.nd rfl (.inl rfl))) (fun _ _ _ _ _ => (pts_one (pt_val (pe_call GM hr1 (by rfl) L.g51 L.F51.kp L.b51 .nil pass0 (pa_cons (pv 10) (pa_cons (pv 7) pa_nil)))))) (fun _ _ _ _ _ => (pv 10)))
 (Evl.pss_cut (ps_set (i := 8) scLaw.nd rfl (.inl rfl) (pe_call GC hr10 (by rfl) C.g2 C.F2.kp C.b2 .nil (passes_call (W := fun _ _ _ _ => False) LamX.takes0 (fun _ _ _ _ z => z)) (pa_cons (pv 4) (pa_cons (pv 7) pa_nil))))
 (pss_one (ps_if (PW.pt (pw_or (pt_cmpR op_ne (pe_callB SkE.call_repr_int (by rfl) B.repr boot_repr (pa_cons (pv 8) pa_nil)) (pe_callB SkE.call_repr_int (by rfl) B.repr boot_repr (pa_cons (pe_callB call_len_dT (by rfl) B.len PySem.boot_len (pa_cons (pe_call GR hr3 (by rfl) L.g54 L.F54.kp L.b54 .nil pass0 (pa_cons (pv 4) (pa_cons (pv 5) pa_nil))) pa_nil)) pa_nil)) (nomark _)) (pw_or1 (pt_cmpR op_lt (pv 8) (pe_callB call_len_seq (by rfl) B.len PySem.boot_len (pa_cons (pv 5) pa_nil)) (nomark _)))))
 (pss_one (ps_ret pe_bl))
 pss_nil))))))
 (pss_cons (ps_if (pt_cmpR op_ne (pe_call GC hr10 (by rfl) C.g2 C.F2.kp C.b2 .nil (passes_call (W := fun _ _ _ _ => False) LamX.takes0 (fun _ _ _ _ z => z)) (pa_cons (pv 4) (pa_cons (pv 7) pa_nil))) (pe_callB call_len_dT (by rfl) B.len PySem.boot_len (pa_cons (pe_call GSP hr8 (by rfl) SK.g1 SK.F1.kp SK.b1 .nil pass0 (pa_cons (pv 4) (pa_cons (pv 7) (pa_cons (pe_op op_pow pe_int pe_int) pa_nil)))) pa_nil)) (nomark _))
 (pss_one (ps_ret pe_bl))
 pss_nil)
 (Evl.pss_cut (ps_set (i := 9) scLaw.nd rfl (.inl rfl) (pe_call GI hr2 (by rfl) L.g45 L.F45.kp L.b45 .nil pass0 (pa_cons (pv 1) (pa_cons (pe_lst (pa_cons (pe_slice (r := rSlA K) sl_tupA (pv 7) po_none (po_some (pe_un un_neg pe_int))) (pa_cons (pe_op (r := rCatA K) op_catA (pv 7) (pe_tup (pa_cons pe_int pa_nil))) (pa_cons (pe_op (r := rCatA K) op_catA (pe_tup (pa_cons pe_int pa_nil)) (pe_slice (r := rSlA K) sl_tupA (pv 7) (po_some pe_int) po_none)) (pa_cons (pe_op (r := rCatA K) op_catA (pe_tup (pa_cons pe_bl pa_nil)) (pe_slice (r := rSlA K) sl_tupA (pv 7) (po_some pe_int) po_none)) (pa_cons (pe_callTy call_list_of (by rfl) B.list PyProof.Rows.boot_list (pa_cons (pv 7) pa_nil)) (pa_cons pe_non (pa_cons pe_int pa_nil)))))))) pa_nil))))
 (pss_one (ps_if (pt_cmpR op_ne (pe_call GO hr (by rfl) L.g55 L.F55.kp L.b55 .nil pass0 (pa_cons (pv 4) (pa_cons (pv 9) pa_nil))) pe_str (nomark _))
 (pss_one (ps_ret pe_bl))
 pss_nil))))))))
 (pss_one (ps_ret pe_bl)))), ?_⟩
    refine ⟨.ref a, rfl, a, ns, rfl, hS, fun H1 p e1 np hpc => ?_⟩
    obtain ⟨c, hp1⟩ := hpc
    refine ⟨6, rfl, by decide, by decide, ?_⟩
    refine for_range (lo := 0) (n := 6) (fun t σ H' => ∃ y2 y3 y4 y5 y6 y7 y8 y9 y10 : Option V, σ = [some (.ref a), some (.ref p), y2, y3, y4, y5, y6, y7, y8, y9, y10] ∧ PenAt H' p c (10000 * (t : Nat)))
      ⟨none, none, none, none, none, none, none, none, none, rfl, by simpa using hp1⟩ ?_ ?_
    · rintro t σ H2 ht ⟨y2, y3, y4, y5, y6, y7, y8, y9, y10, rfl, hp2⟩
      refine ⟨fun σ' H' => ∃ (S : Addr) (ms : List Int), σ' = [some (.ref a), some (.ref p), some (.int (0 + (t : Nat))), some (.ref S), y4, y5, y6, y7, y8, y9, y10] ∧ PenAt H' p c (10000 * (t : Nat) + 20) ∧ S ≠ p ∧ H' S = some (.lst (ms.map V.int)) ∧ SizesOk ms, ?_, ?_⟩
      · refine ⟨.ref p, rfl, p, c, _, rfl, hp2, by omega, fun H3 z ms x3 hp3 nz hz so => ?_⟩
        exact ⟨z, ms, rfl, hp3, hp2.new1 nz, hz, so⟩
      rintro _ H3 ⟨S, ms, rfl, hp3, nSp, hS3, so⟩
      refine ⟨fun σ' H' => ∃ (v : V) (l : Lock) (y5 : Option V), σ' = [some (.ref a), some (.ref p), some (.int (0 + (t : Nat))), some (.ref S), some v, y5, y6, y7, y8, y9, y10] ∧ PenAt H' p c (10000 * (t : Nat) + 4020) ∧ H' S = some (.lst (ms.map V.int)) ∧ LockT K H' v l ∧ LockOk l ∧ manysOf l = ms, ?_, ?_⟩
      · refine ⟨.ref p, rfl, .ref S, rfl, p, c, S, _, ms, rfl, hp3, by omega, nSp, hS3, so, fun H4 v l x4 hp4 hl ok em => ?_⟩
        refine ⟨Nat.zero_le _, fun b nb => ?_⟩
        have e5 := Evl.Ex.new (o := .lst []) nb
        exact ⟨v, .ref b, rfl, v, l, some (.ref b), rfl, (hp4.ex e5).mono (by omega), e5 _ _ (x4 _ _ nSp hS3), hl.mono (TX.ex e5), ok, em⟩
      rintro _ H4 ⟨v, l, y5, rfl, hp4, hS4, hl4, ok, em⟩
      subst em
      have lk := lks_of ok rfl so
      have l6 := lk.few
      have l1 := ok.n0
      have mne : manysOf l ≠ [] := so.ne
      have ml : (manysOf l).length = l.length := by unfold manysOf; rw [List.length_map]
      refine ⟨3, rfl, by decide, by decide, ?_⟩
      refine for_range (lo := 0) (n := 3) (fun i σ H' => ∃ y5 y6 y7 y8 y9 y10 : Option V, σ = [some (.ref a), some (.ref p), some (.int (0 + (t : Nat))), some (.ref S), some v, y5, y6, y7, y8, y9, y10] ∧ Exx p H4 H' ∧ PenAt H' p c (10000 * (t : Nat) + 4020 + 100 * (i : Nat)) ∧ (3 ≤ i → ∃ (wa : Addr) (st : Word), y7 = some (.ref wa) ∧ H' wa = some (.tup (st.map V.int)) ∧ InAll st (manysOf l)))
        ⟨y5, y6, y7, y8, y9, y10, rfl, Exx.refl p H4, by simpa using hp4, fun h => absurd h (by decide)⟩ ?_ ?_
      · rintro i σ H5 hi ⟨y5, y6, y7, y8, y9, y10, rfl, x5, hp5, _⟩
        have hS5 := x5 _ _ nSp hS4
        refine ⟨fun σ' H' => ∃ (wa : Addr) (ww : List (Option Int)), σ' = [some (.ref a), some (.ref p), some (.int (0 + (t : Nat))), some (.ref S), some v, y5, some (.int (0 + (i : Nat))), some (.ref wa), y8, y9, y10] ∧ Exx p H4 H' ∧ PenAt H' p c (10000 * (t : Nat) + 4020 + 100 * (i : Nat) + 40) ∧ H' wa = some (.tup (ww.map oV)) ∧ WishIn ww (manysOf l) ∧ (3 ≤ i + 1 → ∃ st : Word, ww = st.map some ∧ InAll st (manysOf l)), ?_, ?_⟩
        · refine ⟨.ref p, rfl, .ref S, rfl, .int (0 + (i : Nat)), rfl, 0 + (i : Nat), 2, rfl, rfl, p, c, S, _, _, _, rfl, hp5, by omega, nSp, hS5, so.each, so.few, fun H7 wa ww x7 hp7 hwa in2 no2 => ?_⟩
          exact ⟨wa, ww, rfl, x5.trans x7, hp7.mono (by omega), hwa, in2, fun h => wish_word in2 (no2 (decide_eq_false (by omega)))⟩
        rintro _ H6 ⟨wa, ww, rfl, x6, hp6, hwa, wi, closed⟩
        have hl6 : LockT K H6 v l := hl4.mono (hp4.tx (K := K) x6)
        have wl : ww.length = l.length := wi.1.trans ml
        refine ⟨fun σ' H' => ∃ (r : Addr) (svs : List V), σ' = [some (.ref a), some (.ref p), some (.int (0 + (t : Nat))), some (.ref S), some v, some (.ref r), some (.int (0 + (i : Nat))), some (.ref wa), y8, y9, y10] ∧ Evl.Ex H6 H' ∧ H' r = some (.lst svs) ∧ Paired (Wd K H') svs ((standsOf (manysOf l)).filter (metB ww)) ∧ (standsOf (manysOf l)).length ≤ 96, ?_, ?_⟩
        · refine ⟨v, rfl, v, l, rfl, hl6.at_, lk, fun H7 ra wvs ws e7 nra hra hwv eqs w96 => ?_⟩
          subst eqs
          have wvl : wvs.length = (standsOf (manysOf l)).length := Paired.len hwv
          refine ⟨ra, rfl, ⟨wvs, SqL.of hra⟩, fun R nR => ?_⟩
          refine lc_it (walk_list (K := K) (a := ra) (xs := wvs)) (fun j H' => ∃ vs : List V, Evl.Ex H7 H' ∧ H' R = some (.lst vs) ∧ Paired (Wd K H') vs (((standsOf (manysOf l)).take j).filter (metB ww)) ∧ vs.length ≤ j)
            ⟨[], Evl.Ex.new nR, upd_same, by simp; exact .nil, Nat.le_refl _⟩ ?_ ?_ ?_
          · rintro j H' _ ⟨_, e8, _⟩
            exact SqL.of (e8 _ _ hra)
          · rintro j x H8' H8 hj ⟨vs, e8, hR8, hv8, vl⟩ ⟨rfl, hx⟩
            obtain ⟨st, hst, ⟨xa, rfl, hxa⟩⟩ := Paired.get1 hwv hx
            have iu : InAll st (manysOf l) := (stands_mem _ st).mp (List.mem_of_getElem? hst)
            have sl := inAll_len iu
            have hxa8 := e8 _ _ hxa
            refine ⟨rfl, .ref xa, rfl, .ref wa, rfl, .ref xa, wa, st, ww, rfl, ⟨xa, rfl, hxa8⟩, (e7.trans e8) _ _ hwa, by omega, by omega, fun H9 b9 e9 hb9 => ?_⟩
            refine ⟨b9, rfl, ?_⟩
            have hR9 := e9 _ _ hR8
            have hv9 : Paired (Wd K H9) vs (((standsOf (manysOf l)).take j).filter (metB ww)) := Paired.imp (fun _ _ => Wd.mono (TX.ex e9)) hv8
            have tk : ((standsOf (manysOf l)).take (j + 1)).filter (metB ww) = ((standsOf (manysOf l)).take j).filter (metB ww) ++ (if metB ww st = true then [st] else []) := by
              rw [take_succ_get hst, List.filter_append]
              congr 1
              by_cases hh : metB ww st = true
              · rw [if_pos hh, List.filter_cons, if_pos hh]; rfl
              · rw [if_neg hh, List.filter_cons, if_neg hh]; rfl
            cases b9 with
            | true =>
              refine iteT ?_
              have hm : metB ww st = true := metB_iff.mpr (hb9.mp rfl)
              refine ⟨.ref xa, rfl, vs, hR9, Nat.lt_of_le_of_lt (by omega : vs.length ≤ 96) (by decide), vs ++ [.ref xa], (e8.trans e9).mut nR, upd_same, ?_, by rw [List.length_append, List.length_singleton]; omega⟩
              rw [tk, if_pos hm]
              exact Paired.imp (fun _ _ => Wd.mono (TX.put hR9)) (paired_app1 hv9 ⟨xa, rfl, e9 _ _ hxa8⟩)
            | false =>
              refine iteF ?_
              have hm : ¬ metB ww st = true := fun z => Bool.false_ne_true (hb9.mpr (metB_iff.mp z))
              refine ⟨vs, e8.trans e9, hR9, ?_, by omega⟩
              rw [tk, if_neg hm, List.append_nil]
              exact hv9
          · rintro H8 ⟨vs, e8, hR8, hv8, _⟩
            rw [wvl, List.take_length] at hv8
            exact ⟨R, vs, rfl, e7.trans e8, hR8, hv8, w96⟩
        rintro _ H7 ⟨r, svs, rfl, e7, hr7, hsv, n96⟩
        have hl7 : LockT K H7 v l := hl6.mono (TX.ex e7)
        have s96 : ((standsOf (manysOf l)).filter (metB ww)).length ≤ 96 := Nat.le_trans (List.length_filter_le _ _) n96
        have svl : svs.length = ((standsOf (manysOf l)).filter (metB ww)).length := Paired.len hsv
        refine ⟨fun σ' H' => ∃ n : Nat, σ' = [some (.ref a), some (.ref p), some (.int (0 + (t : Nat))), some (.ref S), some v, some (.ref r), some (.int (0 + (i : Nat))), some (.ref wa), some (.int (n : Nat)), y9, y10] ∧ Evl.Ex H7 H' ∧ (∀ F : List Word, F.Nodup → (∀ x, x ∈ F ↔ InAll x (manysOf l) ∧ ∃ s, Rch l s x ∧ meetsW ww s) → F.length = n), ?_, ?_⟩
        · refine ⟨v, rfl, .ref wa, rfl, v, .ref wa, l, rfl, hl7.at_, ok, lk, .inl ⟨wa, ww, rfl, .inl (e7 _ _ hwa), wi, fun H8 n e8 hn => ?_⟩⟩
          exact ⟨n, rfl, e8, hn⟩
        rintro _ H8 ⟨n, rfl, e8, hn⟩
        have hsv8 : Paired (Wd K H8) svs ((standsOf (manysOf l)).filter (metB ww)) := Paired.imp (fun _ _ => Wd.mono (TX.ex e8)) hsv
        have inS : ∀ s, s ∈ (standsOf (manysOf l)).filter (metB ww) ↔ InAll s (manysOf l) ∧ meetsW ww s := fun s => by
          rw [List.mem_filter, stands_mem, metB_iff]
        have hn96 : n ≤ 96 := by
          have z := hn ((standsOf (manysOf l)).filter fun x => @decide (∃ s, Rch l s x ∧ meetsW ww s) (Classical.propDecidable _)) ((stands_nodup _).filter _) fun x => by
            rw [List.mem_filter, stands_mem]
            exact and_congr_right fun _ => @decide_eq_true_iff _ (Classical.propDecidable _)
          rw [← z]
          exact Nat.le_trans (List.length_filter_le _ _) n96
        have hr8 := e8 _ _ hr7
        refine ⟨.int (n : Nat), rfl, _, rfl, small_log hn96, ?_⟩
        refine ⟨v, rfl, .ref r, rfl, v, r, l, svs, _, rfl, (hl7.mono (TX.ex e8)).at_, lk, SqL.of hr8, hsv8, (fun s hs => ((inS s).mp hs).1), s96, fun H9 d F e9 nd hd ndF f96 inF hF => ?_⟩
        have hFn : F.length = n := hn F ndF fun x => by
          rw [hF]
          constructor
          · rintro ⟨s, hs, r0⟩
            obtain ⟨i1, m1⟩ := (inS s).mp hs
            exact ⟨rch_in ok i1 r0, s, r0, m1⟩
          · rintro ⟨ix, s, r0, m1⟩
            exact ⟨s, (inS s).mpr ⟨rch_from ok r0 ix, m1⟩, r0⟩
        have kl : (kvT F).length = n := by unfold kvT; rw [List.length_map]; exact hFn
        refine ⟨d, kvT F, rfl, hd, ?_⟩
        rw [kl]
        refine ⟨_, rfl, small_log hn96, ?_⟩
        refine ⟨rfl, _, rfl, ?_⟩
        refine ite2 (fun hc => absurd hc (by simp)) (fun _ => ?_)
        have hr9 := e9 _ _ hr8
        refine ⟨.int (n : Nat), rfl, .ref r, rfl, r, _, rfl, .inl (SqL.of hr9), ?_⟩
        have le : svs.length ≤ n := by
          rw [svl, ← hFn]
          have sub : ∀ s ∈ (standsOf (manysOf l)).filter (metB ww), s ∈ F := fun s hs => (hF s).mpr ⟨s, hs, .refl s⟩
          exact nodup_le ((stands_nodup _).filter _) sub
        refine ⟨(n : Nat), (svs.length : Nat), rfl, rfl, _, rfl, ?_⟩
        refine ite2 (fun hc => absurd (of_decide_eq_true hc) (by omega)) (fun _ => ?_)
        have e79 := e7.trans (e8.trans e9)
        refine ⟨_, _, _, _, _, _, rfl, x6.trans (Exx.ex e79), (hp6.ex e79).mono (by omega), fun h => ?_⟩
        obtain ⟨st, rfl, iu⟩ := closed h
        refine ⟨wa, st, rfl, ?_, iu⟩
        have z := e79 _ _ hwa
        rw [List.map_map] at z
        exact z
      · rintro σ H5 ⟨y5, y6, y7, y8, y9, y10, rfl, x5, hp5, h6⟩
        obtain ⟨wa, st, rfl, hwa, iu⟩ := h6 (by decide)
        have hl5 : LockT K H5 v l := hl4.mono (hp4.tx (K := K) x5)
        have sl := inAll_len iu
        have ew : (st.map some).map oV = st.map V.int := by rw [List.map_map]; rfl
        have wi : WishIn (st.map some) (manysOf l) := by
          refine ⟨by rw [List.length_map]; exact iu.1, fun k x m hx hm => ?_⟩
          rw [List.getElem?_map] at hx
          cases hs : st[k]? with
          | none => rw [hs] at hx; cases hx
          | some y =>
            rw [hs] at hx
            cases hx
            exact iu.2 k x m hs hm
        have hwa' : H5 wa = some (.tup ((st.map some).map oV)) := by rw [ew]; exact hwa
        refine ⟨v, rfl, .ref wa, rfl, v, .ref wa, l, rfl, hl5.at_, ok, lk, .inl ⟨wa, _, rfl, .inl hwa', wi, fun H6 n e6 hn => ?_⟩⟩
        refine ⟨v, rfl, .ref wa, rfl, 10, 9, rfl, rfl, ⟨by decide, by decide, by decide⟩, ?_⟩
        refine ⟨v, .ref wa, l, st, rfl, (hl5.mono (TX.ex e6)).at_, ok, lk, ⟨wa, rfl, e6 _ _ hwa⟩, iu, fun H7 d kvs e7 hd hk => ?_⟩
        refine ⟨d, kvs, rfl, hd, ?_⟩
        have hnk : kvs.length = n := by
          have F0 : ((standsOf (manysOf l)).filter fun x => @decide (Rch l st x) (Classical.propDecidable _)).Nodup := (stands_nodup _).filter _
          have m0 : ∀ x, x ∈ ((standsOf (manysOf l)).filter fun x => @decide (Rch l st x) (Classical.propDecidable _)) ↔ Rch l st x := fun x => by
            rw [List.mem_filter, stands_mem]
            exact ⟨fun h => (@decide_eq_true_iff _ (Classical.propDecidable _)).mp h.2, fun h => ⟨rch_in ok iu h, (@decide_eq_true_iff _ (Classical.propDecidable _)).mpr h⟩⟩
          rw [← hk _ F0 m0]
          refine hn _ F0 fun x => ?_
          rw [m0]
          constructor
          · intro r
            refine ⟨rch_in ok iu r, st, r, ?_⟩
            refine ⟨(List.length_map (f := some) (as := st)).symm, fun k o q ho hq => ?_⟩
            rw [List.getElem?_map, hq] at ho
            exact .inr (Option.some.inj ho).symm
          · rintro ⟨_, s, r, m⟩
            have es : s = st := by
              apply List.ext_getElem?
              intro k
              have lk' : st.length = s.length := by have := m.1; rw [List.length_map] at this; exact this.symm
              by_cases h : k < s.length
              · have h1 : s[k]? = some s[k] := List.getElem?_eq_getElem h
                have h2 : st[k]? = some st[k] := List.getElem?_eq_getElem (by omega)
                have := m.2 k (some st[k]) s[k] (by rw [List.getElem?_map, h2]; rfl) h1
                rcases this with z | z
                · cases z
                · rw [h1, h2]; exact z.symm
              · rw [List.getElem?_eq_none (by omega), List.getElem?_eq_none (by omega)]
            rwa [es] at r
        rw [hnk]
        refine ⟨rfl, _, rfl, ?_⟩
        refine ite2 (fun hc => absurd hc (by simp)) (fun _ => ?_)
        have e57 := e6.trans e7
        have hwa7 := e57 _ _ hwa'
        have hp7 := hp5.ex e57
        have wl7 : (st.map some).length = (manysOf l).length := wi.1
        generalize hww : st.map some = ww at hwa7 wi wl7
        refine ⟨fun σ' H' => ∃ (y : V) (e : PyData), σ' = [some (.ref a), some (.ref p), some (.int (0 + (t : Nat))), some (.ref S), some v, y5, y6, some (.ref wa), y8, some y, y10] ∧ Exx p H7 H' ∧ PenAt H' p c (10000 * (t : Nat) + 4321) ∧ Th K H' y e ∧ wishedB e (manysOf l) = false, ?_, ?_⟩
        · refine ⟨.ref p, rfl, .ref wa, rfl, ?_⟩
          refine nopart1 ?_
          refine ⟨1, rfl, -1, rfl, ?_⟩
          refine sl_own (K := K) (lo := none) (hi := some (-1)) hwa7 fun H8 s1 f8 q8 => ?_
          rw [cut_last1, ← List.map_dropLast] at q8
          refine ⟨.ref wa, rfl, (by show 1 ≤ sizeLine; decide), fun y ny => ?_⟩
          have f9 := Evl.Ex.new (o := .tup [.int 0]) ny
          have g9 : (upd H8 y (.tup [.int 0])) y = some (.tup [.int 0]) := upd_same
          generalize upd H8 y (.tup [.int 0]) = H9 at f9 g9
          refine cat_own (K := K) ((f8.trans f9) _ _ hwa7) g9 (Nat.le_trans (by rw [List.length_map, List.length_singleton]; omega : (ww.map oV).length + [V.int 0].length ≤ 101) (by decide)) fun H10 s2 f10 q10 => ?_
          refine ⟨(by show 1 ≤ sizeLine; decide), fun y2 ny2 => ?_⟩
          have f11 := Evl.Ex.new (o := .tup [.int 4]) ny2
          have g11 : (upd H10 y2 (.tup [.int 4])) y2 = some (.tup [.int 4]) := upd_same
          generalize upd H10 y2 (.tup [.int 4]) = H11 at f11 g11
          have f711 := ((f8.trans f9).trans f10).trans f11
          refine ⟨.ref wa, rfl, 1, rfl, ?_⟩
          refine nopart1 ?_
          refine sl_own (K := K) (lo := some 1) (hi := none) (f711 _ _ hwa7) fun H12 s4 f12 q12 => ?_
          rw [show (some (1 : Int)) = some (((1 : Nat)) : Int) from rfl, cut_drop _ (by rw [List.length_map]; omega), ← List.map_drop] at q12
          refine cat_own (K := K) (f12 _ _ g11) q12 (Nat.le_trans (by rw [List.length_map, List.length_drop, List.length_singleton]; omega : [V.int 4].length + ((ww.drop 1).map oV).length ≤ 101) (by decide)) fun H13 s5 f13 q13 => ?_
          have f713 := (f711.trans f12).trans f13
          refine ⟨(by show 1 ≤ sizeLine; decide), fun y3 ny3 => ?_⟩
          have f14 := Evl.Ex.new (o := .tup [.bl true]) ny3
          have g14 : (upd H13 y3 (.tup [.bl true])) y3 = some (.tup [.bl true]) := upd_same
          generalize upd H13 y3 (.tup [.bl true]) = H14 at f14 g14
          have f714 := f713.trans f14
          refine ⟨.ref wa, rfl, 1, rfl, ?_⟩
          refine nopart1 ?_
          refine sl_own (K := K) (lo := some 1) (hi := none) (f714 _ _ hwa7) fun H15 s6 f15 q15 => ?_
          rw [show (some (1 : Int)) = some (((1 : Nat)) : Int) from rfl, cut_drop _ (by rw [List.length_map]; omega), ← List.map_drop] at q15
          refine cat_own (K := K) (f15 _ _ g14) q15 (Nat.le_trans (by rw [List.length_map, List.length_drop, List.length_singleton]; omega : [V.bl true].length + ((ww.drop 1).map oV).length ≤ 101) (by decide)) fun H16 s7 f16 q16 => ?_
          have f716 := (f714.trans f15).trans f16
          refine ⟨.ref wa, rfl, wa, _, rfl, .inr (.inl (.inl (f716 _ _ hwa7))), fun s3 ns3 => ?_⟩
          have f17 := Evl.Ex.new (o := .lst (ww.map oV)) ns3
          have g17 : (upd H16 s3 (.lst (ww.map oV))) s3 = some (.lst (ww.map oV)) := upd_same
          have ns3p : s3 ≠ p := (hp7.ex f716).new1 ns3
          generalize upd H16 s3 (.lst (ww.map oV)) = H17 at f17 g17
          refine ⟨(by show 7 ≤ sizeLine; decide), fun b nb => ?_⟩
          have f717 := f716.trans f17
          have nbp := (hp7.ex f717).new1 nb
          have f18 := Evl.Ex.new (o := .lst [.ref s1, .ref s2, .ref s5, .ref s7, .ref s3, .non, .int 7]) nb
          have gb : (upd H17 b (.lst [.ref s1, .ref s2, .ref s5, .ref s7, .ref s3, .non, .int 7])) b = some (.lst [.ref s1, .ref s2, .ref s5, .ref s7, .ref s3, .non, .int 7]) := upd_same
          generalize upd H17 b (.lst [.ref s1, .ref s2, .ref s5, .ref s7, .ref s3, .non, .int 7]) = H18 at f18 gb
          have f718 := f717.trans f18
          refine ⟨p, c, b, _, _, rfl, hp7.ex f718, by omega, SqL.of gb, nbp, (by simp), (by show 7 ≤ 1000000; decide), fun x' H19 hx' x19 hp19 => ?_⟩
          have tx := (hp7.ex f718).tx (K := K) x19
          have f1618 := f17.trans f18
          have f1318 := (f14.trans (f15.trans f16)).trans f1618
          have hW : ∀ {s : Addr} {u : List (Option Int)}, H18 s = some (.tup (u.map oV)) → Th K H19 (.ref s) (.tuple (u.map oD)) := fun h => .tup (.inl (tx.2 _ _ h)) (th_wishes _)
          simp only [List.mem_cons, List.not_mem_nil, or_false] at hx'
          have X : Exx p H7 H19 := (Exx.ex f718).trans x19
          have hpz : PenAt H19 p c (10000 * (t : Nat) + 4321) := hp19.mono (by omega)
          rcases hx' with rfl | rfl | rfl | rfl | rfl | rfl | rfl
          · exact ⟨_, _, rfl, X, hpz, hW (u := ww.dropLast) ((f9.trans (f10.trans (f11.trans (f12.trans (f13.trans f1318))))) _ _ q8), wished_len (by rw [List.length_dropLast]; omega)⟩
          · refine ⟨_, _, rfl, X, hpz, hW (u := ww ++ [some 0]) ?_, wished_len (by rw [List.length_append, List.length_singleton]; omega)⟩
            rw [List.map_append]
            exact (f11.trans (f12.trans (f13.trans f1318))) _ _ q10
          · refine ⟨_, _, rfl, X, hpz, hW (u := some 4 :: ww.drop 1) (f1318 _ _ q13), wished_head mne fun m hm => (so.each m hm).2⟩
          · refine ⟨_, .tuple (.bool true :: (ww.drop 1).map oD), rfl, X, hpz, .tup (.inl (tx.2 _ _ (f1618 _ _ q16))) (.cons (.bl true) (th_wishes _)), wished_true mne⟩
          · refine ⟨_, .list (ww.map oD), rfl, X, hpz, .lst (x19 _ _ ns3p (f18 _ _ g17)) (th_wishes _), wished_none rfl⟩
          · exact ⟨_, .none, rfl, X, hpz, .non, wished_none rfl⟩
          · exact ⟨_, .int 7, rfl, X, hpz, .int 7, wished_none rfl⟩
        rintro _ H8 ⟨y, e, rfl, x8, hp8, hy, hodd⟩
        have hl8 : LockT K H8 v l := (hl5.mono (TX.ex e57)).mono (hp7.tx (K := K) x8)
        refine ⟨v, rfl, y, rfl, v, y, l, e, rfl, hl8.at_, ok, lk, hy, hodd, fun H9 e9 => ?_⟩
        refine ⟨rfl, _, rfl, ?_⟩
        refine ite2 (fun hc => absurd hc (by decide)) (fun _ => ?_)
        exact ⟨_, _, _, _, _, _, _, _, _, rfl, (hp8.ex e9).mono (by omega)⟩
    · rintro σ H2 ⟨y2, y3, y4, y5, y6, y7, y8, y9, y10, rfl, hp2⟩
      exact q H2
end
end Wb

set_option Elab.async false
set_option linter.all false
set_option maxRecDepth 100000
set_option maxHeartbeats 4000000
set_option pp.maxSteps 600
set_option pp.deepTerms false
namespace Wb
open PySem PySem.Spec PyProof.Rows L2
section
variable {P : Program} {w : World} {K : PySem.W.Frag} {mg mb : Str → Option Value} {k : Nat} {fa a : Addr} {fd : FuncData} {x : Str} {sp : Sp} {t : Shared} {vs : List Value} {ns : List Int}
/-- from a heap that tracks at most the script -/
theorem top_core (kin : K.In t.heap) (mns : t.heap.Ns mainGlobals mg) (bns : t.heap.Ns builtinsNs mb)
    (bok : ∀ y : Str, y ≠ "__name__" → mb y = bootBuiltins y) (nol : t.heap.NoLimit) (gen0 : t.gens = #[])
    (oa : t.heap.get? a = some { cls := .type "list", data := .seq vs.toArray }) (rv : Vals (ns.map V.int) vs) (room : Room k callerA) (gu : callerA.guards = some [])
    (prom : ∀ bs : Heap, K.In bs → bs.Ns mainGlobals mg → FnG P w K mg bs k fa fd [x] sp) (bnd : ∀ (t' : Shared) (u : Value), BindsTo t' fd ⟨[u], []⟩ [(x, u)])
    (I : Hp) (only : Only I) (due : sp [.ref a] I (fun v _ => v = .bl true) fun _ _ _ => False) (iok : HOk P w I t.heap) (at_a : ∀ b, I b ≠ none → b = a) (free_a : I a ≠ none → K.lookup a = none) :
    codeAny (model P w) callerA (.call (.ref fa) ⟨[.ref a], []⟩) (fun r t' => r = .ok (.ret (.bool true)) ∧ OldK t.heap t'.heap ∧ t'.os = t.os ∧ AllBare t'.gens) t := by
  have keep : ∀ {b : Addr} {o : Obj}, I b = none → t.heap.get? b = some o → (hidT t.heap I).get? b = some o := fun n e => hidT_get e n
  have isA : ∀ {b : Addr}, I b ≠ none → t.heap.get? b = some { cls := .type "list", data := .seq vs.toArray } := fun {b} n => by
    rw [at_a b n]
    exact oa
  have nsI : ∀ {b : Addr} {m : Str → Option Value}, t.heap.Ns b m → (hidT t.heap I).Ns b m := by
    intro b m h
    obtain ⟨o, es, ep, e1, e2, e3⟩ := h
    refine ⟨o, es, ep, keep ?_ e1, e2, e3⟩
    refine Classical.byContradiction fun n => ?_
    have z := isA n
    rw [e1] at z
    cases z
    have z2 : Data.seq vs.toArray _ = Data.dict es ep := e2
    cases z2
  have kinI : K.In (hidT t.heap I) := by
    intro b o e
    refine keep (Classical.byContradiction fun n => ?_) (kin b o e)
    have z := free_a (by rw [← at_a b n]; exact n)
    rw [← at_a b n, e] at z
    cases z
  have nolI : (hidT t.heap I).NoLimit := by
    obtain ⟨mc, h1, h2⟩ := nol
    exact ⟨mc, nsI h1, h2⟩
  have mod : Mod K mg (hidT t.heap I) := ⟨kinI, nsI mns, ⟨mb, nsI bns, bok⟩, nolI⟩
  have env : Env0 P w K mg (hidT t.heap I) callerA [] t I :=
    ⟨rfl, mod, fun b o e => of_hidT e, Nat.le_of_eq (hidT_size _ _), trivial, (fun b hb => absurd hb (List.not_mem_nil)), iok, .of_eq gen0⟩
  refine codeAny_mono ((prom _ kinI (nsI mns)).go callerA [] t I ⟨[.ref a], []⟩ [.ref a] [.ref a] _ _ gu room env (bnd t (.ref a)) (.cons rfl .nil) due) ?_
  intro r t' h
  cases r with
  | error e => exact False.elim h
  | ok fl =>
    cases fl with
    | next => exact False.elim h
    | brk => exact False.elim h
    | cont => exact False.elim h
    | ret u =>
      obtain ⟨v, I', eos, bare, un, iok', rr, hv⟩ := h
      have hv' : v = .bl true := hv
      rw [hv'] at rr
      have hu : u = Value.bool true := rr
      rw [hu]
      refine ⟨rfl, OldK.of_keep fun b o e => ?_, eos, bare⟩
      rcases only b with z | ⟨ob, xs, z⟩
      · exact un.keep b o e z (by intro h; exact absurd h List.not_mem_nil) (by simp)
      · obtain ⟨e1, _⟩ := iok b _ z
        obtain ⟨e2, _⟩ := iok' b _ (un.frzs b ob _ z)
        rw [e] at e1
        cases e1
        exact e2
theorem call_top (kin : K.In t.heap) (mns : t.heap.Ns mainGlobals mg) (bns : t.heap.Ns builtinsNs mb)
    (bok : ∀ y : Str, y ≠ "__name__" → mb y = bootBuiltins y) (nol : t.heap.NoLimit) (gen0 : t.gens = #[])
    (oa : t.heap.get? a = some { cls := .type "list", data := .seq vs.toArray }) (iv : IntsAre vs ns) (len : ns.length ≤ sizeLine) (room : Room k callerA) (gu : callerA.guards = some [])
    (prom : ∀ bs : Heap, K.In bs → bs.Ns mainGlobals mg → FnG P w K mg bs k fa fd [x] sp) (bnd : ∀ (t' : Shared) (u : Value), BindsTo t' fd ⟨[u], []⟩ [(x, u)])
    (due : ∀ I : Hp, SqL K I a (ns.map V.int) → sp [.ref a] I (fun v _ => v = .bl true) fun _ _ _ => False) :
    codeAny (model P w) callerA (.call (.ref fa) ⟨[.ref a], []⟩) (fun r t' => r = .ok (.ret (.bool true)) ∧ OldK t.heap t'.heap ∧ t'.os = t.os ∧ AllBare t'.gens) t := by
  have rv := vals_ints iv
  have lv := iv.length
  cases hk : K.lookup a with
  | some o =>
    have e := kin a o hk
    rw [oa] at e
    cases e
    have hS : SqL K (fun _ => none) a (ns.map V.int) := .inr ⟨_, vs.toArray, _, hk, rfl, rfl, rfl, (by rw [List.size_toArray, lv]; exact len), (by simpa using rv)⟩
    exact top_core kin mns bns bok nol gen0 oa rv room gu prom bnd (fun _ => none) (fun _ => .inl rfl) (due _ hS) (fun b u z => (by cases z)) (fun b z => absurd rfl z) (fun z => absurd rfl z)
  | none =>
    have one : ∀ b, b ≠ a → (fun b => if b = a then some (HO.frz { cls := .type "list", data := .seq vs.toArray } (.lst (ns.map V.int))) else none : Hp) b = none := fun b n => if_neg n
    have two : (fun b => if b = a then some (HO.frz { cls := .type "list", data := .seq vs.toArray } (.lst (ns.map V.int))) else none : Hp) a = some (HO.frz { cls := .type "list", data := .seq vs.toArray } (.lst (ns.map V.int))) := if_pos rfl
    generalize (fun b => if b = a then some (HO.frz { cls := .type "list", data := .seq vs.toArray } (.lst (ns.map V.int))) else none : Hp) = I at one two
    have hS : SqL K I a (ns.map V.int) := .inl (.inr ⟨_, two⟩)
    have at_a : ∀ b, I b ≠ none → b = a := fun b n => Classical.byContradiction fun z => n (one b z)
    refine top_core kin mns bns bok nol gen0 oa rv room gu prom bnd I ?_ (due I hS) ?_ at_a (fun _ => hk)
    · intro b
      by_cases z : b = a
      · rw [z]
        exact .inr ⟨_, _, two⟩
      · exact .inl (one b z)
    · intro b u z
      have e := at_a b (by rw [z]; exact fun y => nomatch y)
      subst e
      rw [two] at z
      cases z
      exact ⟨oa, (by rw [List.length_map]; exact len), vs, _, rv, oa⟩
end
theorem walk_top {l : PySem.W.OpenLaw} {n k : Nat} {q : Program} {loose : List Str} {XP : (Str → Option Value) → Heap → Prop} {YP : World → Heap → Prop} {d : DefRec} {K : Params → PySem.W.Frag} {sp : World → Sp} {x : Str}
    (hn : l.most = some n) (hn2 : n ≤ sizeLine) (hd : d.params.defaults = []) (room : Room k callerA) (gu : callerA.guards = some [])
    (hY : ∀ (w : World) (h : Heap), YP w h → (K w.params).In h)
    (F : ∀ (w : World) (mg : Str → Option Value) (fa : Addr) (h : Heap), (K w.params).In h → h.Ns mainGlobals mg → mg d.name = some (.ref fa) → ∃ fd : FuncData,
      (∀ (t : Shared) (u : Value), BindsTo t fd ⟨[u], []⟩ [(x, u)]) ∧ ∀ bs : Heap, (K w.params).In bs → bs.Ns mainGlobals mg → FnG l.prog w (K w.params) mg bs k fa fd [x] (sp w))
    (due : ∀ (w : World) (I : Hp) (a : Addr) (ns : List Int), SqL (K w.params) I a (ns.map V.int) → sp w [.ref a] I (fun v _ => v = .bl true) fun _ _ _ => False) :
    PySem.W.WalkO q loose XP YP l.row.toRowW d [] (fun f vs => PySem.call f vs) := by
  refine Att.attach_call hn hd ?_
  intro w t0 t mg mb fa o pm cd doc a vs ns G Y ho hdt hcd hmg oa iv hl gen0
  obtain ⟨fd, hb, hF⟩ := F w mg fa _ (hY w _ Y) G.T.g hmg
  exact call_top (hY w _ Y) G.T.g G.T.b G.T.builtins G.T.nolimit gen0 oa iv (Nat.le_trans hl hn2) room gu hF hb fun I hS => due w I a ns hS
end Wb

set_option Elab.async false
set_option linter.all false
set_option maxRecDepth 100000
set_option maxHeartbeats 4000000
namespace Wb
open PySem PySem.Spec PyProof.Rows L2 LamX
theorem all_facts {pr : Program} {w : World} {K : PySem.W.Frag} {h : Heap} {mg : Str → Option Value} {fa : Addr} (X : K.In h) (G : h.Ns mainGlobals mg) (hfa : mg "law" = some (.ref fa))
    {f2 : Addr} {oc2 kV2 dc2 pm2 cd2 ct2 : Value} {od2 an2 : Option Addr} {sl2 : Array (Option Value)}
    (a2 : PySem.W.nsIn K mainGlobals "is_whole" = some (some (.ref f2)))
    (l2 : K.lookup f2 = some ⟨oc2, od2, .func (PySem.W.fnOf "is_whole" "is_whole" (defArgs sWhole) (defBody sWhole) (defScope sWhole) .none kV2 dc2 pm2 an2 cd2 ct2), sl2⟩)
    (c2 : PySem.W.codeIn K cd2 "is_whole" = true) (k2 : PySem.W.keepIn K (.ref f2) = true)
    {f3 : Addr} {oc3 kV3 dc3 pm3 cd3 ct3 : Value} {od3 an3 : Option Addr} {sl3 : Array (Option Value)}
    (a3 : PySem.W.nsIn K mainGlobals "is_whole_in" = some (some (.ref f3)))
    (l3 : K.lookup f3 = some ⟨oc3, od3, .func (PySem.W.fnOf "is_whole_in" "is_whole_in" (defArgs sWholeIn) (defBody sWholeIn) (defScope sWholeIn) .none kV3 dc3 pm3 an3 cd3 ct3), sl3⟩)
    (c3 : PySem.W.codeIn K cd3 "is_whole_in" = true) (k3 : PySem.W.keepIn K (.ref f3) = true)
    {f4 : Addr} {oc4 kV4 dc4 pm4 cd4 ct4 : Value} {od4 an4 : Option Addr} {sl4 : Array (Option Value)}
    (a4 : PySem.W.nsIn K mainGlobals "is_tuple_of" = some (some (.ref f4)))
    (l4 : K.lookup f4 = some ⟨oc4, od4, .func (PySem.W.fnOf "is_tuple_of" "is_tuple_of" (defArgs sTupOf) (defBody sTupOf) (defScope sTupOf) .none kV4 dc4 pm4 an4 cd4 ct4), sl4⟩)
    (c4 : PySem.W.codeIn K cd4 "is_tuple_of" = true) (k4 : PySem.W.keepIn K (.ref f4) = true)
    {f5 : Addr} {oc5 kV5 dc5 pm5 cd5 ct5 : Value} {od5 an5 : Option Addr} {sl5 : Array (Option Value)}
    (a5 : PySem.W.nsIn K mainGlobals "are_places" = some (some (.ref f5)))
    (l5 : K.lookup f5 = some ⟨oc5, od5, .func (PySem.W.fnOf "are_places" "are_places" (defArgs sPlaces) (defBody sPlaces) (defScope sPlaces) .none kV5 dc5 pm5 an5 cd5 ct5), sl5⟩)
    (c5 : PySem.W.codeIn K cd5 "are_places" = true) (k5 : PySem.W.keepIn K (.ref f5) = true)
    {f15 : Addr} {oc15 kV15 dc15 pm15 cd15 ct15 : Value} {od15 an15 : Option Addr} {sl15 : Array (Option Value)}
    (a15 : PySem.W.nsIn K mainGlobals "words_of" = some (some (.ref f15)))
    (l15 : K.lookup f15 = some ⟨oc15, od15, .func (PySem.W.fnOf "words_of" "words_of" (defArgs sWords) (defBody sWords) (defScope sWords) .none kV15 dc15 pm15 an15 cd15 ct15), sl15⟩)
    (c15 : PySem.W.codeIn K cd15 "words_of" = true) (k15 : PySem.W.keepIn K (.ref f15) = true)
    {f16 : Addr} {oc16 kV16 dc16 pm16 cd16 ct16 : Value} {od16 an16 : Option Addr} {sl16 : Array (Option Value)}
    (a16 : PySem.W.nsIn K mainGlobals "moves_by_word" = some (some (.ref f16)))
    (l16 : K.lookup f16 = some ⟨oc16, od16, .func (PySem.W.fnOf "moves_by_word" "moves_by_word" (defArgs sMoves) (defBody sMoves) (defScope sMoves) .none kV16 dc16 pm16 an16 cd16 ct16), sl16⟩)
    (c16 : PySem.W.codeIn K cd16 "moves_by_word" = true) (k16 : PySem.W.keepIn K (.ref f16) = true)
    {f25 : Addr} {oc25 kV25 dc25 pm25 cd25 ct25 : Value} {od25 an25 : Option Addr} {sl25 : Array (Option Value)}
    (a25 : PySem.W.nsIn K mainGlobals "fault_of" = some (some (.ref f25)))
    (l25 : K.lookup f25 = some ⟨oc25, od25, .func (PySem.W.fnOf "fault_of" "fault_of" (defArgs sFault) (defBody sFault) (defScope sFault) .none kV25 dc25 pm25 an25 cd25 ct25), sl25⟩)
    (c25 : PySem.W.codeIn K cd25 "fault_of" = true) (k25 : PySem.W.keepIn K (.ref f25) = true)
    {f26 : Addr} {oc26 kV26 dc26 pm26 cd26 ct26 : Value} {od26 an26 : Option Addr} {sl26 : Array (Option Value)}
    (a26 : PySem.W.nsIn K mainGlobals "is_bolt" = some (some (.ref f26)))
    (l26 : K.lookup f26 = some ⟨oc26, od26, .func (PySem.W.fnOf "is_bolt" "is_bolt" (defArgs sBolt) (defBody sBolt) (defScope sBolt) .none kV26 dc26 pm26 an26 cd26 ct26), sl26⟩)
    (c26 : PySem.W.codeIn K cd26 "is_bolt" = true) (k26 : PySem.W.keepIn K (.ref f26) = true)
    {f27 : Addr} {oc27 kV27 dc27 pm27 cd27 ct27 : Value} {od27 an27 : Option Addr} {sl27 : Array (Option Value)}
    (a27 : PySem.W.nsIn K mainGlobals "is_gap" = some (some (.ref f27)))
    (l27 : K.lookup f27 = some ⟨oc27, od27, .func (PySem.W.fnOf "is_gap" "is_gap" (defArgs sGap) (defBody sGap) (defScope sGap) .none kV27 dc27 pm27 an27 cd27 ct27), sl27⟩)
    (c27 : PySem.W.codeIn K cd27 "is_gap" = true) (k27 : PySem.W.keepIn K (.ref f27) = true)
    {f28 : Addr} {oc28 kV28 dc28 pm28 cd28 ct28 : Value} {od28 an28 : Option Addr} {sl28 : Array (Option Value)}
    (a28 : PySem.W.nsIn K mainGlobals "are_ways" = some (some (.ref f28)))
    (l28 : K.lookup f28 = some ⟨oc28, od28, .func (PySem.W.fnOf "are_ways" "are_ways" (defArgs sWays) (defBody sWays) (defScope sWays) .none kV28 dc28 pm28 an28 cd28 ct28), sl28⟩)
    (c28 : PySem.W.codeIn K cd28 "are_ways" = true) (k28 : PySem.W.keepIn K (.ref f28) = true)
    {f29 : Addr} {oc29 kV29 dc29 pm29 cd29 ct29 : Value} {od29 an29 : Option Addr} {sl29 : Array (Option Value)}
    (a29 : PySem.W.nsIn K mainGlobals "manys_of" = some (some (.ref f29)))
    (l29 : K.lookup f29 = some ⟨oc29, od29, .func (PySem.W.fnOf "manys_of" "manys_of" (defArgs sManys) (defBody sManys) (defScope sManys) .none kV29 dc29 pm29 an29 cd29 ct29), sl29⟩)
    (c29 : PySem.W.codeIn K cd29 "manys_of" = true) (k29 : PySem.W.keepIn K (.ref f29) = true)
    {f30 : Addr} {oc30 kV30 dc30 pm30 cd30 ct30 : Value} {od30 an30 : Option Addr} {sl30 : Array (Option Value)}
    (a30 : PySem.W.nsIn K mainGlobals "need_lock" = some (some (.ref f30)))
    (l30 : K.lookup f30 = some ⟨oc30, od30, .func (PySem.W.fnOf "need_lock" "need_lock" (defArgs sNeedL) (defBody sNeedL) (defScope sNeedL) .none kV30 dc30 pm30 an30 cd30 ct30), sl30⟩)
    (c30 : PySem.W.codeIn K cd30 "need_lock" = true) (k30 : PySem.W.keepIn K (.ref f30) = true)
    {f31 : Addr} {oc31 kV31 dc31 pm31 cd31 ct31 : Value} {od31 an31 : Option Addr} {sl31 : Array (Option Value)}
    (a31 : PySem.W.nsIn K mainGlobals "need_stand" = some (some (.ref f31)))
    (l31 : K.lookup f31 = some ⟨oc31, od31, .func (PySem.W.fnOf "need_stand" "need_stand" (defArgs sNeedS) (defBody sNeedS) (defScope sNeedS) .none kV31 dc31 pm31 an31 cd31 ct31), sl31⟩)
    (c31 : PySem.W.codeIn K cd31 "need_stand" = true) (k31 : PySem.W.keepIn K (.ref f31) = true)
    {f43 : Addr} {oc43 kV43 dc43 pm43 cd43 ct43 : Value} {od43 an43 : Option Addr} {sl43 : Array (Option Value)}
    (a43 : PySem.W.nsIn K mainGlobals "_law_pen" = some (some (.ref f43)))
    (l43 : K.lookup f43 = some ⟨oc43, od43, .func (PySem.W.fnOf "_law_pen" "_law_pen" (defArgs sPen) (defBody sPen) (defScope sPen) .none kV43 dc43 pm43 an43 cd43 ct43), sl43⟩)
    (c43 : PySem.W.codeIn K cd43 "_law_pen" = true) (k43 : PySem.W.keepIn K (.ref f43) = true)
    {f44 : Addr} {oc44 kV44 dc44 pm44 cd44 ct44 : Value} {od44 an44 : Option Addr} {sl44 : Array (Option Value)}
    (a44 : PySem.W.nsIn K mainGlobals "_law_draw" = some (some (.ref f44)))
    (l44 : K.lookup f44 = some ⟨oc44, od44, .func (PySem.W.fnOf "_law_draw" "_law_draw" (defArgs sDraw) (defBody sDraw) (defScope sDraw) .none kV44 dc44 pm44 an44 cd44 ct44), sl44⟩)
    (c44 : PySem.W.codeIn K cd44 "_law_draw" = true) (k44 : PySem.W.keepIn K (.ref f44) = true)
    {f45 : Addr} {oc45 kV45 dc45 pm45 cd45 ct45 : Value} {od45 an45 : Option Addr} {sl45 : Array (Option Value)}
    (a45 : PySem.W.nsIn K mainGlobals "_law_pick" = some (some (.ref f45)))
    (l45 : K.lookup f45 = some ⟨oc45, od45, .func (PySem.W.fnOf "_law_pick" "_law_pick" (defArgs sPick) (defBody sPick) (defScope sPick) .none kV45 dc45 pm45 an45 cd45 ct45), sl45⟩)
    (c45 : PySem.W.codeIn K cd45 "_law_pick" = true) (k45 : PySem.W.keepIn K (.ref f45) = true)
    {f46 : Addr} {oc46 kV46 dc46 pm46 cd46 ct46 : Value} {od46 an46 : Option Addr} {sl46 : Array (Option Value)}
    (a46 : PySem.W.nsIn K mainGlobals "_law_gaps" = some (some (.ref f46)))
    (l46 : K.lookup f46 = some ⟨oc46, od46, .func (PySem.W.fnOf "_law_gaps" "_law_gaps" (defArgs sGaps) (defBody sGaps) (defScope sGaps) .none kV46 dc46 pm46 an46 cd46 ct46), sl46⟩)
    (c46 : PySem.W.codeIn K cd46 "_law_gaps" = true) (k46 : PySem.W.keepIn K (.ref f46) = true)
    {f47 : Addr} {oc47 kV47 dc47 pm47 cd47 ct47 : Value} {od47 an47 : Option Addr} {sl47 : Array (Option Value)}
    (a47 : PySem.W.nsIn K mainGlobals "_law_lock" = some (some (.ref f47)))
    (l47 : K.lookup f47 = some ⟨oc47, od47, .func (PySem.W.fnOf "_law_lock" "_law_lock" (defArgs sLock) (defBody sLock) (defScope sLock) .none kV47 dc47 pm47 an47 cd47 ct47), sl47⟩)
    (c47 : PySem.W.codeIn K cd47 "_law_lock" = true) (k47 : PySem.W.keepIn K (.ref f47) = true)
    {f48 : Addr} {oc48 kV48 dc48 pm48 cd48 ct48 : Value} {od48 an48 : Option Addr} {sl48 : Array (Option Value)}
    (a48 : PySem.W.nsIn K mainGlobals "_law_sizes" = some (some (.ref f48)))
    (l48 : K.lookup f48 = some ⟨oc48, od48, .func (PySem.W.fnOf "_law_sizes" "_law_sizes" (defArgs sSizes) (defBody sSizes) (defScope sSizes) .none kV48 dc48 pm48 an48 cd48 ct48), sl48⟩)
    (c48 : PySem.W.codeIn K cd48 "_law_sizes" = true) (k48 : PySem.W.keepIn K (.ref f48) = true)
    {f49 : Addr} {oc49 kV49 dc49 pm49 cd49 ct49 : Value} {od49 an49 : Option Addr} {sl49 : Array (Option Value)}
    (a49 : PySem.W.nsIn K mainGlobals "_law_wish" = some (some (.ref f49)))
    (l49 : K.lookup f49 = some ⟨oc49, od49, .func (PySem.W.fnOf "_law_wish" "_law_wish" (defArgs sWish) (defBody sWish) (defScope sWish) .none kV49 dc49 pm49 an49 cd49 ct49), sl49⟩)
    (c49 : PySem.W.codeIn K cd49 "_law_wish" = true) (k49 : PySem.W.keepIn K (.ref f49) = true)
    {f50 : Addr} {oc50 kV50 dc50 pm50 cd50 ct50 : Value} {od50 an50 : Option Addr} {sl50 : Array (Option Value)}
    (a50 : PySem.W.nsIn K mainGlobals "_law_steps" = some (some (.ref f50)))
    (l50 : K.lookup f50 = some ⟨oc50, od50, .func (PySem.W.fnOf "_law_steps" "_law_steps" (defArgs sSteps) (defBody sSteps) (defScope sSteps) .none kV50 dc50 pm50 an50 cd50 ct50), sl50⟩)
    (c50 : PySem.W.codeIn K cd50 "_law_steps" = true) (k50 : PySem.W.keepIn K (.ref f50) = true)
    {f51 : Addr} {oc51 kV51 dc51 pm51 cd51 ct51 : Value} {od51 an51 : Option Addr} {sl51 : Array (Option Value)}
    (a51 : PySem.W.nsIn K mainGlobals "_law_met" = some (some (.ref f51)))
    (l51 : K.lookup f51 = some ⟨oc51, od51, .func (PySem.W.fnOf "_law_met" "_law_met" (defArgs sMet) (defBody sMet) (defScope sMet) .none kV51 dc51 pm51 an51 cd51 ct51), sl51⟩)
    (c51 : PySem.W.codeIn K cd51 "_law_met" = true) (k51 : PySem.W.keepIn K (.ref f51) = true)
    {f52 : Addr} {oc52 kV52 dc52 pm52 cd52 ct52 : Value} {od52 an52 : Option Addr} {sl52 : Array (Option Value)}
    (a52 : PySem.W.nsIn K mainGlobals "_law_all" = some (some (.ref f52)))
    (l52 : K.lookup f52 = some ⟨oc52, od52, .func (PySem.W.fnOf "_law_all" "_law_all" (defArgs sAll) (defBody sAll) (defScope sAll) .none kV52 dc52 pm52 an52 cd52 ct52), sl52⟩)
    (c52 : PySem.W.codeIn K cd52 "_law_all" = true) (k52 : PySem.W.keepIn K (.ref f52) = true)
    {f53 : Addr} {oc53 kV53 dc53 pm53 cd53 ct53 : Value} {od53 an53 : Option Addr} {sl53 : Array (Option Value)}
    (a53 : PySem.W.nsIn K mainGlobals "_law_behind" = some (some (.ref f53)))
    (l53 : K.lookup f53 = some ⟨oc53, od53, .func (PySem.W.fnOf "_law_behind" "_law_behind" (defArgs sBehind) (defBody sBehind) (defScope sBehind) .none kV53 dc53 pm53 an53 cd53 ct53), sl53⟩)
    (c53 : PySem.W.codeIn K cd53 "_law_behind" = true) (k53 : PySem.W.keepIn K (.ref f53) = true)
    {f54 : Addr} {oc54 kV54 dc54 pm54 cd54 ct54 : Value} {od54 an54 : Option Addr} {sl54 : Array (Option Value)}
    (a54 : PySem.W.nsIn K mainGlobals "_law_reach" = some (some (.ref f54)))
    (l54 : K.lookup f54 = some ⟨oc54, od54, .func (PySem.W.fnOf "_law_reach" "_law_reach" (defArgs sReach) (defBody sReach) (defScope sReach) .none kV54 dc54 pm54 an54 cd54 ct54), sl54⟩)
    (c54 : PySem.W.codeIn K cd54 "_law_reach" = true) (k54 : PySem.W.keepIn K (.ref f54) = true)
    {f55 : Addr} {oc55 kV55 dc55 pm55 cd55 ct55 : Value} {od55 an55 : Option Addr} {sl55 : Array (Option Value)}
    (a55 : PySem.W.nsIn K mainGlobals "_law_word" = some (some (.ref f55)))
    (l55 : K.lookup f55 = some ⟨oc55, od55, .func (PySem.W.fnOf "_law_word" "_law_word" (defArgs sWord) (defBody sWord) (defScope sWord) .none kV55 dc55 pm55 an55 cd55 ct55), sl55⟩)
    (c55 : PySem.W.codeIn K cd55 "_law_word" = true) (k55 : PySem.W.keepIn K (.ref f55) = true)
    {f6 : Addr} {oc6 kV6 dc6 pm6 cd6 ct6 : Value} {od6 an6 : Option Addr} {sl6 : Array (Option Value)}
    (a6 : PySem.W.nsIn K mainGlobals "are_wished" = some (some (.ref f6)))
    (l6 : K.lookup f6 = some ⟨oc6, od6, .func (PySem.W.fnOf "are_wished" "are_wished" (defArgs sWished) (defBody sWished) (defScope sWished) .none kV6 dc6 pm6 an6 cd6 ct6), sl6⟩)
    (c6 : PySem.W.codeIn K cd6 "are_wished" = true) (k6 : PySem.W.keepIn K (.ref f6) = true)
    {f32 : Addr} {oc32 kV32 dc32 pm32 cd32 ct32 : Value} {od32 an32 : Option Addr} {sl32 : Array (Option Value)}
    (a32 : PySem.W.nsIn K mainGlobals "need_wish" = some (some (.ref f32)))
    (l32 : K.lookup f32 = some ⟨oc32, od32, .func (PySem.W.fnOf "need_wish" "need_wish" (defArgs sNeedW) (defBody sNeedW) (defScope sNeedW) .none kV32 dc32 pm32 an32 cd32 ct32), sl32⟩)
    (c32 : PySem.W.codeIn K cd32 "need_wish" = true) (k32 : PySem.W.keepIn K (.ref f32) = true)
    {f41 : Addr} {oc41 kV41 dc41 pm41 cd41 ct41 : Value} {od41 an41 : Option Addr} {sl41 : Array (Option Value)}
    (a41 : PySem.W.nsIn K mainGlobals "come_to" = some (some (.ref f41)))
    (l41 : K.lookup f41 = some ⟨oc41, od41, .func (PySem.W.fnOf "come_to" "come_to" (defArgs sComeTo) (defBody sComeTo) (defScope sComeTo) .none kV41 dc41 pm41 an41 cd41 ct41), sl41⟩)
    (c41 : PySem.W.codeIn K cd41 "come_to" = true) (k41 : PySem.W.keepIn K (.ref f41) = true)
    {f36 : Addr} {oc36 kV36 dc36 pm36 cd36 ct36 : Value} {od36 an36 : Option Addr} {sl36 : Array (Option Value)}
    (a36 : PySem.W.nsIn K mainGlobals "told_lock" = some (some (.ref f36)))
    (l36 : K.lookup f36 = some ⟨oc36, od36, .func (PySem.W.fnOf "told_lock" "told_lock" (defArgs sTold) (defBody sTold) (defScope sTold) .none kV36 dc36 pm36 an36 cd36 ct36), sl36⟩)
    (c36 : PySem.W.codeIn K cd36 "told_lock" = true) (k36 : PySem.W.keepIn K (.ref f36) = true)
    {f37 : Addr} {oc37 kV37 dc37 pm37 cd37 ct37 : Value} {od37 an37 : Option Addr} {sl37 : Array (Option Value)}
    (a37 : PySem.W.nsIn K mainGlobals "turned" = some (some (.ref f37)))
    (l37 : K.lookup f37 = some ⟨oc37, od37, .func (PySem.W.fnOf "turned" "turned" (defArgs sTurned) (defBody sTurned) (defScope sTurned) .none kV37 dc37 pm37 an37 cd37 ct37), sl37⟩)
    (c37 : PySem.W.codeIn K cd37 "turned" = true) (k37 : PySem.W.keepIn K (.ref f37) = true)
    {f34 : Addr} {oc34 kV34 dc34 pm34 cd34 ct34 : Value} {od34 an34 : Option Addr} {sl34 : Array (Option Value)}
    (a34 : PySem.W.nsIn K mainGlobals "spread" = some (some (.ref f34)))
    (l34 : K.lookup f34 = some ⟨oc34, od34, .func (PySem.W.fnOf "spread" "spread" (defArgs sSpread) (defBody sSpread) (defScope sSpread) .none kV34 dc34 pm34 an34 cd34 ct34), sl34⟩)
    (c34 : PySem.W.codeIn K cd34 "spread" = true) (k34 : PySem.W.keepIn K (.ref f34) = true)
    {f33 : Addr} {oc33 kV33 dc33 pm33 cd33 ct33 : Value} {od33 an33 : Option Addr} {sl33 : Array (Option Value)}
    (a33 : PySem.W.nsIn K mainGlobals "steps_at" = some (some (.ref f33)))
    (l33 : K.lookup f33 = some ⟨oc33, od33, .func (PySem.W.fnOf "steps_at" "steps_at" (defArgs sStepsAt) (defBody sStepsAt) (defScope sStepsAt) .none kV33 dc33 pm33 an33 cd33 ct33), sl33⟩)
    (c33 : PySem.W.codeIn K cd33 "steps_at" = true) (k33 : PySem.W.keepIn K (.ref f33) = true)
    {f56 : Addr} {oc56 kV56 dc56 pm56 cd56 ct56 : Value} {od56 an56 : Option Addr} {sl56 : Array (Option Value)}
    (a56 : PySem.W.nsIn K mainGlobals "law" = some (some (.ref f56)))
    (l56 : K.lookup f56 = some ⟨oc56, od56, .func (PySem.W.fnOf "law" "law" (defArgs sLaw) (defBody sLaw) (defScope sLaw) .none kV56 dc56 pm56 an56 cd56 ct56), sl56⟩)
    (c56 : PySem.W.codeIn K cd56 "law" = true) (k56 : PySem.W.keepIn K (.ref f56) = true)
    {t0 : Tok} (n0 : PySem.W.nsIn K mainGlobals "MOST_BOLTS" = some (some (.int 60 t0)))
    {t1 : Tok} (n1 : PySem.W.nsIn K mainGlobals "FEWEST_PLACES" = some (some (.int 2 t1)))
    {t2 : Tok} (n2 : PySem.W.nsIn K mainGlobals "MOST_PLACES" = some (some (.int 4 t2)))
    {t3 : Tok} (n3 : PySem.W.nsIn K mainGlobals "MOST_WAYS" = some (some (.int 8 t3)))
    {t4 : Tok} (n4 : PySem.W.nsIn K mainGlobals "MOST_WORDS" = some (some (.int 8 t4)))
    {t5 : Tok} (n5 : PySem.W.nsIn K mainGlobals "MOST_PRICE" = some (some (.int 1000000 t5)))
    (z0 : PySem.W.nsIn K mainGlobals "isinstance" = some none)
    (z1 : PySem.W.nsIn K mainGlobals "int" = some none)
    (z2 : PySem.W.nsIn K mainGlobals "bool" = some none)
    (z3 : PySem.W.nsIn K mainGlobals "tuple" = some none)
    (z4 : PySem.W.nsIn K mainGlobals "list" = some none)
    (z5 : PySem.W.nsIn K mainGlobals "len" = some none)
    (z6 : PySem.W.nsIn K mainGlobals "zip" = some none)
    (z7 : PySem.W.nsIn K mainGlobals "all" = some none)
    (z8 : PySem.W.nsIn K mainGlobals "range" = some none)
    (z9 : PySem.W.nsIn K mainGlobals "reversed" = some none)
    (z10 : PySem.W.nsIn K mainGlobals "enumerate" = some none)
    (z11 : PySem.W.nsIn K mainGlobals "sorted" = some none)
    (z12 : PySem.W.nsIn K mainGlobals "set" = some none)
    (z13 : PySem.W.nsIn K mainGlobals "abs" = some none)
    (z14 : PySem.W.nsIn K mainGlobals "repr" = some none)
    (z15 : PySem.W.nsIn K mainGlobals "min" = some none)
    (z16 : PySem.W.nsIn K mainGlobals "sum" = some none)
    {CN : Addr} (xNa : PySem.W.nsIn K mainGlobals "NoWish" = some (some (.ref CN))) (xNq : PySem.W.excIn K CN [.type "ValueError", .type "Exception", .type "BaseException", .type "object"] "ValueError.__new__" = true) (xNk : PySem.W.keepIn K (.ref CN) = true)
    (xNs : PySem.W.subIn K (.ref CN) (.type "BaseException") = some true) (xNt : PySem.W.typeIn K (.ref CN) = some (.type "type"))
    {CB : Addr} (xBa : PySem.W.nsIn K mainGlobals "BoltError" = some (some (.ref CB)))
    (y2 : PySem.W.exmOne K (.ref CN) (.ref CN) = some true)
    {CV : Addr} (qVa : PySem.W.nsIn K mainGlobals "Floor" = some (some (.ref CV))) (qVp : PySem.W.plainGet K CV Str.empty = true) (qVh : PySem.W.hasDictIn K CV = true) (qVo : PySem.W.plainOver K CV = true)
    (qVs : PySem.W.findIn K (.ref CV) "__setattr__" = some (some (.builtin "object.__setattr__"))) (qVm : PySem.W.makesIn K CV = true) (qVk : PySem.W.keepIn K (.ref CV) = true)
    (qVn0 : PySem.W.findIn K (.ref CV) "below" = some none)
    (qVn1 : PySem.W.findIn K (.ref CV) "moves" = some none)
    (qVn2 : PySem.W.findIn K (.ref CV) "ends" = some none)
    (qVn3 : PySem.W.findIn K (.ref CV) "after" = some none)
    {vV0 : Addr} {ocV0 kVV0 dcV0 pmV0 cdV0 ctV0 : Value} {odV0 anV0 : Option Addr} {slV0 : Array (Option Value)}
    (iV0 : PySem.W.findIn K (.ref CV) "__init__" = some (some (.ref vV0))) (jV0 : PySem.W.isFn K (.ref vV0) = true)
    (lV0 : K.lookup vV0 = some ⟨ocV0, odV0, .func (PySem.W.fnOf "__init__" "Floor.__init__" (defArgs sFInit) (defBody sFInit) (defScope sFInit) .none kVV0 dcV0 pmV0 anV0 cdV0 ctV0), slV0⟩)
    (cV0 : PySem.W.codeIn K cdV0 "Floor.__init__" = true) (kpV0 : PySem.W.keepIn K (.ref vV0) = true)
    {vV1 : Addr} {ocV1 kVV1 dcV1 pmV1 cdV1 ctV1 : Value} {odV1 anV1 : Option Addr} {slV1 : Array (Option Value)}
    (iV1 : PySem.W.findIn K (.ref CV) "standing" = some (some (.ref vV1))) (jV1 : PySem.W.isFn K (.ref vV1) = true)
    (lV1 : K.lookup vV1 = some ⟨ocV1, odV1, .func (PySem.W.fnOf "standing" "Floor.standing" (defArgs sStand) (defBody sStand) (defScope sStand) .none kVV1 dcV1 pmV1 anV1 cdV1 ctV1), slV1⟩)
    (cV1 : PySem.W.codeIn K cdV1 "Floor.standing" = true) (kpV1 : PySem.W.keepIn K (.ref vV1) = true)
    {vV2 : Addr} {ocV2 kVV2 dcV2 pmV2 cdV2 ctV2 : Value} {odV2 anV2 : Option Addr} {slV2 : Array (Option Value)}
    (iV2 : PySem.W.findIn K (.ref CV) "firsts" = some (some (.ref vV2))) (jV2 : PySem.W.isFn K (.ref vV2) = true)
    (lV2 : K.lookup vV2 = some ⟨ocV2, odV2, .func (PySem.W.fnOf "firsts" "Floor.firsts" (defArgs sFirsts) (defBody sFirsts) (defScope sFirsts) .none kVV2 dcV2 pmV2 anV2 cdV2 ctV2), slV2⟩)
    (cV2 : PySem.W.codeIn K cdV2 "Floor.firsts" = true) (kpV2 : PySem.W.keepIn K (.ref vV2) = true)
    {vV3 : Addr} {ocV3 kVV3 dcV3 pmV3 cdV3 ctV3 : Value} {odV3 anV3 : Option Addr} {slV3 : Array (Option Value)}
    (iV3 : PySem.W.findIn K (.ref CV) "led" = some (some (.ref vV3))) (jV3 : PySem.W.isFn K (.ref vV3) = true)
    (lV3 : K.lookup vV3 = some ⟨ocV3, odV3, .func (PySem.W.fnOf "led" "Floor.led" (defArgs sLed) (defBody sLed) (defScope sLed) .none kVV3 dcV3 pmV3 anV3 cdV3 ctV3), slV3⟩)
    (cV3 : PySem.W.codeIn K cdV3 "Floor.led" = true) (kpV3 : PySem.W.keepIn K (.ref vV3) = true)
    {vV4 : Addr} {ocV4 kVV4 dcV4 pmV4 cdV4 ctV4 : Value} {odV4 anV4 : Option Addr} {slV4 : Array (Option Value)}
    (iV4 : PySem.W.findIn K (.ref CV) "reach_of" = some (some (.ref vV4))) (jV4 : PySem.W.isFn K (.ref vV4) = true)
    (lV4 : K.lookup vV4 = some ⟨ocV4, odV4, .func (PySem.W.fnOf "reach_of" "Floor.reach_of" (defArgs sReachOf) (defBody sReachOf) (defScope sReachOf) .none kVV4 dcV4 pmV4 anV4 cdV4 ctV4), slV4⟩)
    (cV4 : PySem.W.codeIn K cdV4 "Floor.reach_of" = true) (kpV4 : PySem.W.keepIn K (.ref vV4) = true)
    {CW : Addr} (qWa : PySem.W.nsIn K mainGlobals "Reach" = some (some (.ref CW))) (qWp : PySem.W.plainGet K CW Str.empty = true) (qWh : PySem.W.hasDictIn K CW = true) (qWo : PySem.W.plainOver K CW = true)
    (qWs : PySem.W.findIn K (.ref CW) "__setattr__" = some (some (.builtin "object.__setattr__"))) (qWm : PySem.W.makesIn K CW = true) (qWk : PySem.W.keepIn K (.ref CW) = true)
    (qWn0 : PySem.W.findIn K (.ref CW) "manys" = some none)
    (qWn1 : PySem.W.findIn K (.ref CW) "floors" = some none)
    (qWn2 : PySem.W.findIn K (.ref CW) "ground" = some none)
    {vW0 : Addr} {ocW0 kVW0 dcW0 pmW0 cdW0 ctW0 : Value} {odW0 anW0 : Option Addr} {slW0 : Array (Option Value)}
    (iW0 : PySem.W.findIn K (.ref CW) "__init__" = some (some (.ref vW0))) (jW0 : PySem.W.isFn K (.ref vW0) = true)
    (lW0 : K.lookup vW0 = some ⟨ocW0, odW0, .func (PySem.W.fnOf "__init__" "Reach.__init__" (defArgs sRInit) (defBody sRInit) (defScope sRInit) .none kVW0 dcW0 pmW0 anW0 cdW0 ctW0), slW0⟩)
    (cW0 : PySem.W.codeIn K cdW0 "Reach.__init__" = true) (kpW0 : PySem.W.keepIn K (.ref vW0) = true)
    {vW2 : Addr} {ocW2 kVW2 dcW2 pmW2 cdW2 ctW2 : Value} {odW2 anW2 : Option Addr} {slW2 : Array (Option Value)}
    (iW2 : PySem.W.findIn K (.ref CW) "stand_count" = some (some (.ref vW2))) (jW2 : PySem.W.isFn K (.ref vW2) = true)
    (lW2 : K.lookup vW2 = some ⟨ocW2, odW2, .func (PySem.W.fnOf "stand_count" "Reach.stand_count" (defArgs sCount) (defBody sCount) (defScope sCount) .none kVW2 dcW2 pmW2 anW2 cdW2 ctW2), slW2⟩)
    (cW2 : PySem.W.codeIn K cdW2 "Reach.stand_count" = true) (kpW2 : PySem.W.keepIn K (.ref vW2) = true)
    (hqa : PySem.W.nsIn K mainGlobals "heappop" = some (some (.builtin "_heapq.heappop"))) (hqb : PySem.W.nsIn K mainGlobals "heappush" = some (some (.builtin "_heapq.heappush"))) {tms : Tok} (hqc : PySem.W.nsIn K mainGlobals "MOST_STANDS" = some (some (.int 2000 tms))) :
    ∃ fd : FuncData, (∀ (t : Shared) (u : Value), BindsTo t fd ⟨[u], []⟩ [("_law_script", u)]) ∧ ∀ bs : Heap, K.In bs → bs.Ns mainGlobals mg → FnG pr w K mg bs 12 fa fd ["_law_script"] (spLaw K) := by
  have e := hfa.symm.trans (PySem.W.mg_of X G a56)
  cases e
  have F2 := fun_mk (st := sWhole) l2 c2 k2
  have F3 := fun_mk (st := sWholeIn) l3 c3 k3
  have F4 := fun_mk (st := sTupOf) l4 c4 k4
  have F5 := fun_mk (st := sPlaces) l5 c5 k5
  have F15 := fun_mk (st := sWords) l15 c15 k15
  have F16 := fun_mk (st := sMoves) l16 c16 k16
  have F25 := fun_mk (st := sFault) l25 c25 k25
  have F26 := fun_mk (st := sBolt) l26 c26 k26
  have F27 := fun_mk (st := sGap) l27 c27 k27
  have F28 := fun_mk (st := sWays) l28 c28 k28
  have F29 := fun_mk (st := sManys) l29 c29 k29
  have F30 := fun_mk (st := sNeedL) l30 c30 k30
  have F31 := fun_mk (st := sNeedS) l31 c31 k31
  have F43 := fun_mk (st := sPen) l43 c43 k43
  have F44 := fun_mk (st := sDraw) l44 c44 k44
  have F45 := fun_mk (st := sPick) l45 c45 k45
  have F46 := fun_mk (st := sGaps) l46 c46 k46
  have F47 := fun_mk (st := sLock) l47 c47 k47
  have F48 := fun_mk (st := sSizes) l48 c48 k48
  have F49 := fun_mk (st := sWish) l49 c49 k49
  have F50 := fun_mk (st := sSteps) l50 c50 k50
  have F51 := fun_mk (st := sMet) l51 c51 k51
  have F52 := fun_mk (st := sAll) l52 c52 k52
  have F53 := fun_mk (st := sBehind) l53 c53 k53
  have F54 := fun_mk (st := sReach) l54 c54 k54
  have F55 := fun_mk (st := sWord) l55 c55 k55
  have F6 := fun_mk (st := sWished) l6 c6 k6
  have F32 := fun_mk (st := sNeedW) l32 c32 k32
  have F41 := fun_mk (st := sComeTo) l41 c41 k41
  have F36 := fun_mk (st := sTold) l36 c36 k36
  have F37 := fun_mk (st := sTurned) l37 c37 k37
  have F34 := fun_mk (st := sSpread) l34 c34 k34
  have F33 := fun_mk (st := sStepsAt) l33 c33 k33
  have F56 := fun_mk (st := sLaw) l56 c56 k56
  have b2 := F2.binds (ps := ["thing"]) fun _ _ _ _ _ _ us hl => match us, hl with | [_], _ => rfl
  have b3 := F3.binds (ps := ["thing", "low", "high"]) fun _ _ _ _ _ _ us hl => match us, hl with | [_, _, _], _ => rfl
  have b4 := F4.binds (ps := ["thing", "low", "high"]) fun _ _ _ _ _ _ us hl => match us, hl with | [_, _, _], _ => rfl
  have b5 := F5.binds (ps := ["thing", "manys"]) fun _ _ _ _ _ _ us hl => match us, hl with | [_, _], _ => rfl
  have b15 := F15.binds (ps := ["lock"]) fun _ _ _ _ _ _ us hl => match us, hl with | [_], _ => rfl
  have b16 := F16.binds (ps := ["lock"]) fun _ _ _ _ _ _ us hl => match us, hl with | [_], _ => rfl
  have b25 := F25.binds (ps := ["thing"]) fun _ _ _ _ _ _ us hl => match us, hl with | [_], _ => rfl
  have b26 := F26.binds (ps := ["thing", "below"]) fun _ _ _ _ _ _ us hl => match us, hl with | [_, _], _ => rfl
  have b27 := F27.binds (ps := ["thing", "many", "below"]) fun _ _ _ _ _ _ us hl => match us, hl with | [_, _, _], _ => rfl
  have b28 := F28.binds (ps := ["thing", "below"]) fun _ _ _ _ _ _ us hl => match us, hl with | [_, _], _ => rfl
  have b29 := F29.binds (ps := ["lock"]) fun _ _ _ _ _ _ us hl => match us, hl with | [_], _ => rfl
  have b30 := F30.binds (ps := ["lock"]) fun _ _ _ _ _ _ us hl => match us, hl with | [_], _ => rfl
  have b31 := F31.binds (ps := ["lock", "thing"]) fun _ _ _ _ _ _ us hl => match us, hl with | [_, _], _ => rfl
  have b43 := F43.binds (ps := ["_law_script"]) fun _ _ _ _ _ _ us hl => match us, hl with | [_], _ => rfl
  have b44 := F44.binds (ps := ["_law_pen_here", "_law_many"]) fun _ _ _ _ _ _ us hl => match us, hl with | [_, _], _ => rfl
  have b45 := F45.binds (ps := ["_law_pen_here", "_law_lot"]) fun _ _ _ _ _ _ us hl => match us, hl with | [_, _], _ => rfl
  have b46 := F46.binds (ps := ["_law_pen_here", "_law_many", "_law_words"]) fun _ _ _ _ _ _ us hl => match us, hl with | [_, _, _], _ => rfl
  have b47 := F47.binds (ps := ["_law_pen_here", "_law_sizes_here"]) fun _ _ _ _ _ _ us hl => match us, hl with | [_, _], _ => rfl
  have b48 := F48.binds (ps := ["_law_pen_here", "_law_most"]) fun _ _ _ _ _ _ us hl => match us, hl with | [_, _], _ => rfl
  have b49 := F49.binds (ps := ["_law_pen_here", "_law_sizes_here", "_law_is_open"]) fun _ _ _ _ _ _ us hl => match us, hl with | [_, _, _], _ => rfl
  have b50 := F50.binds (ps := ["_law_lock_here", "_law_stand"]) fun _ _ _ _ _ _ us hl => match us, hl with | [_, _], _ => rfl
  have b51 := F51.binds (ps := ["_law_stand", "_law_wish_here"]) fun _ _ _ _ _ _ us hl => match us, hl with | [_, _], _ => rfl
  have b52 := F52.binds (ps := ["_law_lock_here"]) fun _ _ _ _ _ _ us hl => match us, hl with | [_], _ => rfl
  have b53 := F53.binds (ps := ["_law_lock_here", "_law_stand"]) fun _ _ _ _ _ _ us hl => match us, hl with | [_, _], _ => rfl
  have b54 := F54.binds (ps := ["_law_lock_here", "_law_stands"]) fun _ _ _ _ _ _ us hl => match us, hl with | [_, _], _ => rfl
  have b55 := F55.binds (ps := ["_law_lock_here", "_law_wish_here"]) fun _ _ _ _ _ _ us hl => match us, hl with | [_, _], _ => rfl
  have b6 := F6.binds (ps := ["thing", "manys"]) fun _ _ _ _ _ _ us hl => match us, hl with | [_, _], _ => rfl
  have b32 := F32.binds (ps := ["lock", "thing"]) fun _ _ _ _ _ _ us hl => match us, hl with | [_, _], _ => rfl
  have b41 := F41.binds (ps := ["lock", "wish"]) fun _ _ _ _ _ _ us hl => match us, hl with | [_, _], _ => rfl
  have b36 := F36.binds (ps := ["lock"]) fun _ _ _ _ _ _ us hl => match us, hl with | [_], _ => rfl
  have b37 := F37.binds (ps := ["lock"]) fun _ _ _ _ _ _ us hl => match us, hl with | [_], _ => rfl
  have b34 := F34.binds (ps := ["lock", "stand", "price"]) fun _ _ _ _ _ _ us hl => match us, hl with | [_, _, _], _ => rfl
  have b33 := F33.binds (ps := ["moves", "stand"]) fun _ _ _ _ _ _ us hl => match us, hl with | [_, _], _ => rfl
  have B : Bi mg := ⟨PySem.W.mg_none_of X G z0, PySem.W.mg_none_of X G z1, PySem.W.mg_none_of X G z2, PySem.W.mg_none_of X G z3, PySem.W.mg_none_of X G z4, PySem.W.mg_none_of X G z5, PySem.W.mg_none_of X G z6, PySem.W.mg_none_of X G z7, PySem.W.mg_none_of X G z8, PySem.W.mg_none_of X G z9, PySem.W.mg_none_of X G z10, PySem.W.mg_none_of X G z11, PySem.W.mg_none_of X G z12, PySem.W.mg_none_of X G z13, PySem.W.mg_none_of X G z14⟩
  have Nm : Nu mg := ⟨⟨_, PySem.W.mg_of X G n0⟩, ⟨_, PySem.W.mg_of X G n1⟩, ⟨_, PySem.W.mg_of X G n2⟩, ⟨_, PySem.W.mg_of X G n3⟩, ⟨_, PySem.W.mg_of X G n4⟩, ⟨_, PySem.W.mg_of X G n5⟩⟩
  have D : Pr K mg := ⟨_, _, F2, b2, PySem.W.mg_of X G a2, _, _, F3, b3, PySem.W.mg_of X G a3, _, _, F4, b4, PySem.W.mg_of X G a4, _, _, F5, b5, PySem.W.mg_of X G a5, _, _, F15, b15, PySem.W.mg_of X G a15, _, _, F16, b16, PySem.W.mg_of X G a16, _, _, F25, b25, PySem.W.mg_of X G a25, _, _, F26, b26, PySem.W.mg_of X G a26, _, _, F27, b27, PySem.W.mg_of X G a27, _, _, F28, b28, PySem.W.mg_of X G a28, _, _, F29, b29, PySem.W.mg_of X G a29, _, _, F30, b30, PySem.W.mg_of X G a30, _, _, F31, b31, PySem.W.mg_of X G a31, B, Nm⟩
  have zn0 := PySem.W.mg_none_of X G z15
  have zn1 := PySem.W.mg_none_of X G z16
  let L : Ld K mg := ⟨_, _, F43, b43, PySem.W.mg_of X G a43, _, _, F44, b44, PySem.W.mg_of X G a44, _, _, F45, b45, PySem.W.mg_of X G a45, _, _, F46, b46, PySem.W.mg_of X G a46, _, _, F47, b47, PySem.W.mg_of X G a47, _, _, F48, b48, PySem.W.mg_of X G a48, _, _, F49, b49, PySem.W.mg_of X G a49, _, _, F50, b50, PySem.W.mg_of X G a50, _, _, F51, b51, PySem.W.mg_of X G a51, _, _, F52, b52, PySem.W.mg_of X G a52, _, _, F53, b53, PySem.W.mg_of X G a53, _, _, F54, b54, PySem.W.mg_of X G a54, _, _, F55, b55, PySem.W.mg_of X G a55, zn0, zn1⟩
  let WI : WiK K mg := ⟨_, _, F6, b6, PySem.W.mg_of X G a6, _, _, F32, b32, PySem.W.mg_of X G a32⟩
  let C : CoK K mg := ⟨_, _, F41, b41, PySem.W.mg_of X G a41, _, _, F36, b36, PySem.W.mg_of X G a36, _, _, F37, b37, PySem.W.mg_of X G a37⟩
  let SK : SpK K mg := ⟨_, _, F34, b34, PySem.W.mg_of X G a34, _, _, F33, b33, PySem.W.mg_of X G a33, PySem.W.mg_of X G hqa, PySem.W.mg_of X G hqb, ⟨_, PySem.W.mg_of X G hqc⟩⟩
  let XN : XcK K mg "NoWish" := ⟨CN, PySem.W.mg_of X G xNa, xNq, xNk, xNs, xNt⟩
  have gxBa := PySem.W.mg_of X G xBa
  have GV0 := fun_mk (st := sFInit) lV0 cV0 kpV0
  have eV0 := GV0.binds (ps := ["self", "below", "moves", "ends"]) fun _ _ _ _ _ _ us hl => match us, hl with | [_, _, _, _], _ => rfl
  have GV1 := fun_mk (st := sStand) lV1 cV1 kpV1
  have eV1 := GV1.binds (ps := ["self", "reach", "place"]) fun _ _ _ _ _ _ us hl => match us, hl with | [_, _, _], _ => rfl
  have GV2 := fun_mk (st := sFirsts) lV2 cV2 kpV2
  have eV2 := GV2.binds (ps := ["self", "reach", "place"]) fun _ _ _ _ _ _ us hl => match us, hl with | [_, _, _], _ => rfl
  have GV3 := fun_mk (st := sLed) lV3 cV3 kpV3
  have eV3 := GV3.binds (ps := ["self", "number"]) fun _ _ _ _ _ _ us hl => match us, hl with | [_, _], _ => rfl
  have GV4 := fun_mk (st := sReachOf) lV4 cV4 kpV4
  have eV4 := GV4.binds (ps := ["self", "reach", "place"]) fun _ _ _ _ _ _ us hl => match us, hl with | [_, _, _], _ => rfl
  have GW0 := fun_mk (st := sRInit) lW0 cW0 kpW0
  have eW0 := GW0.binds (ps := ["self", "lock", "wish"]) fun _ _ _ _ _ _ us hl => match us, hl with | [_, _, _], _ => rfl
  have GW2 := fun_mk (st := sCount) lW2 cW2 kpW2
  have eW2 := GW2.binds (ps := ["self"]) fun _ _ _ _ _ _ us hl => match us, hl with | [_], _ => rfl
  let FL : FlC K mg := ⟨CV, ⟨qVp, qVh, qVo, qVs⟩, qVn0, qVn1, qVn2, qVn3, PySem.W.mg_of X G qVa, vV0, _, GV0, eV0, ⟨qVm, iV0, jV0, qVk⟩, vV1, _, GV1, eV1, ⟨iV1, jV1, kpV1⟩, vV2, _, GV2, eV2, ⟨iV2, jV2, kpV2⟩, vV3, _, GV3, eV3, ⟨iV3, jV3, kpV3⟩, vV4, _, GV4, eV4, ⟨iV4, jV4, kpV4⟩⟩
  let RC : RcC K mg := ⟨CW, ⟨qWp, qWh, qWo, qWs⟩, qWn0, qWn1, qWn2, PySem.W.mg_of X G qWa, vW0, _, GW0, eW0, ⟨qWm, iW0, jW0, qWk⟩, vW2, _, GW2, eW2, ⟨iW2, jW2, kpW2⟩⟩
  exact ⟨_, fun t u => .of_eq rfl, fun bs _ _ => ok_law F56 D L WI C SK FL RC XN gxBa y2⟩
end Wb

set_option Elab.async false
set_option linter.all false
set_option maxRecDepth 100000
open PySem PySem.W PyProof.Rows
set_option maxHeartbeats 0 in
theorem PySem.Challenge.cw_waitbolts_k64_what_can_be_come_to_from_w_holds : PySem.Challenge.rw_waitbolts_k64_what_can_be_come_to_from_w.Holds := by
  w_on; o_law; k_head; (case hw => w_witness2)
  k_fill
  refine Wb.walk_top (l := PySem.Challenge.rw_waitbolts_k64_what_can_be_come_to_from_w) (n := 63) (k := 12) (x := "_law_script") (sp := fun w => Wb.spLaw _) rfl (by decide) rfl ⟨rfl, by decide, by decide⟩ rfl (fun w h Y => PySem.W.kIn_of Y) ?F (fun w I a ns hS => ⟨a, ns, rfl, hS, fun _ => rfl⟩)
  case F =>
    intro w mg fa h KX G hmg
    refine' Wb.all_facts KX G hmg ?a2 ?l2 ?c2 ?k2 ?a3 ?l3 ?c3 ?k3 ?a4 ?l4 ?c4 ?k4 ?a5 ?l5 ?c5 ?k5 ?a15 ?l15 ?c15 ?k15 ?a16 ?l16 ?c16 ?k16 ?a25 ?l25 ?c25 ?k25 ?a26 ?l26 ?c26 ?k26 ?a27 ?l27 ?c27 ?k27 ?a28 ?l28 ?c28 ?k28 ?a29 ?l29 ?c29 ?k29 ?a30 ?l30 ?c30 ?k30 ?a31 ?l31 ?c31 ?k31 ?a43 ?l43 ?c43 ?k43 ?a44 ?l44 ?c44 ?k44 ?a45 ?l45 ?c45 ?k45 ?a46 ?l46 ?c46 ?k46 ?a47 ?l47 ?c47 ?k47 ?a48 ?l48 ?c48 ?k48 ?a49 ?l49 ?c49 ?k49 ?a50 ?l50 ?c50 ?k50 ?a51 ?l51 ?c51 ?k51 ?a52 ?l52 ?c52 ?k52 ?a53 ?l53 ?c53 ?k53 ?a54 ?l54 ?c54 ?k54 ?a55 ?l55 ?c55 ?k55 ?a6 ?l6 ?c6 ?k6 ?a32 ?l32 ?c32 ?k32 ?a41 ?l41 ?c41 ?k41 ?a36 ?l36 ?c36 ?k36 ?a37 ?l37 ?c37 ?k37 ?a34 ?l34 ?c34 ?k34 ?a33 ?l33 ?c33 ?k33 ?a56 ?l56 ?c56 ?k56 ?n0 ?n1 ?n2 ?n3 ?n4 ?n5 ?z0 ?z1 ?z2 ?z3 ?z4 ?z5 ?z6 ?z7 ?z8 ?z9 ?z10 ?z11 ?z12 ?z13 ?z14 ?z15 ?z16 ?xNa ?xNq ?xNk ?xNs ?xNt ?xBa ?y2 ?qVa ?qVp ?qVh ?qVo ?qVs ?qVm ?qVk ?qVn0 ?qVn1 ?qVn2 ?qVn3 ?iV0 ?jV0 ?lV0 ?cV0 ?kpV0 ?iV1 ?jV1 ?lV1 ?cV1 ?kpV1 ?iV2 ?jV2 ?lV2 ?cV2 ?kpV2 ?iV3 ?jV3 ?lV3 ?cV3 ?kpV3 ?iV4 ?jV4 ?lV4 ?cV4 ?kpV4 ?qWa ?qWp ?qWh ?qWo ?qWs ?qWm ?qWk ?qWn0 ?qWn1 ?qWn2 ?iW0 ?jW0 ?lW0 ?cW0 ?kpW0 ?iW2 ?jW2 ?lW2 ?cW2 ?kpW2 ?hqa ?hqb ?hqc
    (case a2 => first | k_is | rfl | kernel_rfl)
    (case l2 => first | k_is | rfl | kernel_rfl)
    (case c2 => first | k_is | rfl | kernel_rfl)
    (case k2 => first | k_is | rfl | kernel_rfl)
    (case a3 => first | k_is | rfl | kernel_rfl)
    (case l3 => first | k_is | rfl | kernel_rfl)
    (case c3 => first | k_is | rfl | kernel_rfl)
    (case k3 => first | k_is | rfl | kernel_rfl)
    (case a4 => first | k_is | rfl | kernel_rfl)
    (case l4 => first | k_is | rfl | kernel_rfl)
    (case c4 => first | k_is | rfl | kernel_rfl)
    (case k4 => first | k_is | rfl | kernel_rfl)
    (case a5 => first | k_is | rfl | kernel_rfl)
    (case l5 => first | k_is | rfl | kernel_rfl)
    (case c5 => first | k_is | rfl | kernel_rfl)
    (case k5 => first | k_is | rfl | kernel_rfl)
    (case a15 => first | k_is | rfl | kernel_rfl)
    (case l15 => first | k_is | rfl | kernel_rfl)
    (case c15 => first | k_is | rfl | kernel_rfl)
    (case k15 => first | k_is | rfl | kernel_rfl)
    (case a16 => first | k_is | rfl | kernel_rfl)
    (case l16 => first | k_is | rfl | kernel_rfl)
    (case c16 => first | k_is | rfl | kernel_rfl)
    (case k16 => first | k_is | rfl | kernel_rfl)
    (case a25 => first | k_is | rfl | kernel_rfl)
    (case l25 => first | k_is | rfl | kernel_rfl)
    (case c25 => first | k_is | rfl | kernel_rfl)
    (case k25 => first | k_is | rfl | kernel_rfl)
    (case a26 => first | k_is | rfl | kernel_rfl)
    (case l26 => first | k_is | rfl | kernel_rfl)
    (case c26 => first | k_is | rfl | kernel_rfl)
    (case k26 => first | k_is | rfl | kernel_rfl)
    (case a27 => first | k_is | rfl | kernel_rfl)
    (case l27 => first | k_is | rfl | kernel_rfl)
    (case c27 => first | k_is | rfl | kernel_rfl)
    (case k27 => first | k_is | rfl | kernel_rfl)
    (case a28 => first | k_is | rfl | kernel_rfl)
    (case l28 => first | k_is | rfl | kernel_rfl)
    (case c28 => first | k_is | rfl | kernel_rfl)
    (case k28 => first | k_is | rfl | kernel_rfl)
    (case a29 => first | k_is | rfl | kernel_rfl)
    (case l29 => first | k_is | rfl | kernel_rfl)
    (case c29 => first | k_is | rfl | kernel_rfl)
    (case k29 => first | k_is | rfl | kernel_rfl)
    (case a30 => first | k_is | rfl | kernel_rfl)
    (case l30 => first | k_is | rfl | kernel_rfl)
    (case c30 => first | k_is | rfl | kernel_rfl)
    (case k30 => first | k_is | rfl | kernel_rfl)
    (case a31 => first | k_is | rfl | kernel_rfl)
    (case l31 => first | k_is | rfl | kernel_rfl)
    (case c31 => first | k_is | rfl | kernel_rfl)
    (case k31 => first | k_is | rfl | kernel_rfl)
    (case a43 => first | k_is | rfl | kernel_rfl)
    (case l43 => first | k_is | rfl | kernel_rfl)
    (case c43 => first | k_is | rfl | kernel_rfl)
    (case k43 => first | k_is | rfl | kernel_rfl)
    (case a44 => first | k_is | rfl | kernel_rfl)
    (case l44 => first | k_is | rfl | kernel_rfl)
    (case c44 => first | k_is | rfl | kernel_rfl)
    (case k44 => first | k_is | rfl | kernel_rfl)
    (case a45 => first | k_is | rfl | kernel_rfl)
    (case l45 => first | k_is | rfl | kernel_rfl)
    (case c45 => first | k_is | rfl | kernel_rfl)
    (case k45 => first | k_is | rfl | kernel_rfl)
    (case a46 => first | k_is | rfl | kernel_rfl)
    (case l46 => first | k_is | rfl | kernel_rfl)
    (case c46 => first | k_is | rfl | kernel_rfl)
    (case k46 => first | k_is | rfl | kernel_rfl)
    (case a47 => first | k_is | rfl | kernel_rfl)
    (case l47 => first | k_is | rfl | kernel_rfl)
    (case c47 => first | k_is | rfl | kernel_rfl)
    (case k47 => first | k_is | rfl | kernel_rfl)
    (case a48 => first | k_is | rfl | kernel_rfl)
    (case l48 => first | k_is | rfl | kernel_rfl)
    (case c48 => first | k_is | rfl | kernel_rfl)
    (case k48 => first | k_is | rfl | kernel_rfl)
    (case a49 => first | k_is | rfl | kernel_rfl)
    (case l49 => first | k_is | rfl | kernel_rfl)
    (case c49 => first | k_is | rfl | kernel_rfl)
    (case k49 => first | k_is | rfl | kernel_rfl)
    (case a50 => first | k_is | rfl | kernel_rfl)
    (case l50 => first | k_is | rfl | kernel_rfl)
    (case c50 => first | k_is | rfl | kernel_rfl)
    (case k50 => first | k_is | rfl | kernel_rfl)
    (case a51 => first | k_is | rfl | kernel_rfl)
    (case l51 => first | k_is | rfl | kernel_rfl)
    (case c51 => first | k_is | rfl | kernel_rfl)
    (case k51 => first | k_is | rfl | kernel_rfl)
    (case a52 => first | k_is | rfl | kernel_rfl)
    (case l52 => first | k_is | rfl | kernel_rfl)
    (case c52 => first | k_is | rfl | kernel_rfl)
    (case k52 => first | k_is | rfl | kernel_rfl)
    (case a53 => first | k_is | rfl | kernel_rfl)
    (case l53 => first | k_is | rfl | kernel_rfl)
    (case c53 => first | k_is | rfl | kernel_rfl)
    (case k53 => first | k_is | rfl | kernel_rfl)
    (case a54 => first | k_is | rfl | kernel_rfl)
    (case l54 => first | k_is | rfl | kernel_rfl)
    (case c54 => first | k_is | rfl | kernel_rfl)
    (case k54 => first | k_is | rfl | kernel_rfl)
    (case a55 => first | k_is | rfl | kernel_rfl)
    (case l55 => first | k_is | rfl | kernel_rfl)
    (case c55 => first | k_is | rfl | kernel_rfl)
    (case k55 => first | k_is | rfl | kernel_rfl)
    (case a6 => first | k_is | rfl | kernel_rfl)
    (case l6 => first | k_is | rfl | kernel_rfl)
    (case c6 => first | k_is | rfl | kernel_rfl)
    (case k6 => first | k_is | rfl | kernel_rfl)
    (case a32 => first | k_is | rfl | kernel_rfl)
    (case l32 => first | k_is | rfl | kernel_rfl)
    (case c32 => first | k_is | rfl | kernel_rfl)
    (case k32 => first | k_is | rfl | kernel_rfl)
    (case a41 => first | k_is | rfl | kernel_rfl)
    (case l41 => first | k_is | rfl | kernel_rfl)
    (case c41 => first | k_is | rfl | kernel_rfl)
    (case k41 => first | k_is | rfl | kernel_rfl)
    (case a36 => first | k_is | rfl | kernel_rfl)
    (case l36 => first | k_is | rfl | kernel_rfl)
    (case c36 => first | k_is | rfl | kernel_rfl)
    (case k36 => first | k_is | rfl | kernel_rfl)
    (case a37 => first | k_is | rfl | kernel_rfl)
    (case l37 => first | k_is | rfl | kernel_rfl)
    (case c37 => first | k_is | rfl | kernel_rfl)
    (case k37 => first | k_is | rfl | kernel_rfl)
    (case a34 => first | k_is | rfl | kernel_rfl)
    (case l34 => first | k_is | rfl | kernel_rfl)
    (case c34 => first | k_is | rfl | kernel_rfl)
    (case k34 => first | k_is | rfl | kernel_rfl)
    (case a33 => first | k_is | rfl | kernel_rfl)
    (case l33 => first | k_is | rfl | kernel_rfl)
    (case c33 => first | k_is | rfl | kernel_rfl)
    (case k33 => first | k_is | rfl | kernel_rfl)
    (case a56 => first | k_is | rfl | kernel_rfl)
    (case l56 => first | k_is | rfl | kernel_rfl)
    (case c56 => first | k_is | rfl | kernel_rfl)
    (case k56 => first | k_is | rfl | kernel_rfl)
    (case n0 => first | k_is | rfl | kernel_rfl)
    (case n1 => first | k_is | rfl | kernel_rfl)
    (case n2 => first | k_is | rfl | kernel_rfl)
    (case n3 => first | k_is | rfl | kernel_rfl)
    (case n4 => first | k_is | rfl | kernel_rfl)
    (case n5 => first | k_is | rfl | kernel_rfl)
    (case z0 => first | k_is | rfl | kernel_rfl)
    (case z1 => first | k_is | rfl | kernel_rfl)
    (case z2 => first | k_is | rfl | kernel_rfl)
    (case z3 => first | k_is | rfl | kernel_rfl)
    (case z4 => first | k_is | rfl | kernel_rfl)
    (case z5 => first | k_is | rfl | kernel_rfl)
    (case z6 => first | k_is | rfl | kernel_rfl)
    (case z7 => first | k_is | rfl | kernel_rfl)
    (case z8 => first | k_is | rfl | kernel_rfl)
    (case z9 => first | k_is | rfl | kernel_rfl)
    (case z10 => first | k_is | rfl | kernel_rfl)
    (case z11 => first | k_is | rfl | kernel_rfl)
    (case z12 => first | k_is | rfl | kernel_rfl)
    (case z13 => first | k_is | rfl | kernel_rfl)
    (case z14 => first | k_is | rfl | kernel_rfl)
    (case z15 => first | k_is | rfl | kernel_rfl)
    (case z16 => first | k_is | rfl | kernel_rfl)
    (case xNa => first | k_is | rfl | kernel_rfl)
    (case xNq => first | k_is | rfl | kernel_rfl)
    (case xNk => first | k_is | rfl | kernel_rfl)
    (case xNs => first | k_is | rfl | kernel_rfl)
    (case xNt => first | k_is | rfl | kernel_rfl)
    (case xBa => first | k_is | rfl | kernel_rfl)
    (case y2 => first | k_is | rfl | kernel_rfl)
    (case qVa => first | k_is | rfl | kernel_rfl)
    (case qVp => first | k_is | rfl | kernel_rfl)
    (case qVh => first | k_is | rfl | kernel_rfl)
    (case qVo => first | k_is | rfl | kernel_rfl)
    (case qVs => first | k_is | rfl | kernel_rfl)
    (case qVm => first | k_is | rfl | kernel_rfl)
    (case qVk => first | k_is | rfl | kernel_rfl)
    (case qVn0 => first | k_is | rfl | kernel_rfl)
    (case qVn1 => first | k_is | rfl | kernel_rfl)
    (case qVn2 => first | k_is | rfl | kernel_rfl)
    (case qVn3 => first | k_is | rfl | kernel_rfl)
    (case iV0 => first | k_is | rfl | kernel_rfl)
    (case jV0 => first | k_is | rfl | kernel_rfl)
    (case lV0 => first | k_is | rfl | kernel_rfl)
    (case cV0 => first | k_is | rfl | kernel_rfl)
    (case kpV0 => first | k_is | rfl | kernel_rfl)
    (case iV1 => first | k_is | rfl | kernel_rfl)
    (case jV1 => first | k_is | rfl | kernel_rfl)
    (case lV1 => first | k_is | rfl | kernel_rfl)
    (case cV1 => first | k_is | rfl | kernel_rfl)
    (case kpV1 => first | k_is | rfl | kernel_rfl)
    (case iV2 => first | k_is | rfl | kernel_rfl)
    (case jV2 => first | k_is | rfl | kernel_rfl)
    (case lV2 => first | k_is | rfl | kernel_rfl)
    (case cV2 => first | k_is | rfl | kernel_rfl)
    (case kpV2 => first | k_is | rfl | kernel_rfl)
    (case iV3 => first | k_is | rfl | kernel_rfl)
    (case jV3 => first | k_is | rfl | kernel_rfl)
    (case lV3 => first | k_is | rfl | kernel_rfl)
    (case cV3 => first | k_is | rfl | kernel_rfl)
    (case kpV3 => first | k_is | rfl | kernel_rfl)
    (case iV4 => first | k_is | rfl | kernel_rfl)
    (case jV4 => first | k_is | rfl | kernel_rfl)
    (case lV4 => first | k_is | rfl | kernel_rfl)
    (case cV4 => first | k_is | rfl | kernel_rfl)
    (case kpV4 => first | k_is | rfl | kernel_rfl)
    (case qWa => first | k_is | rfl | kernel_rfl)
    (case qWp => first | k_is | rfl | kernel_rfl)
    (case qWh => first | k_is | rfl | kernel_rfl)
    (case qWo => first | k_is | rfl | kernel_rfl)
    (case qWs => first | k_is | rfl | kernel_rfl)
    (case qWm => first | k_is | rfl | kernel_rfl)
    (case qWk => first | k_is | rfl | kernel_rfl)
    (case qWn0 => first | k_is | rfl | kernel_rfl)
    (case qWn1 => first | k_is | rfl | kernel_rfl)
    (case qWn2 => first | k_is | rfl | kernel_rfl)
    (case iW0 => first | k_is | rfl | kernel_rfl)
    (case jW0 => first | k_is | rfl | kernel_rfl)
    (case lW0 => first | k_is | rfl | kernel_rfl)
    (case cW0 => first | k_is | rfl | kernel_rfl)
    (case kpW0 => first | k_is | rfl | kernel_rfl)
    (case iW2 => first | k_is | rfl | kernel_rfl)
    (case jW2 => first | k_is | rfl | kernel_rfl)
    (case lW2 => first | k_is | rfl | kernel_rfl)
    (case cW2 => first | k_is | rfl | kernel_rfl)
    (case kpW2 => first | k_is | rfl | kernel_rfl)
    (case hqa => first | k_is | rfl | kernel_rfl)
    (case hqb => first | k_is | rfl | kernel_rfl)
    (case hqc => first | k_is | rfl | kernel_rfl)

