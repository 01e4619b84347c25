import PyProof.Rows.All
import Wide.All
import OpenK.AllK
import Wide.FinOn
import PySem.Challenge.RW_waitbolts_k51_places_renamed
import HandS.Evl
import HandS.Ends
import HandS.Words
import HandS.TupSets
import PyProof.ReprRoads
import PyProof.P3In
import KE.GoesEnum
import HandS.Walk
import HandS.Zip
import KE.GoesMore
import PyProof.EnumMake
import HandS.TupLe
import HandS.TupAny
import HandS.Deep
import HandS.DictComp
import HandS.IsInst
import HandS.RevRange
import HandS.Conv
import HandS.Style
import HandS.Wide
import HandS.WideMore
import HandS.Dict
import HandS.Comp
import HandS.Flow
import HandS.WordsList
import HandS.WordsDict
import HandS.Exc
import HandS.ExcOwn
import PyProof.DictFindH
import HandS.Sort
import HandS.Keys
import HandS.SortOrd
import HandS.SortRule
import HandS.SortInts
import PyProof.TupleOfSeq
import HandS.ExcValue
import HandS.ExcInit
import HandS.ExcField
import HandS.ExcIs
import HandS.WordsExc
import HandS.ExcBuiltin
import HandS.TryMany
import HandS.Lambda
import HandS.Small
import HandS.SetFor
import HandS.Strs
import HandS.TupMul
import HandS.ReCall
import HandS.EndTab
import KE.KNestM
set_option Elab.async false
set_option linter.all false
set_option maxRecDepth 100000
set_option maxHeartbeats 2000000
namespace Wb
open PySem PySem.Spec PyProof.Rows L2

/-! ### promises that know that no repr runs around them -/
structure FnG (P : Program) (w : World) (K : PySem.W.Frag) (mg : Str → Option Value) (base : Heap) (k : Nat) (f : Addr) (fd : FuncData) (ps : List Str) (sp : Sp) : Prop where
  len : ∀ vs H Q E, sp vs H Q E → vs.length = ps.length
  go : ∀ (A : Around) (outer : List Env) (s : Shared) (H : Hp) (args : Args) (us : List Value) (vs : List V) (Q : VK) (E : XK),
    A.guards = some [] → Room k A → Env0 P w K mg base A outer s H → BindsTo s fd args (ps.zip us) → Vals vs us → sp vs H Q E →
    codeAny (model P w) A (.call (.ref f) args) (CR CX0 outer P w H s Q E) s

section
variable {P : Program} {w : World} {K : PySem.W.Frag} {mg : Str → Option Value} {base : Heap}
theorem fnG_ok {x qual : Str} {st : Stmt} {f : Addr} {fd : FuncData} {N ps : List Str} {k : Nat} {sp : Sp} (F : Fun K x qual st f fd)
    (S : FnScope N ps (defScope st)) (len : ∀ vs H Q E, sp vs H Q E → vs.length = ps.length)
    (hbody : ∀ (cdv : Value) (A : Around) (outer : List Env) (s : Shared) (H : Hp) (vs : List V) (Q : VK) (E : XK), A.guards = some [] →
      Room k (A.deeper (envOfC qual (defScope st) s.heap.objs.size f cdv)) → sp vs H Q E →
      ∃ t, PSs (cxOf CX0 P w K mg base N qual (defScope st) f cdv A outer s H E).nox (defBody st) t ∧
        t { nx := fun _ H' => Q .non H', rt := Q } (start N vs) H) : FnG P w K mg base (k + 1) f fd ps sp := by
  obtain ⟨oc, od, kV, doc, pm, an, cdv, ct, osl, rfl, lk, hcd⟩ := F.ex
  refine ⟨len, ?_⟩
  intro A outer s H args us vs Q E hgd hr e0 hb r hsp
  have e1 : K.In s.heap := e0.mod.kin.keeps (fun b o e => (e0.bs b o e).1)
  have e2 : s.heap.NoLimit := e0.mod.nolimit.keeps (fun b o e => (e0.bs b o e).1)
  have kinds : ∀ y ∈ ps.zip us, (defScope st).names.lookup y.1 = some .local ∨
      ((defScope st).names.lookup y.1 = some .cell ∧ ((cellsFrom (s.heap.objs.size + 1) (defScope st).names []).lookup y.1).isSome = true) := by
    rintro ⟨n, v⟩ hy
    cases S.par n (List.of_mem_zip hy).1 with
    | inl q => exact .inl q
    | inr q => exact .inr ⟨q, PySem.W.cellsFrom_some _ _ _ (.inl q)⟩
  apply codeAny_call_function hr.depth (e1 _ _ lk) rfl S.co S.gen rfl (PySem.W.codeRec_of e1 hcd)
  apply hb
  apply wpAny_newFunctionEnv_cells S.kind kinds
  intro env he s1 x
  subst he
  refine ⟨e2.keeps x.toInCall.keep, codeAny_func ?_⟩
  obtain ⟨t, ht, hq⟩ := hbody cdv A outer s H vs Q E hgd (hr.deeper _) hsp
  have I := inv_start (CX := CX0) (P := P) (w := w) (qual := qual) (E := E) S hr.hd e0 (len _ _ _ _ hsp) r x
  apply wpAny_mono (ht.nox.run [] s1 (start N vs) H _ I hq)
  · intro fl s' hs
    cases fl
    case next =>
      obtain ⟨σ', H', J, q⟩ := hs
      exact ⟨V.non, H', J.os, J.bare, J.base, J.hok, rfl, q⟩
    case brk => obtain ⟨_, _, _, q⟩ := hs; exact q.elim
    case cont => obtain ⟨_, _, _, q⟩ := hs; exact q.elim
    case ret u =>
      obtain ⟨v, σ', H', J, rv, q⟩ := hs
      exact ⟨v, H', J.os, J.bare, J.base, J.hok, rv, q⟩
  · intro e s' hs
    exact hs
end

section
variable {X : Cx}
/-! ### repr of data -/
def rRepr (K : PySem.W.Frag) : List V → Hp → VK → Prop := fun xs H Q => ∃ (a : Addr) (d : PyData), xs = [.ref a] ∧ Dp K H (.ref a) d ∧ d.showable = true ∧ d.hasDict = false ∧ d.depth ≤ 20 ∧ d.shown.length ≤ sizeLine ∧ Q (.str d.shown) H
theorem call_repr_data (hu : X.A.units + 64 < cLine) (hg : X.A.guards = some []) : CallR X (.builtin "repr") (rRepr X.K) := by
  intro pins s σ H xs us Q I r h
  obtain ⟨a, d, rfl, hd, h1, h2, h3, h4, q⟩ := h
  cases r with
  | cons r1 r2 =>
    cases r2
    obtain ⟨as, rd⟩ := Dp.reads I d _ _ hd r1
    cases r1
    refine repr_of_reads' rd h1 (fun z => by rw [h2] at z; cases z) hg (by omega) (fun _ _ e => e) (fun h' u tk hk => ?_) h4
    exact ⟨.str d.shown, H, I.kept (t' := tk) hk, ⟨u, rfl⟩, q⟩
/-! ### x in a tuple of data -/
def rInTD (K : PySem.W.Frag) : R2 := fun x y H Q => ∃ d ds, Dp K H x d ∧ Dp K H y (.tuple ds) ∧ SeqAt.shaped d = true ∧ SeqAt.shaped (.tuple ds) = true ∧ Q (.bl (ds.any fun z => PyData.eqv z d)) H
theorem op_inTD (hu : X.A.units + 65 < cLine) : OpR X (compareOp .In) (rInTD X.K) := by
  intro pins s σ H x y v u Q I rx ry h
  obtain ⟨d, ds, hd, he, sd, se, q⟩ := h
  obtain ⟨as, r1⟩ := Dp.reads I d x v hd rx
  obtain ⟨bs, r2⟩ := Dp.reads I (.tuple ds) y u he ry
  have hdp := SeqAt.depth_of_shaped sd
  have hcl : PyData.canLayAll0 ds = true := by
    have z := SeqAt.canLay_of_shaped se
    simpa [PyData.canLay0] using z
  refine SeqAt.in_tuple_reads r2 r1 hcl (SeqAt.canLay_of_shaped sd) (by show X.A.units + 1 + min _ _ < cLine; omega) ⟨.bl _, H, I, rfl, q⟩
end
end Wb

set_option Elab.async false
set_option linter.all false
set_option maxRecDepth 100000
set_option maxHeartbeats 2000000
namespace Wb
open PySem PySem.Spec PyProof.Rows L2

/-! ### a list or a tuple that is read: l tells which -/
def SqX (K : PySem.W.Frag) (l : Bool) (H : Hp) (a : Addr) (xs : List V) : Prop := if l = true then SqL K H a xs else SqT K H a xs
def ItAt (l : Bool) (h : Heap) (it a : Addr) (i : Nat) : Prop := if l = true then h.IsListIter it a i else h.IsTupleIter it a i
def SqAt (l : Bool) (h : Heap) (a : Addr) (us : Array Value) : Prop := if l = true then h.IsList a us else h.IsTuple a us
def itObj (l : Bool) (a : Addr) : Obj := if l = true then { cls := .type "list_iterator", data := .fields #[.ref a, .int 0 0] } else { cls := .type "tuple_iterator", data := .fields #[.ref a, .int 0 0] }

theorem itObj_at (l : Bool) {h : Heap} {it a : Addr} (e : h.get? it = some (itObj l a)) : ItAt l h it a 0 := by
  cases l
  · exact ⟨_, e, rfl, rfl⟩
  · exact ⟨_, e, rfl, rfl⟩
theorem ItAt.obj {l : Bool} {h : Heap} {it a : Addr} {i : Nat} (x : ItAt l h it a i) : ∃ o, h.get? it = some o ∧ ∀ v, o.data ≠ .cell v := by
  cases l
  · obtain ⟨o, e, _, d⟩ := x
    exact ⟨o, e, fun v q => by rw [d] at q; cases q⟩
  · obtain ⟨o, e, _, d⟩ := x
    exact ⟨o, e, fun v q => by rw [d] at q; cases q⟩
theorem ItAt.keep {l : Bool} {h h' : Heap} {it a : Addr} {i : Nat} (x : ItAt l h it a i) (k : ∀ o, h.get? it = some o → h'.get? it = some o) : ItAt l h' it a i := by
  cases l
  · exact Heap.IsTupleIter.at x k
  · exact Heap.IsListIter.at x k
theorem draws_at {prog : Program} {w : World} {A : Around} (hh : A.handled = none) (l : Bool) (it a : Addr) (hne : a ≠ it) (us : Array Value) :
    Draws prog w A it [it, a] us.size (fun i v => us[i]? = some v) (fun i h => ItAt l h it a i ∧ SqAt l h a us) := by
  cases l
  · exact Draws.tuple hh it a hne us
  · exact Draws.list hh it a hne us
theorem begins_at (l : Bool) (a : Addr) (us : Array Value) : Begins (.ref a) (itObj l a) (fun h => SqAt l h a us) := by
  cases l
  · exact begins_tuple a us
  · exact begins_list a us
section
variable {X : Cx} {pins : List (Addr × Obj)} {σ : L2.St} {H : Hp} {s : Shared}
theorem sqx_vals (I : Inv X pins σ H s) {l : Bool} {a : Addr} {xs : List V} (h : SqX X.K l H a xs) : ∃ us : List Value, Vals xs us ∧ SqAt l s.heap a us.toArray ∧ a < s.heap.objs.size := by
  cases l
  · obtain ⟨us, r, p, _⟩ := I.tuple (a := a) (xs := xs) h
    have p' : s.heap.IsTuple a us.toArray := p
    obtain ⟨o, e, _⟩ := p
    exact ⟨us, r, p', Heap.lt_size e⟩
  · obtain ⟨us, r, p, _⟩ := I.list (a := a) (xs := xs) h
    exact ⟨us, r, p.isList, p.lt⟩
theorem sqx_one (I : Inv X pins σ H s) {l : Bool} {a : Addr} {xs ys : List V} (h : SqX X.K l H a xs) (h' : SqX X.K l H a ys) : xs = ys := by
  cases l
  · exact I.tuple_inj (a := a) h h'
  · exact I.list_inj (a := a) h h'
end

/-! ### zip over any two of them -/
def Itzx (K : PySem.W.Frag) (l m : Bool) (a b : Addr) : It :=
  ⟨fun i H => ∃ (xs ys : List V) (x y : V), SqX K l H a xs ∧ SqX K m H b ys ∧ xs[i]? = some x ∧ ys[i]? = some y,
   fun i H v H' => ∃ T x y, v = .ref T ∧ H T = none ∧ H' = upd H T (.tup [x, y]) ∧ (∀ xs, SqX K l H a xs → xs[i]? = some x) ∧ ∀ ys, SqX K m H b ys → ys[i]? = some y,
   fun i H => ∃ xs ys : List V, SqX K l H a xs ∧ SqX K m H b ys ∧ (i = xs.length ∧ i ≤ ys.length ∨ i = ys.length ∧ i ≤ xs.length)⟩
structure Apart5 (z TI TO i1 i2 a b : Addr) : Prop where
  sep : ZipSep2 z TI TO i1 i2 [i1, a] [i2, b]
  n1 : a ≠ i1
  n2 : b ≠ i2
theorem turn_zx {P : Program} {w : World} {K : PySem.W.Frag} {elts : List Expr} {kk : Nat} {tpos : Pos} {a b z TI TO i1 i2 : Addr} {l m : Bool} (D : Apart5 z TI TO i1 i2 a b) :
    Turn P w K (.Tuple elts kk tpos) (Itzx K l m a b) [z, TI, TO, i1, i2] z
      (fun i h => IsZip h z TI TO .none ∧ IsTupOf2 h TI (.ref i1) (.ref i2) ∧ (∃ x y, IsTupOf2 h TO x y) ∧ ItAt l h i1 a i ∧ ItAt m h i2 b i) where
  mem := by simp
  obj := by
    rintro i h ⟨q1, q2, ⟨x, y, q3⟩, q4, q5⟩ c hc
    simp only [List.mem_cons, List.not_mem_nil, or_false] at hc
    rcases hc with rfl | rfl | rfl | rfl | rfl
    · exact ⟨_, q1, fun v q => nomatch q⟩
    · exact ⟨_, q2, fun v q => nomatch q⟩
    · exact ⟨_, q3, fun v q => nomatch q⟩
    · exact q4.obj
    · exact q5.obj
  keep := by
    rintro i h h' ⟨q1, q2, ⟨x, y, q3⟩, q4, q5⟩ k
    exact ⟨k _ (by simp) _ q1, k _ (by simp) _ q2, ⟨x, y, k _ (by simp) _ q3⟩, q4.keep (k i1 (by simp)), q5.keep (k i2 (by simp))⟩
  item := by
    intro X hP hw hK hc i pins s σ H E I hf st hg
    subst hP hw hK
    obtain ⟨q1, q2, ⟨x0, y0, q3⟩, q4, q5⟩ := st
    obtain ⟨xs, ys, x, y, hx, hy, ex, ey⟩ := hg
    obtain ⟨us, r1, p1, lt1⟩ := sqx_vals I hx
    obtain ⟨vs, r2, p2, lt2⟩ := sqx_vals I hy
    obtain ⟨u, hu, ru⟩ := r1.get ex
    obtain ⟨v, hv, rv⟩ := r2.get ey
    have hh : X.A.in1.handled = none := I.ok.hd hc
    have g1 := draws_at (prog := X.prog) (w := X.w) hh l i1 a D.n1 us.toArray
    have g2 := draws_at (prog := X.prog) (w := X.w) hh m i2 b D.n2 vs.toArray
    have b1 : i < us.toArray.size := by
      have := (List.getElem?_eq_some_iff.mp hu).1
      simpa using this
    have b2 : i < vs.toArray.size := by
      have := (List.getElem?_eq_some_iff.mp hv).1
      simpa using this
    have zl : z < s.heap.objs.size := Heap.lt_size q1
    refine wpAny_pyNext_zipD2_item D.sep g1 g2 q1 q2 q3 ⟨q4, p1⟩ ⟨q5, p2⟩ b1 b2 ?_
    intro u' v' h' tk eu ev z' TO' t1 t2 hT hsz hk
    have eu' : u' = u := by
      have e : us[i]? = some u' := by simpa using eu
      exact Option.some.inj (e.symm.trans hu)
    have ev' : v' = v := by
      have e : vs[i]? = some v' := by simpa using ev
      exact Option.some.inj (e.symm.trans hv)
    subst eu'
    subst ev'
    refine ⟨_, rfl, wpAny_letOwnedTupleGo_zip (s := { s with heap := h', toks := tk }) z' ?_⟩
    intro h2 z2 sb
    have keepT : h2.get? s.heap.objs.size = some { cls := .type "tuple", data := .seq #[u', v'] } := (sb.2 _ (Nat.ne_of_gt zl)).trans hT
    have all : ∀ c o, c ∉ [z, TI, TO, i1, i2] → s.heap.get? c = some o → h2.get? c = some o := by
      intro c o hc e
      simp only [List.mem_cons, List.not_mem_nil, or_false, not_or] at hc
      exact (sb.2 c hc.1).trans (hk c o hc.1 hc.2.2.1 hc.2.2.2.1 hc.2.2.2.2 e)
    have new : ObjOk X.prog X.w (upd H s.heap.objs.size (.tup [x, y])) h2 s.heap.objs.size (.tup [x, y]) :=
      ⟨(by decide : 2 ≤ sizeLine), [u', v'], Paired.cons ru (Paired.cons rv Paired.nil), ⟨_, keepT, rfl, _, rfl⟩⟩
    have J := I.turnedNew (t' := tk) all hf (Nat.le_refl _) new
    refine ⟨.ref s.heap.objs.size, _, J, rfl, ⟨_, x, y, rfl, I.hok.fresh (Nat.le_refl _), rfl, fun xs' h1 => ?_, fun ys' h1 => ?_⟩, ⟨z2, ?_, ⟨u', v', ?_⟩, ?_, ?_⟩, fun c hc => ?_⟩
    · rw [sqx_one I h1 hx]; exact ex
    · rw [sqx_one I h1 hy]; exact ey
    · exact (sb.2 _ D.sep.TIz).trans (hk _ _ D.sep.TIz D.sep.TITO D.sep.TIi1 D.sep.TIi2 q2)
    · exact (sb.2 _ D.sep.TOz).trans TO'
    · exact t1.1.keep fun o e => (sb.2 _ (Ne.symm D.sep.zi1)).trans e
    · exact t2.1.keep fun o e => (sb.2 _ (Ne.symm D.sep.zi2)).trans e
    · have hlt : c < s.heap.objs.size := by
        simp only [List.mem_cons, List.not_mem_nil, or_false] at hc
        rcases hc with rfl | rfl | rfl | rfl | rfl
        · exact zl
        · exact Heap.lt_size q2
        · exact Heap.lt_size q3
        · obtain ⟨o, e, _⟩ := q4.obj; exact Heap.lt_size e
        · obtain ⟨o, e, _⟩ := q5.obj; exact Heap.lt_size e
      rw [upd_ne (Nat.ne_of_lt hlt)]
      exact (hf c hc).1
  done := by
    intro X hP hw hK hc i pins s σ H E I hf st hg
    subst hP hw hK
    obtain ⟨q1, q2, ⟨x0, y0, q3⟩, q4, q5⟩ := st
    obtain ⟨xs, ys, hx, hy, he⟩ := hg
    obtain ⟨us, r1, p1, lt1⟩ := sqx_vals I hx
    obtain ⟨vs, r2, p2, lt2⟩ := sqx_vals I hy
    have hh : X.A.in1.handled = none := I.ok.hd hc
    have g1 := draws_at (prog := X.prog) (w := X.w) hh l i1 a D.n1 us.toArray
    have g2 := draws_at (prog := X.prog) (w := X.w) hh m i2 b D.n2 vs.toArray
    have e1 : us.toArray.size = xs.length := by rw [List.size_toArray, r1.length]
    have e2 : vs.toArray.size = ys.length := by rw [List.size_toArray, r2.length]
    refine wpAny_pyNext_zipD2_end D.sep g1 g2 q1 q2 q3 ⟨q4, p1⟩ ⟨q5, p2⟩ (by omega) (by omega) (by omega) ?_
    intro h' tk hk
    refine ⟨rfl, I.turnedL (t' := tk) (ch := [z, TI, TO, i1, i2]) (fun c o hc e => ?_) hf⟩
    simp only [List.mem_cons, List.not_mem_nil, or_false, not_or] at hc
    exact hk c o hc.1 hc.2.2.1 hc.2.2.2.1 hc.2.2.2.2 e
  self := fun A i s Q E st h => wpAny_pyIter_zip st.1 h

def iZipX (K : PySem.W.Frag) (ta : TA) : TI := fun σ H R => ta σ H fun vs H1 => ∃ l m a b xs ys, vs = [.ref a, .ref b] ∧ SqX K l H1 a xs ∧ SqX K m H1 b ys ∧ R (Itzx K l m a b) H1
theorem pi_zipX {X : Cx} {e e2 : Expr} {ta : TA} {p pos tpos : Pos} {elts : List Expr} {kk : Nat} (hg : Gl X "zip") (hm : X.mg "zip" = none) (ha : PA X [e, e2] ta)
    (hs : starEach [e, e2] X.env = (false, eval e X.env) :: starEach [e2] X.env := by rfl) (hpl : (backTo pos (starEach [e2] X.env)).any (·.1) = false := by rfl) :
    PI X (.Tuple elts kk tpos) (.Call (.Name "zip" p) [e, e2] [] pos) (iZipX X.K ta) := by
  constructor
  intro pins s σ H R I h
  refine Call_ (ld_blt I hg hm PyProof.Rows.boot_zip (PyProof.Rows.callWith_type1 (thn (ha.run pos pins s σ H _ I h) ?_) hs hpl))
  rintro us s1 ⟨vs, H1, I1, r1, l, m, a, b, xs, ys, rfl, hx, hy, q⟩
  obtain ⟨us1, w1, p1, lt1⟩ := sqx_vals I1 hx
  obtain ⟨us2, w2, p2, lt2⟩ := sqx_vals I1 hy
  rcases r1 with _ | ⟨ra, r1⟩
  rcases r1 with _ | ⟨rb, r1⟩
  cases r1
  cases ra
  cases rb
  refine zip_begins2 (begins_at l a us1.toArray) (begins_at m b us2.toArray) p1 p2 ?_
  intro h' hz hTI hTO h1 h2 hsz hk
  refine wpAny_pyIter_zip hz ?_
  have I2 : Inv X pins σ H1 { s1 with heap := h' } := I1.kept (t' := s1.toks) hk
  have D : Apart5 (s1.heap.objs.size + 4) (s1.heap.objs.size + 2) (s1.heap.objs.size + 3) s1.heap.objs.size (s1.heap.objs.size + 1) a b :=
    ⟨zip_sep2 (N := s1.heap.objs.size) (fp1 := [a]) (fp2 := [b]) (by simpa using lt1) (by simpa using lt2), Nat.ne_of_lt lt1, Nat.ne_of_lt (Nat.lt_succ_of_lt lt2)⟩
  refine ⟨s1.heap.objs.size + 4, [s1.heap.objs.size + 4, s1.heap.objs.size + 2, s1.heap.objs.size + 3, s1.heap.objs.size, s1.heap.objs.size + 1], _, _, H1, rfl, I2, turn_zx D, ⟨hz, hTI, ⟨_, _, hTO⟩, itObj_at l h1, itObj_at m h2⟩, ?_, q⟩
  intro c hc
  have hle : s1.heap.objs.size ≤ c := by
    simp only [List.mem_cons, List.not_mem_nil, or_false] at hc
    rcases hc with rfl | rfl | rfl | rfl | rfl
    · exact Nat.le_add_right _ _
    · exact Nat.le_add_right _ _
    · exact Nat.le_add_right _ _
    · exact Nat.le_refl _
    · exact Nat.le_add_right _ _
  exact I1.fpOk hle (I1.hok.fresh hle)
theorem walk_zx {K : PySem.W.Frag} {l m : Bool} {a b : Addr} {xs ys : List V} (hl : xs.length = ys.length) :
    Walk (Itzx K l m a b) xs.length (fun H => SqX K l H a xs ∧ SqX K m H b ys) (YPair (fun i => xs[i]?) (fun i => ys[i]?)) := by
  refine ⟨fun i H hi q => ?_, fun H q => ⟨xs, ys, q.1, q.2, .inl ⟨rfl, by omega⟩⟩, fun i H v H' hi q y => ?_⟩
  · have h2 : i < ys.length := by omega
    exact ⟨xs, ys, xs[i], ys[i], q.1, q.2, by simp [hi], by simp [h2]⟩
  · obtain ⟨T, x, z, h1, h2, h3, h4, h5⟩ := y
    exact ⟨T, x, z, h1, h2, h3, h4 xs q.1, h5 ys q.2⟩

/-! ### enumerate over either -/
def Itex (K : PySem.W.Frag) (l : Bool) (a : Addr) : It :=
  ⟨fun i H => ∃ (xs : List V) (x : V), SqX K l H a xs ∧ xs[i]? = some x,
   fun i H v H' => ∃ T x, v = .ref T ∧ H T = none ∧ H' = upd H T (.tup [.int (i : Nat), x]) ∧ ∀ xs, SqX K l H a xs → xs[i]? = some x,
   fun i H => ∃ xs : List V, SqX K l H a xs ∧ i = xs.length⟩
end Wb

set_option Elab.async false
set_option linter.all false
set_option maxRecDepth 100000
set_option maxHeartbeats 2000000
namespace Wb
open PySem PySem.Spec PyProof.Rows L2
open AutoSeq1 (wpAny_loadPart')

theorem meets_enumT (a : Addr) (us : Array Value) (n : Nat) (dct : Option Addr) (sl : Array (Option Value)) :
    Meets (Builtin.«enumerate.__new__» ⟨[.type "enumerate", .ref a], []⟩) (fun _ R s => s.heap.get? a = some { cls := .type "tuple", dict := dct, data := .seq us n, slots := sl } ∧
      R (.ok (.ret (.ref (s.heap.push (itObj false a)).objs.size)))
        { s with heap := (s.heap.push (itObj false a)).push { cls := .type "enumerate", data := .fields #[.none, .bool false, .ref s.heap.objs.size, rawInt 0, .none, .none] } }) := by
  apply Meets.of_wp
  intro prog w A R s h
  obtain ⟨hp, g, d, tk, os⟩ := s
  obtain ⟨hl, h⟩ := h
  have hsub := sub_enumerate
  have hT : Heap.IsTuple (Shared.heap ⟨hp, g, d, tk, os⟩) a us := ⟨_, hl, rfl, n, rfl⟩
  wp_walk using wpAny_loadPart' hl
  apply wpAny_stack_any
  intro st
  apply wpAny_pure
  split
  · rename_i c _ _ _ _ _
    cases (c == Value.type "enumerate") <;> wp_walk using wpAny_loadPart' hl, wpAny_pyIter_tuple hT
    · exact ⟨_, rfl, h⟩
    · exact ⟨_, rfl, h⟩
  · wp_walk using wpAny_loadPart' hl, wpAny_pyIter_tuple hT
    exact ⟨_, rfl, h⟩
theorem call_enumT {prog : Program} {w : World} {A : Around} {E : Value → Shared → Prop} {s : Shared} {a : Addr} {us : Array Value} {Q : Value → Shared → Prop} (hT : s.heap.IsTuple a us)
    (h : ∀ h', IsEnum h' (s.heap.objs.size + 1) s.heap.objs.size 0 .none → ItAt false h' s.heap.objs.size a 0 → (∀ b o, s.heap.get? b = some o → h'.get? b = some o) → Q (.ref (s.heap.objs.size + 1)) { s with heap := h' }) :
    wpAny (model prog w) A (call (.type "enumerate") [.ref a]) Q E s := by
  obtain ⟨⟨c, dct, dt, sl⟩, hl, hc, n, hd⟩ := hT
  have hc' : c = .type "tuple" := hc
  have hd' : dt = .seq us n := hd
  subst hc' hd'
  refine callType_new F.called_enumerate (by decide) (F.typeCall_enumerate_1 _) (F.newCall_enumerate_1 _) (fun obj => F.args_object_init_2 obj _) F.entry_enumerate_new (meets_enumT a us n dct sl) ⟨hl, ?_⟩
  have sz : (s.heap.push (itObj false a)).objs.size = s.heap.objs.size + 1 := Heap.size_push ..
  have e0 := Heap.get?_push_size (s.heap.push (itObj false a)) (o := { cls := .type "enumerate", data := .fields #[.none, .bool false, .ref s.heap.objs.size, rawInt 0, .none, .none] }) rfl
  rw [sz] at e0
  show _ ∧ _
  rw [sz]
  exact ⟨⟨_, e0, rfl⟩, h _ e0 (itObj_at false (Heap.get?_push_of_some _ (Heap.get?_push_size _ rfl))) fun b o x => Heap.get?_push_of_some _ (Heap.get?_push_of_some _ x)⟩

/-- the tuple at a, item by item, each in a new pair with its number -/
def Itet (K : PySem.W.Frag) (a : Addr) : It :=
  ⟨fun i H => ∃ (xs : List V) (x : V), SqT K H a xs ∧ xs[i]? = some x,
   fun i H v H' => ∃ T x, v = .ref T ∧ H T = none ∧ H' = upd H T (.tup [.int (i : Nat), x]) ∧ ∀ xs, SqT K H a xs → xs[i]? = some x,
   fun i H => ∃ xs : List V, SqT K H a xs ∧ i = xs.length⟩
theorem turn_et {P : Program} {w : World} {K : PySem.W.Frag} {elts : List Expr} {kk : Nat} {tpos : Pos} (a e it : Addr) (hne : e ≠ it) (hea : e ≠ a) (hia : a ≠ it) :
    Turn P w K (.Tuple elts kk tpos) (Itet K a) [e, it] e (fun i h => (∃ old, IsEnum h e it ((i : Nat) : Int) old) ∧ ItAt false h it a i) where
  mem := by simp
  obj := by
    rintro i h ⟨⟨old, q1⟩, q2⟩ b hb
    simp only [List.mem_cons, List.not_mem_nil, or_false] at hb
    rcases hb with rfl | rfl
    · exact ⟨_, q1, fun v q => nomatch q⟩
    · exact q2.obj
  keep := by
    rintro i h h' ⟨⟨old, q1⟩, q2⟩ k
    exact ⟨⟨old, k _ (by simp) _ q1⟩, q2.keep (k it (by simp))⟩
  item := by
    intro X hP hw hK hc i pins s σ H E I hf st hg
    subst hP hw hK
    obtain ⟨⟨old, q1⟩, q2⟩ := st
    obtain ⟨xs, x, hx, ex⟩ := hg
    obtain ⟨us, r1, p1, lt1⟩ := sqx_vals (l := false) I hx
    obtain ⟨u, hu, ru⟩ := r1.get ex
    have hh : X.A.in1.handled = none := I.ok.hd hc
    have g1 := draws_at (prog := X.prog) (w := X.w) hh false it a hia us.toArray
    have b1 : i < us.toArray.size := by
      have := (List.getElem?_eq_some_iff.mp hu).1
      simpa using this
    have el : e < s.heap.objs.size := Heap.lt_size q1
    have il : it < s.heap.objs.size := by obtain ⟨o, z, _⟩ := q2.obj; exact Heap.lt_size z
    refine wpAny_pyNext_enum_itemC g1 q1 ⟨q2, p1⟩ b1 hne (by simp [hne, hea]) ?_
    intro u' h' tk eu ho t1 hT hsz hk
    have eu' : u' = u := by
      have z : us[i]? = some u' := by simpa using eu
      exact Option.some.inj (z.symm.trans hu)
    subst eu'
    refine ⟨_, rfl, wpAny_letOwnedTupleGo_enum (s := { s with heap := h', toks := tk + 1 }) ho ?_⟩
    intro h2 he' sb
    have keepT := (sb.2 _ (Nat.ne_of_gt el)).trans hT
    have all : ∀ c o, c ∉ [e, it] → s.heap.get? c = some o → h2.get? c = some o := by
      intro c o hc z
      simp only [List.mem_cons, List.not_mem_nil, or_false, not_or] at hc
      exact (sb.2 c hc.1).trans (hk c o hc.1 hc.2 z)
    have new : ObjOk X.prog X.w (upd H s.heap.objs.size (.tup [.int (i : Nat), x])) h2 s.heap.objs.size (.tup [.int (i : Nat), x]) :=
      ⟨(by decide : 2 ≤ sizeLine), [.int i tk, u'], Paired.cons ⟨_, rfl⟩ (Paired.cons ru Paired.nil), ⟨_, keepT, rfl, _, rfl⟩⟩
    have J := I.turnedNew (t' := tk + 1) all hf (Nat.le_refl _) new
    refine ⟨.ref s.heap.objs.size, _, J, rfl, ⟨_, x, rfl, I.hok.fresh (Nat.le_refl _), rfl, fun xs' h1 => ?_⟩, ⟨⟨u', ?_⟩, ?_⟩, fun c hc => ?_⟩
    · rw [sqx_one (l := false) I h1 hx]; exact ex
    · have z : ((i + 1 : Nat) : Int) = (i : Int) + 1 := by omega
      rw [z]
      exact he'
    · exact t1.1.keep fun o z => (sb.2 _ (Ne.symm hne)).trans z
    · have hlt : c < s.heap.objs.size := by
        simp only [List.mem_cons, List.not_mem_nil, or_false] at hc
        rcases hc with rfl | rfl
        · exact el
        · exact il
      rw [upd_ne (Nat.ne_of_lt hlt)]
      exact (hf c hc).1
  done := by
    intro X hP hw hK hc i pins s σ H E I hf st hg
    subst hP hw hK
    obtain ⟨⟨old, q1⟩, q2⟩ := st
    obtain ⟨xs, hx, he⟩ := hg
    obtain ⟨us, r1, p1, lt1⟩ := sqx_vals (l := false) I hx
    have hh : X.A.in1.handled = none := I.ok.hd hc
    have g1 := draws_at (prog := X.prog) (w := X.w) hh false it a hia us.toArray
    have e1 : us.toArray.size = i := by rw [List.size_toArray, ← r1.length, he]
    refine wpAny_pyNext_enum_endD g1 q1 (by rw [e1]; exact ⟨q2, p1⟩) ?_
    intro h' eb
    obtain ⟨f0, f1, f2, f3, f4, f5⟩ := hf it (by simp)
    exact ⟨rfl, I.turned (t' := s.toks) (fun b o hb q => eb b o hb q) f0 f1 f3 f4 f5⟩
  self := by
    rintro A i s Q E ⟨⟨old, q1⟩, _⟩ h
    exact wpAny_pyIter_enum q1 h
def iEnumT (K : PySem.W.Frag) (ta : TA) : TI := fun σ H R => ta σ H fun vs H1 => ∃ a xs, vs = [.ref a] ∧ SqT K H1 a xs ∧ R (Itet K a) H1
theorem pi_enumT {X : Cx} {e : Expr} {ta : TA} {p pos tpos : Pos} {elts : List Expr} {kk : Nat} (hg : Gl X "enumerate") (hm : X.mg "enumerate" = none) (ha : PA X [e] ta)
    (hs : starEach [e] X.env = [(false, eval e X.env)] := by rfl) : PI X (.Tuple elts kk tpos) (.Call (.Name "enumerate" p) [e] [] pos) (iEnumT X.K ta) := by
  constructor
  intro pins s σ H R I h
  refine Call_ (ld_blt I hg hm boot_enumerate (PyProof.Rows.callWith_type1 (thn (ha.run pos pins s σ H _ I h) ?_) hs rfl))
  rintro us s1 ⟨vs, H1, I1, r1, a, xs, rfl, hx, q⟩
  obtain ⟨us1, w1, p1, lt1⟩ := sqx_vals (l := false) I1 hx
  rcases r1 with _ | ⟨ra, r1⟩
  cases r1
  cases ra
  refine call_enumT p1 ?_
  intro h' he hit hk
  refine wpAny_pyIter_enum he ?_
  have I2 : Inv X pins σ H1 { s1 with heap := h' } := I1.kept (t' := s1.toks) hk
  refine ⟨s1.heap.objs.size + 1, [s1.heap.objs.size + 1, s1.heap.objs.size], _, _, H1, rfl, I2, turn_et a _ _ (Nat.succ_ne_self _) (Nat.ne_of_gt (Nat.lt_succ_of_lt lt1)) (Nat.ne_of_lt lt1), ⟨⟨.none, he⟩, hit⟩, ?_, q⟩
  intro c hc
  have hle : s1.heap.objs.size ≤ c := by
    simp only [List.mem_cons, List.not_mem_nil, or_false] at hc
    rcases hc with rfl | rfl
    · exact Nat.le_add_right _ _
    · exact Nat.le_refl _
  exact I1.fpOk hle (I1.hok.fresh hle)
theorem walk_et {K : PySem.W.Frag} {a : Addr} {xs : List V} : Walk (Itet K a) xs.length (fun H => SqT K H a xs) (YPair (fun i => some (.int (i : Nat))) (fun i => xs[i]?)) := by
  refine ⟨fun i H hi q => ⟨xs, xs[i], q, by simp [hi]⟩, fun H q => ⟨xs, q, rfl⟩, fun i H v H' hi q y => ?_⟩
  obtain ⟨T, x, h1, h2, h3, h4⟩ := y
  exact ⟨T, .int (i : Nat), x, h1, h2, h3, rfl, h4 xs q⟩
end Wb

set_option Elab.async false
set_option linter.all false
set_option maxRecDepth 100000
set_option maxHeartbeats 2000000
namespace L2
open PySem PySem.Spec PyProof.Rows
section
variable {P : Program} {w : World} {A : Around} {E : Value → Shared → Prop} {s : Shared}
/-- sorted of a set of one tuple, whatever its length -/
theorem sorted_lone {a : Addr} {q : Addr × List Int} {es : Array (Int × Value)} {ep : Nat} {t : SetTable} {Q : Value → Shared → Prop} (R : SetTR P w s.heap a [q] es ep t) (hh : A.handled = none)
    (hQ : ∀ (s' : Shared) (p : Addr) (c : Nat), (∀ b o, s.heap.get? b = some o → s'.heap.get? b = some o) → s'.gens = s.gens → s'.os = s.os → s.heap.objs.size ≤ p →
      s'.heap.get? p = some (seqObj "list" #[.ref q.1] c) → Q (.ref p) s') : wpAny (model P w) A (call (.builtin "sorted") [.ref a]) Q E s := by
  obtain ⟨o, ho, hex, hd⟩ := R.ob
  have sz1 := R.size
  apply Calls.call_function_entry kind_sorted plain_sorted entry_sorted (args_sorted1 _)
  unfold Builtin.«sorted»
  apply wpAny_bind (m := checkCount "sorted" 1 1 _)
  apply wpAny_pure
  apply wpAny_bind
  apply collect_set (A := A.in1) hh ⟨o, ho, hex.1, hd⟩ R.fits (by unfold scanBound; simp at sz1; omega) R.tab.ris R.led
  intro s1 vs k1 hz g1 o1 pm
  have rows1 : es.toList.map (·.2) = [Value.ref q.1] := by
    rw [R.rows]
    rfl
  rw [rows1] at pm
  have evs : vs = [Value.ref q.1] := List.perm_singleton.mp pm
  subst evs
  apply wpAny_bind
  refine wpAny_newList ?_ (show 1 ≤ sizeLine by decide)
  have hoL : (s1.heap.push (seqObj "list" #[Value.ref q.1] 0)).get? s1.heap.objs.size = some (seqObj "list" [Value.ref q.1].toArray 0) := Heap.get?_push_size _ rfl
  apply wpAny_bind
  apply wpAny_holding
  refine wpAny_call_entry (s := { s1 with heap := s1.heap.push (seqObj "list" #[Value.ref q.1] 0) }) slot_list_sort (self := .ref s1.heap.objs.size) ⟨_, hoL, rfl⟩ entry_list_sort ?_ (args_list_sort _)
  refine SK.plain_sort (r := fun _ => 0) hoL (show 1 < 64 by decide) (fun h2 => absurd (show 2 ≤ 1 from h2) (by decide)) ?_
  intro ps out h1 h2 h3
  have eout : out.toList = [Value.ref q.1] := by
    rw [h1]
    have z := h2.map Prod.snd
    exact List.perm_singleton.mp z
  obtain ⟨c, hc⟩ := sortedHeap_at (vs := [Value.ref q.1]) (out := out) hoL
  have eo2 : out = #[Value.ref q.1] := by
    have z := congrArg List.toArray eout
    simpa using z
  subst eo2
  refine ⟨_, rfl, wpAny_pure ⟨_, rfl, hQ _ s1.heap.objs.size c (fun b u e => ?_) g1 o1 hz hc⟩⟩
  have e1 := k1 b u e
  have lt1 := Heap.lt_size e1
  show (sortedHeap (s1.heap.push (seqObj "list" #[Value.ref q.1] 0)) s1.heap.objs.size [Value.ref q.1] #[Value.ref q.1]).get? b = some u
  rw [sortedHeap_old (Nat.ne_of_lt lt1) (by rw [size_push']; exact Nat.lt_succ_of_lt lt1)]
  exact Heap.get?_push_of_some _ e1
end
section
variable {X : Cx}
/-- sorted(set) of tuples of as many ints each -/
def rSortedW (K : PySem.W.Frag) (P : Program) (w : World) : List V → Hp → VK → Prop := fun vs H Q => ∃ (a : Addr) (L : List (Addr × List Int)) (d : Nat) (B : Int), vs = [V.ref a] ∧ H a = some (SetTO P w a L) ∧
  (∀ p ∈ L, SqT K H p.1 (p.2.map V.int)) ∧ (∀ p ∈ L, p.2.length = d ∧ TS.Bd B p.2) ∧ L ≠ [] ∧
  ∀ (L' : List (Addr × List Int)) (p : Addr), L'.Perm L → (L'.map (·.2)).Nodup → L'.length < 64 → L'.Pairwise (fun q r => TS.code B q.2 ≤ TS.code B r.2) → H p = none → Q (.ref p) (upd H p (.lst (L'.map fun q => V.ref q.1)))
theorem cr_sortedW (hc : X.calm = true) : CallR X (.builtin "sorted") (rSortedW X.K X.prog X.w) := by
  intro pins s σ H vs us Q I r h
  obtain ⟨a, L, d, B, e1, ha, hk, hB, hne, q⟩ := h
  by_cases hd : 1 ≤ d
  · exact cr_sortedT hc pins s σ H vs us Q I r ⟨a, L, d, B, e1, ha, hk, hd, hB, q⟩
  · subst e1
    have R0 : SetT0 X.prog X.w s.heap a L := (I.hok a _ ha).1
    obtain ⟨es, ep, t, R⟩ := R0.full fun p hp => I.isT (hk p hp)
    have emp : ∀ p ∈ L, p.2 = [] := fun p hp => List.eq_nil_of_length_eq_zero (by have := (hB p hp).1; omega)
    obtain ⟨p0, rfl⟩ : ∃ p0, L = [p0] := by
      cases L with
      | nil => exact absurd rfl hne
      | cons p0 L1 =>
        cases L1 with
        | nil => exact ⟨p0, rfl⟩
        | cons p1 L2 =>
          exfalso
          have nd := R.nd
          have z0 := emp p0 (by simp)
          have z1 := emp p1 (by simp)
          simp [z0, z1] at nd
    rw [Vals.ref1 r]
    refine sorted_lone R (I.ok.hd hc) ?_
    intro s' p c k g o hp hg
    have hn : H p = none := I.hok.fresh hp
    have J : Inv X pins σ (upd H p (.lst [V.ref p0.1])) { s with heap := s'.heap, gens := s'.gens, drawn := s'.drawn, toks := s'.toks } :=
      I.call (ch := []) (Un.laid k hp hn) (I.hok.laid k hp ⟨(by show 1 ≤ sizeLine; decide), [Value.ref p0.1], c, Paired.cons rfl Paired.nil, hg⟩) (by rw [g]; exact I.bare) (fun _ z => nomatch z)
    have e : s' = { s with heap := s'.heap, gens := s'.gens, drawn := s'.drawn, toks := s'.toks } := by
      cases s'; cases s; cases o; rfl
    rw [e]
    exact ⟨.ref p, _, J, rfl, q [p0] p (List.Perm.refl _) (by simp) (show 1 < 64 by decide) (by simp) hn⟩
end
end L2

set_option Elab.async false
set_option linter.all false
set_option maxRecDepth 100000
set_option maxHeartbeats 2000000
namespace Wb
open PySem PySem.Spec PyProof.Rows L2

/-! ### data -/
abbrev Word := List Int
structure Gap where
  frm : Int
  to_ : Int
  price : Int
  ways : List Word
structure Bolt where
  many : Int
  gaps : List Gap
abbrev Lock := List Bolt

/-- tuples that are read stay -/
def TX (K : PySem.W.Frag) (H H' : Hp) : Prop := (∀ a xs, SqT K H a xs → SqT K H' a xs) ∧ ∀ a xs, H a = some (.tup xs) → H' a = some (.tup xs)
theorem TX.refl (K : PySem.W.Frag) (H : Hp) : TX K H H := ⟨fun _ _ h => h, fun _ _ h => h⟩
theorem TX.trans {K : PySem.W.Frag} {H H1 H2 : Hp} (a : TX K H H1) (b : TX K H1 H2) : TX K H H2 := ⟨fun x o h => b.1 x o (a.1 x o h), fun x o h => b.2 x o (a.2 x o h)⟩
theorem TX.ex {K : PySem.W.Frag} {H H' : Hp} (e : Evl.Ex H H') : TX K H H' := ⟨fun _ _ h => Evl.ex_t e h, fun _ _ h => e _ _ h⟩
/-- all but what stands at p is kept -/
def Exx (p : Addr) (H H' : Hp) : Prop := ∀ a o, a ≠ p → H a = some o → H' a = some o
theorem Exx.refl (p : Addr) (H : Hp) : Exx p H H := fun _ _ _ h => h
theorem Exx.trans {p : Addr} {H H1 H2 : Hp} (a : Exx p H H1) (b : Exx p H1 H2) : Exx p H H2 := fun x o n h => b x o n (a x o n h)
theorem Exx.ex {p : Addr} {H H' : Hp} (e : Evl.Ex H H') : Exx p H H' := fun a o _ h => e a o h
theorem Exx.put {p : Addr} {H : Hp} {o : HO} : Exx p H (upd H p o) := fun a u n h => by rw [upd_ne n]; exact h
theorem Exx.new {p q : Addr} {H : Hp} {o : HO} (h : H q = none) : Exx p H (upd H q o) := Exx.ex (Evl.Ex.new h)
/-- .. where p is no tuple -/
theorem Exx.tx {K : PySem.W.Frag} {p : Addr} {H H' : Hp} (e : Exx p H H') (np : ∀ xs, ¬ Rd H p (.tup xs)) : TX K H H' := by
  refine ⟨fun a xs h => ?_, fun a xs h => e a _ (fun z => np xs (.inl (z ▸ h))) h⟩
  rcases h with h | h
  · have na : a ≠ p := fun z => np xs (z ▸ h)
    rcases h with h | ⟨o, h⟩
    · exact .inl (.inl (e a _ na h))
    · exact .inl (.inr ⟨o, e a _ na h⟩)
  · exact .inr h
theorem Exx.l {K : PySem.W.Frag} {p a : Addr} {H H' : Hp} {xs : List V} (e : Exx p H H') (na : a ≠ p) (h : SqL K H a xs) : SqL K H' a xs := by
  rcases h with (h | ⟨o, h⟩) | h
  · exact .inl (.inl (e a _ na h))
  · exact .inl (.inr ⟨o, e a _ na h⟩)
  · exact .inr h

def Wd (K : PySem.W.Frag) (H : Hp) (v : V) (ns : Word) : Prop := ∃ a, v = .ref a ∧ H a = some (.tup (ns.map V.int))
def GapAt (K : PySem.W.Frag) (H : Hp) (v : V) (g : Gap) : Prop :=
  ∃ a b ws, v = .ref a ∧ SqT K H a [.int g.frm, .int g.to_, .int g.price, .ref b] ∧ SqT K H b ws ∧ Paired (Wd K H) ws g.ways
def BoltAt (K : PySem.W.Frag) (H : Hp) (v : V) (b : Bolt) : Prop := ∃ a c gs, v = .ref a ∧ SqT K H a [.int b.many, .ref c] ∧ SqT K H c gs ∧ Paired (GapAt K H) gs b.gaps
def LockAt (K : PySem.W.Frag) (H : Hp) (v : V) (l : Lock) : Prop := ∃ a bs, v = .ref a ∧ SqT K H a bs ∧ Paired (BoltAt K H) bs l

theorem Paired.imp {α β : Type} {F G : α → β → Prop} (f : ∀ a b, F a b → G a b) : ∀ {l₁ : List α} {l₂ : List β}, Paired F l₁ l₂ → Paired G l₁ l₂
  | _, _, .nil => .nil
  | _, _, .cons r t => .cons (f _ _ r) (Paired.imp f t)
section
variable {K : PySem.W.Frag} {H H' : Hp} {v : V}
theorem Wd.mono (e : TX K H H') {ns : Word} (h : Wd K H v ns) : Wd K H' v ns := by
  obtain ⟨a, r, q⟩ := h
  exact ⟨a, r, e.2 _ _ q⟩
theorem GapAt.mono (e : TX K H H') {g : Gap} (h : GapAt K H v g) : GapAt K H' v g := by
  obtain ⟨a, b, ws, r, q1, q2, q3⟩ := h
  exact ⟨a, b, ws, r, e.1 _ _ q1, e.1 _ _ q2, Paired.imp (fun _ _ => Wd.mono e) q3⟩
theorem BoltAt.mono (e : TX K H H') {b : Bolt} (h : BoltAt K H v b) : BoltAt K H' v b := by
  obtain ⟨a, c, gs, r, q1, q2, q3⟩ := h
  exact ⟨a, c, gs, r, e.1 _ _ q1, e.1 _ _ q2, Paired.imp (fun _ _ => GapAt.mono e) q3⟩
theorem LockAt.mono (e : TX K H H') {l : Lock} (h : LockAt K H v l) : LockAt K H' v l := by
  obtain ⟨a, bs, r, q1, q2⟩ := h
  exact ⟨a, bs, r, e.1 _ _ q1, Paired.imp (fun _ _ => BoltAt.mono e) q2⟩
end
section
variable {α β : Type} {R : α → β → Prop}
theorem Paired.get1 : ∀ {xs : List α} {ys : List β} {i : Nat} {x : α}, Paired R xs ys → xs[i]? = some x → ∃ y, ys[i]? = some y ∧ R x y
  | _, _, _, _, .nil, e => by simp at e
  | _, _, 0, _, .cons r _, e => by simp at e; subst e; exact ⟨_, rfl, r⟩
  | _, _, i + 1, x, .cons _ t, e => by
    obtain ⟨u, h1, h2⟩ := Paired.get1 (i := i) (x := x) t (by simpa using e)
    exact ⟨u, by simpa using h1, h2⟩
theorem Paired.get2 : ∀ {xs : List α} {ys : List β} {i : Nat} {y : β}, Paired R xs ys → ys[i]? = some y → ∃ x, xs[i]? = some x ∧ R x y
  | _, _, _, _, .nil, e => by simp at e
  | _, _, 0, _, .cons r _, e => by simp at e; subst e; exact ⟨_, rfl, r⟩
  | _, _, i + 1, y, .cons _ t, e => by
    obtain ⟨u, h1, h2⟩ := Paired.get2 (i := i) (y := y) t (by simpa using e)
    exact ⟨u, by simpa using h1, h2⟩
theorem Paired.len {xs : List α} {ys : List β} (h : Paired R xs ys) : xs.length = ys.length := Paired.length h
theorem Paired.app : ∀ {xs : List α} {ys : List β} {xs' : List α} {ys' : List β}, Paired R xs ys → Paired R xs' ys' → Paired R (xs ++ xs') (ys ++ ys')
  | _, _, _, _, .nil, s => s
  | _, _, _, _, .cons r t, s => .cons r (Paired.app t s)
theorem Paired.takeN : ∀ {xs : List α} {ys : List β} (n : Nat), Paired R xs ys → Paired R (xs.take n) (ys.take n)
  | _, _, 0, _ => .nil
  | _, _, _ + 1, .nil => .nil
  | _, _, n + 1, .cons r t => .cons r (Paired.takeN n t)
end
theorem take_succ_get {α : Type} {xs : List α} {i : Nat} {x : α} (h : xs[i]? = some x) : xs.take (i + 1) = xs.take i ++ [x] := by
  rw [List.take_add_one, h]
  rfl
theorem get_map_int {ns : List Int} {i : Nat} {x : V} (h : (ns.map V.int)[i]? = some x) : ∃ n, ns[i]? = some n ∧ x = .int n := by
  rw [List.getElem?_map] at h
  cases e : ns[i]? with
  | none => rw [e] at h; cases h
  | some n => rw [e] at h; exact ⟨n, rfl, (Option.some.inj h).symm⟩
theorem map_int_get {ns : List Int} {i : Nat} {n : Int} (h : ns[i]? = some n) : (ns.map V.int)[i]? = some (.int n) := by
  rw [List.getElem?_map, h]
  rfl

/-! ### what a lock must be -/
def lexLt2 (a b c d : Int) : Prop := a < c ∨ (a = c ∧ b < d)
structure GapOk (manys : List Int) (many : Int) (g : Gap) : Prop where
  f0 : 0 ≤ g.frm
  f1 : g.frm < many
  t0 : 0 ≤ g.to_
  t1 : g.to_ < many
  ne : g.frm ≠ g.to_
  p0 : 1 ≤ g.price
  p1 : g.price ≤ 1000000
  few : g.ways.length ≤ 8
  words : ∀ w ∈ g.ways, w.length = manys.length ∧ ∀ (i : Nat) (x m : Int), w[i]? = some x → manys[i]? = some m → 0 ≤ x ∧ x < m
  rise : g.ways.Pairwise (fun u w => HT.lexLt u w = true)
structure BoltOk (manys : List Int) (b : Bolt) : Prop where
  m0 : 2 ≤ b.many
  m1 : b.many ≤ 4
  gaps : ∀ g ∈ b.gaps, GapOk manys b.many g
  rise : b.gaps.Pairwise (fun g h => lexLt2 g.frm g.to_ h.frm h.to_)
  few : (b.gaps.map (fun g => g.ways.length)).sum ≤ 8
def manysOf (l : Lock) : List Int := l.map (·.many)
/-- the ways of the bolts numbered k and more, cut to k places -/
def cutsFrom (l : Lock) (k : Nat) (w : Word) : Prop := ∃ (j : Nat) (b : Bolt) (g : Gap) (u : Word), k ≤ j ∧ l[j]? = some b ∧ g ∈ b.gaps ∧ u ∈ g.ways ∧ w = u.take k
structure LockOk (l : Lock) : Prop where
  n0 : 1 ≤ l.length
  n1 : l.length ≤ 60
  bolts : ∀ (k : Nat) (b : Bolt), l[k]? = some b → BoltOk (manysOf (l.take k)) b
  words : ∀ (k : Nat) (ws : List Word), k < l.length → ws.Nodup → (∀ w ∈ ws, cutsFrom l k w) → ws.length ≤ 8
end Wb

set_option Elab.async false
set_option linter.all false
set_option maxRecDepth 100000
set_option maxHeartbeats 4000000
set_option pp.maxSteps 600
set_option pp.deepTerms false
namespace Wb
open PySem PySem.Spec PyProof.Rows L2
def topS (i : Nat) : Stmt := PySem.Challenge.pw_waitbolts_k51_places_renamed.main.body.getD i (.Pass ⟨0, 0, 0, 0⟩)
abbrev sWhole : Stmt := topS 1
abbrev sWholeIn : Stmt := topS 2
abbrev sTupOf : Stmt := topS 3
abbrev sPlaces : Stmt := topS 4
theorem scWhole : FnScope ["thing"] ["thing"] (defScope sWhole) := ⟨rfl, rfl, rfl, by decide +kernel, rfl, by decide +kernel, by decide +kernel⟩
theorem scWholeIn : FnScope ["thing", "low", "high"] ["thing", "low", "high"] (defScope sWholeIn) := ⟨rfl, rfl, rfl, by decide +kernel, rfl, by decide +kernel, by decide +kernel⟩
theorem scTupOf : FnScope ["thing", "low", "high"] ["thing", "low", "high"] (defScope sTupOf) := ⟨rfl, rfl, rfl, by decide +kernel, rfl, by decide +kernel, by decide +kernel⟩
theorem scPlaces : FnScope ["thing", "manys", "place", "many"] ["thing", "manys"] (defScope sPlaces) := ⟨rfl, rfl, rfl, by decide +kernel, rfl, by decide +kernel, by decide +kernel⟩

/-- the built-in names are the built-in ones -/
structure Bi (mg : Str → Option Value) : Prop where
  isi : mg "isinstance" = none
  int : mg "int" = none
  bool : mg "bool" = none
  tuple : mg "tuple" = none
  list : mg "list" = none
  len : mg "len" = none
  zip : mg "zip" = none
  all : mg "all" = none
  range : mg "range" = none
  rev : mg "reversed" = none
  enum : mg "enumerate" = none
  sorted : mg "sorted" = none
  set : mg "set" = none
  abs : mg "abs" = none
  repr : mg "repr" = none

theorem tyx_tup {K : PySem.W.Frag} {H : Hp} {a : Addr} {xs : List V} (h : SqT K H a xs) : TyX K H (.ref a) (.type "tuple") := by
  rcases h with (h | ⟨o, h⟩) | ⟨o, its, n, h, c, _⟩
  · exact .base (.tup h)
  · exact .fTuple h
  · exact .kTuple h c
theorem tyx_int {K : PySem.W.Frag} {H : Hp} (i : Int) : TyX K H (.int i) (.type "int") := .base (.int i)

/-! ### promises -/
def spWhole : Sp := fun vs H Q _ => ∃ i : Int, vs = [.int i] ∧ Q (.bl true) H
def spWholeIn : Sp := fun vs H Q _ => ∃ i l h : Int, vs = [.int i, .int l, .int h] ∧ Q (.bl (decide (l ≤ i) && decide (i ≤ h))) H
def spTupOf (K : PySem.W.Frag) : Sp := fun vs H Q _ => ∃ (a : Addr) (xs : List V) (l h : Int), vs = [.ref a, .int l, .int h] ∧ SqT K H a xs ∧ Q (.bl (decide (l ≤ (xs.length : Int)) && decide ((xs.length : Int) ≤ h))) H
/-- as many places as bolts, each of them one of its bolt's -/
def InAll (ns ms : List Int) : Prop := ns.length = ms.length ∧ ∀ (i : Nat) (n m : Int), ns[i]? = some n → ms[i]? = some m → 0 ≤ n ∧ n < m
def spPlaces (K : PySem.W.Frag) : Sp := fun vs H Q _ => ∃ (a b : Addr) (m : Bool) (ns ms : List Int), vs = [.ref a, .ref b] ∧ SqT K H a (ns.map V.int) ∧ SqX K m H b (ms.map V.int) ∧ InAll ns ms ∧ ∀ H', Evl.Ex H H' → Q (.bl true) H'

section
variable {P : Program} {w : World} {K : PySem.W.Frag} {mg : Str → Option Value} {base : Heap}
theorem ok_whole {f : Addr} {fd : FuncData} (F : Fun K "is_whole" "is_whole" sWhole f fd) (B : Bi mg) : FnOk P w K mg base CX0 1 f fd ["thing"] spWhole := by
  refine F.ok scWhole (fun vs H Q E h => ?_) (fun cdv A outer s H vs Q E hr h => ?_)
  · obtain ⟨i, rfl, _⟩ := h; rfl
  · obtain ⟨i, rfl, q⟩ := h
    refine ⟨_, pss_one (ps_ret (pe_and (pe_callB call_isi (by rfl) B.isi boot_isinstance (pa_cons (pv 0) (pa_cons (pe_bltn (v := .ty "int") (by rfl) B.int (by decide +kernel) rfl) pa_nil)))
      (pe_one (pe_not (pe_callB call_isi (by rfl) B.isi boot_isinstance (pa_cons (pv 0) (pa_cons (pe_bltn (v := .ty "bool") (by rfl) B.bool (by decide +kernel) rfl) pa_nil))))))), ?_⟩
    refine ⟨.int i, rfl, .int i, .ty "int", .type "int", .type "int", true, rfl, .ty _, tyx_int i, kit_ty (by decide +kernel), true, rfl, ?_⟩
    rw [if_pos rfl]
    refine ⟨.int i, rfl, .int i, .ty "bool", .type "int", .type "bool", false, rfl, .ty _, tyx_int i, kit_ty (by decide +kernel), false, rfl, q⟩
theorem ok_wholeIn {f f1 : Addr} {fd fd1 : FuncData} (F : Fun K "is_whole_in" "is_whole_in" sWholeIn f fd) (F1 : Fun K "is_whole" "is_whole" sWhole f1 fd1) (b1 : Binds K fd1 ["thing"] []) (g1 : mg "is_whole" = some (.ref f1)) (B : Bi mg) :
    FnOk P w K mg base CX0 2 f fd ["thing", "low", "high"] spWholeIn := by
  have G1 : FnOk P w K mg base CX0 1 f1 fd1 ["thing"] spWhole := ok_whole F1 B
  refine F.ok scWholeIn (fun vs H Q E h => ?_) (fun cdv A outer s H vs Q E hr h => ?_)
  · obtain ⟨i, l, m, rfl, _⟩ := h; rfl
  · obtain ⟨i, l, m, rfl, q⟩ := h
    refine ⟨_, pss_one (ps_ret (pe_and (pe_call G1 hr (by rfl) g1 F1.kp b1 .nil pass0 (pa_cons (pv 0) pa_nil)) (pe_one (pe_chain op_le op_le (pv 1) (pv 0) (pv 2))))), ?_⟩
    refine ⟨.int i, rfl, i, rfl, true, rfl, ?_⟩
    rw [if_pos rfl]
    refine ⟨.int l, rfl, .int i, rfl, l, i, rfl, rfl, decide (l ≤ i), rfl, ?_⟩
    by_cases h1 : l ≤ i
    · rw [if_pos (decide_eq_true h1)]
      refine ⟨.int m, rfl, i, m, rfl, rfl, ?_⟩
      rw [decide_eq_true h1] at q
      exact q
    · rw [if_neg (by rw [decide_eq_false h1]; exact Bool.false_ne_true)]
      rw [decide_eq_false h1] at q
      exact q
theorem ok_tupOf {f : Addr} {fd : FuncData} (F : Fun K "is_tuple_of" "is_tuple_of" sTupOf f fd) (B : Bi mg) : FnOk P w K mg base CX0 1 f fd ["thing", "low", "high"] (spTupOf K) := by
  refine F.ok scTupOf (fun vs H Q E h => ?_) (fun cdv A outer s H vs Q E hr h => ?_)
  · obtain ⟨a, xs, l, m, rfl, _⟩ := h; rfl
  · obtain ⟨a, xs, l, m, rfl, hx, q⟩ := h
    refine ⟨_, pss_one (ps_ret (pe_and (pe_callB call_isi (by rfl) B.isi boot_isinstance (pa_cons (pv 0) (pa_cons (pe_bltn (v := .ty "tuple") (by rfl) B.tuple (by decide +kernel) rfl) pa_nil)))
      (pe_one (pe_chain op_le op_le (pv 1) (pe_callB call_len_seq (by rfl) B.len PySem.boot_len (pa_cons (pv 0) pa_nil)) (pv 2))))), ?_⟩
    refine ⟨.ref a, rfl, .ref a, .ty "tuple", .type "tuple", .type "tuple", true, rfl, .ty _, tyx_tup hx, kit_ty (by decide +kernel), true, rfl, ?_⟩
    rw [if_pos rfl]
    refine ⟨.int l, rfl, .ref a, rfl, a, xs, rfl, .inr hx, l, xs.length, rfl, rfl, decide (l ≤ (xs.length : Int)), rfl, ?_⟩
    by_cases h1 : l ≤ (xs.length : Int)
    · rw [if_pos (decide_eq_true h1)]
      refine ⟨.int m, rfl, xs.length, m, rfl, rfl, ?_⟩
      rw [decide_eq_true h1] at q
      exact q
    · rw [if_neg (by rw [decide_eq_false h1]; exact Bool.false_ne_true)]
      rw [decide_eq_false h1] at q
      exact q
theorem sqx_ex {l : Bool} {H H' : Hp} {a : Addr} {xs : List V} (e : Evl.Ex H H') (h : SqX K l H a xs) : SqX K l H' a xs := by
  cases l
  · exact Evl.ex_t e h
  · exact Evl.ex_l e h
theorem sqx_seq {l : Bool} {H : Hp} {a : Addr} {xs : List V} (h : SqX K l H a xs) : SqL K H a xs ∨ SqT K H a xs := by
  cases l
  · exact .inr h
  · exact .inl h
theorem ok_places {f f1 : Addr} {fd fd1 : FuncData} (F : Fun K "are_places" "are_places" sPlaces f fd) (F1 : Fun K "is_tuple_of" "is_tuple_of" sTupOf f1 fd1) (b1 : Binds K fd1 ["thing", "low", "high"] []) (g1 : mg "is_tuple_of" = some (.ref f1)) (B : Bi mg) :
    FnOk P w K mg base CX0 2 f fd ["thing", "manys"] (spPlaces K) := by
  have G1 : FnOk P w K mg base CX0 1 f1 fd1 ["thing", "low", "high"] (spTupOf K) := ok_tupOf F1 B
  refine F.ok scPlaces (fun vs H Q E h => ?_) (fun cdv A outer s H vs Q E hr h => ?_)
  · obtain ⟨a, b, m, ns, ms, rfl, _⟩ := h; rfl
  · obtain ⟨a, b, m, ns, ms, rfl, hx, hy, ⟨hl, hin⟩, q⟩ := h
    have isI : ∀ (X : Cx) (T : String) (hT : X.mg T = none) (i : Nat), True := fun _ _ _ _ => trivial
    refine ⟨_, pss_cons (ps_if (pt_not (pt_val (pe_call G1 hr (by rfl) g1 F1.kp b1 .nil pass0 (pa_cons (pv 0) (pa_cons (pe_callB call_len_seq (by rfl) B.len PySem.boot_len (pa_cons (pv 1) pa_nil)) (pa_cons (pe_callB call_len_seq (by rfl) B.len PySem.boot_len (pa_cons (pv 1) pa_nil)) pa_nil))))))
        (pss_one (ps_ret pe_bl)) pss_nil)
      (pss_cons (ps_for PassesOwn.never rfl (pi_zipX (by rfl) B.zip (pa_cons (pv 0) (pa_cons (pv 1) pa_nil))) (pg_tup rfl (pgs_cons (pg_name (i := 2) scPlaces.nd rfl (.inl rfl)) (pgs_cons (pg_name (i := 3) scPlaces.nd rfl (.inl rfl)) pgs_nil)))
        (pss_one (ps_if (PW.pt (pw_or (pt_val (pe_callB call_isi (by rfl) B.isi boot_isinstance (pa_cons (pv 2) (pa_cons (pe_bltn (v := .ty "bool") (by rfl) B.bool (by decide +kernel) rfl) pa_nil))))
            (pw_or (pt_not (pt_val (pe_callB call_isi (by rfl) B.isi boot_isinstance (pa_cons (pv 2) (pa_cons (pe_bltn (v := .ty "int") (by rfl) B.int (by decide +kernel) rfl) pa_nil)))))
              (pw_or1 (pt_not (pt_chain op_le op_lt pe_int (pv 2) (pv 3)))))))
          (pss_one (ps_ret pe_bl)) pss_nil)))
      (pss_one (ps_ret pe_bl))), ?_⟩
    refine ⟨.ref a, rfl, .ref b, rfl, b, _, rfl, sqx_seq hy, .ref b, rfl, b, _, rfl, sqx_seq hy, a, _, _, _, rfl, hx, _, rfl, ?_⟩
    have e1 : (decide (((ms.map V.int).length : Int) ≤ ((ns.map V.int).length : Int)) && decide (((ns.map V.int).length : Int) ≤ ((ms.map V.int).length : Int))) = true := by
      rw [List.length_map, List.length_map, hl]
      simp
    rw [e1]
    refine iteF ?_
    refine ⟨.ref a, rfl, .ref b, rfl, false, m, a, b, ns.map V.int, ms.map V.int, rfl, hx, hy, ?_⟩
    refine for_it (walk_zx (l := false) (m := m) (xs := ns.map V.int) (ys := ms.map V.int) (by rw [List.length_map, List.length_map, hl])) (fun i σ H' => ∃ y2 y3, σ = [some (.ref a), some (.ref b), y2, y3] ∧ Evl.Ex H H') ⟨none, none, rfl, Evl.Ex.refl H⟩ ?_ ?_ ?_
    · rintro i σ H' _ ⟨_, _, _, e⟩
      exact ⟨Evl.ex_t e hx, sqx_ex e hy⟩
    · rintro i v σ H1 H2 hi ⟨y2, y3, rfl, e⟩ ⟨T, x, y, rfl, nT, rfl, ex, ey⟩
      obtain ⟨n, hn, rfl⟩ := get_map_int ex
      obtain ⟨k, hk, rfl⟩ := get_map_int ey
      obtain ⟨h0, h1⟩ := hin i n k hn hk
      refine ⟨T, [.int n, .int k], rfl, .inl (.inl upd_same), rfl, .int n, [.int k], rfl, .int k, [], rfl, rfl, ?_⟩
      refine ⟨.int n, rfl, .int n, .ty "bool", .type "int", .type "bool", false, rfl, .ty _, tyx_int n, kit_ty (by decide +kernel), false, rfl, ?_⟩
      refine iteF ?_
      refine ⟨.int n, rfl, .int n, .ty "int", .type "int", .type "int", true, rfl, .ty _, tyx_int n, kit_ty (by decide +kernel), true, rfl, ?_⟩
      refine iteF ?_
      refine ⟨.int n, rfl, 0, n, rfl, rfl, decide ((0:Int) ≤ n), rfl, ?_⟩
      rw [if_pos (decide_eq_true h0)]
      refine ⟨.int k, rfl, n, k, rfl, rfl, decide (n < k), rfl, ?_⟩
      rw [decide_eq_true h1]
      refine iteF ?_
      exact ⟨_, _, rfl, e.trans (Evl.Ex.new nT)⟩
    · rintro σ H' ⟨y2, y3, rfl, e⟩
      exact q H' e
end
end Wb

set_option Elab.async false
set_option linter.all false
set_option maxRecDepth 100000
set_option maxHeartbeats 4000000
set_option pp.maxSteps 600
set_option pp.deepTerms false
namespace Wb
open PySem PySem.Spec PyProof.Rows L2
abbrev sWays : Stmt := topS 24
abbrev sGap : Stmt := topS 23
abbrev sBolt : Stmt := topS 22
theorem scWays : FnScope ["thing", "below", "way", "n"] ["thing", "below"] (defScope sWays) := ⟨rfl, rfl, rfl, by decide +kernel, rfl, by decide +kernel, by decide +kernel⟩
theorem scGap : FnScope ["thing", "many", "below", "here", "there", "price", "ways"] ["thing", "many", "below"] (defScope sGap) := ⟨rfl, rfl, rfl, by decide +kernel, rfl, by decide +kernel, by decide +kernel⟩
theorem scBolt : FnScope ["thing", "below", "many", "gaps", "count", "last", "gap"] ["thing", "below"] (defScope sBolt) := ⟨rfl, rfl, rfl, by decide +kernel, rfl, by decide +kernel, by decide +kernel⟩

/-- the module's numbers -/
structure Nu (mg : Str → Option Value) : Prop where
  bolts : ∃ t, mg "MOST_BOLTS" = some (.int 60 t)
  fewest : ∃ t, mg "FEWEST_PLACES" = some (.int 2 t)
  places : ∃ t, mg "MOST_PLACES" = some (.int 4 t)
  ways : ∃ t, mg "MOST_WAYS" = some (.int 8 t)
  words : ∃ t, mg "MOST_WORDS" = some (.int 8 t)
  price : ∃ t, mg "MOST_PRICE" = some (.int 1000000 t)

/-- ways of a gap: words below, rising -/
structure WaysOk (ms : List Int) (ws : List Word) : Prop where
  few : ws.length ≤ 8
  words : ∀ w ∈ ws, InAll w ms
  rise : ws.Pairwise (fun u w => HT.lexLt u w = true)
def spWays (K : PySem.W.Frag) : Sp := fun vs H Q _ => ∃ (a b : Addr) (us : List V) (ws : List Word) (ms : List Int), vs = [.ref a, .ref b] ∧ SqT K H a us ∧ Paired (Wd K H) us ws ∧ SqL K H b (ms.map V.int) ∧ WaysOk ms ws ∧ ∀ H', Evl.Ex H H' → Q (.bl true) H'

theorem wd_ex {K : PySem.W.Frag} {H H' : Hp} (e : Evl.Ex H H') {v : V} {ns : Word} (h : Wd K H v ns) : Wd K H' v ns := h.mono (TX.ex e)
theorem all_true (n : Nat) : ((List.replicate n true).all id) = true := by simp

section
variable {P : Program} {w : World} {K : PySem.W.Frag} {mg : Str → Option Value} {base : Heap}
theorem ok_ways {f f1 f2 : Addr} {fd fd1 fd2 : FuncData} (F : Fun K "are_ways" "are_ways" sWays f fd) (F1 : Fun K "is_tuple_of" "is_tuple_of" sTupOf f1 fd1) (b1 : Binds K fd1 ["thing", "low", "high"] []) (g1 : mg "is_tuple_of" = some (.ref f1))
    (F2 : Fun K "are_places" "are_places" sPlaces f2 fd2) (b2 : Binds K fd2 ["thing", "manys"] []) (g2 : mg "are_places" = some (.ref f2)) (B : Bi mg) (N : Nu mg) :
    FnOk P w K mg base CX0 3 f fd ["thing", "below"] (spWays K) := by
  have G1 : FnOk P w K mg base CX0 1 f1 fd1 ["thing", "low", "high"] (spTupOf K) := ok_tupOf F1 B
  have G2 : FnOk P w K mg base CX0 2 f2 fd2 ["thing", "manys"] (spPlaces K) := ok_places F2 F1 b1 g1 B
  obtain ⟨tw, ew⟩ := N.ways
  refine F.ok scWays (fun vs H Q E h => ?_) (fun cdv A outer s H vs Q E hr h => ?_)
  · obtain ⟨a, b, us, ws, ms, rfl, _⟩ := h; rfl
  · obtain ⟨a, b, us, ws, ms, rfl, hx, hp, hy, ok, q⟩ := h
    have hr1 : Room 1 _ := hr.mono (by decide)
    refine ⟨_, pss_cons (ps_if (pt_not (pt_val (pe_call G1 hr1 (by rfl) g1 F1.kp b1 .nil pass0 (pa_cons (pv 0) (pa_cons pe_int (pa_cons (pe_glob (v := .int 8) (by rfl) ew ⟨_, rfl⟩) pa_nil)))))) (pss_one (ps_ret pe_bl)) pss_nil)
      (pss_cons (ps_if (pt_not (pt_val (pe_callB (cr_all rfl) (by rfl) B.all boot_all (pa_cons
          (pe_lc (own := [("way", 2)]) (g := gName 2) rfl scWays.nd (pi_tup (pv 0)) (blkOk_by (own := [("way", 2)]) (N := ["thing", "below", "way", "n"]) (sc := defScope sWays) (by decide +kernel))
            (fun _ _ _ _ _ => pg_name (i := 2) scWays.nd rfl (Or.inl rfl)) (fun _ _ _ _ _ => pts_nil)
            (fun _ _ _ _ _ => pe_call G2 hr (by rfl) g2 F2.kp b2 .nil pass0 (pa_cons (pv 2) (pa_cons (pv 1) pa_nil)))) pa_nil)))) (pss_one (ps_ret pe_bl)) pss_nil)
      (pss_one (ps_ret (pe_callB (cr_all rfl) (by rfl) B.all boot_all (pa_cons
          (pe_lc (own := [("n", 3)]) (g := gName 3) rfl scWays.nd (pi_range1 rfl B.range (pa_cons (pe_op op_sub (pe_callB call_len_seq (by rfl) B.len PySem.boot_len (pa_cons (pv 0) pa_nil)) pe_int) pa_nil)) (blkOk_by (own := [("n", 3)]) (N := ["thing", "below", "way", "n"]) (sc := defScope sWays) (by decide +kernel))
            (fun _ _ _ _ _ => pg_name (i := 3) scWays.nd rfl (Or.inl rfl)) (fun _ _ _ _ _ => pts_nil)
            (fun _ _ _ _ _ => pe_cmpR (r := rLtT K) (op_ltT hr.units0) (pe_ix (r := rIxT K) ix_tup (pv 0) (pv 3) (fun _ _ => rfl)) (pe_ix (r := rIxT K) ix_tup (pv 0) (pe_op op_add (pv 3) pe_int) (fun _ _ => rfl)) (nomark _))) pa_nil))))), ?_⟩
    have ul : us.length = ws.length := Paired.len hp
    have few := ok.few
    refine ⟨.ref a, rfl, a, us, 0, 8, rfl, hx, _, rfl, ?_⟩
    have e1 : (decide ((0 : Int) ≤ (us.length : Int)) && decide ((us.length : Int) ≤ 8)) = true := by
      rw [ul]
      simp
      omega
    rw [e1]
    refine iteF ?_
    refine ⟨.ref a, rfl, a, rfl, ⟨_, hx⟩, fun D hD => lc_tup (K := K) (a := a) (xs := us) (fun i H' => Evl.Ex H H' ∧ H' D = some (.lst ((List.replicate i true).map V.bl))) ⟨Evl.Ex.new hD, upd_same⟩ ?_ ?_ ?_⟩
    · rintro i H' _ ⟨e, _⟩
      exact Evl.ex_t e hx
    · rintro i x H' hi ⟨e, eD⟩
      obtain ⟨wd, hw, ⟨ax, rfl, hax⟩⟩ := Paired.get1 hp hi
      have hin := ok.words wd (List.mem_of_getElem? hw)
      refine ⟨rfl, .ref ax, rfl, .ref b, rfl, ax, b, true, wd, ms, rfl, Evl.ex_t e (SqT.of hax), Evl.ex_l e hy, hin, ?_⟩
      intro H2 e2
      have l9 : i < 9 := by
        have := (List.getElem?_eq_some_iff.mp hi).1
        omega
      refine ⟨_, e2 _ _ eD, ?_, (e.trans e2).mut hD, ?_⟩
      · rw [List.length_map, List.length_replicate]
        exact Nat.lt_of_lt_of_le l9 (by decide)
      · rw [upd_same, List.replicate_succ', List.map_append]
        rfl
    · rintro H1 ⟨e, eD⟩
      refine ⟨D, _, rfl, .inl (.inl eD), true, ?_, ?_⟩
      · rw [all_true]
      · refine iteF ?_
        refine ⟨.ref a, rfl, a, us, rfl, .inr (Evl.ex_t e hx), _, _, rfl, rfl, (us.length : Int) - 1, rfl, by omega, by omega, fun D2 hD2 =>
          lc_range (lo := 0) (n := ((us.length : Int) - 1).toNat) (fun i H' => Evl.Ex H1 H' ∧ H' D2 = some (.lst ((List.replicate i true).map V.bl))) ⟨Evl.Ex.new hD2, upd_same⟩ ?_ ?_⟩
        · rintro i H' hi ⟨e2, eD2⟩
          have h1 : i < us.length := by omega
          have h2 : i + 1 < us.length := by omega
          obtain ⟨u1, hu1, ⟨a1, ea1, ha1⟩⟩ := Paired.get1 hp (List.getElem?_eq_getElem h1)
          obtain ⟨u2, hu2, ⟨a2, ea2, ha2⟩⟩ := Paired.get1 hp (List.getElem?_eq_getElem h2)
          have rise : HT.lexLt u1 u2 = true := by
            obtain ⟨l1, q1⟩ := List.getElem?_eq_some_iff.mp hu1
            obtain ⟨l2, q2⟩ := List.getElem?_eq_some_iff.mp hu2
            have := List.pairwise_iff_getElem.mp ok.rise i (i + 1) l1 l2 (Nat.lt_succ_self i)
            rw [q1, q2] at this
            exact this
          refine ⟨rfl, ?_⟩
          have e3 := e.trans e2
          refine ⟨.ref a, rfl, .int ((0 : Int) + (i : Nat)), rfl, a, us, (0 : Int) + (i : Nat), .ref a1, rfl, rfl, Evl.ex_t e3 hx, ?_, .ref a, rfl, .int ((0 : Int) + (i : Nat)), rfl, _, _, rfl, rfl, a, us, (0 : Int) + (i : Nat) + 1, .ref a2, rfl, rfl, Evl.ex_t e3 hx, ?_, a1, a2, u1, u2, rfl, rfl, Evl.ex_t e3 (SqT.of ha1), Evl.ex_t e3 (SqT.of ha2), ?_⟩
          · have z : (0 : Int) + (i : Nat) = ((i : Nat) : Int) := by omega
            rw [z, ← ea1]
            exact atI_nat (List.getElem?_eq_getElem h1)
          · have z : (0 : Int) + (i : Nat) + 1 = ((i + 1 : Nat) : Int) := by omega
            rw [z, ← ea2]
            exact atI_nat (List.getElem?_eq_getElem h2)
          · refine ⟨_, eD2, ?_, e2.mut hD2, ?_⟩
            · rw [List.length_map, List.length_replicate]
              exact Nat.lt_of_lt_of_le (show i < 9 by omega) (by decide)
            · rw [upd_same, List.replicate_succ', List.map_append, rise]
              rfl
        · rintro H2 ⟨e2, eD2⟩
          refine ⟨D2, _, rfl, .inl (.inl eD2), ?_⟩
          rw [all_true]
          exact q H2 (e.trans e2)
end
end Wb

set_option Elab.async false
set_option linter.all false
set_option maxRecDepth 100000
set_option maxHeartbeats 4000000
set_option pp.maxSteps 600
set_option pp.deepTerms false
namespace Wb
open PySem PySem.Spec PyProof.Rows L2
def spGap (K : PySem.W.Frag) : Sp := fun vs H Q _ => ∃ (v : V) (b : Addr) (g : Gap) (many : Int) (ms : List Int), vs = [v, .int many, .ref b] ∧ GapAt K H v g ∧ SqL K H b (ms.map V.int) ∧ GapOk ms many g ∧ ∀ H', Evl.Ex H H' → Q (.bl true) H'
def spBolt (K : PySem.W.Frag) : Sp := fun vs H Q _ => ∃ (v : V) (b : Addr) (bo : Bolt) (ms : List Int), vs = [v, .ref b] ∧ BoltAt K H v bo ∧ SqL K H b (ms.map V.int) ∧ BoltOk ms bo ∧ ∀ H', Evl.Ex H H' → Q (.bl true) H'

theorem inAll_two {a b m : Int} (h1 : 0 ≤ a) (h2 : a < m) (h3 : 0 ≤ b) (h4 : b < m) : InAll [a, b] [m, m] := by
  refine ⟨rfl, fun i n k hn hk => ?_⟩
  match i, hn, hk with
  | 0, hn, hk =>
    cases hn; cases hk; exact ⟨h1, h2⟩
  | 1, hn, hk =>
    cases hn; cases hk; exact ⟨h3, h4⟩
  | i + 2, hn, hk => simp at hn
theorem GapOk.ways_ok {ms : List Int} {many : Int} {g : Gap} (h : GapOk ms many g) : WaysOk ms g.ways :=
  ⟨h.few, fun w hw => ⟨(h.words w hw).1, (h.words w hw).2⟩, h.rise⟩
theorem lex2 {a b c d : Int} (h : lexLt2 c d a b) : Ob.lexAt (fun j => decide (([a, b] : List Int).getD j 0 = ([c, d] : List Int).getD j 0)) (fun j => decide (([a, b] : List Int).getD j 0 ≤ ([c, d] : List Int).getD j 0)) (decide (([a, b] : List Int).length ≤ ([c, d] : List Int).length)) 0 (min ([a, b] : List Int).length ([c, d] : List Int).length) = false := by
  show (if decide (a = c) = true then (if decide (b = d) = true then (decide (2 ≤ 2)) else decide (b ≤ d)) else decide (a ≤ c)) = false
  rcases h with h | ⟨h, h'⟩
  · rw [if_neg (by simp; omega)]
    simp; omega
  · rw [if_pos (by simp; omega), if_neg (by simp; omega)]
    simp; omega
theorem cut2 {a b c d : V} : cutV [a, b, c, d] none (some 2) = [a, b] := by
  unfold cutV
  rw [HT.sIx_none]
  rw [show HT.sIx [a, b, c, d].length [a, b, c, d].length (some 2) = 2 from HT.sIx_nat 4 4 2]
  rfl

section
variable {P : Program} {w : World} {K : PySem.W.Frag} {mg : Str → Option Value} {base : Heap}
theorem ok_gap {f f1 f2 f3 f4 f5 : Addr} {fd fd1 fd2 fd3 fd4 fd5 : FuncData} (F : Fun K "is_gap" "is_gap" sGap f fd) (F1 : Fun K "is_tuple_of" "is_tuple_of" sTupOf f1 fd1) (b1 : Binds K fd1 ["thing", "low", "high"] []) (g1 : mg "is_tuple_of" = some (.ref f1))
    (F2 : Fun K "are_places" "are_places" sPlaces f2 fd2) (b2 : Binds K fd2 ["thing", "manys"] []) (g2 : mg "are_places" = some (.ref f2))
    (F3 : Fun K "is_whole_in" "is_whole_in" sWholeIn f3 fd3) (b3 : Binds K fd3 ["thing", "low", "high"] []) (g3 : mg "is_whole_in" = some (.ref f3))
    (F4 : Fun K "are_ways" "are_ways" sWays f4 fd4) (b4 : Binds K fd4 ["thing", "below"] []) (g4 : mg "are_ways" = some (.ref f4))
    (F5 : Fun K "is_whole" "is_whole" sWhole f5 fd5) (b5 : Binds K fd5 ["thing"] []) (g5 : mg "is_whole" = some (.ref f5)) (B : Bi mg) (N : Nu mg) :
    FnOk P w K mg base CX0 4 f fd ["thing", "many", "below"] (spGap K) := by
  have G1 : FnOk P w K mg base CX0 1 f1 fd1 ["thing", "low", "high"] (spTupOf K) := ok_tupOf F1 B
  have G2 : FnOk P w K mg base CX0 2 f2 fd2 ["thing", "manys"] (spPlaces K) := ok_places F2 F1 b1 g1 B
  have G3 : FnOk P w K mg base CX0 2 f3 fd3 ["thing", "low", "high"] spWholeIn := ok_wholeIn F3 F5 b5 g5 B
  have G4 : FnOk P w K mg base CX0 3 f4 fd4 ["thing", "below"] (spWays K) := ok_ways F4 F1 b1 g1 F2 b2 g2 B N
  obtain ⟨tp, ep⟩ := N.price
  refine F.ok scGap (fun vs H Q E h => ?_) (fun cdv A outer s H vs Q E hr h => ?_)
  · obtain ⟨v, b, g, m, ms, rfl, _⟩ := h; rfl
  · obtain ⟨v, b, g, m, ms, rfl, ⟨a, c, ws, rfl, hx, hw, hp⟩, hy, ok, q⟩ := h
    have hr1 : Room 1 _ := hr.mono (by decide)
    have hr2 : Room 2 _ := hr.mono (by decide)
    refine ⟨_, pss_cons (ps_if (pt_not (pt_val (pe_call G1 hr1 (by rfl) g1 F1.kp b1 .nil pass0 (pa_cons (pv 0) (pa_cons pe_int (pa_cons pe_int pa_nil)))))) (pss_one (ps_ret pe_bl)) pss_nil)
      (pss_cons (ps_asg (pv 0) (pg_tup rfl (pgs_cons (pg_name (i := 3) scGap.nd rfl (.inl rfl)) (pgs_cons (pg_name (i := 4) scGap.nd rfl (.inl rfl)) (pgs_cons (pg_name (i := 5) scGap.nd rfl (.inl rfl)) (pgs_cons (pg_name (i := 6) scGap.nd rfl (.inl rfl)) pgs_nil))))))
      (pss_cons (ps_if (PW.pt (pw_or (pt_not (pt_val (pe_call G2 hr2 (by rfl) g2 F2.kp b2 .nil pass0 (pa_cons (pe_tup (pa_cons (pv 3) (pa_cons (pv 4) pa_nil))) (pa_cons (pe_tup (pa_cons (pv 1) (pa_cons (pv 1) pa_nil))) pa_nil)))))
          (pw_or1 (pt_cmpR op_eq (pv 3) (pv 4) (nomark _))))) (pss_one (ps_ret pe_bl)) pss_nil)
      (pss_one (ps_ret (pe_and (pe_call G3 hr2 (by rfl) g3 F3.kp b3 .nil pass0 (pa_cons (pv 5) (pa_cons pe_int (pa_cons (pe_glob (v := .int 1000000) (by rfl) ep ⟨_, rfl⟩) pa_nil))))
        (pe_one (pe_call G4 hr (by rfl) g4 F4.kp b4 .nil pass0 (pa_cons (pv 6) (pa_cons (pv 2) pa_nil))))))))), ?_⟩
    refine ⟨.ref a, rfl, a, _, 4, 4, rfl, hx, true, rfl, ?_⟩
    refine iteF ?_
    refine ⟨.ref a, rfl, a, _, rfl, hx, rfl, _, _, rfl, _, _, rfl, _, _, rfl, _, _, rfl, rfl, ?_⟩
    refine ⟨.int g.frm, rfl, .int g.to_, rfl, (by show 2 ≤ sizeLine; decide), fun p1 n1 => ?_⟩
    refine ⟨.int m, rfl, .int m, rfl, (by show 2 ≤ sizeLine; decide), fun p2 n2 => ?_⟩
    have x1 : Evl.Ex H (upd H p1 (.tup [.int g.frm, .int g.to_])) := Evl.Ex.new n1
    have x2 := Evl.Ex.new (o := .tup [.int m, .int m]) n2
    refine ⟨p1, p2, false, [g.frm, g.to_], [m, m], rfl, .inl (.inl (x2 _ _ upd_same)), (Or.inl (Or.inl upd_same)), inAll_two ok.f0 ok.f1 ok.t0 ok.t1, fun H' x3 => ?_⟩
    refine ⟨true, rfl, ?_⟩
    refine iteF ?_
    refine ⟨.int g.frm, rfl, .int g.to_, rfl, rfl, decide (V.int g.frm = V.int g.to_), rfl, ?_⟩
    have ne : decide (V.int g.frm = V.int g.to_) = false := decide_eq_false fun z => ok.ne (V.int.inj z)
    rw [ne]
    refine iteF ?_
    refine ⟨.int g.price, rfl, g.price, 1, 1000000, rfl, true, ?_, ?_⟩
    · have z1 := ok.p0
      have z2 := ok.p1
      rw [decide_eq_true z1, decide_eq_true z2]
      rfl
    · refine iteT ?_
      have x : Evl.Ex H H' := (x1.trans x2).trans x3
      refine ⟨.ref c, rfl, .ref b, rfl, c, b, ws, g.ways, ms, rfl, Evl.ex_t x hw, Paired.imp (fun _ _ => wd_ex x) hp, Evl.ex_l x hy, ok.ways_ok, fun H2 y => q H2 (x.trans y)⟩
theorem ok_bolt {f f1 f2 f3 f4 f5 f6 : Addr} {fd fd1 fd2 fd3 fd4 fd5 fd6 : FuncData} (F : Fun K "is_bolt" "is_bolt" sBolt f fd) (F1 : Fun K "is_tuple_of" "is_tuple_of" sTupOf f1 fd1) (b1 : Binds K fd1 ["thing", "low", "high"] []) (g1 : mg "is_tuple_of" = some (.ref f1))
    (F2 : Fun K "are_places" "are_places" sPlaces f2 fd2) (b2 : Binds K fd2 ["thing", "manys"] []) (g2 : mg "are_places" = some (.ref f2))
    (F3 : Fun K "is_whole_in" "is_whole_in" sWholeIn f3 fd3) (b3 : Binds K fd3 ["thing", "low", "high"] []) (g3 : mg "is_whole_in" = some (.ref f3))
    (F4 : Fun K "are_ways" "are_ways" sWays f4 fd4) (b4 : Binds K fd4 ["thing", "below"] []) (g4 : mg "are_ways" = some (.ref f4))
    (F5 : Fun K "is_whole" "is_whole" sWhole f5 fd5) (b5 : Binds K fd5 ["thing"] []) (g5 : mg "is_whole" = some (.ref f5))
    (F6 : Fun K "is_gap" "is_gap" sGap f6 fd6) (b6 : Binds K fd6 ["thing", "many", "below"] []) (g6 : mg "is_gap" = some (.ref f6)) (B : Bi mg) (N : Nu mg) :
    FnOk P w K mg base CX0 5 f fd ["thing", "below"] (spBolt K) := by
  have G1 : FnOk P w K mg base CX0 1 f1 fd1 ["thing", "low", "high"] (spTupOf K) := ok_tupOf F1 B
  have G3 : FnOk P w K mg base CX0 2 f3 fd3 ["thing", "low", "high"] spWholeIn := ok_wholeIn F3 F5 b5 g5 B
  have G6 : FnOk P w K mg base CX0 4 f6 fd6 ["thing", "many", "below"] (spGap K) := ok_gap F6 F1 b1 g1 F2 b2 g2 F3 b3 g3 F4 b4 g4 F5 b5 g5 B N
  obtain ⟨tf, ef⟩ := N.fewest
  obtain ⟨tl, el⟩ := N.places
  obtain ⟨tw, ew⟩ := N.ways
  refine F.ok scBolt (fun vs H Q E h => ?_) (fun cdv A outer s H vs Q E hr h => ?_)
  · obtain ⟨v, b, bo, ms, rfl, _⟩ := h; rfl
  · obtain ⟨v, b, bo, ms, rfl, ⟨a, c, gs, rfl, hx, hg, hp⟩, hy, ok, q⟩ := h
    have hr1 : Room 1 _ := hr.mono (by decide)
    have hr2 : Room 2 _ := hr.mono (by decide)
    refine ⟨_, pss_cons (ps_if (pt_not (pt_val (pe_call G1 hr1 (by rfl) g1 F1.kp b1 .nil pass0 (pa_cons (pv 0) (pa_cons pe_int (pa_cons pe_int pa_nil)))))) (pss_one (ps_ret pe_bl)) pss_nil)
      (pss_cons (ps_asg (pv 0) (pg_tup rfl (pgs_cons (pg_name (i := 2) scBolt.nd rfl (.inl rfl)) (pgs_cons (pg_name (i := 3) scBolt.nd rfl (.inl rfl)) pgs_nil))))
      (pss_cons (ps_if (PW.pt (pw_or (pt_not (pt_val (pe_call G3 hr2 (by rfl) g3 F3.kp b3 .nil pass0 (pa_cons (pv 2) (pa_cons (pe_glob (v := .int 2) (by rfl) ef ⟨_, rfl⟩) (pa_cons (pe_glob (v := .int 4) (by rfl) el ⟨_, rfl⟩) pa_nil))))))
          (pw_or1 (pt_not (pt_val (pe_callB call_isi (by rfl) B.isi boot_isinstance (pa_cons (pv 3) (pa_cons (pe_bltn (v := .ty "tuple") (by rfl) B.tuple (by decide +kernel) rfl) pa_nil)))))))) (pss_one (ps_ret pe_bl)) pss_nil)
      (pss_cons (ps_set (i := 4) scBolt.nd rfl (.inl rfl) pe_int)
      (pss_cons (ps_set (i := 5) scBolt.nd rfl (.inl rfl) (pe_tup (pa_cons (pe_un un_neg pe_int) (pa_cons (pe_un un_neg pe_int) pa_nil))))
      (pss_cons (ps_for PassesOwn.never rfl (pi_tup (pv 3)) (pg_name (i := 6) scBolt.nd rfl (.inl rfl))
        (pss_cons (ps_if (PW.pt (pw_or (pt_not (pt_val (pe_call G6 hr (by rfl) g6 F6.kp b6 .nil pass0 (pa_cons (pv 6) (pa_cons (pv 2) (pa_cons (pv 1) pa_nil))))))
            (pw_or1 (pt_cmpR (op_leT hr.units0) (pe_slice sl_tupA (pv 6) po_none (po_some pe_int)) (pv 5) (nomark _))))) (pss_one (ps_ret pe_bl)) pss_nil)
        (pss_cons (ps_set (i := 5) scBolt.nd rfl (.inl rfl) (pe_slice sl_tupA (pv 6) po_none (po_some pe_int)))
        (pss_one (ps_aug (i := 4) scBolt.nd rfl (.inl rfl) (pe_callB call_len_seq (by rfl) B.len PySem.boot_len (pa_cons (pe_ix ix_tup (pv 6) pe_int (fun _ _ => rfl)) pa_nil)) ip_add)))))
      (pss_one (ps_ret (pe_cmpR op_le (pv 4) (pe_glob (v := .int 8) (by rfl) ew ⟨_, rfl⟩) (nomark _))))))))), ?_⟩
    refine ⟨.ref a, rfl, a, _, 2, 2, rfl, hx, true, rfl, ?_⟩
    refine iteF ?_
    refine ⟨.ref a, rfl, a, _, rfl, hx, rfl, _, _, rfl, _, _, rfl, rfl, ?_⟩
    refine ⟨.int bo.many, rfl, bo.many, 2, 4, rfl, true, ?_, ?_⟩
    · rw [decide_eq_true ok.m0, decide_eq_true ok.m1]
      rfl
    refine iteF ?_
    refine ⟨.ref c, rfl, .ref c, .ty "tuple", .type "tuple", .type "tuple", true, rfl, .ty _, tyx_tup hg, kit_ty (by decide +kernel), true, rfl, ?_⟩
    refine iteF ?_
    refine ⟨1, rfl, 1, rfl, (by show 2 ≤ sizeLine; decide), fun p0 n0 => ?_⟩
    have gl : gs.length = bo.gaps.length := Paired.len hp
    refine ⟨.ref c, rfl, c, rfl, ⟨_, (Evl.ex_t (Evl.Ex.new n0) hg)⟩, for_tup (K := K) (a := c) (xs := gs)
      (fun i σ H' => ∃ (pl : Addr) (lf lt : Int) (y6 : Option V), σ = [some (.ref a), some (.ref b), some (.int bo.many), some (.ref c), some (.int (((bo.gaps.take i).map (fun g => ((g.ways.length : Nat) : Int))).sum)), some (.ref pl), y6] ∧
        Evl.Ex H H' ∧ SqT K H' pl ([lf, lt].map V.int) ∧ (∀ g, bo.gaps[i]? = some g → lexLt2 lf lt g.frm g.to_)) ⟨p0, -1, -1, none, rfl, Evl.Ex.new n0, .inl (.inl upd_same), ?_⟩ ?_ ?_ ?_⟩
    · intro g hgi
      have := (ok.gaps g (List.mem_of_getElem? hgi)).f0
      exact .inl (by omega)
    · rintro i σ H' _ ⟨_, _, _, _, _, e, _⟩
      exact Evl.ex_t e hg
    · rintro i x σ H' hi ⟨pl, lf, lt, y6, rfl, e, hpl, hlex⟩
      obtain ⟨g, hgi, hga⟩ := Paired.get1 hp hi
      have hga' : GapAt K H' x g := hga.mono (TX.ex e)
      obtain ⟨ag, bg, ws, rfl, h1, h2, h3⟩ := hga'
      have gok := ok.gaps g (List.mem_of_getElem? hgi)
      refine ⟨.ref ag, rfl, .int bo.many, rfl, .ref b, rfl, .ref ag, b, g, bo.many, ms, rfl, ⟨ag, bg, ws, rfl, h1, h2, h3⟩, Evl.ex_l e hy, gok, fun H2 e2 => ?_⟩
      refine ⟨true, rfl, iteF ?_⟩
      have ex2 := e.trans e2
      refine ⟨.ref ag, rfl, 2, rfl, ag, _, rfl, Evl.ex_t e2 h1, fun z => absurd (show HT.sIx 4 4 (some 2) = 4 from z.2) (by decide), fun _ p np => ?_⟩
      rw [cut2]
      have e3 := Evl.Ex.new (o := .tup [V.int g.frm, V.int g.to_]) np
      refine ⟨.ref pl, rfl, p, pl, [g.frm, g.to_], [lf, lt], rfl, rfl, .inl (.inl upd_same), Evl.ex_t (e2.trans e3) hpl, _, rfl, ?_⟩
      rw [lex2 (hlex g hgi)]
      refine iteF ?_
      refine ⟨.ref ag, rfl, 2, rfl, ag, _, rfl, Evl.ex_t (e2.trans e3) h1, fun z => absurd (show HT.sIx 4 4 (some 2) = 4 from z.2) (by decide), fun _ p' np' => ?_⟩
      rw [cut2]
      have e4 := Evl.Ex.new (o := .tup [V.int g.frm, V.int g.to_]) np'
      refine ⟨_, rfl, .ref ag, rfl, ag, _, 3, .ref bg, rfl, rfl, Evl.ex_t ((e2.trans e3).trans e4) h1, atI_nat (j := 3) rfl, bg, ws, rfl, .inr (Evl.ex_t ((e2.trans e3).trans e4) h2), _, _, rfl, rfl, ?_⟩
      refine ⟨p', g.frm, g.to_, some (.ref ag), ?_, (ex2.trans e3).trans e4, .inl (.inl upd_same), fun g' hg' => ?_⟩
      · have wl : ws.length = g.ways.length := Paired.len h3
        rw [take_succ_get hgi, List.map_append, List.sum_append, wl]
        simp
      · obtain ⟨l1, q1⟩ := List.getElem?_eq_some_iff.mp hgi
        obtain ⟨l2, q2⟩ := List.getElem?_eq_some_iff.mp hg'
        have := List.pairwise_iff_getElem.mp ok.rise i (i + 1) l1 l2 (Nat.lt_succ_self i)
        rw [q1, q2] at this
        exact this
    · rintro σ H' ⟨pl, lf, lt, y6, rfl, e, hpl, hlex⟩
      refine ⟨_, rfl, _, 8, rfl, rfl, ?_⟩
      have s8 : decide ((((bo.gaps.take gs.length).map (fun g => ((g.ways.length : Nat) : Int))).sum) ≤ 8) = true := by
        have h := ok.few
        rw [gl, List.take_length]
        have z : ∀ l : List Gap, (l.map (fun g => ((g.ways.length : Nat) : Int))).sum = (((l.map (fun g => g.ways.length)).sum : Nat) : Int) := by
          intro l
          induction l with
          | nil => rfl
          | cons g l ih => simp [ih]
        rw [z]
        simp
        omega
      show Q (.bl (decide (_ ≤ 8))) H'
      rw [s8]
      exact q H' e
end
end Wb

set_option Elab.async false
set_option linter.all false
set_option maxRecDepth 100000
set_option maxHeartbeats 4000000
set_option pp.maxSteps 600
set_option pp.deepTerms false
namespace Wb
open PySem PySem.Spec PyProof.Rows L2
abbrev sWords : Stmt := topS 12
theorem scWords : FnScope ["lock", "rows", "above", "k", "found", "word", "gap", "way"] ["lock"] (defScope sWords) := ⟨rfl, rfl, rfl, by decide +kernel, rfl, by decide +kernel, by decide +kernel⟩

/-! ### words as keys -/
def keyW (w : Word) : List Key := w.map Sum.inl
theorem keyW_kV (w : Word) : (keyW w).map kV = w.map V.int := by
  unfold keyW
  rw [List.map_map]
  rfl
theorem keyW_inj {u w : Word} (h : keyW u = keyW w) : u = w := by
  unfold keyW at h
  exact (List.map_inj_right (fun _ _ e => Sum.inl.inj e)).mp h
def kws (ws : List Word) (v : Word → V) : List (List Key × V) := ws.map fun w => (keyW w, v w)
def addW (ws : List Word) (w : Word) : List Word := if w ∈ ws then ws else ws ++ [w]
theorem kws_any (ws : List Word) (v : Word → V) (w : Word) : ((kws ws v).any fun kv => decide (kv.1 = keyW w)) = decide (w ∈ ws) := by
  unfold kws
  rw [List.any_map]
  rw [Bool.eq_iff_iff]
  simp only [List.any_eq_true, Function.comp, decide_eq_true_eq]
  constructor
  · rintro ⟨u, hu, e⟩
    rw [← keyW_inj e]
    exact hu
  · intro h
    exact ⟨w, h, rfl⟩
theorem put_kws (ws : List Word) (w : Word) : putK (kws ws fun _ => .bl true) (keyW w) (.bl true) = kws (addW ws w) fun _ => .bl true := by
  unfold putK addW
  rw [kws_any]
  by_cases h : w ∈ ws
  · rw [if_pos (decide_eq_true h), if_pos h]
    unfold kws
    rw [List.map_map]
    apply List.map_congr_left
    intro u _
    show (if keyW u = keyW w then (keyW u, V.bl true) else (keyW u, V.bl true)) = (keyW u, V.bl true)
    split <;> rfl
  · rw [if_neg (by rw [decide_eq_false h]; exact Bool.false_ne_true), if_neg h]
    unfold kws
    rw [List.map_append]
    rfl
theorem mem_addW {ws : List Word} {w u : Word} : u ∈ addW ws w ↔ u ∈ ws ∨ u = w := by
  unfold addW
  split
  · rename_i h
    exact ⟨.inl, fun z => z.elim id fun e => e ▸ h⟩
  · simp
theorem nodup_addW {ws : List Word} {w : Word} (h : ws.Nodup) : (addW ws w).Nodup := by
  unfold addW
  split
  · exact h
  · rename_i hn
    rw [List.nodup_append]
    refine ⟨h, by simp, ?_⟩
    intro a ha b hb
    simp at hb
    subst hb
    intro e
    exact hn (e ▸ ha)
theorem valV_kws (ws : List Word) (v : Word → V) (w : Word) : valV (kws ws v) (keyW w) = if w ∈ ws then some (v w) else none := by
  induction ws with
  | nil => rfl
  | cons u ws ih =>
    by_cases e : u = w
    · subst e
      rw [if_pos (by simp)]
      exact valV_pos rfl
    · have z : valV (kws (u :: ws) v) (keyW w) = valV (kws ws v) (keyW w) := valV_neg (fun q => e (keyW_inj q))
      rw [z, ih]
      have m : w ∈ u :: ws ↔ w ∈ ws := by
        simp only [List.mem_cons]
        exact ⟨fun q => q.elim (fun q => absurd q.symm e) id, .inr⟩
      by_cases h : w ∈ ws
      · rw [if_pos h, if_pos (m.mpr h)]
      · rw [if_neg h, if_neg (fun q => h (m.mp q))]

/-! ### the words at a bolt -/
def WordsAt (l : Lock) (k : Nat) (ws : List Word) : Prop := ws.Nodup ∧ ∀ w, w ∈ ws ↔ cutsFrom l k w
/-- a list of words at r -/
def RowAt (K : PySem.W.Frag) (H : Hp) (r : Addr) (ws : List Word) : Prop := ∃ us, H r = some (.lst us) ∧ Paired (Wd K H) us ws
theorem RowAt.ex {K : PySem.W.Frag} {H H' : Hp} (e : Evl.Ex H H') {r : Addr} {ws : List Word} (h : RowAt K H r ws) : RowAt K H' r ws := by
  obtain ⟨us, a, b⟩ := h
  exact ⟨us, e _ _ a, Paired.imp (fun _ _ => wd_ex e) b⟩
theorem cutsFrom_len {l : Lock} (ok : LockOk l) {k : Nat} {w : Word} (hk : k ≤ l.length) (h : cutsFrom l k w) : w.length = k := by
  obtain ⟨j, b, g, u, hj, hb, hg, hu, rfl⟩ := h
  have lu := (((ok.bolts j b hb).gaps g hg).words u hu).1
  have lj : j < l.length := (List.getElem?_eq_some_iff.mp hb).1
  unfold manysOf at lu
  rw [List.length_map, List.length_take] at lu
  rw [List.length_take]
  omega
/-- the words at k: those at k + 1 cut, and the bolt's own -/
theorem cuts_step {l : Lock} (ok : LockOk l) {k : Nat} {b : Bolt} (hb : l[k]? = some b) (w : Word) :
    cutsFrom l k w ↔ (∃ u, cutsFrom l (k + 1) u ∧ w = u.take k) ∨ ∃ g ∈ b.gaps, w ∈ g.ways := by
  constructor
  · rintro ⟨j, b', g, u, hj, hb', hg, hu, rfl⟩
    by_cases e : j = k
    · subst e
      rw [hb] at hb'
      cases hb'
      have lu := (((ok.bolts j b hb).gaps g hg).words u hu).1
      have lj : j < l.length := (List.getElem?_eq_some_iff.mp hb).1
      unfold manysOf at lu
      rw [List.length_map, List.length_take] at lu
      refine .inr ⟨g, hg, ?_⟩
      rw [List.take_of_length_le (by omega)]
      exact hu
    · refine .inl ⟨u.take (k + 1), ⟨j, b', g, u, by omega, hb', hg, hu, rfl⟩, ?_⟩
      rw [List.take_take, Nat.min_eq_left (Nat.le_succ k)]
  · rintro (⟨u, ⟨j, b', g, u', hj, hb', hg, hu, rfl⟩, rfl⟩ | ⟨g, hg, hw⟩)
    · refine ⟨j, b', g, u', by omega, hb', hg, hu, ?_⟩
      rw [List.take_take, Nat.min_eq_left (Nat.le_succ k)]
    · have lu := (((ok.bolts k b hb).gaps g hg).words w hw).1
      have lj : k < l.length := (List.getElem?_eq_some_iff.mp hb).1
      unfold manysOf at lu
      rw [List.length_map, List.length_take] at lu
      refine ⟨k, b, g, w, Nat.le_refl _, hb, hg, hw, ?_⟩
      rw [List.take_of_length_le (by omega)]
theorem isKeys_rows {K : PySem.W.Frag} {H : Hp} : ∀ {ws : List Word} {bs : List Addr}, IsKeys H (kws ws fun _ => V.bl true) bs → Paired (Wd K H) (bs.map V.ref) ws
  | [], _, h => by
    cases h
    exact .nil
  | w :: ws, _, h => by
    cases h with
    | cons r t =>
      refine .cons ⟨_, rfl, ?_⟩ (isKeys_rows t)
      have r' : _ = some (HO.tup ((keyW w).map kV)) := r
      rw [keyW_kV] at r'
      exact r'
def spWords (K : PySem.W.Frag) : Sp := fun vs H Q _ => ∃ (v : V) (l : Lock), vs = [v] ∧ LockAt K H v l ∧ LockOk l ∧
  ∀ H' p (rs : List Addr), Evl.Ex H H' → H p = none → H' p = some (.lst (rs.map V.ref)) → rs.length = l.length →
    (∀ k r, rs[k]? = some r → H r = none ∧ ∃ ws, RowAt K H' r ws ∧ WordsAt l k ws) → Q (.ref p) H'

/-- a word of a tuple of words, cut -/
theorem cut_take (xs : List V) (k : Nat) : cutV xs none (some (k : Int)) = xs.take k := by
  unfold cutV
  rw [HT.sIx_none, HT.sIx_nat]
  rw [List.drop_zero, Nat.sub_zero]
  by_cases h : k ≤ xs.length
  · rw [Nat.min_eq_left h]
  · rw [Nat.min_eq_right (by omega), List.take_length, List.take_of_length_le (by omega)]
theorem slice_whole {n k : Nat} (h : HT.sIx n n (some (k : Int)) = n) : n ≤ k := by
  rw [HT.sIx_nat] at h
  omega
end Wb

set_option Elab.async false
set_option linter.all false
set_option maxRecDepth 100000
set_option maxHeartbeats 4000000
set_option pp.maxSteps 600
set_option pp.deepTerms false
namespace Wb
open PySem PySem.Spec PyProof.Rows L2
section
variable {P : Program} {w : World} {K : PySem.W.Frag} {mg : Str → Option Value} {base : Heap}
theorem few_cuts {l : Lock} (ok : LockOk l) {k : Nat} (hk : k < l.length) {cur : List Word} (h1 : cur.Nodup) (h2 : ∀ u ∈ cur, cutsFrom l k u) : cur.length < sizeLine :=
  Nat.lt_of_le_of_lt (ok.words k cur hk h1 h2) (by decide)
theorem kws_len (ws : List Word) (v : Word → V) : (kws ws v).length = ws.length := List.length_map ..
theorem ok_words {f : Addr} {fd : FuncData} (F : Fun K "words_of" "words_of" sWords f fd) (B : Bi mg) : FnOk P w K mg base CX0 1 f fd ["lock"] (spWords K) := by
  refine F.ok scWords (fun vs H Q E h => ?_) (fun cdv A outer s H vs Q E hr h => ?_)
  · obtain ⟨v, l, rfl, _⟩ := h; rfl
  · obtain ⟨v, l, rfl, ⟨a, bs, rfl, hx, hp⟩, ok, q⟩ := h
    have hu := hu_of hr
    refine ⟨_, pss_cons (ps_set (i := 1) scWords.nd rfl (.inl rfl) (pe_lst pa_nil))
      (pss_cons (ps_set (i := 2) scWords.nd rfl (.inl rfl) (pe_lst pa_nil))
      (pss_cons (ps_for PassesOwn.never rfl (pi_revR (by rfl) B.rev (prg_1 (by rfl) B.range (pe_callB call_len_seq (by rfl) B.len PySem.boot_len (pa_cons (pv 0) pa_nil)))) (pg_name (i := 3) scWords.nd rfl (.inl rfl))
        (pss_cons (ps_set (i := 4) scWords.nd rfl (.inl rfl) pe_dnewT)
        (pss_cons (ps_for PassesOwn.never rfl (pi_list (pv 2)) (pg_name (i := 5) scWords.nd rfl (.inl rfl))
          (pss_one (ps_dput hu (pv 4) (pe_slice sl_tupA (pv 5) po_none (po_some (pv 3))) pe_bl rfl)))
        (pss_cons (ps_for PassesOwn.never rfl (pi_tup (pe_ix ix_tup (pe_ix ix_tup (pv 0) (pv 3) (fun _ _ => rfl)) pe_int (fun _ _ => rfl))) (pg_name (i := 6) scWords.nd rfl (.inl rfl))
          (pss_one (ps_for PassesOwn.never rfl (pi_tup (pe_ix ix_tup (pv 6) pe_int (fun _ _ => rfl))) (pg_name (i := 7) scWords.nd rfl (.inl rfl))
            (pss_one (ps_dput hu (pv 4) (pv 7) pe_bl rfl)))))
        (pss_cons (ps_set (i := 2) scWords.nd rfl (.inl rfl) (pe_callTy (call_list_dT rfl) (by rfl) B.list (PyProof.Rows.boot_list) (pa_cons (pv 4) pa_nil)))
        (pss_one (ps_expr (pe_bm PySem.F.plainAttrs_list PySem.F.slot_list_append PySem.F.type_list_append mt_append (pv 1) (pa_cons (pv 2) pa_nil)))))))))
      (pss_one (ps_ret (pe_revL (pv 1)))))), ?_⟩
    have bl : bs.length = l.length := Paired.len hp
    have n60 := ok.n1
    refine ⟨Nat.zero_le _, fun r0 nr0 => ?_⟩
    refine ⟨Nat.zero_le _, fun a0 na0 => ?_⟩
    have x1 : Evl.Ex H (upd H r0 (.lst [])) := Evl.Ex.new nr0
    have na0' : H a0 = none := Evl.fresh_back x1 na0
    have nar : r0 ≠ a0 := fun z => by rw [← z, upd_same] at na0; cases na0
    refine ⟨.ref a, rfl, a, bs, rfl, .inr (Evl.ex_t (x1.trans (Evl.Ex.new na0)) hx), _, rfl, by omega, by omega, by omega, by omega, ?_⟩
    refine for_rangeC (lo := _) (c := -1) (n := _) (fun i σ H' => ∃ (aA : Addr) (rs : List Addr) (ws : List Word) (y3 y4 y5 y6 y7 : Option V), σ = [some (.ref a), some (.ref r0), some (.ref aA), y3, y4, y5, y6, y7] ∧
        Evl.Ex H H' ∧ RowAt K H' aA ws ∧ WordsAt l (l.length - i) ws ∧ H' r0 = some (.lst (rs.map V.ref)) ∧ rs.length = i ∧
        ∀ j r, rs[j]? = some r → r ≠ r0 ∧ H r = none ∧ ∃ ws', RowAt K H' r ws' ∧ WordsAt l (l.length - 1 - j) ws')
      ⟨a0, [], [], none, none, none, none, none, rfl, x1.trans (Evl.Ex.new na0), ⟨[], upd_same, .nil⟩, ⟨List.nodup_nil, fun w => ?_⟩, by rw [upd_ne nar, upd_same]; rfl, rfl, fun j r e => by simp at e⟩ ?_ ?_
    · constructor
      · intro z; cases z
      · rintro ⟨j, b, g, u, hj, hb, _⟩
        have := (List.getElem?_eq_some_iff.mp hb).1
        omega
    · rintro i σ H1 hi ⟨aA, rs, ws, y3, y4, y5, y6, y7, rfl, e1, hA, hW, hR, hl, hrs⟩
      have hi' : i < l.length := by omega
      -- the bolt's number
      have ek : (0 : Int) + (((((bs.length : Nat) : Int) - 0).toNat : Nat) : Int) - 1 + (i : Nat) * (-1) = ((l.length - 1 - i : Nat) : Int) := by rw [bl]; omega
      rw [ek]
      generalize hk : l.length - 1 - i = k at *
      have hkl : k < l.length := by omega
      have hk1 : l.length - i = k + 1 := by omega
      rw [hk1] at hW
      obtain ⟨b, hb⟩ : ∃ b, l[k]? = some b := ⟨l[k], List.getElem?_eq_getElem hkl⟩
      obtain ⟨vb, hvb, hba⟩ := Paired.get2 hp hb
      obtain ⟨us, hAu, hAp⟩ := hA
      have ul : us.length = ws.length := Paired.len hAp
      intro d nd
      have nd0 : H d = none := Evl.fresh_back e1 nd
      have ndr : d ≠ r0 := fun z => by rw [z, hR] at nd; cases nd
      have e2 : Evl.Ex H1 (upd H1 d (.dT [])) := Evl.Ex.new nd
      -- the words above, cut
      refine ⟨.ref aA, rfl, aA, rfl, ⟨us, .inl (.inl (e2 _ _ hAu))⟩, for_list (K := K) (a := aA) (xs := us) (fun j σ H' => ∃ (cur : List Word) (y5 : Option V), σ = [some (.ref a), some (.ref r0), some (.ref aA), some (.int (k : Nat)), some (.ref d), y5, y6, y7] ∧
          Evl.Ex H1 H' ∧ H' d = some (.dT (kws cur fun _ => .bl true)) ∧ cur.Nodup ∧ ∀ u, u ∈ cur ↔ ∃ t ∈ ws.take j, u = t.take k) ⟨[], y5, rfl, e2, upd_same, List.nodup_nil, fun u => by simp⟩ ?_ ?_ ?_⟩
      · rintro j σ H' _ ⟨cur, z5, _, e, _⟩
        exact .inl (.inl (e _ _ hAu))
      · rintro j x σ H' hj ⟨cur, z5, rfl, e3, hd, nc, hc⟩
        obtain ⟨t, ht, ⟨ax, rfl, hax⟩⟩ := Paired.get1 hAp hj
        have htw : t ∈ ws := List.mem_of_getElem? ht
        have hcut : cutsFrom l (k + 1) t := (hW.2 t).mp htw
        have lt1 : t.length = k + 1 := cutsFrom_len ok (by omega) hcut
        have hcur : ∀ u ∈ cur, cutsFrom l k u := by
          intro u hu
          obtain ⟨t', ht', rfl⟩ := (hc u).mp hu
          exact (cuts_step ok hb _).mpr (.inl ⟨t', (hW.2 t').mp (List.mem_of_mem_take ht'), rfl⟩)
        have lc := few_cuts ok hkl nc hcur
        refine ⟨.ref d, rfl, .ref ax, rfl, .int (k : Nat), rfl, (k : Nat), rfl, ax, _, rfl, .inl (.inl (e3 _ _ hax)), fun z => absurd (slice_whole z.2) (by rw [List.length_map]; omega), fun _ p np => ?_⟩
        rw [cut_take, ← List.map_take]
        have npd : p ≠ d := fun z => by rw [z, hd] at np; cases np
        have e4 := Evl.Ex.new (o := .tup ((t.take k).map V.int)) np
        refine ⟨d, _, rfl, DPut.t (k := keyW (t.take k)) (e4 _ _ hd) (by rw [keyW_kV]; exact upd_same) (by rw [kws_len]; exact lc), ?_⟩
        refine ⟨addW cur (t.take k), _, rfl, (e3.trans e4).mut nd, by rw [upd_same, put_kws], nodup_addW nc, fun u => ?_⟩
        rw [mem_addW, hc u, take_succ_get ht]
        constructor
        · rintro (⟨t', h1, h2⟩ | rfl)
          · exact ⟨t', List.mem_append_left _ h1, h2⟩
          · exact ⟨t, by simp, rfl⟩
        · rintro ⟨t', h1, h2⟩
          rcases List.mem_append.mp h1 with h1 | h1
          · exact .inl ⟨t', h1, h2⟩
          · have : t' = t := by simpa using h1
            subst this
            exact .inr h2
      · rintro σ H2 ⟨cur0, z5, rfl, e3, hd, nc0, hc0⟩
        rw [ul, List.take_length] at hc0
        obtain ⟨ab, cg, gs, rfl, hb1, hb2, hb3⟩ := hba
        have e13 := e1.trans e3
        have gl : gs.length = b.gaps.length := Paired.len hb3
        -- the bolt's own ways
        refine ⟨.ref a, rfl, .int (k : Nat), rfl, a, bs, (k : Nat), .ref ab, rfl, rfl, Evl.ex_t e13 hx, atI_nat hvb, ab, _, 1, .ref cg, rfl, rfl, Evl.ex_t e13 hb1, atI_nat (j := 1) rfl, cg, rfl, ⟨gs, Evl.ex_t e13 hb2⟩,
          for_tup (K := K) (a := cg) (xs := gs) (fun j σ H' => ∃ (cur : List Word) (y6 y7 : Option V), σ = [some (.ref a), some (.ref r0), some (.ref aA), some (.int (k : Nat)), some (.ref d), z5, y6, y7] ∧
            Evl.Ex H1 H' ∧ H' d = some (.dT (kws cur fun _ => .bl true)) ∧ cur.Nodup ∧ ∀ u, u ∈ cur ↔ (∃ t ∈ ws, u = t.take k) ∨ ∃ g ∈ b.gaps.take j, u ∈ g.ways) ⟨cur0, y6, y7, rfl, e3, hd, nc0, fun u => by rw [hc0]; simp⟩ ?_ ?_ ?_⟩
        · rintro j σ H' _ ⟨cur, _, _, _, e, _⟩
          exact Evl.ex_t (e1.trans e) hb2
        · rintro j x σ H' hj ⟨cur, z6, z7, rfl, e4, hd4, nc, hc⟩
          obtain ⟨g, hgj, ⟨ag, bg, wv, rfl, hg1, hg2, hg3⟩⟩ := Paired.get1 hb3 hj
          have hgm : g ∈ b.gaps := List.mem_of_getElem? hgj
          have e14 := e1.trans e4
          have wl : wv.length = g.ways.length := Paired.len hg3
          refine ⟨.ref ag, rfl, ag, _, 3, .ref bg, rfl, rfl, Evl.ex_t e14 hg1, atI_nat (j := 3) rfl, bg, rfl, ⟨wv, Evl.ex_t e14 hg2⟩,
            for_tup (K := K) (a := bg) (xs := wv) (fun m σ H' => ∃ (cur : List Word) (y7 : Option V), σ = [some (.ref a), some (.ref r0), some (.ref aA), some (.int (k : Nat)), some (.ref d), z5, some (.ref ag), y7] ∧
              Evl.Ex H1 H' ∧ H' d = some (.dT (kws cur fun _ => .bl true)) ∧ cur.Nodup ∧ ∀ u, u ∈ cur ↔ ((∃ t ∈ ws, u = t.take k) ∨ ∃ g ∈ b.gaps.take j, u ∈ g.ways) ∨ u ∈ g.ways.take m) ⟨cur, z7, rfl, e4, hd4, nc, fun u => by rw [hc]; simp⟩ ?_ ?_ ?_⟩
          · rintro m σ H' _ ⟨_, _, _, e, _⟩
            exact Evl.ex_t (e1.trans e) hg2
          · rintro m x σ H3 hm ⟨cur, z7, rfl, e5, hd5, nc, hc⟩
            obtain ⟨t, ht, ⟨ax, rfl, hax⟩⟩ := Paired.get1 hg3 hm
            have hcur : ∀ u ∈ cur, cutsFrom l k u := by
              intro u hu
              rcases (hc u).mp hu with (⟨t', ht', rfl⟩ | ⟨g', hg', hu'⟩) | hu'
              · exact (cuts_step ok hb _).mpr (.inl ⟨t', (hW.2 t').mp ht', rfl⟩)
              · exact (cuts_step ok hb _).mpr (.inr ⟨g', List.mem_of_mem_take hg', hu'⟩)
              · exact (cuts_step ok hb _).mpr (.inr ⟨g, hgm, List.mem_of_mem_take hu'⟩)
            have lc := few_cuts ok hkl nc hcur
            refine ⟨.ref d, rfl, .ref ax, rfl, d, _, rfl, DPut.t (k := keyW t) hd5 (by rw [keyW_kV]; exact (e1.trans e5) _ _ hax) (by rw [kws_len]; exact lc), ?_⟩
            refine ⟨addW cur t, _, rfl, e5.mut nd, by rw [upd_same, put_kws], nodup_addW nc, fun u => ?_⟩
            rw [mem_addW, hc u, take_succ_get ht, List.mem_append, or_assoc]
            simp
          · rintro σ H3 ⟨cur, z7, rfl, e5, hd5, nc, hc⟩
            refine ⟨cur, _, _, rfl, e5, hd5, nc, fun u => ?_⟩
            rw [hc u, wl, List.take_length, take_succ_get hgj, or_assoc]
            simp only [List.mem_append, List.mem_singleton]
            constructor
            · rintro (h | ⟨g', h1, h2⟩ | h)
              · exact .inl h
              · exact .inr ⟨g', .inl h1, h2⟩
              · exact .inr ⟨g, .inr rfl, h⟩
            · rintro (h | ⟨g', h1 | h1, h2⟩)
              · exact .inl h
              · exact .inr (.inl ⟨g', h1, h2⟩)
              · exact .inr (.inr (h1 ▸ h2))
        · rintro σ H2 ⟨cur, z6, z7, rfl, e4, hd4, nc, hc⟩
          rw [gl, List.take_length] at hc
          have hcur : ∀ u, u ∈ cur ↔ cutsFrom l k u := by
            intro u
            rw [hc u, cuts_step ok hb u]
            constructor
            · rintro (⟨t, h1, h2⟩ | h)
              · exact .inl ⟨t, (hW.2 t).mp h1, h2⟩
              · exact .inr h
            · rintro (⟨t, h1, h2⟩ | h)
              · exact .inl ⟨t, (hW.2 t).mpr h1, h2⟩
              · exact .inr h
          refine ⟨.ref d, rfl, d, _, rfl, .inl hd4, fun p qs np hk' => ?_⟩
          have hrows := isKeys_rows (K := K) hk'
          have e5 := Evl.Ex.new (o := .lst (qs.map V.ref)) np
          have npr : p ≠ r0 := fun z => by rw [z, e4 _ _ hR] at np; cases np
          have hR5 : (upd H2 p (.lst (qs.map V.ref))) r0 = some (.lst (rs.map V.ref)) := e5 _ _ (e4 _ _ hR)
          refine ⟨.ref r0, rfl, .inl ⟨rfl, _, SqL.of hR5⟩, .ref p, rfl, r0, _, _, rfl, rfl, hR5, ?_, ?_⟩
          · rw [List.length_map, hl]
            exact Nat.lt_of_lt_of_le (show i < 61 by omega) (by decide)
          · have e15 : Evl.Ex H1 (upd H2 p (.lst (qs.map V.ref))) := e4.trans e5
            have keep : ∀ {r : Addr} {ws' : List Word} {Hx : Hp}, r ≠ r0 → RowAt K Hx r ws' → Hx r0 ≠ none → (∀ xs, Hx r0 ≠ some (.tup xs)) → ∀ o, RowAt K (upd Hx r0 o) r ws' := by
              rintro r ws' Hx hne ⟨us', h1, h2⟩ _ ht o
              refine ⟨us', by rw [upd_ne hne]; exact h1, Paired.imp (fun v w' h => ?_) h2⟩
              obtain ⟨ax, rfl, hax⟩ := h
              exact ⟨ax, rfl, by rw [upd_ne (fun z => ht _ (z ▸ hax))]; exact hax⟩
            have nn : (upd H2 p (.lst (qs.map V.ref))) r0 ≠ none := by rw [hR5]; exact fun z => nomatch z
            have nt : ∀ xs, (upd H2 p (.lst (qs.map V.ref))) r0 ≠ some (.tup xs) := fun xs z => by rw [hR5] at z; cases z
            have hP : RowAt K (upd H2 p (.lst (qs.map V.ref))) p cur := ⟨qs.map V.ref, upd_same, Paired.imp (fun _ _ => wd_ex e5) hrows⟩
            have hWk : WordsAt l k cur := ⟨nc, hcur⟩
            refine ⟨p, rs ++ [p], cur, _, _, _, _, _, rfl, (e1.trans e15).mut nr0, keep npr hP nn nt _, ?_, by rw [upd_same, List.map_append]; rfl, by simp [hl], ?_⟩
            · rw [show l.length - (i + 1) = k by omega]
              exact hWk
            · intro j r hj
              by_cases hjl : j < rs.length
              · rw [List.getElem?_append_left hjl] at hj
                obtain ⟨h1, h0, ws', h2, h3⟩ := hrs j r hj
                exact ⟨h1, h0, ws', keep h1 (h2.ex e15) nn nt _, h3⟩
              · rw [List.getElem?_append_right (by omega)] at hj
                have : j = rs.length := by
                  by_cases e : j - rs.length = 0
                  · omega
                  · rw [List.getElem?_eq_none (by simp; omega)] at hj; cases hj
                subst this
                rw [Nat.sub_self] at hj
                have er : r = p := (Option.some.inj hj).symm
                subst er
                exact ⟨npr, Evl.fresh_back (e1.trans e4) np, cur, keep npr hP nn nt _, by rw [hl, hk]; exact hWk⟩
    · rintro σ H1 ⟨aA, rs, ws, y3, y4, y5, y6, y7, rfl, e1, hA, hW, hR, hl, hrs⟩
      have hl' : rs.length = l.length := by rw [hl, bl]; omega
      refine ⟨.ref r0, rfl, r0, _, rfl, .inl (.inl hR), fun p np => ?_⟩
      rw [← List.map_reverse]
      have e2 := Evl.Ex.new (o := .lst (rs.reverse.map V.ref)) np
      refine q _ p rs.reverse (e1.trans e2) (Evl.fresh_back e1 np) upd_same (by rw [List.length_reverse, hl']) ?_
      intro k r hk
      have hk2 : k < rs.reverse.length := (List.getElem?_eq_some_iff.mp hk).1
      rw [List.length_reverse] at hk2
      rw [List.getElem?_reverse hk2] at hk
      obtain ⟨_, h0, ws', h2, h3⟩ := hrs _ r hk
      refine ⟨h0, ws', h2.ex e2, ?_⟩
      rw [show l.length - 1 - (rs.length - 1 - k) = k by omega] at h3
      exact h3
end
end Wb

set_option Elab.async false
set_option linter.all false
set_option maxRecDepth 100000
set_option maxHeartbeats 4000000
set_option pp.maxSteps 600
set_option pp.deepTerms false
namespace L2
open PySem PySem.Spec PyProof.Rows
/-! ### {k: v for .. in ..}, keys that are tuples -/
theorem dT_set {X : Cx} {pins : List (Addr × Obj)} {σ : L2.St} {H : Hp} {s : Shared} {E : Value → Shared → Prop} {D q : Addr} {kvs : List (List Key × V)} {k : List Key} {v : V} {r : Value} {Q : Unit → Shared → Prop} (hu : X.A.units + 1 < cLine)
    (I : Inv X pins σ H s) (hD : H D = some (.dT kvs)) (hz : kvs.length < sizeLine) (hq : H q = some (.tup (k.map kV))) (rv : RelV v r)
    (go : ∀ s', Inv X pins σ (upd H D (.dT (putK kvs k v))) s' → Q () s') : wpAny (model X.prog X.w) X.A (dictSet D (.ref q) r) Q E s := by
  obtain ⟨z, hd, xs, rel, dd⟩ := dt_of I.hok hD
  have n1 : xs.length ≤ sizeLine := by rw [← Paired.length rel]; exact z
  have n2 : (putK kvs k v).length ≤ sizeLine := by have := length_putK kvs k v; omega
  apply wpAny_dictSet_heap (hsz := n1) (show (tupleKind (mixKind X.prog X.w)).room X.A from Nat.lt_trans (Nat.lt_succ_self _) hu) (key_of I.hok hq) dd
  intro h' dd' hs
  apply go
  obtain ⟨o, es, ep, e1, e2, e3, e4, _, e5⟩ := dd'
  apply d_write I (by rw [hD]; exact True.intro) hs ⟨o, e1⟩
  refine ⟨n2, hd, _, (rel.put k hq rv).keeps ?_, o, es, ep, e1, e2, e3, e4, e5⟩
  intro c ys ec
  rw [upd_ne (ne_of ec hD (fun z => nomatch z))]
  exact ec
section
variable {X : Cx}
def tDcT (wi : TI) (g : TG) (tt : TT) (tk tv : TE) (vs : List Nat) : TE := fun σ H Q => wi σ H fun J H1 => ∀ D, H1 D = none → ∃ W : Nat → Nat → Hp → Prop, (∃ m, W 0 m (upd H1 D (.dT []))) ∧ ∀ i m H, W i m H →
  (J.stop i H ∧ Q (.ref D) H) ∨ (J.go i H ∧ ∃ Nx : Hp → Prop, (∀ H', Nx H' → ∃ m', m' < m ∧ W (i + 1) m' H') ∧ ∀ x H', J.yld i H x H' → g x (wipe σ vs) H' fun σ2 H2 => wipe σ2 vs = wipe σ vs ∧ tt σ2 H2 fun b H3 =>
    if b = true then tk σ2 H3 fun y H4 => tv σ2 H4 fun z H5 => ∃ kvs k q, y = .ref q ∧ H5 q = some (.tup (k.map kV)) ∧ H5 D = some (.dT kvs) ∧ kvs.length < sizeLine ∧ Nx (upd H5 D (.dT (putK kvs k z))) else Nx H3)
theorem dct_core {pins : List (Addr × Obj)} {s : Shared} {σ : L2.St} {H : Hp} {Q : VK} {kx vx tg iter : Expr} {ifs : List Expr} {sc : Scope} {own : List (Str × Nat)} {pos pos' : Pos} {wi : TI} {g : TG} {tt : TT} {tk tv : TE}
    {use : Option (Value → Sem Unit)} {Qf : Value → Shared → Prop} (hu : X.A.units + 1 < cLine) (hc : X.calm = true) (hN : X.N.Nodup) (I : Inv X pins σ H s) (hi : PI X tg iter wi) (ok : BlkOk X.N X.env.scope sc own)
    (pgs : ∀ (s : Shared) (H : Hp) (C : Addr) (cl : List (Str × Addr)) (fp : List Addr), PG (X.blk s H sc (compEnvC sc cl C X.env) fp) tg g)
    (pts : ∀ (s : Shared) (H : Hp) (C : Addr) (cl : List (Str × Addr)) (fp : List Addr), PTs (X.blk s H sc (compEnvC sc cl C X.env) fp) ifs tt)
    (pks : ∀ (s : Shared) (H : Hp) (C : Addr) (cl : List (Str × Addr)) (fp : List Addr), PE (X.blk s H sc (compEnvC sc cl C X.env) fp) kx tk)
    (pes : ∀ (s : Shared) (H : Hp) (C : Addr) (cl : List (Str × Addr)) (fp : List Addr), PE (X.blk s H sc (compEnvC sc cl C X.env) fp) vx tv)
    (hs : ∀ x, foldedSetIterable iter X.env x = pure x) (h : tDcT wi g tt tk tv (own.map (·.2)) σ H Q)
    (fin0 : ∀ D C s' m H', Inv X pins σ H' s' → Q (.ref D) H' → s'.heap.Ns C m → FpOk X pins H' C → compPost (model X.prog X.w) X.A X.xe use Qf (.ref D) C (.ok .next) s') :
    wpAny (model X.prog X.w) X.A (comprehension (.DictComp kx vx [⟨tg, iter, ifs, 0⟩] sc pos) sc X.env pos' newDict false (eval iter X.env) use) Qf X.xe s := by
  have frees : ∀ y ∈ sc.names, y.2 = .free → ∃ c, X.env.cells.lookup y.1 = some c := by
    intro y hy e
    cases ok.free y hy e with
    | inl k => exact I.ok.has _ (.inl k)
    | inr k => exact I.ok.has _ (.inr k)
  apply wpAny_comprehension_free (use := use) rfl hs (closure_ok frees) ok.kind (fun y hy e => by rw [ok.uniq y hy, e])
  refine thn (hi.run pins s σ H _ I h) ?_
  intro xv s1 hx
  refine thn hx ?_
  rintro itv s2 ⟨it, fp, tn, J, H2, rfl, I2, T, st2, f2, q⟩
  refine wpAny_newObj_type (newEnv_comp ?_)
  obtain ⟨D, hD⟩ : ∃ D, s2.heap.objs.size = D := ⟨_, rfl⟩
  have hDn : H2 D = none := I2.hok.fresh (Nat.le_of_eq hD)
  obtain ⟨W, ⟨m0, w0⟩, turn⟩ := q D hDn
  obtain ⟨s3, hs3⟩ : ∃ s3 : Shared, ({ s2 with heap := s2.heap.push { cls := .type "dict", data := .dict #[] } } : Shared) = s3 := ⟨_, rfl⟩
  rw [hD, hs3]
  have h3 : s3.heap = s2.heap.push { cls := .type "dict", data := .dict #[] } := by rw [← hs3]
  have I3 : Inv X pins σ (upd H2 D (.dT [])) s3 := by
    subst hs3
    apply I2.laid (t' := s2.toks) (fun b o e => Heap.get?_push_of_some _ e) (Nat.le_of_eq hD)
    subst hD
    exact dt_empty s2.heap I2.big
  have below : ∀ b ∈ fp, b < s2.heap.objs.size := by
    intro b hb
    obtain ⟨o, e, _⟩ := T.obj _ _ st2 b hb
    exact Heap.lt_size e
  have f3 : ∀ b ∈ fp, FpOk X pins (upd H2 D (.dT [])) b ∧ b < s3.heap.objs.size := by
    intro b hb
    have lt := below b hb
    refine ⟨⟨?_, (f2 b hb).2⟩, by rw [h3, Heap.size_push]; exact Nat.lt_succ_of_lt lt⟩
    rw [upd_ne (by subst hD; exact Nat.ne_of_lt lt)]
    exact (f2 b hb).1
  have st3 : tn 0 s3.heap := by
    apply T.keep _ _ _ st2
    intro b _ o e
    rw [h3]
    exact Heap.get?_push_of_some _ e
  have I4 := block_start I3 ok hN f3
  have pg := pgs s3 (upd H2 D (.dT [])) s3.heap.objs.size (cellsFrom (s3.heap.objs.size + 1) sc.names (cloFrom X.env.cells sc.names [])) fp
  have pt := pts s3 (upd H2 D (.dT [])) s3.heap.objs.size (cellsFrom (s3.heap.objs.size + 1) sc.names (cloFrom X.env.cells sc.names [])) fp
  have pk := pks s3 (upd H2 D (.dT [])) s3.heap.objs.size (cellsFrom (s3.heap.objs.size + 1) sc.names (cloFrom X.env.cells sc.names [])) fp
  have pe := pes s3 (upd H2 D (.dT [])) s3.heap.objs.size (cellsFrom (s3.heap.objs.size + 1) sc.names (cloFrom X.env.cells sc.names [])) fp
  show codeAny _ _ (.compStart (.DictComp kx vx [⟨tg, iter, ifs, 0⟩] sc pos) 0 (.ref it) (.ref D) (compEnvC sc (cellsFrom (s3.heap.objs.size + 1) sc.names (cloFrom X.env.cells sc.names [])) s3.heap.objs.size X.env)) _ { s3 with heap := pushCells (s3.heap.push { cls := .type "dict", data := .dict #[] }) sc.names }
  have none3 : ∀ b ∈ fp, (upd H2 D (.dT [])) b = none := fun b hb => (f3 b hb).1.1
  generalize hce : compEnvC sc (cellsFrom (s3.heap.objs.size + 1) sc.names (cloFrom X.env.cells sc.names [])) s3.heap.objs.size X.env = ce at I4 pg pt pk pe ⊢
  have cL : ce.locals = s3.heap.objs.size := by rw [← hce]; rfl
  generalize hH3 : upd H2 D (.dT []) = H3 at I3 I4 pg pt pk pe w0 none3 f3
  generalize hs4 : ({ s3 with heap := pushCells (s3.heap.push { cls := .type "dict", data := .dict #[] }) sc.names } : Shared) = s4 at I4 ⊢
  have st4 : tn 0 s4.heap := by
    apply T.keep _ _ _ st3
    intro b _ o e
    rw [← hs4]
    exact pushCells_keeps _ _ _ _ (Heap.get?_push_of_some _ e)
  have stat : ∀ {σ' : L2.St} {H' : Hp} {s' : Shared}, Inv (X.blk s3 H3 sc ce fp) [] σ' H' s' → (∀ b ∈ fp, H' b = none) → ∀ b ∈ fp, FpOk (X.blk s3 H3 sc ce fp) [] H' b := by
    intro σ' H' s' I' hn b hb
    refine ⟨hn b hb, (I'.ok.exf b hb).1, I'.ok.exfs b hb, .inl hb, fun x c e => (I'.ok.exf b hb).2 x c e, ?_⟩
    intro p hp
    exact absurd (show p ∈ ([] : List (Addr × Obj)) ++ [] from hp) (by simp)
  refine (fun loop => codeAny_compStart_dict loop (T.self X.A 0 _ _ _ st4 loop)) ?_
  apply compLoop_anyD (fun n s' => ∃ i H', Inv (X.blk s3 H3 sc ce fp) [] (wipe σ (own.map (·.2))) H' s' ∧ tn i s'.heap ∧ (∀ b ∈ fp, H' b = none) ∧ W i n H') _ m0 ⟨0, H3, I4, st4, none3, w0⟩
  rintro n s5 ⟨i, H5, I5, st5, n5, w5⟩
  rcases turn i n H5 w5 with ⟨stop, qq⟩ | ⟨go, Nx, hNx, step⟩
  · refine thnF (T.done (X.blk s3 H3 sc ce fp) rfl rfl rfl hc i [] s5 _ H5 (fun _ _ => False) I5 (stat I5 n5) st5 stop) ?_
    rintro r s6 ⟨rfl, I6⟩
    have I7 : Inv X pins σ H5 s6 := I3.call' (ch := fp) I6.os I6.base I6.hok I6.bare (fun b hb => by
      have z := (f3 b hb).1
      exact ⟨z.2.2.2.1, z.2.1, z.2.2.2.2.1, z.2.2.2.2.2⟩)
    have nC : H5 s3.heap.objs.size = none := by
      rw [← cL]
      exact I6.free
    obtain ⟨m, hn, _⟩ := I6.loc
    have hn' : s6.heap.Ns s3.heap.objs.size m := by
      rw [← cL]
      exact hn
    exact fin0 D s3.heap.objs.size s6 m H5 I7 qq hn' (I3.fpOk (b := s3.heap.objs.size) (Nat.le_refl _) nC)
  · refine thnF (T.item (X.blk s3 H3 sc ce fp) rfl rfl rfl hc i [] s5 _ H5 (fun _ _ => False) I5 (stat I5 n5) st5 go) ?_
    rintro r s6 ⟨u, rfl, h6⟩
    refine thnF h6 ?_
    rintro _ s7 ⟨x, H7, I7, r7, y7, st7, n7⟩
    have I7p := I7.pinned (stat I7 n7) (T.obj _ _ st7)
    refine thnF (pg.run _ s7 _ H7 x u _ I7p r7 (step x H7 y7)) ?_
    rintro _ s8 ⟨σ8, H8, I8, hw8, q8⟩
    refine thnF (pt.run _ s8 σ8 H8 _ I8 q8) ?_
    rintro b s9 ⟨H9, I9, q9⟩
    have fin : ∀ {s' : Shared} {H' : Hp}, Inv (X.blk s3 H3 sc ce fp) ([] ++ pinsAt fp s7.heap) σ8 H' s' → Nx H' →
        ∃ m, m < n ∧ ∃ i H', Inv (X.blk s3 H3 sc ce fp) [] (wipe σ (own.map (·.2))) H' s' ∧ tn i s'.heap ∧ (∀ b ∈ fp, H' b = none) ∧ W i m H' := by
      intro s' H' I' nx
      obtain ⟨m', hm, w'⟩ := hNx H' nx
      have stay : ∀ b ∈ fp, ∀ o, s7.heap.get? b = some o → s'.heap.get? b = some o ∧ H' b = none := by
        intro b hb o e
        have z := I'.pin (b, o) (List.mem_append_right _ (List.mem_append_right _ (mem_pinsAt hb e)))
        exact ⟨z.1, z.2.1⟩
      refine ⟨m', hm, i + 1, H', (I'.unpinned (pins := [])).weak (by rw [← hw8, wipe_length]) ?_, T.keep _ _ _ st7 (fun b hb o e => (stay b hb o e).1), ?_, w'⟩
      · intro j v e
        rw [← hw8] at e
        exact (wipe_some e).1
      · intro b hb
        obtain ⟨o, e, _⟩ := T.obj _ _ st7 b hb
        exact (stay b hb o e).2
    cases b
    · simp only [Bool.false_eq_true, if_false] at q9 ⊢
      exact fin I9 q9
    · simp only [if_true] at q9 ⊢
      refine thnF (pk.run _ s9 σ8 H9 _ I9 q9) ?_
      rintro z s10 ⟨yk, H10, I10, r10, q10⟩
      refine thnF (pe.run _ s10 σ8 H10 _ I10 q10) ?_
      rintro z2 s11 ⟨yv, H11, I11, r11, kvs, k, kq, rfl, hkq, hD11, hz11, nx⟩
      cases r10
      exact dT_set (X := X.blk s3 H3 sc ce fp) hu I11 hD11 hz11 hkq r11 (fun s12 I12 => fin I12 nx)
theorem pe_dcT {kx vx tg iter : Expr} {ifs : List Expr} {sc : Scope} {own : List (Str × Nat)} {pos : Pos} {wi : TI} {g : TG} {tt : TT} {tk tv : TE} (hu : X.A.units + 1 < cLine) (hc : X.calm = true) (hN : X.N.Nodup) (hi : PI X tg iter wi) (ok : BlkOk X.N X.env.scope sc own)
    (pgs : ∀ (s : Shared) (H : Hp) (C : Addr) (cl : List (Str × Addr)) (fp : List Addr), PG (X.blk s H sc (compEnvC sc cl C X.env) fp) tg g)
    (pts : ∀ (s : Shared) (H : Hp) (C : Addr) (cl : List (Str × Addr)) (fp : List Addr), PTs (X.blk s H sc (compEnvC sc cl C X.env) fp) ifs tt)
    (pks : ∀ (s : Shared) (H : Hp) (C : Addr) (cl : List (Str × Addr)) (fp : List Addr), PE (X.blk s H sc (compEnvC sc cl C X.env) fp) kx tk)
    (pes : ∀ (s : Shared) (H : Hp) (C : Addr) (cl : List (Str × Addr)) (fp : List Addr), PE (X.blk s H sc (compEnvC sc cl C X.env) fp) vx tv)
    (hs : ∀ x, foldedSetIterable iter X.env x = pure x := by intro _; rfl) : PE X (.DictComp kx vx [⟨tg, iter, ifs, 0⟩] sc pos) (tDcT wi g tt tk tv (own.map (·.2))) := by
  constructor
  intro pins s σ H Q I h
  rw [arm_eval_DictComp]
  apply dct_core hu hc hN I hi ok pgs pts pks pes hs h
  intro D C s' m H' I' q hn f
  refine ⟨m, hn, ?_⟩
  intro h'' sb
  obtain ⟨g0, g1, g2, g3, g4, g5⟩ := f
  exact ⟨.ref D, H', I'.turned (t' := s'.toks) (fun b o hb e => (sb.2 b hb).trans e) g0 g1 g3 g4 g5, rfl, q⟩
/-- name = {..} on one line, the name a local -/
theorem ps_setDcT {i : Nat} {y : Str} {py : Pos} {kx vx tg iter : Expr} {ifs : List Expr} {sc : Scope} {own : List (Str × Nat)} {pos spos : Pos} {wi : TI} {g : TG} {tt : TT} {tk tv : TE} (hu : X.A.units + 1 < cLine) (hc : X.calm = true) (hN : X.N.Nodup)
    (hy : X.N[i]? = some y) (hyl : X.env.scope.names.lookup y = some .local) (hsw : swapsWith (.DictComp kx vx [⟨tg, iter, ifs, 0⟩] sc pos) (some (.Name y py)) spos.line X.env = pure true) (hi : PI X tg iter wi) (ok : BlkOk X.N X.env.scope sc own)
    (pgs : ∀ (s : Shared) (H : Hp) (C : Addr) (cl : List (Str × Addr)) (fp : List Addr), PG (X.blk s H sc (compEnvC sc cl C X.env) fp) tg g)
    (pts : ∀ (s : Shared) (H : Hp) (C : Addr) (cl : List (Str × Addr)) (fp : List Addr), PTs (X.blk s H sc (compEnvC sc cl C X.env) fp) ifs tt)
    (pks : ∀ (s : Shared) (H : Hp) (C : Addr) (cl : List (Str × Addr)) (fp : List Addr), PE (X.blk s H sc (compEnvC sc cl C X.env) fp) kx tk)
    (pes : ∀ (s : Shared) (H : Hp) (C : Addr) (cl : List (Str × Addr)) (fp : List Addr), PE (X.blk s H sc (compEnvC sc cl C X.env) fp) vx tv)
    (hs : ∀ x, foldedSetIterable iter X.env x = pure x := by intro _; rfl) :
    PS X (.Assign [.Name y py] (.DictComp kx vx [⟨tg, iter, ifs, 0⟩] sc pos) spos) (tAsg (tDcT wi g tt tk tv (own.map (·.2))) (gName i)) := by
  constructor
  intro pins s σ H D I h
  rw [exec_Assign_Name_used _ _ _ _ hsw]
  apply wpAny_bind
  apply wpAny_standAt
  apply wpAny_bind
  show wpAny _ X.A (do let _ ← comprehension (.DictComp kx vx [⟨tg, iter, ifs, 0⟩] sc pos) sc X.env (firstIterPos [⟨tg, iter, ifs, 0⟩] pos) newDict false (eval iter X.env) (some (assign (.Name y py) X.env))) _ _ s
  have h' : tDcT wi g tt tk tv (own.map (·.2)) σ H (fun x H1 => gName i x σ H1 D.nx) := h
  apply wpAny_bind
  refine thn (dct_core (Qf := fun _ s' => SP X pins D .next s') hu hc hN I hi ok pgs pts pks pes hs h' ?_) (fun _ s' hq => wpAny_pure (wpAny_pure hq))
  intro L C s' m H' I' q hn f
  show wpAny _ _ (assign (.Name y py) X.env (.ref L)) _ _ _
  apply wpAny_assign_Name
  refine store_ok2 (v := V.ref L) I' hN hy (.inl hyl) rfl ?_ (.inr hyl)
  rintro s2 I2 ⟨a, sb, ha⟩
  obtain ⟨g0, g1, g2, g3, g4, g5⟩ := f
  have apart : C ≠ a := by
    cases ha with
    | inl z => rw [z]; exact g1
    | inr z => exact fun e => g4 y a z e.symm
  refine ⟨m, hn.sameBut sb apart, ?_⟩
  intro h3 sb3
  exact ⟨_, H', I2.turned (t' := s2.toks) (fun b o hb e => (sb3.2 b hb).trans e) g0 g1 g3 g4 g5, q⟩
end
end L2

set_option Elab.async false
set_option linter.all false
set_option maxRecDepth 100000
set_option maxHeartbeats 4000000
set_option pp.maxSteps 600
set_option pp.deepTerms false
namespace Wb
open PySem PySem.Spec PyProof.Rows L2
abbrev sMoves : Stmt := topS 13
theorem scMoves : FnScope ["lock", "rows", "words", "bolt", "moves", "here", "there", "price", "ways", "way", "word"] ["lock"] (defScope sMoves) := ⟨rfl, rfl, rfl, by decide +kernel, rfl, by decide +kernel, by decide +kernel⟩

/-- a dict comprehension over any walk -/
theorem dct_it {J : It} {n : Nat} {G : Hp → Prop} {Y : Nat → Hp → V → Hp → Prop} (w : Walk J n G Y) {g : TG} {tt : TT} {tk tv : TE} {vs : List Nat} {σ : L2.St} {H1 : Hp} {D : Addr} {Qd : Hp → Prop} (Pv : Nat → Hp → Prop)
    (h0 : Pv 0 (upd H1 D (.dT []))) (hG : ∀ i H, i ≤ n → Pv i H → G H)
    (hs : ∀ i x H H', i < n → Pv i H → Y i H x H' → g x (wipe σ vs) H' fun σ2 H2 => wipe σ2 vs = wipe σ vs ∧ tt σ2 H2 fun b H3 =>
      if b = true then tk σ2 H3 fun y H4 => tv σ2 H4 fun z H5 => ∃ kvs k q, y = .ref q ∧ H5 q = some (.tup (k.map kV)) ∧ H5 D = some (.dT kvs) ∧ kvs.length < sizeLine ∧ Pv (i + 1) (upd H5 D (.dT (putK kvs k z))) else Pv (i + 1) H3)
    (hd : ∀ H, Pv n H → Qd H) :
    ∃ W : Nat → Nat → Hp → Prop, (∃ m, W 0 m (upd H1 D (.dT []))) ∧ ∀ i m H, W i m H →
      (J.stop i H ∧ Qd H) ∨ (J.go i H ∧ ∃ Nx : Hp → Prop, (∀ H', Nx H' → ∃ m', m' < m ∧ W (i + 1) m' H') ∧ ∀ x H', J.yld i H x H' → g x (wipe σ vs) H' fun σ2 H2 => wipe σ2 vs = wipe σ vs ∧ tt σ2 H2 fun b H3 =>
        if b = true then tk σ2 H3 fun y H4 => tv σ2 H4 fun z H5 => ∃ kvs k q, y = .ref q ∧ H5 q = some (.tup (k.map kV)) ∧ H5 D = some (.dT kvs) ∧ kvs.length < sizeLine ∧ Nx (upd H5 D (.dT (putK kvs k z))) else Nx H3) := by
  refine ⟨fun i m H => (m = n - i ∧ i ≤ n) ∧ Pv i H, ⟨n, ⟨rfl, Nat.zero_le _⟩, h0⟩, ?_⟩
  rintro i m H ⟨⟨rfl, hi⟩, p⟩
  have gg := hG i H hi p
  rcases Nat.lt_or_eq_of_le hi with lt | rfl
  · refine .inr ⟨w.goes i H lt gg, Pv (i + 1), ?_, ?_⟩
    · intro H' p'
      exact ⟨n - (i + 1), by omega, ⟨rfl, lt⟩, p'⟩
    · intro x H' y
      exact hs i x H H' lt p (w.yields i H x H' lt gg y)
  · exact .inl ⟨w.stops H gg, hd H p⟩

/-! ### moves by word -/
structure Tr3 where
  frm : Int
  to_ : Int
  price : Int
def TrAt (H : Hp) (v : V) (t : Tr3) : Prop := ∃ a, v = .ref a ∧ H a = some (.tup [.int t.frm, .int t.to_, .int t.price])
def trOf (g : Gap) : Tr3 := ⟨g.frm, g.to_, g.price⟩
def movesL (gs : List Gap) (w : Word) : List Tr3 := (gs.filter fun g => decide (w ∈ g.ways)).map trOf
def kps (ps : List (Word × Addr)) : List (List Key × V) := ps.map fun q => (keyW q.1, .ref q.2)
theorem kps_any (ps : List (Word × Addr)) (w : Word) : ((kps ps).any fun kv => decide (kv.1 = keyW w)) = decide (w ∈ ps.map (·.1)) := by
  unfold kps
  rw [List.any_map, Bool.eq_iff_iff]
  simp only [List.any_eq_true, Function.comp, decide_eq_true_eq, List.mem_map]
  constructor
  · rintro ⟨q, hq, e⟩
    exact ⟨q, hq, keyW_inj e⟩
  · rintro ⟨q, hq, e⟩
    exact ⟨q, hq, by rw [e]⟩
theorem put_kps {ps : List (Word × Addr)} {w : Word} (h : w ∉ ps.map (·.1)) (a : Addr) : putK (kps ps) (keyW w) (.ref a) = kps (ps ++ [(w, a)]) := by
  unfold putK
  rw [kps_any, if_neg (by rw [decide_eq_false h]; exact Bool.false_ne_true)]
  unfold kps
  rw [List.map_append]
  rfl
theorem valV_kps_none {ps : List (Word × Addr)} {w : Word} (h : w ∉ ps.map (·.1)) : valV (kps ps) (keyW w) = none := by
  have z := valV_any (keyW w) (kps ps)
  rw [kps_any, decide_eq_false h] at z
  cases e : valV (kps ps) (keyW w) with
  | none => rfl
  | some v => rw [e] at z; cases z
theorem valV_kps {ps : List (Word × Addr)} {q : Word × Addr} (hn : (ps.map (·.1)).Nodup) (h : q ∈ ps) : valV (kps ps) (keyW q.1) = some (.ref q.2) := by
  induction ps with
  | nil => cases h
  | cons p ps ih =>
    rw [List.map_cons, List.nodup_cons] at hn
    rcases List.mem_cons.mp h with rfl | h
    · exact valV_pos rfl
    · have ne : ¬ keyW p.1 = keyW q.1 := fun e => hn.1 (by rw [keyW_inj e]; exact List.mem_map.mpr ⟨q, h, rfl⟩)
      have z : valV (kps (p :: ps)) (keyW q.1) = valV (kps ps) (keyW q.1) := valV_neg ne
      rw [z]
      exact ih hn.2 h
/-- the dict of bolt b's moves, by words, its lists apart from r0 -/
def MvAt (H : Hp) (r0 d : Addr) (gs : List Gap) (ws : List Word) : Prop :=
  ∃ ps : List (Word × Addr), ps.map (·.1) = ws ∧ H d = some (.dT (kps ps)) ∧ ∀ q ∈ ps, q.2 ≠ r0 ∧ ∃ us, H q.2 = some (.lst us) ∧ Paired (TrAt H) us (movesL gs q.1)
theorem TrAt.ex {H H' : Hp} (e : Evl.Ex H H') {v : V} {t : Tr3} (h : TrAt H v t) : TrAt H' v t := by
  obtain ⟨a, r, q⟩ := h
  exact ⟨a, r, e _ _ q⟩
theorem MvAt.ex {H H' : Hp} (e : Evl.Ex H H') {r0 d : Addr} {gs : List Gap} {ws : List Word} (h : MvAt H r0 d gs ws) : MvAt H' r0 d gs ws := by
  obtain ⟨ps, h1, h2, h3⟩ := h
  refine ⟨ps, h1, e _ _ h2, fun q hq => ?_⟩
  obtain ⟨a, us, b, c⟩ := h3 q hq
  exact ⟨a, us, e _ _ b, Paired.imp (fun _ _ => TrAt.ex e) c⟩
theorem MvAt.put {H : Hp} {r0 d : Addr} {xs ys : List V} (hr : H r0 = some (.lst xs)) {gs : List Gap} {ws : List Word} (h : MvAt H r0 d gs ws) : MvAt (upd H r0 (.lst ys)) r0 d gs ws := by
  obtain ⟨ps, h1, h2, h3⟩ := h
  refine ⟨ps, h1, by rw [upd_ne (ne_of h2 hr (fun z => nomatch z))]; exact h2, fun q hq => ?_⟩
  obtain ⟨a, us, b, c⟩ := h3 q hq
  refine ⟨a, us, by rw [upd_ne a]; exact b, Paired.imp (fun v t => ?_) c⟩
  rintro ⟨x, rfl, hx⟩
  exact ⟨x, rfl, by rw [upd_ne (ne_of hx hr (fun z => nomatch z))]; exact hx⟩
def spMoves (K : PySem.W.Frag) : Sp := fun vs H Q _ => ∃ (v : V) (l : Lock), vs = [v] ∧ LockAt K H v l ∧ LockOk l ∧
  ∀ H' p (ds : List Addr), Evl.Ex H H' → H p = none → H' p = some (.lst (ds.map V.ref)) → ds.length = l.length →
    (∀ k d b, ds[k]? = some d → l[k]? = some b → ∃ ws, WordsAt l k ws ∧ MvAt H' p d b.gaps ws) → Q (.ref p) H'

section
variable {P : Program} {w : World} {K : PySem.W.Frag} {mg : Str → Option Value} {base : Heap}
theorem paired_app1 {α β : Type} {R : α → β → Prop} {xs : List α} {ys : List β} {x : α} {y : β} (h : Paired R xs ys) (r : R x y) : Paired R (xs ++ [x]) (ys ++ [y]) := Paired.app h (.cons r .nil)
theorem ok_moves {f f1 : Addr} {fd fd1 : FuncData} (F : Fun K "moves_by_word" "moves_by_word" sMoves f fd) (F1 : Fun K "words_of" "words_of" sWords f1 fd1) (b1 : Binds K fd1 ["lock"] []) (g1 : mg "words_of" = some (.ref f1)) (B : Bi mg) :
    FnOk P w K mg base CX0 2 f fd ["lock"] (spMoves K) := by
  have G1 : FnOk P w K mg base CX0 1 f1 fd1 ["lock"] (spWords K) := ok_words F1 B
  refine F.ok scMoves (fun vs H Q E h => ?_) (fun cdv A outer s H vs Q E hr h => ?_)
  · obtain ⟨v, l, rfl, _⟩ := h; rfl
  · obtain ⟨v, l, rfl, ⟨a, bs, rfl, hx, hp⟩, ok, q⟩ := h
    have hu := hu_of hr
    refine ⟨_, pss_cons (ps_set (i := 1) scMoves.nd rfl (.inl rfl) (pe_lst pa_nil))
      (pss_cons (ps_for PassesOwn.never rfl (pi_zipX (by rfl) B.zip (pa_cons (pe_call G1 hr (by rfl) g1 F1.kp b1 .nil pass0 (pa_cons (pv 0) pa_nil)) (pa_cons (pv 0) pa_nil))) (pg_tup rfl (pgs_cons (pg_name (i := 2) scMoves.nd rfl (.inl rfl)) (pgs_cons (pg_name (i := 3) scMoves.nd rfl (.inl rfl)) pgs_nil)))
        (pss_cons (ps_setDcT (i := 4) (own := [("word", 10)]) (g := gName 10) hu rfl scMoves.nd rfl rfl rfl (pi_list (pv 2)) (blkOk_by (own := [("word", 10)]) (N := ["lock", "rows", "words", "bolt", "moves", "here", "there", "price", "ways", "way", "word"]) (sc := defScope sMoves) (by decide +kernel))
            (fun _ _ _ _ _ => pg_name (i := 10) scMoves.nd rfl (Or.inl rfl)) (fun _ _ _ _ _ => pts_nil) (fun _ _ _ _ _ => pv 10) (fun _ _ _ _ _ => pe_lst pa_nil))
        (pss_cons (ps_for PassesOwn.never rfl (pi_tup (pe_ix ix_tup (pv 3) pe_int (fun _ _ => rfl))) (pg_tup rfl (pgs_cons (pg_name (i := 5) scMoves.nd rfl (.inl rfl)) (pgs_cons (pg_name (i := 6) scMoves.nd rfl (.inl rfl)) (pgs_cons (pg_name (i := 7) scMoves.nd rfl (.inl rfl)) (pgs_cons (pg_name (i := 8) scMoves.nd rfl (.inl rfl)) pgs_nil)))))
          (pss_one (ps_for PassesOwn.never rfl (pi_tup (pv 8)) (pg_name (i := 9) scMoves.nd rfl (.inl rfl))
            (pss_one (ps_expr (pe_bm PySem.F.plainAttrs_list PySem.F.slot_list_append PySem.F.type_list_append mt_append (pe_dget hu (pv 4) (pv 9) (fun _ _ => rfl)) (pa_cons (pe_tup (pa_cons (pv 5) (pa_cons (pv 6) (pa_cons (pv 7) pa_nil)))) pa_nil)))))))
        (pss_one (ps_expr (pe_bm PySem.F.plainAttrs_list PySem.F.slot_list_append PySem.F.type_list_append mt_append (pv 1) (pa_cons (pv 4) pa_nil)))))))
      (pss_one (ps_ret (pv 1)))), ?_⟩
    have bl : bs.length = l.length := Paired.len hp
    have n60 := ok.n1
    refine ⟨Nat.zero_le _, fun r0 nr0 => ?_⟩
    have x1 : Evl.Ex H (upd H r0 (.lst [])) := Evl.Ex.new nr0
    refine ⟨.ref a, rfl, .ref a, l, rfl, ⟨a, bs, rfl, Evl.ex_t x1 hx, Paired.imp (fun _ _ => BoltAt.mono (TX.ex x1)) hp⟩, ok, fun H0 pw rs x2 npw hpw rl hrs => ?_⟩
    have x3 := x1.trans x2
    have hR0 : H0 r0 = some (.lst []) := x2 _ _ upd_same
    have nrpw : pw ≠ r0 := fun z => by rw [z, upd_same] at npw; cases npw
    refine ⟨.ref a, rfl, true, false, pw, a, rs.map V.ref, bs, rfl, .inl (.inl hpw), Evl.ex_t x3 hx, ?_⟩
    refine for_it (walk_zx (l := true) (m := false) (xs := rs.map V.ref) (ys := bs) (by rw [List.length_map, rl, bl])) (fun i σ H' => ∃ (ds : List Addr) (y2 y3 y4 y5 y6 y7 y8 y9 y10 : Option V), σ = [some (.ref a), some (.ref r0), y2, y3, y4, y5, y6, y7, y8, y9, y10] ∧
        Evl.Ex H H' ∧ (∀ b o, b ≠ r0 → H0 b = some o → H' b = some o) ∧ H' r0 = some (.lst (ds.map V.ref)) ∧ ds.length = i ∧ ∀ k d b, ds[k]? = some d → l[k]? = some b → ∃ ws, WordsAt l k ws ∧ MvAt H' r0 d b.gaps ws)
      ⟨[], none, none, none, none, none, none, none, none, none, rfl, x3, fun b o _ h => h, hR0, rfl, fun k d b h => by simp at h⟩ ?_ ?_ ?_
    · rintro i σ H' _ ⟨_, _, _, _, _, _, _, _, _, _, _, e, k0, _⟩
      exact ⟨.inl (.inl (k0 _ _ nrpw hpw)), Evl.ex_t e hx⟩
    · rintro i v σ H1 H2 hi ⟨ds, y2, y3, y4, y5, y6, y7, y8, y9, y10, rfl, e1, k0, hR, dl, hds⟩ ⟨T, x, y, rfl, nT, rfl, ex, ey⟩
      rw [List.length_map, rl] at hi
      obtain ⟨b, hb⟩ : ∃ b, l[i]? = some b := ⟨l[i], List.getElem?_eq_getElem hi⟩
      obtain ⟨vb, hvb, hba⟩ := Paired.get2 hp hb
      have ey' : bs[i]? = some y := ey
      rw [hvb] at ey'
      cases ey'
      obtain ⟨r, hr1, rfl⟩ : ∃ r, rs[i]? = some r ∧ x = .ref r := by
        have ex' : (rs.map V.ref)[i]? = some x := ex
        rw [List.getElem?_map] at ex'
        cases e : rs[i]? with
        | none => rw [e] at ex'; cases ex'
        | some r => rw [e] at ex'; exact ⟨r, rfl, (Option.some.inj ex').symm⟩
      obtain ⟨nr, ws, ⟨us, hus, hup⟩, hW⟩ := hrs i r hr1
      have nrr : r ≠ r0 := fun z => by rw [z, upd_same] at nr; cases nr
      have e2 := Evl.Ex.new (o := .tup [.ref r, y]) nT
      generalize hH2 : upd H1 T (.tup [.ref r, y]) = H2 at e2
      have hT2 : H2 T = some (.tup [.ref r, y]) := by rw [← hH2]; exact upd_same
      have hus2 : H2 r = some (.lst us) := e2 _ _ (k0 _ _ nrr hus)
      have hR2 : H2 r0 = some (.lst (ds.map V.ref)) := e2 _ _ hR
      have tx2 : ∀ {v w'}, Wd K H0 v w' → Wd K H2 v w' := by
        rintro v w' ⟨ax, rfl, hax⟩
        exact ⟨ax, rfl, e2 _ _ (k0 _ _ (ne_of hax hR0 (fun z => nomatch z)) hax)⟩
      have hup2 : Paired (Wd K H2) us ws := Paired.imp (fun _ _ => tx2) hup
      have ul : us.length = ws.length := Paired.len hup
      have w8 : ws.length ≤ 8 := ok.words i ws hi hW.1 (fun u hu' => (hW.2 u).mp hu')
      obtain ⟨ab, cg, gs, rfl, hb1, hb2, hb3⟩ := hba
      have bok := ok.bolts i b hb
      have e12 := e1.trans e2
      refine ⟨T, _, rfl, .inl (.inl hT2), rfl, _, _, rfl, _, _, rfl, rfl, ?_⟩
      refine ⟨.ref r, rfl, r, rfl, ⟨us, .inl (.inl hus2)⟩, fun D hD => ?_⟩
      refine dct_it (walk_list (K := K) (a := r) (xs := us)) (fun m H' => ∃ ps : List (Word × Addr), ps.map (·.1) = ws.take m ∧ Evl.Ex H2 H' ∧ H' D = some (.dT (kps ps)) ∧ (ps.map (·.2)).Nodup ∧ ∀ q ∈ ps, H2 q.2 = none ∧ q.2 ≠ D ∧ H' q.2 = some (.lst []))
        ⟨[], rfl, Evl.Ex.new hD, upd_same, List.nodup_nil, fun q hq => nomatch hq⟩ ?_ ?_ ?_
      · rintro m H' _ ⟨ps, _, e3, _⟩
        exact .inl (.inl (e3 _ _ hus2))
      · rintro m x H3 H4 hm ⟨ps, hps, e3, hd3, nd3, hq3⟩ ⟨rfl, hx3⟩
        obtain ⟨t, ht, ⟨ax, rfl, hax⟩⟩ := Paired.get1 hup2 hx3
        have tn : t ∉ ps.map (·.1) := by
          rw [hps]
          intro hmem
          obtain ⟨j, hj, ej⟩ := List.getElem_of_mem hmem
          rw [List.length_take] at hj
          rw [List.getElem_take] at ej
          obtain ⟨l1, q1⟩ := List.getElem?_eq_some_iff.mp ht
          have := (List.getElem_inj hW.1).mp (ej.trans q1.symm)
          omega
        refine ⟨rfl, .ref ax, rfl, Nat.zero_le _, fun p np => ?_⟩
        have e4 := Evl.Ex.new (o := .lst []) np
        have np2 : H2 p = none := Evl.fresh_back e3 np
        have npD : p ≠ D := fun z => by rw [z, hd3] at np; cases np
        have nDp : D ≠ p := fun z => npD z.symm
        refine ⟨kps ps, keyW t, ax, rfl, ?_, e4 _ _ hd3, ?_, ps ++ [(t, p)], ?_, (e3.trans e4).mut hD, ?_, ?_, ?_⟩
        · rw [keyW_kV]
          exact (e3.trans e4) _ _ hax
        · have z : ps.length ≤ 8 := by
            have := congrArg List.length hps
            rw [List.length_map, List.length_take] at this
            omega
          unfold kps
          rw [List.length_map]
          exact Nat.lt_of_le_of_lt z (by decide)
        · rw [List.map_append, hps, take_succ_get ht]
          rfl
        · rw [upd_same, put_kps tn]
        · rw [List.map_append, List.nodup_append]
          refine ⟨nd3, by simp, ?_⟩
          intro x hx' y hy'
          simp at hy'
          subst hy'
          obtain ⟨q, hq, rfl⟩ := List.mem_map.mp hx'
          intro z
          have := (hq3 q hq).2.2
          rw [z] at this
          rw [this] at np
          cases np
        · intro q hq
          rcases List.mem_append.mp hq with hq | hq
          · obtain ⟨a1, a2, a3⟩ := hq3 q hq
            refine ⟨a1, a2, ?_⟩
            rw [upd_ne a2]
            exact e4 _ _ a3
          · have : q = (t, p) := by simpa using hq
            subst this
            exact ⟨np2, npD, by rw [upd_ne npD, upd_same]⟩
      · rintro H3 ⟨ps, hps, e3, hd3, nd3, hq3⟩
        rw [ul, List.take_length] at hps
        have ndp : (ps.map (·.1)).Nodup := by rw [hps]; exact hW.1
        have one : ∀ q ∈ ps, ∀ q' ∈ ps, q'.2 = q.2 → q' = q := by
          intro q hq q' hq' e
          obtain ⟨j, hj, rfl⟩ := List.getElem_of_mem hq
          obtain ⟨j', hj', rfl⟩ := List.getElem_of_mem hq'
          have z : (ps.map (·.2))[j']'(by rw [List.length_map]; exact hj') = (ps.map (·.2))[j]'(by rw [List.length_map]; exact hj) := by
            rw [List.getElem_map, List.getElem_map]
            exact e
          have := (List.getElem_inj nd3).mp z
          subst this
          rfl
        have one1 : ∀ q ∈ ps, ∀ q' ∈ ps, q'.1 = q.1 → q' = q := by
          intro q hq q' hq' e
          obtain ⟨j, hj, rfl⟩ := List.getElem_of_mem hq
          obtain ⟨j', hj', rfl⟩ := List.getElem_of_mem hq'
          have z : (ps.map (·.1))[j']'(by rw [List.length_map]; exact hj') = (ps.map (·.1))[j]'(by rw [List.length_map]; exact hj) := by
            rw [List.getElem_map, List.getElem_map]
            exact e
          have := (List.getElem_inj ndp).mp z
          subst this
          rfl
        have gl : gs.length = b.gaps.length := Paired.len hb3
        refine ⟨.ref ab, rfl, ab, _, 1, .ref cg, rfl, rfl, Evl.ex_t (e12.trans e3) hb1, atI_nat (j := 1) rfl, cg, rfl, ⟨gs, Evl.ex_t (e12.trans e3) hb2⟩, ?_⟩
        refine for_tup (K := K) (a := cg) (xs := gs) (fun j σ H' => ∃ (y5 y6 y7 y8 y9 y10 : Option V), σ = [some (.ref a), some (.ref r0), some (.ref r), some (.ref ab), some (.ref D), y5, y6, y7, y8, y9, y10] ∧ Evl.Ex H2 H' ∧ H' D = some (.dT (kps ps)) ∧
            ∀ q ∈ ps, ∃ us, H' q.2 = some (.lst us) ∧ Paired (TrAt H') us (movesL (b.gaps.take j) q.1)) ⟨_, _, _, _, _, _, rfl, e3, hd3, fun q hq => ⟨[], (hq3 q hq).2.2, .nil⟩⟩ ?_ ?_ ?_
        · rintro j σ H' _ ⟨_, _, _, _, _, _, _, e4, _⟩
          exact Evl.ex_t (e12.trans e4) hb2
        · rintro j x σ H4 hj ⟨z5, z6, z7, z8, z9, z10, rfl, e4, hd4, hq4⟩
          obtain ⟨g, hgj, ⟨ag, bg, wv, rfl, hg1, hg2, hg3⟩⟩ := Paired.get1 hb3 hj
          have hgm : g ∈ b.gaps := List.mem_of_getElem? hgj
          have gok := bok.gaps g hgm
          have wl : wv.length = g.ways.length := Paired.len hg3
          have nodupW : g.ways.Nodup := by
            refine List.Pairwise.imp ?_ gok.rise
            intro u w' h e
            subst e
            have irr : ∀ u : List Int, HT.lexLt u u = false := by
              intro u
              induction u with
              | nil => rfl
              | cons x u ih => rw [HT.lexLt_cons, if_pos rfl]; exact ih
            rw [irr] at h
            cases h
          have few1 : ∀ (gs : List Gap) (w' : Word), (movesL gs w').length ≤ (gs.map (fun g => g.ways.length)).sum := by
            intro gs w'
            unfold movesL
            rw [List.length_map]
            induction gs with
            | nil => simp
            | cons g gs ih =>
              rw [List.filter_cons, List.map_cons, List.sum_cons]
              split
              · rename_i hm
                have : 1 ≤ g.ways.length := List.length_pos_of_mem (of_decide_eq_true hm)
                rw [List.length_cons]
                omega
              · omega
          have few2 : ∀ w', (movesL (b.gaps.take j) w').length ≤ 8 := by
            intro w'
            have h1 := few1 (b.gaps.take j) w'
            have h2 := bok.few
            have h3 : (b.gaps.map (fun g => g.ways.length)).sum = ((b.gaps.take j).map (fun g => g.ways.length)).sum + ((b.gaps.drop j).map (fun g => g.ways.length)).sum := by
              rw [← List.sum_append, ← List.map_append, List.take_append_drop]
            omega
          have e14 := e12.trans e4
          refine ⟨ag, _, rfl, Evl.ex_t e14 hg1, rfl, _, _, rfl, _, _, rfl, _, _, rfl, _, _, rfl, rfl, ?_⟩
          refine ⟨.ref bg, rfl, bg, rfl, ⟨wv, Evl.ex_t e14 hg2⟩, ?_⟩
          refine for_tup (K := K) (a := bg) (xs := wv) (fun m σ H' => ∃ (y9 y10 : Option V), σ = [some (.ref a), some (.ref r0), some (.ref r), some (.ref ab), some (.ref D), some (.int g.frm), some (.int g.to_), some (.int g.price), some (.ref bg), y9, y10] ∧ Evl.Ex H2 H' ∧ H' D = some (.dT (kps ps)) ∧
              ∀ q ∈ ps, ∃ us, H' q.2 = some (.lst us) ∧ Paired (TrAt H') us (movesL (b.gaps.take j) q.1 ++ if q.1 ∈ g.ways.take m then [trOf g] else [])) ⟨_, _, rfl, e4, hd4, fun q hq => ?_⟩ ?_ ?_ ?_
          · obtain ⟨us, h1, h2⟩ := hq4 q hq
            exact ⟨us, h1, by simpa using h2⟩
          · rintro m σ H' _ ⟨_, _, _, e5, _⟩
            exact Evl.ex_t (e12.trans e5) hg2
          · rintro m x σ H5 hm ⟨z9, z10, rfl, e5, hd5, hq5⟩
            obtain ⟨t, ht, ⟨ax, rfl, hax⟩⟩ := Paired.get1 hg3 hm
            have htw : t ∈ ws := (hW.2 t).mpr ((cuts_step ok hb t).mpr (.inr ⟨g, hgm, List.mem_of_getElem? ht⟩))
            rw [← hps] at htw
            obtain ⟨q, hq, rfl⟩ := List.mem_map.mp htw
            obtain ⟨uq, h1, h2⟩ := hq5 q hq
            have e15 := e12.trans e5
            have tnot : q.1 ∉ g.ways.take m := by
              intro hmem
              obtain ⟨k, hk, ek⟩ := List.getElem_of_mem hmem
              rw [List.length_take] at hk
              rw [List.getElem_take] at ek
              obtain ⟨l1, q1⟩ := List.getElem?_eq_some_iff.mp ht
              have := (List.getElem_inj nodupW).mp (ek.trans q1.symm)
              omega
            rw [if_neg tnot, List.append_nil] at h2
            have ulen : uq.length = (movesL (b.gaps.take j) q.1).length := Paired.len h2
            refine ⟨.ref D, rfl, .ref ax, rfl, D, .ref q.2, rfl, ?_, .inl ⟨rfl, _, SqL.of h1⟩, .int g.frm, rfl, .int g.to_, rfl, .int g.price, rfl, (by show 3 ≤ sizeLine; decide), fun p np => ?_⟩
            · rw [← valV_kps ndp hq]
              exact DGet.t hd5 (by rw [keyW_kV]; exact e15 _ _ hax)
            · have e6 := Evl.Ex.new (o := .tup [.int g.frm, .int g.to_, .int g.price]) np
              have nqp : q.2 ≠ p := fun z => by rw [← z, h1] at np; cases np
              have nDq : D ≠ q.2 := fun z => (hq3 q hq).2.1 z.symm
              refine ⟨q.2, uq, _, rfl, rfl, e6 _ _ h1, ?_, _, _, rfl, (e5.trans e6).mut (hq3 q hq).1, ?_, ?_⟩
              · have := few2 q.1
                exact Nat.lt_of_le_of_lt (by omega : uq.length ≤ 8) (by decide)
              · rw [upd_ne nDq]
                exact e6 _ _ hd5
              · intro q' hq'
                have tr : ∀ {v : V} {t3 : Tr3}, TrAt H5 v t3 → TrAt (upd (upd H5 p (.tup [.int g.frm, .int g.to_, .int g.price])) q.2 (.lst (uq ++ [.ref p]))) v t3 := by
                  rintro v t3 ⟨c, rfl, hc⟩
                  exact ⟨c, rfl, by rw [upd_ne (ne_of hc h1 (fun z => nomatch z))]; exact e6 _ _ hc⟩
                by_cases eq : q'.2 = q.2
                · have := one q hq q' hq' eq
                  subst this
                  refine ⟨uq ++ [.ref p], upd_same, ?_⟩
                  rw [take_succ_get ht, if_pos (by simp)]
                  refine paired_app1 (Paired.imp (fun _ _ => tr) h2) ⟨p, rfl, ?_⟩
                  rw [upd_ne nqp.symm, upd_same]
                  rfl
                · obtain ⟨u', h3, h4⟩ := hq5 q' hq'
                  refine ⟨u', by rw [upd_ne eq]; exact e6 _ _ h3, ?_⟩
                  have ne1 : q'.1 ≠ q.1 := fun z => eq (by rw [one1 q hq q' hq' z])
                  have mm : (q'.1 ∈ g.ways.take (m + 1)) ↔ (q'.1 ∈ g.ways.take m) := by
                    rw [take_succ_get ht]
                    simp [ne1]
                  have h5 := Paired.imp (fun _ _ => tr) h4
                  by_cases hh : q'.1 ∈ g.ways.take m
                  · rw [if_pos hh] at h5
                    rw [if_pos (mm.mpr hh)]
                    exact h5
                  · rw [if_neg hh] at h5
                    rw [if_neg (fun z => hh (mm.mp z))]
                    exact h5
          · rintro σ H5 ⟨z9, z10, rfl, e5, hd5, hq5⟩
            refine ⟨_, _, _, _, _, _, rfl, e5, hd5, fun q hq => ?_⟩
            obtain ⟨uq, h1, h2⟩ := hq5 q hq
            refine ⟨uq, h1, ?_⟩
            rw [wl, List.take_length] at h2
            have z : movesL (b.gaps.take (j + 1)) q.1 = movesL (b.gaps.take j) q.1 ++ if q.1 ∈ g.ways then [trOf g] else [] := by
              unfold movesL
              rw [take_succ_get hgj, List.filter_append, List.map_append]
              congr 1
              by_cases hh : q.1 ∈ g.ways
              · rw [if_pos hh, List.filter_cons, if_pos (decide_eq_true hh)]
                rfl
              · rw [if_neg hh, List.filter_cons, if_neg (by rw [decide_eq_false hh]; exact Bool.false_ne_true)]
                rfl
            rw [z]
            exact h2
        · rintro σ H4 ⟨z5, z6, z7, z8, z9, z10, rfl, e4, hd4, hq4⟩
          rw [gl, List.take_length] at hq4
          have hR4 : H4 r0 = some (.lst (ds.map V.ref)) := e4 _ _ hR2
          have mv : MvAt H4 r0 D b.gaps ws := ⟨ps, hps, hd4, fun q hq => ⟨(fun z => by have h0 := (hq3 q hq).1; rw [z, hR2] at h0; cases h0), hq4 q hq⟩⟩
          refine ⟨.ref r0, rfl, .inl ⟨rfl, _, SqL.of hR4⟩, .ref D, rfl, r0, _, _, rfl, rfl, hR4, ?_, ?_⟩
          · rw [List.length_map, dl]
            exact Nat.lt_of_lt_of_le (show i < 61 by omega) (by decide)
          · refine ⟨ds ++ [D], _, _, _, _, _, _, _, _, _, rfl, (e12.trans e4).mut nr0, ?_, by rw [upd_same, List.map_append]; rfl, by simp [dl], ?_⟩
            · intro b' o nb h0
              rw [upd_ne nb]
              exact e4 _ _ (e2 _ _ (k0 b' o nb h0))
            · intro k d b' hk hb'
              by_cases hkl : k < ds.length
              · rw [List.getElem?_append_left hkl] at hk
                obtain ⟨ws', h1, h2⟩ := hds k d b' hk hb'
                exact ⟨ws', h1, (h2.ex (e2.trans e4)).put hR4⟩
              · rw [List.getElem?_append_right (by omega)] at hk
                have : k = ds.length := by
                  by_cases e : k - ds.length = 0
                  · omega
                  · rw [List.getElem?_eq_none (by simp; omega)] at hk; cases hk
                subst this
                rw [Nat.sub_self] at hk
                have er : d = D := (Option.some.inj hk).symm
                subst er
                rw [dl, hb] at hb'
                cases hb'
                rw [dl]
                exact ⟨ws, hW, mv.put hR4⟩
    · rintro σ H1 ⟨ds, y2, y3, y4, y5, y6, y7, y8, y9, y10, rfl, e1, k0, hR, dl, hds⟩
      refine ⟨.ref r0, rfl, q H1 r0 ds e1 nr0 hR ?_ hds⟩
      rw [dl, List.length_map, rl]
end
end Wb

set_option Elab.async false
set_option linter.all false
set_option maxRecDepth 100000
set_option maxHeartbeats 4000000
set_option pp.maxSteps 600
set_option pp.deepTerms false
namespace Wb
open PySem PySem.Spec PyProof.Rows L2
abbrev sFault : Stmt := topS 21
abbrev sManys : Stmt := topS 25
abbrev sNeedL : Stmt := topS 26
abbrev sNeedS : Stmt := topS 27
abbrev sCan : Stmt := topS 28
abbrev sStepsAt : Stmt := topS 29
theorem scFault : FnScope ["thing", "manys", "k", "bolt", "words"] ["thing"] (defScope sFault) := ⟨rfl, rfl, rfl, by decide +kernel, rfl, by decide +kernel, by decide +kernel⟩
theorem scManys : FnScope ["lock", "bolt"] ["lock"] (defScope sManys) := ⟨rfl, rfl, rfl, by decide +kernel, rfl, by decide +kernel, by decide +kernel⟩
theorem scNeedL : FnScope ["lock", "fault"] ["lock"] (defScope sNeedL) := ⟨rfl, rfl, rfl, by decide +kernel, rfl, by decide +kernel, by decide +kernel⟩
theorem scNeedS : FnScope ["lock", "thing"] ["lock", "thing"] (defScope sNeedS) := ⟨rfl, rfl, rfl, by decide +kernel, rfl, by decide +kernel, by decide +kernel⟩
theorem scCan : FnScope ["lock", "stand"] ["lock", "stand"] (defScope sCan) := ⟨rfl, rfl, rfl, by decide +kernel, rfl, by decide +kernel, by decide +kernel⟩
theorem scStepsAt : FnScope ["moves", "stand", "found", "k", "place", "word", "here", "there", "price"] ["moves", "stand"] (defScope sStepsAt) := ⟨rfl, rfl, rfl, by decide +kernel, rfl, by decide +kernel, by decide +kernel⟩

/-- all defs of the checks, as they stand -/
structure Pr (K : PySem.W.Frag) (mg : Str → Option Value) where
  f1 : Addr
  d1 : FuncData
  F1 : Fun K "is_whole" "is_whole" sWhole f1 d1
  b1 : Binds K d1 ["thing"] []
  g1 : mg "is_whole" = some (.ref f1)
  f2 : Addr
  d2 : FuncData
  F2 : Fun K "is_whole_in" "is_whole_in" sWholeIn f2 d2
  b2 : Binds K d2 ["thing", "low", "high"] []
  g2 : mg "is_whole_in" = some (.ref f2)
  f3 : Addr
  d3 : FuncData
  F3 : Fun K "is_tuple_of" "is_tuple_of" sTupOf f3 d3
  b3 : Binds K d3 ["thing", "low", "high"] []
  g3 : mg "is_tuple_of" = some (.ref f3)
  f4 : Addr
  d4 : FuncData
  F4 : Fun K "are_places" "are_places" sPlaces f4 d4
  b4 : Binds K d4 ["thing", "manys"] []
  g4 : mg "are_places" = some (.ref f4)
  f10 : Addr
  d10 : FuncData
  F10 : Fun K "words_of" "words_of" sWords f10 d10
  b10 : Binds K d10 ["lock"] []
  g10 : mg "words_of" = some (.ref f10)
  f11 : Addr
  d11 : FuncData
  F11 : Fun K "moves_by_word" "moves_by_word" sMoves f11 d11
  b11 : Binds K d11 ["lock"] []
  g11 : mg "moves_by_word" = some (.ref f11)
  f19 : Addr
  d19 : FuncData
  F19 : Fun K "fault_of" "fault_of" sFault f19 d19
  b19 : Binds K d19 ["thing"] []
  g19 : mg "fault_of" = some (.ref f19)
  f20 : Addr
  d20 : FuncData
  F20 : Fun K "is_bolt" "is_bolt" sBolt f20 d20
  b20 : Binds K d20 ["thing", "below"] []
  g20 : mg "is_bolt" = some (.ref f20)
  f21 : Addr
  d21 : FuncData
  F21 : Fun K "is_gap" "is_gap" sGap f21 d21
  b21 : Binds K d21 ["thing", "many", "below"] []
  g21 : mg "is_gap" = some (.ref f21)
  f22 : Addr
  d22 : FuncData
  F22 : Fun K "are_ways" "are_ways" sWays f22 d22
  b22 : Binds K d22 ["thing", "below"] []
  g22 : mg "are_ways" = some (.ref f22)
  f23 : Addr
  d23 : FuncData
  F23 : Fun K "manys_of" "manys_of" sManys f23 d23
  b23 : Binds K d23 ["lock"] []
  g23 : mg "manys_of" = some (.ref f23)
  f24 : Addr
  d24 : FuncData
  F24 : Fun K "need_lock" "need_lock" sNeedL f24 d24
  b24 : Binds K d24 ["lock"] []
  g24 : mg "need_lock" = some (.ref f24)
  f25 : Addr
  d25 : FuncData
  F25 : Fun K "need_stand" "need_stand" sNeedS f25 d25
  b25 : Binds K d25 ["lock", "thing"] []
  g25 : mg "need_stand" = some (.ref f25)
  f26 : Addr
  d26 : FuncData
  F26 : Fun K "can_step" "can_step" sCan f26 d26
  b26 : Binds K d26 ["lock", "stand"] []
  g26 : mg "can_step" = some (.ref f26)
  f27 : Addr
  d27 : FuncData
  F27 : Fun K "steps_at" "steps_at" sStepsAt f27 d27
  b27 : Binds K d27 ["moves", "stand"] []
  g27 : mg "steps_at" = some (.ref f27)
  B : Bi mg
  N : Nu mg

def spFault (K : PySem.W.Frag) : Sp := fun vs H Q _ => ∃ (v : V) (l : Lock), vs = [v] ∧ LockAt K H v l ∧ LockOk l ∧ ∀ H', Evl.Ex H H' → Q .non H'
def spManys (K : PySem.W.Frag) : Sp := fun vs H Q _ => ∃ (v : V) (l : Lock), vs = [v] ∧ LockAt K H v l ∧ l.length ≤ 60 ∧ ∀ H' p, Evl.Ex H H' → H p = none → H' p = some (.lst ((manysOf l).map V.int)) → Q (.ref p) H'
def spNeedS (K : PySem.W.Frag) : Sp := fun vs H Q _ => ∃ (v u : V) (l : Lock) (st : Word), vs = [v, u] ∧ LockAt K H v l ∧ LockOk l ∧ Wd K H u st ∧ InAll st (manysOf l) ∧ ∀ H', Evl.Ex H H' → Q .non H'
section
variable {P : Program} {w : World} {K : PySem.W.Frag} {mg : Str → Option Value} {base : Heap}
theorem manysOf_take (l : Lock) (i : Nat) : manysOf (l.take i) = (manysOf l).take i := by
  unfold manysOf
  rw [List.map_take]
theorem ok_fault (D : Pr K mg) : FnOk P w K mg base CX0 6 D.f19 D.d19 ["thing"] (spFault K) := by
  have G3 : FnOk P w K mg base CX0 1 D.f3 D.d3 ["thing", "low", "high"] (spTupOf K) := ok_tupOf D.F3 D.B
  have G20 : FnOk P w K mg base CX0 5 D.f20 D.d20 ["thing", "below"] (spBolt K) := ok_bolt D.F20 D.F3 D.b3 D.g3 D.F4 D.b4 D.g4 D.F2 D.b2 D.g2 D.F22 D.b22 D.g22 D.F1 D.b1 D.g1 D.F21 D.b21 D.g21 D.B D.N
  have G10 : FnOk P w K mg base CX0 1 D.f10 D.d10 ["lock"] (spWords K) := ok_words D.F10 D.B
  obtain ⟨tb, eb⟩ := D.N.bolts
  obtain ⟨tw, ew⟩ := D.N.words
  refine D.F19.ok scFault (fun vs H Q E h => ?_) (fun cdv A outer s H vs Q E hr h => ?_)
  · obtain ⟨v, l, rfl, _⟩ := h; rfl
  · obtain ⟨v, l, rfl, ⟨a, bs, rfl, hx, hp⟩, ok, q⟩ := h
    have hr1 : Room 1 _ := hr.mono (by decide)
    refine ⟨_, pss_cons (ps_if (pt_not (pt_val (pe_call G3 hr1 (by rfl) D.g3 D.F3.kp D.b3 .nil pass0 (pa_cons (pv 0) (pa_cons pe_int (pa_cons (pe_glob (v := .int 60) (by rfl) eb ⟨_, rfl⟩) pa_nil)))))) pss_never pss_nil)
      (pss_cons (ps_set (i := 1) scFault.nd rfl (.inl rfl) (pe_lst pa_nil))
      (pss_cons (ps_for PassesOwn.never rfl (pi_enumT (by rfl) D.B.enum (pa_cons (pv 0) pa_nil)) (pg_tup rfl (pgs_cons (pg_name (i := 2) scFault.nd rfl (.inl rfl)) (pgs_cons (pg_name (i := 3) scFault.nd rfl (.inl rfl)) pgs_nil)))
        (pss_cons (ps_if (pt_not (pt_val (pe_call G20 hr (by rfl) D.g20 D.F20.kp D.b20 .nil pass0 (pa_cons (pv 3) (pa_cons (pv 1) pa_nil))))) pss_never pss_nil)
        (pss_one (ps_expr (pe_bm PySem.F.plainAttrs_list PySem.F.slot_list_append PySem.F.type_list_append mt_append (pv 1) (pa_cons (pe_ix ix_tup (pv 3) pe_int (fun _ _ => rfl)) pa_nil))))))
      (pss_cons (ps_for PassesOwn.never rfl (pi_enum (by rfl) D.B.enum (pa_cons (pe_call G10 hr1 (by rfl) D.g10 D.F10.kp D.b10 .nil pass0 (pa_cons (pv 0) pa_nil)) pa_nil)) (pg_tup rfl (pgs_cons (pg_name (i := 2) scFault.nd rfl (.inl rfl)) (pgs_cons (pg_name (i := 4) scFault.nd rfl (.inl rfl)) pgs_nil)))
        (pss_one (ps_if (pt_cmpR op_gt (pe_callB call_len_seq (by rfl) D.B.len PySem.boot_len (pa_cons (pv 4) pa_nil)) (pe_glob (v := .int 8) (by rfl) ew ⟨_, rfl⟩) (nomark _)) pss_never pss_nil)))
      (pss_one (ps_ret pe_non))))), ?_⟩
    have bl : bs.length = l.length := Paired.len hp
    have n0 := ok.n0
    have n60 := ok.n1
    refine ⟨.ref a, rfl, a, bs, 1, 60, rfl, hx, true, ?_, ?_⟩
    · have z1 : decide ((1 : Int) ≤ (bs.length : Int)) = true := decide_eq_true (by omega)
      have z2 : decide ((bs.length : Int) ≤ 60) = true := decide_eq_true (by omega)
      rw [z1, z2]
      rfl
    refine iteF ?_
    refine ⟨Nat.zero_le _, fun r0 nr0 => ?_⟩
    have x1 : Evl.Ex H (upd H r0 (.lst [])) := Evl.Ex.new nr0
    refine ⟨.ref a, rfl, a, bs, rfl, Evl.ex_t x1 hx, ?_⟩
    refine for_it (walk_et (xs := bs)) (fun i σ H' => ∃ (y2 y3 y4 : Option V), σ = [some (.ref a), some (.ref r0), y2, y3, y4] ∧ Evl.Ex H H' ∧ H' r0 = some (.lst (((manysOf l).take i).map V.int))) ⟨none, none, none, rfl, x1, upd_same⟩ ?_ ?_ ?_
    · rintro i σ H' _ ⟨_, _, _, _, e, _⟩
      exact Evl.ex_t e hx
    · rintro i v σ H1 H2 hi ⟨y2, y3, y4, rfl, e1, hR⟩ ⟨T, x, y, rfl, nT, rfl, ex, ey⟩
      cases ex
      have ey' : bs[i]? = some y := ey
      obtain ⟨b, hb, hba⟩ := Paired.get1 hp ey'
      have e2 := Evl.Ex.new (o := .tup [.int (i : Nat), y]) nT
      generalize hH2 : upd H1 T (.tup [.int (i : Nat), y]) = H2 at e2
      have hT2 : H2 T = some (.tup [.int (i : Nat), y]) := by rw [← hH2]; exact upd_same
      have e12 := e1.trans e2
      have hR2 := e2 _ _ hR
      have bok := ok.bolts i b hb
      refine ⟨T, _, rfl, .inl (.inl hT2), rfl, _, _, rfl, _, _, rfl, rfl, ?_⟩
      refine ⟨y, rfl, .ref r0, rfl, y, r0, b, manysOf (l.take i), rfl, hba.mono (TX.ex e12), ?_, bok, fun H3 e3 => ?_⟩
      · rw [manysOf_take]
        exact .inl (.inl hR2)
      refine ⟨true, rfl, iteF ?_⟩
      obtain ⟨ab, cg, gs, rfl, hb1, hb2, hb3⟩ := hba
      have hR3 := e3 _ _ hR2
      refine ⟨.ref r0, rfl, .inl ⟨rfl, _, SqL.of hR3⟩, .ref ab, rfl, ab, _, 0, .int b.many, rfl, rfl, Evl.ex_t (e12.trans e3) hb1, atI_nat (j := 0) rfl, r0, _, _, rfl, rfl, hR3, ?_, ?_⟩
      · rw [List.length_map, List.length_take]
        have : i < 61 := by rw [bl] at hi; omega
        exact Nat.lt_of_le_of_lt (Nat.min_le_left _ _) (Nat.lt_of_lt_of_le this (by decide))
      · have mm : (manysOf l)[i]? = some b.many := by
          unfold manysOf
          rw [List.getElem?_map, hb]
          rfl
        refine ⟨_, _, _, rfl, (e12.trans e3).mut nr0, ?_⟩
        rw [upd_same, take_succ_get mm, List.map_append]
        rfl
    · rintro σ H1 ⟨y2, y3, y4, rfl, e1, hR⟩
      refine ⟨.ref a, rfl, .ref a, l, rfl, ⟨a, bs, rfl, Evl.ex_t e1 hx, Paired.imp (fun _ _ => BoltAt.mono (TX.ex e1)) hp⟩, ok, fun H2 pw rs e2 npw hpw rl hrs => ?_⟩
      refine ⟨pw, rs.map V.ref, rfl, .inl (.inl hpw), ?_⟩
      refine for_it (walk_enum (xs := rs.map V.ref)) (fun i σ H' => ∃ (y2 y3 y4 : Option V), σ = [some (.ref a), some (.ref r0), y2, y3, y4] ∧ Evl.Ex H2 H') ⟨_, _, _, rfl, Evl.Ex.refl _⟩ ?_ ?_ ?_
      · rintro i σ H' _ ⟨_, _, _, _, e⟩
        exact .inl (.inl (e _ _ hpw))
      · rintro i v σ H3 H4 hi ⟨z2, z3, z4, rfl, e3⟩ ⟨T, x, y, rfl, nT, rfl, ex, ey⟩
        cases ex
        rw [List.length_map, rl] at hi
        obtain ⟨r, hr1', rfl⟩ : ∃ r, rs[i]? = some r ∧ y = .ref r := by
          have ey' : (rs.map V.ref)[i]? = some y := ey
          rw [List.getElem?_map] at ey'
          cases e : rs[i]? with
          | none => rw [e] at ey'; cases ey'
          | some r => rw [e] at ey'; exact ⟨r, rfl, (Option.some.inj ey').symm⟩
        obtain ⟨_, ws, ⟨us, hus, hup⟩, hW⟩ := hrs i r hr1'
        have w8 : ws.length ≤ 8 := ok.words i ws hi hW.1 (fun u hu' => (hW.2 u).mp hu')
        have ul : us.length = ws.length := Paired.len hup
        have e4 := Evl.Ex.new (o := .tup [.int (i : Nat), .ref r]) nT
        refine ⟨T, _, rfl, .inl (.inl upd_same), rfl, _, _, rfl, _, _, rfl, rfl, ?_⟩
        refine ⟨.ref r, rfl, r, us, rfl, .inl (.inl (.inl ((e3.trans e4) _ _ hus))), _, 8, rfl, rfl, false, ?_, ?_⟩
        · have z : decide ((8 : Int) < (us.length : Int)) = false := decide_eq_false (by omega)
          show V.bl (decide ((8 : Int) < (us.length : Int))) = V.bl false
          rw [z]
        · exact iteF ⟨_, _, _, rfl, e3.trans e4⟩
      · rintro σ H3 ⟨z2, z3, z4, rfl, e3⟩
        exact q H3 ((e1.trans e2).trans e3)
theorem ok_needL (D : Pr K mg) : FnOk P w K mg base CX0 7 D.f24 D.d24 ["lock"] (spFault K) := by
  have G19 : FnOk P w K mg base CX0 6 D.f19 D.d19 ["thing"] (spFault K) := ok_fault D
  refine D.F24.ok scNeedL (fun vs H Q E h => ?_) (fun cdv A outer s H vs Q E hr h => ?_)
  · obtain ⟨v, l, rfl, _⟩ := h; rfl
  · obtain ⟨v, l, rfl, hv, ok, q⟩ := h
    refine ⟨_, pss_cons (ps_set (i := 1) scNeedL.nd rfl (.inl rfl) (pe_call G19 hr (by rfl) D.g19 D.F19.kp D.b19 .nil pass0 (pa_cons (pv 0) pa_nil)))
      (pss_one (ps_if (pt_cmpR op_notN (pv 1) pe_non (nomark _)) pss_never pss_nil)), ?_⟩
    refine ⟨v, rfl, v, l, rfl, hv, ok, fun H' e => ?_⟩
    refine ⟨.non, rfl, rfl, false, rfl, iteF ?_⟩
    exact q H' e
theorem ok_manys (D : Pr K mg) : FnOk P w K mg base CX0 1 D.f23 D.d23 ["lock"] (spManys K) := by
  refine D.F23.ok scManys (fun vs H Q E h => ?_) (fun cdv A outer s H vs Q E hr h => ?_)
  · obtain ⟨v, l, rfl, _⟩ := h; rfl
  · obtain ⟨v, l, rfl, ⟨a, bs, rfl, hx, hp⟩, n60, q⟩ := h
    refine ⟨_, pss_one (ps_ret (pe_lc (own := [("bolt", 1)]) (g := gName 1) rfl scManys.nd (pi_tup (pv 0)) (blkOk_by (own := [("bolt", 1)]) (N := ["lock", "bolt"]) (sc := defScope sManys) (by decide +kernel))
      (fun _ _ _ _ _ => pg_name (i := 1) scManys.nd rfl (Or.inl rfl)) (fun _ _ _ _ _ => pts_nil) (fun _ _ _ _ _ => pe_ix (r := rIxT K) ix_tup (pv 1) pe_int (fun _ _ => rfl)))), ?_⟩
    have bl : bs.length = l.length := Paired.len hp
    refine ⟨.ref a, rfl, a, rfl, ⟨_, hx⟩, fun D hD => lc_tup (K := K) (a := a) (xs := bs) (fun i H' => Evl.Ex H H' ∧ H' D = some (.lst (((manysOf l).take i).map V.int))) ⟨Evl.Ex.new hD, upd_same⟩ ?_ ?_ ?_⟩
    · rintro i H' _ ⟨e, _⟩
      exact Evl.ex_t e hx
    · rintro i x H' hi ⟨e, hd⟩
      obtain ⟨b, hb, ⟨ab, cg, gs, rfl, hb1, _⟩⟩ := Paired.get1 hp hi
      have li : i < 61 := by
        have := (List.getElem?_eq_some_iff.mp hi).1
        omega
      have mm : (manysOf l)[i]? = some b.many := by
        unfold manysOf
        rw [List.getElem?_map, hb]
        rfl
      refine ⟨rfl, .ref ab, rfl, ab, _, 0, .int b.many, rfl, rfl, Evl.ex_t e hb1, atI_nat (j := 0) rfl, _, hd, ?_, e.mut hD, ?_⟩
      · rw [List.length_map, List.length_take]
        exact Nat.lt_of_le_of_lt (Nat.min_le_left _ _) (Nat.lt_of_lt_of_le li (by decide))
      · rw [upd_same, take_succ_get mm, List.map_append]
        rfl
    · rintro H1 ⟨e, hd⟩
      refine q H1 D e hD ?_
      rw [hd, List.take_of_length_le]
      unfold manysOf
      rw [List.length_map, bl]
      exact Nat.le_refl _
theorem ok_needS (D : Pr K mg) : FnOk P w K mg base CX0 3 D.f25 D.d25 ["lock", "thing"] (spNeedS K) := by
  have G23 : FnOk P w K mg base CX0 1 D.f23 D.d23 ["lock"] (spManys K) := ok_manys D
  have G4 : FnOk P w K mg base CX0 2 D.f4 D.d4 ["thing", "manys"] (spPlaces K) := ok_places D.F4 D.F3 D.b3 D.g3 D.B
  refine D.F25.ok scNeedS (fun vs H Q E h => ?_) (fun cdv A outer s H vs Q E hr h => ?_)
  · obtain ⟨v, u, l, st, rfl, _⟩ := h; rfl
  · obtain ⟨v, u, l, st, rfl, hv, ok, ⟨a, rfl, ha⟩, hin, q⟩ := h
    have hr1 : Room 1 _ := hr.mono (by decide)
    refine ⟨_, pss_one (ps_if (pt_not (pt_val (pe_call G4 hr (by rfl) D.g4 D.F4.kp D.b4 .nil pass0 (pa_cons (pv 1) (pa_cons (pe_call G23 hr1 (by rfl) D.g23 D.F23.kp D.b23 .nil pass0 (pa_cons (pv 0) pa_nil)) pa_nil))))) pss_never pss_nil), ?_⟩
    refine ⟨.ref a, rfl, v, rfl, v, l, rfl, hv, ok.n1, fun H1 p e1 np hp => ?_⟩
    refine ⟨a, p, true, st, manysOf l, rfl, .inl (.inl (e1 _ _ ha)), Or.inl (Or.inl hp), hin, fun H2 e2 => ?_⟩
    refine ⟨true, rfl, iteF ?_⟩
    exact q H2 (e1.trans e2)
end
end Wb

set_option Elab.async false
set_option linter.all false
set_option maxRecDepth 100000
set_option maxHeartbeats 4000000
set_option pp.maxSteps 600
set_option pp.deepTerms false
namespace Wb
open PySem PySem.Spec PyProof.Rows L2
/-- the steps of bolt k -/
def pickAt (k : Nat) (p : Int) (ts : List Tr3) : List Tr3 := (ts.filter fun t => decide (t.frm = p)).map fun t => ⟨(k : Int), t.to_, t.price⟩
def stepsOf (l : Lock) (st : Word) (k : Nat) : List Tr3 :=
  match l[k]?, st[k]? with
  | some b, some p => pickAt k p (movesL b.gaps (st.take k))
  | _, _ => []
def stepsUpto (l : Lock) (st : Word) (n : Nat) : List Tr3 := (List.range n).flatMap (stepsOf l st)
def stepsL (l : Lock) (st : Word) : List Tr3 := stepsUpto l st l.length
theorem stepsUpto_succ (l : Lock) (st : Word) (n : Nat) : stepsUpto l st (n + 1) = stepsUpto l st n ++ stepsOf l st n := by
  unfold stepsUpto
  rw [List.range_succ, List.flatMap_append]
  simp
theorem movesL_len (gs : List Gap) (w' : Word) : (movesL gs w').length ≤ (gs.map (fun g => g.ways.length)).sum := by
  unfold movesL
  rw [List.length_map]
  induction gs with
  | nil => simp
  | cons g gs ih =>
    rw [List.filter_cons, List.map_cons, List.sum_cons]
    split
    · rename_i hm
      have : 1 ≤ g.ways.length := List.length_pos_of_mem (of_decide_eq_true hm)
      rw [List.length_cons]
      omega
    · omega
theorem pickAt_len (k : Nat) (p : Int) (ts : List Tr3) : (pickAt k p ts).length ≤ ts.length := by
  unfold pickAt
  rw [List.length_map]
  exact List.length_filter_le _ _
/-- behind a word that none of the bolts from k on waits for, no bolt steps -/
theorem steps_none {l : Lock} (ok : LockOk l) {st : Word} {k : Nat} (hn : ¬ cutsFrom l k (st.take k)) : ∀ j, k ≤ j → stepsOf l st j = [] := by
  intro j hj
  unfold stepsOf
  cases hb : l[j]? with
  | none => rfl
  | some b =>
    cases hp : st[j]? with
    | none => rfl
    | some p =>
      have z : movesL b.gaps (st.take j) = [] := by
        unfold movesL
        rw [List.map_eq_nil_iff, List.filter_eq_nil_iff]
        intro g hg hm
        apply hn
        refine ⟨j, b, g, st.take j, hj, hb, hg, of_decide_eq_true hm, ?_⟩
        rw [List.take_take, Nat.min_eq_left hj]
      show pickAt j p (movesL b.gaps (st.take j)) = []
      rw [z]
      rfl
theorem steps_stop {l : Lock} (ok : LockOk l) {st : Word} {k : Nat} (hk : k ≤ l.length) (hn : ¬ cutsFrom l k (st.take k)) : stepsUpto l st k = stepsL l st := by
  have z : ∀ n, stepsUpto l st (k + n) = stepsUpto l st k := by
    intro n
    induction n with
    | zero => rfl
    | succ n ih =>
      rw [show k + (n + 1) = (k + n) + 1 by omega, stepsUpto_succ, ih, steps_none ok hn _ (by omega), List.append_nil]
  have := z (l.length - k)
  rw [show k + (l.length - k) = l.length by omega] at this
  exact this.symm

def spStepsAt (K : PySem.W.Frag) : Sp := fun vs H Q _ => ∃ (mv : Addr) (u : V) (ds : List Addr) (l : Lock) (st : Word), vs = [.ref mv, u] ∧ H mv = some (.lst (ds.map V.ref)) ∧ ds.length = l.length ∧ LockOk l ∧ Wd K H u st ∧ st.length = l.length ∧
  (∀ k d b, ds[k]? = some d → l[k]? = some b → ∃ ws, WordsAt l k ws ∧ MvAt H mv d b.gaps ws) ∧
  ∀ H' p us, Evl.Ex H H' → H p = none → H' p = some (.lst us) → Paired (TrAt H') us (stepsL l st) → Q (.ref p) H'
def spCan (K : PySem.W.Frag) : Sp := fun vs H Q _ => ∃ (v u : V) (l : Lock) (st : Word), vs = [v, u] ∧ LockAt K H v l ∧ LockOk l ∧ Wd K H u st ∧ InAll st (manysOf l) ∧
  ∀ H' p us, Evl.Ex H H' → H p = none → H' p = some (.lst us) → Paired (TrAt H') us (stepsL l st) → Q (.ref p) H'
section
variable {P : Program} {w : World} {K : PySem.W.Frag} {mg : Str → Option Value} {base : Heap}
theorem ok_stepsAt (D : Pr K mg) : FnOk P w K mg base CX0 1 D.f27 D.d27 ["moves", "stand"] (spStepsAt K) := by
  refine D.F27.ok scStepsAt (fun vs H Q E h => ?_) (fun cdv A outer s H vs Q E hr h => ?_)
  · obtain ⟨mv, u, ds, l, st, rfl, _⟩ := h; rfl
  · obtain ⟨mv, u, ds, l, st, rfl, hmv, dl, ok, ⟨a, rfl, ha⟩, sl, hds, q⟩ := h
    have hu := hu_of hr
    have hx : SqT K H a (st.map V.int) := .inl (.inl ha)
    refine ⟨_, pss_cons (ps_set (i := 2) scStepsAt.nd rfl (.inl rfl) (pe_lst pa_nil))
      (pss_cons (ps_for PassesOwn.never rfl (pi_enumT (by rfl) D.B.enum (pa_cons (pv 1) pa_nil)) (pg_tup rfl (pgs_cons (pg_name (i := 3) scStepsAt.nd rfl (.inl rfl)) (pgs_cons (pg_name (i := 4) scStepsAt.nd rfl (.inl rfl)) pgs_nil)))
        (pss_cons (ps_set (i := 5) scStepsAt.nd rfl (.inl rfl) (pe_slice sl_tupA (pv 1) po_none (po_some (pv 3))))
        (pss_cons (ps_if (pt_cmp (pc_dnotin hu (pv 5) (pe_ix ix_list (pv 0) (pv 3) (fun _ _ => rfl)))) (pss_one ps_break) pss_nil)
        (pss_one (ps_for PassesOwn.never rfl (pi_list (pe_dget hu (pe_ix ix_list (pv 0) (pv 3) (fun _ _ => rfl)) (pv 5) (fun _ _ => rfl))) (pg_tup rfl (pgs_cons (pg_name (i := 6) scStepsAt.nd rfl (.inl rfl)) (pgs_cons (pg_name (i := 7) scStepsAt.nd rfl (.inl rfl)) (pgs_cons (pg_name (i := 8) scStepsAt.nd rfl (.inl rfl)) pgs_nil))))
          (pss_one (ps_if (pt_cmpR op_eq (pv 6) (pv 4) (nomark _))
            (pss_one (ps_expr (pe_bm PySem.F.plainAttrs_list PySem.F.slot_list_append PySem.F.type_list_append mt_append (pv 2) (pa_cons (pe_tup (pa_cons (pv 3) (pa_cons (pv 7) (pa_cons (pv 8) pa_nil)))) pa_nil)))) pss_nil)))))))
      (pss_one (ps_ret (pv 2)))), ?_⟩
    have n60 := ok.n1
    refine ⟨Nat.zero_le _, fun r0 nr0 => ?_⟩
    have x1 : Evl.Ex H (upd H r0 (.lst [])) := Evl.Ex.new nr0
    refine ⟨.ref a, rfl, a, _, rfl, Evl.ex_t x1 hx, ?_⟩
    refine for_it (walk_et (xs := st.map V.int)) (fun i σ H' => ∃ (us : List V) (y3 y4 y5 y6 y7 y8 : Option V), σ = [some (.ref mv), some (.ref a), some (.ref r0), y3, y4, y5, y6, y7, y8] ∧ Evl.Ex H H' ∧ H' r0 = some (.lst us) ∧ us.length ≤ 8 * i ∧ Paired (TrAt H') us (stepsUpto l st i))
      ⟨[], none, none, none, none, none, none, rfl, x1, upd_same, Nat.zero_le _, .nil⟩ ?_ ?_ ?_
    · rintro i σ H' _ ⟨_, _, _, _, _, _, _, _, e, _⟩
      exact Evl.ex_t e hx
    · rintro i v σ H1 H2 hi ⟨us, y3, y4, y5, y6, y7, y8, rfl, e1, hR, ulen, hus⟩ ⟨T, x, y, rfl, nT, rfl, ex, ey⟩
      cases ex
      rw [List.length_map, sl] at hi
      obtain ⟨pl, hpl, rfl⟩ := get_map_int ey
      obtain ⟨b, hb⟩ : ∃ b, l[i]? = some b := ⟨l[i], List.getElem?_eq_getElem hi⟩
      obtain ⟨d, hd⟩ : ∃ d, ds[i]? = some d := ⟨ds[i], List.getElem?_eq_getElem (by omega)⟩
      obtain ⟨ws, hW, hmvd⟩ := hds i d b hd hb
      have e2 := Evl.Ex.new (o := .tup [.int (i : Nat), .int pl]) nT
      generalize hH2 : upd H1 T (.tup [.int (i : Nat), .int pl]) = H2 at e2
      have hT2 : H2 T = some (.tup [.int (i : Nat), .int pl]) := by rw [← hH2]; exact upd_same
      have e12 := e1.trans e2
      refine ⟨T, _, rfl, .inl (.inl hT2), rfl, _, _, rfl, _, _, rfl, rfl, ?_⟩
      refine ⟨.ref a, rfl, .int (i : Nat), rfl, (i : Nat), rfl, a, _, rfl, Evl.ex_t e12 hx, fun z => absurd (slice_whole z.2) (by rw [List.length_map]; omega), fun _ p np => ?_⟩
      rw [cut_take, ← List.map_take]
      have e3 := Evl.Ex.new (o := .tup ((st.take i).map V.int)) np
      generalize hH3 : upd H2 p (.tup ((st.take i).map V.int)) = H3 at e3
      have hp3 : H3 p = some (.tup ((st.take i).map V.int)) := by rw [← hH3]; exact upd_same
      have e13 := e12.trans e3
      have hmv3 : H3 mv = some (.lst (ds.map V.ref)) := e13 _ _ hmv
      have hd' : (ds.map V.ref)[i]? = some (.ref d) := by rw [List.getElem?_map, hd]; rfl
      obtain ⟨ps, hps, hdd, hq⟩ := hmvd.ex e13
      have ndp : (ps.map (·.1)).Nodup := by rw [hps]; exact hW.1
      have hR3 : H3 r0 = some (.lst us) := e3 _ _ (e2 _ _ hR)
      have hus3 : Paired (TrAt H3) us (stepsUpto l st i) := Paired.imp (fun _ _ => TrAt.ex (e2.trans e3)) hus
      have gets : ∀ o, valV (kps ps) (keyW (st.take i)) = o → DGet H3 d (.ref p) o := by
        rintro o rfl
        exact DGet.t hdd (by rw [keyW_kV]; exact hp3)
      by_cases hin : st.take i ∈ ws
      · rw [← hps] at hin
        obtain ⟨qq, hqq, eqq⟩ := List.mem_map.mp hin
        obtain ⟨_, uq, h1, h2⟩ := hq qq hqq
        have hval := valV_kps ndp hqq
        rw [eqq] at hval h2
        refine ⟨.ref p, rfl, .ref mv, rfl, .int (i : Nat), rfl, mv, _, (i : Nat), .ref d, rfl, rfl, .inl (.inl hmv3), atI_nat hd', d, _, rfl, gets _ hval, false, rfl, iteF ?_⟩
        refine ⟨.ref mv, rfl, .int (i : Nat), rfl, mv, _, (i : Nat), .ref d, rfl, rfl, .inl (.inl hmv3), atI_nat hd', .ref p, rfl, d, .ref qq.2, rfl, gets _ hval, qq.2, rfl, ⟨uq, .inl (.inl h1)⟩, ?_⟩
        have uql : uq.length = (movesL b.gaps (st.take i)).length := Paired.len h2
        have u8 : uq.length ≤ 8 := by
          have z1 := movesL_len b.gaps (st.take i)
          have z2 := (ok.bolts i b hb).few
          omega
        have nrq : qq.2 ≠ r0 := fun z => by
          obtain ⟨ps', hps', hdd', hq'⟩ := hmvd
          have z1 : (H d) = some (.dT (kps ps')) := hdd'
          have z2 : H3 d = some (.dT (kps ps')) := e13 _ _ z1
          rw [hdd] at z2
          have z3 : kps ps = kps ps' := HO.dT.inj (Option.some.inj z2)
          have z4 : qq.2 ∈ ps'.map (·.2) := by
            have z5 : (keyW qq.1, V.ref qq.2) ∈ kps ps' := by rw [← z3]; exact List.mem_map.mpr ⟨qq, hqq, rfl⟩
            obtain ⟨q2, hq2, eq2⟩ := List.mem_map.mp z5
            have z6 : V.ref q2.2 = V.ref qq.2 := (Prod.mk.inj eq2).2
            exact List.mem_map.mpr ⟨q2, hq2, V.ref.inj z6⟩
          obtain ⟨q2, hq2, eq2⟩ := List.mem_map.mp z4
          obtain ⟨_, u2, h3, _⟩ := hq' q2 hq2
          rw [eq2, z, nr0] at h3
          cases h3
        refine for_list (K := K) (a := qq.2) (xs := uq) (fun m σ H' => ∃ (us' : List V) (y6 y7 y8 : Option V), σ = [some (.ref mv), some (.ref a), some (.ref r0), some (.int (i : Nat)), some (.int pl), some (.ref p), y6, y7, y8] ∧ Evl.Ex H H' ∧ H' qq.2 = some (.lst uq) ∧ (∀ b' o, b' ≠ r0 → H3 b' = some o → H' b' = some o) ∧ H' r0 = some (.lst us') ∧ us'.length ≤ 8 * i + m ∧
            Paired (TrAt H') us' (stepsUpto l st i ++ pickAt i pl ((movesL b.gaps (st.take i)).take m))) ⟨us, _, _, _, rfl, e13, h1, fun _ _ _ h => h, hR3, ulen, by simpa [pickAt] using hus3⟩ ?_ ?_ ?_
        · rintro m σ H' _ ⟨_, _, _, _, _, _, h, _⟩
          exact .inl (.inl h)
        · rintro m x σ H4 hm ⟨us', z6, z7, z8, rfl, e4, hq4, k4, hR4, ul4, hus4⟩
          obtain ⟨t, ht, ⟨at_, rfl, hat⟩⟩ := Paired.get1 h2 hm
          have hat4 : H4 at_ = some (.tup [.int t.frm, .int t.to_, .int t.price]) := k4 _ _ (ne_of hat hR3 (fun z => nomatch z)) hat
          refine ⟨at_, _, rfl, .inl (.inl hat4), rfl, _, _, rfl, _, _, rfl, _, _, rfl, rfl, ?_⟩
          refine ⟨.int t.frm, rfl, .int pl, rfl, rfl, decide (V.int t.frm = V.int pl), rfl, ?_⟩
          have m8 : m < 8 := by
            have := (List.getElem?_eq_some_iff.mp hm).1
            omega
          have pk : pickAt i pl ((movesL b.gaps (st.take i)).take (m + 1)) = pickAt i pl ((movesL b.gaps (st.take i)).take m) ++ (if t.frm = pl then [⟨(i : Int), t.to_, t.price⟩] else []) := by
            unfold pickAt
            rw [take_succ_get ht, List.filter_append, List.map_append]
            congr 1
            by_cases hh : t.frm = pl
            · rw [if_pos hh, List.filter_cons, if_pos (decide_eq_true hh)]
              rfl
            · rw [if_neg hh, List.filter_cons, if_neg (by rw [decide_eq_false hh]; exact Bool.false_ne_true)]
              rfl
          refine ite2 (fun hc => ?_) (fun hc => ?_)
          · have hc' : t.frm = pl := V.int.inj (of_decide_eq_true hc)
            refine ⟨.ref r0, rfl, .inl ⟨rfl, _, SqL.of hR4⟩, .int (i : Nat), rfl, .int t.to_, rfl, .int t.price, rfl, (by show 3 ≤ sizeLine; decide), fun p' np' => ?_⟩
            have e5 := Evl.Ex.new (o := .tup [.int (i : Nat), .int t.to_, .int t.price]) np'
            have nrp : r0 ≠ p' := fun z => by rw [← z, hR4] at np'; cases np'
            refine ⟨r0, us', _, rfl, rfl, e5 _ _ hR4, ?_, us' ++ [.ref p'], _, _, _, rfl, (e4.trans e5).mut nr0, ?_, ?_, upd_same, ?_, ?_⟩
            · exact Nat.lt_of_le_of_lt (by omega : us'.length ≤ 8 * 60 + 8) (by decide)
            · rw [upd_ne nrq]
              exact e5 _ _ hq4
            · intro b' o nb h0
              rw [upd_ne nb]
              exact e5 _ _ (k4 b' o nb h0)
            · rw [List.length_append]
              simp
              omega
            · rw [pk, if_pos hc', ← List.append_assoc]
              refine paired_app1 (Paired.imp (fun v t3 => ?_) hus4) ⟨p', rfl, by rw [upd_ne nrp.symm]; exact upd_same⟩
              rintro ⟨c, rfl, hcc⟩
              exact ⟨c, rfl, by rw [upd_ne (ne_of hcc hR4 (fun z => nomatch z))]; exact e5 _ _ hcc⟩
          · have hc' : ¬ t.frm = pl := fun z => hc (decide_eq_true (by rw [z]))
            refine ⟨us', _, _, _, rfl, e4, hq4, k4, hR4, by omega, ?_⟩
            rw [pk, if_neg hc', List.append_nil]
            exact hus4
        · rintro σ H4 ⟨us', z6, z7, z8, rfl, e4, hq4, k4, hR4, ul4, hus4⟩
          refine ⟨us', _, _, _, _, _, _, rfl, e4, hR4, by omega, ?_⟩
          rw [uql, List.take_length] at hus4
          rw [stepsUpto_succ]
          have z : stepsOf l st i = pickAt i pl (movesL b.gaps (st.take i)) := by
            unfold stepsOf
            rw [hb, hpl]
          rw [z]
          exact hus4
      · have hval : valV (kps ps) (keyW (st.take i)) = none := valV_kps_none (by rw [hps]; exact hin)
        refine ⟨.ref p, rfl, .ref mv, rfl, .int (i : Nat), rfl, mv, _, (i : Nat), .ref d, rfl, rfl, .inl (.inl hmv3), atI_nat hd', d, _, rfl, gets _ hval, true, rfl, iteT ?_⟩
        refine ⟨.ref r0, rfl, ?_⟩
        refine q H3 r0 us e13 nr0 hR3 ?_
        rw [← steps_stop ok (Nat.le_of_lt hi) (fun z => hin ((hW.2 _).mpr z))]
        exact hus3
    · rintro σ H1 ⟨us, y3, y4, y5, y6, y7, y8, rfl, e1, hR, ulen, hus⟩
      rw [List.length_map, sl] at hus
      exact ⟨.ref r0, rfl, q H1 r0 us e1 nr0 hR hus⟩
theorem ok_can (D : Pr K mg) : FnOk P w K mg base CX0 8 D.f26 D.d26 ["lock", "stand"] (spCan K) := by
  have G24 : FnOk P w K mg base CX0 7 D.f24 D.d24 ["lock"] (spFault K) := ok_needL D
  have G25 : FnOk P w K mg base CX0 3 D.f25 D.d25 ["lock", "thing"] (spNeedS K) := ok_needS D
  have G11 : FnOk P w K mg base CX0 2 D.f11 D.d11 ["lock"] (spMoves K) := ok_moves D.F11 D.F10 D.b10 D.g10 D.B
  have G27 : FnOk P w K mg base CX0 1 D.f27 D.d27 ["moves", "stand"] (spStepsAt K) := ok_stepsAt D
  refine D.F26.ok scCan (fun vs H Q E h => ?_) (fun cdv A outer s H vs Q E hr h => ?_)
  · obtain ⟨v, u, l, st, rfl, _⟩ := h; rfl
  · obtain ⟨v, u, l, st, rfl, hv, ok, hu', hin, q⟩ := h
    have hr1 : Room 1 _ := hr.mono (by decide)
    have hr2 : Room 2 _ := hr.mono (by decide)
    have hr3 : Room 3 _ := hr.mono (by decide)
    refine ⟨_, pss_cons (ps_expr (pe_call G24 hr (by rfl) D.g24 D.F24.kp D.b24 .nil pass0 (pa_cons (pv 0) pa_nil)))
      (pss_cons (ps_expr (pe_call G25 hr3 (by rfl) D.g25 D.F25.kp D.b25 .nil pass0 (pa_cons (pv 0) (pa_cons (pv 1) pa_nil))))
      (pss_one (ps_ret (pe_call G27 hr1 (by rfl) D.g27 D.F27.kp D.b27 .nil pass0 (pa_cons (pe_call G11 hr2 (by rfl) D.g11 D.F11.kp D.b11 .nil pass0 (pa_cons (pv 0) pa_nil)) (pa_cons (pv 1) pa_nil)))))), ?_⟩
    refine ⟨v, rfl, v, l, rfl, hv, ok, fun H1 e1 => ?_⟩
    refine ⟨v, rfl, u, rfl, v, u, l, st, rfl, hv.mono (TX.ex e1), ok, wd_ex e1 hu', hin, fun H2 e2 => ?_⟩
    have e12 := e1.trans e2
    refine ⟨v, rfl, v, l, rfl, hv.mono (TX.ex e12), ok, fun H3 p ds e3 np hp dl hds => ?_⟩
    have e13 := e12.trans e3
    have sl : st.length = l.length := by
      have := hin.1
      unfold manysOf at this
      rw [List.length_map] at this
      exact this
    refine ⟨u, rfl, p, u, ds, l, st, rfl, hp, dl, ok, wd_ex e13 hu', sl, hds, fun H4 p' us e4 np' hp' hus => ?_⟩
    exact q H4 p' us (e13.trans e4) (Evl.fresh_back e13 np') hp' hus
end
end Wb

set_option Elab.async false
set_option linter.all false
set_option maxRecDepth 100000
set_option maxHeartbeats 4000000
set_option pp.maxSteps 600
set_option pp.deepTerms false
namespace Wb
open PySem PySem.Spec PyProof.Rows L2
abbrev sPen : Stmt := topS 36
abbrev sDraw : Stmt := topS 37
abbrev sPick : Stmt := topS 38
abbrev nDraw : List Str := ["_law_pen_here", "_law_many_here", "_law_found", "_law_at", "_law_cell", "_law_number"]
theorem scPen : FnScope ["_law_script"] ["_law_script"] (defScope sPen) := ⟨rfl, rfl, rfl, by decide +kernel, rfl, by decide +kernel, by decide +kernel⟩
theorem scDraw : FnScope nDraw ["_law_pen_here", "_law_many_here"] (defScope sDraw) := ⟨rfl, rfl, rfl, by decide +kernel, rfl, by decide +kernel, by decide +kernel⟩
theorem scPick : FnScope ["_law_pen_here", "_law_bag"] ["_law_pen_here", "_law_bag"] (defScope sPick) := ⟨rfl, rfl, rfl, by decide +kernel, rfl, by decide +kernel, by decide +kernel⟩

/-! ### the pen -/
def PenAt (H : Hp) (p c : Addr) (T : Int) : Prop :=
  ∃ (cells : List Int) (t d : Int), H p = some (.lst [.ref c, .int t, .int d]) ∧ H c = some (.lst (cells.map V.int)) ∧ c ≠ p ∧ cells.length ≤ 63 ∧ 0 ≤ t ∧ t ≤ T ∧ 0 ≤ d
section
variable {H H' : Hp} {p c q : Addr} {T T' : Int}
theorem PenAt.ex (e : Evl.Ex H H') (h : PenAt H p c T) : PenAt H' p c T := by
  obtain ⟨cells, t, d, h1, h2, r⟩ := h
  exact ⟨cells, t, d, e _ _ h1, e _ _ h2, r⟩
theorem PenAt.put {o : HO} (h : PenAt H p c T) (h1 : q ≠ p) (h2 : q ≠ c) : PenAt (upd H q o) p c T := by
  obtain ⟨cells, t, d, a, b, r⟩ := h
  exact ⟨cells, t, d, by rw [upd_ne h1.symm]; exact a, by rw [upd_ne h2.symm]; exact b, r⟩
theorem PenAt.mono (h : PenAt H p c T) (l : T ≤ T') : PenAt H p c T' := by
  obtain ⟨cells, t, d, a, b, n, b2, t0, t1, d0⟩ := h
  exact ⟨cells, t, d, a, b, n, b2, t0, Int.le_trans t1 l, d0⟩
theorem PenAt.no (h : PenAt H p c T) : ∀ xs, ¬ Rd H p (.tup xs) := by
  obtain ⟨cells, t, d, a, _⟩ := h
  rintro xs (z | ⟨o, z⟩)
  · rw [a] at z; cases z
  · rw [a] at z; cases z
theorem PenAt.here (h : PenAt H p c T) : H p ≠ none := by
  obtain ⟨cells, t, d, a, _⟩ := h
  rw [a]
  exact fun z => nomatch z
theorem PenAt.new1 (h : PenAt H p c T) (n : H q = none) : q ≠ p := fun z => h.here (z ▸ n)
theorem PenAt.new2 (h : PenAt H p c T) (n : H q = none) : q ≠ c := fun z => by
  obtain ⟨cells, t, d, _, b, _⟩ := h
  rw [← z, n] at b
  cases b
theorem PenAt.tx {K : PySem.W.Frag} (h : PenAt H p c T) (e : Exx p H H') : TX K H H' := e.tx h.no
/-- a list of ours has changed -/
theorem TX.put {K : PySem.W.Frag} {l : Addr} {xs : List V} {o : HO} (h : H l = some (.lst xs)) : TX K H (upd H l o) := by
  refine ⟨fun a ys z => ?_, fun a ys z => ?_⟩
  · rcases z with (z | ⟨o', z⟩) | z
    · exact .inl (.inl (by rw [upd_ne (ne_of z h (fun q => nomatch q))]; exact z))
    · exact .inl (.inr ⟨o', by rw [upd_ne (ne_of z h (fun q => nomatch q))]; exact z⟩)
    · exact .inr z
  · rw [upd_ne (ne_of z h (fun q => nomatch q))]
    exact z
theorem Exx.mut {l : Addr} {o : HO} (e : Exx p H H') (n : H l = none) : Exx p H (upd H' l o) := fun a u na ha => by
  rw [upd_ne (ne_of_none ha n)]
  exact e a u na ha
end
theorem fresh_exx {p q : Addr} {H H' : Hp} (e : Exx p H H') (hp : H' p ≠ none) (h : H' q = none) : H q = none := by
  cases z : H q with
  | none => rfl
  | some o =>
    by_cases n : q = p
    · subst n; exact absurd h hp
    · rw [e q o n z] at h; cases h

def spPen (K : PySem.W.Frag) : Sp := fun vs H Q _ => ∃ (a : Addr) (ns : List Int), vs = [.ref a] ∧ SqL K H a (ns.map V.int) ∧ ∀ H' p, Evl.Ex H H' → H p = none → (∃ c, PenAt H' p c 0) → Q (.ref p) H'
def spDraw : Sp := fun vs H Q _ => ∃ (p c : Addr) (n T : Int), vs = [.ref p, .int n] ∧ PenAt H p c T ∧ 1 ≤ n ∧ n ≤ 1000000 ∧ T ≤ 10000000 ∧ ∀ i H', 0 ≤ i → i < n → Exx p H H' → PenAt H' p c (T + 1) → Q (.int i) H'
def spPick (K : PySem.W.Frag) : Sp := fun vs H Q _ => ∃ (p c a : Addr) (T : Int) (xs : List V), vs = [.ref p, .ref a] ∧ PenAt H p c T ∧ T ≤ 10000000 ∧ SqL K H a xs ∧ a ≠ p ∧ xs ≠ [] ∧ xs.length ≤ 1000000 ∧
  ∀ x H', x ∈ xs → Exx p H H' → PenAt H' p c (T + 1) → Q x H'
theorem ints_shaped (ns : List Int) : SeqAt.shaped (.list (ns.map PyData.int)) = true := by
  have h1 : ∀ ns : List Int, PyData.canLayAll0 (ns.map PyData.int) = true := by
    intro ns
    induction ns with
    | nil => rfl
    | cons n ns ih => simp [PyData.canLayAll0, PyData.canLay0, ih]
  have h2 : ∀ ns : List Int, PyData.depthAll (ns.map PyData.int) ≤ 1 := by
    intro ns
    induction ns with
    | nil => simp [PyData.depthAll]
    | cons n ns ih => simp [PyData.depthAll, PyData.depth]; omega
  unfold SeqAt.shaped
  simp only [PyData.canLay0, PyData.depth, h1, Bool.true_and]
  have := h2 ns
  exact decide_eq_true (by omega)
theorem dp_ints {K : PySem.W.Frag} {H : Hp} : ∀ ns : List Int, DpAll K H (ns.map V.int) (ns.map PyData.int)
  | [] => .nil
  | n :: ns => .cons (.int n) (dp_ints ns)
section
variable {P : Program} {w : World} {K : PySem.W.Frag} {mg : Str → Option Value} {base : Heap}
theorem cut63 (ns : List Int) : cutV (ns.map V.int) none (some 63) = (ns.take 63).map V.int := by
  rw [List.map_take]
  exact cut_take _ 63
theorem ok_pen {f : Addr} {fd : FuncData} (F : Fun K "_law_pen" "_law_pen" sPen f fd) (B : Bi mg) : FnOk P w K mg base CX0 1 f fd ["_law_script"] (spPen K) := by
  refine F.ok scPen (fun vs H Q E h => ?_) (fun cdv A outer s H vs Q E hr h => ?_)
  · obtain ⟨a, ns, rfl, _⟩ := h; rfl
  · obtain ⟨a, ns, rfl, hS, q⟩ := h
    refine ⟨_, pss_one (ps_ret (pe_lst (pa_cons (pe_callTy call_list_of (by rfl) B.list PyProof.Rows.boot_list (pa_cons (pe_slice sl_list (pv 0) po_none (po_some pe_int)) pa_nil)) (pa_cons pe_int (pa_cons pe_int pa_nil))))), ?_⟩
    refine ⟨.ref a, rfl, 63, rfl, a, _, rfl, hS, fun c1 n1 => ?_⟩
    rw [cut63]
    have x2 := Evl.Ex.new (o := .lst ((ns.take 63).map V.int)) n1
    refine ⟨c1, _, rfl, .inl (.inl (.inl upd_same)), fun c n2 => ?_⟩
    have x3 := Evl.Ex.new (o := .lst ((ns.take 63).map V.int)) n2
    refine ⟨(by show 3 ≤ sizeLine; decide), fun p n3 => ?_⟩
    have x4 := Evl.Ex.new (o := .lst [.ref c, .int 0, .int 0]) n3
    have hc := x4 _ _ (upd_same (H := upd H c1 (.lst ((ns.take 63).map V.int))) (a := c) (o := .lst ((ns.take 63).map V.int)))
    refine q _ p (x2.trans (x3.trans x4)) (Evl.fresh_back (x2.trans x3) n3) ⟨c, ns.take 63, 0, 0, upd_same, hc, fun z => ?_, by rw [List.length_take]; omega, Int.le_refl _, Int.le_refl _, Int.le_refl _⟩
    rw [z] at n2
    rw [← z, upd_same] at n3
    cases n3
end
end Wb

set_option Elab.async false
set_option linter.all false
set_option maxRecDepth 100000
set_option maxHeartbeats 4000000
set_option pp.maxSteps 600
set_option pp.deepTerms false
namespace Wb
open PySem PySem.Spec PyProof.Rows L2
section
variable {P : Program} {w : World} {K : PySem.W.Frag} {mg : Str → Option Value} {base : Heap}
theorem bndM (x m : Int) (h0 : 0 < m) (h1 : m ≤ 2147483647) : 0 ≤ x % m ∧ x % m < 2147483647 := by
  have a1 := Int.emod_nonneg x (show m ≠ 0 by omega)
  have a2 := Int.emod_lt_of_pos x h0
  omega
theorem ok_draw {f : Addr} {fd : FuncData} (F : Fun K "_law_draw" "_law_draw" sDraw f fd) (B : Bi mg) : FnOk P w K mg base CX0 1 f fd ["_law_pen_here", "_law_many_here"] spDraw := by
  refine F.ok scDraw (fun vs H Q E h => ?_) (fun cdv A outer s H vs Q E hr h => ?_)
  · obtain ⟨p, c, n, T, rfl, _⟩ := h; rfl
  · obtain ⟨p, c, n, T, rfl, ⟨cells, t, d, hp, hc, ncp, c63, t0, t1, d0⟩, n1, n2, T7, q⟩ := h
    have hu := hu_of hr
    refine ⟨_, pss_cons (ps_if (pt_cmpR op_gt (pe_ix ix_list (pv 0) pe_int (fun _ _ => rfl)) pe_int (nomark _))
        (pss_cons (ps_set (i := 2) scDraw.nd rfl (.inl rfl) (pe_op op_mod (pe_ix ix_list (pv 0) pe_int (fun _ _ => rfl)) (pv 1)))
        (pss_cons (ps_asg (pe_op op_fdiv (pe_ix ix_list (pv 0) pe_int (fun _ _ => rfl)) (pv 1)) (pg_sub (pv 0) pe_int set_list))
        (pss_one (ps_ret (pv 2))))) pss_nil)
      (pss_cons (ps_set (i := 3) scDraw.nd rfl (.inl rfl) (pe_ix ix_list (pv 0) pe_int (fun _ _ => rfl)))
      (pss_cons (ps_asg (pe_op op_add (pv 3) pe_int) (pg_sub (pv 0) pe_int set_list))
      (pss_cons (ps_set (i := 4) scDraw.nd rfl (.inl rfl) pe_int)
      (Evl.pss_cut (ps_if (pt_cmpR (op_neD hr.units) (pe_ix ix_list (pv 0) pe_int (fun _ _ => rfl)) (pe_lst pa_nil) (nomark _))
        (pss_one (ps_set (i := 4) scDraw.nd rfl (.inl rfl) (pe_ix ix_list (pe_ix ix_list (pv 0) pe_int (fun _ _ => rfl)) (pe_op op_mod (pv 3) (pe_callB call_len_seq (by rfl) B.len PySem.boot_len (pa_cons (pe_ix ix_list (pv 0) pe_int (fun _ _ => rfl)) pa_nil))) (fun _ _ => rfl)))) pss_nil)
      (Evl.pss_cut (ps_if (PW.pt (pw_and (pt_cmpR op_lt (pv 3) (pe_callB call_len_seq (by rfl) B.len PySem.boot_len (pa_cons (pe_ix ix_list (pv 0) pe_int (fun _ _ => rfl)) pa_nil)) (nomark _)) (pw_and1 (pt_cmpR op_ge (pe_callB call_abs (by rfl) B.abs boot_abs (pa_cons (pv 4) pa_nil)) (pe_op op_pow pe_int pe_int) (nomark _)))))
        (pss_cons (ps_asg (pe_op op_fdiv (pe_callB call_abs (by rfl) B.abs boot_abs (pa_cons (pv 4) pa_nil)) (pv 1)) (pg_sub (pv 0) pe_int set_list))
        (pss_one (ps_ret (pe_op op_mod (pe_callB call_abs (by rfl) B.abs boot_abs (pa_cons (pv 4) pa_nil)) (pv 1))))) pss_nil)
      (pss_cons (ps_set (i := 5) scDraw.nd rfl (.inl rfl) (pe_op op_mod (pe_op op_mul (pe_op op_add (pe_op op_mod (pv 4) pe_int) pe_int) (pe_op op_add (pe_op op_add (pe_op op_mul (pv 3) (pv 3)) (pe_op op_mul pe_int (pv 3))) pe_int)) pe_int))
      (pss_cons (ps_set (i := 5) scDraw.nd rfl (.inl rfl) (pe_op op_mod (pe_op op_mul (pe_op op_mod (pe_op op_add (pe_op op_pow (pv 5) pe_int) (pe_op op_mul pe_int (pv 3))) pe_int) pe_int) pe_int))
      (pss_one (ps_ret (pe_op op_mod (pe_op op_fdiv (pv 5) pe_int) (pv 1))))))))))), ?_⟩
    have n0 : 0 < n := by omega
    have nb : 0 < n ∧ n < 1073741824 := ⟨n0, by omega⟩
    have at0 : ∀ {a b c : V}, atI [a, b, c] 0 = some a := fun {_ _ _} => atI_nat (j := 0) rfl
    have at1 : ∀ {a b c : V}, atI [a, b, c] 1 = some b := fun {_ _ _} => atI_nat (j := 1) rfl
    have at2 : ∀ {a b c : V}, atI [a, b, c] 2 = some c := fun {_ _ _} => atI_nat (j := 2) rfl
    have sl : ∀ {H' : Hp} {xs : List V}, H' p = some (.lst xs) → SqL K H' p xs := fun {_ _} e => SqL.of e
    -- the digits of a great cell
    refine ⟨.ref p, rfl, p, _, 2, .int d, rfl, rfl, sl hp, at2, d, 0, rfl, rfl, _, rfl, ?_⟩
    refine ite2 (fun _ => ?_) (fun _ => ?_)
    · refine ⟨.ref p, rfl, p, _, 2, .int d, rfl, rfl, sl hp, at2, .int n, rfl, d, n, rfl, rfl, n0, ?_⟩
      refine ⟨.ref p, rfl, p, _, 2, .int d, rfl, rfl, sl hp, at2, .int n, rfl, d, n, rfl, rfl, nb, .ref p, rfl, p, _, 2, 2, rfl, rfl, hp, rfl, .int (d % n), rfl, ?_⟩
      exact q _ _ (Int.emod_nonneg _ (by omega)) (Int.emod_lt_of_pos _ n0) Exx.put ⟨cells, t, d / n, upd_same, by rw [upd_ne ncp]; exact hc, ncp, c63, t0, by omega, Int.ediv_nonneg d0 (by omega)⟩
    · refine ⟨.ref p, rfl, p, _, 1, .int t, rfl, rfl, sl hp, at1, ?_⟩
      refine ⟨.int t, rfl, t, 1, rfl, rfl, .ref p, rfl, p, _, 1, 1, rfl, rfl, hp, rfl, ?_⟩
      have hp1 : (upd H p (.lst ([V.ref c, .int t, .int d].set 1 (.int (t + 1))))) p = some (.lst [.ref c, .int (t + 1), .int d]) := upd_same
      have hc1 : (upd H p (.lst ([V.ref c, .int t, .int d].set 1 (.int (t + 1))))) c = some (.lst (cells.map V.int)) := by rw [upd_ne ncp]; exact hc
      have x1 : Exx p H (upd H p (.lst ([V.ref c, .int t, .int d].set 1 (.int (t + 1))))) := Exx.put
      generalize upd H p (.lst ([V.ref c, .int t, .int d].set 1 (.int (t + 1)))) = H1 at hp1 hc1 x1
      refine ⟨fun σ H' => ∃ cell : Int, σ = [some (.ref p), some (.int n), none, some (.int t), some (.int cell), none] ∧ Evl.Ex H1 H', ?_, ?_⟩
      · refine ⟨.ref p, rfl, p, _, 0, .ref c, rfl, rfl, sl hp1, at0, Nat.zero_le _, fun e ne => ?_⟩
        have e1 := Evl.Ex.new (o := .lst []) ne
        have hp2 := e1 _ _ hp1
        have hc2 := e1 _ _ hc1
        refine ⟨.list (cells.map PyData.int), .list [], .lst (.inl (.inl hc2)) (dp_ints cells), .lst (.inl (.inl upd_same)) .nil, ints_shaped cells, (by decide), _, rfl, ?_⟩
        cases hcells : cells with
        | nil =>
          refine iteF ?_
          exact ⟨11, rfl, e1⟩
        | cons c0 cs =>
          refine iteT ?_
          have lp : 0 < cells.length := by rw [hcells]; exact Nat.succ_pos _
          have hlt : (t % (cells.length : Int)).toNat < cells.length := by
            have h1 := Int.emod_nonneg t (show (cells.length : Int) ≠ 0 by omega)
            have h2 := Int.emod_lt_of_pos t (show (0 : Int) < cells.length by omega)
            omega
          have hix : ((t % (cells.length : Int)).toNat : Int) = t % ((cells.map V.int).length : Nat) := by
            have h1 := Int.emod_nonneg t (show (cells.length : Int) ≠ 0 by omega)
            rw [List.length_map]
            omega
          refine ⟨.ref p, rfl, p, _, 0, .ref c, rfl, rfl, sl hp2, at0, .int t, rfl, .ref p, rfl, p, _, 0, .ref c, rfl, rfl, sl hp2, at0, c, _, rfl, .inl (.inl (.inl hc2)), t, _, rfl, rfl, (by rw [List.length_map]; omega), c, _, _, .int (cells[(t % (cells.length : Int)).toNat]), rfl, rfl, .inl (.inl hc2), ?_, ?_⟩
          · rw [← hix]
            exact atI_nat (map_int_get (List.getElem?_eq_getElem hlt))
          · exact ⟨_, rfl, e1⟩
      · rintro σ H2 ⟨cell, rfl, e2⟩
        have hp2 := e2 _ _ hp1
        have hc2 := e2 _ _ hc1
        have x2 := x1.trans (Exx.ex e2)
        have fin : ∀ i : Int, 0 ≤ i → i < n → Q (.int i) H2 := fun i h1 h2 => q i H2 h1 h2 x2 ⟨cells, t + 1, d, hp2, hc2, ncp, c63, by omega, by omega, d0⟩
        have p18 : (0 : Int) ≤ 18 ∧ (18 : Int) ≤ 1000000 ∧ (10 : Int).natAbs < 2 ^ 64 := by decide
        refine ⟨fun σ H' => σ = [some (.ref p), some (.int n), none, some (.int t), some (.int cell), none] ∧ H' = H2, ?_, ?_⟩
        · refine ⟨.int t, rfl, .ref p, rfl, p, _, 0, .ref c, rfl, rfl, sl hp2, at0, c, _, rfl, .inl (.inl (.inl hc2)), t, _, rfl, rfl, _, rfl, ?_⟩
          refine ite2 (fun _ => ?_) (fun _ => ⟨rfl, rfl⟩)
          refine ⟨.int cell, rfl, cell, rfl, 10, 18, rfl, rfl, p18, (if cell < 0 then -cell else cell), _, rfl, rfl, _, rfl, ?_⟩
          refine ite2 (fun _ => ?_) (fun _ => ⟨rfl, rfl⟩)
          refine ⟨.int cell, rfl, cell, rfl, .int n, rfl, (if cell < 0 then -cell else cell), n, rfl, rfl, nb, .ref p, rfl, p, _, 2, 2, rfl, rfl, hp2, rfl, ?_⟩
          refine ⟨.int cell, rfl, cell, rfl, .int n, rfl, (if cell < 0 then -cell else cell), n, rfl, rfl, n0, ?_⟩
          exact q _ _ (Int.emod_nonneg _ (by omega)) (Int.emod_lt_of_pos _ n0) (x2.trans Exx.put) ⟨cells, t + 1, _, upd_same, by rw [upd_ne ncp]; exact hc2, ncp, c63, by omega, by omega, Int.ediv_nonneg (by split <;> omega) (by omega)⟩
        · rintro σ H' ⟨rfl, rfl⟩
          have tb : -(2 ^ 64) < t ∧ t < 2 ^ 64 := ⟨by omega, by omega⟩
          have m1 : (0 : Int) < 2147483629 := by decide
          have m2 : (0 : Int) < 2147483647 := by decide
          have m3 : (0 : Int) < 2147483587 := by decide
          have m4 : (0 : Int) < 2147483399 := by decide
          have c1 := bndM cell 2147483629 (by decide) (by decide)
          have cb : -(2 ^ 64) < cell % 2147483629 + 13 ∧ cell % 2147483629 + 13 < 2 ^ 64 := ⟨by omega, by omega⟩
          refine ⟨.int cell, rfl, cell, 2147483629, rfl, rfl, m1, _, 13, rfl, rfl, .int t, rfl, .int t, rfl, t, t, rfl, rfl, .inl tb, .int t, rfl, 7, t, rfl, rfl, .inl (by decide), _, _, rfl, rfl, _, 5, rfl, rfl, _, _, rfl, rfl, .inl cb, _, 2147483647, rfl, rfl, m2, ?_⟩
          generalize (cell % 2147483629 + 13) * (t * t + 7 * t + 5) = x1
          have b1 := bndM x1 2147483647 (by decide) (by decide)
          have p3 : (0 : Int) ≤ 3 ∧ (3 : Int) ≤ 1000000 ∧ (x1 % 2147483647).natAbs < 2 ^ 64 := ⟨by decide, by decide, by omega⟩
          refine ⟨_, rfl, _, 3, rfl, rfl, p3, .int t, rfl, 40692, t, rfl, rfl, .inl (by decide), _, _, rfl, rfl, _, 2147483587, rfl, rfl, m3, _, 69621, rfl, rfl, .inr (by decide), _, 2147483399, rfl, rfl, m4, ?_⟩
          refine ⟨_, rfl, _, 64, rfl, rfl, (show (0 : Int) < 64 ∧ (64 : Int) < 1073741824 by decide), .int n, rfl, _, n, rfl, rfl, n0, ?_⟩
          exact fin _ (Int.emod_nonneg _ (by omega)) (Int.emod_lt_of_pos _ n0)
theorem ok_pick {f f1 : Addr} {fd fd1 : FuncData} (F : Fun K "_law_pick" "_law_pick" sPick f fd) (F1 : Fun K "_law_draw" "_law_draw" sDraw f1 fd1) (b1 : Binds K fd1 ["_law_pen_here", "_law_many_here"] []) (g1 : mg "_law_draw" = some (.ref f1)) (B : Bi mg) :
    FnOk P w K mg base CX0 2 f fd ["_law_pen_here", "_law_bag"] (spPick K) := by
  have G1 : FnOk P w K mg base CX0 1 f1 fd1 ["_law_pen_here", "_law_many_here"] spDraw := ok_draw F1 B
  refine F.ok scPick (fun vs H Q E h => ?_) (fun cdv A outer s H vs Q E hr h => ?_)
  · obtain ⟨p, c, a, T, xs, rfl, _⟩ := h; rfl
  · obtain ⟨p, c, a, T, xs, rfl, hp, T7, hx, nap, ne, xl, q⟩ := h
    refine ⟨_, pss_one (ps_ret (pe_ix ix_list (pv 1) (pe_call G1 hr (by rfl) g1 F1.kp b1 .nil pass0 (pa_cons (pv 0) (pa_cons (pe_callB call_len_seq (by rfl) B.len PySem.boot_len (pa_cons (pv 1) pa_nil)) pa_nil))) (fun _ _ => rfl))), ?_⟩
    have lp : 0 < xs.length := List.length_pos_iff.mpr ne
    refine ⟨.ref a, rfl, .ref p, rfl, .ref a, rfl, a, xs, rfl, .inl hx, p, c, _, T, rfl, hp, by omega, by omega, T7, fun i H' h0 h1 e hp' => ?_⟩
    have hlt : i.toNat < xs.length := by omega
    obtain ⟨y, hy⟩ : ∃ y, xs[i.toNat]? = some y := ⟨_, List.getElem?_eq_getElem hlt⟩
    refine ⟨a, xs, i, y, rfl, rfl, e.l nap hx, ?_, ?_⟩
    · have z : ((i.toNat : Nat) : Int) = i := by omega
      rw [← z]
      exact atI_nat hy
    · exact q _ H' (List.mem_of_getElem? hy) e hp'
end
end Wb

set_option Elab.async false
set_option linter.all false
set_option maxRecDepth 100000
set_option maxHeartbeats 4000000
namespace TS
open PySem PyProof.Rows
section
variable {prog : Program} {w : World} {A : Around} {E : Value → Shared → Prop} {s : Shared}
/-- sorted of a list of tuples that are held against one another by a rank -/
theorem sorted_rank {l : Addr} {vs : List Value} {r : Value → Int} {Q : Value → Shared → Prop} (hl : s.heap.IsList l vs.toArray) (h64 : vs.length < 64)
    (hK : ∀ (h' : Heap), (∀ b o, s.heap.get? b = some o → o.cls = .type "tuple" → h'.get? b = some o) → 2 ≤ vs.length → ∀ (A' : Around) (E' : Value → Shared → Prop) (Q' : SortKind → Shared → Prop), (∀ κ, Cmp prog w A' { s with heap := h' } κ (pairsOf vs) r → Q' κ { s with heap := h' }) →
      wpAny (model prog w) A' (keyKind' vs.toArray) Q' E' { s with heap := h' })
    (h : ∀ out : Array Value, out.toList.Perm vs → out.toList.Pairwise (fun u v => r u ≤ r v) → Q (.ref (s.heap.objs.size + 1)) { s with heap := sortedAll s.heap vs out }) :
    wpAny (model prog w) A (call (.builtin "sorted") [.ref l]) Q E s := by
  refine Calls.call_function_entry kind_sorted plain_sorted entry_sorted (args_sorted1 _) ?_
  unfold Builtin.«sorted»
  refine wpAny_bind (m := checkCount "sorted" 1 1 _) (wpAny_pure ?_)
  refine wpAny_bind (collect_list hl ?_ (by rw [sizeLine_eq]; omega))
  refine wpAny_bind (wpAny_newList ?_ (by rw [sizeLine_eq]; omega))
  have hsz : ((s.heap.push (seqObj "list" #[] 0)).update s.heap.objs.size (Obj.mapSeq (· ++ vs.toArray))).objs.size = s.heap.objs.size + 1 := by
    rw [Heap.size_update, size_push']
  have hoL : (((s.heap.push (seqObj "list" #[] 0)).update s.heap.objs.size (Obj.mapSeq (· ++ vs.toArray))).push (seqObj "list" vs.toArray 0)).get? (s.heap.objs.size + 1) = some (seqObj "list" vs.toArray 0) := by
    rw [← hsz]; exact Heap.get?_push_size _ rfl
  have keep : ∀ b o, s.heap.get? b = some o → o.cls = .type "tuple" → (((s.heap.push (seqObj "list" #[] 0)).update s.heap.objs.size (Obj.mapSeq (· ++ vs.toArray))).push (seqObj "list" vs.toArray 0)).get? b = some o := fun b o q _ => by
    have hlt : b < s.heap.objs.size := Heap.lt_size q
    rw [Heap.get?_push_ne _ _ _ (by rw [hsz]; exact Nat.ne_of_lt (Nat.lt_succ_of_lt hlt)), Heap.get?_update_ne _ _ _ _ (Nat.ne_of_lt hlt), Heap.get?_push_ne _ _ _ (Nat.ne_of_lt hlt)]
    exact q
  show wpAny _ _ _ _ _ { s with heap := ((s.heap.push (seqObj "list" #[] 0)).update s.heap.objs.size (Obj.mapSeq (· ++ vs.toArray))).push (seqObj "list" vs.toArray 0) }
  rw [hsz]
  refine wpAny_bind (wpAny_holding (wpAny_call_entry slot_list_sort ⟨_, hoL, rfl⟩ entry_list_sort (SK.plain_sort (r := r) hoL h64 (fun h2 Q' hQ => ?_) fun ps out h1 h2 h3 => ⟨_, rfl, ?_⟩) (args_list_sort _)))
  · refine hK _ (fun b o e hc => ?_) h2 _ _ _ hQ
    have e1 := keep b o e hc
    refine midHeap_old ?_ e1
    rintro rfl
    rw [hoL] at e1
    have e' : seqObj "list" vs.toArray 0 = o := Option.some.inj e1
    rw [← e'] at hc
    have c' : Value.type "list" = Value.type "tuple" := hc
    injection c' with c''
    exact absurd c'' (by decide)
  · obtain ⟨p, o⟩ := out_rank h1 h2 h3
    exact wpAny_pure ⟨_, rfl, h out p o⟩
theorem eqBool_same {v : Value} {Q : Bool → Shared → Prop} (h : Q true s) : wpAny (model prog w) A (eqBool v v) Q E s := by
  unfold eqBool
  refine wpAny_holding ?_
  rw [if_pos (beq_self_eq_true v)]
  first
    | exact wpAny_bind (wpAny_rule (wpAny_pure h))
    | exact wpAny_pure h
    | exact wpAny_bind (wpAny_rule h)
/-- a gap's tuple, by the places it leads from and to -/
def G4 (h : Heap) (v : Value) (k : Int × Int) : Prop := ∃ (a : Addr) (o : Obj) (t u : Tok) (q : Int) (z : Tok) (x : Value) (n : Nat), v = .ref a ∧ h.get? a = some o ∧ o.cls = .type "tuple" ∧ o.data = .seq #[.int k.1 t, .int k.2 u, .int q z, x] n
theorem G4.keeps {h h' : Heap} {v : Value} {k : Int × Int} (x : G4 h v k) (kp : ∀ b o, h.get? b = some o → o.cls = .type "tuple" → h'.get? b = some o) : G4 h' v k := by
  obtain ⟨a, o, t, u, q, z, y, n, e, ho, hc, hd⟩ := x
  exact ⟨a, o, t, u, q, z, y, n, e, kp _ _ ho hc, hc, hd⟩
theorem g4_firsts {h : Heap} {k : Value → Int × Int} : ∀ vs : List Value, (∀ v ∈ vs, G4 h v (k v)) → ∃ fs, PySem.W.KatTups h vs fs ∧ fs.length = vs.length ∧ ∀ f, f ∈ fs → ∃ n t, f = Value.int n t
  | [], _ => ⟨[], PySem.W.KatTups.nil, rfl, fun f hf => by simp at hf⟩
  | v :: vs, x => by
    obtain ⟨fs, kt, hl, hi⟩ := g4_firsts vs fun u hu => x u (List.mem_cons_of_mem _ hu)
    obtain ⟨a, o, t, u, q, z, y, n, e, ho, hc, hd⟩ := x v (List.mem_cons_self ..)
    subst e
    refine ⟨.int (k (.ref a)).1 t :: fs, PySem.W.KatTups.cons ho hc hd rfl kt, by simp [hl], fun f hf => ?_⟩
    rcases List.mem_cons.mp hf with rfl | hf
    · exact ⟨_, _, rfl⟩
    · exact hi f hf
/-- a rank of pairs of places below 4 -/
def rk4 (k : Int × Int) : Int := 4 * k.1 + k.2
theorem g4_kind {vs : List Value} {k : Value → Int × Int} (h2 : 2 ≤ vs.length) (x : ∀ v ∈ vs, G4 s.heap v (k v)) (bd : ∀ v ∈ vs, 0 ≤ (k v).1 ∧ (k v).1 < 4 ∧ 0 ≤ (k v).2 ∧ (k v).2 < 4) (inj : ∀ v ∈ vs, ∀ u ∈ vs, k v = k u → v = u) (Q : SortKind → Shared → Prop)
    (h : ∀ κ, Cmp prog w A s κ (pairsOf vs) (fun v => rk4 (k v)) → Q κ s) : wpAny (model prog w) A (keyKind' vs.toArray) Q E s := by
  obtain ⟨fs, kt, hl, hi⟩ := g4_firsts vs x
  refine PySem.W.kat_kind (T := Value.type "int") kt (by omega) (fun f hf => ?_) rfl (h _ ?_)
  · obtain ⟨n, t, rfl⟩ := hi f hf
    exact PySem.W.Looks.of_pure rfl
  · intro p q hp hq Q' E' hQ
    rw [pairsOf_toList] at hp hq
    have mp := (mem_zip_self hp).2
    have mq := (mem_zip_self hq).2
    obtain ⟨p1, p2, p3, p4⟩ := bd _ mp
    obtain ⟨q1, q2, q3, q4⟩ := bd _ mq
    have ij := inj _ mp _ mq
    obtain ⟨a, o, t, u, c, z, y, n, e, ho, hc, hd⟩ := x _ mp
    obtain ⟨a', o', t', u', c', z', y', n', e', ho', hc', hd'⟩ := x _ mq
    have hQ' : Q' (decide (rk4 (k p.1) < rk4 (k q.1))) s := hQ
    unfold rk4 at hQ'
    generalize k p.1 = kp at p1 p2 p3 p4 hQ' hd ij
    generalize k q.1 = kq at q1 q2 q3 q4 hQ' hd' ij
    rw [e, e'] at ij
    rw [e, e']
    refine PySem.W.kat_lt ho hd ho' hd' ?_
    show PySem.W.KatLex prog w A _ (decide (4 < 4)) _ [(.int kp.1 t, .int kq.1 t'), (.int kp.2 u, .int kq.2 u'), (.int c z, .int c' z'), (y, y')] 0 s
    refine PySem.W.kat_cons (wpAny_eqBool_int ?_)
    refine PySem.W.kat_go (fun e1 => ?_) (fun e1 => ?_)
    · have ex : kp.1 = kq.1 := by simpa using e1
      refine PySem.W.kat_yes (PySem.W.kat_cons (wpAny_eqBool_int ?_))
      refine PySem.W.kat_go (fun e2 => ?_) (fun e2 => ?_)
      · have ey : kp.2 = kq.2 := by simpa using e2
        have same : Value.ref a = Value.ref a' := ij (Prod.ext ex ey)
        cases same
        rw [ho] at ho'
        cases ho'
        have E1 : Data.seq #[Value.int kp.1 t, .int kp.2 u, .int c z, y] n = Data.seq #[Value.int kq.1 t', .int kq.2 u', .int c' z', y'] n' := hd.symm.trans hd'
        injection E1 with E2 _
        have E3 := congrArg Array.toList E2
        simp only [List.cons.injEq, Value.int.injEq] at E3
        obtain ⟨_, _, ⟨rfl, rfl⟩, rfl, _⟩ := E3
        have d : decide (4 * kp.1 + kp.2 < 4 * kq.1 + kq.2) = false := decide_eq_false (by omega)
        rw [d] at hQ'
        refine PySem.W.kat_yes (PySem.W.kat_cons (eqBool_same ?_))
        refine PySem.W.kat_yes (PySem.W.kat_cons (eqBool_same ?_))
        exact PySem.W.kat_yes (PySem.W.kat_nil hQ')
      · have ey : ¬ kp.2 = kq.2 := by simpa using e2
        have d : decide (4 * kp.1 + kp.2 < 4 * kq.1 + kq.2) = decide (kp.2 < kq.2) := decide_eq_decide.mpr (by omega)
        rw [d] at hQ'
        exact PySem.W.kat_no (oneLt_ints _ hQ')
    · have ex : ¬ kp.1 = kq.1 := by simpa using e1
      have d : decide (4 * kp.1 + kp.2 < 4 * kq.1 + kq.2) = decide (kp.1 < kq.1) := decide_eq_decide.mpr (by omega)
      rw [d] at hQ'
      exact PySem.W.kat_no (oneLt_ints _ hQ')
end
end TS
namespace Wb
open PySem PySem.Spec PyProof.Rows L2
/-- sorted(xs), xs a list of gaps' tuples, no two of which lead from and to the same places -/
def rSortG (K : PySem.W.Frag) : List V → Hp → VK → Prop := fun vs H Q => ∃ (a : Addr) (xs : List V) (k : V → Int × Int), vs = [V.ref a] ∧ SqL K H a xs ∧ xs.length < 64 ∧
  (∀ x ∈ xs, ∃ (t : Addr) (q : Int) (y : V), x = .ref t ∧ SqT K H t [.int (k x).1, .int (k x).2, .int q, y] ∧ 0 ≤ (k x).1 ∧ (k x).1 < 4 ∧ 0 ≤ (k x).2 ∧ (k x).2 < 4) ∧ (∀ x ∈ xs, ∀ y ∈ xs, k x = k y → x = y) ∧
  ∀ (ys : List V) (p : Addr), ys.Perm xs → ys.Pairwise (fun x y => TS.rk4 (k x) ≤ TS.rk4 (k y)) → H p = none → Q (.ref p) (upd H p (.lst ys))
theorem bkV_back {us : List Value} (h : ∀ u ∈ us, ∃ a, u = Value.ref a) : ∀ u ∈ us, ∀ v ∈ us, bkV u = bkV v → u = v := fun u hu v hv e => by
  obtain ⟨a, rfl⟩ := h u hu
  obtain ⟨b, rfl⟩ := h v hv
  have e' : V.ref a = V.ref b := e
  cases e'
  rfl
theorem cr_sortG {X : Cx} : CallR X (.builtin "sorted") (rSortG X.K) := by
  intro pins s σ H vs us Q I r h
  obtain ⟨a, xs, k, rfl, hs, h64, hx, inj, q⟩ := h
  obtain ⟨its, rv, hl, hz⟩ := I.list hs
  rw [Vals.ref1 r]
  obtain ⟨e1, e2⟩ := bkV_refs rv fun x m => by
    obtain ⟨t, _, _, e, _⟩ := hx x m
    exact ⟨t, e⟩
  have mem : ∀ v ∈ its, bkV v ∈ xs := fun v hv => by rw [e1]; exact List.mem_map.mpr ⟨_, hv, rfl⟩
  have g4 : ∀ v ∈ its, TS.G4 s.heap v (k (bkV v)) := fun v hv => by
    have hm := mem v hv
    obtain ⟨t, rfl⟩ := e2 v hv
    obtain ⟨t', c, y, e, ht, _⟩ := hx _ hm
    cases e
    obtain ⟨its2, r2, ⟨o, ho, hc, n, hd⟩, _⟩ := I.tuple ht
    cases r2 with
    | cons ra r2 =>
      cases r2 with
      | cons rb r2 =>
        cases r2 with
        | cons rc r2 =>
          cases r2 with
          | cons rd r2 =>
            cases r2
            obtain ⟨t1, rfl⟩ := ra
            obtain ⟨t2, rfl⟩ := rb
            obtain ⟨t3, rfl⟩ := rc
            exact ⟨_, o, t1, t2, c, t3, _, n, rfl, ho, hc, hd⟩
  refine TS.sorted_rank (r := fun v => TS.rk4 (k (bkV v))) hl.isList (by rw [← rv.length]; exact h64) (fun h' kp h2 A' E' Q' hQ => ?_) fun out h1 h2 => ?_
  · refine TS.g4_kind (s := { s with heap := h' }) (k := fun v => k (bkV v)) h2 (fun v hv => (g4 v hv).keeps kp) (fun v hv => ?_) (fun v hv u hu e => ?_) Q' hQ
    · obtain ⟨_, _, _, _, _, b⟩ := hx _ (mem v hv)
      exact b
    · exact bkV_back e2 v hv u hu (inj _ (mem v hv) _ (mem u hu) e)
  · obtain ⟨ep, he'⟩ := PyProof.Rows.sortedAll_at s.heap its out
    have h3 : ∀ u ∈ out.toList, ∃ a, u = Value.ref a := fun u hu => e2 u (h1.mem_iff.mp hu)
    have hp : (out.toList.map bkV).Perm xs := by
      rw [e1]
      exact h1.map bkV
    have hlen : (out.toList.map bkV).length ≤ sizeLine := by
      rw [hp.length_eq]
      exact hz
    refine ⟨.ref _, upd H (s.heap.objs.size + 1) (.lst (out.toList.map bkV)), I.laid (t' := s.toks) (fun _ _ => PyProof.Rows.sortedAll_old) (Nat.le_succ _) ⟨hlen, out.toList, ep, bkV_vals h3, he'⟩, rfl, q _ _ hp ?_ (I.hok.fresh (Nat.le_succ _))⟩
    rw [List.pairwise_map]
    exact h2
/-- sorted(xs), xs a list of unlike words of as many places each -/
def rSortW (K : PySem.W.Frag) : List V → Hp → VK → Prop := fun vs H Q => ∃ (a : Addr) (xs : List V) (ws : List (List Int)) (d : Nat), vs = [V.ref a] ∧ SqL K H a xs ∧ xs.length < 64 ∧ Paired (fun v ns => ∃ t, v = V.ref t ∧ H t = some (.tup (ns.map V.int))) xs ws ∧ (∀ ns ∈ ws, ns.length = d ∧ TS.Bd 4 ns) ∧ ws.Nodup ∧
  ∀ (ys : List V) (us : List (List Int)) (p : Addr), ys.length = xs.length → Paired (fun v ns => ∃ t, v = V.ref t ∧ H t = some (.tup (ns.map V.int))) ys us → us.Perm ws → us.Pairwise (fun u v => TS.code 4 u ≤ TS.code 4 v) → H p = none → Q (.ref p) (upd H p (.lst ys))
theorem cr_sortW {X : Cx} : CallR X (.builtin "sorted") (rSortW X.K) := by
  intro pins s σ H vs us Q I r h
  obtain ⟨a, xs, ws, d, rfl, hs, h64, hp, hb, nd, q⟩ := h
  obtain ⟨its, rv, hl, hz⟩ := I.list hs
  rw [Vals.ref1 r]
  have raw : ∀ {t : Addr} {ns : List Int}, H t = some (.tup (ns.map V.int)) → TS.TupInts s.heap (.ref t) ns := fun ht => tupI_raw I (show SqT X.K H _ _ from .inl (.inl ht))
  have pr : ∀ {xs : List V} {us : List Value} {ws : List (List Int)}, Vals xs us → Paired (fun v ns => ∃ t, v = V.ref t ∧ H t = some (.tup (ns.map V.int))) xs ws →
      us.map (TS.intsOf s.heap) = ws ∧ ∀ u ∈ us, ∃ t ns, u = Value.ref t ∧ H t = some (.tup (ns.map V.int)) ∧ TS.intsOf s.heap u = ns ∧ ns ∈ ws := by
    intro xs us ws rv
    induction rv generalizing ws with
    | nil =>
      intro hp
      cases hp
      exact ⟨rfl, fun u hu => absurd hu List.not_mem_nil⟩
    | cons r1 _ ih =>
      intro hp
      cases hp with
      | cons h1 h2 =>
        obtain ⟨t, rfl, ht⟩ := h1
        cases r1
        obtain ⟨i1, i2⟩ := ih h2
        have e := (raw ht).ints
        refine ⟨by rw [List.map_cons, i1, e], fun u hu => ?_⟩
        rcases List.mem_cons.mp hu with rfl | hu
        · exact ⟨t, _, rfl, ht, e, List.mem_cons_self⟩
        · obtain ⟨t', ns, a1, a2, a3, a4⟩ := i2 u hu
          exact ⟨t', ns, a1, a2, a3, List.mem_cons_of_mem _ a4⟩
  obtain ⟨e1, e2⟩ := pr rv hp
  have xsl : its.length = ws.length := by rw [← e1, List.length_map]
  have xw : xs.length = its.length := rv.length
  have ok : TS.TupsOk s.heap d 4 its := fun v hv => by
    obtain ⟨t, ns, rfl, ht, e, hm⟩ := e2 v hv
    exact ⟨ns, raw ht, hb ns hm⟩
  refine TS.sorted_rank (r := fun v => TS.code 4 (TS.intsOf s.heap v)) hl.isList (by omega) (fun h' kp h2 A' E' Q' hQ => ?_) fun out h1 h2 => ?_
  · have d1 : 1 ≤ d := Nat.pos_of_ne_zero fun z => by
      subst z
      have emp : ∀ ns ∈ ws, ns = [] := fun ns hn => List.eq_nil_of_length_eq_zero (hb ns hn).1
      match ws, xsl, nd, emp with
      | [], l, _, _ => rw [l] at h2; simp at h2
      | [_], l, _, _ => rw [l] at h2; simp at h2
      | x :: y :: r, _, n, em =>
        have zx := em x (by simp)
        have zy := em y (by simp)
        rw [zx, zy] at n
        simp at n
    refine TS.kind_tups (s := { s with heap := h' }) d1 h2 (ok.keeps kp) _ (fun v hv ns t => ?_) Q' hQ
    obtain ⟨ns0, t0, _⟩ := ok v hv
    have e : ns = ns0 := t.ints.symm.trans (t0.keeps kp).ints
    rw [e, t0.ints]
  · obtain ⟨ep, he'⟩ := PyProof.Rows.sortedAll_at s.heap its out
    have h3 : ∀ u ∈ out.toList, ∃ a, u = Value.ref a := fun u hu => by
      obtain ⟨t, _, rfl, _⟩ := e2 u (h1.mem_iff.mp hu)
      exact ⟨t, rfl⟩
    have ol : out.toList.length = its.length := h1.length_eq
    refine ⟨.ref _, upd H (s.heap.objs.size + 1) (.lst (out.toList.map bkV)), I.laid (t' := s.toks) (fun _ _ => PyProof.Rows.sortedAll_old) (Nat.le_succ _) ⟨by rw [List.length_map, ol, ← xw]; exact hz, out.toList, ep, bkV_vals h3, he'⟩, rfl, q _ (out.toList.map (TS.intsOf s.heap)) _ (by rw [List.length_map, ol, xw]) ?_ ?_ ?_ (I.hok.fresh (Nat.le_succ _))⟩
    · have go : ∀ us : List Value, (∀ u ∈ us, u ∈ its) → Paired (fun v ns => ∃ t, v = V.ref t ∧ H t = some (.tup (ns.map V.int))) (us.map bkV) (us.map (TS.intsOf s.heap)) := by
        intro us
        induction us with
        | nil => intro _; exact .nil
        | cons u us ih =>
          intro hu
          obtain ⟨t, ns, rfl, ht, e, _⟩ := e2 u (hu u List.mem_cons_self)
          exact .cons ⟨t, rfl, by rw [e]; exact ht⟩ (ih fun v hv => hu v (List.mem_cons_of_mem _ hv))
      exact go _ fun u hu => h1.mem_iff.mp hu
    · rw [← e1]
      exact h1.map _
    · rw [List.pairwise_map]
      exact h2
end Wb

set_option Elab.async false
set_option linter.all false
set_option maxRecDepth 100000
set_option maxHeartbeats 4000000
namespace TS
open PySem PyProof.Rows
/-- by the code of a tuple's ints -/
def byCode (B : Int) (h : Heap) (v u : Value) : Bool := decide (code B (intsOf h v) < code B (intsOf h u))
theorem byCode_swo (B : Int) (h : Heap) : SrtO.Swo (byCode B h) := by
  constructor
  · intro x y e
    have := of_decide_eq_true e
    exact decide_eq_false (by omega)
  · intro x y z e1 e2
    have a := of_decide_eq_false e1
    have b := of_decide_eq_false e2
    exact decide_eq_false (by omega)
section
variable {prog : Program} {w : World} {A : Around} {E : Value → Shared → Prop} {s : Shared}
theorem words_cmp {d : Nat} {B : Int} {vs : List Value} {h0 : Heap} (x : TupsOk s.heap d B vs) (same : ∀ v ∈ vs, intsOf h0 v = intsOf s.heap v) : SrtO.Cmp prog w A s (tuples' true) (fun p => p.1 ∈ vs) (SrtO.lt2 (byCode B h0)) := by
  intro p q hp hq
  obtain ⟨ns, tp, lp, bp⟩ := x _ hp
  obtain ⟨ms, tq, lq, bq⟩ := x _ hq
  have ep : byCode B h0 p.1 q.1 = decide (code B ns < code B ms) := by
    unfold byCode
    rw [same _ hp, same _ hq, tp.ints, tq.ints]
  show wpAny (model prog w) A (keyLt' (tuples' true) p.1 q.1) (fun r t => t = s ∧ r = byCode B h0 p.1 q.1) (fun _ _ => False) s
  rw [ep]
  obtain ⟨a, xs, e1, ⟨o, o1, o2, n, o3⟩, i⟩ := tp
  obtain ⟨b, ys, e2, ⟨u, u1, u2, m, u3⟩, j⟩ := tq
  rw [e1, e2]
  apply PySem.W.kat_lt o1 o3 u1 u3
  have sz : decide (xs.size < ys.size) = false := by
    have l1 := i.length
    have l2 := j.length
    rw [Array.length_toList] at l1 l2
    exact decide_eq_false (by omega)
  rw [sz]
  exact lex_ints 0 i j (by omega) bp bq ⟨rfl, rfl⟩
theorem words_sortable {a : Addr} {d : Nat} {B : Int} {vs : List Value} (d1 : 1 ≤ d) (h2 : 2 ≤ vs.length) (x : TupsOk s.heap d B vs) (na : ∀ o, s.heap.get? a = some o → o.cls ≠ .type "tuple") : SrtO.SortableO prog w A s a vs (byCode B s.heap) := by
  intro h1 keep
  have kp : ∀ b o, s.heap.get? b = some o → o.cls = .type "tuple" → h1.get? b = some o := fun b o e c => keep b o (fun z => by subst z; exact na o e c) e
  have x1 : TupsOk h1 d B vs := x.keeps kp
  obtain ⟨fs, k1, k2, k3⟩ := firsts_of d1 vs x1
  refine ⟨tuples' true, fun Q E hq => ?_, words_cmp (s := { s with heap := h1 }) x1 fun v hv => ?_⟩
  · refine PySem.W.kat_kind (T := .type "int") k1 (by omega) (fun f hf => ?_) (by rfl) ?_
    · obtain ⟨n, t, rfl⟩ := k3 f hf
      exact PySem.W.Looks.now
    · have e : (Value.type "int" != Value.type "tuple") = true := by first | decide +kernel | rfl | decide
      rw [e]
      exact hq
  · obtain ⟨ns, t, _⟩ := x v hv
    rw [t.ints]
    exact (t.keeps kp).ints.symm
end
end TS
namespace Wb
open PySem PySem.Spec PyProof.Rows L2
/-- sorted(xs), xs a list of words of as many places each, however many -/
def rSortL (K : PySem.W.Frag) : List V → Hp → VK → Prop := fun vs H Q => ∃ (a : Addr) (xs : List V) (ws : List (List Int)) (d : Nat) (B : Int), vs = [V.ref a] ∧ SqL K H a xs ∧ (xs.length < 2 ∨ 1 ≤ d) ∧ Paired (fun v ns => ∃ t, v = V.ref t ∧ H t = some (.tup (ns.map V.int))) xs ws ∧ (∀ ns ∈ ws, ns.length = d ∧ TS.Bd B ns) ∧
  ∀ (ys : List V) (us : List (List Int)) (p : Addr), ys.length = xs.length → Paired (fun v ns => ∃ t, v = V.ref t ∧ H t = some (.tup (ns.map V.int))) ys us → us.Perm ws → us.Pairwise (fun u v => TS.code B u ≤ TS.code B v) → H p = none → Q (.ref p) (upd H p (.lst ys))
theorem cr_sortL {X : Cx} : CallR X (.builtin "sorted") (rSortL X.K) := by
  intro pins s σ H vs us Q I r h
  obtain ⟨a, xs, ws, d, B, rfl, hs, hd, hp, hb, q⟩ := h
  obtain ⟨its, rv, hl, hz⟩ := I.list hs
  rw [Vals.ref1 r]
  have raw : ∀ {t : Addr} {ns : List Int}, H t = some (.tup (ns.map V.int)) → TS.TupInts s.heap (.ref t) ns := fun ht => tupI_raw I (show SqT X.K H _ _ from .inl (.inl ht))
  have pr : ∀ {xs : List V} {us : List Value} {ws : List (List Int)}, Vals xs us → Paired (fun v ns => ∃ t, v = V.ref t ∧ H t = some (.tup (ns.map V.int))) xs ws →
      us.map (TS.intsOf s.heap) = ws ∧ ∀ u ∈ us, ∃ t ns, u = Value.ref t ∧ H t = some (.tup (ns.map V.int)) ∧ TS.intsOf s.heap u = ns ∧ ns ∈ ws := by
    intro xs us ws rv
    induction rv generalizing ws with
    | nil =>
      intro hp
      cases hp
      exact ⟨rfl, fun u hu => absurd hu List.not_mem_nil⟩
    | cons r1 _ ih =>
      intro hp
      cases hp with
      | cons h1 h2 =>
        obtain ⟨t, rfl, ht⟩ := h1
        cases r1
        obtain ⟨i1, i2⟩ := ih h2
        have e := (raw ht).ints
        refine ⟨by rw [List.map_cons, i1, e], fun u hu => ?_⟩
        rcases List.mem_cons.mp hu with rfl | hu
        · exact ⟨t, _, rfl, ht, e, List.mem_cons_self⟩
        · obtain ⟨t', ns, a1, a2, a3, a4⟩ := i2 u hu
          exact ⟨t', ns, a1, a2, a3, List.mem_cons_of_mem _ a4⟩
  obtain ⟨e1, e2⟩ := pr rv hp
  have xw : xs.length = its.length := rv.length
  have ok : TS.TupsOk s.heap d B its := fun v hv => by
    obtain ⟨t, ns, rfl, ht, e, hm⟩ := e2 v hv
    exact ⟨ns, raw ht, hb ns hm⟩
  refine SrtO.sorted_ord (TS.byCode_swo B s.heap) hl.isList (by omega) (fun h2 h1 a1 ha kk => ?_) fun out s1 s2 => ?_
  · have d1 : 1 ≤ d := by
      rcases hd with z | z
      · omega
      · exact z
    have ok1 : TS.TupsOk h1 d B its := ok.keeps fun b o e _ => (kk b o e).2
    have z := TS.words_sortable (prog := X.prog) (w := X.w) (A := X.A.in1.in1) (s := { s with heap := h1 }) (a := a1) d1 h2 ok1 (fun o e => by
      have e' : some o = some (seqObj "list" its.toArray 0) := e.symm.trans ha
      cases e'
      intro c
      exact absurd (Value.type.inj c) (by decide))
    intro h3 k3
    obtain ⟨κ, k4, k5⟩ := z h3 k3
    refine ⟨κ, k4, fun p q hp hq => ?_⟩
    have w5 := k5 p q hp hq
    have same : ∀ v ∈ its, TS.intsOf h1 v = TS.intsOf s.heap v := fun v hv => by
      obtain ⟨ns, t, _⟩ := ok v hv
      rw [t.ints]
      exact (t.keeps fun b o e _ => (kk b o e).2).ints
    have ee : SrtO.lt2 (TS.byCode B s.heap) p q = SrtO.lt2 (TS.byCode B h1) p q := by
      show TS.byCode B s.heap p.1 q.1 = TS.byCode B h1 p.1 q.1
      unfold TS.byCode
      rw [same _ hp, same _ hq]
    rw [ee]
    exact w5
  · obtain ⟨ep, he'⟩ := PyProof.Rows.sortedAll_at s.heap its out.toArray
    have h3 : ∀ u ∈ out, ∃ a, u = Value.ref a := fun u hu => by
      obtain ⟨t, _, rfl, _⟩ := e2 u (s2.perm.mem_iff.mp hu)
      exact ⟨t, rfl⟩
    have ol : out.length = its.length := s2.perm.length_eq
    refine ⟨.ref _, upd H (s.heap.objs.size + 1) (.lst (out.map bkV)), I.laid (t' := s.toks) (fun _ _ => PyProof.Rows.sortedAll_old) (Nat.le_succ _) ⟨by rw [List.length_map, ol, ← xw]; exact hz, out, ep, bkV_vals h3, by simpa using he'⟩, rfl, q _ (out.map (TS.intsOf s.heap)) _ (by rw [List.length_map, ol, xw]) ?_ ?_ ?_ (I.hok.fresh (Nat.le_succ _))⟩
    · have go : ∀ us : List Value, (∀ u ∈ us, u ∈ its) → Paired (fun v ns => ∃ t, v = V.ref t ∧ H t = some (.tup (ns.map V.int))) (us.map bkV) (us.map (TS.intsOf s.heap)) := by
        intro us
        induction us with
        | nil => intro _; exact .nil
        | cons u us ih =>
          intro hu
          obtain ⟨t, ns, rfl, ht, e, _⟩ := e2 u (hu u List.mem_cons_self)
          exact .cons ⟨t, rfl, by rw [e]; exact ht⟩ (ih fun v hv => hu v (List.mem_cons_of_mem _ hv))
      exact go _ fun u hu => s2.perm.mem_iff.mp hu
    · rw [← e1]
      exact s2.perm.map _
    · rw [List.pairwise_map]
      exact s1.imp fun {x y} h => Int.not_lt.mp (of_decide_eq_false h)
end Wb

set_option Elab.async false
set_option linter.all false
set_option maxRecDepth 100000
set_option maxHeartbeats 4000000
namespace TS
open PySem PyProof.Rows
section
variable {prog : Program} {w : World} {A : Around} {E : Value → Shared → Prop} {s : Shared}
/-- sorted of a tuple, by whatever order its things have -/
theorem sorted_tupO {l : Addr} {o : Obj} {vs : List Value} {n : Nat} {ltv : Value → Value → Bool} {Q : Value → Shared → Prop} (O : SrtO.Swo ltv) (ho : s.heap.get? l = some o) (hc : o.cls = .type "tuple") (hd : o.data = .seq vs.toArray n) (hz : vs.length ≤ sizeLine)
    (can : 2 ≤ vs.length → ∀ (h₁ : Heap) (a : Addr), h₁.get? a = some (seqObj "list" vs.toArray 0) → (∀ b o, s.heap.get? b = some o → b ≠ a ∧ h₁.get? b = some o) → SrtO.SortableO prog w A.in1.in1 { s with heap := h₁ } a vs ltv)
    (fin : ∀ (h' : Heap) (d : Addr) (out : List Value), SrtO.Srtd ltv out → SrtO.Stb ltv out vs → (∀ b o, s.heap.get? b = some o → h'.get? b = some o) → s.heap.get? d = none → (∃ m, h'.get? d = some (seqObj "list" out.toArray m)) → Q (.ref d) { s with heap := h' }) :
    wpAny (model prog w) A (call (.builtin "sorted") [.ref l]) Q E s := by
  refine Calls.call_function_entry kind_sorted plain_sorted entry_sorted (args_sorted1 _) ?_
  unfold Builtin.«sorted»
  refine wpAny_bind (m := checkCount "sorted" 1 1 _) (wpAny_pure ?_)
  refine wpAny_bind (PySem.wpAny_collect_seq l (.inr rfl) ho hc hd (fun h1 kp => ?_) (by rw [List.size_toArray]; exact hz))
  rw [List.toList_toArray]
  refine wpAny_bind (wpAny_newList ?_ hz)
  have grow : s.heap.get? h1.objs.size = none := by
    cases e : s.heap.get? h1.objs.size with
    | none => rfl
    | some u => exact absurd (Heap.lt_size (kp _ _ e)) (Nat.lt_irrefl _)
  have hoL : (h1.push (seqObj "list" vs.toArray 0)).get? h1.objs.size = some (seqObj "list" vs.toArray 0) := Heap.get?_push_size _ rfl
  have keep : ∀ b o, s.heap.get? b = some o → b ≠ h1.objs.size ∧ (h1.push (seqObj "list" vs.toArray 0)).get? b = some o := fun b o q => by
    have q1 := kp b o q
    exact ⟨Nat.ne_of_lt (Heap.lt_size q1), Heap.get?_push_of_some _ q1⟩
  show wpAny _ _ _ _ _ { s with heap := h1.push (seqObj "list" vs.toArray 0) }
  refine wpAny_bind (wpAny_holding (wpAny_call_entry slot_list_sort ⟨_, hoL, rfl⟩ entry_list_sort (SrtO.list_sort_ord O hoL hz (fun h2 => can h2 _ _ hoL keep) fun out hs hb => ⟨_, rfl, ?_⟩) (args_list_sort _)))
  refine wpAny_pure ⟨_, rfl, fin _ _ out hs hb (fun b o q => ?_) grow (sortedHeap_at hoL)⟩
  obtain ⟨k1, k2⟩ := keep b o q
  rw [sortedHeap_old k1 (Heap.lt_size k2)]
  exact k2
end
end TS
namespace Wb
open PySem PySem.Spec PyProof.Rows L2
/-- sorted(t), t a tuple of ints, however many -/
def rSortIT (K : PySem.W.Frag) : List V → Hp → VK → Prop := fun vs H Q => ∃ (a : Addr) (ns : List Int), vs = [V.ref a] ∧ SqT K H a (ns.map V.int) ∧
  ∀ (us : List Int) (p : Addr), us.Perm ns → us.Pairwise (· ≤ ·) → H p = none → Q (.ref p) (upd H p (.lst (us.map V.int)))
theorem cr_sortIT {X : Cx} : CallR X (.builtin "sorted") (rSortIT X.K) := by
  intro pins s σ H vs us Q I r h
  obtain ⟨a, ns, rfl, hs, q⟩ := h
  obtain ⟨its, rv, ⟨o, ho, hc, n, hd⟩, hz⟩ := I.tuple hs
  rw [Vals.ref1 r]
  have hi := rv.ints
  refine TS.sorted_tupO SrtO.swo_int ho hc hd (by rw [← rv.length]; exact hz) (fun h2 h₁ a' _ _ => SrtO.ints_sortable hi h2) fun h' d out h1 h2 kp hsz hat => ?_
  obtain ⟨k1, k2, k3⟩ := SrtO.ints_out hi h1 h2
  have hlen : ((out.map SrtO.iv).map V.int).length ≤ sizeLine := by
    rw [List.length_map, k2.length_eq]
    rw [List.length_map] at hz
    exact hz
  obtain ⟨ep, he⟩ := hat
  exact ⟨.ref _, upd H d (.lst ((out.map SrtO.iv).map V.int)), I.laidN (t' := s.toks) kp hsz (I.hok.gone hsz) ⟨hlen, out, ep, vals_of_ints k1, he⟩, rfl, q _ _ k2 k3 (I.hok.gone hsz)⟩
end Wb

set_option Elab.async false
set_option linter.all false
set_option maxRecDepth 100000
set_option maxHeartbeats 4000000
set_option pp.maxSteps 600
set_option pp.deepTerms false
namespace Wb
open PySem PySem.Spec PyProof.Rows L2
theorem inAll_nil : InAll [] [] := ⟨rfl, fun i n m h => by simp at h⟩
theorem inAll_snoc {xs ms : List Int} {x m : Int} (h : InAll xs ms) (h0 : 0 ≤ x) (h1 : x < m) : InAll (xs ++ [x]) (ms ++ [m]) := by
  refine ⟨by rw [List.length_append, List.length_append, h.1]; rfl, fun i a b ha hb => ?_⟩
  by_cases hi : i < xs.length
  · rw [List.getElem?_append_left hi] at ha
    rw [List.getElem?_append_left (by rw [← h.1]; exact hi)] at hb
    exact h.2 i a b ha hb
  · rw [List.getElem?_append_right (by omega)] at ha
    rw [List.getElem?_append_right (by rw [← h.1]; omega)] at hb
    by_cases e : i - xs.length = 0
    · rw [e] at ha
      rw [← h.1, e] at hb
      cases ha
      cases hb
      exact ⟨h0, h1⟩
    · rw [List.getElem?_eq_none (by simp; omega)] at ha
      cases ha
theorem inAll_take {xs ms : List Int} (h : InAll xs ms) (k : Nat) : InAll (xs.take k) (ms.take k) := by
  refine ⟨by rw [List.length_take, List.length_take, h.1], fun i a b ha hb => ?_⟩
  rw [List.getElem?_take] at ha hb
  split at ha
  · rename_i hk
    rw [if_pos hk] at hb
    exact h.2 i a b ha hb
  · cases ha
/-- [draw(pen, one) for one in a list of ints] -/
theorem lc_draws {K : PySem.W.Frag} {vs : List Nat} {i : Nat} {σ : L2.St} {H : Hp} {Q : VK} {tl : TE} {wds : List Int} {p c : Addr} {T : Int} (hp : PenAt H p c T)
    (ha : ∀ Q' : VK, (∀ a H1, Exx p H H1 → PenAt H1 p c T → SqL K H1 a (wds.map V.int) → a ≠ p → Q' (.ref a) H1) → tl σ H Q')
    (hT : T ≤ 9000000) (hw : ∀ x ∈ wds, 1 ≤ x ∧ x ≤ 1000000) (hl : wds.length ≤ 100)
    (h0 : ∀ x, ((wipe σ vs).set i (some x))[0]? = some (some (.ref p))) (hi : ∀ x, ((wipe σ vs).set i (some x))[i]? = some (some x)) (hwp : ∀ x, wipe ((wipe σ vs).set i (some x)) vs = wipe σ vs)
    (q : ∀ H' D xs, Exx p H H' → PenAt H' p c (T + (wds.length : Nat)) → H D = none → H' D = some (.lst (xs.map V.int)) → InAll xs wds → Q (.ref D) H') :
    tLc (iList K tl) (gName i) tYes (tCall spDraw [] E0 (tCons (tVar 0) (tCons (tVar i) tNil))) vs σ H Q := by
  refine ha _ fun a H1 x1 hp1 ha1 nap => ⟨a, rfl, ⟨_, ha1⟩, fun D hD => ?_⟩
  have nDp : D ≠ p := hp1.new1 hD
  have nDc : D ≠ c := hp1.new2 hD
  refine lc_list (K := K) (a := a) (xs := wds.map V.int) (fun m H' => ∃ xs : List Int, Exx p H1 H' ∧ PenAt H' p c (T + (m : Nat)) ∧ H' D = some (.lst (xs.map V.int)) ∧ InAll xs (wds.take m)) ⟨[], Exx.ex (Evl.Ex.new hD), ?_, upd_same, inAll_nil⟩ ?_ ?_ ?_
  · have := hp1.put (o := .lst []) nDp nDc
    simpa using this
  · rintro m H' _ ⟨_, x, _⟩
    exact x.l nap ha1
  · rintro m x H2 hm ⟨xs, x2, hp2, hD2, hin⟩
    obtain ⟨wd, hwd, rfl⟩ := get_map_int hm
    have ml : m < wds.length := (List.getElem?_eq_some_iff.mp hwd).1
    obtain ⟨w1, w2⟩ := hw wd (List.mem_of_getElem? hwd)
    refine ⟨hwp _, ?_⟩
    refine ⟨.ref p, h0 _, .int wd, hi _, p, c, wd, _, rfl, hp2, w1, w2, by omega, fun r H3 r0 r1 x3 hp3 => ?_⟩
    have hD3 := x3 _ _ nDp hD2
    have xl : xs.length = m := by
      have := hin.1
      rw [List.length_take] at this
      omega
    refine ⟨_, hD3, Nat.lt_of_le_of_lt (by rw [List.length_map, xl]; omega : (xs.map V.int).length ≤ 100) (by decide), xs ++ [r], (x2.trans x3).mut hD, (hp3.put nDp nDc).mono (by omega), ?_, ?_⟩
    · rw [upd_same, List.map_append]
      rfl
    · rw [take_succ_get hwd]
      exact inAll_snoc hin r0 r1
  · rintro H2 ⟨xs, x2, hp2, hD2, hin⟩
    rw [List.length_map] at hp2 hin
    rw [List.take_length] at hin
    exact q H2 D xs (x1.trans x2) hp2 (fresh_exx x1 hp1.here hD) hD2 hin
def rTupK (K : PySem.W.Frag) : List V → Hp → VK → Prop := fun xs H Q => ∃ p ys, xs = [.ref p] ∧ ((SqL K H p ys ∧ ∀ l, H l = none → Q (.ref l) (upd H l (.tup ys))) ∨ (SqT K H p ys ∧ Q (.ref p) H))
theorem call_tupK {X : Cx} : CallR X (.type "tuple") (rTupK X.K) := call_tuple_of
/-! ### codes and the tuples' order -/
theorem lex_of_code {B : Int} : ∀ {u w : List Int}, u.length = w.length → TS.Bd B u → TS.Bd B w → TS.code B u ≤ TS.code B w → u ≠ w → HT.lexLt u w = true
  | [], [], _, _, _, _, ne => absurd rfl ne
  | x :: u, y :: w, hl, hu, hw, hc, ne => by
    have hl' : u.length = w.length := by simpa using hl
    have hu' : TS.Bd B u := fun m hm => hu m (List.mem_cons_of_mem _ hm)
    have hw' : TS.Bd B w := fun m hm => hw m (List.mem_cons_of_mem _ hm)
    rw [HT.lexLt_cons]
    by_cases e : x = y
    · subst e
      rw [if_pos rfl]
      refine lex_of_code hl' hu' hw' ?_ (fun z => ne (by rw [z]))
      apply Int.not_lt.mp
      intro z
      have := (TS.code_same (d := x) hl'.symm).mpr z
      omega
    · rw [if_neg e]
      apply decide_eq_true
      apply Int.not_le.mp
      intro z
      have := TS.code_lt hl'.symm hw' hu' (show y < x by omega)
      omega
  | [], _ :: _, hl, _, _, _, _ => by simp at hl
  | _ :: _, [], hl, _, _, _, _ => by simp at hl
theorem nodup_le {α : Type} [DecidableEq α] : ∀ {xs ys : List α}, xs.Nodup → (∀ x ∈ xs, x ∈ ys) → xs.length ≤ ys.length
  | [], _, _, _ => Nat.zero_le _
  | x :: xs, ys, hn, h => by
    rw [List.nodup_cons] at hn
    have hx : x ∈ ys := h x List.mem_cons_self
    have ih := nodup_le (xs := xs) (ys := ys.erase x) hn.2 (fun y hy => (List.mem_erase_of_ne (fun (e : y = x) => hn.1 (by rw [← e]; exact hy))).mpr (h y (List.mem_cons_of_mem _ hy)))
    rw [List.length_erase_of_mem hx] at ih
    have := List.length_pos_of_mem hx
    rw [List.length_cons]
    omega
theorem le_sum : ∀ {xs : List Nat} {x : Nat}, x ∈ xs → x ≤ xs.sum
  | y :: xs, x, h => by
    rw [List.sum_cons]
    rcases List.mem_cons.mp h with rfl | h
    · exact Nat.le_add_right _ _
    · have := le_sum h
      omega
theorem keys_of {K : PySem.W.Frag} {H : Hp} : ∀ {vs : List V} {ws : List Word}, Paired (Wd K H) vs ws → ∃ ks : List (Addr × List Int), vs = ks.map (fun p => V.ref p.1) ∧ ks.map (·.2) = ws ∧ ∀ p ∈ ks, H p.1 = some (.tup (p.2.map V.int))
  | [], [], _ => ⟨[], rfl, rfl, fun p hp => (by cases hp)⟩
  | v :: vs, w :: ws, h => by
    cases h with
    | cons r t =>
      obtain ⟨ks, h1, h2, h3⟩ := keys_of t
      obtain ⟨a, rfl, ha⟩ := r
      refine ⟨(a, w) :: ks, by rw [h1]; rfl, by rw [← h2]; rfl, fun p hp => ?_⟩
      rcases List.mem_cons.mp hp with rfl | hp
      · exact ha
      · exact h3 p hp
theorem rows_of_keys {K : PySem.W.Frag} {H : Hp} : ∀ {ks : List (Addr × List Int)}, (∀ p ∈ ks, H p.1 = some (.tup (p.2.map V.int))) → Paired (Wd K H) (ks.map (fun p => V.ref p.1)) (ks.map (·.2))
  | [], _ => .nil
  | k :: ks, h => .cons ⟨k.1, rfl, h k List.mem_cons_self⟩ (rows_of_keys fun p hp => h p (List.mem_cons_of_mem _ hp))
theorem take_map_succ {bases : List Word} {m : Nat} {b : Word} (k : Nat) (h : bases[m]? = some b) : (bases.take (m + 1)).map (fun u => u.take k) = (bases.take m).map (fun u => u.take k) ++ [b.take k] := by
  rw [take_succ_get h, List.map_append]
  rfl
theorem tcb1 {r : List V → Hp → VK → Prop} {X : TE} {σ : L2.St} {H : Hp} {Q : VK} (h : X σ H (fun x H1 => r [x] H1 Q)) : tCB r (tCons X tNil) σ H Q := h
theorem tcons1 {X : TE} {σ : L2.St} {H : Hp} {Q : List V → Hp → Prop} (h : X σ H (fun x H1 => Q [x] H1)) : tCons X tNil σ H Q := h
theorem tyes1 {σ : L2.St} {H : Hp} {E F : Hp → Prop} (h : E H) : tYes σ H (fun b H3 => if b = true then E H3 else F H3) := h
end Wb

set_option Elab.async false
set_option linter.all false
set_option maxRecDepth 100000
set_option maxHeartbeats 4000000
set_option pp.maxSteps 600
set_option pp.deepTerms false
namespace Wb
open PySem PySem.Spec PyProof.Rows L2
/-! ### data that is small: it can be compared and written -/
structure Fine (d : PyData) (n L : Nat) : Prop where
  lay : d.canLay0 = true
  sho : d.showable = true
  dep : d.depth ≤ n
  len : d.shown.length ≤ L
structure FineAll (ds : List PyData) (n S : Nat) : Prop where
  lay : PyData.canLayAll0 ds = true
  sho : PyData.showableAll ds = true
  dep : PyData.depthAll ds ≤ n
  len : piled (PyData.shownAll ds) ≤ S
theorem FineAll.nil {n : Nat} : FineAll [] n 0 := ⟨rfl, rfl, Nat.zero_le _, Nat.le_refl _⟩
theorem FineAll.cons {d : PyData} {ds : List PyData} {n L S : Nat} (h : Fine d n L) (t : FineAll ds n S) : FineAll (d :: ds) n (L + 2 + S) := by
  obtain ⟨a1, a2, a3, a4⟩ := h
  obtain ⟨b1, b2, b3, b4⟩ := t
  refine ⟨by simp [PyData.canLayAll0, a1, b1], by simp [PyData.showableAll, a2, b2], by simp only [PyData.depthAll]; omega, ?_⟩
  simp only [PyData.shownAll, piled_cons]
  omega
theorem FineAll.rep {n B : Nat} : ∀ {ds : List PyData}, (∀ d ∈ ds, Fine d n B) → FineAll ds n (ds.length * (B + 2))
  | [], _ => by simpa using FineAll.nil
  | d :: ds, h => by
    have := FineAll.cons (h d List.mem_cons_self) (FineAll.rep fun d' hd => h d' (List.mem_cons_of_mem _ hd))
    rw [List.length_cons, Nat.succ_mul, Nat.add_comm]
    exact this
theorem FineAll.mono {ds : List PyData} {n S S' : Nat} (h : FineAll ds n S) (l : S ≤ S') : FineAll ds n S' := ⟨h.1, h.2, h.3, Nat.le_trans h.4 l⟩
theorem Fine.mono {d : PyData} {n n' L L' : Nat} (h : Fine d n L) (a : n ≤ n') (b : L ≤ L') : Fine d n' L' := ⟨h.1, h.2, Nat.le_trans h.3 a, Nat.le_trans h.4 b⟩
theorem join_le (ts : List Str) : (Str.join ", " ts).length ≤ piled ts := by
  cases ts with
  | nil => exact Nat.zero_le _
  | cons t ts =>
    have := join_length_add (t :: ts) (by simp)
    omega
theorem textFrom_le : ∀ (ts : List Str) (k : Nat) (acc : Str), (textFrom k acc ts).length ≤ acc.length + piled ts
  | [], k, acc => by show acc.length ≤ _; omega
  | t :: ts, k, acc => by
    have h := textFrom_le ts (k + 1) (acc ++ (if k > 0 then ", " else "" : String) ++ t)
    have e : (acc ++ (if k > 0 then ", " else "" : String) ++ t).length = acc.length + (if k > 0 then 2 else 0) + t.length := by
      rw [strLen_append, strLen_append]
      split <;> rfl
    have e2 : (if k > 0 then 2 else 0 : Nat) ≤ 2 := by split <;> omega
    rw [piled_cons]
    show (textFrom (k + 1) _ ts).length ≤ _
    omega
theorem fine_tup {ds : List PyData} {n S : Nat} (h : FineAll ds n S) : Fine (.tuple ds) (n + 1) (S + 3) := by
  obtain ⟨b1, b2, b3, b4⟩ := h
  refine ⟨by simpa only [PyData.canLay0] using b1, by simpa only [PyData.showable] using b2, by simp only [PyData.depth]; omega, ?_⟩
  simp only [PyData.shown]
  unfold tupleText
  rw [strLen_append, strLen_append]
  have e1 : ((("(" : String) : Str)).length = 1 := rfl
  have e3 : (((if (PyData.shownAll ds).length == 1 then ",)" else ")" : String) : Str)).length ≤ 2 := by split <;> decide
  have := join_le (PyData.shownAll ds)
  omega
theorem fine_lst {ds : List PyData} {n S : Nat} (h : FineAll ds n S) : Fine (.list ds) (n + 1) (S + 3) := by
  obtain ⟨b1, b2, b3, b4⟩ := h
  refine ⟨by simpa only [PyData.canLay0] using b1, by simpa only [PyData.showable] using b2, by simp only [PyData.depth]; omega, ?_⟩
  simp only [PyData.shown]
  unfold listText
  rw [strLen_append]
  have e1 : ((("]" : String) : Str)).length = 1 := rfl
  have e2 : ((("[" : String) : Str)).length = 1 := rfl
  have := textFrom_le (PyData.shownAll ds) 0 "["
  omega
theorem fine_int {i : Int} (h : i.natAbs < 10 ^ 7) : Fine (.int i) 0 8 := by
  refine ⟨by simp only [PyData.canLay0], ?_, by simp only [PyData.depth]; omega, ?_⟩
  · simp only [PyData.showable]
    refine decide_eq_true ?_
    by_cases z : i.natAbs = 0
    · rw [z]; decide
    · refine (Nat.log2_lt z).mpr (Nat.lt_of_lt_of_le h ?_)
      exact Nat.le_trans (show 10 ^ 7 ≤ 2 ^ 24 by decide) (Nat.pow_le_pow_right (by decide) (by decide))
  · simp only [PyData.shown]
    rw [PySem.ofString_length]
    exact int_text_length_le10 (k := 7) (by decide) h
theorem Fine.shaped {d : PyData} {n L : Nat} (h : Fine d n L) (hn : n ≤ 64) : SeqAt.shaped d = true := by
  unfold SeqAt.shaped
  rw [h.lay, Bool.true_and]
  exact decide_eq_true (Nat.le_trans h.dep hn)
/-! ### words, gaps, bolts, locks, steps as data -/
def dW (w : Word) : PyData := .tuple (w.map .int)
def dWs (ws : List Word) : PyData := .tuple (ws.map dW)
def dG (g : Gap) : PyData := .tuple [.int g.frm, .int g.to_, .int g.price, dWs g.ways]
def dGs (gs : List Gap) : PyData := .tuple (gs.map dG)
def dB (b : Bolt) : PyData := .tuple [.int b.many, dGs b.gaps]
def dL (l : Lock) : PyData := .tuple (l.map dB)
def dT (t : Tr3) : PyData := .tuple [.int t.frm, .int t.to_, .int t.price]
section
variable {K : PySem.W.Frag} {H : Hp}
theorem dp_all {α : Type} {F : V → α → Prop} {f : α → PyData} (h : ∀ v x, F v x → Dp K H v (f x)) : ∀ {vs : List V} {xs : List α}, Paired F vs xs → DpAll K H vs (xs.map f)
  | _, _, .nil => .nil
  | _, _, .cons r t => .cons (h _ _ r) (dp_all h t)
theorem dp_W {v : V} {u : Word} (h : Wd K H v u) : Dp K H v (dW u) := by
  obtain ⟨a, rfl, ha⟩ := h
  exact .tup (.inl (.inl ha)) (dp_ints u)
theorem dp_G {v : V} {g : Gap} (h : GapAt K H v g) : Dp K H v (dG g) := by
  obtain ⟨a, b, ws, rfl, h1, h2, h3⟩ := h
  exact .tup h1 (.cons (.int _) (.cons (.int _) (.cons (.int _) (.cons (.tup h2 (dp_all (F := Wd K H) (f := dW) (fun _ _ => dp_W) h3)) .nil))))
theorem dp_B {v : V} {b : Bolt} (h : BoltAt K H v b) : Dp K H v (dB b) := by
  obtain ⟨a, c, gs, rfl, h1, h2, h3⟩ := h
  exact .tup h1 (.cons (.int _) (.cons (.tup h2 (dp_all (F := GapAt K H) (f := dG) (fun _ _ => dp_G) h3)) .nil))
theorem dp_L {v : V} {l : Lock} (h : LockAt K H v l) : Dp K H v (dL l) := by
  obtain ⟨a, bs, rfl, h1, h2⟩ := h
  exact .tup h1 (dp_all (F := BoltAt K H) (f := dB) (fun _ _ => dp_B) h2)
theorem dp_T {v : V} {t : Tr3} (h : TrAt H v t) : Dp K H v (dT t) := by
  obtain ⟨a, rfl, ha⟩ := h
  exact .tup (.inl (.inl ha)) (.cons (.int _) (.cons (.int _) (.cons (.int _) .nil)))
end
theorem fine_W {u : Word} {B : Int} {n : Nat} (hb : ∀ x ∈ u, 0 ≤ x ∧ x < B) (hB : B ≤ 10) (hn : u.length ≤ n) : Fine (dW u) 1 (10 * n + 3) := by
  have h : FineAll (u.map PyData.int) 0 ((u.map PyData.int).length * (8 + 2)) := FineAll.rep fun d hd => by
    obtain ⟨x, hx, rfl⟩ := List.mem_map.mp hd
    have := hb x hx
    have h10 : x.natAbs < 10 := by omega
    exact fine_int (Nat.lt_trans h10 (by decide))
  refine (fine_tup h).mono (Nat.le_refl _) ?_
  rw [List.length_map]
  omega
theorem fine_small {x : Int} (h0 : 0 ≤ x) (h1 : x ≤ 1000000) : Fine (.int x) 0 8 := fine_int (by
  have h : x.natAbs ≤ 1000000 := by omega
  exact Nat.lt_of_le_of_lt h (by decide))
theorem manys_le {l : Lock} (ok : LockOk l) {k : Nat} {b : Bolt} (h : l[k]? = some b) : b.many ≤ 4 := (ok.bolts k b h).m1
theorem fine_way {l : Lock} (ok : LockOk l) {k : Nat} {b : Bolt} {g : Gap} {u : Word} (hb : l[k]? = some b) (hg : g ∈ b.gaps) (hu : u ∈ g.ways) : Fine (dW u) 1 603 := by
  have G := (ok.bolts k b hb).gaps g hg
  obtain ⟨h1, h2⟩ := G.words u hu
  have kl : k < l.length := (List.getElem?_eq_some_iff.mp hb).1
  have l60 := ok.n1
  have ml : (manysOf (l.take k)).length = k := by
    unfold manysOf
    rw [List.length_map, List.length_take]
    omega
  refine (fine_W (B := 4) (n := 60) (fun x hx => ?_) (by decide) (by omega)).mono (Nat.le_refl _) (Nat.le_refl _)
  obtain ⟨i, hi⟩ := List.mem_iff_getElem?.mp hx
  have il : i < u.length := (List.getElem?_eq_some_iff.mp hi).1
  have il2 : i < l.length := by omega
  have hm : (manysOf (l.take k))[i]? = some l[i].many := by
    unfold manysOf
    rw [List.getElem?_map, List.getElem?_take, if_pos (by omega), List.getElem?_eq_getElem il2]
    rfl
  have := h2 i x _ hi hm
  have := manys_le ok (List.getElem?_eq_getElem il2)
  omega
theorem fine_G {l : Lock} (ok : LockOk l) {k : Nat} {b : Bolt} {g : Gap} (hb : l[k]? = some b) (hg : g ∈ b.gaps) : Fine (dG g) 3 5000 := by
  have BO := ok.bolts k b hb
  have G := BO.gaps g hg
  have m1 := BO.m1
  have h1 : FineAll (g.ways.map dW) 1 ((g.ways.map dW).length * (603 + 2)) := FineAll.rep fun d hd => by
    obtain ⟨u, hu, rfl⟩ := List.mem_map.mp hd
    exact fine_way ok hb hg hu
  have h2 := fine_tup h1
  have f8 := G.few
  rw [List.length_map] at h2
  have a1 := fine_small G.f0 (show g.frm ≤ 1000000 by have := G.f1; omega)
  have a2 := fine_small G.t0 (show g.to_ ≤ 1000000 by have := G.t1; omega)
  have a3 := fine_small (show 0 ≤ g.price by have := G.p0; omega) G.p1
  have w2 := a1.mono (Nat.zero_le 2) (Nat.le_refl 8)
  refine (fine_tup (FineAll.cons (a1.mono (Nat.zero_le 2) (Nat.le_refl 8)) (FineAll.cons (a2.mono (Nat.zero_le 2) (Nat.le_refl 8)) (FineAll.cons (a3.mono (Nat.zero_le 2) (Nat.le_refl 8)) (FineAll.cons (h2 : Fine (dWs g.ways) 2 _) FineAll.nil))))).mono (Nat.le_refl _) ?_
  omega
theorem codes_len {gs : List Gap} {m : Int} (hm : m ≤ 4) (h : ∀ g ∈ gs, 0 ≤ g.frm ∧ g.frm < m ∧ 0 ≤ g.to_ ∧ g.to_ < m) (r : gs.Pairwise (fun g h => lexLt2 g.frm g.to_ h.frm h.to_)) : gs.length ≤ 16 := by
  have n1 : (gs.map fun g => (4 * g.frm + g.to_).toNat).Nodup := by
    rw [List.Nodup, List.pairwise_map]
    refine List.Pairwise.imp_of_mem ?_ r
    intro g g' hg hg' hl
    have b1 := h g hg
    have b2 := h g' hg'
    rcases hl with hl | ⟨hl, hl'⟩ <;> omega
  have := nodup_le (ys := List.range 16) n1 fun x hx => by
    obtain ⟨g, hg, rfl⟩ := List.mem_map.mp hx
    have b1 := h g hg
    rw [List.mem_range]
    omega
  rw [List.length_map, List.length_range] at this
  exact this
theorem gaps_16 {l : Lock} (ok : LockOk l) {k : Nat} {b : Bolt} (hb : l[k]? = some b) : b.gaps.length ≤ 16 := by
  have BO := ok.bolts k b hb
  exact codes_len BO.m1 (fun g hg => by
    have G := BO.gaps g hg
    exact ⟨G.f0, G.f1, G.t0, G.t1⟩) BO.rise
theorem fine_B {l : Lock} (ok : LockOk l) {k : Nat} {b : Bolt} (hb : l[k]? = some b) : Fine (dB b) 5 81000 := by
  have BO := ok.bolts k b hb
  have h1 : FineAll (b.gaps.map dG) 3 ((b.gaps.map dG).length * (5000 + 2)) := FineAll.rep fun d hd => by
    obtain ⟨g, hg, rfl⟩ := List.mem_map.mp hd
    exact fine_G ok hb hg
  have h2 := fine_tup h1
  have g16 := gaps_16 ok hb
  rw [List.length_map] at h2
  have a1 := fine_small (show 0 ≤ b.many by have := BO.m0; omega) (show b.many ≤ 1000000 by have := BO.m1; omega)
  refine (fine_tup (FineAll.cons (a1.mono (Nat.zero_le 4) (Nat.le_refl 8)) (FineAll.cons (h2 : Fine (dGs b.gaps) 4 _) FineAll.nil))).mono (Nat.le_refl _) ?_
  omega
theorem fine_L {l : Lock} (ok : LockOk l) : Fine (dL l) 6 5000000 := by
  have h1 : FineAll (l.map dB) 5 ((l.map dB).length * (81000 + 2)) := FineAll.rep fun d hd => by
    obtain ⟨b, hb, rfl⟩ := List.mem_map.mp hd
    obtain ⟨k, hk⟩ := List.mem_iff_getElem?.mp hb
    exact fine_B ok hk
  have h2 := fine_tup h1
  have l60 := ok.n1
  rw [List.length_map] at h2
  refine h2.mono (Nat.le_refl _) ?_
  omega
structure TrOk (t : Tr3) : Prop where
  f0 : 0 ≤ t.frm
  f1 : t.frm ≤ 1000000
  t0 : 0 ≤ t.to_
  t1 : t.to_ ≤ 1000000
  p0 : 0 ≤ t.price
  p1 : t.price ≤ 1000000
theorem fine_T {t : Tr3} (h : TrOk t) : Fine (dT t) 1 40 :=
  (fine_tup (FineAll.cons (fine_small h.f0 h.f1) (FineAll.cons (fine_small h.t0 h.t1) (FineAll.cons (fine_small h.p0 h.p1) FineAll.nil)))).mono (Nat.le_refl _) (by decide)
theorem fine_Ts {ts : List Tr3} (h : ∀ t ∈ ts, TrOk t) (n : ts.length ≤ 1000) : Fine (.list (ts.map dT)) 2 50000 := by
  have h1 : FineAll (ts.map dT) 1 ((ts.map dT).length * (40 + 2)) := FineAll.rep fun d hd => by
    obtain ⟨t, ht, rfl⟩ := List.mem_map.mp hd
    exact fine_T (h t ht)
  have h2 := fine_lst h1
  rw [List.length_map] at h2
  refine h2.mono (Nat.le_refl _) ?_
  omega
end Wb

set_option Elab.async false
set_option linter.all false
set_option maxRecDepth 100000
set_option maxHeartbeats 4000000
set_option pp.maxSteps 600
set_option pp.deepTerms false
namespace Wb
open PySem PySem.Spec PyProof.Rows L2
abbrev sShuf : Stmt := topS 39
abbrev sPrc : Stmt := topS 40
abbrev sCuts : Stmt := topS 42
theorem scShuf : FnScope ["_law_pen_here", "_law_bag", "_law_left", "_law_found"] ["_law_pen_here", "_law_bag"] (defScope sShuf) := ⟨rfl, rfl, rfl, by decide +kernel, rfl, by decide +kernel, by decide +kernel⟩
theorem scPrc : FnScope ["_law_pen_here", "_law_dear"] ["_law_pen_here", "_law_dear"] (defScope sPrc) := ⟨rfl, rfl, rfl, by decide +kernel, rfl, by decide +kernel, by decide +kernel⟩
theorem scCuts : FnScope ["_law_words", "_law_many_here", "_law_found", "_law_word"] ["_law_words", "_law_many_here"] (defScope sCuts) := ⟨rfl, rfl, rfl, by decide +kernel, rfl, by decide +kernel, by decide +kernel⟩
/-- words of small ints -/
def SmallW (ws : List Word) : Prop := ∀ w ∈ ws, w.length ≤ 60 ∧ ∀ x ∈ w, 0 ≤ x ∧ x < 10
theorem fine_ws {ws : List Word} (h : SmallW ws) (hl : ws.length ≤ 100) : Fine (.list (ws.map dW)) 2 70000 := by
  have : FineAll (ws.map dW) 1 ((ws.map dW).length * (603 + 2)) := FineAll.rep fun d hd => by
    obtain ⟨w, hw, rfl⟩ := List.mem_map.mp hd
    exact fine_W (B := 10) (n := 60) (h w hw).2 (by decide) (h w hw).1
  refine (fine_lst this).mono (by decide) ?_
  rw [List.length_map]
  omega
theorem dp_ws {K : PySem.W.Frag} {H : Hp} {xs : List V} {ws : List Word} (h : Paired (Wd K H) xs ws) : DpAll K H xs (ws.map dW) := dp_all (F := Wd K H) (f := dW) (fun _ _ => dp_W) h
theorem erase_perm {α : Type} : ∀ {xs : List α} {i : Nat} {x : α}, xs[i]? = some x → (x :: xs.eraseIdx i).Perm xs
  | y :: ys, 0, x, h => by
    cases h
    exact List.Perm.refl _
  | y :: ys, i + 1, x, h => by
    have ih := erase_perm (xs := ys) (i := i) (x := x) h
    exact (List.Perm.swap y x _).trans (ih.cons y)
  | [], _, _, h => by cases h
theorem paired_erase {α β : Type} {R : α → β → Prop} : ∀ {xs : List α} {ys : List β} (i : Nat), Paired R xs ys → Paired R (xs.eraseIdx i) (ys.eraseIdx i)
  | _, _, _, .nil => .nil
  | _, _, 0, .cons _ t => t
  | _, _, i + 1, .cons r t => .cons r (paired_erase i t)
def spShuf (K : PySem.W.Frag) : Sp := fun vs H Q _ => ∃ (p c a : Addr) (T : Int) (xs : List V) (ws : List Word), vs = [.ref p, .ref a] ∧ PenAt H p c T ∧ T ≤ 9000000 ∧ SqL K H a xs ∧ Paired (Wd K H) xs ws ∧ SmallW ws ∧ xs.length ≤ 60 ∧
  ∀ H' z ys us, Exx p H H' → PenAt H' p c (T + 60) → H z = none → H' z = some (.lst ys) → Paired (Wd K H') ys us → us.Perm ws → Q (.ref z) H'
def spPrc : Sp := fun vs H Q _ => ∃ (p c : Addr) (dear T : Int), vs = [.ref p, .int dear] ∧ PenAt H p c T ∧ T ≤ 9000000 ∧ 1 ≤ dear ∧ dear ≤ 1000000 ∧ ∀ i H', 1 ≤ i → i ≤ 1000000 → Exx p H H' → PenAt H' p c (T + 3) → Q (.int i) H'
section
variable {P : Program} {w : World} {K : PySem.W.Frag} {mg : Str → Option Value} {base : Heap}
theorem ok_shuf {f f1 : Addr} {fd fd1 : FuncData} (F : Fun K "_law_shuffled" "_law_shuffled" sShuf f fd) (F1 : Fun K "_law_draw" "_law_draw" sDraw f1 fd1) (b1 : Binds K fd1 ["_law_pen_here", "_law_many_here"] []) (g1 : mg "_law_draw" = some (.ref f1)) (B : Bi mg) :
    FnOk P w K mg base CX0 2 f fd ["_law_pen_here", "_law_bag"] (spShuf K) := by
  have G1 : FnOk P w K mg base CX0 1 f1 fd1 ["_law_pen_here", "_law_many_here"] spDraw := ok_draw F1 B
  refine F.ok scShuf (fun vs H Q E h => ?_) (fun cdv A outer s H vs Q E hr h => ?_)
  · obtain ⟨p, c, a, T, xs, ws, rfl, _⟩ := h; rfl
  · obtain ⟨p, c, a, T, xs, ws, rfl, hp, T9, ha, hxs, sm, x60, q⟩ := h
    refine ⟨_, pss_cons (ps_par (by rfl) scShuf.nd (i := 2) (j := 3) rfl rfl (by decide) rfl rfl (pa_cons (pe_callTy call_list_of (by rfl) B.list PyProof.Rows.boot_list (pa_cons (pv 1) pa_nil)) (pa_cons (pe_lst pa_nil) pa_nil)) (by rfl))
      (pss_cons (ps_while PassesOwn.never (pt_cmpR (op_neD hr.units) (pv 2) (pe_lst pa_nil) (nomark _))
        (pss_one (ps_expr (pe_bm PySem.F.plainAttrs_list PySem.F.slot_list_append PySem.F.type_list_append mt_append (pv 3)
          (pa_cons (pe_bm PySem.F.plainAttrs_list PySem.F.slot_list_pop PySem.F.type_list_pop mt_popAt (pv 2) (pa_cons (pe_call G1 hr (by rfl) g1 F1.kp b1 .nil pass0 (pa_cons (pv 0) (pa_cons (pe_callB call_len_seq (by rfl) B.len PySem.boot_len (pa_cons (pv 2) pa_nil)) pa_nil))) pa_nil)) pa_nil)))))
      (pss_one (ps_ret (pv 3)))), ?_⟩
    have xl : xs.length = ws.length := Paired.len hxs
    refine ⟨.ref a, rfl, a, xs, rfl, .inl ha, fun l nl => ?_⟩
    have e1 := Evl.Ex.new (o := .lst xs) nl
    have g1' : (upd H l (.lst xs)) l = some (.lst xs) := upd_same
    have nlp : l ≠ p := hp.new1 nl
    have nlc : l ≠ c := hp.new2 nl
    have hp1 := hp.ex e1
    generalize upd H l (.lst xs) = H1 at e1 g1' hp1
    refine ⟨Nat.zero_le _, fun z nz => ?_⟩
    have e2 := Evl.Ex.new (o := .lst []) nz
    have g2' : (upd H1 z (.lst [])) z = some (.lst []) := upd_same
    have nzp : z ≠ p := hp1.new1 nz
    have nzc : z ≠ c := hp1.new2 nz
    have nzl : z ≠ l := fun y => by rw [y, g1'] at nz; cases nz
    have nz0 : H z = none := Evl.fresh_back e1 nz
    have hp2 := hp1.ex e2
    generalize upd H1 z (.lst []) = H2 at e2 g2' hp2
    have e12 := e1.trans e2
    refine ⟨.ref l, .ref z, rfl, ?_⟩
    refine ⟨fun m σ H' => ∃ (ls fs : List V) (lw fw : List Word), σ = [some (.ref p), some (.ref a), some (.ref l), some (.ref z)] ∧ ls.length = m ∧ H' l = some (.lst ls) ∧ H' z = some (.lst fs) ∧ Paired (Wd K H') ls lw ∧ Paired (Wd K H') fs fw ∧ (fw ++ lw).Perm ws ∧ Exx p H H' ∧ PenAt H' p c (T + (fs.length : Nat)),
      ⟨xs.length, xs, [], ws, [], rfl, rfl, e2 _ _ g1', g2', Paired.imp (fun _ _ => wd_ex e12) hxs, .nil, List.Perm.refl _, Exx.ex e12, by simpa using hp2⟩, ?_⟩
    rintro m σ H3 ⟨ls, fs, lw, fw, rfl, lm, hl3, hz3, hls, hfs, pm, x3, hp3⟩
    have lsl : ls.length = lw.length := Paired.len hls
    have fsl : fs.length = fw.length := Paired.len hfs
    have tot : fw.length + lw.length = ws.length := by rw [← List.length_append]; exact pm.length_eq
    have sml : SmallW lw := fun w hw => sm w (pm.mem_iff.mp (List.mem_append_right _ hw))
    refine ⟨.ref l, rfl, Nat.zero_le _, fun e ne => ?_⟩
    have e4 := Evl.Ex.new (o := .lst []) ne
    have ge : (upd H3 e (.lst [])) e = some (.lst []) := upd_same
    generalize upd H3 e (.lst []) = H4 at e4 ge
    have hl4 := e4 _ _ hl3
    have hz4 := e4 _ _ hz3
    have hp4 := hp3.ex e4
    refine ⟨.list (lw.map dW), .list [], .lst (.inl (.inl hl4)) (dp_ws (Paired.imp (fun _ _ => wd_ex e4) hls)), .lst (.inl (.inl ge)) .nil, (fine_ws sml (by omega)).shaped (by decide), (by decide), _, rfl, ?_⟩
    cases lw with
    | nil =>
      refine iteF ?_
      have l0 : ls = [] := List.eq_nil_of_length_eq_zero (by simpa using lsl)
      refine ⟨.ref z, rfl, ?_⟩
      rw [List.append_nil] at pm
      exact q H4 z fs fw (x3.trans (Exx.ex e4)) (hp4.mono (by omega)) nz0 hz4 (Paired.imp (fun _ _ => wd_ex e4) hfs) pm
    | cons w0 lw' =>
      refine iteT ?_
      have lp : 0 < ls.length := by rw [lsl]; exact Nat.succ_pos _
      refine ⟨fun σ' H' => ∃ (ls' fs' : List V) (lw2 fw2 : List Word), σ' = [some (.ref p), some (.ref a), some (.ref l), some (.ref z)] ∧ ls'.length + 1 = m ∧ H' l = some (.lst ls') ∧ H' z = some (.lst fs') ∧ Paired (Wd K H') ls' lw2 ∧ Paired (Wd K H') fs' fw2 ∧ (fw2 ++ lw2).Perm ws ∧ Exx p H H' ∧ PenAt H' p c (T + (fs'.length : Nat)), fun σ' H' h => ?_, ?_⟩
      · obtain ⟨ls', fs', lw2, fw2, a1, a2, rest⟩ := h
        exact ⟨m - 1, by omega, ls', fs', lw2, fw2, a1, by omega, rest⟩
      · refine ⟨.ref z, rfl, .inl ⟨rfl, _, SqL.of hz4⟩, .ref l, rfl, .inl ⟨rfl, _, SqL.of hl4⟩, .ref p, rfl, .ref l, rfl, l, ls, rfl, .inl (SqL.of hl4), p, c, ((ls.length : Nat) : Int), T + (fs.length : Nat), rfl, hp4, by omega, by omega, by omega, fun i H5 i0 i1 x5 hp5 => ?_⟩
        have hl5 := x5 _ _ nlp hl4
        have hz5 := x5 _ _ nzp hz4
        have il : i.toNat < ls.length := by omega
        obtain ⟨y, hy⟩ : ∃ y, ls[i.toNat]? = some y := ⟨_, List.getElem?_eq_getElem il⟩
        have tx5 : TX K H3 H5 := (TX.ex e4).trans (hp4.tx x5)
        have hls5 : Paired (Wd K H5) ls (w0 :: lw') := Paired.imp (fun _ _ => Wd.mono tx5) hls
        have hfs5 : Paired (Wd K H5) fs fw := Paired.imp (fun _ _ => Wd.mono tx5) hfs
        obtain ⟨u, hu, huw⟩ := Paired.get1 hls5 hy
        refine ⟨l, ls, i, i.toNat, y, rfl, rfl, hl5, by omega, by omega, seqIndex_of i0 i1, hy, ?_⟩
        have hl6 : (upd H5 l (.lst (ls.eraseIdx i.toNat))) l = some (.lst (ls.eraseIdx i.toNat)) := upd_same
        have hz6 : (upd H5 l (.lst (ls.eraseIdx i.toNat))) z = some (.lst fs) := by rw [upd_ne nzl]; exact hz5
        have tx6 : TX K H5 (upd H5 l (.lst (ls.eraseIdx i.toNat))) := TX.put hl5
        have x6 : Exx p H (upd H5 l (.lst (ls.eraseIdx i.toNat))) := (x3.trans ((Exx.ex e4).trans x5)).mut nl
        have hp6 := hp5.put (o := .lst (ls.eraseIdx i.toNat)) nlp nlc
        generalize upd H5 l (.lst (ls.eraseIdx i.toNat)) = H6 at hl6 hz6 tx6 x6 hp6
        refine ⟨z, fs, y, rfl, rfl, hz6, Nat.lt_of_le_of_lt (by omega : fs.length ≤ 60) (by decide), ?_⟩
        have tx7 : TX K H6 (upd H6 z (.lst (fs ++ [y]))) := TX.put hz6
        refine ⟨ls.eraseIdx i.toNat, fs ++ [y], (w0 :: lw').eraseIdx i.toNat, fw ++ [u], rfl, ?_, by rw [upd_ne (Ne.symm nzl)]; exact hl6, upd_same, ?_, ?_, ?_, x6.mut nz0, ?_⟩
        · rw [List.length_eraseIdx, if_pos il]
          omega
        · exact Paired.imp (fun _ _ => Wd.mono (tx6.trans tx7)) (paired_erase _ hls5)
        · exact Paired.imp (fun _ _ => Wd.mono (tx6.trans tx7)) (paired_app1 hfs5 huw)
        · refine List.Perm.trans ?_ pm
          rw [List.append_assoc]
          exact List.Perm.append_left fw (erase_perm hu)
        · refine (hp6.put (o := .lst (fs ++ [y])) nzp nzc).mono ?_
          rw [List.length_append, List.length_singleton]
          omega
theorem ok_prc {f f1 f2 : Addr} {fd fd1 fd2 : FuncData} (F : Fun K "_law_price" "_law_price" sPrc f fd) (F1 : Fun K "_law_draw" "_law_draw" sDraw f1 fd1) (b1 : Binds K fd1 ["_law_pen_here", "_law_many_here"] []) (g1 : mg "_law_draw" = some (.ref f1))
    (F2 : Fun K "_law_pick" "_law_pick" sPick f2 fd2) (b2 : Binds K fd2 ["_law_pen_here", "_law_bag"] []) (g2 : mg "_law_pick" = some (.ref f2)) (B : Bi mg) : FnOk P w K mg base CX0 3 f fd ["_law_pen_here", "_law_dear"] spPrc := by
  have G1 : FnOk P w K mg base CX0 1 f1 fd1 ["_law_pen_here", "_law_many_here"] spDraw := ok_draw F1 B
  have G2 : FnOk P w K mg base CX0 2 f2 fd2 ["_law_pen_here", "_law_bag"] (spPick K) := ok_pick F2 F1 b1 g1 B
  refine F.ok scPrc (fun vs H Q E h => ?_) (fun cdv A outer s H vs Q E hr h => ?_)
  · obtain ⟨p, c, dear, T, rfl, _⟩ := h; rfl
  · obtain ⟨p, c, dear, T, rfl, hp, T9, d1, d2, q⟩ := h
    have hr1 : Room 1 _ := hr.mono (by decide)
    refine ⟨_, pss_one (ps_ret (pe_call G2 hr (by rfl) g2 F2.kp b2 .nil pass0 (pa_cons (pv 0) (pa_cons (pe_lst (pa_cons pe_int (pa_cons pe_int (pa_cons pe_int (pa_cons pe_int
      (pa_cons (pe_op op_add pe_int (pe_call G1 hr1 (by rfl) g1 F1.kp b1 .nil pass0 (pa_cons (pv 0) (pa_cons pe_int pa_nil))))
      (pa_cons (pe_op op_add pe_int (pe_call G1 hr1 (by rfl) g1 F1.kp b1 .nil pass0 (pa_cons (pv 0) (pa_cons (pv 1) pa_nil)))) pa_nil))))))) pa_nil)))), ?_⟩
    refine ⟨.ref p, rfl, .ref p, rfl, p, c, 9, _, rfl, hp, by decide, by decide, by omega, fun q1 H1 a1 a2 x1 hp1 => ⟨1, q1, rfl, rfl, ?_⟩⟩
    refine ⟨.ref p, rfl, .int dear, rfl, p, c, dear, _, rfl, hp1, d1, d2, by omega, fun q2 H2 a3 a4 x2 hp2 => ⟨1, q2, rfl, rfl, ?_⟩⟩
    refine ⟨(by show 6 ≤ sizeLine; decide), fun L hL => ?_⟩
    have nLp : L ≠ p := hp2.new1 hL
    have e3 := Evl.Ex.new (o := .lst [.int 1, .int 1, .int 2, .int 3, .int (1 + q1), .int (1 + q2)]) hL
    have gL : (upd H2 L (.lst [.int 1, .int 1, .int 2, .int 3, .int (1 + q1), .int (1 + q2)])) L = some (.lst [.int 1, .int 1, .int 2, .int 3, .int (1 + q1), .int (1 + q2)]) := upd_same
    have hp3 := hp2.ex e3
    generalize upd H2 L (.lst [.int 1, .int 1, .int 2, .int 3, .int (1 + q1), .int (1 + q2)]) = H3 at e3 gL hp3
    refine ⟨p, c, L, _, _, rfl, hp3, by omega, .inl (.inl gL), nLp, (by simp), (by show 6 ≤ 1000000; decide), fun pr H4 hpr x4 hp4 => ?_⟩
    obtain ⟨pi, rfl, pi1, pi2⟩ : ∃ pi, pr = .int pi ∧ 1 ≤ pi ∧ pi ≤ 1000000 := by
      simp only [List.mem_cons, List.not_mem_nil, or_false] at hpr
      rcases hpr with rfl | rfl | rfl | rfl | rfl | rfl
      · exact ⟨_, rfl, by decide, by decide⟩
      · exact ⟨_, rfl, by decide, by decide⟩
      · exact ⟨_, rfl, by decide, by decide⟩
      · exact ⟨_, rfl, by decide, by decide⟩
      · exact ⟨_, rfl, by omega, by omega⟩
      · exact ⟨_, rfl, by omega, by omega⟩
    exact q pi H4 pi1 pi2 (x1.trans (x2.trans ((Exx.ex e3).trans x4))) (hp4.mono (by omega))
end
end Wb

set_option Elab.async false
set_option linter.all false
set_option maxRecDepth 100000
set_option maxHeartbeats 4000000
set_option pp.maxSteps 600
set_option pp.deepTerms false
namespace Wb
open PySem PySem.Spec PyProof.Rows L2
abbrev sBases : Stmt := topS 41
abbrev sMany : Stmt := topS 44
abbrev nBases : List Str := ["_law_pen_here", "_law_counts", "_law_most", "_law_found", "_law_k", "_law_count"]
theorem scBases : FnScope nBases ["_law_pen_here", "_law_counts", "_law_most"] (defScope sBases) := ⟨rfl, rfl, rfl, by decide +kernel, rfl, by decide +kernel, by decide +kernel⟩
theorem scMany : FnScope ["_law_pen_here", "_law_low"] ["_law_pen_here", "_law_low"] (defScope sMany) := ⟨rfl, rfl, rfl, by decide +kernel, rfl, by decide +kernel, by decide +kernel⟩
theorem tasg1 {X : TE} {g : TG} {D : Ends} {σ : L2.St} {H : Hp} (h : X σ H (fun x H1 => g x σ H1 D.nx)) : tAsg X g D σ H := h
theorem tseq1 {t u : TS} {D : Ends} {σ : L2.St} {H : Hp} (h : t { D with nx := fun σ' H' => u D σ' H' } σ H) : tSeq t u D σ H := h
theorem nopart1 {σ : L2.St} {H : Hp} {F : Option Int → Hp → Prop} (h : F none H) : tNoPart σ H F := h
/-! ### parts of tuples, tuples together: a tuple of ours -/
theorem cutV_whole {xs : List V} {lo hi : Option Int} (h : HT.sIx xs.length 0 lo = 0 ∧ HT.sIx xs.length xs.length hi = xs.length) : cutV xs lo hi = xs := by
  unfold cutV
  rw [h.1, h.2, List.drop_zero, Nat.sub_zero, List.take_length]
theorem mem_cutV {xs : List V} {lo hi : Option Int} {x : V} (h : x ∈ cutV xs lo hi) : x ∈ xs := by
  unfold cutV at h
  exact List.mem_of_mem_drop (List.mem_of_mem_take h)
section
variable {K : PySem.W.Frag} {H : Hp} {Q : VK} {a b : Addr} {xs ys : List V}
theorem sl_own {lo hi : Option Int} (ha : H a = some (.tup xs)) (q : ∀ H' z, Evl.Ex H H' → H' z = some (.tup (cutV xs lo hi)) → Q (.ref z) H') : rSlA K (.ref a) lo hi H Q := by
  refine ⟨a, xs, rfl, .inl (.inl ha), fun h => ?_, fun _ t nt => ?_⟩
  · exact q H a (Evl.Ex.refl H) (by rw [cutV_whole h]; exact ha)
  · exact q _ t (Evl.Ex.new nt) upd_same
theorem cat_own (ha : H a = some (.tup xs)) (hb : H b = some (.tup ys)) (hz : xs.length + ys.length ≤ sizeLine) (q : ∀ H' z, Evl.Ex H H' → H' z = some (.tup (xs ++ ys)) → Q (.ref z) H') : rCatA K (.ref a) (.ref b) H Q := by
  refine ⟨a, b, xs, ys, rfl, rfl, .inl (.inl ha), .inl (.inl hb), hz, fun h => ?_, fun _ h => ?_, fun _ _ t nt => ?_⟩
  · exact q H b (Evl.Ex.refl H) (by rw [h]; exact hb)
  · exact q H a (Evl.Ex.refl H) (by rw [h, List.append_nil]; exact ha)
  · exact q _ t (Evl.Ex.new nt) upd_same
end
theorem eqv_ints : ∀ u w : List Int, PyData.eqvAll (u.map .int) (w.map .int) = decide (u = w)
  | [], [] => by simp [PyData.eqvAll]
  | [], y :: w => by simp [PyData.eqvAll]
  | x :: u, [] => by simp [PyData.eqvAll]
  | x :: u, y :: w => by
    simp only [List.map_cons, PyData.eqvAll, PyData.eqv, eqv_ints u w]
    by_cases h : x = y
    · subst h; simp
    · simp [h]
theorem eqv_W (u w : Word) : PyData.eqv (dW u) (dW w) = decide (u = w) := by
  unfold dW
  simp only [PyData.eqv, eqv_ints]
theorem any_W (ws : List Word) (w : Word) : ((ws.map dW).any fun z => PyData.eqv z (dW w)) = decide (w ∈ ws) := by
  rw [List.any_map, Bool.eq_iff_iff]
  simp only [List.any_eq_true, Function.comp, eqv_W, decide_eq_true_eq]
  constructor
  · rintro ⟨x, hx, rfl⟩
    exact hx
  · intro h
    exact ⟨w, h, rfl⟩
def spBases (K : PySem.W.Frag) : Sp := fun vs H Q _ => ∃ (p c W : Addr) (most T : Int) (wds : List Int), vs = [.ref p, .ref W, .int most] ∧ PenAt H p c T ∧ T ≤ 8000000 ∧ H W = some (.lst (wds.map V.int)) ∧ W ≠ p ∧ 1 ≤ most ∧ most ≤ 3 ∧ wds.length ≤ 60 ∧ (∀ x ∈ wds, 1 ≤ x ∧ x ≤ 4) ∧
  ∀ H' z bvs bases, Exx p H H' → PenAt H' p c (T + 200) → H z = none → H' z = some (.lst bvs) → Paired (Wd K H') bvs bases → bases.length ≤ 3 → (∀ u ∈ bases, InAll u wds) → Q (.ref z) H'
def spCuts (K : PySem.W.Frag) : Sp := fun vs H Q _ => ∃ (a : Addr) (m : Nat) (xs : List V) (ws : List Word), vs = [.ref a, .int (m : Nat)] ∧ SqL K H a xs ∧ Paired (Wd K H) xs ws ∧ SmallW ws ∧ ws.length ≤ 60 ∧
  ∀ H' z ys us, Evl.Ex H H' → H z = none → H' z = some (.lst ys) → Paired (Wd K H') ys us → us.Nodup → (∀ u ∈ us, ∃ w ∈ ws, u = w.take m) → us.length ≤ ws.length → Q (.ref z) H'
def spMany : Sp := fun vs H Q _ => ∃ (p c : Addr) (T : Int), vs = [.ref p, .int 1] ∧ PenAt H p c T ∧ T ≤ 9000000 ∧ ∀ i H', 1 ≤ i → i ≤ 60 → Exx p H H' → PenAt H' p c (T + 2) → Q (.int i) H'
section
variable {P : Program} {w : World} {K : PySem.W.Frag} {mg : Str → Option Value} {base : Heap}
theorem ok_bases {f f1 : Addr} {fd fd1 : FuncData} (F : Fun K "_law_bases" "_law_bases" sBases f fd) (F1 : Fun K "_law_draw" "_law_draw" sDraw f1 fd1) (b1 : Binds K fd1 ["_law_pen_here", "_law_many_here"] []) (g1 : mg "_law_draw" = some (.ref f1)) (B : Bi mg) :
    FnOk P w K mg base CX0 2 f fd ["_law_pen_here", "_law_counts", "_law_most"] (spBases K) := by
  have G1 : FnOk P w K mg base CX0 1 f1 fd1 ["_law_pen_here", "_law_many_here"] spDraw := ok_draw F1 B
  refine F.ok scBases (fun vs H Q E h => ?_) (fun cdv A outer s H vs Q E hr h => ?_)
  · obtain ⟨p, c, W, most, T, wds, rfl, _⟩ := h; rfl
  · obtain ⟨p, c, W, most, T, wds, rfl, hp, T9, hW, nWp, m1, m3, w60, hw, q⟩ := h
    refine ⟨_, pss_cons (ps_set (i := 3) scBases.nd rfl (.inl rfl) (pe_lst pa_nil))
      (pss_cons (ps_for PassesOwn.never rfl (pi_range1 (by rfl) B.range (pa_cons (pe_op op_add pe_int (pe_call G1 hr (by rfl) g1 F1.kp b1 .nil pass0 (pa_cons (pv 0) (pa_cons (pv 2) pa_nil)))) pa_nil)) (pg_name (i := 4) scBases.nd rfl (.inl rfl))
        (pss_one (ps_expr (pe_bm PySem.F.plainAttrs_list PySem.F.slot_list_append PySem.F.type_list_append mt_append (pv 3) (pa_cons
          (pe_callTy (r := rTupK K) call_tupK (by rfl) B.tuple PyProof.Rows.boot_tuple (pa_cons
            (pe_lc (own := [("_law_count", 5)]) (wi := iList K (tVar 1)) (g := gName 5) rfl scBases.nd (pi_list (pv 1)) (blkOk_by (own := [("_law_count", 5)]) (N := nBases) (sc := defScope sBases) (by decide +kernel))
              (fun _ _ _ _ _ => pg_name (i := 5) scBases.nd rfl (Or.inl rfl)) (fun _ _ _ _ _ => pts_nil)
              (fun _ _ _ _ _ => pe_call G1 hr (by rfl) g1 F1.kp b1 .nil pass0 (pa_cons (pv 0) (pa_cons (pv 5) pa_nil)))) pa_nil)) pa_nil)))))
      (pss_one (ps_ret (pv 3)))), ?_⟩
    refine ⟨Nat.zero_le _, fun z nz => ?_⟩
    have e1 := Evl.Ex.new (o := .lst []) nz
    have gz : (upd H z (.lst [])) z = some (.lst []) := upd_same
    have nzp : z ≠ p := hp.new1 nz
    have nzc : z ≠ c := hp.new2 nz
    have nzW : W ≠ z := fun y => by rw [← y, hW] at nz; cases nz
    have hp1 := hp.ex e1
    generalize upd H z (.lst []) = H1 at e1 gz hp1
    refine ⟨.ref p, rfl, .int most, rfl, p, c, most, _, rfl, hp1, m1, by omega, by omega, fun r H2 r0 r1 x2 hp2 => ⟨1, r, rfl, rfl, _, rfl, by omega, by omega, ?_⟩⟩
    have hw1 : ∀ x ∈ wds, 1 ≤ x ∧ x ≤ 1000000 := fun x hx => by have := hw x hx; omega
    refine for_range (lo := 0) (n := (1 + r).toNat) (fun i σ H' => ∃ (bvs : List V) (bases : List Word) (y4 y5 : Option V), σ = [some (.ref p), some (.ref W), some (.int most), some (.ref z), y4, y5] ∧ Exx p H H' ∧ PenAt H' p c (T + 1 + 60 * (i : Nat)) ∧ H' W = some (.lst (wds.map V.int)) ∧ H' z = some (.lst bvs) ∧ Paired (Wd K H') bvs bases ∧ bases.length ≤ i ∧ ∀ u ∈ bases, InAll u wds)
      ⟨[], [], none, none, rfl, (Exx.ex e1).trans x2, by simpa using hp2, x2 _ _ nWp (e1 _ _ hW), x2 _ _ nzp gz, .nil, Nat.le_refl _, fun u hu => (by cases hu)⟩ ?_ ?_
    · rintro i σ H3 hi ⟨bvs, bases, y4, y5, rfl, x3, hp3, hW3, hz3, hbv, bl, hb⟩
      refine ⟨.ref z, rfl, .inl ⟨rfl, _, SqL.of hz3⟩, ?_⟩
      refine tcons1 ?_
      refine tcb1 ?_
      refine lc_draws (K := K) (vs := [5]) (i := 5) (wds := wds) (p := p) (c := c) hp3 ?_ (by omega) hw1 (by omega) ?_ ?_ ?_ ?_
      · exact fun Q' h => ⟨.ref W, rfl, h W H3 (Exx.refl p H3) hp3 (.inl (.inl hW3)) nWp⟩
      · exact fun _ => rfl
      · exact fun _ => rfl
      · exact fun _ => rfl
      intro H4 D xs x4 hp4 nD hD hin
      refine ⟨D, _, rfl, .inl ⟨.inl (.inl hD), fun t nt => ?_⟩⟩
      have e5 := Evl.Ex.new (o := .tup (xs.map V.int)) nt
      have gt : (upd H4 t (.tup (xs.map V.int))) t = some (.tup (xs.map V.int)) := upd_same
      have hp5 := hp4.ex e5
      generalize upd H4 t (.tup (xs.map V.int)) = H5 at e5 gt hp5
      have hz5 := e5 _ _ (x4 _ _ nzp hz3)
      have hW5 := e5 _ _ (x4 _ _ nWp hW3)
      have bvl : bvs.length = bases.length := Paired.len hbv
      have tx5 : TX K H3 H5 := (hp3.tx x4).trans (TX.ex e5)
      refine ⟨z, bvs, _, rfl, rfl, hz5, Nat.lt_of_le_of_lt (by omega : bvs.length ≤ 3) (by decide), ?_⟩
      refine ⟨bvs ++ [.ref t], bases ++ [xs], _, _, rfl, (x3.trans (x4.trans (Exx.ex e5))).mut nz, (hp5.put nzp nzc).mono (by omega), by rw [upd_ne nzW]; exact hW5, upd_same, ?_, by rw [List.length_append, List.length_singleton]; omega, ?_⟩
      · exact Paired.imp (fun _ _ => Wd.mono (TX.put hz5)) (paired_app1 (Paired.imp (fun _ _ => Wd.mono tx5) hbv) ⟨t, rfl, gt⟩)
      · intro u hu
        rcases List.mem_append.mp hu with h | h
        · exact hb u h
        · rw [List.mem_singleton.mp h]; exact hin
    · rintro σ H3 ⟨bvs, bases, y4, y5, rfl, x3, hp3, hW3, hz3, hbv, bl, hb⟩
      exact ⟨.ref z, rfl, q H3 z bvs bases x3 (hp3.mono (by omega)) nz hz3 hbv (by omega) hb⟩
theorem ok_cuts {f : Addr} {fd : FuncData} (F : Fun K "_law_cuts" "_law_cuts" sCuts f fd) : FnOk P w K mg base CX0 1 f fd ["_law_words", "_law_many_here"] (spCuts K) := by
  refine F.ok scCuts (fun vs H Q E h => ?_) (fun cdv A outer s H vs Q E hr h => ?_)
  · obtain ⟨a, m, xs, ws, rfl, _⟩ := h; rfl
  · obtain ⟨a, m, xs, ws, rfl, ha, hxs, sm, w60, q⟩ := h
    have hu65 : A.units + 3 + 65 < cLine := by
      have := hr.un
      have : (A.deeper (envOfC "_law_cuts" (defScope sCuts) s.heap.objs.size f cdv)).units = A.units + 3 := rfl
      omega
    refine ⟨_, pss_cons (ps_set (i := 2) scCuts.nd rfl (.inl rfl) (pe_lst pa_nil))
      (pss_cons (ps_for PassesOwn.never rfl (pi_list (pv 0)) (pg_name (i := 3) scCuts.nd rfl (.inl rfl))
        (pss_one (ps_if (pt_cmpR (op_notInD hu65) (pe_slice (r := rSlA K) sl_tupA (pv 3) po_none (po_some (pv 1))) (pv 2) rfl)
          (pss_one (ps_expr (pe_bm PySem.F.plainAttrs_list PySem.F.slot_list_append PySem.F.type_list_append mt_append (pv 2) (pa_cons (pe_slice (r := rSlA K) sl_tupA (pv 3) po_none (po_some (pv 1))) pa_nil)))) pss_nil)))
      (pss_one (ps_ret (pv 2)))), ?_⟩
    have xl : xs.length = ws.length := Paired.len hxs
    refine ⟨Nat.zero_le _, fun z nz => ?_⟩
    have e1 := Evl.Ex.new (o := .lst []) nz
    have gz : (upd H z (.lst [])) z = some (.lst []) := upd_same
    generalize upd H z (.lst []) = H1 at e1 gz
    have nza : ∀ ys, SqL K H a ys → True := fun _ _ => trivial
    refine ⟨.ref a, rfl, a, rfl, ⟨xs, Evl.ex_l e1 ha⟩, ?_⟩
    refine for_list (K := K) (a := a) (xs := xs) (fun i σ H' => ∃ (ys : List V) (us : List Word) (y3 : Option V), σ = [some (.ref a), some (.int (m : Nat)), some (.ref z), y3] ∧ Evl.Ex H H' ∧ H' z = some (.lst ys) ∧ Paired (Wd K H') ys us ∧ us.Nodup ∧ (∀ u ∈ us, ∃ w ∈ ws, u = w.take m) ∧ us.length ≤ i)
      ⟨[], [], none, rfl, e1, gz, .nil, List.nodup_nil, fun u hu => (by cases hu), Nat.le_refl _⟩ ?_ ?_ ?_
    · rintro i σ H2 _ ⟨_, _, _, _, e2, _⟩
      exact Evl.ex_l e2 ha
    · rintro i x σ H2 hx ⟨ys, us, y3, rfl, e2, hz2, hys, nd, hus, ul⟩
      obtain ⟨w0, hw0, hxw⟩ := Paired.get1 hxs hx
      obtain ⟨ax, rfl, hax⟩ := hxw
      have hw0m := List.mem_of_getElem? hw0
      have il : i < ws.length := (List.getElem?_eq_some_iff.mp hw0).1
      have ysl : ys.length = us.length := Paired.len hys
      refine ⟨.ref ax, rfl, .int (m : Nat), rfl, (m : Nat), rfl, ?_⟩
      refine sl_own (K := K) (lo := none) (hi := some (m : Nat)) (e2 _ _ hax) fun H3 z3 e3 s3 => ?_
      rw [cut_take, ← List.map_take] at s3
      have smu : SmallW us := fun u hu => by
        obtain ⟨w', hw', rfl⟩ := hus u hu
        obtain ⟨h1, h2⟩ := sm w' hw'
        exact ⟨by rw [List.length_take]; omega, fun x hx => h2 x (List.mem_of_mem_take hx)⟩
      have smt : SmallW [w0.take m] := fun u hu => by
        rw [List.mem_singleton.mp hu]
        obtain ⟨h1, h2⟩ := sm w0 hw0m
        exact ⟨by rw [List.length_take]; omega, fun x hx => h2 x (List.mem_of_mem_take hx)⟩
      have ft : Fine (dW (w0.take m)) 1 603 := fine_W (B := 10) (n := 60) (smt _ (by simp)).2 (by decide) (smt _ (by simp)).1
      have hys3 : Paired (Wd K H3) ys us := Paired.imp (fun _ _ => wd_ex e3) hys
      refine ⟨.ref z, rfl, dW (w0.take m), us.map dW, dp_W ⟨z3, rfl, s3⟩, .lst (.inl (.inl (e3 _ _ hz2))) (dp_ws hys3), ft.shaped (by decide), (fine_ws smu (by omega)).shaped (by decide), _, rfl, ?_⟩
      rw [any_W]
      refine ite2 (fun hc => ?_) (fun _ => ?_)
      · have hn : w0.take m ∉ us := fun z => by
          rw [decide_eq_true z] at hc
          cases hc
        have hz3 := e3 _ _ hz2
        refine ⟨.ref z, rfl, .inl ⟨rfl, _, SqL.of hz3⟩, .ref ax, rfl, .int (m : Nat), rfl, (m : Nat), rfl, ?_⟩
        refine sl_own (K := K) (lo := none) (hi := some (m : Nat)) ((e2.trans e3) _ _ hax) fun H4 z4 e4 s4 => ?_
        rw [cut_take, ← List.map_take] at s4
        have hz4 := e4 _ _ hz3
        refine ⟨z, ys, _, rfl, rfl, hz4, Nat.lt_of_le_of_lt (by omega : ys.length ≤ 60) (by decide), ?_⟩
        refine ⟨ys ++ [.ref z4], us ++ [w0.take m], _, rfl, (e2.trans (e3.trans e4)).mut nz, upd_same, ?_, ?_, ?_, by rw [List.length_append, List.length_singleton]; omega⟩
        · exact Paired.imp (fun _ _ => Wd.mono (TX.put hz4)) (paired_app1 (Paired.imp (fun _ _ => wd_ex e4) hys3) ⟨z4, rfl, s4⟩)
        · rw [List.nodup_append]
          refine ⟨nd, by simp, fun a ha b hb => ?_⟩
          rw [List.mem_singleton.mp hb]
          exact fun e => hn (e ▸ ha)
        · intro u hu
          rcases List.mem_append.mp hu with h | h
          · exact hus u h
          · exact ⟨w0, hw0m, List.mem_singleton.mp h⟩
      · exact ⟨ys, us, _, rfl, e2.trans e3, e3 _ _ hz2, hys3, nd, hus, by omega⟩
    · rintro σ H2 ⟨ys, us, y3, rfl, e2, hz2, hys, nd, hus, ul⟩
      exact ⟨.ref z, rfl, q H2 z ys us e2 nz hz2 hys nd hus (by omega)⟩
theorem ok_many {f f1 : Addr} {fd fd1 : FuncData} (F : Fun K "_law_many" "_law_many" sMany f fd) (F1 : Fun K "_law_draw" "_law_draw" sDraw f1 fd1) (b1 : Binds K fd1 ["_law_pen_here", "_law_many_here"] []) (g1 : mg "_law_draw" = some (.ref f1)) (B : Bi mg) :
    FnOk P w K mg base CX0 2 f fd ["_law_pen_here", "_law_low"] spMany := by
  have G1 : FnOk P w K mg base CX0 1 f1 fd1 ["_law_pen_here", "_law_many_here"] spDraw := ok_draw F1 B
  refine F.ok scMany (fun vs H Q E h => ?_) (fun cdv A outer s H vs Q E hr h => ?_)
  · obtain ⟨p, c, T, rfl, _⟩ := h; rfl
  · obtain ⟨p, c, T, rfl, hp, T9, q⟩ := h
    refine ⟨_, pss_one (ps_ret (pe_op op_add (pv 1) (pe_call G1 hr (by rfl) g1 F1.kp b1 .nil pass0 (pa_cons (pv 0) (pa_cons (pe_ix ix_list (pe_lst (pa_cons (pe_op op_sub pe_int (pv 1)) (pa_cons (pe_op op_sub pe_int (pv 1)) (pa_cons (pe_op op_sub pe_int (pv 1)) (pa_cons (pe_op op_sub pe_int (pv 1)) pa_nil)))))
      (pe_call G1 hr (by rfl) g1 F1.kp b1 .nil pass0 (pa_cons (pv 0) (pa_cons pe_int pa_nil))) (fun _ _ => rfl)) pa_nil))))), ?_⟩
    refine ⟨.int 1, rfl, .ref p, rfl, .int 1, rfl, 8, 1, rfl, rfl, .int 1, rfl, 8, 1, rfl, rfl, .int 1, rfl, 8, 1, rfl, rfl, .int 1, rfl, 61, 1, rfl, rfl, (by show 4 ≤ sizeLine; decide), fun L nL => ?_⟩
    have e1 := Evl.Ex.new (o := .lst [.int (8 - 1), .int (8 - 1), .int (8 - 1), .int (61 - 1)]) nL
    have gL : (upd H L (.lst [.int (8 - 1), .int (8 - 1), .int (8 - 1), .int (61 - 1)])) L = some (.lst [.int (8 - 1), .int (8 - 1), .int (8 - 1), .int (61 - 1)]) := upd_same
    have nLp : L ≠ p := hp.new1 nL
    have hp1 := hp.ex e1
    generalize upd H L (.lst [.int (8 - 1), .int (8 - 1), .int (8 - 1), .int (61 - 1)]) = H1 at e1 gL hp1
    refine ⟨.ref p, rfl, p, c, 4, _, rfl, hp1, by decide, by decide, by omega, fun r H2 r0 r1 x2 hp2 => ?_⟩
    have gL2 := x2 _ _ nLp gL
    obtain ⟨y, hy, y1, y60⟩ : ∃ y : Int, atI [V.int (8 - 1), .int (8 - 1), .int (8 - 1), .int (61 - 1)] r = some (.int y) ∧ 1 ≤ y ∧ y ≤ 60 := by
      have : r = 0 ∨ r = 1 ∨ r = 2 ∨ r = 3 := by omega
      rcases this with rfl | rfl | rfl | rfl
      · exact ⟨_, atI_nat (j := 0) rfl, by decide, by decide⟩
      · exact ⟨_, atI_nat (j := 1) rfl, by decide, by decide⟩
      · exact ⟨_, atI_nat (j := 2) rfl, by decide, by decide⟩
      · exact ⟨_, atI_nat (j := 3) rfl, by decide, by decide⟩
    refine ⟨L, _, r, .int y, rfl, rfl, .inl (.inl gL2), hy, ?_⟩
    refine ⟨p, c, y, _, rfl, hp2, y1, by omega, by omega, fun d H3 d0 d1 x3 hp3 => ?_⟩
    exact ⟨1, d, rfl, rfl, q (1 + d) H3 (by omega) (by omega) ((Exx.ex e1).trans (x2.trans x3)) (hp3.mono (by omega))⟩
end
end Wb

set_option Elab.async false
set_option linter.all false
set_option maxRecDepth 100000
set_option maxHeartbeats 4000000
set_option pp.maxSteps 600
set_option pp.deepTerms false
namespace Wb
open PySem PySem.Spec PyProof.Rows L2
abbrev sGaps : Stmt := topS 43
abbrev nGaps : List Str := ["_law_pen_here", "_law_count", "_law_words", "_law_dear", "_law_pairs", "_law_found", "_law_left", "_law_here", "_law_there", "_law_bag"]
theorem scGaps : FnScope nGaps ["_law_pen_here", "_law_count", "_law_words", "_law_dear"] (defScope sGaps) := ⟨rfl, rfl, rfl, by decide +kernel, rfl, by decide +kernel, by decide +kernel⟩
/-- gaps as they are drawn: left so many ways of eight -/
structure DrawnU (wide : Int) (ws : List Word) (gs : List Gap) (left : Int) : Prop where
  each : ∀ g ∈ gs, (0 ≤ g.frm ∧ g.frm < wide) ∧ (0 ≤ g.to_ ∧ g.to_ < wide) ∧ g.frm ≠ g.to_ ∧ (1 ≤ g.price ∧ g.price ≤ 1000000) ∧ g.ways.Pairwise (fun u w => HT.lexLt u w = true) ∧ ∀ w ∈ g.ways, w ∈ ws
  sum : (((gs.map (fun g => g.ways.length)).sum : Nat) : Int) + left = 8
  left0 : 0 ≤ left
structure Drawn (wide : Int) (ws : List Word) (gs : List Gap) (left : Int) : Prop extends DrawnU wide ws gs left where
  rise : gs.Pairwise (fun g h => lexLt2 g.frm g.to_ h.frm h.to_)
def gKey (g : Gap) : Word := [g.frm, g.to_]
/-- a gap's own tuple -/
def FoundAt (H : Hp) (x : V) (g : Gap) : Prop := ∃ (t : Addr) (q : Int) (y : V), x = .ref t ∧ H t = some (.tup [.int g.frm, .int g.to_, .int q, y])
/-! ### a lock whose tuples are all tracked as such -/
def GapS (K : PySem.W.Frag) (H : Hp) (v : V) (g : Gap) : Prop := ∃ a b ws, v = .ref a ∧ H a = some (.tup [.int g.frm, .int g.to_, .int g.price, .ref b]) ∧ H b = some (.tup ws) ∧ Paired (Wd K H) ws g.ways
def BoltS (K : PySem.W.Frag) (H : Hp) (v : V) (b : Bolt) : Prop := ∃ a c gs, v = .ref a ∧ H a = some (.tup [.int b.many, .ref c]) ∧ H c = some (.tup gs) ∧ Paired (GapS K H) gs b.gaps
def LockS (K : PySem.W.Frag) (H : Hp) (v : V) (l : Lock) : Prop := ∃ a bs, v = .ref a ∧ H a = some (.tup bs) ∧ Paired (BoltS K H) bs l
section
variable {K : PySem.W.Frag} {H H' : Hp} {v : V}
theorem GapS.mono (e : TX K H H') {g : Gap} (h : GapS K H v g) : GapS K H' v g := by
  obtain ⟨a, b, ws, r, q1, q2, q3⟩ := h
  exact ⟨a, b, ws, r, e.2 _ _ q1, e.2 _ _ q2, Paired.imp (fun _ _ => Wd.mono e) q3⟩
theorem BoltS.mono (e : TX K H H') {b : Bolt} (h : BoltS K H v b) : BoltS K H' v b := by
  obtain ⟨a, c, gs, r, q1, q2, q3⟩ := h
  exact ⟨a, c, gs, r, e.2 _ _ q1, e.2 _ _ q2, Paired.imp (fun _ _ => GapS.mono e) q3⟩
theorem LockS.mono (e : TX K H H') {l : Lock} (h : LockS K H v l) : LockS K H' v l := by
  obtain ⟨a, bs, r, q1, q2⟩ := h
  exact ⟨a, bs, r, e.2 _ _ q1, Paired.imp (fun _ _ => BoltS.mono e) q2⟩
theorem GapS.at_ {g : Gap} (h : GapS K H v g) : GapAt K H v g := by
  obtain ⟨a, b, ws, r, q1, q2, q3⟩ := h
  exact ⟨a, b, ws, r, .inl (.inl q1), .inl (.inl q2), q3⟩
theorem BoltS.at_ {b : Bolt} (h : BoltS K H v b) : BoltAt K H v b := by
  obtain ⟨a, c, gs, r, q1, q2, q3⟩ := h
  exact ⟨a, c, gs, r, .inl (.inl q1), .inl (.inl q2), Paired.imp (fun _ _ => GapS.at_) q3⟩
theorem LockS.at_ {l : Lock} (h : LockS K H v l) : LockAt K H v l := by
  obtain ⟨a, bs, r, q1, q2⟩ := h
  exact ⟨a, bs, r, .inl (.inl q1), Paired.imp (fun _ _ => BoltS.at_) q2⟩
end
def GF (K : PySem.W.Frag) (H : Hp) (x : V) (g : Gap) : Prop := GapS K H x g ∧ FoundAt H x g
theorem GF.mono {K : PySem.W.Frag} {H H' : Hp} (e : TX K H H') {x : V} {g : Gap} (h : GF K H x g) : GF K H' x g := by
  obtain ⟨h1, t, q, y, rfl, h2⟩ := h
  exact ⟨GapS.mono e h1, t, q, y, rfl, e.2 _ _ h2⟩
def kH (H : Hp) : V → Int × Int
  | .ref t => (match H t with
    | some (.tup (.int i :: .int j :: _)) => (i, j)
    | _ => (0, 0))
  | _ => (0, 0)
theorem kH_of {H : Hp} {x : V} {g : Gap} (h : FoundAt H x g) : kH H x = (g.frm, g.to_) := by
  obtain ⟨t, q, y, rfl, ht⟩ := h
  simp only [kH, ht]
theorem paired_perm {α β : Type} {R : α → β → Prop} {xs xs' : List α} (h : xs'.Perm xs) : ∀ {ys : List β}, Paired R xs ys → ∃ ys', ys'.Perm ys ∧ Paired R xs' ys' := by
  induction h with
  | nil => intro ys p; cases p; exact ⟨[], List.Perm.refl _, .nil⟩
  | cons x _ ih =>
    intro ys p
    cases p with
    | cons r t =>
      obtain ⟨ys', h1, h2⟩ := ih t
      exact ⟨_, h1.cons _, .cons r h2⟩
  | swap x y l =>
    intro ys p
    cases p with
    | cons r t =>
      cases t with
      | cons r2 t2 => exact ⟨_, List.Perm.swap _ _ _, .cons r2 (.cons r t2)⟩
  | trans _ _ ih1 ih2 =>
    intro ys p
    obtain ⟨ys2, a1, a2⟩ := ih2 p
    obtain ⟨ys3, b1, b2⟩ := ih1 a2
    exact ⟨ys3, b1.trans a1, b2⟩
theorem lex_pairwise {ws us : List Word} {d : Nat} (pm : us.Perm ws) (nd : ws.Nodup) (hb : ∀ w ∈ ws, w.length = d ∧ TS.Bd 4 w) (pw : us.Pairwise (fun u v => TS.code 4 u ≤ TS.code 4 v)) : us.Pairwise (fun u w => HT.lexLt u w = true) := by
  have ndu : us.Nodup := pm.nodup_iff.mpr nd
  rw [List.pairwise_iff_getElem]
  intro i j hi hj hij
  have ne := List.pairwise_iff_getElem.mp ndu i j hi hj hij
  have cd := List.pairwise_iff_getElem.mp pw i j hi hj hij
  obtain ⟨a1, a2⟩ := hb us[i] (pm.mem_iff.mp (List.getElem_mem hi))
  obtain ⟨a3, a4⟩ := hb us[j] (pm.mem_iff.mp (List.getElem_mem hj))
  exact lex_of_code (by omega) a2 a4 cd ne
def spGaps (K : PySem.W.Frag) : Sp := fun vs H Q _ => ∃ (p c wl : Addr) (wide dear T : Int) (us : List V) (ws : List Word) (d : Nat), vs = [.ref p, .int wide, .ref wl, .int dear] ∧ PenAt H p c T ∧ T ≤ 8000000 ∧ 2 ≤ wide ∧ wide ≤ 4 ∧ 1 ≤ dear ∧ dear ≤ 1000000 ∧ wl ≠ p ∧
  H wl = some (.lst us) ∧ Paired (Wd K H) us ws ∧ ws.length ≤ 8 ∧ ws.Nodup ∧ d ≤ 60 ∧ (∀ w ∈ ws, w.length = d ∧ TS.Bd 4 w) ∧
  ∀ H' a gvs gs left, Exx p H H' → PenAt H' p c (T + 2000) → H' a = some (.tup gvs) → Paired (GapS K H') gvs gs → Drawn wide ws gs left → Q (.ref a) H'
section
variable {P : Program} {w : World} {K : PySem.W.Frag} {mg : Str → Option Value} {base : Heap}
theorem ok_gaps {f f1 f2 f3 f4 : Addr} {fd fd1 fd2 fd3 fd4 : FuncData} (F : Fun K "_law_gaps" "_law_gaps" sGaps f fd) (F1 : Fun K "_law_draw" "_law_draw" sDraw f1 fd1) (b1 : Binds K fd1 ["_law_pen_here", "_law_many_here"] []) (g1 : mg "_law_draw" = some (.ref f1))
    (F2 : Fun K "_law_pick" "_law_pick" sPick f2 fd2) (b2 : Binds K fd2 ["_law_pen_here", "_law_bag"] []) (g2 : mg "_law_pick" = some (.ref f2))
    (F3 : Fun K "_law_shuffled" "_law_shuffled" sShuf f3 fd3) (b3 : Binds K fd3 ["_law_pen_here", "_law_bag"] []) (g3 : mg "_law_shuffled" = some (.ref f3))
    (F4 : Fun K "_law_price" "_law_price" sPrc f4 fd4) (b4 : Binds K fd4 ["_law_pen_here", "_law_dear"] []) (g4 : mg "_law_price" = some (.ref f4)) (B : Bi mg) :
    FnOk P w K mg base CX0 4 f fd ["_law_pen_here", "_law_count", "_law_words", "_law_dear"] (spGaps K) := by
  have G1 : FnOk P w K mg base CX0 1 f1 fd1 ["_law_pen_here", "_law_many_here"] spDraw := ok_draw F1 B
  have G2 : FnOk P w K mg base CX0 2 f2 fd2 ["_law_pen_here", "_law_bag"] (spPick K) := ok_pick F2 F1 b1 g1 B
  have G3 : FnOk P w K mg base CX0 2 f3 fd3 ["_law_pen_here", "_law_bag"] (spShuf K) := ok_shuf F3 F1 b1 g1 B
  have G4 : FnOk P w K mg base CX0 3 f4 fd4 ["_law_pen_here", "_law_dear"] spPrc := ok_prc F4 F1 b1 g1 F2 b2 g2 B
  refine F.ok scGaps (fun vs H Q E h => ?_) (fun cdv A outer s H vs Q E hr h => ?_)
  · obtain ⟨p, c, wl, wide, dear, T, us, ws, d, rfl, _⟩ := h; rfl
  · obtain ⟨p, c, wl, wide, dear, T, us, ws, d, rfl, hp, T8, w2, w4, d1, d2, nwp, hwl, hws, w8, wnd, d60, hbd, q⟩ := h
    have hr1 : Room 1 _ := hr.mono (by decide)
    have hr2 : Room 2 _ := hr.mono (by decide)
    refine ⟨_, pss_cons (ps_par3 (by rfl) scGaps.nd (i := 4) (j := 5) (l := 6) rfl rfl rfl (by decide) (by decide) (by decide) rfl rfl rfl (pa_cons (pe_lst pa_nil) (pa_cons (pe_lst pa_nil) (pa_cons pe_int pa_nil))) (by rfl))
      (pss_cons (ps_for PassesOwn.never rfl (pi_range1 (by rfl) B.range (pa_cons (pv 1) pa_nil)) (pg_name (i := 7) scGaps.nd rfl (.inr rfl))
        (pss_one (ps_set (i := 4) scGaps.nd rfl (.inl rfl) (pe_op op_cat (pv 4) (pe_lc (own := [("_law_there", 8)]) (g := gName 8) rfl scGaps.nd (pi_range1 (by rfl) B.range (pa_cons (pv 1) pa_nil)) (blkOk_by (own := [("_law_there", 8)]) (N := nGaps) (sc := defScope sGaps) (by decide +kernel))
            (fun _ _ _ _ _ => pg_name (i := 8) scGaps.nd rfl (Or.inl rfl)) (fun _ _ _ _ _ => pts_one (pt_cmpR op_ne (pv 8) (pv 7) (nomark _)))
            (fun _ _ _ _ _ => pe_tup (pa_cons (pv 7) (pa_cons (pv 8) pa_nil))))))))
      (pss_cons (ps_for PassesOwn.never rfl (pi_list (pe_call G3 hr2 (by rfl) g3 F3.kp b3 .nil pass0 (pa_cons (pv 0) (pa_cons (pv 4) pa_nil)))) (pg_tup rfl (pgs_cons (pg_name (i := 7) scGaps.nd rfl (.inr rfl)) (pgs_cons (pg_name (i := 8) scGaps.nd rfl (.inl rfl)) pgs_nil)))
        (pss_one (ps_if (pt_cmpR op_gt (pe_call G1 hr1 (by rfl) g1 F1.kp b1 .nil pass0 (pa_cons (pv 0) (pa_cons pe_int pa_nil))) pe_int (nomark _))
          (pss_cons (ps_set (i := 9) scGaps.nd rfl (.inl rfl) (pe_slice sl_list (pe_callB cr_sortW (by rfl) B.sorted boot_sorted (pa_cons (pe_slice sl_list (pe_call G3 hr2 (by rfl) g3 F3.kp b3 .nil pass0 (pa_cons (pv 0) (pa_cons (pv 2) pa_nil))) po_none
              (po_some (pe_call G2 hr2 (by rfl) g2 F2.kp b2 .nil pass0 (pa_cons (pv 0) (pa_cons (pe_lst (pa_cons pe_int (pa_cons pe_int (pa_cons pe_int (pa_cons pe_int (pa_cons pe_int pa_nil)))))) pa_nil))))) pa_nil)) po_none (po_some (pv 6))))
          (pss_cons (ps_set (i := 6) scGaps.nd rfl (.inl rfl) (pe_op op_sub (pv 6) (pe_callB call_len_seq (by rfl) B.len PySem.boot_len (pa_cons (pv 9) pa_nil))))
          (pss_one (ps_expr (pe_bm PySem.F.plainAttrs_list PySem.F.slot_list_append PySem.F.type_list_append mt_append (pv 5) (pa_cons (pe_tup (pa_cons (pv 7) (pa_cons (pv 8) (pa_cons (pe_call G4 hr (by rfl) g4 F4.kp b4 .nil pass0 (pa_cons (pv 0) (pa_cons (pv 3) pa_nil)))
              (pa_cons (pe_callTy call_tuple_of (by rfl) B.tuple PyProof.Rows.boot_tuple (pa_cons (pv 9) pa_nil)) pa_nil))))) pa_nil)))))) pss_nil)))
      (pss_one (ps_ret (pe_callTy call_tuple_of (by rfl) B.tuple PyProof.Rows.boot_tuple (pa_cons (pe_callB cr_sortG (by rfl) B.sorted boot_sorted (pa_cons (pv 5) pa_nil)) pa_nil)))))), ?_⟩
    have ul : us.length = ws.length := Paired.len hws
    have smw : SmallW ws := fun u hu => by
      obtain ⟨h1, h2⟩ := hbd u hu
      exact ⟨by omega, fun x hx => by have := h2 x hx; omega⟩
    refine ⟨Nat.zero_le _, fun pl0 npl0 => ⟨Nat.zero_le _, fun fl nfl => ?_⟩⟩
    have e1 := Evl.Ex.new (o := .lst []) npl0
    have gp1 : (upd H pl0 (.lst [])) pl0 = some (.lst []) := upd_same
    generalize upd H pl0 (.lst []) = H1 at nfl e1 gp1
    have e2 := Evl.Ex.new (o := .lst []) nfl
    have gf2 : (upd H1 fl (.lst [])) fl = some (.lst []) := upd_same
    generalize upd H1 fl (.lst []) = H3 at e2 gf2
    have e13 := e1.trans e2
    have gp3 := e2 _ _ gp1
    have gf3 := gf2
    have hp3 := hp.ex e13
    have nfl0 : H fl = none := Evl.fresh_back e1 nfl
    have nflp : fl ≠ p := fun z => hp.here (z ▸ nfl0)
    have nflc : fl ≠ c := (hp.ex e1).new2 nfl
    refine ⟨.ref pl0, .ref fl, .int 8, rfl, ?_⟩
    -- the pairs
    refine ⟨.int wide, rfl, wide, rfl, by omega, by omega, ?_⟩
    refine for_range (lo := 0) (n := wide.toNat) (fun i σ H' => ∃ (pl : Addr) (pvs : List V) (ps : List Word) (y7 y8 y9 : Option V), σ = [some (.ref p), some (.int wide), some (.ref wl), some (.int dear), some (.ref pl), some (.ref fl), some (.int 8), y7, y8, y9] ∧ Evl.Ex H3 H' ∧ H' pl = some (.lst pvs) ∧ Paired (Wd K H') pvs ps ∧ ps.Nodup ∧ ps.length ≤ 4 * i ∧ ∀ u ∈ ps, ∃ a b : Int, u = [a, b] ∧ a ≠ b ∧ 0 ≤ a ∧ a < (i : Int) ∧ 0 ≤ b ∧ b < wide)
      ⟨pl0, [], [], none, none, none, rfl, Evl.Ex.refl _, gp3, .nil, List.nodup_nil, Nat.le_refl _, fun u hu => (by cases hu)⟩ ?_ ?_
    · rintro i σ H4 hi ⟨pl, pvs, ps, y7, y8, y9, rfl, e4, hpl4, hpv4, pnd, pln, hps⟩
      have ei : (0 : Int) + (i : Nat) = (i : Int) := by omega
      rw [ei]
      refine ⟨.ref pl, rfl, ?_⟩
      refine ⟨.int wide, rfl, wide, rfl, by omega, by omega, fun D hD => ?_⟩
      refine lc_range (lo := 0) (n := wide.toNat) (fun m H' => ∃ (rvs : List V) (rs : List Word), Evl.Ex H4 H' ∧ H' D = some (.lst rvs) ∧ Paired (Wd K H') rvs rs ∧ rs.Nodup ∧ rs.length ≤ m ∧ ∀ u ∈ rs, ∃ b : Int, u = [(i : Int), b] ∧ (i : Int) ≠ b ∧ 0 ≤ b ∧ b < (m : Int))
        ⟨[], [], Evl.Ex.new hD, upd_same, .nil, List.nodup_nil, Nat.le_refl _, fun u hu => (by cases hu)⟩ ?_ ?_
      · rintro m H5 hm ⟨rvs, rs, e5, hD5, hrv, rnd, rl, hrs⟩
        have em : (0 : Int) + (m : Nat) = (m : Int) := by omega
        rw [em]
        refine ⟨rfl, ?_⟩
        refine ⟨.int (m : Nat), rfl, .int (i : Nat), rfl, rfl, _, rfl, ?_⟩
        have step : ∀ u ∈ rs, ∃ b : Int, u = [(i : Int), b] ∧ (i : Int) ≠ b ∧ 0 ≤ b ∧ b < ((m + 1 : Nat) : Int) := fun u hu => by
          obtain ⟨b, e, n, b0, b1⟩ := hrs u hu
          exact ⟨b, e, n, b0, by omega⟩
        refine ite2 (fun hc => ?_) (fun _ => ⟨rvs, rs, e5, hD5, hrv, rnd, by omega, step⟩)
        have ne : (i : Int) ≠ (m : Int) := fun z => by
          rw [z] at hc
          simp at hc
        refine ⟨.int (i : Nat), rfl, .int (m : Nat), rfl, (by show 2 ≤ sizeLine; decide), fun t nt => ?_⟩
        have e6 := Evl.Ex.new (o := .tup [.int (i : Nat), .int (m : Nat)]) nt
        have g6 : (upd H5 t (.tup [.int (i : Nat), .int (m : Nat)])) t = some (.tup ([(i : Int), (m : Int)].map V.int)) := upd_same
        generalize upd H5 t (.tup [.int (i : Nat), .int (m : Nat)]) = H6 at e6 g6
        have hD6 := e6 _ _ hD5
        have rvl : rvs.length = rs.length := Paired.len hrv
        refine ⟨_, hD6, Nat.lt_of_le_of_lt (by omega : rvs.length ≤ 4) (by decide), rvs ++ [.ref t], rs ++ [[(i : Int), (m : Int)]], (e5.trans e6).mut hD, upd_same, ?_, ?_, by rw [List.length_append, List.length_singleton]; omega, ?_⟩
        · exact Paired.imp (fun _ _ => Wd.mono (TX.put hD6)) (paired_app1 (Paired.imp (fun _ _ => wd_ex e6) hrv) ⟨t, rfl, g6⟩)
        · rw [List.nodup_append]
          refine ⟨rnd, by simp, fun a ha b hb => ?_⟩
          rw [List.mem_singleton.mp hb]
          obtain ⟨b', rfl, _, _, b1⟩ := hrs a ha
          intro z
          injection z with _ z
          injection z with z _
          omega
        · intro u hu
          rcases List.mem_append.mp hu with h | h
          · exact step u h
          · exact ⟨m, List.mem_singleton.mp h, ne, by omega, by omega⟩
      · rintro H5 ⟨rvs, rs, e5, hD5, hrv, rnd, rl, hrs⟩
        have rvl : rvs.length = rs.length := Paired.len hrv
        have pvl : pvs.length = ps.length := Paired.len hpv4
        refine ⟨pl, D, _, _, rfl, rfl, e5 _ _ hpl4, hD5, Nat.le_trans (by omega : pvs.length + rvs.length ≤ 20) (by decide), fun pl2 npl2 => ?_⟩
        have e6 := Evl.Ex.new (o := .lst (pvs ++ rvs)) npl2
        refine ⟨pl2, pvs ++ rvs, ps ++ rs, _, _, _, rfl, e4.trans (e5.trans e6), upd_same, Paired.app (Paired.imp (fun _ _ => wd_ex (e5.trans e6)) hpv4) (Paired.imp (fun _ _ => wd_ex e6) hrv), ?_, by rw [List.length_append]; omega, ?_⟩
        · rw [List.nodup_append]
          refine ⟨pnd, rnd, fun a ha b hb => ?_⟩
          obtain ⟨a1, a2, rfl, _, _, a3, _⟩ := hps a ha
          obtain ⟨b', rfl, _⟩ := hrs b hb
          intro z
          injection z with z _
          omega
        · intro u hu
          rcases List.mem_append.mp hu with h | h
          · obtain ⟨a, b, e, n, a0, a1, b0, b1⟩ := hps u h
            exact ⟨a, b, e, n, a0, by omega, b0, b1⟩
          · obtain ⟨b, e, n, b0, b1⟩ := hrs u h
            exact ⟨i, b, e, n, by omega, by omega, b0, by omega⟩
    · rintro σ H4 ⟨pl, pvs, ps, y7, y8, y9, rfl, e4, hpl4, hpv4, pnd, pln, hps⟩
      have e04 := e13.trans e4
      have hp4 := hp3.ex e4
      have pvl : pvs.length = ps.length := Paired.len hpv4
      have smp : SmallW ps := fun u hu => by
        obtain ⟨a, b, rfl, _, a0, a1, b0, b1⟩ := hps u hu
        refine ⟨by simp, fun x hx => ?_⟩
        simp only [List.mem_cons, List.not_mem_nil, or_false] at hx
        rcases hx with rfl | rfl
        · omega
        · omega
      refine ⟨.ref p, rfl, .ref pl, rfl, p, c, pl, T, pvs, ps, rfl, hp4, by omega, SqL.of hpl4, hpv4, smp, by omega, fun H5 z sv su x5 hp5 nz hz hsv pm => ?_⟩
      have nzp : z ≠ p := hp4.new1 nz
      have snd : su.Nodup := pm.nodup_iff.mpr pnd
      have svl : sv.length = su.length := Paired.len hsv
      have sul : su.length ≤ 16 := by have := pm.length_eq; omega
      have x05 : Exx p H H5 := (Exx.ex e04).trans x5
      have gf5 := x5 _ _ nflp (e4 _ _ gf3)
      have hwl5 := x05 _ _ nwp hwl
      have hws5 : Paired (Wd K H5) us ws := Paired.imp (fun _ _ => Wd.mono (hp.tx x05)) hws
      refine ⟨z, rfl, ⟨sv, SqL.of hz⟩, ?_⟩
      have nfz : fl ≠ z := fun y => by rw [← y, e4 _ _ gf3] at nz; cases nz
      have nfw : fl ≠ wl := fun y => by rw [← y, nfl0] at hwl; cases hwl
      refine for_list (K := K) (a := z) (xs := sv) (fun i σ H' => ∃ (gvs : List V) (gs : List Gap) (left : Int) (y7 y8 y9 : Option V), σ = [some (.ref p), some (.int wide), some (.ref wl), some (.int dear), some (.ref pl), some (.ref fl), some (.int left), y7, y8, y9] ∧ Exx p H H' ∧ PenAt H' p c (T + 60 + 100 * (i : Nat)) ∧ H' z = some (.lst sv) ∧ Paired (Wd K H') sv su ∧ H' wl = some (.lst us) ∧ Paired (Wd K H') us ws ∧
          H' fl = some (.lst gvs) ∧ Paired (GF K H') gvs gs ∧ DrawnU wide ws gs left ∧ (gs.map gKey).Sublist (su.take i))
        ⟨[], [], 8, _, _, _, rfl, x05, by simpa using hp5, hz, hsv, hwl5, hws5, gf5, .nil, ⟨fun g hg => (by cases hg), by decide, by decide⟩, List.nil_sublist _⟩ ?_ ?_ ?_
      · rintro i σ H' _ ⟨_, _, _, _, _, _, _, _, _, h, _⟩
        exact SqL.of h
      · rintro i x σ H6 hx ⟨gvs, gs, left, y7, y8, y9, rfl, x6, hp6, hz6, hsv6, hwl6, hws6, hf6, hg6, hd6, sub6⟩
        obtain ⟨u0, hu0, hxw⟩ := Paired.get1 hsv6 hx
        obtain ⟨tx, rfl, htx⟩ := hxw
        have il : i < su.length := (List.getElem?_eq_some_iff.mp hu0).1
        obtain ⟨h0, t0, rfl, hne, h00, h01, t00, t01⟩ := hps u0 (pm.mem_iff.mp (List.mem_of_getElem? hu0))
        have h01' : h0 < wide := by omega
        have gvl : gvs.length = gs.length := Paired.len hg6
        have gsl : gs.length ≤ i := by
          have := sub6.length_le
          rw [List.length_map, List.length_take] at this
          omega
        refine ⟨tx, _, rfl, .inl (.inl htx), rfl, _, _, rfl, _, _, rfl, rfl, ?_⟩
        refine ⟨.ref p, rfl, p, c, 5, _, rfl, hp6, by decide, by decide, by omega, fun r H7 _ _ x7 hp7 => ?_⟩
        refine ⟨r, 0, rfl, rfl, _, rfl, ?_⟩
        have subS : (gs.map gKey).Sublist (su.take (i + 1)) := by
          rw [take_succ_get hu0]
          exact sub6.trans (List.sublist_append_left _ _)
        have tx7 := hp6.tx (K := K) x7
        refine ite2 (fun _ => ?_) (fun _ => ?_)
        · have hwl7 := x7 _ _ nwp hwl6
          have hws7 : Paired (Wd K H7) us ws := Paired.imp (fun _ _ => Wd.mono tx7) hws6
          have hf7 := x7 _ _ nflp hf6
          have hz7 := x7 _ _ nzp hz6
          refine ⟨.ref p, rfl, .ref wl, rfl, p, c, wl, _, us, ws, rfl, hp7, by omega, SqL.of hwl7, hws7, smw, by omega, fun H8 z8 bv bu x8 hp8 nz8 hz8 hbv bpm => ?_⟩
          have nz8p : z8 ≠ p := hp7.new1 nz8
          have bvl : bv.length = bu.length := Paired.len hbv
          have bul : bu.length = ws.length := bpm.length_eq
          have bnd : bu.Nodup := bpm.nodup_iff.mpr wnd
          -- how many
          refine ⟨.ref p, rfl, (by show 5 ≤ sizeLine; decide), fun L nL => ?_⟩
          have e9 := Evl.Ex.new (o := .lst [.int 1, .int 1, .int 2, .int 2, .int 0]) nL
          have gL : (upd H8 L (.lst [.int 1, .int 1, .int 2, .int 2, .int 0])) L = some (.lst [.int 1, .int 1, .int 2, .int 2, .int 0]) := upd_same
          have nLp : L ≠ p := hp8.new1 nL
          have hp9 := hp8.ex e9
          generalize upd H8 L (.lst [.int 1, .int 1, .int 2, .int 2, .int 0]) = H9 at e9 gL hp9
          refine ⟨p, c, L, _, _, rfl, hp9, by omega, .inl (.inl gL), nLp, (by simp), (by show 5 ≤ 1000000; decide), fun mv H10 hmv x10 hp10 => ?_⟩
          obtain ⟨m, rfl⟩ : ∃ m : Nat, mv = .int (m : Nat) := by
            simp only [List.mem_cons, List.not_mem_nil, or_false] at hmv
            rcases hmv with rfl | rfl | rfl | rfl | rfl
            · exact ⟨1, rfl⟩
            · exact ⟨1, rfl⟩
            · exact ⟨2, rfl⟩
            · exact ⟨2, rfl⟩
            · exact ⟨0, rfl⟩
          have x810 : Exx p H8 H10 := (Exx.ex e9).trans x10
          have hz10 := x810 _ _ nz8p hz8
          have hbv10 : Paired (Wd K H10) bv bu := Paired.imp (fun _ _ => Wd.mono (hp8.tx x810)) hbv
          refine ⟨(m : Nat), rfl, z8, bv, rfl, SqL.of hz10, fun S nS => ?_⟩
          rw [cut_take]
          have e11 := Evl.Ex.new (o := .lst (bv.take m)) nS
          have gS : (upd H10 S (.lst (bv.take m))) S = some (.lst (bv.take m)) := upd_same
          have hp11 := hp10.ex e11
          generalize upd H10 S (.lst (bv.take m)) = H11 at e11 gS hp11
          have hbt : Paired (Wd K H11) (bv.take m) (bu.take m) := Paired.takeN m (Paired.imp (fun _ _ => wd_ex e11) hbv10)
          have sbt : ∀ w ∈ bu.take m, w ∈ ws := fun w hw => bpm.mem_iff.mp (List.mem_of_mem_take hw)
          have tnd : (bu.take m).Nodup := (List.take_sublist m bu).nodup bnd
          have tl : (bv.take m).length ≤ 8 := by rw [List.length_take]; omega
          refine ⟨S, bv.take m, bu.take m, d, rfl, SqL.of gS, by omega, hbt, fun w hw => hbd w (sbt w hw), tnd, fun ov ou O ol hov opm opw nO => ?_⟩
          have e12 := Evl.Ex.new (o := .lst ov) nO
          have gO : (upd H11 O (.lst ov)) O = some (.lst ov) := upd_same
          have hp12 := hp11.ex e12
          generalize upd H11 O (.lst ov) = H12 at e12 gO hp12
          have ovu : ov.length = ou.length := Paired.len hov
          have left0 := hd6.left0
          obtain ⟨ln, hln⟩ : ∃ ln : Nat, left = (ln : Int) := ⟨left.toNat, by omega⟩
          subst hln
          refine ⟨.int (ln : Nat), rfl, (ln : Nat), rfl, O, ov, rfl, SqL.of gO, fun B9 nB9 => ?_⟩
          rw [cut_take]
          have e13' := Evl.Ex.new (o := .lst (ov.take ln)) nB9
          have gB : (upd H12 B9 (.lst (ov.take ln))) B9 = some (.lst (ov.take ln)) := upd_same
          have hp13 := hp12.ex e13'
          generalize upd H12 B9 (.lst (ov.take ln)) = H13 at e13' gB hp13
          have nB9p : B9 ≠ p := hp12.new1 nB9
          refine ⟨.int (ln : Nat), rfl, .ref B9, rfl, B9, _, rfl, .inl (SqL.of gB), (ln : Int), _, rfl, rfl, ?_⟩
          have hbag : Paired (Wd K H13) (ov.take ln) (ou.take ln) := Paired.takeN ln (Paired.imp (fun _ _ => wd_ex (e12.trans e13')) hov)
          have x713 : Exx p H7 H13 := x8.trans (x810.trans (Exx.ex (e11.trans (e12.trans e13'))))
          have hf13 := x713 _ _ nflp hf7
          -- the gap
          refine ⟨.ref fl, rfl, .inl ⟨rfl, _, SqL.of hf13⟩, .int h0, rfl, .int t0, rfl, ?_⟩
          refine ⟨.ref p, rfl, .int dear, rfl, p, c, dear, _, rfl, hp13, by omega, d1, d2, fun pr H14 pr1 pr2 x14 hp14 => ?_⟩
          have gB14 := x14 _ _ nB9p gB
          refine ⟨.ref B9, rfl, B9, _, rfl, .inl ⟨.inl (.inl gB14), fun W nW => ?_⟩⟩
          have e15 := Evl.Ex.new (o := .tup (ov.take ln)) nW
          have gW : (upd H14 W (.tup (ov.take ln))) W = some (.tup (ov.take ln)) := upd_same
          have hp15 := hp14.ex e15
          generalize upd H14 W (.tup (ov.take ln)) = H15 at e15 gW hp15
          refine ⟨(by show 4 ≤ sizeLine; decide), fun G nG => ?_⟩
          have e16 := Evl.Ex.new (o := .tup [.int h0, .int t0, .int pr, .ref W]) nG
          have gG : (upd H15 G (.tup [.int h0, .int t0, .int pr, .ref W])) G = some (.tup [.int h0, .int t0, .int pr, .ref W]) := upd_same
          have hp16 := hp15.ex e16
          generalize upd H15 G (.tup [.int h0, .int t0, .int pr, .ref W]) = H16 at e16 gG hp16
          have x1316 : Exx p H13 H16 := x14.trans (Exx.ex (e15.trans e16))
          have x716 := x713.trans x1316
          have x616 : Exx p H6 H16 := x7.trans x716
          have tx616 := hp6.tx (K := K) x616
          have hf16 := x616 _ _ nflp hf6
          refine ⟨fl, gvs, _, rfl, rfl, hf16, Nat.lt_of_le_of_lt (by omega : gvs.length ≤ 16) (by decide), ?_⟩
          let g : Gap := ⟨h0, t0, pr, ou.take ln⟩
          have txp : TX K H16 (upd H16 fl (.lst (gvs ++ [.ref G]))) := TX.put hf16
          have hbag16 : Paired (Wd K H16) (ov.take ln) (ou.take ln) := Paired.imp (fun _ _ => Wd.mono (hp13.tx x1316)) hbag
          have gAt : GF K H16 (.ref G) g := ⟨⟨G, W, ov.take ln, rfl, gG, e16 _ _ gW, hbag16⟩, G, pr, .ref W, rfl, gG⟩
          have otl : (ov.take ln).length = (ou.take ln).length := Paired.len hbag16
          refine ⟨gvs ++ [.ref G], gs ++ [g], (ln : Int) - ((ov.take ln).length : Int), _, _, _, rfl, (x6.trans x616).mut nfl0, (hp16.put nflp nflc).mono (by omega), by rw [upd_ne (Ne.symm nfz)]; exact x616 _ _ nzp hz6, Paired.imp (fun _ _ => Wd.mono (tx616.trans txp)) hsv6, by rw [upd_ne (Ne.symm nfw)]; exact x616 _ _ nwp hwl6, Paired.imp (fun _ _ => Wd.mono (tx616.trans txp)) hws6, upd_same, ?_, ⟨?_, ?_, ?_⟩, ?_⟩
          · exact Paired.imp (fun _ _ => GF.mono txp) (paired_app1 (Paired.imp (fun _ _ => GF.mono tx616) hg6) gAt)
          · intro g' hg'
            rcases List.mem_append.mp hg' with h | h
            · exact hd6.each g' h
            · rw [List.mem_singleton.mp h]
              refine ⟨⟨h00, h01'⟩, ⟨t00, t01⟩, hne, ⟨pr1, pr2⟩, ?_, ?_⟩
              · exact (lex_pairwise opm tnd (fun w hw => hbd w (sbt w hw)) opw).sublist (List.take_sublist ln ou)
              · exact fun w hw => sbt w (opm.mem_iff.mp (List.mem_of_mem_take hw))
          · have h := hd6.sum
            rw [List.map_append, List.sum_append, otl]
            simp only [List.map_cons, List.map_nil, List.sum_cons, List.sum_nil]
            show ((((gs.map (fun g => g.ways.length)).sum + ((ou.take ln).length + 0) : Nat)) : Int) + ((ln : Int) - ((ou.take ln).length : Int)) = 8
            omega
          · have : (ov.take ln).length ≤ ln := by rw [List.length_take]; exact Nat.min_le_left _ _
            omega
          · rw [take_succ_get hu0, List.map_append]
            exact List.Sublist.append sub6 (List.Sublist.refl _)
        · exact ⟨gvs, gs, left, _, _, _, rfl, x6.trans x7, hp7.mono (by omega), x7 _ _ nzp hz6, Paired.imp (fun _ _ => Wd.mono tx7) hsv6, x7 _ _ nwp hwl6, Paired.imp (fun _ _ => Wd.mono tx7) hws6, x7 _ _ nflp hf6, Paired.imp (fun _ _ => GF.mono tx7) hg6, hd6, subS⟩
      · rintro σ H6 ⟨gvs, gs, left, y7, y8, y9, rfl, x6, hp6, hz6, hsv6, hwl6, hws6, hf6, hg6, hd6, sub6⟩
        rw [svl, List.take_length] at sub6
        have gvl : gvs.length = gs.length := Paired.len hg6
        have gsl : gs.length ≤ 16 := by
          have := sub6.length_le
          rw [List.length_map] at this
          omega
        have gnd : (gs.map gKey).Nodup := sub6.nodup snd
        have kx : ∀ x ∈ gvs, ∃ g ∈ gs, GF K H6 x g ∧ kH H6 x = (g.frm, g.to_) := fun x hx => by
          obtain ⟨i, hi⟩ := List.mem_iff_getElem?.mp hx
          obtain ⟨g, hg, hgf⟩ := Paired.get1 hg6 hi
          exact ⟨g, List.mem_of_getElem? hg, hgf, kH_of hgf.2⟩
        refine ⟨.ref fl, rfl, fl, gvs, kH H6, rfl, SqL.of hf6, by omega, fun x hx => ?_, fun x hx y hy e => ?_, fun ys O pmy pw nO => ?_⟩
        · obtain ⟨g, hg, ⟨_, t, q0, y0, rfl, ht⟩, hk⟩ := kx x hx
          obtain ⟨⟨a1, a2⟩, ⟨a3, a4⟩, _⟩ := hd6.each g hg
          refine ⟨t, q0, y0, rfl, ?_, ?_⟩
          · rw [hk]
            exact .inl (.inl ht)
          · rw [hk]
            exact ⟨a1, by show g.frm < 4; omega, a3, by show g.to_ < 4; omega⟩
        · obtain ⟨i, hi⟩ := List.mem_iff_getElem?.mp hx
          obtain ⟨j, hj⟩ := List.mem_iff_getElem?.mp hy
          obtain ⟨g, hg, hgf⟩ := Paired.get1 hg6 hi
          obtain ⟨g', hg', hgf'⟩ := Paired.get1 hg6 hj
          rw [kH_of hgf.2, kH_of hgf'.2] at e
          have ek : gKey g = gKey g' := by
            have q1 : g.frm = g'.frm := congrArg Prod.fst e
            have q2 : g.to_ = g'.to_ := congrArg Prod.snd e
            unfold gKey
            rw [q1, q2]
          have e1 : (gs.map gKey)[i]? = some (gKey g) := by rw [List.getElem?_map, hg]; rfl
          have e2 : (gs.map gKey)[j]? = some (gKey g) := by rw [List.getElem?_map, hg', ek]; rfl
          have il := (List.getElem?_eq_some_iff.mp e1).1
          have ij : i = j := (List.getElem?_inj il gnd).mp (e1.trans e2.symm)
          subst ij
          rw [hi] at hj
          exact Option.some.inj hj
        · obtain ⟨gs2, gpm, hgy⟩ := paired_perm pmy hg6
          have e7 := Evl.Ex.new (o := .lst ys) nO
          have gO : (upd H6 O (.lst ys)) O = some (.lst ys) := upd_same
          have hp7 := hp6.ex e7
          generalize upd H6 O (.lst ys) = H7 at e7 gO hp7
          refine ⟨O, ys, rfl, .inl ⟨.inl (.inl gO), fun t nt => ?_⟩⟩
          have e8 := Evl.Ex.new (o := .tup ys) nt
          have gt : (upd H7 t (.tup ys)) t = some (.tup ys) := upd_same
          have hp8 := hp7.ex e8
          generalize upd H7 t (.tup ys) = H8 at e8 gt hp8
          refine q H8 t ys gs2 left (x6.trans (Exx.ex (e7.trans e8))) (hp8.mono (by omega)) gt (Paired.imp (fun _ _ h => GapS.mono (TX.ex (e7.trans e8)) h.1) hgy) ⟨⟨fun g hg => hd6.each g (gpm.mem_iff.mp hg), ?_, hd6.left0⟩, ?_⟩
          · rw [(gpm.map (fun g => g.ways.length)).sum_nat]
            exact hd6.sum
          · have nd2 : (gs2.map gKey).Nodup := (gpm.map gKey).nodup_iff.mpr gnd
            rw [List.pairwise_iff_getElem]
            intro i j hi hj hij
            have ysl : ys.length = gs2.length := Paired.len hgy
            obtain ⟨gi, hgi, fi⟩ := Paired.get1 hgy (List.getElem?_eq_getElem (show i < ys.length by omega))
            obtain ⟨gj, hgj, fj⟩ := Paired.get1 hgy (List.getElem?_eq_getElem (show j < ys.length by omega))
            have c := List.pairwise_iff_getElem.mp pw i j (by omega) (by omega) hij
            rw [kH_of fi.2, kH_of fj.2] at c
            have ei : gs2[i] = gi := by rw [List.getElem?_eq_getElem hi] at hgi; exact Option.some.inj hgi
            have ej : gs2[j] = gj := by rw [List.getElem?_eq_getElem hj] at hgj; exact Option.some.inj hgj
            have ne := List.pairwise_iff_getElem.mp nd2 i j (by rw [List.length_map]; exact hi) (by rw [List.length_map]; exact hj) hij
            rw [List.getElem_map, List.getElem_map, ei, ej] at ne
            rw [ei, ej]
            obtain ⟨⟨a1, a2⟩, ⟨a3, a4⟩, _⟩ := hd6.each gi (gpm.mem_iff.mp (by rw [← ei]; exact List.getElem_mem hi))
            obtain ⟨⟨b1, b2⟩, ⟨b3, b4⟩, _⟩ := hd6.each gj (gpm.mem_iff.mp (by rw [← ej]; exact List.getElem_mem hj))
            unfold TS.rk4 at c
            have c' : 4 * gi.frm + gi.to_ ≤ 4 * gj.frm + gj.to_ := c
            unfold gKey at ne
            have ne' : ¬ (gi.frm = gj.frm ∧ gi.to_ = gj.to_) := fun z => ne (by rw [z.1, z.2])
            unfold lexLt2
            omega
end
end Wb

set_option Elab.async false
set_option linter.all false
set_option maxRecDepth 100000
set_option maxHeartbeats 4000000
set_option pp.maxSteps 600
set_option pp.deepTerms false
namespace Wb
open PySem PySem.Spec PyProof.Rows L2
abbrev sLock : Stmt := topS 45
abbrev nLock : List Str := ["_law_pen_here", "_law_many_here", "_law_top", "_law_dear", "_law_k", "_law_counts", "_law_bolts", "_law_spare", "_law_bases_here", "_law_words", "_law_count"]
theorem scLock : FnScope nLock ["_law_pen_here", "_law_many_here", "_law_top", "_law_dear"] (defScope sLock) := ⟨rfl, rfl, rfl, by decide +kernel, rfl, by decide +kernel, by decide +kernel⟩
/-! ### locks as they are drawn -/
structure BGood (wds : List Int) (srcs : List Word) (k : Nat) (b : Bolt) : Prop where
  many : wds[k]? = some b.many
  ex : ∃ ws left, Drawn b.many ws b.gaps left ∧ ∀ w ∈ ws, InAll w (wds.take k) ∧ ∃ s ∈ srcs, w = s.take k
theorem BGood.mono {wds : List Int} {srcs srcs' : List Word} {k : Nat} {b : Bolt} (h : BGood wds srcs k b) (hs : ∀ s ∈ srcs, s ∈ srcs') : BGood wds srcs' k b := by
  obtain ⟨m, ws, left, a, d⟩ := h
  refine ⟨m, ws, left, a, fun w hw => ?_⟩
  obtain ⟨h1, s, h2, h3⟩ := d w hw
  exact ⟨h1, s, hs s h2, h3⟩
theorem lockOk_drawn {wds : List Int} {srcs : List Word} {l : Lock} (hl : l.length = wds.length) (h0 : 1 ≤ l.length) (h60 : l.length ≤ 60) (hw : ∀ x ∈ wds, 2 ≤ x ∧ x ≤ 4) (hs : srcs.length ≤ 8)
    (hb : ∀ k b, l[k]? = some b → BGood wds srcs k b) : LockOk l := by
  have mk : ∀ k, k ≤ l.length → manysOf (l.take k) = wds.take k := by
    intro k hk
    apply List.ext_getElem?
    intro i
    unfold manysOf
    rw [List.getElem?_map, List.getElem?_take, List.getElem?_take]
    by_cases hi : i < k
    · rw [if_pos hi, if_pos hi]
      have hil : i < l.length := by omega
      rw [List.getElem?_eq_getElem hil]
      rw [(hb i l[i] (List.getElem?_eq_getElem hil)).many]
      rfl
    · rw [if_neg hi, if_neg hi]
      rfl
  refine ⟨h0, h60, fun k b hk => ?_, fun k ws hk hn hc => ?_⟩
  · have kl : k < l.length := (List.getElem?_eq_some_iff.mp hk).1
    obtain ⟨hm, ws, left, hd, hws⟩ := hb k b hk
    rw [mk k (Nat.le_of_lt kl)]
    have hm2 := hw _ (List.mem_of_getElem? hm)
    have sum8 : (b.gaps.map (fun g => g.ways.length)).sum ≤ 8 := by
      have h1 := hd.sum
      have h2 := hd.left0
      omega
    refine ⟨hm2.1, hm2.2, fun g hg => ?_, hd.rise, sum8⟩
    obtain ⟨⟨a1, a2⟩, ⟨a3, a4⟩, a5, ⟨a6, a7⟩, a8, a9⟩ := hd.each g hg
    have g8 : g.ways.length ≤ 8 := by
      have : g.ways.length ≤ (b.gaps.map (fun g => g.ways.length)).sum := le_sum (List.mem_map.mpr ⟨g, hg, rfl⟩)
      omega
    refine ⟨a1, a2, a3, a4, a5, a6, a7, g8, fun w' hw' => ?_, a8⟩
    have := (hws w' (a9 w' hw')).1
    exact ⟨this.1, this.2⟩
  · have : ws.length ≤ (srcs.map (fun s => s.take k)).length := by
      refine nodup_le hn fun w' hw' => ?_
      obtain ⟨j, b, g, u, hj, hbj, hg, hu, rfl⟩ := hc w' hw'
      obtain ⟨_, ws', left, hd, hws⟩ := hb j b hbj
      obtain ⟨_, s, hs', rfl⟩ := hws u ((hd.each g hg).2.2.2.2.2 u hu)
      refine List.mem_map.mpr ⟨s, hs', ?_⟩
      rw [List.take_take, Nat.min_eq_left hj]
    rw [List.length_map] at this
    omega

def spLock (K : PySem.W.Frag) : Sp := fun vs H Q _ => ∃ (p c : Addr) (many dear T : Int), vs = [.ref p, .int many, .int 4, .int dear] ∧ PenAt H p c T ∧ T ≤ 7000000 ∧ 1 ≤ many ∧ many ≤ 60 ∧ 1 ≤ dear ∧ dear ≤ 1000000 ∧
  ∀ H' v l, Exx p H H' → PenAt H' p c (T + 160000) → LockS K H' v l → LockOk l → (l.length : Int) = many → Q v H'
theorem small_in {wds : List Int} {u : Word} (h : InAll u wds) (hl : wds.length ≤ 60) (hw : ∀ x ∈ wds, 2 ≤ x ∧ x ≤ 4) : u.length ≤ 60 ∧ ∀ x ∈ u, 0 ≤ x ∧ x < 4 := by
  refine ⟨by have := h.1; omega, fun x hx => ?_⟩
  obtain ⟨j, hj, rfl⟩ := List.getElem_of_mem hx
  have hjk : j < wds.length := by have := h.1; omega
  have := h.2 j _ _ (List.getElem?_eq_getElem hj) (List.getElem?_eq_getElem hjk)
  have h4 := hw wds[j] (List.getElem_mem hjk)
  omega
section
variable {P : Program} {w : World} {K : PySem.W.Frag} {mg : Str → Option Value} {base : Heap}
theorem ok_lock {f f1 f2 f3 f4 f5 f6 f7 : Addr} {fd fd1 fd2 fd3 fd4 fd5 fd6 fd7 : FuncData} (F : Fun K "_law_lock" "_law_lock" sLock f fd) (F1 : Fun K "_law_draw" "_law_draw" sDraw f1 fd1) (b1 : Binds K fd1 ["_law_pen_here", "_law_many_here"] []) (g1 : mg "_law_draw" = some (.ref f1))
    (F2 : Fun K "_law_pick" "_law_pick" sPick f2 fd2) (b2 : Binds K fd2 ["_law_pen_here", "_law_bag"] []) (g2 : mg "_law_pick" = some (.ref f2))
    (F3 : Fun K "_law_shuffled" "_law_shuffled" sShuf f3 fd3) (b3 : Binds K fd3 ["_law_pen_here", "_law_bag"] []) (g3 : mg "_law_shuffled" = some (.ref f3))
    (F4 : Fun K "_law_price" "_law_price" sPrc f4 fd4) (b4 : Binds K fd4 ["_law_pen_here", "_law_dear"] []) (g4 : mg "_law_price" = some (.ref f4))
    (F5 : Fun K "_law_bases" "_law_bases" sBases f5 fd5) (b5 : Binds K fd5 ["_law_pen_here", "_law_counts", "_law_most"] []) (g5 : mg "_law_bases" = some (.ref f5))
    (F6 : Fun K "_law_cuts" "_law_cuts" sCuts f6 fd6) (b6 : Binds K fd6 ["_law_words", "_law_many_here"] []) (g6 : mg "_law_cuts" = some (.ref f6))
    (F7 : Fun K "_law_gaps" "_law_gaps" sGaps f7 fd7) (b7 : Binds K fd7 ["_law_pen_here", "_law_count", "_law_words", "_law_dear"] []) (g7 : mg "_law_gaps" = some (.ref f7)) (B : Bi mg) :
    FnOk P w K mg base CX0 5 f fd ["_law_pen_here", "_law_many_here", "_law_top", "_law_dear"] (spLock K) := by
  have G1 : FnOk P w K mg base CX0 1 f1 fd1 ["_law_pen_here", "_law_many_here"] spDraw := ok_draw F1 B
  have G5 : FnOk P w K mg base CX0 2 f5 fd5 ["_law_pen_here", "_law_counts", "_law_most"] (spBases K) := ok_bases F5 F1 b1 g1 B
  have G6 : FnOk P w K mg base CX0 1 f6 fd6 ["_law_words", "_law_many_here"] (spCuts K) := ok_cuts F6
  have G7 : FnOk P w K mg base CX0 4 f7 fd7 ["_law_pen_here", "_law_count", "_law_words", "_law_dear"] (spGaps K) := ok_gaps F7 F1 b1 g1 F2 b2 g2 F3 b3 g3 F4 b4 g4 B
  refine F.ok scLock (fun vs H Q E h => ?_) (fun cdv A outer s H vs Q E hr h => ?_)
  · obtain ⟨p, c, many, dear, T, rfl, _⟩ := h; rfl
  · obtain ⟨p, c, many, dear, T, rfl, hp, T8, m1, m60, dd1, dd2, q⟩ := h
    have hr1 : Room 1 _ := hr.mono (by decide)
    have hr2 : Room 2 _ := hr.mono (by decide)
    refine ⟨_, pss_cons (ps_par3 (by rfl) scLock.nd (i := 5) (j := 6) (l := 7) rfl rfl rfl (by decide) (by decide) (by decide) rfl rfl rfl (pa_cons (pe_lc (own := [("_law_k", 4)]) (g := gName 4) rfl scLock.nd (pi_range1 (by rfl) B.range (pa_cons (pv 1) pa_nil)) (blkOk_by (own := [("_law_k", 4)]) (N := nLock) (sc := defScope sLock) (by decide +kernel)) (fun _ _ _ _ _ => pg_name (i := 4) scLock.nd rfl (Or.inl rfl)) (fun _ _ _ _ _ => pts_nil) (fun _ _ _ _ _ => pe_op op_add pe_int (pe_call G1 hr1 (by rfl) g1 F1.kp b1 .nil pass0 (pa_cons (pv 0) (pa_cons (pe_op op_sub (pv 2) pe_int) pa_nil))))) (pa_cons (pe_lst pa_nil) (pa_cons pe_int pa_nil))) (by rfl))
      (pss_cons (ps_set (i := 8) scLock.nd rfl (.inl rfl) (pe_call G5 hr2 (by rfl) g5 F5.kp b5 .nil pass0 (pa_cons (pv 0) (pa_cons (pv 5) (pa_cons pe_int pa_nil)))))
      (pss_cons (ps_for PassesOwn.never rfl (pi_range1 (by rfl) B.range (pa_cons (pv 1) pa_nil)) (pg_name (i := 4) scLock.nd rfl (.inl rfl))
        (pss_cons (ps_set (i := 9) scLock.nd rfl (.inl rfl) (pe_call G6 hr1 (by rfl) g6 F6.kp b6 .nil pass0 (pa_cons (pv 8) (pa_cons (pv 4) pa_nil))))
        (Evl.pss_cut (ps_if (PW.pt (pw_and (pt_cmpR op_gt (pv 4) pe_int (nomark _)) (pw_and (pt_cmpR op_gt (pv 7) pe_int (nomark _)) (pw_and1 (pt_cmpR op_eq (pe_call G1 hr1 (by rfl) g1 F1.kp b1 .nil pass0 (pa_cons (pv 0) (pa_cons pe_int pa_nil))) pe_int (nomark _))))))
            (pss_cons (ps_set (i := 9) scLock.nd rfl (.inl rfl) (pe_call G6 hr1 (by rfl) g6 F6.kp b6 .nil pass0 (pa_cons (pe_op op_cat (pv 9) (pe_lst (pa_cons (pe_callTy (r := rTupK K) call_tupK (by rfl) B.tuple PyProof.Rows.boot_tuple (pa_cons
                (pe_lc (own := [("_law_count", 10)]) (g := gName 10) rfl scLock.nd (pi_list (pe_slice sl_list (pv 5) po_none (po_some (pv 4)))) (blkOk_by (own := [("_law_count", 10)]) (N := nLock) (sc := defScope sLock) (by decide +kernel))
                  (fun _ _ _ _ _ => pg_name (i := 10) scLock.nd rfl (Or.inl rfl)) (fun _ _ _ _ _ => pts_nil)
                  (fun _ _ _ _ _ => pe_call G1 hr1 (by rfl) g1 F1.kp b1 .nil pass0 (pa_cons (pv 0) (pa_cons (pv 10) pa_nil)))) pa_nil)) pa_nil))) (pa_cons (pv 4) pa_nil))))
            (pss_one (ps_set (i := 7) scLock.nd rfl (.inl rfl) (pe_op op_sub (pv 7) pe_int)))) pss_nil)
        (pss_one (ps_expr (pe_bm PySem.F.plainAttrs_list PySem.F.slot_list_append PySem.F.type_list_append mt_append (pv 6) (pa_cons
          (pe_tup (pa_cons (pe_ix ix_list (pv 5) (pv 4) (fun _ _ => rfl)) (pa_cons (pe_call G7 hr (by rfl) g7 F7.kp b7 .nil pass0 (pa_cons (pv 0) (pa_cons (pe_ix ix_list (pv 5) (pv 4) (fun _ _ => rfl)) (pa_cons (pv 9) (pa_cons (pv 3) pa_nil))))) pa_nil))) pa_nil)))))))
      (pss_one (ps_ret (pe_callTy (r := rTupK K) call_tupK (by rfl) B.tuple PyProof.Rows.boot_tuple (pa_cons (pv 6) pa_nil)))))), ?_⟩
    refine ⟨.int many, rfl, many, rfl, by omega, by omega, fun W nW => ?_⟩
    have nWp : W ≠ p := hp.new1 nW
    have nWc : W ≠ c := hp.new2 nW
    refine lc_range (lo := 0) (n := many.toNat) (fun i H' => ∃ wds : List Int, Exx p H H' ∧ PenAt H' p c (T + (i : Nat)) ∧ H' W = some (.lst (wds.map V.int)) ∧ wds.length = i ∧ ∀ x ∈ wds, 2 ≤ x ∧ x ≤ 4) ⟨[], Exx.ex (Evl.Ex.new nW), ?_, upd_same, rfl, fun x hx => (by cases hx)⟩ ?_ ?_
    · have := hp.put (o := .lst []) nWp nWc
      simpa using this
    · rintro i H1 hi ⟨wds, x1, hp1, hW1, wl, hw⟩
      refine ⟨rfl, ?_⟩
      refine ⟨.ref p, rfl, .int 4, rfl, 4, 1, rfl, rfl, p, c, _, _, rfl, hp1, (by decide : (1 : Int) ≤ 4 - 1), (by decide : (4 : Int) - 1 ≤ 1000000), by omega, fun r H2 r0 r1 x2 hp2 => ?_⟩
      refine ⟨2, r, rfl, rfl, _, x2 _ _ nWp hW1, Nat.lt_of_le_of_lt (by rw [List.length_map, wl]; omega : (wds.map V.int).length ≤ 60) (by decide), wds ++ [2 + r], (x1.trans x2).mut nW, (hp2.put nWp nWc).mono (by omega), by rw [upd_same, List.map_append]; rfl, by rw [List.length_append, wl]; rfl, ?_⟩
      intro x hx
      rcases List.mem_append.mp hx with h | h
      · exact hw x h
      · have : x = 2 + r := by simpa using h
        omega
    · rintro H1 ⟨wds, x1, hp1, hW1, wl, hw⟩
      refine ⟨Nat.zero_le _, fun bl nbl => ?_⟩
      have nblp : bl ≠ p := hp1.new1 nbl
      have nblc : bl ≠ c := hp1.new2 nbl
      have nblW : bl ≠ W := fun z => by rw [z, hW1] at nbl; cases nbl
      have e2 := Evl.Ex.new (o := .lst []) nbl
      have hbl2 : (upd H1 bl (.lst [])) bl = some (.lst []) := upd_same
      generalize upd H1 bl (.lst []) = H3 at e2 hbl2
      refine ⟨.ref W, .ref bl, .int 4, rfl, ?_⟩
      have hW3 : H3 W = some (.lst (wds.map V.int)) := e2 _ _ hW1
      have hp3 := hp1.ex e2
      have x3 : Exx p H H3 := x1.trans (Exx.ex e2)
      have nbl0 : H bl = none := fresh_exx x1 hp1.here nbl
      have wlen : (wds.length : Int) = many := by omega
      have wds60 : wds.length ≤ 60 := by omega
      have hw1 : ∀ x ∈ wds, 1 ≤ x ∧ x ≤ 1000000 := fun x hx => by have := hw x hx; omega
      refine ⟨.ref p, rfl, .ref W, rfl, p, c, W, 3, _, wds, rfl, hp3, by omega, hW3, nWp, by decide, by decide, wds60, (fun x hx => by have := hw x hx; omega), fun H4 bs bvs bases x4 hp4 nbs hbs hbv bl3 hb => ?_⟩
      have nbsp : bs ≠ p := hp3.new1 nbs
      have nbsbl : bs ≠ bl := fun z => by rw [z, hbl2] at nbs; cases nbs
      have nbsW : bs ≠ W := fun z => by rw [z, hW3] at nbs; cases nbs
      have hW4 := x4 _ _ nWp hW3
      have hbl4 := x4 _ _ nblp hbl2
      have smb : SmallW bases := fun u hu => by
        obtain ⟨a, b⟩ := small_in (hb u hu) wds60 hw
        exact ⟨a, fun x hx => by have := b x hx; omega⟩
      -- the bolts
      refine ⟨.int many, rfl, many, rfl, by omega, by omega, ?_⟩
      refine for_range (lo := 0) (n := many.toNat) (fun k σ H' => ∃ (spare : Int) (lvs : List V) (l : Lock) (srcs : List Word) (y4 y9 y10 : Option V), σ = [some (.ref p), some (.int many), some (.int 4), some (.int dear), y4, some (.ref W), some (.ref bl), some (.int spare), some (.ref bs), y9, y10] ∧
          Exx p H H' ∧ PenAt H' p c (T + 300 + 2200 * (k : Nat)) ∧ H' W = some (.lst (wds.map V.int)) ∧ H' bs = some (.lst bvs) ∧ Paired (Wd K H') bvs bases ∧ H' bl = some (.lst lvs) ∧ Paired (BoltS K H') lvs l ∧ l.length = k ∧
          (∀ s ∈ bases, s ∈ srcs) ∧ (srcs.length : Int) + spare ≤ 8 ∧ 0 ≤ spare ∧ ∀ j b, l[j]? = some b → BGood wds srcs j b)
        ⟨4, [], [], bases, _, _, _, rfl, x3.trans x4, hp4.mono (by omega), hW4, hbs, hbv, hbl4, .nil, rfl, fun s h => h, by omega, by decide, fun j b h => by simp at h⟩ ?_ ?_
      · rintro k σ H6 hk ⟨spare, lvs, l, srcs, y4, y9, y10, rfl, x6, hp6, hW6, hbs6, hbv6, hbl6, hlv6, ll, hsub, hspare, spare0, hgood⟩
        have ek : (0 : Int) + (k : Nat) = ((k : Nat) : Int) := by omega
        rw [ek]
        have kl : k < wds.length := by omega
        refine ⟨.ref bs, rfl, .int (k : Nat), rfl, bs, k, bvs, bases, rfl, SqL.of hbs6, hbv6, smb, by omega, fun H7 wlA wv us e7 nwl hwl7 hwv7 und hus ulen => ?_⟩
        have hp7 := hp6.ex e7
        have nwlp : wlA ≠ p := hp6.new1 nwl
        have w0 : ∀ u ∈ us, InAll u (wds.take k) ∧ ∃ s ∈ srcs, u = s.take k := fun u hu => by
          obtain ⟨b0, hb0, rfl⟩ := hus u hu
          exact ⟨inAll_take (hb b0 hb0) k, b0, hsub b0 hb0, rfl⟩
        refine ⟨fun σ' H' => ∃ (spare' : Int) (wlB : Addr) (vs' : List V) (words : List Word) (srcs' : List Word) (y10 : Option V), σ' = [some (.ref p), some (.int many), some (.int 4), some (.int dear), some (.int (k : Nat)), some (.ref W), some (.ref bl), some (.int spare'), some (.ref bs), some (.ref wlB), y10] ∧
            Exx p H6 H' ∧ PenAt H' p c (T + 300 + 2200 * (k : Nat) + 70) ∧ wlB ≠ p ∧ H' wlB = some (.lst vs') ∧ Paired (Wd K H') vs' words ∧ words.length ≤ 4 ∧ words.Nodup ∧ (∀ u ∈ words, InAll u (wds.take k) ∧ ∃ s ∈ srcs', u = s.take k) ∧ (∀ s ∈ srcs, s ∈ srcs') ∧ (srcs'.length : Int) + spare' ≤ 8 ∧ 0 ≤ spare', ?_, ?_⟩
        · have same : ∀ {Hx : Hp} {z10 : Option V}, Exx p H7 Hx → PenAt Hx p c (T + 300 + 2200 * (k : Nat) + 70) → ∃ (spare' : Int) (wlB : Addr) (vs' : List V) (words : List Word) (srcs' : List Word) (y10 : Option V), ([some (.ref p), some (.int many), some (.int 4), some (.int dear), some (.int (k : Nat)), some (.ref W), some (.ref bl), some (.int spare), some (.ref bs), some (.ref wlA), z10] : L2.St) = [some (.ref p), some (.int many), some (.int 4), some (.int dear), some (.int (k : Nat)), some (.ref W), some (.ref bl), some (.int spare'), some (.ref bs), some (.ref wlB), y10] ∧
              Exx p H6 Hx ∧ PenAt Hx p c (T + 300 + 2200 * (k : Nat) + 70) ∧ wlB ≠ p ∧ Hx wlB = some (.lst vs') ∧ Paired (Wd K Hx) vs' words ∧ words.length ≤ 4 ∧ words.Nodup ∧ (∀ u ∈ words, InAll u (wds.take k) ∧ ∃ s ∈ srcs', u = s.take k) ∧ (∀ s ∈ srcs, s ∈ srcs') ∧ (srcs'.length : Int) + spare' ≤ 8 ∧ 0 ≤ spare' := by
            intro Hx z10 ex hpx
            exact ⟨spare, wlA, wv, us, srcs, _, rfl, (Exx.ex e7).trans ex, hpx, nwlp, ex _ _ nwlp hwl7, Paired.imp (fun _ _ => Wd.mono (hp7.tx ex)) hwv7, by omega, und, w0, fun s h => h, hspare, spare0⟩
          refine ⟨.int (k : Nat), rfl, (k : Nat), 0, rfl, rfl, _, rfl, ?_⟩
          refine ite2 (fun _ => ?_) (fun _ => same (Exx.refl p H7) (hp7.mono (by omega)))
          refine ⟨.int spare, rfl, spare, 0, rfl, rfl, _, rfl, ?_⟩
          refine ite2 (fun hgt => ?_) (fun _ => same (Exx.refl p H7) (hp7.mono (by omega)))
          have hgt' : 0 < spare := of_decide_eq_true hgt
          refine ⟨.ref p, rfl, p, c, 4, _, rfl, hp7, by decide, by decide, by omega, fun r' H8 _ _ x8 hp8 => ?_⟩
          refine ⟨rfl, _, rfl, ?_⟩
          refine ite2 (fun _ => ?_) (fun _ => same x8 (hp8.mono (by omega)))
          -- one word more
          have hwl8 := x8 _ _ nwlp hwl7
          have hW8 : H8 W = some (.lst (wds.map V.int)) := x8 _ _ nWp (e7 _ _ hW6)
          have hwv8 : Paired (Wd K H8) wv us := Paired.imp (fun _ _ => Wd.mono (hp7.tx x8)) hwv7
          refine ⟨.ref wlA, rfl, ?_⟩
          refine tcons1 ?_
          refine tcb1 ?_
          refine lc_draws (K := K) (vs := [10]) (i := 10) (wds := wds.take k) (p := p) (c := c) (T := T + 300 + 2200 * (k : Nat) + 1) (hp8.mono (by omega)) ?_ (by omega) (fun x hx => hw1 x (List.mem_of_mem_take hx)) (by rw [List.length_take]; omega) ?_ ?_ ?_ ?_
          rotate_left
          · exact fun _ => rfl
          · exact fun _ => rfl
          · exact fun _ => rfl
          rotate_left
          · intro Q' h
            refine ⟨.ref W, rfl, .int (k : Nat), rfl, (k : Nat), rfl, W, _, rfl, .inl (.inl hW8), fun S nS => ?_⟩
            rw [cut_take, ← List.map_take]
            have e9 := Evl.Ex.new (o := .lst ((wds.take k).map V.int)) nS
            exact h S _ (Exx.ex e9) ((hp8.ex e9).mono (by omega)) (.inl (.inl upd_same)) (hp8.new1 nS)
          · intro H9 D xs x9 hp9 nD hD hin
            have hpt : (((wds.take k).length : Nat) : Int) ≤ 60 := by rw [List.length_take]; omega
            refine ⟨D, _, rfl, .inl ⟨.inl (.inl hD), fun t nt => ?_⟩⟩
            have e10 := Evl.Ex.new (o := .tup (xs.map V.int)) nt
            have gt : (upd H9 t (.tup (xs.map V.int))) t = some (.tup (xs.map V.int)) := upd_same
            generalize upd H9 t (.tup (xs.map V.int)) = H10 at e10 gt
            refine ⟨(by show 1 ≤ sizeLine; decide), fun one n1 => ?_⟩
            have e11 := Evl.Ex.new (o := .lst [.ref t]) n1
            have g1' : (upd H10 one (.lst [.ref t])) one = some (.lst [.ref t]) := upd_same
            generalize upd H10 one (.lst [.ref t]) = H11 at e11 g1'
            have x811 : Exx p H8 H11 := x9.trans (Exx.ex (e10.trans e11))
            have hwl11 := x811 _ _ nwlp hwl8
            have wvl : wv.length = us.length := Paired.len hwv8
            refine ⟨wlA, one, _, _, rfl, rfl, hwl11, g1', Nat.le_trans (by rw [List.length_singleton]; omega : wv.length + [V.ref t].length ≤ 10) (by decide), fun cat nc => ?_⟩
            have e12 := Evl.Ex.new (o := .lst (wv ++ [.ref t])) nc
            have gc : (upd H11 cat (.lst (wv ++ [.ref t]))) cat = some (.lst (wv ++ [.ref t])) := upd_same
            generalize upd H11 cat (.lst (wv ++ [.ref t])) = H12 at e12 gc
            have x812 : Exx p H8 H12 := x811.trans (Exx.ex e12)
            have hpw : Paired (Wd K H12) (wv ++ [.ref t]) (us ++ [xs]) := paired_app1 (Paired.imp (fun _ _ => Wd.mono (hp8.tx x812)) hwv8) ⟨t, rfl, (e11.trans e12) _ _ gt⟩
            have xl : xs.length = k := by
              have := hin.1
              rw [List.length_take] at this
              omega
            have wk4 : ∀ x ∈ wds.take k, 2 ≤ x ∧ x ≤ 4 := fun x hx => hw x (List.mem_of_mem_take hx)
            have sm2 : SmallW (us ++ [xs]) := fun u hu => by
              have : InAll u (wds.take k) := by
                rcases List.mem_append.mp hu with h | h
                · exact (w0 u h).1
                · rw [List.mem_singleton.mp h]; exact hin
              obtain ⟨a, b⟩ := small_in this (by rw [List.length_take]; omega) wk4
              exact ⟨a, fun x hx => by have := b x hx; omega⟩
            refine ⟨.int (k : Nat), rfl, cat, k, _, _, rfl, SqL.of gc, hpw, sm2, by rw [List.length_append, List.length_singleton]; omega, fun H13 wlB vs' words e13 nwB hwB hv' wnd hws' wl4 => ?_⟩
            refine ⟨.int spare, rfl, spare, 1, rfl, rfl, ?_⟩
            have hp13 := (hp9.ex (e10.trans (e11.trans (e12.trans e13))))
            have nwBp : wlB ≠ p := (hp9.ex (e10.trans (e11.trans e12))).new1 nwB
            refine ⟨spare - 1, wlB, vs', words, srcs ++ [xs], _, rfl, (Exx.ex e7).trans (x8.trans (x812.trans (Exx.ex e13))), hp13.mono (by omega), nwBp, hwB, hv', by rw [List.length_append, List.length_singleton] at wl4; omega, wnd, ?_, fun s h => List.mem_append_left _ h, by rw [List.length_append, List.length_singleton]; omega, by omega⟩
            intro u hu
            obtain ⟨w', hw', rfl⟩ := hws' u hu
            rcases List.mem_append.mp hw' with h | h
            · obtain ⟨h1, s', h2, h3⟩ := w0 w' h
              have lw : w'.length = k := by
                have := h1.1
                rw [List.length_take] at this
                omega
              rw [List.take_of_length_le (by omega)]
              exact ⟨h1, s', List.mem_append_left _ h2, h3⟩
            · rw [List.mem_singleton.mp h, List.take_of_length_le (by omega)]
              exact ⟨hin, xs, List.mem_append_right _ (by simp), by rw [List.take_of_length_le (by omega)]⟩
        · rintro σ' H8 ⟨spare', wlB, vs', words, srcs', z10, rfl, x8, hp8, nwBp, hwB8, hv8, wd4, wnd, hwords, hsrcs, hspare', spare0'⟩
          have hW8 : H8 W = some (.lst (wds.map V.int)) := x8 _ _ nWp hW6
          have hbl8 : H8 bl = some (.lst lvs) := x8 _ _ nblp hbl6
          obtain ⟨wd, hwd⟩ : ∃ wd, wds[k]? = some wd := ⟨wds[k], List.getElem?_eq_getElem kl⟩
          have hwd2 := hw wd (List.mem_of_getElem? hwd)
          have wk4 : ∀ x ∈ wds.take k, 2 ≤ x ∧ x ≤ 4 := fun x hx => hw x (List.mem_of_mem_take hx)
          have bd : ∀ u ∈ words, u.length = k ∧ TS.Bd 4 u := fun u hu => by
            obtain ⟨h1, _⟩ := hwords u hu
            obtain ⟨_, b⟩ := small_in h1 (by rw [List.length_take]; omega) wk4
            have := h1.1
            rw [List.length_take] at this
            exact ⟨by omega, b⟩
          refine ⟨.ref bl, rfl, .inl ⟨rfl, _, SqL.of hbl8⟩, ?_⟩
          refine ⟨.ref W, rfl, .int (k : Nat), rfl, W, _, (k : Nat), .int wd, rfl, rfl, .inl (.inl hW8), atI_nat (map_int_get hwd), ?_⟩
          refine ⟨.ref p, rfl, .ref W, rfl, .int (k : Nat), rfl, W, _, (k : Nat), .int wd, rfl, rfl, .inl (.inl hW8), atI_nat (map_int_get hwd), ?_⟩
          refine ⟨.ref wlB, rfl, .int dear, rfl, p, c, wlB, wd, dear, _, vs', words, k, rfl, hp8, by omega, hwd2.1, hwd2.2, dd1, dd2, nwBp, hwB8, hv8, by omega, wnd, by omega, bd, fun H11 ga gvs gs left x11 hp11 hga hgv hdr => ?_⟩
          refine ⟨(by show 2 ≤ sizeLine; decide), fun bt nbt => ?_⟩
          have e12 := Evl.Ex.new (o := .tup [.int wd, .ref ga]) nbt
          have hbt : (upd H11 bt (.tup [.int wd, .ref ga])) bt = some (.tup [.int wd, .ref ga]) := upd_same
          have hp12 := hp11.ex e12
          generalize upd H11 bt (.tup [.int wd, .ref ga]) = H12 at e12 hbt hp12
          have x812 : Exx p H8 H12 := x11.trans (Exx.ex e12)
          have x612 : Exx p H6 H12 := x8.trans x812
          have hbl12 : H12 bl = some (.lst lvs) := x812 _ _ nblp hbl8
          have tx612 : TX K H6 H12 := hp6.tx x612
          have lvl : lvs.length = l.length := Paired.len hlv6
          have hW12 := x612 _ _ nWp hW6
          have hbs12 := x612 _ _ nbsp hbs6
          have nWbl : W ≠ bl := fun z => nblW z.symm
          have bAt : BoltS K H12 (.ref bt) ⟨wd, gs⟩ := ⟨bt, ga, gvs, rfl, hbt, e12 _ _ hga, Paired.imp (fun _ _ => GapS.mono (TX.ex e12)) hgv⟩
          refine ⟨bl, lvs, _, rfl, rfl, hbl12, Nat.lt_of_le_of_lt (by omega : lvs.length ≤ 60) (by decide), ?_⟩
          refine ⟨spare', lvs ++ [.ref bt], l ++ [⟨wd, gs⟩], srcs', _, _, _, rfl, (x6.trans x612).mut nbl0, (hp12.put nblp nblc).mono (by omega), by rw [upd_ne nWbl]; exact hW12, by rw [upd_ne nbsbl]; exact hbs12, ?_, upd_same, ?_, by rw [List.length_append, ll]; rfl, fun s hs => hsrcs s (hsub s hs), hspare', spare0', ?_⟩
          · exact Paired.imp (fun _ _ => Wd.mono (tx612.trans (TX.put hbl12))) hbv6
          · exact Paired.imp (fun _ _ => BoltS.mono (TX.put hbl12)) (paired_app1 (Paired.imp (fun _ _ => BoltS.mono tx612) hlv6) bAt)
          · intro j b hj
            by_cases hjl : j < l.length
            · rw [List.getElem?_append_left hjl] at hj
              exact (hgood j b hj).mono hsrcs
            · rw [List.getElem?_append_right (by omega)] at hj
              have : j = l.length := by
                by_cases e : j - l.length = 0
                · omega
                · rw [List.getElem?_eq_none (by simp; omega)] at hj; cases hj
              subst this
              rw [Nat.sub_self] at hj
              have eb : b = ⟨wd, gs⟩ := (Option.some.inj hj).symm
              subst eb
              rw [ll]
              exact ⟨hwd, words, left, hdr, hwords⟩
      · rintro σ H6 ⟨spare, lvs, l, srcs, y4, y9, y10, rfl, x6, hp6, hW6, hbs6, hbv6, hbl6, hlv6, ll, hsub, hspare, spare0, hgood⟩
        refine ⟨.ref bl, rfl, bl, lvs, rfl, .inl ⟨.inl (.inl hbl6), fun lt nlt => ?_⟩⟩
        have e7 := Evl.Ex.new (o := .tup lvs) nlt
        have lw : l.length = wds.length := by omega
        refine q _ (.ref lt) l (x6.trans (Exx.ex e7)) ((hp6.ex e7).mono (by omega)) ⟨lt, lvs, rfl, upd_same, Paired.imp (fun _ _ => BoltS.mono (TX.ex e7)) hlv6⟩ (lockOk_drawn lw (by omega) (by omega) hw (by omega) hgood) (by omega)
end
end Wb

set_option Elab.async false
set_option linter.all false
set_option maxRecDepth 100000
set_option maxHeartbeats 4000000
set_option pp.maxSteps 600
set_option pp.deepTerms false
namespace Wb
open PySem PySem.Spec PyProof.Rows L2
abbrev sDrawn : Stmt := topS 47
abbrev nDrawn : List Str := ["_law_pen_here", "_law_lock_here", "_law_bolt"]
theorem scDrawn : FnScope nDrawn ["_law_pen_here", "_law_lock_here"] (defScope sDrawn) := ⟨rfl, rfl, rfl, by decide +kernel, rfl, by decide +kernel, by decide +kernel⟩
def spDrawn (K : PySem.W.Frag) : Sp := fun vs H Q _ => ∃ (p c : Addr) (v : V) (l : Lock) (T : Int), vs = [.ref p, v] ∧ PenAt H p c T ∧ T ≤ 9000000 ∧ LockAt K H v l ∧ LockOk l ∧
  ∀ H' u st, Exx p H H' → PenAt H' p c (T + 60) → Wd K H' u st → InAll st (manysOf l) → Q u H'
theorem inAll_mix {xs ys ms : List Int} {j : Nat} (h : InAll xs ms) (h' : InAll ys (ms.take j)) (hj : j ≤ ms.length) : InAll (ys ++ xs.drop j) ms := by
  have yl : ys.length = j := by
    have := h'.1
    rw [List.length_take] at this
    omega
  have xl := h.1
  refine ⟨by rw [List.length_append, List.length_drop]; omega, fun i a b ha hb => ?_⟩
  by_cases hi : i < ys.length
  · rw [List.getElem?_append_left hi] at ha
    exact h'.2 i a b ha (by rw [List.getElem?_take, if_pos (by omega)]; exact hb)
  · rw [List.getElem?_append_right (by omega), List.getElem?_drop] at ha
    exact h.2 i a b (by rw [show j + (i - ys.length) = i by omega] at ha; exact ha) hb
section
variable {P : Program} {w : World} {K : PySem.W.Frag} {mg : Str → Option Value} {base : Heap}
theorem ok_drawn {f f1 : Addr} {fd fd1 : FuncData} (F : Fun K "_law_drawn" "_law_drawn" sDrawn f fd) (F1 : Fun K "_law_draw" "_law_draw" sDraw f1 fd1) (b1 : Binds K fd1 ["_law_pen_here", "_law_many_here"] []) (g1 : mg "_law_draw" = some (.ref f1)) (B : Bi mg) :
    FnOk P w K mg base CX0 2 f fd ["_law_pen_here", "_law_lock_here"] (spDrawn K) := by
  have G1 : FnOk P w K mg base CX0 1 f1 fd1 ["_law_pen_here", "_law_many_here"] spDraw := ok_draw F1 B
  refine F.ok scDrawn (fun vs H Q E h => ?_) (fun cdv A outer s H vs Q E hr h => ?_)
  · obtain ⟨p, c, v, l, T, rfl, _⟩ := h; rfl
  · obtain ⟨p, c, v, l, T, rfl, hp, T9, ⟨a, bs, rfl, ha, hbs⟩, ok, q⟩ := h
    refine ⟨_, pss_one (ps_ret (pe_callTy (r := rTupK K) call_tupK (by rfl) B.tuple PyProof.Rows.boot_tuple (pa_cons
          (pe_lc (own := [("_law_bolt", 2)]) (wi := iTup K (tVar 1)) (g := gName 2) rfl scDrawn.nd (pi_tup (pv 1)) (blkOk_by (own := [("_law_bolt", 2)]) (N := nDrawn) (sc := defScope sDrawn) (by decide +kernel))
            (fun _ _ _ _ _ => pg_name (i := 2) scDrawn.nd rfl (Or.inl rfl)) (fun _ _ _ _ _ => pts_nil)
            (fun _ _ _ _ _ => pe_call G1 hr (by rfl) g1 F1.kp b1 .nil pass0 (pa_cons (pv 0) (pa_cons (pe_ix (r := rIxT K) ix_tup (pv 2) pe_int (fun _ _ => rfl)) pa_nil)))) pa_nil))), ?_⟩
    have bl : bs.length = l.length := Paired.len hbs
    have l60 := ok.n1
    have ml : (manysOf l).length = l.length := by unfold manysOf; rw [List.length_map]
    refine ⟨.ref a, rfl, a, rfl, ⟨_, ha⟩, fun D hD => ?_⟩
    have nDp : D ≠ p := hp.new1 hD
    have nDc : D ≠ c := hp.new2 hD
    have txx : ∀ {Hx : Hp}, Exx p H Hx → TX K H Hx := fun x => hp.tx x
    refine lc_tup (K := K) (a := a) (xs := bs) (fun i H' => ∃ xs : List Int, Exx p H H' ∧ PenAt H' p c (T + (i : Nat)) ∧ H' D = some (.lst (xs.map V.int)) ∧ InAll xs ((manysOf l).take i)) ⟨[], Exx.ex (Evl.Ex.new hD), ?_, upd_same, inAll_nil⟩ ?_ ?_ ?_
    · have := hp.put (o := .lst []) nDp nDc
      simpa using this
    · rintro i H' _ ⟨_, x, _⟩
      exact (txx x).1 _ _ ha
    · rintro i x H1 hx ⟨xs, x1, hp1, hD1, hin⟩
      obtain ⟨b, hb, ⟨a1, c1, gs, rfl, h1, h2, h3⟩⟩ := Paired.get1 hbs hx
      have il : i < l.length := (List.getElem?_eq_some_iff.mp hb).1
      have BO := ok.bolts i b hb
      have m0 := BO.m0
      have m1 := BO.m1
      have xl : xs.length = i := by
        have := hin.1
        rw [List.length_take] at this
        omega
      have mm : (manysOf l)[i]? = some b.many := by
        unfold manysOf
        rw [List.getElem?_map, hb]
        rfl
      refine ⟨rfl, ?_⟩
      refine ⟨.ref p, rfl, .ref a1, rfl, a1, _, 0, .int b.many, rfl, rfl, (txx x1).1 _ _ h1, atI_nat (j := 0) rfl, p, c, b.many, _, rfl, hp1, by omega, by omega, by omega, fun r H2 r0 r1 x2 hp2 => ?_⟩
      refine ⟨_, x2 _ _ nDp hD1, Nat.lt_of_le_of_lt (by rw [List.length_map]; omega : (xs.map V.int).length ≤ 60) (by decide), xs ++ [r], (x1.trans x2).mut hD, (hp2.put nDp nDc).mono (by omega), by rw [upd_same, List.map_append]; rfl, ?_⟩
      rw [take_succ_get mm]
      exact inAll_snoc hin r0 r1
    · rintro H1 ⟨xs, x1, hp1, hD1, hin⟩
      rw [bl, ← ml, List.take_length] at hin
      refine ⟨D, _, rfl, .inl ⟨.inl (.inl hD1), fun t nt => ?_⟩⟩
      have e2 := Evl.Ex.new (o := .tup (xs.map V.int)) nt
      exact q _ (.ref t) xs (x1.trans (Exx.ex e2)) ((hp1.ex e2).mono (by omega)) ⟨t, rfl, upd_same⟩ hin
end
end Wb

set_option Elab.async false
set_option linter.all false
set_option maxRecDepth 100000
set_option maxHeartbeats 4000000
set_option pp.maxSteps 600
set_option pp.deepTerms false
namespace Wb
open PySem PySem.Spec PyProof.Rows L2
abbrev sSteps : Stmt := topS 46
abbrev nSteps : List Str := ["_law_lock_here", "_law_at", "_law_found", "_law_k", "_law_gap"]
theorem scSteps : FnScope nSteps ["_law_lock_here", "_law_at"] (defScope sSteps) := ⟨rfl, rfl, rfl, by decide +kernel, rfl, by decide +kernel, by decide +kernel⟩
def spSteps (K : PySem.W.Frag) : Sp := fun vs H Q _ => ∃ (v u : V) (l : Lock) (st : Word), vs = [v, u] ∧ LockAt K H v l ∧ LockOk l ∧ Wd K H u st ∧ InAll st (manysOf l) ∧
  ∀ H' r us, Evl.Ex H H' → H r = none → H' r = some (.lst us) → Paired (TrAt H') us (stepsL l st) → Q (.ref r) H'
theorem moves_snoc {gs : List Gap} {j : Nat} {g : Gap} (h : gs[j]? = some g) (w : Word) : movesL (gs.take (j + 1)) w = movesL (gs.take j) w ++ (if w ∈ g.ways then [trOf g] else []) := by
  unfold movesL
  rw [take_succ_get h, List.filter_append, List.map_append]
  congr 1
  by_cases hh : w ∈ g.ways
  · rw [if_pos hh, List.filter_cons, if_pos (decide_eq_true hh)]
    rfl
  · rw [if_neg hh, List.filter_cons, if_neg (by rw [decide_eq_false hh]; exact Bool.false_ne_true)]
    rfl
theorem pick_app (k : Nat) (p : Int) (xs ys : List Tr3) : pickAt k p (xs ++ ys) = pickAt k p xs ++ pickAt k p ys := by
  unfold pickAt
  rw [List.filter_append, List.map_append]
theorem TrAt.new {H H' : Hp} (e : Evl.Ex H H') {v : V} {t : Tr3} (h : TrAt H v t) : TrAt H' v t := by
  obtain ⟨a, r, q⟩ := h
  exact ⟨a, r, e _ _ q⟩
theorem TrAt.put {H : Hp} {l : Addr} {xs : List V} {o : HO} (h : H l = some (.lst xs)) {v : V} {t : Tr3} (q : TrAt H v t) : TrAt (upd H l o) v t := by
  obtain ⟨a, r, q⟩ := q
  exact ⟨a, r, by rw [upd_ne (ne_of q h (fun z => nomatch z))]; exact q⟩
section
variable {P : Program} {w : World} {K : PySem.W.Frag} {mg : Str → Option Value} {base : Heap}
theorem ok_lsteps {f : Addr} {fd : FuncData} (F : Fun K "_law_steps" "_law_steps" sSteps f fd) (B : Bi mg) : FnOk P w K mg base CX0 1 f fd ["_law_lock_here", "_law_at"] (spSteps K) := by
  refine F.ok scSteps (fun vs H Q E h => ?_) (fun cdv A outer s H vs Q E hr h => ?_)
  · obtain ⟨v, u, l, st, rfl, _⟩ := h; rfl
  · obtain ⟨v, u, l, st, rfl, ⟨a, bs, rfl, ha, hbs⟩, ok, ⟨sa, rfl, hsa⟩, hin, q⟩ := h
    have hu65 : A.units + 3 + 65 < cLine := by
      have := hr.un
      have : (A.deeper (envOfC "_law_steps" (defScope sSteps) s.heap.objs.size f cdv)).units = A.units + 3 := rfl
      omega
    refine ⟨_, pss_cons (ps_set (i := 2) scSteps.nd rfl (.inl rfl) (pe_lst pa_nil))
      (pss_cons (ps_for PassesOwn.never rfl (pi_range1 (by rfl) B.range (pa_cons (pe_callB call_len_seq (by rfl) B.len PySem.boot_len (pa_cons (pv 0) pa_nil)) pa_nil)) (pg_name (i := 3) scSteps.nd rfl (.inl rfl))
        (pss_one (ps_for PassesOwn.never rfl (pi_tup (pe_ix (r := rIxT K) ix_tup (pe_ix (r := rIxT K) ix_tup (pv 0) (pv 3) (fun _ _ => rfl)) pe_int (fun _ _ => rfl)))
            (pg_name (i := 4) scSteps.nd rfl (.inl rfl))
          (pss_one (ps_if (PW.pt (pw_and (pt_cmpR op_eq (pe_ix (r := rIxT K) ix_tup (pv 4) pe_int (fun _ _ => rfl)) (pe_ix (r := rIxT K) ix_tup (pv 1) (pv 3) (fun _ _ => rfl)) (nomark _)) (pw_and1 (pt_cmpR (op_inTD hu65) (pe_slice (r := rSlA K) sl_tupA (pv 1) po_none (po_some (pv 3))) (pe_ix (r := rIxT K) ix_tup (pv 4) pe_int (fun _ _ => rfl)) rfl))))
            (pss_one (ps_expr (pe_bm PySem.F.plainAttrs_list PySem.F.slot_list_append PySem.F.type_list_append mt_append (pv 2) (pa_cons (pe_tup (pa_cons (pv 3) (pa_cons (pe_ix (r := rIxT K) ix_tup (pv 4) pe_int (fun _ _ => rfl)) (pa_cons (pe_ix (r := rIxT K) ix_tup (pv 4) pe_int (fun _ _ => rfl)) pa_nil)))) pa_nil)))) pss_nil)))))
      (pss_one (ps_ret (pv 2)))), ?_⟩
    have bl : bs.length = l.length := Paired.len hbs
    have l60 := ok.n1
    have ml : (manysOf l).length = l.length := by unfold manysOf; rw [List.length_map]
    have stl : st.length = l.length := by rw [hin.1, ml]
    refine ⟨Nat.zero_le _, fun r0 nr0 => ?_⟩
    have e1 := Evl.Ex.new (o := .lst []) nr0
    refine ⟨.ref a, rfl, a, _, rfl, .inr (Evl.ex_t e1 ha), _, rfl, by omega, by omega, ?_⟩
    refine for_range (lo := 0) (n := ((bs.length : Nat) : Int).toNat) (fun k σ H' => ∃ (us : List V) (y3 y4 : Option V), σ = [some (.ref a), some (.ref sa), some (.ref r0), y3, y4] ∧ Evl.Ex H H' ∧ H' r0 = some (.lst us) ∧ Paired (TrAt H') us (stepsUpto l st k) ∧ us.length ≤ 16 * k)
      ⟨[], none, none, rfl, e1, upd_same, .nil, Nat.le_refl _⟩ ?_ ?_
    · rintro k σ H1 hk0 ⟨us, y3, y4, rfl, e1, hr1, hus, ul⟩
      have hk : k < l.length := by omega
      have ek : (0 : Int) + (k : Nat) = ((k : Nat) : Int) := by omega
      rw [ek]
      obtain ⟨b, hb⟩ : ∃ b, l[k]? = some b := ⟨l[k], List.getElem?_eq_getElem hk⟩
      obtain ⟨x, hx, ⟨a1, c1, gs, rfl, h1, h2, h3⟩⟩ := Paired.get2 hbs hb
      obtain ⟨pl, hpl⟩ : ∃ pl, st[k]? = some pl := ⟨st[k], List.getElem?_eq_getElem (by omega)⟩
      have g16 := gaps_16 ok hb
      have gl : gs.length = b.gaps.length := Paired.len h3
      refine ⟨.ref a, rfl, .int (k : Nat), rfl, a, bs, (k : Nat), .ref a1, rfl, rfl, Evl.ex_t e1 ha, atI_nat hx, a1, _, 1, .ref c1, rfl, rfl, Evl.ex_t e1 h1, atI_nat (j := 1) rfl, c1, rfl, ⟨_, Evl.ex_t e1 h2⟩, ?_⟩
      refine for_tup (K := K) (a := c1) (xs := gs) (fun j σ H' => ∃ (us : List V) (y4 : Option V), σ = [some (.ref a), some (.ref sa), some (.ref r0), some (.int (k : Nat)), y4] ∧ Evl.Ex H H' ∧ H' r0 = some (.lst us) ∧ Paired (TrAt H') us (stepsUpto l st k ++ pickAt k pl (movesL (b.gaps.take j) (st.take k))) ∧ us.length ≤ 16 * k + j)
        ⟨us, _, rfl, e1, hr1, by simpa [movesL, pickAt] using hus, ul⟩ ?_ ?_ ?_
      · rintro j σ H2 _ ⟨_, _, _, e2, _⟩
        exact Evl.ex_t e2 h2
      · rintro j x σ H2 hx2 ⟨us, y4, rfl, e2, hr2, hus, ul⟩
        obtain ⟨g, hg, ⟨a2, b2, ws, rfl, k1, k2, k3⟩⟩ := Paired.get1 h3 hx2
        have jl : j < b.gaps.length := (List.getElem?_eq_some_iff.mp hg).1
        have hsa2 := e2 _ _ hsa
        have stay : ∀ {Hx : Hp}, Evl.Ex H2 Hx → (¬ (g.frm = pl ∧ st.take k ∈ g.ways)) → ∃ (us : List V) (y4 : Option V), ([some (.ref a), some (.ref sa), some (.ref r0), some (.int (k : Nat)), some (.ref a2)] : L2.St) = [some (.ref a), some (.ref sa), some (.ref r0), some (.int (k : Nat)), y4] ∧ Evl.Ex H Hx ∧ Hx r0 = some (.lst us) ∧ Paired (TrAt Hx) us (stepsUpto l st k ++ pickAt k pl (movesL (b.gaps.take (j + 1)) (st.take k))) ∧ us.length ≤ 16 * k + (j + 1) := by
          intro Hx ex hno
          refine ⟨us, _, rfl, e2.trans ex, ex _ _ hr2, ?_, by omega⟩
          rw [moves_snoc hg, pick_app]
          have z : pickAt k pl (if st.take k ∈ g.ways then [trOf g] else []) = [] := by
            by_cases hw : st.take k ∈ g.ways
            · rw [if_pos hw]
              have hf : ¬ g.frm = pl := fun z => hno ⟨z, hw⟩
              unfold pickAt
              rw [List.filter_cons, if_neg (by rw [decide_eq_false (show ¬ (trOf g).frm = pl from hf)]; exact Bool.false_ne_true)]
              rfl
            · rw [if_neg hw]
              rfl
          rw [z, List.append_nil]
          exact Paired.imp (fun _ _ => TrAt.new ex) hus
        refine ⟨.ref a2, rfl, a2, _, 0, .int g.frm, rfl, rfl, Evl.ex_t e2 k1, atI_nat (j := 0) rfl, .ref sa, rfl, .int (k : Nat), rfl, sa, _, (k : Nat), .int pl, rfl, rfl, .inl (.inl hsa2), atI_nat (map_int_get hpl), rfl, _, rfl, ?_⟩
        refine ite2 (fun hc => ?_) (fun hc => ?_)
        · have hf : g.frm = pl := V.int.inj (of_decide_eq_true hc)
          refine ⟨.ref sa, rfl, .int (k : Nat), rfl, (k : Nat), rfl, sa, _, rfl, .inl (.inl hsa2), fun z => absurd (slice_whole z.2) (by rw [List.length_map]; omega), fun _ t nt => ?_⟩
          rw [cut_take, ← List.map_take]
          have e3 := Evl.Ex.new (o := .tup ((st.take k).map V.int)) nt
          have ht : (upd H2 t (.tup ((st.take k).map V.int))) t = some (.tup ((st.take k).map V.int)) := upd_same
          generalize upd H2 t (.tup ((st.take k).map V.int)) = H3 at e3 ht
          have fw : Fine (dW (st.take k)) 1 603 := by
            refine fine_W (B := 4) (n := 60) (fun x hx => ?_) (by decide) (by rw [List.length_take]; omega)
            obtain ⟨i, hi⟩ := List.mem_iff_getElem?.mp (List.mem_of_mem_take hx)
            have il : i < l.length := by
              have := (List.getElem?_eq_some_iff.mp hi).1
              omega
            have hm : (manysOf l)[i]? = some l[i].many := by
              unfold manysOf
              rw [List.getElem?_map, List.getElem?_eq_getElem il]
              rfl
            have z1 := hin.2 i x _ hi hm
            have z2 := manys_le ok (List.getElem?_eq_getElem il)
            omega
          have fws : Fine (dWs g.ways) 2 5000 := by
            have h1 : FineAll (g.ways.map dW) 1 ((g.ways.map dW).length * (603 + 2)) := FineAll.rep fun d hd => by
              obtain ⟨u, hu, rfl⟩ := List.mem_map.mp hd
              exact fine_way ok hb (List.mem_of_getElem? hg) hu
            have h2 := fine_tup h1
            have f8 := ((ok.bolts k b hb).gaps g (List.mem_of_getElem? hg)).few
            rw [List.length_map] at h2
            exact h2.mono (Nat.le_refl _) (by omega)
          refine ⟨.ref a2, rfl, a2, _, 3, .ref b2, rfl, rfl, Evl.ex_t (e2.trans e3) k1, atI_nat (j := 3) rfl, dW (st.take k), g.ways.map dW, dp_W ⟨t, rfl, ht⟩, .tup (Evl.ex_t (e2.trans e3) k2) (dp_all (F := Wd K _) (f := dW) (fun _ _ => dp_W) (Paired.imp (fun _ _ => wd_ex (e2.trans e3)) k3)), fw.shaped (by decide), fws.shaped (by decide), _, rfl, ?_⟩
          rw [any_W]
          refine ite2 (fun hc2 => ?_) (fun hc2 => ?_)
          · have hw : st.take k ∈ g.ways := of_decide_eq_true hc2
            have hr3 := e3 _ _ hr2
            refine ⟨.ref r0, rfl, .inl ⟨rfl, _, SqL.of hr3⟩, .int (k : Nat), rfl, .ref a2, rfl, a2, _, 1, .int g.to_, rfl, rfl, Evl.ex_t (e2.trans e3) k1, atI_nat (j := 1) rfl, .ref a2, rfl, a2, _, 2, .int g.price, rfl, rfl, Evl.ex_t (e2.trans e3) k1, atI_nat (j := 2) rfl, (by show 3 ≤ sizeLine; decide), fun tp ntp => ?_⟩
            have e4 := Evl.Ex.new (o := .tup [.int (k : Nat), .int g.to_, .int g.price]) ntp
            have hr4 := e4 _ _ hr3
            refine ⟨r0, us, _, rfl, rfl, hr4, Nat.lt_of_le_of_lt (by omega : us.length ≤ 16 * 60 + 16) (by decide), us ++ [.ref tp], _, rfl, (e2.trans (e3.trans e4)).mut nr0, upd_same, ?_, by rw [List.length_append]; simp; omega⟩
            rw [moves_snoc hg, pick_app, if_pos hw, ← List.append_assoc]
            have z : pickAt k pl [trOf g] = [⟨(k : Int), g.to_, g.price⟩] := by
              unfold pickAt
              rw [List.filter_cons, if_pos (decide_eq_true (show (trOf g).frm = pl from hf))]
              rfl
            rw [z]
            exact Paired.imp (fun _ _ => TrAt.put hr4) (paired_app1 (Paired.imp (fun _ _ => TrAt.new (e3.trans e4)) hus) ⟨tp, rfl, upd_same⟩)
          · exact stay e3 fun z => hc2 (decide_eq_true z.2)
        · exact stay (Evl.Ex.refl _) fun z => hc (decide_eq_true (by rw [z.1]))
      · rintro σ H2 ⟨us, y4, rfl, e2, hr2, hus, ul⟩
        refine ⟨us, _, _, rfl, e2, hr2, ?_, by omega⟩
        rw [gl, List.take_length] at hus
        rw [stepsUpto_succ]
        have z : stepsOf l st k = pickAt k pl (movesL b.gaps (st.take k)) := by
          unfold stepsOf
          rw [hb, hpl]
        rw [z]
        exact hus
    · rintro σ H1 ⟨us, y3, y4, rfl, e1, hr1, hus, ul⟩
      rw [Int.toNat_natCast, bl] at hus
      exact ⟨.ref r0, rfl, q H1 r0 us e1 nr0 hr1 hus⟩
end
end Wb

set_option Elab.async false
set_option linter.all false
set_option maxRecDepth 100000
set_option maxHeartbeats 4000000
set_option pp.maxSteps 600
set_option pp.deepTerms false
namespace Wb
open PySem PySem.Spec PyProof.Rows L2
/-! ### things of whatever kind: data, with dicts {} and {0: 1} within -/
def one0 : List (Key × V) := [(.inl 0, .int 1)]
mutual
inductive Th (K : PySem.W.Frag) (H : Hp) : V → PyData → Prop where
  | non : Th K H .non .none
  | bl (b : Bool) : Th K H (.bl b) (.bool b)
  | int (i : Int) : Th K H (.int i) (.int i)
  | str (x : Str) : Th K H (.str x) (.str x)
  | d0 {a : Addr} : H a = some (.dK []) → Th K H (.ref a) (.dict [])
  | d1 {a : Addr} : H a = some (.dK one0) → Th K H (.ref a) (.dict [(.int 0, .int 1)])
  | lst {a : Addr} {xs : List V} {ds : List PyData} : H a = some (.lst xs) → ThAll K H xs ds → Th K H (.ref a) (.list ds)
  | tup {a : Addr} {xs : List V} {ds : List PyData} : Rd H a (.tup xs) → ThAll K H xs ds → Th K H (.ref a) (.tuple ds)
inductive ThAll (K : PySem.W.Frag) (H : Hp) : List V → List PyData → Prop where
  | nil : ThAll K H [] []
  | cons {v : V} {d : PyData} {vs : List V} {ds : List PyData} : Th K H v d → ThAll K H vs ds → ThAll K H (v :: vs) (d :: ds)
end
/-- what such things lean on stays -/
structure TK (K : PySem.W.Frag) (H H' : Hp) : Prop where
  t : ∀ a xs, Rd H a (.tup xs) → Rd H' a (.tup xs)
  l : ∀ a xs, H a = some (.lst xs) → H' a = some (.lst xs)
  d0 : ∀ a, H a = some (.dK []) → H' a = some (.dK [])
  d1 : ∀ a, H a = some (.dK one0) → H' a = some (.dK one0)
section
variable {K : PySem.W.Frag} {H H' : Hp} {p c : Addr} {T : Int}
theorem rd_ex {G G' : Hp} (e : Evl.Ex G G') {a : Addr} {u : HO} (h : Rd G a u) : Rd G' a u := h.imp (fun z => e _ _ z) fun ⟨o, z⟩ => ⟨o, e _ _ z⟩
theorem TK.ex (e : Evl.Ex H H') : TK K H H' := ⟨fun _ _ h => rd_ex e h, fun _ _ h => e _ _ h, fun _ h => e _ _ h, fun _ h => e _ _ h⟩
theorem TK.refl (K : PySem.W.Frag) (H : Hp) : TK K H H := TK.ex (Evl.Ex.refl H)
theorem TK.trans {H1 : Hp} (a : TK K H H1) (b : TK K H1 H') : TK K H H' := ⟨fun x o h => b.t x o (a.t x o h), fun x o h => b.l x o (a.l x o h), fun x h => b.d0 x (a.d0 x h), fun x h => b.d1 x (a.d1 x h)⟩
mutual
theorem Th.keep (e : TK K H H') : ∀ {v : V} {d : PyData}, Th K H v d → Th K H' v d
  | _, _, .non => .non
  | _, _, .bl b => .bl b
  | _, _, .int i => .int i
  | _, _, .str x => .str x
  | _, _, .d0 h => .d0 (e.d0 _ h)
  | _, _, .d1 h => .d1 (e.d1 _ h)
  | _, _, .lst h a => .lst (e.l _ _ h) (ThAll.keep e a)
  | _, _, .tup h a => .tup (e.t _ _ h) (ThAll.keep e a)
theorem ThAll.keep (e : TK K H H') : ∀ {vs : List V} {ds : List PyData}, ThAll K H vs ds → ThAll K H' vs ds
  | _, _, .nil => .nil
  | _, _, .cons h a => .cons (Th.keep e h) (ThAll.keep e a)
end
theorem Th.ex (e : Evl.Ex H H') {v : V} {d : PyData} (h : Th K H v d) : Th K H' v d := h.keep (TK.ex e)
theorem ThAll.paired : ∀ {vs : List V} {ds : List PyData}, ThAll K H vs ds → Paired (Th K H) vs ds
  | _, _, .nil => .nil
  | _, _, .cons h t => .cons h (ThAll.paired t)
theorem thAll : ∀ {vs : List V} {ds : List PyData}, Paired (Th K H) vs ds → ThAll K H vs ds
  | _, _, .nil => .nil
  | _, _, .cons h t => .cons h (thAll t)
def tyS : PyData → String
  | .none => "NoneType"
  | .bool _ => "bool"
  | .int _ => "int"
  | .str _ => "str"
  | .list _ => "list"
  | .tuple _ => "tuple"
  | .dict _ => "dict"
theorem tyx_lst {a : Addr} {xs : List V} (h : SqL K H a xs) : TyX K H (.ref a) (.type "list") := by
  rcases h with (h | ⟨o, h⟩) | ⟨o, its, n, h, c, _⟩
  · exact .base (.lst h)
  · exact .base (.frz h)
  · exact .kList h c
theorem Th.ty {v : V} {d : PyData} (h : Th K H v d) : TyX K H v (.type (tyS d)) := by
  cases h with
  | non => exact .base .non
  | bl b => exact .base (.bl b)
  | int i => exact .base (.int i)
  | str x => exact .base (.str x)
  | d0 h => exact .base (.dK h)
  | d1 h => exact .base (.dK h)
  | lst h _ => exact tyx_lst (.inl (.inl h))
  | tup h _ => exact tyx_tup (.inl h)
def isInt : PyData → Bool
  | .int _ => true
  | .bool _ => true
  | _ => false
def isBool : PyData → Bool
  | .bool _ => true
  | _ => false
def isTup : PyData → Bool
  | .tuple _ => true
  | _ => false
def isLst : PyData → Bool
  | .list _ => true
  | _ => false
def isStr : PyData → Bool
  | .str _ => true
  | _ => false
theorem kit_int (d : PyData) : kitB (tyS d) "int" = some (isInt d) := by cases d <;> (simp only [tyS, isInt]; decide +kernel)
theorem kit_bool (d : PyData) : kitB (tyS d) "bool" = some (isBool d) := by cases d <;> (simp only [tyS, isBool]; decide +kernel)
theorem kit_tup (d : PyData) : kitB (tyS d) "tuple" = some (isTup d) := by cases d <;> (simp only [tyS, isTup]; decide +kernel)
theorem kit_lst (d : PyData) : kitB (tyS d) "list" = some (isLst d) := by cases d <;> (simp only [tyS, isLst]; decide +kernel)
theorem kit_str (d : PyData) : kitB (tyS d) "str" = some (isStr d) := by cases d <;> (simp only [tyS, isStr]; decide +kernel)
theorem Th.itemsS {v : V} {ds : List PyData} (h : Th K H v (.tuple ds)) : ∃ a xs, v = .ref a ∧ Rd H a (.tup xs) ∧ Paired (Th K H) xs ds := by
  cases h with
  | tup h a => exact ⟨_, _, rfl, h, a.paired⟩
theorem Th.items {v : V} {ds : List PyData} (h : Th K H v (.tuple ds)) : ∃ a xs, v = .ref a ∧ SqT K H a xs ∧ Paired (Th K H) xs ds := by
  obtain ⟨a, xs, e, h, t⟩ := h.itemsS
  exact ⟨a, xs, e, .inl h, t⟩
theorem Th.tupI {a : Addr} {xs : List V} {ds : List PyData} (h : H a = some (.tup xs)) (hi : Paired (Th K H) xs ds) : Th K H (.ref a) (.tuple ds) := .tup (.inl h) (thAll hi)
end
end Wb

set_option Elab.async false
set_option linter.all false
set_option maxRecDepth 100000
set_option maxHeartbeats 4000000
set_option pp.maxSteps 600
set_option pp.deepTerms false
namespace Wb
open PySem PySem.Spec PyProof.Rows L2
def itemsD : PyData → List PyData
  | .tuple ds => ds
  | _ => []
def placeB : PyData → Int → Bool
  | .int i, m => decide (0 ≤ i) && decide (i < m)
  | _, _ => false
def allP : List PyData → List Int → Bool
  | d :: ds, m :: ms => placeB d m && allP ds ms
  | _, _ => true
def placesB (d : PyData) (ms : List Int) : Bool := isTup d && (decide ((itemsD d).length = ms.length) && allP (itemsD d) ms)
theorem allP_bad : ∀ {ds : List PyData} {ms : List Int} {i : Nat} {d : PyData} {m : Int}, ds[i]? = some d → ms[i]? = some m → placeB d m = false → allP ds ms = false
  | _ :: _, _ :: _, 0, d, m, h1, h2, h => by
    simp at h1 h2
    subst h1 h2
    simp [allP, h]
  | _ :: _, _ :: _, i + 1, d, m, h1, h2, h => by
    have := allP_bad (i := i) (by simpa using h1) (by simpa using h2) h
    simp [allP, this]
  | [], _, _, _, _, h1, _, _ => by simp at h1
  | _ :: _, [], _, _, _, _, h2, _ => by simp at h2
theorem allP_all : ∀ {ds : List PyData} {ms : List Int}, (∀ (i : Nat) (d : PyData) (m : Int), ds[i]? = some d → ms[i]? = some m → placeB d m = true) → allP ds ms = true
  | d :: ds, m :: ms, h => by
    have h0 := h 0 d m rfl rfl
    have := allP_all (ds := ds) (ms := ms) fun i d' m' a b => h (i + 1) d' m' (by simpa using a) (by simpa using b)
    simp [allP, h0, this]
  | [], _, _ => by simp [allP]
  | _ :: _, [], _ => by simp [allP]
def isNon : PyData → Bool
  | .none => true
  | _ => false
section
variable {K : PySem.W.Frag} {H : Hp}
theorem tup_of {d : PyData} (h : isTup d = true) : ∃ ds, d = .tuple ds := by
  cases d <;> first
    | exact ⟨_, rfl⟩
    | cases h
/-- the value of a thing is no int or bool that its data isn't -/
theorem Th.int_of {v : V} {d : PyData} (h : Th K H v d) (hi : isInt d = true) (hb : isBool d = false) : ∃ i, d = .int i ∧ v = .int i := by
  cases d <;> first
    | (cases hi; done)
    | (cases hb; done)
    | skip
  rename_i i
  refine ⟨i, rfl, ?_⟩
  cases h
  rfl
theorem Th.non_iff {v : V} {d : PyData} (h : Th K H v d) : decide (v = .non) = isNon d := by
  cases h <;> simp [isNon]
end
def spTupG (K : PySem.W.Frag) : Sp := fun vs H Q _ => ∃ (v : V) (d : PyData) (l h : Int), vs = [v, .int l, .int h] ∧ Th K H v d ∧ Q (.bl (isTup d && (decide (l ≤ ((itemsD d).length : Int)) && decide (((itemsD d).length : Int) ≤ h)))) H
section
variable {P : Program} {w : World} {K : PySem.W.Frag} {mg : Str → Option Value} {base : Heap}
theorem ok_tupG {f : Addr} {fd : FuncData} (F : Fun K "is_tuple_of" "is_tuple_of" sTupOf f fd) (B : Bi mg) : FnOk P w K mg base CX0 1 f fd ["thing", "low", "high"] (spTupG K) := by
  refine F.ok scTupOf (fun vs H Q E h => ?_) (fun cdv A outer s H vs Q E hr h => ?_)
  · obtain ⟨v, d, l, m, rfl, _⟩ := h; rfl
  · obtain ⟨v, d, l, m, rfl, hv, q⟩ := h
    refine ⟨_, pss_one (ps_ret (pe_and (pe_callB call_isi (by rfl) B.isi boot_isinstance (pa_cons (pv 0) (pa_cons (pe_bltn (v := .ty "tuple") (by rfl) B.tuple (by decide +kernel) rfl) pa_nil)))
      (pe_one (pe_chain op_le op_le (pv 1) (pe_callB call_len_seq (by rfl) B.len PySem.boot_len (pa_cons (pv 0) pa_nil)) (pv 2))))), ?_⟩
    refine ⟨v, rfl, v, .ty "tuple", .type (tyS d), .type "tuple", isTup d, rfl, .ty _, hv.ty, kit_ty (kit_tup d), isTup d, rfl, ?_⟩
    cases ht : isTup d with
    | false =>
      rw [ht] at q
      rw [if_neg Bool.false_ne_true]
      exact q
    | true =>
      rw [ht] at q
      rw [if_pos rfl]
      obtain ⟨ds, rfl⟩ := tup_of ht
      obtain ⟨a, xs, rfl, hx, hi⟩ := hv.items
      have e : ((itemsD (.tuple ds)).length : Int) = xs.length := by rw [(Paired.len hi)]; rfl
      rw [e] at q
      refine ⟨.int l, rfl, .ref a, rfl, a, xs, rfl, .inr hx, l, xs.length, rfl, rfl, decide (l ≤ (xs.length : Int)), rfl, ?_⟩
      by_cases h1 : l ≤ (xs.length : Int)
      · rw [if_pos (decide_eq_true h1)]
        refine ⟨.int m, rfl, xs.length, m, rfl, rfl, ?_⟩
        rw [decide_eq_true h1] at q
        exact q
      · rw [if_neg (by rw [decide_eq_false h1]; exact Bool.false_ne_true)]
        rw [decide_eq_false h1] at q
        exact q
end
def wholeB : PyData → Int → Int → Bool
  | .int i, l, m => decide (l ≤ i) && decide (i ≤ m)
  | _, _, _ => false
def plainInt : PyData → Bool
  | .int _ => true
  | _ => false
theorem plain_eq (d : PyData) : (isInt d && !isBool d) = plainInt d := by cases d <;> rfl
def spWholeG (K : PySem.W.Frag) : Sp := fun vs H Q _ => ∃ (v : V) (d : PyData), vs = [v] ∧ Th K H v d ∧ Q (.bl (plainInt d)) H
def spWholeInG (K : PySem.W.Frag) : Sp := fun vs H Q _ => ∃ (v : V) (d : PyData) (l m : Int), vs = [v, .int l, .int m] ∧ Th K H v d ∧ Q (.bl (wholeB d l m)) H
section
variable {P : Program} {w : World} {K : PySem.W.Frag} {mg : Str → Option Value} {base : Heap}
theorem ok_wholeG {f : Addr} {fd : FuncData} (F : Fun K "is_whole" "is_whole" sWhole f fd) (B : Bi mg) : FnOk P w K mg base CX0 1 f fd ["thing"] (spWholeG K) := by
  refine F.ok scWhole (fun vs H Q E h => ?_) (fun cdv A outer s H vs Q E hr h => ?_)
  · obtain ⟨v, d, rfl, _⟩ := h; rfl
  · obtain ⟨v, d, rfl, hv, q⟩ := h
    refine ⟨_, pss_one (ps_ret (pe_and (pe_callB call_isi (by rfl) B.isi boot_isinstance (pa_cons (pv 0) (pa_cons (pe_bltn (v := .ty "int") (by rfl) B.int (by decide +kernel) rfl) pa_nil)))
      (pe_one (pe_not (pe_callB call_isi (by rfl) B.isi boot_isinstance (pa_cons (pv 0) (pa_cons (pe_bltn (v := .ty "bool") (by rfl) B.bool (by decide +kernel) rfl) pa_nil))))))), ?_⟩
    refine ⟨v, rfl, v, .ty "int", .type (tyS d), .type "int", isInt d, rfl, .ty _, hv.ty, kit_ty (kit_int d), isInt d, rfl, ?_⟩
    rw [← plain_eq] at q
    cases hi : isInt d with
    | false =>
      rw [hi] at q
      rw [if_neg Bool.false_ne_true]
      exact q
    | true =>
      rw [hi] at q
      rw [if_pos rfl]
      exact ⟨v, rfl, v, .ty "bool", .type (tyS d), .type "bool", isBool d, rfl, .ty _, hv.ty, kit_ty (kit_bool d), isBool d, rfl, q⟩
theorem plain_of {v : V} {d : PyData} {H : Hp} (h : Th K H v d) (hp : plainInt d = true) : ∃ i, d = .int i ∧ v = .int i := by
  cases d <;> first
    | (cases hp; done)
    | skip
  rename_i i
  refine ⟨i, rfl, ?_⟩
  cases h
  rfl
theorem ok_wholeInG {f f1 : Addr} {fd fd1 : FuncData} (F : Fun K "is_whole_in" "is_whole_in" sWholeIn f fd) (F1 : Fun K "is_whole" "is_whole" sWhole f1 fd1) (b1 : Binds K fd1 ["thing"] []) (g1 : mg "is_whole" = some (.ref f1)) (B : Bi mg) :
    FnOk P w K mg base CX0 2 f fd ["thing", "low", "high"] (spWholeInG K) := by
  have G1 : FnOk P w K mg base CX0 1 f1 fd1 ["thing"] (spWholeG K) := ok_wholeG F1 B
  refine F.ok scWholeIn (fun vs H Q E h => ?_) (fun cdv A outer s H vs Q E hr h => ?_)
  · obtain ⟨v, d, l, m, rfl, _⟩ := h; rfl
  · obtain ⟨v, d, l, m, rfl, hv, q⟩ := h
    refine ⟨_, pss_one (ps_ret (pe_and (pe_call G1 hr (by rfl) g1 F1.kp b1 .nil pass0 (pa_cons (pv 0) pa_nil)) (pe_one (pe_chain op_le op_le (pv 1) (pv 0) (pv 2))))), ?_⟩
    refine ⟨v, rfl, v, d, rfl, hv, plainInt d, rfl, ?_⟩
    cases hp : plainInt d with
    | false =>
      rw [if_neg Bool.false_ne_true]
      have z : wholeB d l m = false := by
        cases d <;> first
          | rfl
          | cases hp
      rw [z] at q
      exact q
    | true =>
      rw [if_pos rfl]
      obtain ⟨i, rfl, rfl⟩ := plain_of hv hp
      have z : wholeB (.int i) l m = (decide (l ≤ i) && decide (i ≤ m)) := rfl
      rw [z] at q
      refine ⟨.int l, rfl, .int i, rfl, l, i, rfl, rfl, decide (l ≤ i), rfl, ?_⟩
      by_cases h1 : l ≤ i
      · rw [if_pos (decide_eq_true h1)]
        refine ⟨.int m, rfl, i, m, rfl, rfl, ?_⟩
        rw [decide_eq_true h1] at q
        exact q
      · rw [if_neg (by rw [decide_eq_false h1]; exact Bool.false_ne_true)]
        rw [decide_eq_false h1] at q
        exact q
def spPlacesG (K : PySem.W.Frag) : Sp := fun vs H Q _ => ∃ (v : V) (d : PyData) (b : Addr) (m : Bool) (ms : List Int), vs = [v, .ref b] ∧ Th K H v d ∧ SqX K m H b (ms.map V.int) ∧ ∀ H', Evl.Ex H H' → Q (.bl (placesB d ms)) H'
theorem ok_placesG {f f1 : Addr} {fd fd1 : FuncData} (F : Fun K "are_places" "are_places" sPlaces f fd) (F1 : Fun K "is_tuple_of" "is_tuple_of" sTupOf f1 fd1) (b1 : Binds K fd1 ["thing", "low", "high"] []) (g1 : mg "is_tuple_of" = some (.ref f1)) (B : Bi mg) :
    FnOk P w K mg base CX0 2 f fd ["thing", "manys"] (spPlacesG K) := by
  have G1 : FnOk P w K mg base CX0 1 f1 fd1 ["thing", "low", "high"] (spTupG K) := ok_tupG F1 B
  refine F.ok scPlaces (fun vs H Q E h => ?_) (fun cdv A outer s H vs Q E hr h => ?_)
  · obtain ⟨v, d, b, m, ms, rfl, _⟩ := h; rfl
  · obtain ⟨v, d, b, mm, ms, rfl, hv, hy, q⟩ := h
    refine ⟨_, pss_cons (ps_if (pt_not (pt_val (pe_call G1 hr (by rfl) g1 F1.kp b1 .nil pass0 (pa_cons (pv 0) (pa_cons (pe_callB call_len_seq (by rfl) B.len PySem.boot_len (pa_cons (pv 1) pa_nil)) (pa_cons (pe_callB call_len_seq (by rfl) B.len PySem.boot_len (pa_cons (pv 1) pa_nil)) pa_nil))))))
        (pss_one (ps_ret pe_bl)) pss_nil)
      (pss_cons (ps_for PassesOwn.never rfl (pi_zipX (by rfl) B.zip (pa_cons (pv 0) (pa_cons (pv 1) pa_nil))) (pg_tup rfl (pgs_cons (pg_name (i := 2) scPlaces.nd rfl (.inl rfl)) (pgs_cons (pg_name (i := 3) scPlaces.nd rfl (.inl rfl)) pgs_nil)))
        (pss_one (ps_if (PW.pt (pw_or (pt_val (pe_callB call_isi (by rfl) B.isi boot_isinstance (pa_cons (pv 2) (pa_cons (pe_bltn (v := .ty "bool") (by rfl) B.bool (by decide +kernel) rfl) pa_nil))))
            (pw_or (pt_not (pt_val (pe_callB call_isi (by rfl) B.isi boot_isinstance (pa_cons (pv 2) (pa_cons (pe_bltn (v := .ty "int") (by rfl) B.int (by decide +kernel) rfl) pa_nil)))))
              (pw_or1 (pt_not (pt_chain op_le op_lt pe_int (pv 2) (pv 3)))))))
          (pss_one (ps_ret pe_bl)) pss_nil)))
      (pss_one (ps_ret pe_bl))), ?_⟩
    refine ⟨v, rfl, .ref b, rfl, b, _, rfl, sqx_seq hy, .ref b, rfl, b, _, rfl, sqx_seq hy, v, d, _, _, rfl, hv, _, rfl, ?_⟩
    have lm : ((ms.map V.int).length) = ms.length := List.length_map ..
    cases ht : isTup d with
    | false =>
      have z : placesB d ms = false := by unfold placesB; rw [ht]; rfl
      rw [z] at q
      refine iteT ?_
      exact q H (Evl.Ex.refl H)
    | true =>
      obtain ⟨ds, rfl⟩ := tup_of ht
      obtain ⟨a, xs, rfl, hx, hi⟩ := hv.items
      have xl := (Paired.len hi)
      by_cases hl : ds.length = ms.length
      · have z : (decide (((ms.map V.int).length : Int) ≤ ((itemsD (.tuple ds)).length : Int)) && decide (((itemsD (.tuple ds)).length : Int) ≤ ((ms.map V.int).length : Int))) = true := by
          rw [lm]
          show (decide ((ms.length : Int) ≤ (ds.length : Int)) && decide ((ds.length : Int) ≤ (ms.length : Int))) = true
          rw [hl]
          simp
        rw [z]
        refine iteF ?_
        have pB : placesB (.tuple ds) ms = allP ds ms := by
          show (true && (decide (ds.length = ms.length) && allP ds ms)) = _
          rw [decide_eq_true hl]
          simp
        rw [pB] at q
        refine ⟨.ref a, rfl, .ref b, rfl, false, mm, a, b, xs, ms.map V.int, rfl, hx, hy, ?_⟩
        refine for_it (walk_zx (l := false) (m := mm) (xs := xs) (ys := ms.map V.int) (by rw [lm, xl, hl])) (fun i σ H' => ∃ y2 y3, σ = [some (.ref a), some (.ref b), y2, y3] ∧ Evl.Ex H H' ∧ ∀ j d m, j < i → ds[j]? = some d → ms[j]? = some m → placeB d m = true) ⟨none, none, rfl, Evl.Ex.refl H, fun j _ _ z => absurd z (Nat.not_lt_zero j)⟩ ?_ ?_ ?_
        · rintro i σ H' _ ⟨_, _, _, e, _⟩
          exact ⟨Evl.ex_t e hx, sqx_ex e hy⟩
        · rintro i v σ H1 H2 hii ⟨y2, y3, rfl, e, hall⟩ ⟨T, x, y, rfl, nT, rfl, ex, ey⟩
          obtain ⟨k, hk, rfl⟩ := get_map_int ey
          obtain ⟨dx, hdx, hth⟩ := Paired.get1 hi ex
          have e2 : Evl.Ex H (upd H1 T (.tup [x, .int k])) := e.trans (Evl.Ex.new nT)
          have hth2 := hth.keep (TK.ex e2)
          refine ⟨T, [x, .int k], rfl, .inl (.inl upd_same), rfl, x, [.int k], rfl, .int k, [], rfl, rfl, ?_⟩
          refine ⟨x, rfl, x, .ty "bool", .type (tyS dx), .type "bool", isBool dx, rfl, .ty _, hth2.ty, kit_ty (kit_bool dx), isBool dx, rfl, ?_⟩
          have bad : placeB dx k = false → Q (.bl false) (upd H1 T (.tup [x, .int k])) := fun z => by
            have := q _ e2
            rw [allP_bad hdx hk z] at this
            exact this
          cases hb : isBool dx with
          | true =>
            refine iteT (iteT ?_)
            refine bad ?_
            cases dx <;> first
              | rfl
              | cases hb
          | false =>
            refine iteF ?_
            refine ⟨x, rfl, x, .ty "int", .type (tyS dx), .type "int", isInt dx, rfl, .ty _, hth2.ty, kit_ty (kit_int dx), isInt dx, rfl, ?_⟩
            cases hn : isInt dx with
            | false =>
              refine iteT (iteT ?_)
              refine bad ?_
              cases dx <;> first
                | rfl
                | cases hn
            | true =>
              refine iteF ?_
              obtain ⟨n, rfl, rfl⟩ := hth.int_of hn hb
              refine ⟨.int n, rfl, 0, n, rfl, rfl, decide ((0:Int) ≤ n), rfl, ?_⟩
              by_cases h0 : (0 : Int) ≤ n
              · rw [if_pos (decide_eq_true h0)]
                refine ⟨.int k, rfl, n, k, rfl, rfl, decide (n < k), rfl, ?_⟩
                by_cases h1 : n < k
                · rw [decide_eq_true h1]
                  refine iteF ?_
                  refine ⟨_, _, rfl, e2, fun j d m hj hd hm => ?_⟩
                  by_cases hji : j = i
                  · subst hji
                    rw [hdx] at hd
                    rw [hk] at hm
                    cases hd
                    cases hm
                    show (decide (0 ≤ n) && decide (n < k)) = true
                    rw [decide_eq_true h0, decide_eq_true h1]
                    rfl
                  · exact hall j d m (by omega) hd hm
                · rw [decide_eq_false h1]
                  refine iteT ?_
                  refine bad ?_
                  show (decide (0 ≤ n) && decide (n < k)) = false
                  rw [decide_eq_false h1]
                  simp
              · rw [if_neg (by rw [decide_eq_false h0]; exact Bool.false_ne_true)]
                refine ⟨false, rfl, ?_⟩
                refine iteT ?_
                refine bad ?_
                show (decide (0 ≤ n) && decide (n < k)) = false
                rw [decide_eq_false h0]
                rfl
        · rintro σ H' ⟨y2, y3, rfl, e, hall⟩
          have z2 : allP ds ms = true := allP_all fun i d m hd hm => hall i d m (by
            have := (List.getElem?_eq_some_iff.mp hd).1
            omega) hd hm
          have := q H' e
          rw [z2] at this
          exact this
      · have z : (decide (((ms.map V.int).length : Int) ≤ ((itemsD (.tuple ds)).length : Int)) && decide (((itemsD (.tuple ds)).length : Int) ≤ ((ms.map V.int).length : Int))) = false := by
          rw [lm]
          show (decide ((ms.length : Int) ≤ (ds.length : Int)) && decide ((ds.length : Int) ≤ (ms.length : Int))) = false
          rw [Bool.and_eq_false_iff]
          by_cases h : (ms.length : Int) ≤ ds.length
          · exact .inr (decide_eq_false (by omega))
          · exact .inl (decide_eq_false h)
        rw [z]
        have pB : placesB (.tuple ds) ms = false := by
          show (true && (decide (ds.length = ms.length) && allP ds ms)) = false
          rw [decide_eq_false hl]
          rfl
        rw [pB] at q
        refine iteT ?_
        exact q H (Evl.Ex.refl H)
end
end Wb

set_option Elab.async false
set_option linter.all false
set_option maxRecDepth 100000
set_option maxHeartbeats 4000000
set_option pp.maxSteps 600
set_option pp.deepTerms false
namespace Wb
open PySem PySem.Spec PyProof.Rows L2
/-! ### several clauses, each with a name for what it caught -/
/-- a clause: its class, the name's slot, its suite -/
abbrev Cls3 := Value × Nat × (Addr → Value → Option Addr → TS)
/-- a suite's ends, where the name in slot i is gone -/
def unname (i : Nat) (D : Ends) : Ends := { nx := fun τ G => D.nx (τ.set i none) G, rt := D.rt, bk := fun τ G => D.bk (τ.set i none) G, ct := fun τ G => D.ct (τ.set i none) G }
def wEach (K : PySem.W.Frag) (n : Nat) (out : WX) (D : Ends) : List Cls3 → WX
  | [] => out
  | cl :: more => fun kl dd τ G => ∃ t : Bool, PySem.W.exmOne K kl cl.1 = some t ∧ (t = true → ∀ p, G p = none → τ.length = n → cl.2.2 p kl dd (unname cl.2.1 D) (τ.set cl.2.1 (some (.ref p))) G) ∧ (t = false → wEach K n out D more kl dd τ G)
inductive Each (X : Cx) : List ExceptHandler → List Cls3 → Prop
  | nil : Each X [] []
  | cons {x n : Str} {c : Value} {i : Nat} {ts : Addr → Value → Option Addr → TS} {st0 : Stmt} {sts : List Stmt} {p1 p2 : Pos} {hs : List ExceptHandler} {cls : List Cls3} (nm : Names X x c) (at_ : X.N[i]? = some n) (kd : X.env.kindOf n = some .local)
      (go : ∀ (p : Addr) (o : Obj) (kl : Value) (dd : Option Addr) (pn : List (Addr × Obj)), Zc kl dd o → (∃ us, o.data = .fields us) → PSs (X.suite p ((p, o) :: pn)) (st0 :: sts) (ts p kl dd)) (more : Each X hs cls) :
      Each X (.ExceptHandler (some (.Name x p1)) (some n) (st0 :: sts) p2 :: hs) ((c, i, ts) :: cls)
section
variable {X : Cx} {body : List Stmt} {hd0 : ExceptHandler} {hds : List ExceptHandler} {cls : List Cls3} {pos : Pos} {tb : WX → TS} {out : WX}
theorem ps_try_each (stk : X.stack = X.env :: X.outer) (fr : X.env.frame = some X.env.locals) (nodup : X.N.Nodup) (tk : Takes X out)
    (run : ∀ (W : WX) (pn : List (Addr × Obj)) (xe : Value → Shared → Prop), Takes (X.tr pn xe) W → PassesOwn (model X.prog X.w) X.A X.env xe → PSs (X.tr pn xe) body (tb W))
    (each : Each X (hd0 :: hds) cls) : PS X (.Try body (hd0 :: hds) [] [] pos) (fun D τ G => tb (wEach X.K X.N.length out D cls) D τ G) := by
  constructor
  intro pins t0 τ G D I0 ask
  have fine := I0.ok
  have frames : X.A.frames = some (X.env :: X.outer) := by rw [fine.frames, stk]
  apply wpAny_Try_except
  have inner := (run (wEach X.K X.N.length out D cls) (X.pn ++ pins) (fun e t1 => wpAny (model X.prog X.w) X.A (noteFrame e X.env)
    (fun _ t2 => wpAny (model X.prog X.w) X.A (setFlight e none) (fun _ t3 => wpAny (model X.prog X.w) X.A (handleBy e X.env (hd0 :: hds)) (SP X pins D) X.xe t3) X.xe t2) X.xe t1) ?thrown PassesOwn.looking).run [] t0 τ G D (I0.toTry _) ask
  case thrown =>
    intro u t1 xx
    obtain ⟨p, B, tI, pins1, τ1, G1, kl, dd, rfl, J1, newb, ups, sky1, noG, eos, ages, wish⟩ := xx
    have J : Inv X pins τ1 G1 tI := J1.ofTry fine
    rw [stk] at sky1
    show wpAny (model X.prog X.w) X.A (noteFrame (.ref p) X.env) _ _ _
    apply Sky.land Zc.steady frames fr sky1
    intro hh fly up2
    obtain ⟨ob, us, obAt, obZ, obD⟩ := fly.there
    have noFrame : ∀ {h : Heap} {o : Obj} {vs : Array Value}, h.FunFrames B (X.env :: X.outer) → h.get? p = some o → o.data = .fields vs → p ∉ frs (X.env :: X.outer) := by
      intro h o vs ff e1 e2 hm
      obtain ⟨_, o2, e3, no⟩ := ff.mem hm
      rw [e1] at e3
      cases e3
      exact no _ e2
    have out1 := noFrame fly.2.2.1 obAt obD
    have neL : p ≠ X.env.locals := by
      intro z
      exact out1 (List.mem_filterMap.mpr ⟨X.env, List.mem_cons_self, by rw [fr, z]⟩)
    have neF : p ∉ X.fs := by
      intro hm
      obtain ⟨e, he, q⟩ := List.mem_filterMap.mp hm
      exact out1 (List.mem_filterMap.mpr ⟨e, List.mem_cons_of_mem _ he, q⟩)
    have Jh : Inv X pins τ1 G1 { t1 with heap := hh } := J.landed newb fly.1 (ups.trans up2) eos ages
    have Sh := Jh.suite obAt obD noG neL neF
    -- the clauses, one after the other
    have walk : ∀ {hs : List ExceptHandler} {cl : List Cls3}, Each X hs cl → wEach X.K X.N.length out D cl kl dd τ1 G1 → wpAny (model X.prog X.w) X.A (handleBy (.ref p) X.env hs) (SP X pins D) X.xe { t1 with heap := hh } := by
      intro hs cl ok
      induction ok with
      | nil =>
        intro wish1
        apply wpAny_handleBy_nil
        obtain ⟨_, _, _, o2, v2, T, _, _, q1, _, q2, q3, _⟩ := id fly
        unfold PySem.passOn
        apply wpAny_bind (wpAny_field q1 q2 q3 _)
        rw [if_neg (show ¬ ((Value.ref T == Value.none) = true) from by simp)]
        have lift : wpAny (model X.prog X.w) X.A (setFlight (.ref p) X.env.frame) (fun _ t4 => wpAny (model X.prog X.w) X.A (throw (.ref p) : Sem Flow) (SP X pins D) X.xe t4) X.xe { t1 with heap := hh } := by
          rw [fr]
          apply HandSPX.setFlight_upZ fly
          intro h4 held up4
          apply wpAny_throw
          apply tk
          exact ⟨p, B, tI, pins, τ1, G1, kl, dd, rfl, J, newb, (ups.trans up2).trans up4, .inr (.inr (by rw [stk]; exact held)), noG, eos, ages, wish1⟩
        first
          | exact wpAny_bind (wpAny_pure (wpAny_bind lift))
          | exact wpAny_bind lift
      | @cons x n c i ts st0 sts p1 p2 hs2 cl2 nm at_ kd go more ih =>
        intro wish1
        obtain ⟨t, is_, yes, no⟩ := wish1
        refine wpAny_handleBy_cons (codeAny_handlers_test ?_) (fun z => nomatch z)
        have looks := PySem.W.exm_one (M := model X.prog X.w) Jh.kIn (fun A' Q' E' t' keep q => wpAny_typeOf_ref (keep _ _ obAt) (by rw [obZ.1]; exact q)) is_
        have name : ∀ {Q' E' : Value → Shared → Prop}, Q' c { t1 with heap := hh } → wpAny (model X.prog X.w) (X.A.mark (some (.ref p))) (eval (.Name x p1) X.env) Q' E' { t1 with heap := hh } := by
          intro Q' E' q
          obtain ⟨gl, nd, own | ⟨non, blt, nn⟩⟩ := nm
          · exact ld_glob (X := X.suite p ((p, ob) :: (X.pn ++ pins))) Sh gl own q nd
          · exact ld_blt (X := X.suite p ((p, ob) :: (X.pn ++ pins))) Sh gl non blt q nn nd
        apply name
        apply looks.here
        cases t with
        | false =>
          show wpAny _ X.A (handleBy (.ref p) X.env hs2) _ _ _
          exact ih (no rfl)
        | true =>
          apply codeAny_handlers_suite_as
          apply HandSPX.lands_againZ fly
          intro h4 fly4 up4
          obtain ⟨o4, v4, q1, q2, q3⟩ := fly4.there
          have J4 : Inv X pins τ1 G1 { t1 with heap := h4 } := J.landed newb fly4.1 ((ups.trans up2).trans up4) eos ages
          have S4 := J4.suite q1 q3 noG neL neF
          refine store_ok (X := X.suite p ((p, o4) :: (X.pn ++ pins))) (v := .ref p) S4 nodup at_ (.inl kd) rfl (fun t5 S5 => ?_) (.inr kd)
          have ran := (go p o4 kl dd (X.pn ++ pins) q2 ⟨_, q3⟩).run [] t5 _ G1 _ S5 (yes rfl p noG J.len)
          apply wpAny_mono ran ?_ (fun _ _ z => False.elim z)
          intro fl t6 sp6
          have leave : ∀ {τ6 : L2.St} {G6 : Hp} {Q6 : Shared → Prop}, Inv (X.suite p ((p, o4) :: (X.pn ++ pins))) [] τ6 G6 t6 → (∀ t7, Inv X pins (τ6.set i none) G6 t7 → Q6 t7) →
              wpAny (model X.prog X.w) X.A (do bindName X.env n .none; unbindBehindTheSuite X.env n p2) (fun _ t7 => Q6 t7) X.xe t6 := by
            intro τ6 G6 Q6 S6 hq
            exact gone_ok (S6.unsuite fine) nodup at_ kd hq
          cases fl with
          | next =>
            obtain ⟨τ6, G6, S6, q6⟩ := sp6
            exact leave S6 fun t7 J7 => ⟨_, _, J7, q6⟩
          | brk =>
            obtain ⟨τ6, G6, S6, q6⟩ := sp6
            exact leave S6 fun t7 J7 => ⟨_, _, J7, q6⟩
          | cont =>
            obtain ⟨τ6, G6, S6, q6⟩ := sp6
            exact leave S6 fun t7 J7 => ⟨_, _, J7, q6⟩
          | ret u6 =>
            obtain ⟨v6, τ6, G6, S6, r6, q6⟩ := sp6
            exact leave S6 fun t7 J7 => ⟨_, _, _, J7, r6, q6⟩
    exact walk each wish
  refine wpAny_mono inner (fun fl t1 sp1 => ?_) (fun _ _ z => z)
  cases fl with
  | next =>
    obtain ⟨τ1, G1, J1, q⟩ := sp1
    exact wpAny_execs_nil ⟨τ1, G1, J1.ofTry fine, q⟩
  | brk =>
    obtain ⟨τ1, G1, J1, q⟩ := sp1
    exact ⟨τ1, G1, J1.ofTry fine, q⟩
  | cont =>
    obtain ⟨τ1, G1, J1, q⟩ := sp1
    exact ⟨τ1, G1, J1.ofTry fine, q⟩
  | ret u =>
    obtain ⟨v1, τ1, G1, J1, r1, q⟩ := sp1
    exact ⟨v1, τ1, G1, J1.ofTry fine, r1, q⟩
end
/-- isinstance(e, c), e what this clause caught, of whatever class -/
def rIsO (K : PySem.W.Frag) (kl : Value) (dd : Option Addr) (p : Addr) : List V → Hp → VK → Prop := fun xs H Q => ∃ (D : Addr) (c : V) (cv : Value) (b : Bool), kl = .ref D ∧ dd = none ∧ ExcC K D ∧ xs = [.ref p, c] ∧ (∀ u, RelV c u → u = cv) ∧ PySem.W.kitOne K (.ref D) cv = some b ∧ Q (.bl b) H
theorem call_isO {X : Cx} {p : Addr} {o : Obj} {kl : Value} {dd : Option Addr} {pn : List (Addr × Obj)} (z : Zc kl dd o) (fs : ∃ us, o.data = .fields us) : CallR (X.suite p ((p, o) :: pn)) (.builtin "isinstance") (rIsO X.K kl dd p) := by
  intro pins t τ G xs us Q I r h
  obtain ⟨D, c, cv, b, rfl, rfl, C, e, k1, k2, q⟩ := h
  exact call_isE C z fs pins t τ G xs us Q I r ⟨c, cv, b, e, k1, k2, q⟩
/-! ### raise X(), X an own class of exceptions without a call of its own -/
theorem pmk_own0 {X : Cx} {C : Addr} {bmB : List Value} {B newId initId : String} {x : Str} {p pos : Pos} (F : ExcBaseFacts B newId initId bmB) (q : PySem.W.excIn X.K C bmB newId = true) (gC : X.mg x = some (.ref C))
    (kC : PySem.W.keepIn X.K (.ref C) = true) (r : Raises X (.ref C)) (hg : Gl X x) (hdb : (x == ("__debug__" : Str)) = false := by decide) : PMk X (.Call (.Name x p) [] [] pos) (fun _ G Q => Q (.ref C) none G) := by
  intro pins t τ G Q I h
  apply wpAny_Call_Name_kw
  apply ld_glob I hg gC _ hdb
  apply PySem.W.callWith_K0 I.kIn kC
  obtain ⟨bm, N, nm, qn, bs, hdct, sn, sub, ab, col, dd, k0, k1, k2, k3, k5, mN, hC, hN, hni, T⟩ := exc_obj I.kIn q
  exact wpAny_call_exc_subT F T hC hN hni (fun h1 e hm => mk_of I hm r h (I.hok.gone hm.new)) (Nat.zero_le _)
end Wb

set_option Elab.async false
set_option linter.all false
set_option maxRecDepth 100000
set_option maxHeartbeats 4000000
set_option pp.maxSteps 600
set_option pp.deepTerms false
namespace Wb
open PySem PySem.Spec PyProof.Rows L2
/-! ### places called otherwise -/
structure NmOk (nm : Word) (m : Int) : Prop where
  len : (nm.length : Int) = m
  bd : ∀ x ∈ nm, 0 ≤ x ∧ x < m
  nd : nm.Nodup
def nmAt (nm : Word) (x : Int) : Int := nm.getD x.toNat 0
def renW (k : Nat) (nm w : Word) : Word := w.set k (nmAt nm (w.getD k 0))
theorem nm_get {nm : Word} {m x : Int} (h : NmOk nm m) (h0 : 0 ≤ x) (h1 : x < m) : nm[x.toNat]? = some (nmAt nm x) := by
  have l := h.len
  have il : x.toNat < nm.length := by omega
  unfold nmAt
  rw [List.getD_eq_getElem?_getD, List.getElem?_eq_getElem il]
  rfl
theorem nm_bd {nm : Word} {m x : Int} (h : NmOk nm m) (h0 : 0 ≤ x) (h1 : x < m) : 0 ≤ nmAt nm x ∧ nmAt nm x < m := h.bd _ (List.mem_of_getElem? (nm_get h h0 h1))
theorem nm_inj {nm : Word} {m x y : Int} (h : NmOk nm m) (h0 : 0 ≤ x) (h1 : x < m) (g0 : 0 ≤ y) (g1 : y < m) (e : nmAt nm x = nmAt nm y) : x = y := by
  have a := nm_get h h0 h1
  have b := nm_get h g0 g1
  rw [← e] at b
  have l := h.len
  have z := (List.getElem?_inj (show x.toNat < nm.length by omega) h.nd).mp (a.trans b.symm)
  omega
theorem nm_all {nm : Word} {m x : Int} (h : NmOk nm m) (h0 : 0 ≤ x) (h1 : x < m) : x ∈ nm := by
  refine Classical.byContradiction fun n => ?_
  have nd : (x :: nm).Nodup := List.nodup_cons.mpr ⟨n, h.nd⟩
  have sub : ∀ y ∈ x :: nm, y ∈ (List.range nm.length).map (fun i : Nat => (i : Int)) := fun y hy => by
    have b : 0 ≤ y ∧ y < m := by
      rcases List.mem_cons.mp hy with rfl | hy
      · exact ⟨h0, h1⟩
      · exact h.bd y hy
    have l := h.len
    exact List.mem_map.mpr ⟨y.toNat, List.mem_range.mpr (by omega), by omega⟩
  have z := nodup_le nd sub
  rw [List.length_map, List.length_range, List.length_cons] at z
  omega
/-- the names turned about -/
def backOf (nm : Word) : Word := (List.range nm.length).map fun (p : Nat) => ((nm.idxOf (p : Int) : Nat) : Int)
theorem back_at {nm : Word} {m x : Int} (h : NmOk nm m) (h0 : 0 ≤ x) (h1 : x < m) : nmAt (backOf nm) x = ((nm.idxOf x : Nat) : Int) := by
  have l := h.len
  unfold nmAt backOf
  rw [List.getD_eq_getElem?_getD, List.getElem?_map, List.getElem?_range (by omega)]
  show ((nm.idxOf ((x.toNat : Nat) : Int) : Nat) : Int) = _
  rw [Int.toNat_of_nonneg h0]
theorem idx_at {nm : Word} {m x : Int} (h : NmOk nm m) (h0 : 0 ≤ x) (h1 : x < m) : nm[nm.idxOf x]? = some x ∧ nm.idxOf x < nm.length := by
  have il := List.idxOf_lt_length_iff.mpr (nm_all h h0 h1)
  exact ⟨by rw [List.getElem?_eq_getElem il, List.getElem_idxOf], il⟩
theorem nm_back {nm : Word} {m x : Int} (h : NmOk nm m) (h0 : 0 ≤ x) (h1 : x < m) : nmAt nm (nmAt (backOf nm) x) = x := by
  obtain ⟨a, b⟩ := idx_at h h0 h1
  rw [back_at h h0 h1]
  unfold nmAt
  rw [Int.toNat_natCast, List.getD_eq_getElem?_getD, a]
  rfl
theorem back_ok {nm : Word} {m : Int} (h : NmOk nm m) : NmOk (backOf nm) m := by
  have l := h.len
  have ln : (backOf nm).length = nm.length := by unfold backOf; rw [List.length_map, List.length_range]
  refine ⟨by rw [ln]; exact l, fun x hx => ?_, ?_⟩
  · obtain ⟨p, hp, rfl⟩ := List.mem_map.mp hx
    have pl := List.mem_range.mp hp
    obtain ⟨_, b⟩ := idx_at h (x := (p : Int)) (by omega) (by omega)
    omega
  · unfold backOf
    refine List.pairwise_map.mpr (List.Pairwise.imp_of_mem (R := fun a b : Nat => a ≠ b) (fun {p q} hp hq ne e => ne ?_) (List.nodup_range (n := nm.length)))
    have pl := List.mem_range.mp hp
    have ql := List.mem_range.mp hq
    obtain ⟨a, _⟩ := idx_at h (x := (p : Int)) (by omega) (by omega)
    obtain ⟨b, _⟩ := idx_at h (x := (q : Int)) (by omega) (by omega)
    have e' : nm.idxOf (p : Int) = nm.idxOf (q : Int) := by omega
    rw [e', b] at a
    have := Option.some.inj a
    omega
theorem back_nm {nm : Word} {m x : Int} (h : NmOk nm m) (h0 : 0 ≤ x) (h1 : x < m) : nmAt (backOf nm) (nmAt nm x) = x := by
  have b := nm_bd h h0 h1
  have c := nm_bd (back_ok h) b.1 b.2
  exact nm_inj h c.1 c.2 h0 h1 (nm_back h b.1 b.2)
theorem lexLt_no : ∀ {u w : List Int}, HT.lexLt u w = true → HT.lexLt w u = true → u = w
  | [], [], h, _ => rfl
  | [], _ :: _, _, h => by cases h
  | _ :: _, [], h, _ => by cases h
  | x :: u, y :: w, h1, h2 => by
    rw [HT.lexLt_cons] at h1 h2
    by_cases e : x = y
    · subst e
      rw [if_pos rfl] at h1 h2
      rw [lexLt_no h1 h2]
    · rw [if_neg e] at h1
      rw [if_neg (fun z => e z.symm)] at h2
      have a := of_decide_eq_true h1
      have b := of_decide_eq_true h2
      omega
theorem renW_len (k : Nat) (nm w : Word) : (renW k nm w).length = w.length := List.length_set ..
theorem renW_self {k : Nat} {nm w : Word} (h : k < w.length) : (renW k nm w)[k]? = some (nmAt nm (w.getD k 0)) := List.getElem?_set_self h
theorem renW_other {k i : Nat} {nm w : Word} (h : k ≠ i) : (renW k nm w)[i]? = w[i]? := List.getElem?_set_ne h
theorem getD_of {w : Word} {k : Nat} {x : Int} (h : w[k]? = some x) : w.getD k 0 = x := by
  rw [List.getD_eq_getElem?_getD, h]
  rfl
theorem renW_back {k : Nat} {nm w : Word} {m x : Int} (h : NmOk nm m) (hx : w[k]? = some x) (h0 : 0 ≤ x) (h1 : x < m) : renW k (backOf nm) (renW k nm w) = w := by
  have kl := (List.getElem?_eq_some_iff.mp hx).1
  have e1 : (renW k nm w).getD k 0 = nmAt nm x := by rw [getD_of (renW_self kl), getD_of hx]
  apply List.ext_getElem?
  intro i
  by_cases e : k = i
  · subst e
    rw [renW_self (by rw [renW_len]; exact kl), e1, back_nm h h0 h1, hx]
  · rw [renW_other e, renW_other e]
theorem renW_take {k n : Nat} {nm w : Word} (h : k < n) (hl : k < w.length) : (renW k nm w).take n = renW k nm (w.take n) := by
  apply List.ext_getElem?
  intro i
  by_cases il : i < n
  · rw [List.getElem?_take, if_pos il]
    by_cases e : k = i
    · subst e
      rw [renW_self hl, renW_self (by rw [List.length_take]; omega)]
      congr 2
      rw [List.getD_eq_getElem?_getD, List.getD_eq_getElem?_getD, List.getElem?_take, if_pos il]
    · rw [renW_other e, renW_other e, List.getElem?_take, if_pos il]
  · rw [List.getElem?_take, if_neg il, List.getElem?_eq_none (by rw [renW_len, List.length_take]; omega)]
theorem renW_take_le {k n : Nat} {nm w : Word} (h : n ≤ k) : (renW k nm w).take n = w.take n := List.take_set_of_le h
structure RenG (k n : Nat) (nm : Word) (g g' : Gap) : Prop where
  frm : g'.frm = if n = k then nmAt nm g.frm else g.frm
  to_ : g'.to_ = if n = k then nmAt nm g.to_ else g.to_
  price : g'.price = g.price
  perm : g'.ways.Perm (if k < n then g.ways.map (renW k nm) else g.ways)
  rise : g'.ways.Pairwise (fun u w => HT.lexLt u w = true)
theorem RenG.one {k n : Nat} {nm : Word} {g a b : Gap} (h : RenG k n nm g a) (h' : RenG k n nm g b) : a = b := by
  obtain ⟨f1, t1, p1, w1⟩ := a
  obtain ⟨f2, t2, p2, w2⟩ := b
  have e1 : f1 = f2 := h.frm.trans h'.frm.symm
  have e2 : t1 = t2 := h.to_.trans h'.to_.symm
  have e3 : p1 = p2 := h.price.trans h'.price.symm
  have e4 : w1 = w2 := (h.perm.trans h'.perm.symm).eq_of_pairwise (fun a b _ _ x y => lexLt_no x y) h.rise h'.rise
  rw [e1, e2, e3, e4]
structure IsRen (k n : Nat) (nm : Word) (b b' : Bolt) : Prop where
  many : b'.many = b.many
  gaps : ∃ gs, b'.gaps.Perm gs ∧ Paired (RenG k n nm) b.gaps gs
  rise : b'.gaps.Pairwise (fun g h => lexLt2 g.frm g.to_ h.frm h.to_)
theorem paired_one {α β : Type} {R : α → β → Prop} (f : ∀ x y z, R x y → R x z → y = z) : ∀ {xs : List α} {ys zs : List β}, Paired R xs ys → Paired R xs zs → ys = zs
  | _, _, _, .nil, .nil => rfl
  | _, _, _, .cons a t, .cons a' t' => by rw [f _ _ _ a a', paired_one f t t']
theorem IsRen.one {k n : Nat} {nm : Word} {b b' b'' : Bolt} (h : IsRen k n nm b b') (h' : IsRen k n nm b b'') : b' = b'' := by
  obtain ⟨m', g'⟩ := b'
  obtain ⟨m'', g''⟩ := b''
  have e1 : m' = m'' := h.many.trans h'.many.symm
  obtain ⟨gs, p1, q1⟩ := h.gaps
  obtain ⟨gs2, p2, q2⟩ := h'.gaps
  have e := paired_one (R := RenG k n nm) (fun _ _ _ a b => RenG.one a b) q1 q2
  subst e
  have e2 : g' = g'' := (p1.trans p2.symm).eq_of_pairwise (le := fun g h => lexLt2 g.frm g.to_ h.frm h.to_) (fun a b _ _ h1 h2 => by
    unfold lexLt2 at h1 h2
    omega) h.rise h'.rise
  rw [e1, e2]
def Rens (k : Nat) (nm : Word) (l l' : Lock) : Prop := l.length = l'.length ∧ ∀ (n : Nat) (b : Bolt), l[n]? = some b → ∃ b', l'[n]? = some b' ∧ IsRen k n nm b b'
theorem rens_one {k : Nat} {nm : Word} {l l' l'' : Lock} (h : Rens k nm l l') (h' : Rens k nm l l'') : l' = l'' := by
  apply List.ext_getElem?
  intro n
  by_cases nl : n < l.length
  · obtain ⟨b1, e1, r1⟩ := h.2 n _ (List.getElem?_eq_getElem nl)
    obtain ⟨b2, e2, r2⟩ := h'.2 n _ (List.getElem?_eq_getElem nl)
    rw [e1, e2, r1.one r2]
  · have a := h.1
    have b := h'.1
    rw [List.getElem?_eq_none (by omega), List.getElem?_eq_none (by omega)]
theorem manys_at {l : Lock} {n : Nat} {b : Bolt} (h : l[n]? = some b) : (manysOf l)[n]? = some b.many := by
  unfold manysOf
  rw [List.getElem?_map, h]
  rfl
theorem manys_tk (l : Lock) (k : Nat) : manysOf (l.take k) = (manysOf l).take k := by
  unfold manysOf
  rw [List.map_take]
theorem manys_len (l : Lock) : (manysOf l).length = l.length := by unfold manysOf; rw [List.length_map]
theorem rens_manys {k : Nat} {nm : Word} {l l' : Lock} (h : Rens k nm l l') : manysOf l' = manysOf l := by
  apply List.ext_getElem?
  intro n
  by_cases nl : n < l.length
  · obtain ⟨b1, e1, r1⟩ := h.2 n _ (List.getElem?_eq_getElem nl)
    rw [manys_at e1, manys_at (List.getElem?_eq_getElem nl), r1.many]
  · have a := h.1
    rw [List.getElem?_eq_none (by rw [manys_len]; omega), List.getElem?_eq_none (by rw [manys_len]; omega)]
/-- the place of the bolt that is renamed, in a way of a bolt above it -/
theorem way_at {l : Lock} (ok : LockOk l) {k n : Nat} {c b : Bolt} {g : Gap} {u : Word} (hc : l[k]? = some c) (hb : l[n]? = some b) (kn : k < n) (hg : g ∈ b.gaps) (hu : u ∈ g.ways) : u.length = n ∧ ∃ x, u[k]? = some x ∧ 0 ≤ x ∧ x < c.many := by
  obtain ⟨h1, h2⟩ := ((ok.bolts n b hb).gaps g hg).words u hu
  have nl := (List.getElem?_eq_some_iff.mp hb).1
  have ul : u.length = n := by
    rw [h1, manys_tk, List.length_take, manys_len]
    omega
  refine ⟨ul, u[k]'(by omega), List.getElem?_eq_getElem (by omega), ?_⟩
  refine h2 k _ c.many (List.getElem?_eq_getElem (by omega)) ?_
  rw [manys_tk, List.getElem?_take, if_pos kn]
  exact manys_at hc
theorem RenG.back {l : Lock} (ok : LockOk l) {k n : Nat} {nm : Word} {c b : Bolt} {g g' : Gap} (hc : l[k]? = some c) (N : NmOk nm c.many) (hb : l[n]? = some b) (hg : g ∈ b.gaps) (h : RenG k n nm g g') : RenG k n (backOf nm) g' g := by
  have G := (ok.bolts n b hb).gaps g hg
  have f0 := G.f0
  have f1 := G.f1
  have t0 := G.t0
  have t1 := G.t1
  refine ⟨?_, ?_, h.price.symm, ?_, G.rise⟩
  · by_cases e : n = k
    · subst e
      rw [hc] at hb
      cases hb
      rw [if_pos rfl, h.frm, if_pos rfl, back_nm N f0 f1]
    · rw [if_neg e, h.frm, if_neg e]
  · by_cases e : n = k
    · subst e
      rw [hc] at hb
      cases hb
      rw [if_pos rfl, h.to_, if_pos rfl, back_nm N t0 t1]
    · rw [if_neg e, h.to_, if_neg e]
  · by_cases e : k < n
    · rw [if_pos e]
      have p := (h.perm.map (renW k (backOf nm)))
      rw [if_pos e, List.map_map] at p
      have z : g.ways.map (renW k (backOf nm) ∘ renW k nm) = g.ways := by
        refine (List.map_congr_left fun u hu => ?_).trans (List.map_id _)
        obtain ⟨_, x, hx, h0, h1⟩ := way_at ok hc hb e hg hu
        exact renW_back N hx h0 h1
      rw [z] at p
      exact p.symm
    · rw [if_neg e]
      have p := h.perm
      rw [if_neg e] at p
      exact p.symm
theorem paired_flip {α β : Type} {R : α → β → Prop} {S : β → α → Prop} : ∀ {xs : List α} {ys : List β}, Paired R xs ys → (∀ x y, x ∈ xs → R x y → S y x) → Paired S ys xs
  | _, _, .nil, _ => .nil
  | _, _, .cons a t, h => .cons (h _ _ List.mem_cons_self a) (paired_flip t fun x y hx => h x y (List.mem_cons_of_mem _ hx))
theorem rens_back {l l' : Lock} (ok : LockOk l) {k : Nat} {nm : Word} {c : Bolt} (hc : l[k]? = some c) (N : NmOk nm c.many) (h : Rens k nm l l') : Rens k (backOf nm) l' l := by
  refine ⟨h.1.symm, fun n b' hb' => ?_⟩
  have nl := (List.getElem?_eq_some_iff.mp hb').1
  have nl2 : n < l.length := by
    have := h.1
    omega
  have hb : l[n]? = some (l[n]'nl2) := List.getElem?_eq_getElem _
  obtain ⟨b1, e1, r⟩ := h.2 n _ hb
  rw [hb'] at e1
  cases e1
  refine ⟨_, hb, r.many.symm, ?_, (ok.bolts n _ hb).rise⟩
  obtain ⟨gs, p, q⟩ := r.gaps
  have q' : Paired (RenG k n (backOf nm)) gs l[n].gaps := paired_flip q fun g g' hg hr => hr.back ok hc N hb hg
  obtain ⟨zs, z1, z2⟩ := paired_perm p q'
  exact ⟨zs, z1.symm, z2⟩
end Wb

set_option Elab.async false
set_option linter.all false
set_option maxRecDepth 100000
set_option maxHeartbeats 4000000
set_option pp.maxSteps 600
set_option pp.deepTerms false
namespace Wb
open PySem PySem.Spec PyProof.Rows L2
theorem getD_set_ne {w : Word} {k i : Nat} {x : Int} (h : k ≠ i) : (w.set k x).getD i 0 = w.getD i 0 := by
  rw [List.getD_eq_getElem?_getD, List.getD_eq_getElem?_getD, List.getElem?_set_ne h]
theorem RenG.ok {l : Lock} (ok : LockOk l) {k n : Nat} {nm : Word} {c b : Bolt} {g g' : Gap} (hc : l[k]? = some c) (N : NmOk nm c.many) (hb : l[n]? = some b) (hg : g ∈ b.gaps) (h : RenG k n nm g g') : GapOk (manysOf (l.take n)) b.many g' := by
  have G := (ok.bolts n b hb).gaps g hg
  have nl := (List.getElem?_eq_some_iff.mp hb).1
  have fr : 0 ≤ g'.frm ∧ g'.frm < b.many ∧ 0 ≤ g'.to_ ∧ g'.to_ < b.many ∧ g'.frm ≠ g'.to_ := by
    have f0 := G.f0
    have f1 := G.f1
    have t0 := G.t0
    have t1 := G.t1
    have ne := G.ne
    rw [h.frm, h.to_]
    by_cases e : n = k
    · subst e
      rw [hc] at hb
      cases hb
      rw [if_pos rfl, if_pos rfl]
      have a := nm_bd N f0 f1
      have b := nm_bd N t0 t1
      exact ⟨a.1, a.2, b.1, b.2, fun z => ne (nm_inj N f0 f1 t0 t1 z)⟩
    · rw [if_neg e, if_neg e]
      exact ⟨f0, f1, t0, t1, ne⟩
  obtain ⟨a1, a2, a3, a4, a5⟩ := fr
  refine ⟨a1, a2, a3, a4, a5, by rw [h.price]; exact G.p0, by rw [h.price]; exact G.p1, ?_, fun w hw => ?_, h.rise⟩
  · have z := h.perm.length_eq
    have f := G.few
    by_cases e : k < n
    · rw [if_pos e, List.length_map] at z
      omega
    · rw [if_neg e] at z
      omega
  · have z := h.perm.mem_iff.mp hw
    by_cases e : k < n
    · rw [if_pos e] at z
      obtain ⟨u, hu, rfl⟩ := List.mem_map.mp z
      obtain ⟨ul, x, hx, x0, x1⟩ := way_at ok hc hb e hg hu
      obtain ⟨w1, w2⟩ := G.words u hu
      refine ⟨by rw [renW_len]; exact w1, fun i y m hy hm => ?_⟩
      by_cases ei : k = i
      · subst ei
        rw [renW_self (by omega), getD_of hx] at hy
        cases hy
        rw [manys_tk, List.getElem?_take, if_pos e, manys_at hc] at hm
        cases hm
        exact nm_bd N x0 x1
      · rw [renW_other ei] at hy
        exact w2 i y m hy hm
    · rw [if_neg e] at z
      exact G.words w z
theorem sum_ways {k n : Nat} {nm : Word} : ∀ {gs gs' : List Gap}, Paired (RenG k n nm) gs gs' → (gs'.map (fun g : Gap => g.ways.length)).sum = (gs.map (fun g : Gap => g.ways.length)).sum
  | _, _, .nil => rfl
  | _, _, .cons (a := g) (b := g') r t => by
    have z := r.perm.length_eq
    have e : g'.ways.length = g.ways.length := by
      by_cases e : k < n
      · rw [if_pos e, List.length_map] at z
        exact z
      · rw [if_neg e] at z
        exact z
    simp only [List.map_cons, List.sum_cons, e, sum_ways t]
theorem IsRen.gap {k n : Nat} {nm : Word} {b b' : Bolt} (h : IsRen k n nm b b') {g' : Gap} (hg : g' ∈ b'.gaps) : ∃ g, g ∈ b.gaps ∧ RenG k n nm g g' := by
  obtain ⟨gs, p, q⟩ := h.gaps
  obtain ⟨i, hi⟩ := List.mem_iff_getElem?.mp (p.mem_iff.mp hg)
  obtain ⟨g, h1, h2⟩ := Paired.get2 q hi
  exact ⟨g, List.mem_of_getElem? h1, h2⟩
theorem rens_ok {l l' : Lock} (ok : LockOk l) {k : Nat} {nm : Word} {c : Bolt} (hc : l[k]? = some c) (N : NmOk nm c.many) (h : Rens k nm l l') : LockOk l' := by
  have ll := h.1
  have n0 := ok.n0
  have n1 := ok.n1
  have at_ : ∀ (n : Nat) (b' : Bolt), l'[n]? = some b' → ∃ b, l[n]? = some b ∧ IsRen k n nm b b' := fun n b' hb' => by
    have nl := (List.getElem?_eq_some_iff.mp hb').1
    have hb : l[n]? = some (l[n]'(by omega)) := List.getElem?_eq_getElem _
    obtain ⟨b1, e1, r⟩ := h.2 n _ hb
    rw [hb'] at e1
    cases e1
    exact ⟨_, hb, r⟩
  refine ⟨by omega, by omega, fun n b' hb' => ?_, fun j ws hj nd hcs => ?_⟩
  · obtain ⟨b, hb, r⟩ := at_ n b' hb'
    have BO := ok.bolts n b hb
    have mt : manysOf (l'.take n) = manysOf (l.take n) := by rw [manys_tk, manys_tk, rens_manys h]
    rw [mt]
    refine ⟨by rw [r.many]; exact BO.m0, by rw [r.many]; exact BO.m1, fun g' hg' => ?_, r.rise, ?_⟩
    · obtain ⟨g, hg, hr⟩ := r.gap hg'
      rw [r.many]
      exact hr.ok ok hc N hb hg
    · obtain ⟨gs, p, q⟩ := r.gaps
      rw [(p.map (fun g : Gap => g.ways.length)).sum_nat, sum_ways q]
      exact BO.few
  · -- each cut comes of one of the lock's own
    have src : ∀ w ∈ ws, ∃ u, cutsFrom l j u ∧ (if k < j then renW k (backOf nm) w else w) = u := fun w hw => by
      obtain ⟨m, b', g', u', hm, hb', hg', hu', e⟩ := hcs w hw
      obtain ⟨b, hb, r⟩ := at_ m b' hb'
      obtain ⟨g, hg, hr⟩ := r.gap hg'
      have z := hr.perm.mem_iff.mp hu'
      by_cases ek : k < m
      · rw [if_pos ek] at z
        obtain ⟨u, hu, rfl⟩ := List.mem_map.mp z
        obtain ⟨ul, x, hx, x0, x1⟩ := way_at ok hc hb ek hg hu
        refine ⟨u.take j, ⟨m, b, g, u, hm, hb, hg, hu, rfl⟩, ?_⟩
        rw [e]
        by_cases kj : k < j
        · rw [if_pos kj, renW_take kj (by omega)]
          exact renW_back N (by rw [List.getElem?_take, if_pos kj]; exact hx) x0 x1
        · rw [if_neg kj, renW_take_le (by omega)]
      · rw [if_neg ek] at z
        refine ⟨u'.take j, ⟨m, b, g, u', hm, hb, hg, z, rfl⟩, ?_⟩
        rw [if_neg (by omega), e]
    have z := ok.words j (ws.map fun w => if k < j then renW k (backOf nm) w else w) (by omega) ?_ fun w hw => ?_
    · rw [List.length_map] at z
      exact z
    · refine List.pairwise_map.mpr (nd.imp_of_mem fun {a b} ha hb ne e => ne ?_)
      by_cases kj : k < j
      · rw [if_pos kj, if_pos kj] at e
        -- renaming again gives the words back
        have back : ∀ w ∈ ws, renW k nm (renW k (backOf nm) w) = w := fun w hw => by
          obtain ⟨m, b', g', u', hm, hb', hg', hu', ew⟩ := hcs w hw
          obtain ⟨b, hb, r⟩ := at_ m b' hb'
          obtain ⟨g, hg, hr⟩ := r.gap hg'
          have z := hr.perm.mem_iff.mp hu'
          rw [if_pos (by omega)] at z
          obtain ⟨u, hu, rfl⟩ := List.mem_map.mp z
          obtain ⟨ul, x, hx, x0, x1⟩ := way_at ok hc hb (by omega) hg hu
          rw [ew, renW_take kj (by omega), renW_back N (by rw [List.getElem?_take, if_pos kj]; exact hx) x0 x1]
        rw [← back a ha, ← back b hb, e]
      · rw [if_neg kj, if_neg kj] at e
        exact e
    · obtain ⟨v, hv, rfl⟩ := List.mem_map.mp hw
      obtain ⟨u, hu, e⟩ := src v hv
      rw [e]
      exact hu
/-! ### steps by the new names -/
def renT (k : Nat) (nm : Word) (t : Tr3) : Tr3 := ⟨t.frm, if t.frm = (k : Int) then nmAt nm t.to_ else t.to_, t.price⟩
/-- a gap that can be gone along at a stand, told as a step -/
def stepG (n : Nat) (st : Word) (p : Int) (g : Gap) : List Tr3 := if st.take n ∈ g.ways ∧ g.frm = p then [⟨(n : Int), g.to_, g.price⟩] else []
theorem stepsOf_flat {l : Lock} {st : Word} {n : Nat} {b : Bolt} {p : Int} (hb : l[n]? = some b) (hp : st[n]? = some p) : stepsOf l st n = b.gaps.flatMap (stepG n st p) := by
  unfold stepsOf
  rw [hb, hp]
  show pickAt n p (movesL b.gaps (st.take n)) = _
  unfold pickAt movesL
  induction b.gaps with
  | nil => rfl
  | cons g gs ih =>
    rw [List.flatMap_cons, ← ih]
    unfold stepG
    by_cases h1 : st.take n ∈ g.ways
    · by_cases h2 : g.frm = p
      · simp [List.filter_cons, h1, h2, trOf]
      · simp [List.filter_cons, h1, h2, trOf]
    · simp [List.filter_cons, h1]
theorem mem_renW {l : Lock} (ok : LockOk l) {k n : Nat} {nm st : Word} {c b : Bolt} {g g' : Gap} (hc : l[k]? = some c) (N : NmOk nm c.many) (hb : l[n]? = some b) (hg : g ∈ b.gaps) (h : RenG k n nm g g') (hin : InAll st (manysOf l)) :
    (renW k nm st).take n ∈ g'.ways ↔ st.take n ∈ g.ways := by
  have sl : st.length = l.length := by rw [hin.1, manys_len]
  have kl := (List.getElem?_eq_some_iff.mp hc).1
  have nl := (List.getElem?_eq_some_iff.mp hb).1
  rw [h.perm.mem_iff]
  by_cases e : k < n
  · rw [if_pos e, renW_take e (by omega), List.mem_map]
    have hx : (st.take n)[k]? = some (st[k]'(by omega)) := by rw [List.getElem?_take, if_pos e, List.getElem?_eq_getElem (by omega)]
    obtain ⟨x0, x1⟩ := hin.2 k _ c.many (List.getElem?_eq_getElem (show k < st.length by omega)) (manys_at hc)
    constructor
    · rintro ⟨u, hu, eu⟩
      obtain ⟨_, y, hy, y0, y1⟩ := way_at ok hc hb e hg hu
      have z := congrArg (renW k (backOf nm)) eu
      rw [renW_back N hy y0 y1, renW_back N hx x0 x1] at z
      rw [← z]
      exact hu
    · intro hu
      exact ⟨_, hu, rfl⟩
  · rw [if_neg e, renW_take_le (by omega)]
theorem stepG_ren {l : Lock} (ok : LockOk l) {k n : Nat} {nm st : Word} {c b : Bolt} {g g' : Gap} {p : Int} (hc : l[k]? = some c) (N : NmOk nm c.many) (hb : l[n]? = some b) (hg : g ∈ b.gaps) (h : RenG k n nm g g') (hin : InAll st (manysOf l)) (hp : st[n]? = some p) :
    stepG n (renW k nm st) (if n = k then nmAt nm p else p) g' = (stepG n st p g).map (renT k nm) := by
  have m := mem_renW ok hc N hb hg h hin
  have G := (ok.bolts n b hb).gaps g hg
  obtain ⟨p0, p1⟩ := hin.2 n p b.many hp (manys_at hb)
  have f : g'.frm = (if n = k then nmAt nm p else p) ↔ g.frm = p := by
    rw [h.frm]
    by_cases e : n = k
    · subst e
      rw [hc] at hb
      cases hb
      rw [if_pos rfl, if_pos rfl]
      exact ⟨fun z => nm_inj N G.f0 G.f1 p0 p1 z, fun z => by rw [z]⟩
    · rw [if_neg e, if_neg e]
  unfold stepG
  by_cases c1 : st.take n ∈ g.ways ∧ g.frm = p
  · rw [if_pos c1, if_pos ⟨m.mpr c1.1, f.mpr c1.2⟩]
    show _ = [renT k nm _]
    unfold renT
    rw [h.to_, h.price]
    by_cases e : n = k
    · subst e
      simp
    · have e' : ¬ ((n : Int) = (k : Int)) := by omega
      simp [e, e']
  · rw [if_neg c1, if_neg (fun z => c1 ⟨m.mp z.1, f.mp z.2⟩)]
    rfl
theorem flat_ren {l : Lock} (ok : LockOk l) {k n : Nat} {nm st : Word} {c b : Bolt} {p : Int} (hc : l[k]? = some c) (N : NmOk nm c.many) (hb : l[n]? = some b) (hin : InAll st (manysOf l)) (hp : st[n]? = some p) :
    ∀ {gs gs' : List Gap}, (∀ g ∈ gs, g ∈ b.gaps) → Paired (RenG k n nm) gs gs' → gs'.flatMap (stepG n (renW k nm st) (if n = k then nmAt nm p else p)) = (gs.flatMap (stepG n st p)).map (renT k nm)
  | _, _, _, .nil => rfl
  | _, _, hs, .cons r t => by
    rw [List.flatMap_cons, List.flatMap_cons, List.map_append, stepG_ren ok hc N hb (hs _ List.mem_cons_self) r hin hp, flat_ren ok hc N hb hin hp (fun g hg => hs g (List.mem_cons_of_mem _ hg)) t]
theorem perm_flat {α β : Type} (f : α → List β) : ∀ {xs ys : List α}, xs.Perm ys → (xs.flatMap f).Perm (ys.flatMap f) := by
  intro xs ys h
  induction h with
  | nil => exact List.Perm.refl _
  | cons x _ ih =>
    rw [List.flatMap_cons, List.flatMap_cons]
    exact ih.append_left _
  | swap x y l =>
    rw [List.flatMap_cons, List.flatMap_cons, List.flatMap_cons, List.flatMap_cons, ← List.append_assoc, ← List.append_assoc]
    exact List.perm_append_comm.append_right _
  | trans _ _ a b => exact a.trans b
theorem steps_perm_n {l l' : Lock} (ok : LockOk l) {k : Nat} {nm st : Word} {c : Bolt} (hc : l[k]? = some c) (N : NmOk nm c.many) (h : Rens k nm l l') (hin : InAll st (manysOf l)) {n : Nat} (hn : n < l.length) :
    (stepsOf l' (renW k nm st) n).Perm ((stepsOf l st n).map (renT k nm)) := by
  have sl : st.length = l.length := by rw [hin.1, manys_len]
  have hb : l[n]? = some l[n] := List.getElem?_eq_getElem hn
  obtain ⟨b', hb', r⟩ := h.2 n _ hb
  have hp : st[n]? = some (st[n]'(by omega)) := List.getElem?_eq_getElem _
  have hp' : (renW k nm st)[n]? = some (if n = k then nmAt nm (st[n]'(by omega)) else st[n]'(by omega)) := by
    by_cases e : n = k
    · subst e
      rw [if_pos rfl, renW_self (by omega), getD_of hp]
    · rw [if_neg e, renW_other (Ne.symm e), hp]
  obtain ⟨gs, p, q⟩ := r.gaps
  rw [stepsOf_flat hb hp, stepsOf_flat hb' hp', ← flat_ren ok hc N hb hin hp (fun g hg => hg) q]
  exact perm_flat _ p
theorem upto_perm {l l' : Lock} (ok : LockOk l) {k : Nat} {nm st : Word} {c : Bolt} (hc : l[k]? = some c) (N : NmOk nm c.many) (h : Rens k nm l l') (hin : InAll st (manysOf l)) : ∀ n, n ≤ l.length → (stepsUpto l' (renW k nm st) n).Perm ((stepsUpto l st n).map (renT k nm))
  | 0, _ => List.Perm.refl _
  | n + 1, hn => by
    rw [stepsUpto_succ, stepsUpto_succ, List.map_append]
    exact (upto_perm ok hc N h hin n (by omega)).append (steps_perm_n ok hc N h hin (by omega))
theorem steps_perm {l l' : Lock} (ok : LockOk l) {k : Nat} {nm st : Word} {c : Bolt} (hc : l[k]? = some c) (N : NmOk nm c.many) (h : Rens k nm l l') (hin : InAll st (manysOf l)) : (stepsL l' (renW k nm st)).Perm ((stepsL l st).map (renT k nm)) := by
  unfold stepsL
  rw [← h.1]
  exact upto_perm ok hc N h hin _ (Nat.le_refl _)
/-! ### steps rise -/
def rkT (t : Tr3) : Int := TS.code 1000001 [t.frm, t.to_, t.price]
def lexT (s t : Tr3) : Prop := lexLt2 s.frm s.to_ t.frm t.to_
theorem stepsOf_rise {l : Lock} (ok : LockOk l) {st : Word} {n : Nat} : (stepsOf l st n).Pairwise lexT := by
  unfold stepsOf
  split
  · rename_i b p hb hp
    have R := (ok.bolts n b hb).rise
    unfold pickAt movesL
    refine List.pairwise_map.mpr ?_
    have R2 : (List.map trOf (List.filter (fun g => decide (List.take n st ∈ g.ways)) b.gaps)).Pairwise lexT := List.pairwise_map.mpr (R.filter _)
    refine (R2.filter (fun t => decide (t.frm = p))).imp_of_mem fun {a b} ha hb q => ?_
    have e1 : a.frm = p := of_decide_eq_true (List.mem_filter.mp ha).2
    have e2 : b.frm = p := of_decide_eq_true (List.mem_filter.mp hb).2
    unfold lexT lexLt2 at q ⊢
    have q1 : (n : Int) < n ∨ ((n : Int) = n ∧ a.to_ < b.to_) := .inr ⟨rfl, by omega⟩
    exact q1
  · exact List.Pairwise.nil
theorem stepsOf_frm {l : Lock} {st : Word} {n : Nat} {t : Tr3} (h : t ∈ stepsOf l st n) : t.frm = (n : Int) := by
  unfold stepsOf at h
  split at h
  · unfold pickAt at h
    obtain ⟨u, _, rfl⟩ := List.mem_map.mp h
    rfl
  · cases h
theorem upto_rise {l : Lock} (ok : LockOk l) {st : Word} : ∀ n, (stepsUpto l st n).Pairwise lexT
  | 0 => List.Pairwise.nil
  | n + 1 => by
    rw [stepsUpto_succ]
    refine List.pairwise_append.mpr ⟨upto_rise ok n, stepsOf_rise ok, fun a ha b hb => ?_⟩
    obtain ⟨m, hm, h⟩ := List.mem_flatMap.mp ha
    have e1 := stepsOf_frm h
    have e2 := stepsOf_frm hb
    have ml := List.mem_range.mp hm
    unfold lexT lexLt2
    omega
/-- a rising list of these steps is the lock's own -/
theorem steps_eq {l : Lock} (ok : LockOk l) {st : Word} {ts : List Tr3} (p : ts.Perm (stepsL l st)) (r : ts.Pairwise (fun s t => s.frm < t.frm ∨ (s.frm = t.frm ∧ s.to_ ≤ t.to_))) : ts = stepsL l st := by
  have nd : (stepsL l st).Pairwise lexT := upto_rise ok _
  refine p.eq_of_pairwise (le := fun s t => s.frm < t.frm ∨ (s.frm = t.frm ∧ s.to_ ≤ t.to_)) (fun a b ha hb h1 h2 => ?_) r (nd.imp fun {a b} q => ?_)
  · have e1 : a.frm = b.frm := by omega
    have e2 : a.to_ = b.to_ := by omega
    refine Classical.byContradiction fun n => ?_
    obtain ⟨i, hi⟩ := List.mem_iff_getElem?.mp (p.mem_iff.mp ha)
    obtain ⟨j, hj⟩ := List.mem_iff_getElem?.mp hb
    obtain ⟨il, ei⟩ := List.getElem?_eq_some_iff.mp hi
    obtain ⟨jl, ej⟩ := List.getElem?_eq_some_iff.mp hj
    rcases Nat.lt_trichotomy i j with z | z | z
    · have q := List.pairwise_iff_getElem.mp nd i j il jl z
      rw [ei, ej] at q
      unfold lexT lexLt2 at q
      omega
    · subst z
      rw [hi] at hj
      exact n (Option.some.inj hj)
    · have q := List.pairwise_iff_getElem.mp nd j i jl il z
      rw [ei, ej] at q
      unfold lexT lexLt2 at q
      omega
  · unfold lexT lexLt2 at q
    omega
end Wb

set_option Elab.async false
set_option linter.all false
set_option maxRecDepth 100000
set_option maxHeartbeats 4000000
namespace Wb
open PySem PySem.Spec PyProof.Rows L2
/-! ### sets of a tuple's ints -/
theorem nodup_same {α : Type} [DecidableEq α] {xs ys : List α} (hx : xs.Nodup) (hy : ys.Nodup) (h : ∀ k, k ∈ xs ↔ k ∈ ys) : xs.length = ys.length :=
  Nat.le_antisymm (nodup_le hx fun x e => (h x).mp e) (nodup_le hy fun x e => (h x).mpr e)
/-- how many members a set has -/
theorem setR_count {w : World} {h : Heap} {a : Addr} {S : Int → Bool} {n : Nat} (R : SetR w h a S n) {us : List Int} (nd : us.Nodup) (m : ∀ k, S k = true ↔ k ∈ us) : n = us.length := by
  obtain ⟨o, es, ep, t, _, _, _, _, r1, r2, _, _, r3, _⟩ := R
  have z := nodup_same r1 nd fun k => (r2 k).symm.trans (m k)
  rw [List.length_map, Array.length_toList, r3] at z
  exact z
def rSetI (K : PySem.W.Frag) (w : World) : List V → Hp → VK → Prop := fun xs H Q => ∃ (l : Addr) (ns : List Int), xs = [V.ref l] ∧ SqT K H l (ns.map V.int) ∧ ns.length ≤ 1000 ∧
  ∀ (a : Addr) (c : Nat), H a = none → (∀ us : List Int, us.Nodup → (∀ k, k ∈ us ↔ k ∈ ns) → c = us.length) → Q (.ref a) (upd H a (SetO w a (fun j => decide (j ∈ ns)) c))
def rLenSO (w : World) : List V → Hp → VK → Prop := fun xs H Q => ∃ (a : Addr) (S : Int → Bool) (n : Nat), xs = [V.ref a] ∧ H a = some (SetO w a S n) ∧ Q (.int (n : Nat)) H
section
variable {X : Cx}
theorem cr_setI (hc : X.calm = true) : CallR X (.type "set") (rSetI X.K X.w) := by
  intro pins s σ H xs us Q I r h
  obtain ⟨l, ns, rfl, hl, few, q⟩ := h
  obtain ⟨its, rv, hT, hz⟩ := I.tuple hl
  rw [Vals.ref1 r]
  refine call_set_tupI ns (I.ok.hd hc) (items := its.toArray) hT (by simpa using rv.ints) (Nat.lt_of_le_of_lt (by omega : ns.length + 1 ≤ 1001) (by decide)) fun h' tk c R cl kp => ?_
  refine ⟨.ref s.heap.objs.size, upd H s.heap.objs.size (SetO X.w s.heap.objs.size (fun j => decide (j ∈ ns)) c), I.laid (t' := tk) kp (Nat.le_refl _) (setO_new R), rfl, q _ c (I.hok.fresh (Nat.le_refl _)) fun us nd m => ?_⟩
  exact setR_count R nd fun k => by rw [decide_eq_true_eq]; exact (m k).symm
theorem call_lenSO : CallR X (.builtin "len") (rLenSO X.w) := by
  intro pins s σ H xs us Q I r h
  obtain ⟨a, S, n, rfl, ha, q⟩ := h
  rw [Vals.ref1 r]
  obtain ⟨o, es, ep, t, ho, hex, hd, _, _, _, sb, hf, hn, _⟩ := setO_get I ha
  refine call_len_set ho hex hd hf (by have sb2 : es.size < 4096 := sb; omega) ⟨.int (n : Nat), H, I.tok _, ⟨_, by rw [hn]⟩, q⟩
end
end Wb

set_option Elab.async false
set_option linter.all false
set_option maxRecDepth 100000
set_option maxHeartbeats 4000000
set_option pp.maxSteps 900
set_option pp.deepTerms false
namespace Wb
open PySem PySem.Spec PyProof.Rows L2
abbrev sNeedB : Stmt := topS 31
abbrev nNeedB : List Str := ["lock", "thing"]
theorem scNeedB : FnScope nNeedB ["lock", "thing"] (defScope sNeedB) := ⟨rfl, rfl, rfl, by decide +kernel, rfl, by decide +kernel, by decide +kernel⟩

abbrev sBRen : Stmt := topS 34
abbrev nBRen : List Str := ["bolt", "k", "names", "gaps", "here", "there", "price", "ways", "words", "way"]
theorem scBRen : FnScope nBRen ["bolt", "k", "names"] (defScope sBRen) := ⟨rfl, rfl, rfl, by decide +kernel, rfl, by decide +kernel, by decide +kernel⟩

abbrev sTold : Stmt := topS 32
abbrev nTold : List Str := ["lock"]
theorem scTold : FnScope nTold ["lock"] (defScope sTold) := ⟨rfl, rfl, rfl, by decide +kernel, rfl, by decide +kernel, by decide +kernel⟩

/-! ### a word with one place called otherwise, as it is written -/
abbrev tRenW (K : PySem.W.Frag) (iw ik inm : Nat) : TE := tOp (rCatA K) (tOp (rCatA K) (tSl (rSlA K) (tVar iw) tNoPart (tPart (tVar ik))) (tTup (tCons (tOp (rIxT K) (tVar inm) (tOp (rIxT K) (tVar iw) (tVar ik))) tNil)))
  (tSl (rSlA K) (tVar iw) (tPart (tOp (rI0 fun i j => V.int (i + j)) (tVar ik) (tC (V.int 1)))) tNoPart)
theorem cut_drop (xs : List V) {k : Nat} (h : k ≤ xs.length) : cutV xs (some (k : Int)) none = xs.drop k := by
  unfold cutV
  rw [HT.sIx_none, HT.sIx_nat]
  rw [List.take_of_length_le]
  · congr 1
    omega
  · rw [List.length_drop]
    omega
theorem after_set {st : Word} {k : Nat} {to : Int} (h : k < st.length) : st.take k ++ [to] ++ st.drop (k + 1) = st.set k to := by
  rw [List.set_eq_take_append_cons_drop, if_pos h, List.append_assoc]
  rfl
theorem renw_read {K : PySem.W.Frag} {iw ik inm : Nat} {σ : L2.St} {H : Hp} {Q : VK} {a u : Addr} {st nm : Word} {k : Nat} {x m : Int} (s1 : σ[iw]? = some (some (.ref a))) (s2 : σ[ik]? = some (some (.int (k : Nat)))) (s3 : σ[inm]? = some (some (.ref u)))
    (ha : H a = some (.tup (st.map V.int))) (hu : SqT K H u (nm.map V.int)) (N : NmOk nm m) (hx : st[k]? = some x) (x0 : 0 ≤ x) (x1 : x < m) (l100 : st.length ≤ 100) (q : ∀ H' z, Evl.Ex H H' → H' z = some (.tup ((renW k nm st).map V.int)) → Q (.ref z) H') :
    tRenW K iw ik inm σ H Q := by
  have kl := (List.getElem?_eq_some_iff.mp hx).1
  have ln : (st.map V.int).length = st.length := List.length_map ..
  have ex : st.getD k 0 = x := getD_of hx
  refine ⟨.ref a, s1, .int (k : Nat), s2, (k : Nat), rfl, ?_⟩
  refine sl_own (K := K) (lo := none) (hi := some (k : Nat)) ha fun H1 z1 e1 q1 => ?_
  rw [cut_take, ← List.map_take] at q1
  refine ⟨.ref u, s3, .ref a, s1, .int (k : Nat), s2, a, _, (k : Nat), .int x, rfl, rfl, .inl (.inl (e1 _ _ ha)), atI_nat (map_int_get hx), ?_⟩
  refine ⟨u, _, x, .int (nmAt nm x), rfl, rfl, Evl.ex_t e1 hu, ?_, ?_⟩
  · have z := atI_nat (map_int_get (nm_get N x0 x1))
    rw [Int.toNat_of_nonneg x0] at z
    exact z
  refine ⟨(by show 1 ≤ sizeLine; decide), fun t nt => ?_⟩
  have e2 := Evl.Ex.new (o := .tup [.int (nmAt nm x)]) nt
  have q2 : (upd H1 t (.tup [.int (nmAt nm x)])) t = some (.tup [.int (nmAt nm x)]) := upd_same
  generalize upd H1 t (.tup [.int (nmAt nm x)]) = H2 at e2 q2
  refine cat_own (K := K) (e2 _ _ q1) q2 (Nat.le_trans (by rw [List.length_map, List.length_take, List.length_singleton]; omega : ((st.take k).map V.int).length + [V.int (nmAt nm x)].length ≤ 101) (by decide)) fun H3 z3 e3 q3 => ?_
  have a3 := (e1.trans (e2.trans e3)) _ _ ha
  refine ⟨.ref a, s1, .int (k : Nat), s2, (k : Nat), 1, rfl, rfl, ((k + 1 : Nat) : Int), by rw [Int.natCast_add]; rfl, ?_⟩
  refine nopart1 ?_
  refine sl_own (K := K) (lo := some ((k + 1 : Nat) : Int)) (hi := none) a3 fun H4 z4 e4 q4 => ?_
  rw [cut_drop (st.map V.int) (k := k + 1) (by rw [ln]; omega), ← List.map_drop] at q4
  refine cat_own (K := K) (e4 _ _ q3) q4 (Nat.le_trans (by simp only [List.length_append, List.length_map, List.length_take, List.length_drop, List.length_singleton]; omega : ((st.take k).map V.int ++ [V.int (nmAt nm x)]).length + ((st.drop (k + 1)).map V.int).length ≤ 201) (by decide)) fun H5 z5 e5 q5 => ?_
  refine q H5 z5 (e1.trans (e2.trans (e3.trans (e4.trans e5)))) ?_
  unfold renW
  rw [ex, ← after_set kl, List.map_append, List.map_append]
  exact q5
theorem lex_irr : ∀ a : List Int, HT.lexLt a a = false
  | [] => rfl
  | x :: a => by rw [HT.lexLt_cons, if_pos rfl, lex_irr a]
/-- an own class of refusals -/
structure XcK (K : PySem.W.Frag) (mg : Str → Option Value) (nm : Str) where
  C : Addr
  g : mg nm = some (.ref C)
  q : PySem.W.excIn K C [.type "ValueError", .type "Exception", .type "BaseException", .type "object"] "ValueError.__new__" = true
  k : PySem.W.keepIn K (.ref C) = true
  s : PySem.W.subIn K (.ref C) (.type "BaseException") = some true
  t : PySem.W.typeIn K (.ref C) = some (.type "type")
def spNeedB (K : PySem.W.Frag) (C : Addr) : Sp := fun vs H Q E => ∃ (v u : V) (l : Lock) (d : PyData), vs = [v, u] ∧ LockAt K H v l ∧ Th K H u d ∧ (if wholeB d 0 ((l.length : Int) - 1) = true then Q .non H else E (.ref C) none H)
def spBRen (K : PySem.W.Frag) : Sp := fun vs H Q _ => ∃ (v : V) (u : Addr) (l : Lock) (k n : Nat) (c b : Bolt) (nm : Word), vs = [v, .int (k : Nat), .ref u] ∧ BoltAt K H v b ∧ SqT K H u (nm.map V.int) ∧ LockOk l ∧ l[k]? = some c ∧ l[n]? = some b ∧ k < n ∧ NmOk nm c.many ∧
  ∀ H' v' b', Evl.Ex H H' → BoltAt K H' v' b' → IsRen k n nm b b' → Q v' H'
section
variable {P : Program} {w : World} {K : PySem.W.Frag} {mg : Str → Option Value} {base : Heap}
theorem ok_needB (D : Pr K mg) (NB : XcK K mg "NoBolt") {f : Addr} {fd : FuncData} (F : Fun K "need_bolt" "need_bolt" sNeedB f fd) : FnOk P w K mg base (L2.CX P w) 3 f fd ["lock", "thing"] (spNeedB K NB.C) := by
  have B := D.B
  have G2 : FnOk P w K mg base CX0 2 D.f2 D.d2 ["thing", "low", "high"] (spWholeInG K) := ok_wholeInG D.F2 D.F1 D.b1 D.g1 D.B
  refine F.okX scNeedB (fun vs H Q E h => ?_) (fun cdv A outer s H vs Q E hr h => ?_)
  · obtain ⟨v, u, l, d, rfl, _⟩ := h; rfl
  · obtain ⟨v, u, l, d, rfl, hv, hu, q⟩ := h
    refine ⟨_, (pss_one (ps_if (pt_not (pt_val (pe_call G2 hr (by rfl) D.g2 D.F2.kp D.b2 .nil pass0 (pa_cons (pv 1) (pa_cons pe_int (pa_cons (pe_op op_sub (pe_callB call_len_seq (by rfl) B.len PySem.boot_len (pa_cons (pv 0) pa_nil)) pe_int) pa_nil))))))
 (pss_one (ps_raise rfl (takes_of rfl rfl rfl rfl) (pmk_own0 PySem.F.excBase_ValueError NB.q NB.g NB.k (raises_own NB.s NB.t) (by rfl))))
 pss_nil)), ?_⟩
    obtain ⟨a, bs, rfl, ha, hbs⟩ := hv
    have bl : bs.length = l.length := Paired.len hbs
    refine ⟨u, rfl, .ref a, rfl, a, bs, rfl, .inr ha, (bs.length : Nat), 1, rfl, rfl, ?_⟩
    refine ⟨u, d, 0, _, rfl, hu, ?_⟩
    rw [bl]
    refine ⟨_, rfl, ?_⟩
    by_cases c : wholeB d 0 ((l.length : Int) - 1) = true
    · rw [if_pos c] at q
      refine ite2 (fun z => ?_) (fun _ => q)
      rw [c] at z
      cases z
    · rw [if_neg c] at q
      refine ite2 (fun _ => q) (fun z => ?_)
      rw [Bool.not_eq_true] at c
      rw [c] at z
      exact absurd rfl z
theorem ok_told (D : Pr K mg) {f : Addr} {fd : FuncData} (F : Fun K "told_lock" "told_lock" sTold f fd) : FnOk P w K mg base CX0 8 f fd ["lock"] (fun vs H Q _ => ∃ (v : V) (l : Lock), vs = [v] ∧ LockAt K H v l ∧ LockOk l ∧ ∀ H', Evl.Ex H H' → Q v H') := by
  have G24 : FnOk P w K mg base CX0 7 D.f24 D.d24 ["lock"] (spFault K) := ok_needL D
  refine F.ok scTold (fun vs H Q E h => ?_) (fun cdv A outer s H vs Q E hr h => ?_)
  · obtain ⟨v, l, rfl, _⟩ := h; rfl
  · obtain ⟨v, l, rfl, hv, ok, q⟩ := h
    refine ⟨_, (pss_cons (ps_expr (pe_call G24 hr (by rfl) D.g24 D.F24.kp D.b24 .nil pass0 (pa_cons (pv 0) pa_nil)))
 (pss_one (ps_ret (pv 0)))), ?_⟩
    exact ⟨v, rfl, v, l, rfl, hv, ok, fun H1 e1 => ⟨v, rfl, q H1 e1⟩⟩
theorem ok_bren (D : Pr K mg) {f : Addr} {fd : FuncData} (F : Fun K "bolt_renamed" "bolt_renamed" sBRen f fd) : FnOk P w K mg base CX0 1 f fd ["bolt", "k", "names"] (spBRen K) := by
  have B := D.B
  refine F.ok scBRen (fun vs H Q E h => ?_) (fun cdv A outer s H vs Q E hr h => ?_)
  · obtain ⟨v, u, l, k, n, c, b, nm, rfl, _⟩ := h; rfl
  · obtain ⟨v, u, l, k, n, c, b, nm, rfl, hv, hu, ok, hc, hb, kn, N, q⟩ := h
    refine ⟨_, (pss_cons (ps_set (i := 3) scBRen.nd rfl (.inl rfl) (pe_lst pa_nil))
 (pss_cons (ps_for PassesOwn.never rfl (pi_tup (pe_ix (r := rIxT K) ix_tup (pv 0) pe_int (fun _ _ => rfl))) (pg_tup rfl (pgs_cons (pg_name (i := 4) scBRen.nd rfl (.inl rfl)) (pgs_cons (pg_name (i := 5) scBRen.nd rfl (.inl rfl)) (pgs_cons (pg_name (i := 6) scBRen.nd rfl (.inl rfl)) (pgs_cons (pg_name (i := 7) scBRen.nd rfl (.inl rfl)) pgs_nil)))))
 (pss_cons (ps_setLc (i := 8) (own := [("way", 9)]) (g := gName 9) rfl scBRen.nd rfl rfl (sw_true rfl rfl rfl (by decide +kernel)) (pi_tup (pv 7)) (blkOk_by (own := [("way", 9)]) (N := nBRen) (sc := defScope sBRen) (by decide +kernel)) (fun _ _ _ _ _ => (pg_name (i := 9) scBRen.nd rfl (.inl rfl))) (fun _ _ _ _ _ => pts_nil) (fun _ _ _ _ _ => (pe_op (r := rCatA K) op_catA (pe_op (r := rCatA K) op_catA (pe_slice (r := rSlA K) sl_tupA (pv 9) po_none (po_some (pv 1))) (pe_tup (pa_cons (pe_ix (r := rIxT K) ix_tup (pv 2) (pe_ix (r := rIxT K) ix_tup (pv 9) (pv 1) (fun _ _ => rfl)) (fun _ _ => rfl)) pa_nil))) (pe_slice (r := rSlA K) sl_tupA (pv 9) (po_some (pe_op op_add (pv 1) pe_int)) po_none))))
 (pss_one (ps_expr (pe_bm PySem.F.plainAttrs_list PySem.F.slot_list_append PySem.F.type_list_append mt_append (pv 3) (pa_cons (pe_tup (pa_cons (pv 4) (pa_cons (pv 5) (pa_cons (pv 6) (pa_cons (pe_callTy (r := rTupK K) call_tupK (by rfl) B.tuple PyProof.Rows.boot_tuple (pa_cons (pe_callB (r := rSortL K) cr_sortL (by rfl) B.sorted boot_sorted (pa_cons (pv 8) pa_nil)) pa_nil)) pa_nil))))) pa_nil))))))
 (pss_one (ps_ret (pe_tup (pa_cons (pe_ix (r := rIxT K) ix_tup (pv 0) pe_int (fun _ _ => rfl)) (pa_cons (pe_callTy (r := rTupK K) call_tupK (by rfl) B.tuple PyProof.Rows.boot_tuple (pa_cons (pv 3) pa_nil)) pa_nil))))))), ?_⟩
    obtain ⟨a1, c1, gs, rfl, h1, h2, h3⟩ := hv
    have gl : gs.length = b.gaps.length := Paired.len h3
    have g16 := gaps_16 ok hb
    have l60 := ok.n1
    refine ⟨Nat.zero_le _, fun r0 nr0 => ?_⟩
    have e1 := Evl.Ex.new (o := .lst []) nr0
    refine ⟨.ref a1, rfl, a1, _, 1, .ref c1, rfl, rfl, Evl.ex_t e1 h1, atI_nat (j := 1) rfl, c1, rfl, ⟨gs, Evl.ex_t e1 h2⟩, ?_⟩
    refine for_tup (K := K) (a := c1) (xs := gs) (fun i σ H' => ∃ (rvs : List V) (rs : List Gap) (y4 y5 y6 y7 y8 y9 : Option V), σ = [some (.ref a1), some (.int (k : Nat)), some (.ref u), some (.ref r0), y4, y5, y6, y7, y8, y9] ∧ Evl.Ex H H' ∧ H' r0 = some (.lst rvs) ∧ Paired (GapAt K H') rvs rs ∧ Paired (RenG k n nm) (b.gaps.take i) rs)
      ⟨[], [], none, none, none, none, none, none, rfl, e1, upd_same, .nil, .nil⟩ ?_ ?_ ?_
    · rintro i σ H1 _ ⟨_, _, _, _, _, _, _, _, _, e, _⟩
      exact Evl.ex_t e h2
    · rintro i x σ H1 hx ⟨rvs, rs, y4, y5, y6, y7, y8, y9, rfl, e2, hr1, hrv, hT⟩
      obtain ⟨g, hg, ⟨a2, b2, ws, rfl, k1, k2, k3⟩⟩ := Paired.get1 h3 hx
      have il : i < b.gaps.length := (List.getElem?_eq_some_iff.mp hg).1
      have hgm := List.mem_of_getElem? hg
      have G := (ok.bolts n b hb).gaps g hgm
      have rvl : rvs.length = rs.length := Paired.len hrv
      have rll : (b.gaps.take i).length = rs.length := Paired.len hT
      rw [List.length_take] at rll
      refine ⟨a2, _, rfl, Evl.ex_t e2 k1, rfl, _, _, rfl, _, _, rfl, _, _, rfl, _, _, rfl, rfl, ?_⟩
      refine ⟨.ref b2, rfl, b2, rfl, ⟨ws, Evl.ex_t e2 k2⟩, fun D0 hD => ?_⟩
      refine lc_tup (K := K) (a := b2) (xs := ws) (fun j H' => ∃ vvs : List V, Evl.Ex H1 H' ∧ H' D0 = some (.lst vvs) ∧ Paired (Wd K H') vvs ((g.ways.take j).map (renW k nm))) ⟨[], Evl.Ex.new hD, upd_same, .nil⟩ ?_ ?_ ?_
      · rintro j H2 _ ⟨_, e3, _⟩
        exact Evl.ex_t (e2.trans e3) k2
      · rintro j x H2 hj ⟨vvs, e3, hD2, hvv⟩
        obtain ⟨wd, hwd, ⟨wa, rfl, hwa⟩⟩ := Paired.get1 k3 hj
        have jl : j < g.ways.length := (List.getElem?_eq_some_iff.mp hwd).1
        have vl : vvs.length = j := by
          have := Paired.len hvv
          rw [List.length_map, List.length_take] at this
          omega
        have e23 := e2.trans e3
        obtain ⟨wl, y, hy, y0, y1⟩ := way_at ok hc hb kn hgm (List.mem_of_getElem? hwd)
        have nl := (List.getElem?_eq_some_iff.mp hb).1
        refine ⟨rfl, ?_⟩
        refine renw_read (iw := 9) (ik := 1) (inm := 2) rfl rfl rfl (e23 _ _ hwa) (Evl.ex_t e23 hu) N hy y0 y1 (by omega) fun H3 z e4 hz => ?_
        have hD3 := e4 _ _ hD2
        have f8 := G.few
        refine ⟨vvs, hD3, Nat.lt_of_le_of_lt (by omega : vvs.length ≤ 16) (by decide), vvs ++ [.ref z], (e3.trans e4).mut hD, upd_same, ?_⟩
        rw [take_succ_get hwd, List.map_append]
        exact Paired.imp (fun _ _ => Wd.mono (TX.put hD3)) (paired_app1 (Paired.imp (fun _ _ => Wd.mono (TX.ex e4)) hvv) ⟨z, rfl, hz⟩)
      · rintro H2 ⟨vvs, e3, hD2, hvv⟩
        have wl : ws.length = g.ways.length := Paired.len k3
        rw [wl, List.take_length] at hvv
        have vl : vvs.length = g.ways.length := by rw [Paired.len hvv, List.length_map]
        have f8 := G.few
        have e23 := e2.trans e3
        have wn : ∀ w ∈ g.ways.map (renW k nm), w.length = n ∧ TS.Bd 4 w := fun w hw => by
          obtain ⟨v, hv, rfl⟩ := List.mem_map.mp hw
          obtain ⟨ul, y, hy, y0, y1⟩ := way_at ok hc hb kn hgm hv
          refine ⟨by rw [renW_len]; exact ul, fun x hx => ?_⟩
          obtain ⟨i, hi⟩ := List.mem_iff_getElem?.mp hx
          by_cases e : k = i
          · subst e
            rw [renW_self (by omega), getD_of hy] at hi
            cases hi
            have b := nm_bd N y0 y1
            have c4 := (ok.bolts k c hc).m1
            exact ⟨b.1, by omega⟩
          · rw [renW_other e] at hi
            have il := (List.getElem?_eq_some_iff.mp hi).1
            have nl := (List.getElem?_eq_some_iff.mp hb).1
            have hli : l[i]? = some (l[i]'(by omega)) := List.getElem?_eq_getElem _
            have z := (G.words v hv).2 i x _ hi (by rw [manys_tk, List.getElem?_take, if_pos (by omega)]; exact manys_at hli)
            have c4 := (ok.bolts i _ hli).m1
            omega
        have hr2 := e3 _ _ hr1
        refine ⟨.ref r0, rfl, .inl ⟨rfl, _, SqL.of hr2⟩, .int g.frm, rfl, .int g.to_, rfl, .int g.price, rfl, .ref D0, rfl, ?_⟩
        refine ⟨D0, vvs, _, n, 4, rfl, SqL.of hD2, .inr (by omega), hvv, wn, fun ys us O yl hys pm pw nO => ?_⟩
        have e4 := Evl.Ex.new (o := .lst ys) nO
        have gO : (upd H2 O (.lst ys)) O = some (.lst ys) := upd_same
        generalize upd H2 O (.lst ys) = H3 at e4 gO
        refine ⟨O, ys, rfl, .inl ⟨.inl (.inl gO), fun t nt => ?_⟩⟩
        have e5 := Evl.Ex.new (o := .tup ys) nt
        have gt : (upd H3 t (.tup ys)) t = some (.tup ys) := upd_same
        generalize upd H3 t (.tup ys) = H4 at e5 gt
        refine ⟨(by show 4 ≤ sizeLine; decide), fun tb ntb => ?_⟩
        have e6 := Evl.Ex.new (o := .tup [.int g.frm, .int g.to_, .int g.price, .ref t]) ntb
        have gb : (upd H4 tb (.tup [.int g.frm, .int g.to_, .int g.price, .ref t])) tb = some (.tup [.int g.frm, .int g.to_, .int g.price, .ref t]) := upd_same
        generalize upd H4 tb (.tup [.int g.frm, .int g.to_, .int g.price, .ref t]) = H5 at e6 gb
        have e36 := e3.trans (e4.trans (e5.trans e6))
        have hr5 := e36 _ _ hr1
        have nd : (g.ways.map (renW k nm)).Nodup := by
          refine List.pairwise_map.mpr ((G.rise.imp_of_mem (S := fun a b : Word => renW k nm a ≠ renW k nm b)) fun {a b} ha hb' q e => ?_)
          obtain ⟨_, y, hy, y0, y1⟩ := way_at ok hc hb kn hgm ha
          obtain ⟨_, z, hz, z0, z1⟩ := way_at ok hc hb kn hgm hb'
          have ab : a = b := by rw [← renW_back N hy y0 y1, ← renW_back N hz z0 z1, e]
          subst ab
          exact absurd q (by rw [lex_irr]; exact Bool.false_ne_true)
        have rise := lex_pairwise pm nd wn pw
        have RG : RenG k n nm g ⟨g.frm, g.to_, g.price, us⟩ := ⟨by rw [if_neg (by omega)], by rw [if_neg (by omega)], rfl, by rw [if_pos kn]; exact pm, rise⟩
        have GA : GapAt K H5 (.ref tb) ⟨g.frm, g.to_, g.price, us⟩ := ⟨tb, t, ys, rfl, .inl (.inl gb), .inl (.inl (e6 _ _ gt)), Paired.imp (fun _ _ => Wd.mono (TX.ex (e4.trans (e5.trans e6)))) hys⟩
        refine ⟨r0, rvs, _, rfl, rfl, hr5, Nat.lt_of_le_of_lt (by omega : rvs.length ≤ 16) (by decide), rvs ++ [.ref tb], rs ++ [⟨g.frm, g.to_, g.price, us⟩], _, _, _, _, _, _, rfl, (e2.trans e36).mut nr0, upd_same, ?_, ?_⟩
        · exact Paired.imp (fun _ _ => GapAt.mono (TX.put hr5)) (paired_app1 (Paired.imp (fun _ _ => GapAt.mono (TX.ex e36)) hrv) GA)
        · rw [take_succ_get hg]
          exact paired_app1 hT RG
    · rintro σ H1 ⟨rvs, rs, y4, y5, y6, y7, y8, y9, rfl, e2, hr1, hrv, hT⟩
      rw [gl, List.take_length] at hT
      refine ⟨.ref a1, rfl, a1, _, 0, .int b.many, rfl, rfl, Evl.ex_t e2 h1, atI_nat (j := 0) rfl, .ref r0, rfl, r0, rvs, rfl, .inl ⟨.inl (.inl hr1), fun t nt => ?_⟩⟩
      have e3 := Evl.Ex.new (o := .tup rvs) nt
      have gt : (upd H1 t (.tup rvs)) t = some (.tup rvs) := upd_same
      generalize upd H1 t (.tup rvs) = H2 at e3 gt
      refine ⟨(by show 2 ≤ sizeLine; decide), fun tb ntb => ?_⟩
      have e4 := Evl.Ex.new (o := .tup [.int b.many, .ref t]) ntb
      have gb : (upd H2 tb (.tup [.int b.many, .ref t])) tb = some (.tup [.int b.many, .ref t]) := upd_same
      generalize upd H2 tb (.tup [.int b.many, .ref t]) = H3 at e4 gb
      refine q H3 (.ref tb) ⟨b.many, rs⟩ (e2.trans (e3.trans e4)) ⟨tb, t, rvs, rfl, .inl (.inl gb), .inl (.inl (e4 _ _ gt)), Paired.imp (fun _ _ => GapAt.mono (TX.ex (e3.trans e4))) hrv⟩ ⟨rfl, ⟨rs, List.Perm.refl _, hT⟩, ?_⟩
      have go : ∀ {xs ys : List Gap}, Paired (RenG k n nm) xs ys → xs.Pairwise (fun g h => lexLt2 g.frm g.to_ h.frm h.to_) → ys.Pairwise (fun g h => lexLt2 g.frm g.to_ h.frm h.to_) := by
        intro xs ys p
        induction p with
        | nil => intro _; exact List.Pairwise.nil
        | @cons x y xs ys r t ih =>
          intro h
          obtain ⟨h1, h2⟩ := List.pairwise_cons.mp h
          refine List.pairwise_cons.mpr ⟨fun z hz => ?_, ih h2⟩
          obtain ⟨m, hm⟩ := List.mem_iff_getElem?.mp hz
          obtain ⟨x2, e1, e2⟩ := Paired.get2 t hm
          have q := h1 x2 (List.mem_of_getElem? e1)
          rw [r.frm, r.to_, e2.frm, e2.to_, if_neg (by omega), if_neg (by omega), if_neg (by omega), if_neg (by omega)]
          exact q
      exact go hT (ok.bolts n b hb).rise
end
end Wb

set_option Elab.async false
set_option linter.all false
set_option maxRecDepth 100000
set_option maxHeartbeats 4000000
set_option pp.maxSteps 900
set_option pp.deepTerms false
namespace Wb
open PySem PySem.Spec PyProof.Rows L2
abbrev sRen : Stmt := topS 33
abbrev nRen : List Str := ["lock", "k", "names", "many", "gaps", "turned_gaps", "bolts", "here", "there", "price", "ways", "bolt"]
theorem scRen : FnScope nRen ["lock", "k", "names"] (defScope sRen) := ⟨rfl, rfl, rfl, by decide +kernel, rfl, by decide +kernel, by decide +kernel⟩

section
variable {K : PySem.W.Frag} {H : Hp} {Q : VK} {a b : Addr} {xs ys : List V}
theorem sl_any {lo hi : Option Int} (ha : SqT K H a xs) (q : ∀ H' z, Evl.Ex H H' → SqT K H' z (cutV xs lo hi) → Q (.ref z) H') : rSlA K (.ref a) lo hi H Q := by
  refine ⟨a, xs, rfl, ha, fun h => ?_, fun _ t nt => ?_⟩
  · exact q H a (Evl.Ex.refl H) (by rw [cutV_whole h]; exact ha)
  · exact q _ t (Evl.Ex.new nt) (.inl (.inl upd_same))
theorem cat_any (ha : SqT K H a xs) (hb : SqT K H b ys) (hz : xs.length + ys.length ≤ sizeLine) (q : ∀ H' z, Evl.Ex H H' → SqT K H' z (xs ++ ys) → Q (.ref z) H') : rCatA K (.ref a) (.ref b) H Q := by
  refine ⟨a, b, xs, ys, rfl, rfl, ha, hb, hz, fun h => ?_, fun _ h => ?_, fun _ _ t nt => ?_⟩
  · exact q H b (Evl.Ex.refl H) (by rw [h]; exact hb)
  · exact q H a (Evl.Ex.refl H) (by rw [h, List.append_nil]; exact ha)
  · exact q _ t (Evl.Ex.new nt) (.inl (.inl upd_same))
end
/-! ### names that are things of any kind -/
def intD : PyData → Int
  | .int i => i
  | _ => 0
def intsD (d : PyData) : Word := (itemsD d).map intD
def namesB (d : PyData) (m : Int) : Bool := placesB d (List.replicate m.toNat m) && decide (intsD d).Nodup
/-- the unlike ones -/
def ded : List Int → List Int
  | [] => []
  | x :: xs => if x ∈ xs then ded xs else x :: ded xs
theorem ded_mem : ∀ (xs : List Int) (k : Int), k ∈ ded xs ↔ k ∈ xs
  | [], _ => Iff.rfl
  | x :: xs, k => by
    unfold ded
    by_cases h : x ∈ xs
    · rw [if_pos h, ded_mem xs k, List.mem_cons]
      exact ⟨.inr, fun z => z.elim (fun e => e ▸ h) id⟩
    · rw [if_neg h, List.mem_cons, List.mem_cons, ded_mem xs k]
theorem ded_nodup : ∀ xs : List Int, (ded xs).Nodup
  | [] => List.nodup_nil
  | x :: xs => by
    unfold ded
    by_cases h : x ∈ xs
    · rw [if_pos h]
      exact ded_nodup xs
    · rw [if_neg h]
      exact List.nodup_cons.mpr ⟨fun z => h ((ded_mem xs x).mp z), ded_nodup xs⟩
theorem ded_len : ∀ xs : List Int, (ded xs).length ≤ xs.length ∧ ((ded xs).length = xs.length ↔ xs.Nodup)
  | [] => ⟨Nat.le_refl _, fun _ => List.nodup_nil, fun _ => rfl⟩
  | x :: xs => by
    obtain ⟨h1, h2⟩ := ded_len xs
    unfold ded
    by_cases h : x ∈ xs
    · rw [if_pos h, List.length_cons]
      refine ⟨by omega, fun z => by omega, fun z => absurd h (List.nodup_cons.mp z).1⟩
    · rw [if_neg h, List.length_cons, List.length_cons]
      refine ⟨by omega, fun z => List.nodup_cons.mpr ⟨h, h2.mp (by omega)⟩, fun z => by rw [h2.mpr (List.nodup_cons.mp z).2]⟩
theorem rep_get {m : Int} {n i : Nat} (h : i < n) : (List.replicate n m)[i]? = some m := by
  rw [List.getElem?_replicate, if_pos h]
theorem allP_get : ∀ {ds : List PyData} {ms : List Int}, allP ds ms = true → ∀ (i : Nat) (d : PyData) (m : Int), ds[i]? = some d → ms[i]? = some m → placeB d m = true
  | _ :: _, _ :: _, h, 0, d, m, h1, h2 => by
    simp only [allP, Bool.and_eq_true] at h
    simp at h1 h2
    rw [← h1, ← h2]
    exact h.1
  | _ :: _, _ :: _, h, i + 1, d, m, h1, h2 => by
    simp only [allP, Bool.and_eq_true] at h
    exact allP_get h.2 i d m (by simpa using h1) (by simpa using h2)
  | [], _, _, _, _, _, h1, _ => by simp at h1
  | _ :: _, [], _, _, _, _, _, h2 => by simp at h2
theorem placeB_int {d : PyData} {m : Int} (h : placeB d m = true) : ∃ i, d = .int i ∧ 0 ≤ i ∧ i < m := by
  cases d with
  | int i =>
    simp only [placeB, Bool.and_eq_true, decide_eq_true_eq] at h
    exact ⟨i, rfl, h.1, h.2⟩
  | _ => simp [placeB] at h
/-- as many places as there are, each within its bounds -/
theorem places_ints {d : PyData} {m : Int} (h : placesB d (List.replicate m.toNat m) = true) : ∃ nm : Word, d = .tuple (nm.map .int) ∧ nm.length = m.toNat ∧ ∀ x ∈ nm, 0 ≤ x ∧ x < m := by
  unfold placesB at h
  simp only [Bool.and_eq_true, decide_eq_true_eq] at h
  obtain ⟨h1, h2, h3⟩ := h
  obtain ⟨ds, rfl⟩ := tup_of h1
  have e : itemsD (.tuple ds) = ds := rfl
  rw [e] at h2 h3
  rw [List.length_replicate] at h2
  have at_ : ∀ i (hi : i < ds.length), ∃ n, ds[i] = .int n ∧ 0 ≤ n ∧ n < m := fun i hi => placeB_int (allP_get h3 i _ m (List.getElem?_eq_getElem hi) (rep_get (by omega)))
  refine ⟨ds.map intD, ?_, by rw [List.length_map]; exact h2, fun x hx => ?_⟩
  · congr 1
    rw [List.map_map]
    refine ((List.map_congr_left fun x hx => ?_).trans (List.map_id ds)).symm
    obtain ⟨i, hi, rfl⟩ := List.getElem_of_mem hx
    obtain ⟨n, e, _⟩ := at_ i hi
    show PyData.int (intD ds[i]) = ds[i]
    rw [e]
    rfl
  · obtain ⟨y, hy, rfl⟩ := List.mem_map.mp hx
    obtain ⟨i, hi, rfl⟩ := List.getElem_of_mem hy
    obtain ⟨n, e, n0, n1⟩ := at_ i hi
    rw [e]
    exact ⟨n0, n1⟩
theorem ints_back (nm : Word) : intsD (.tuple (nm.map .int)) = nm := by
  show (nm.map PyData.int).map intD = nm
  rw [List.map_map]
  exact (List.map_congr_left fun x _ => rfl).trans (List.map_id nm)
theorem th_ints {K : PySem.W.Frag} {H : Hp} {v : V} {nm : Word} (h : Th K H v (.tuple (nm.map .int))) : ∃ a, v = .ref a ∧ Rd H a (.tup (nm.map V.int)) := by
  obtain ⟨a, xs, rfl, ha, hp⟩ := h.itemsS
  refine ⟨a, rfl, ?_⟩
  have e : xs = nm.map V.int := by
    clear h ha
    revert xs
    induction nm with
    | nil =>
      intro xs hp
      cases hp
      rfl
    | cons x nm ih =>
      intro xs hp
      cases hp with
      | cons h1 h2 =>
        cases h1
        rw [ih _ h2]
        rfl
  rw [← e]
  exact ha
theorem nmok_of {nm : Word} {m : Int} (m0 : 0 ≤ m) (l : nm.length = m.toNat) (b : ∀ x ∈ nm, 0 ≤ x ∧ x < m) (nd : nm.Nodup) : NmOk nm m := ⟨by omega, b, nd⟩
/-! ### gaps sorted by the places they lead from and to -/
def GN (K : PySem.W.Frag) (H : Hp) (x : V) (g : Gap) : Prop := GapAt K H x g ∧ FoundAt H x g
theorem GN.mono {K : PySem.W.Frag} {H H' : Hp} (e : TX K H H') {x : V} {g : Gap} (h : GN K H x g) : GN K H' x g := by
  obtain ⟨h1, t, q, y, rfl, h2⟩ := h
  exact ⟨GapAt.mono e h1, t, q, y, rfl, e.2 _ _ h2⟩
theorem gn_new {K : PySem.W.Frag} {H : Hp} {t b2 : Addr} {ws : List V} {f1 t1 p1 : Int} {ways : List Word} (h : H t = some (.tup [.int f1, .int t1, .int p1, .ref b2])) (k2 : SqT K H b2 ws) (k3 : Paired (Wd K H) ws ways) : GN K H (.ref t) ⟨f1, t1, p1, ways⟩ :=
  ⟨⟨t, b2, ws, rfl, .inl (.inl h), k2, k3⟩, t, p1, .ref b2, rfl, h⟩
/-- places below four, no two gaps from and to the same ones -/
structure Keyed4 (gs : List Gap) : Prop where
  bd : ∀ g ∈ gs, 0 ≤ g.frm ∧ g.frm < 4 ∧ 0 ≤ g.to_ ∧ g.to_ < 4
  nd : (gs.map fun g => (g.frm, g.to_)).Nodup
theorem keyed_asks {K : PySem.W.Frag} {H : Hp} {gs : List Gap} {rvs : List V} (B : Keyed4 gs) (hr : Paired (GN K H) rvs gs) :
    (∀ x ∈ rvs, ∃ (t : Addr) (q : Int) (y : V), x = .ref t ∧ SqT K H t [.int (kH H x).1, .int (kH H x).2, .int q, y] ∧ 0 ≤ (kH H x).1 ∧ (kH H x).1 < 4 ∧ 0 ≤ (kH H x).2 ∧ (kH H x).2 < 4) ∧ (∀ x ∈ rvs, ∀ y ∈ rvs, kH H x = kH H y → x = y) := by
  refine ⟨fun x hx => ?_, fun x hx y hy e => ?_⟩
  · obtain ⟨i, hi⟩ := List.mem_iff_getElem?.mp hx
    obtain ⟨g, hg, ⟨_, fa⟩⟩ := Paired.get1 hr hi
    have hk := kH_of fa
    obtain ⟨t, q0, y0, rfl, ht⟩ := fa
    have z := B.bd g (List.mem_of_getElem? hg)
    refine ⟨t, q0, y0, rfl, ?_, ?_⟩
    · rw [hk]
      exact .inl (.inl ht)
    · rw [hk]
      exact z
  · obtain ⟨i, hi⟩ := List.mem_iff_getElem?.mp hx
    obtain ⟨j, hj⟩ := List.mem_iff_getElem?.mp hy
    obtain ⟨g, hg, hgf⟩ := Paired.get1 hr hi
    obtain ⟨g', hg', hgf'⟩ := Paired.get1 hr hj
    rw [kH_of hgf.2, kH_of hgf'.2] at e
    have e1 : (gs.map fun g => (g.frm, g.to_))[i]? = some (g.frm, g.to_) := by rw [List.getElem?_map, hg]; rfl
    have e2 : (gs.map fun g => (g.frm, g.to_))[j]? = some (g.frm, g.to_) := by rw [List.getElem?_map, hg', e]; rfl
    have il := (List.getElem?_eq_some_iff.mp e1).1
    have ij : i = j := (List.getElem?_inj il B.nd).mp (e1.trans e2.symm)
    subst ij
    rw [hi] at hj
    exact Option.some.inj hj
theorem keyed_sorted {K : PySem.W.Frag} {H : Hp} {gs : List Gap} {rvs ys : List V} (B : Keyed4 gs) (hr : Paired (GN K H) rvs gs) (pm : ys.Perm rvs) (pw : ys.Pairwise (fun x y => TS.rk4 (kH H x) ≤ TS.rk4 (kH H y))) :
    ∃ gs', Paired (GN K H) ys gs' ∧ gs'.Perm gs ∧ gs'.Pairwise (fun g h => lexLt2 g.frm g.to_ h.frm h.to_) := by
  obtain ⟨gs2, gpm, hgy⟩ := paired_perm pm hr
  refine ⟨gs2, hgy, gpm, ?_⟩
  have nd : (gs2.map fun g => (g.frm, g.to_)).Nodup := (gpm.map fun g => (g.frm, g.to_)).nodup_iff.mpr B.nd
  have ysl : ys.length = gs2.length := Paired.len hgy
  rw [List.pairwise_iff_getElem]
  intro i j hi hj hij
  obtain ⟨gi, hgi, fi⟩ := Paired.get1 hgy (List.getElem?_eq_getElem (show i < ys.length by omega))
  obtain ⟨gj, hgj, fj⟩ := Paired.get1 hgy (List.getElem?_eq_getElem (show j < ys.length by omega))
  have c := List.pairwise_iff_getElem.mp pw i j (by omega) (by omega) hij
  rw [kH_of fi.2, kH_of fj.2] at c
  have ei : gs2[i] = gi := by rw [List.getElem?_eq_getElem hi] at hgi; exact Option.some.inj hgi
  have ej : gs2[j] = gj := by rw [List.getElem?_eq_getElem hj] at hgj; exact Option.some.inj hgj
  have ne := List.pairwise_iff_getElem.mp nd i j (by rw [List.length_map]; exact hi) (by rw [List.length_map]; exact hj) hij
  rw [List.getElem_map, List.getElem_map, ei, ej] at ne
  rw [ei, ej]
  obtain ⟨a1, a2, a3, a4⟩ := B.bd gi (gpm.mem_iff.mp (by rw [← ei]; exact List.getElem_mem hi))
  obtain ⟨b1, b2, b3, b4⟩ := B.bd gj (gpm.mem_iff.mp (by rw [← ej]; exact List.getElem_mem hj))
  unfold TS.rk4 at c
  have c' : 4 * gi.frm + gi.to_ ≤ 4 * gj.frm + gj.to_ := c
  have ne' : ¬ (gi.frm = gj.frm ∧ gi.to_ = gj.to_) := fun z => ne (Prod.ext z.1 z.2)
  unfold lexLt2
  omega
theorem rise_keyed {gs : List Gap} (bd : ∀ g ∈ gs, 0 ≤ g.frm ∧ g.frm < 4 ∧ 0 ≤ g.to_ ∧ g.to_ < 4) (r : gs.Pairwise (fun g h => lexLt2 g.frm g.to_ h.frm h.to_)) : Keyed4 gs :=
  ⟨bd, List.pairwise_map.mpr (r.imp fun {g h} q e => by
    have e1 : g.frm = h.frm := congrArg Prod.fst e
    have e2 : g.to_ = h.to_ := congrArg Prod.snd e
    unfold lexLt2 at q
    omega)⟩
/-- a gap of the bolt itself, by its new names -/
def rgK (nm : Word) (g : Gap) : Gap := ⟨nmAt nm g.frm, nmAt nm g.to_, g.price, g.ways⟩
theorem rgK_ren {l : Lock} (ok : LockOk l) {k : Nat} {nm : Word} {c : Bolt} (hc : l[k]? = some c) : ∀ {gs : List Gap}, (∀ g ∈ gs, g ∈ c.gaps) → Paired (RenG k k nm) gs (gs.map (rgK nm))
  | [], _ => .nil
  | g :: gs, h => .cons ⟨by rw [if_pos rfl]; rfl, by rw [if_pos rfl]; rfl, rfl, by rw [if_neg (Nat.lt_irrefl k)]; exact List.Perm.refl _, ((ok.bolts k c hc).gaps g (h g List.mem_cons_self)).rise⟩ (rgK_ren ok hc fun x hx => h x (List.mem_cons_of_mem _ hx))
theorem rgK_keyed {l : Lock} (ok : LockOk l) {k : Nat} {nm : Word} {c : Bolt} (hc : l[k]? = some c) (N : NmOk nm c.many) : Keyed4 (c.gaps.map (rgK nm)) := by
  have BO := ok.bolts k c hc
  have m1 := BO.m1
  refine ⟨fun g hg => ?_, ?_⟩
  · obtain ⟨x, hx, rfl⟩ := List.mem_map.mp hg
    have G := BO.gaps x hx
    have a := nm_bd N G.f0 G.f1
    have b := nm_bd N G.t0 G.t1
    exact ⟨a.1, by show nmAt nm x.frm < 4; omega, b.1, by show nmAt nm x.to_ < 4; omega⟩
  · rw [List.map_map]
    refine List.pairwise_map.mpr (BO.rise.imp_of_mem fun {g h} hg hh q e => ?_)
    have G := BO.gaps g hg
    have G2 := BO.gaps h hh
    have e1 : nmAt nm g.frm = nmAt nm h.frm := congrArg Prod.fst e
    have e2 : nmAt nm g.to_ = nmAt nm h.to_ := congrArg Prod.snd e
    have z1 := nm_inj N G.f0 G.f1 G2.f0 G2.f1 e1
    have z2 := nm_inj N G.t0 G.t1 G2.t0 G2.t1 e2
    unfold lexLt2 at q
    omega
theorem ren_below {l : Lock} (ok : LockOk l) {k n : Nat} {nm : Word} {b : Bolt} (hb : l[n]? = some b) (h : n < k) : IsRen k n nm b b := by
  have BO := ok.bolts n b hb
  refine ⟨rfl, ⟨b.gaps, List.Perm.refl _, ?_⟩, BO.rise⟩
  have go : ∀ gs : List Gap, (∀ g ∈ gs, g ∈ b.gaps) → Paired (RenG k n nm) gs gs := by
    intro gs
    induction gs with
    | nil => intro _; exact .nil
    | cons g gs ih =>
      intro hs
      exact .cons ⟨by rw [if_neg (by omega)], by rw [if_neg (by omega)], rfl, by rw [if_neg (by omega)], (BO.gaps g (hs g List.mem_cons_self)).rise⟩ (ih fun x hx => hs x (List.mem_cons_of_mem _ hx))
  exact go _ fun _ h => h
def spRen (K : PySem.W.Frag) (CB CN : Addr) : Sp := fun vs H Q E => ∃ (v u z : V) (l : Lock) (d e : PyData), vs = [v, u, z] ∧ LockAt K H v l ∧ LockOk l ∧ Th K H u d ∧ Th K H z e ∧
  (wholeB d 0 ((l.length : Int) - 1) = false → ∀ H', Evl.Ex H H' → E (.ref CB) none H') ∧
  (∀ (k : Nat) (c : Bolt), d = .int (k : Nat) → l[k]? = some c → namesB e c.many = false → ∀ H', Evl.Ex H H' → E (.ref CN) none H') ∧
  ∀ (k : Nat) (c : Bolt) (nm : Word), d = .int (k : Nat) → l[k]? = some c → e = .tuple (nm.map .int) → NmOk nm c.many → ∀ H' v' l', Evl.Ex H H' → LockAt K H' v' l' → Rens k nm l l' → Q v' H'
section
variable {P : Program} {w : World} {K : PySem.W.Frag} {mg : Str → Option Value} {base : Heap}
theorem ok_ren (D : Pr K mg) (NB : XcK K mg "NoBolt") (NN : XcK K mg "NoNames") {f fB fR fT : Addr} {fd dB dR dT : FuncData} (F : Fun K "renamed" "renamed" sRen f fd)
    (FB : Fun K "need_bolt" "need_bolt" sNeedB fB dB) (bB : Binds K dB ["lock", "thing"] []) (gB : mg "need_bolt" = some (.ref fB))
    (FR : Fun K "bolt_renamed" "bolt_renamed" sBRen fR dR) (bR : Binds K dR ["bolt", "k", "names"] []) (gR : mg "bolt_renamed" = some (.ref fR))
    (FT : Fun K "told_lock" "told_lock" sTold fT dT) (bT : Binds K dT ["lock"] []) (gT : mg "told_lock" = some (.ref fT)) : FnOk P w K mg base (L2.CX P w) 9 f fd ["lock", "k", "names"] (spRen K NB.C NN.C) := by
  have B := D.B
  have G24 : FnOk P w K mg base CX0 7 D.f24 D.d24 ["lock"] (spFault K) := ok_needL D
  have GB : FnOk P w K mg base (L2.CX P w) 3 fB dB ["lock", "thing"] (spNeedB K NB.C) := ok_needB D NB FB
  have G4 : FnOk P w K mg base CX0 2 D.f4 D.d4 ["thing", "manys"] (spPlacesG K) := ok_placesG D.F4 D.F3 D.b3 D.g3 D.B
  have GR : FnOk P w K mg base CX0 1 fR dR ["bolt", "k", "names"] (spBRen K) := ok_bren D FR
  have GT := ok_told (P := P) (w := w) (base := base) D FT
  refine F.okX scRen (fun vs H Q E h => ?_) (fun cdv A outer s H vs Q E hr h => ?_)
  · obtain ⟨v, u, z, l, d, e, rfl, _⟩ := h; rfl
  · obtain ⟨v, u, z, l, d, e, rfl, hv, ok, hu, hz, q1, q2, q3⟩ := h
    have hr7 : Room 7 _ := hr.mono (by decide)
    have hr3 : Room 3 _ := hr.mono (by decide)
    have hr2 : Room 2 _ := hr.mono (by decide)
    have hr1 : Room 1 _ := hr.mono (by decide)
    refine ⟨_, (pss_cons (ps_expr (pe_call G24 hr7 (by rfl) D.g24 D.F24.kp D.b24 .nil pass0 (pa_cons (pv 0) pa_nil)))
 (pss_cons (ps_expr (pe_call GB hr3 (by rfl) gB FB.kp bB .nil (passes_call (W := fun cls dd _ G => E cls dd G) (takes_of rfl rfl rfl rfl) (fun _ _ _ _ z => z)) (pa_cons (pv 0) (pa_cons (pv 1) pa_nil))))
 (pss_cons (ps_asg (pe_ix (r := rIxT K) ix_tup (pv 0) (pv 1) (fun _ _ => rfl)) (pg_tup rfl (pgs_cons (pg_name (i := 3) scRen.nd rfl (.inl rfl)) (pgs_cons (pg_name (i := 4) scRen.nd rfl (.inl rfl)) pgs_nil))))
 (Evl.pss_cut (ps_if (PW.pt (pw_or (pt_not (pt_val (pe_call G4 hr2 (by rfl) D.g4 D.F4.kp D.b4 .nil pass0 (pa_cons (pv 2) (pa_cons (pe_op (r := rRepT K) op_repT (pe_tup (pa_cons (pv 3) pa_nil)) (pv 3)) pa_nil))))) (pw_or1 (pt_cmpR op_lt (pe_callB (r := rLenSO w) call_lenSO (by rfl) B.len PySem.boot_len (pa_cons (pe_callTy (r := rSetI K w) (cr_setI rfl) (by rfl) B.set PyProof.Rows.boot_set (pa_cons (pv 2) pa_nil)) pa_nil)) (pv 3) (nomark _)))))
 (pss_one (ps_raise rfl (takes_of rfl rfl rfl rfl) (pmk_own0 PySem.F.excBase_ValueError NN.q NN.g NN.k (raises_own NN.s NN.t) (by rfl))))
 pss_nil)
 (pss_cons (ps_setLc (i := 5) (own := [("here", 7), ("there", 8), ("price", 9), ("ways", 10)]) (wi := iTup K (tVar 4)) (g := gTup K 4 (gCons (gName 7) (gCons (gName 8) (gCons (gName 9) (gCons (gName 10) gNil))))) rfl scRen.nd rfl rfl (sw_true rfl rfl rfl (by decide +kernel)) (pi_tup (pv 4)) (blkOk_by (own := [("here", 7), ("there", 8), ("price", 9), ("ways", 10)]) (N := nRen) (sc := defScope sRen) (by decide +kernel)) (fun _ _ _ _ _ => (pg_tup rfl (pgs_cons (pg_name (i := 7) scRen.nd rfl (.inl rfl)) (pgs_cons (pg_name (i := 8) scRen.nd rfl (.inl rfl)) (pgs_cons (pg_name (i := 9) scRen.nd rfl (.inl rfl)) (pgs_cons (pg_name (i := 10) scRen.nd rfl (.inl rfl)) pgs_nil)))))) (fun _ _ _ _ _ => pts_nil) (fun _ _ _ _ _ => (pe_tup (pa_cons (pe_ix (r := rIxT K) ix_tup (pv 2) (pv 7) (fun _ _ => rfl)) (pa_cons (pe_ix (r := rIxT K) ix_tup (pv 2) (pv 8) (fun _ _ => rfl)) (pa_cons (pv 9) (pa_cons (pv 10) pa_nil)))))))
 (pss_cons (ps_setLc (i := 6) (own := [("bolt", 11)]) (g := gName 11) rfl scRen.nd rfl rfl (sw_true rfl rfl rfl (by decide +kernel)) (pi_tup (pe_slice (r := rSlA K) sl_tupA (pv 0) (po_some (pe_op op_add (pv 1) pe_int)) po_none)) (blkOk_by (own := [("bolt", 11)]) (N := nRen) (sc := defScope sRen) (by decide +kernel)) (fun _ _ _ _ _ => (pg_name (i := 11) scRen.nd rfl (.inl rfl))) (fun _ _ _ _ _ => pts_nil) (fun _ _ _ _ _ => (pe_call GR hr1 (by rfl) gR FR.kp bR .nil pass0 (pa_cons (pv 11) (pa_cons (pv 1) (pa_cons (pv 2) pa_nil))))))
 (pss_one (ps_ret (pe_call GT hr (by rfl) gT FT.kp bT .nil pass0 (pa_cons (pe_op (r := rCatA K) op_catA (pe_op (r := rCatA K) op_catA (pe_slice (r := rSlA K) sl_tupA (pv 0) po_none (po_some (pv 1))) (pe_tup (pa_cons (pe_tup (pa_cons (pv 3) (pa_cons (pe_callTy (r := rTupK K) call_tupK (by rfl) B.tuple PyProof.Rows.boot_tuple (pa_cons (pe_callB cr_sortG (by rfl) B.sorted boot_sorted (pa_cons (pv 5) pa_nil)) pa_nil)) pa_nil))) pa_nil))) (pe_callTy (r := rTupK K) call_tupK (by rfl) B.tuple PyProof.Rows.boot_tuple (pa_cons (pv 6) pa_nil))) pa_nil)))))))))), ?_⟩
    obtain ⟨a, bs, rfl, ha, hbs⟩ := hv
    have hv : LockAt K H (.ref a) l := ⟨a, bs, rfl, ha, hbs⟩
    refine ⟨.ref a, rfl, .ref a, l, rfl, hv, ok, fun H1 e1 => ?_⟩
    refine ⟨.ref a, rfl, u, rfl, .ref a, u, l, d, rfl, LockAt.mono (TX.ex e1) hv, hu.ex e1, ?_⟩
    by_cases cb : wholeB d 0 ((l.length : Int) - 1) = true
    case neg =>
      rw [if_neg cb]
      exact q1 (by simpa using cb) H1 e1
    rw [if_pos cb]
    obtain ⟨k, rfl, rfl, kl⟩ : ∃ k : Nat, d = .int (k : Nat) ∧ u = .int (k : Nat) ∧ k < l.length := by
      cases d with
      | int i =>
        cases hu
        have c2 : (decide (0 ≤ i) && decide (i ≤ (l.length : Int) - 1)) = true := cb
        simp only [Bool.and_eq_true, decide_eq_true_eq] at c2
        refine ⟨i.toNat, ?_, ?_, by omega⟩ <;> rw [Int.toNat_of_nonneg c2.1]
      | _ => exact absurd cb (by simp [wholeB])
    obtain ⟨c, hc⟩ : ∃ c, l[k]? = some c := ⟨_, List.getElem?_eq_getElem kl⟩
    have BO := ok.bolts k _ hc
    have m0 := BO.m0
    have m1 := BO.m1
    obtain ⟨bv, hbv, ⟨a1, c1, gs, rfl, h1, h2, h3⟩⟩ := Paired.get2 hbs hc
    refine ⟨.ref a, rfl, .int (k : Nat), rfl, a, bs, (k : Nat), .ref a1, rfl, rfl, Evl.ex_t e1 ha, atI_nat hbv, ?_⟩
    refine ⟨a1, _, rfl, Evl.ex_t e1 h1, rfl, _, _, rfl, _, _, rfl, rfl, ?_⟩
    refine ⟨fun σ' H' => ∃ (na : Addr) (nm : Word), σ' = [some (.ref a), some (.int (k : Nat)), some (.ref na), some (.int c.many), some (.ref c1), none, none, none, none, none, none, none] ∧ Evl.Ex H H' ∧ e = .tuple (nm.map .int) ∧ NmOk nm c.many ∧ Rd H na (.tup (nm.map V.int)), ?_, ?_⟩
    · refine ⟨z, rfl, .int c.many, rfl, (by show 1 ≤ sizeLine; decide), fun t1 nt1 => ?_⟩
      have e2 := Evl.Ex.new (o := .tup [.int c.many]) nt1
      have gt1 : (upd H1 t1 (.tup [.int c.many])) t1 = some (.tup [.int c.many]) := upd_same
      generalize upd H1 t1 (.tup [.int c.many]) = H2 at e2 gt1
      refine ⟨.int c.many, rfl, t1, c.many, _, rfl, rfl, .inl (.inl gt1), (by simp), m0, by omega, (show 1 ≤ 1000 by decide), fun t2 nt2 => ?_⟩
      have er : (List.replicate c.many.toNat [V.int c.many]).flatten = (List.replicate c.many.toNat c.many).map V.int := by
        generalize c.many.toNat = j
        induction j with
        | zero => rfl
        | succ j ih => rw [List.replicate_succ, List.flatten_cons, ih, List.replicate_succ, List.map_cons]; rfl
      rw [er]
      have e3 := Evl.Ex.new (o := .tup ((List.replicate c.many.toNat c.many).map V.int)) nt2
      have gt2 : (upd H2 t2 (.tup ((List.replicate c.many.toNat c.many).map V.int))) t2 = some (.tup ((List.replicate c.many.toNat c.many).map V.int)) := upd_same
      generalize upd H2 t2 (.tup ((List.replicate c.many.toNat c.many).map V.int)) = H3 at e3 gt2
      have e13 := e1.trans (e2.trans e3)
      refine ⟨z, e, t2, false, _, rfl, hz.ex e13, (.inl (.inl gt2) : SqT K H3 t2 _), fun H4 e4 => ?_⟩
      have e14 := e13.trans e4
      refine ⟨_, rfl, ?_⟩
      refine ite2 (fun hp => ?_) (fun hp => ?_)
      · refine ite2 (fun _ => ?_) (fun z => absurd rfl z)
        refine q2 k _ rfl hc ?_ H4 e14
        unfold namesB
        rw [Bool.not_eq_true'] at hp
        rw [hp]
        rfl
      rw [Bool.not_eq_true', Bool.not_eq_false] at hp
      obtain ⟨nm, rfl, nl, nb⟩ := places_ints hp
      obtain ⟨na, rfl, hna⟩ := th_ints hz
      have l4 : nm.length ≤ 4 := by omega
      refine ⟨.ref na, rfl, na, nm, rfl, .inl (rd_ex e14 hna), by omega, fun sa cn nsa hcn => ?_⟩
      have cnt := hcn (ded nm) (ded_nodup nm) (ded_mem nm)
      obtain ⟨d1, d2⟩ := ded_len nm
      have e5 := Evl.Ex.new (o := SetO w sa (fun j => decide (j ∈ nm)) cn) nsa
      have gsa : (upd H4 sa (SetO w sa (fun j => decide (j ∈ nm)) cn)) sa = some (SetO w sa (fun j => decide (j ∈ nm)) cn) := upd_same
      generalize upd H4 sa (SetO w sa (fun j => decide (j ∈ nm)) cn) = H5 at e5 gsa
      have e15 := e14.trans e5
      refine ⟨sa, _, cn, rfl, gsa, ?_⟩
      refine ⟨.int c.many, rfl, _, _, rfl, rfl, _, rfl, ?_⟩
      refine ite2 (fun hs => ?_) (fun hs => ?_)
      · refine q2 k _ rfl hc ?_ H5 e15
        unfold namesB
        rw [ints_back]
        have nn : ¬ nm.Nodup := fun nd => by
          have z := of_decide_eq_true hs
          have := d2.mpr nd
          omega
        rw [decide_eq_false nn, Bool.and_false]
      have hs2 : ¬ ((cn : Int) < c.many) := fun z => hs (decide_eq_true z)
      have N : NmOk nm c.many := nmok_of (by omega) nl nb (d2.mp (by omega))
      exact ⟨na, nm, rfl, e15, rfl, N, hna⟩
    rintro σ' H5 ⟨na, nm, rfl, e15, rfl, N, hna⟩
    have h2' : SqT K H5 c1 gs := Evl.ex_t e15 h2
    have gl : gs.length = c.gaps.length := Paired.len h3
    have g16 := gaps_16 ok hc
    have hna5 := rd_ex e15 hna
    -- the bolt's own gaps
    refine ⟨.ref c1, rfl, c1, rfl, ⟨gs, h2'⟩, fun D0 hD => ?_⟩
    refine lc_tup (K := K) (a := c1) (xs := gs) (fun j H' => ∃ vvs : List V, Evl.Ex H5 H' ∧ H' D0 = some (.lst vvs) ∧ Paired (GN K H') vvs ((c.gaps.take j).map (rgK nm))) ⟨[], Evl.Ex.new hD, upd_same, .nil⟩ ?_ ?_ ?_
    · rintro j H6 _ ⟨_, e6, _⟩
      exact Evl.ex_t e6 h2'
    · rintro j x H6 hj ⟨vvs, e6, hD6, hvv⟩
      obtain ⟨g, hg, ⟨a2, b2, ws, rfl, k1, k2, k3⟩⟩ := Paired.get1 h3 hj
      have G := BO.gaps g (List.mem_of_getElem? hg)
      have jl : j < c.gaps.length := (List.getElem?_eq_some_iff.mp hg).1
      have vl : vvs.length = j := by
        have := Paired.len hvv
        rw [List.length_map, List.length_take] at this
        omega
      have e16 := e15.trans e6
      have z1 := atI_nat (map_int_get (nm_get N G.f0 G.f1))
      have z2 := atI_nat (map_int_get (nm_get N G.t0 G.t1))
      rw [Int.toNat_of_nonneg G.f0] at z1
      rw [Int.toNat_of_nonneg G.t0] at z2
      have hna6 : SqT K H6 na _ := .inl (rd_ex e6 hna5)
      refine ⟨a2, _, rfl, Evl.ex_t e16 k1, rfl, _, _, rfl, _, _, rfl, _, _, rfl, _, _, rfl, rfl, rfl, ?_⟩
      refine ⟨.ref na, rfl, .int g.frm, rfl, ?_⟩
      refine ⟨na, _, g.frm, .int (nmAt nm g.frm), rfl, rfl, hna6, z1, ?_⟩
      refine ⟨.ref na, rfl, .int g.to_, rfl, ?_⟩
      refine ⟨na, _, g.to_, .int (nmAt nm g.to_), rfl, rfl, hna6, z2, ?_⟩
      refine ⟨.int g.price, rfl, .ref b2, rfl, ?_⟩
      refine ⟨(by show 4 ≤ sizeLine; decide), fun t nt => ?_⟩
      have e7 := Evl.Ex.new (o := .tup [.int (nmAt nm g.frm), .int (nmAt nm g.to_), .int g.price, .ref b2]) nt
      have g7 : (upd H6 t (.tup [.int (nmAt nm g.frm), .int (nmAt nm g.to_), .int g.price, .ref b2])) t = some (.tup [.int (nmAt nm g.frm), .int (nmAt nm g.to_), .int g.price, .ref b2]) := upd_same
      generalize upd H6 t (.tup [.int (nmAt nm g.frm), .int (nmAt nm g.to_), .int g.price, .ref b2]) = H7 at e7 g7
      have hD7 := e7 _ _ hD6
      refine ⟨vvs, hD7, Nat.lt_of_le_of_lt (by omega : vvs.length ≤ 16) (by decide), vvs ++ [.ref t], (e6.trans e7).mut hD, upd_same, ?_⟩
      rw [take_succ_get hg, List.map_append]
      have e17 := e16.trans e7
      exact Paired.imp (fun _ _ => GN.mono (TX.put hD7)) (paired_app1 (Paired.imp (fun _ _ => GN.mono (TX.ex e7)) hvv) (gn_new g7 (Evl.ex_t e17 k2) (Paired.imp (fun _ _ => Wd.mono (TX.ex e17)) k3)))
    · rintro H6 ⟨vvs, e6, hD6, hvv⟩
      rw [gl, List.take_length] at hvv
      have vl : vvs.length = c.gaps.length := by rw [Paired.len hvv, List.length_map]
      have e16 := e15.trans e6
      have e17 := e16
      refine ⟨.ref a, rfl, .int (k : Nat), rfl, (k : Nat), 1, rfl, rfl, ((k + 1 : Nat) : Int), by rw [Int.natCast_add]; rfl, ?_⟩
      refine nopart1 ?_
      refine sl_any (K := K) (lo := some ((k + 1 : Nat) : Int)) (hi := none) (Evl.ex_t e16 ha) fun H7 zb e7 s7 => ?_
      have bl : bs.length = l.length := Paired.len hbs
      have l60 := ok.n1
      rw [cut_drop bs (k := k + 1) (by omega)] at s7
      have e17 := e16.trans e7
      -- the bolts above it
      refine ⟨zb, rfl, ⟨_, s7⟩, fun D1 hD1 => ?_⟩
      refine lc_tup (K := K) (a := zb) (xs := bs.drop (k + 1)) (fun j H' => ∃ (vvs : List V) (us : Lock), Evl.Ex H7 H' ∧ H' D1 = some (.lst vvs) ∧ Paired (BoltAt K H') vvs us ∧ us.length = j ∧ ∀ (i : Nat) (b : Bolt), i < j → l[k + 1 + i]? = some b → ∃ b', us[i]? = some b' ∧ IsRen k (k + 1 + i) nm b b')
        ⟨[], [], Evl.Ex.new hD1, upd_same, .nil, rfl, fun i b hi => absurd hi (Nat.not_lt_zero i)⟩ ?_ ?_ ?_
      · rintro j H8 _ ⟨_, _, e8, _⟩
        exact Evl.ex_t e8 s7
      · rintro j x H8 hj ⟨vvs2, us, e8, hD8, hvv2, ul, hus⟩
        rw [List.getElem?_drop] at hj
        obtain ⟨b, hb, hB⟩ := Paired.get1 hbs hj
        have jl := (List.getElem?_eq_some_iff.mp hb).1
        have e18 := e17.trans e8
        refine ⟨rfl, x, rfl, .int (k : Nat), rfl, .ref na, rfl, x, na, l, k, k + 1 + j, c, b, nm, rfl, BoltAt.mono (TX.ex e18) hB, .inl (rd_ex (e6.trans (e7.trans e8)) hna5), ok, hc, hb, by omega, N, fun H9 v' b' e9 hb' hr => ?_⟩
        have hD9 := e9 _ _ hD8
        have vul : vvs2.length = us.length := Paired.len hvv2
        refine ⟨vvs2, hD9, Nat.lt_of_le_of_lt (by omega : vvs2.length ≤ 60) (by decide), vvs2 ++ [v'], us ++ [b'], (e8.trans e9).mut hD1, upd_same, Paired.imp (fun _ _ => BoltAt.mono (TX.put hD9)) (paired_app1 (Paired.imp (fun _ _ => BoltAt.mono (TX.ex e9)) hvv2) hb'), by rw [List.length_append, ul]; rfl, fun i b0 hi h0 => ?_⟩
        by_cases ij : i < j
        · obtain ⟨b2, h2, h3⟩ := hus i b0 ij h0
          exact ⟨b2, by rw [List.getElem?_append_left (by omega)]; exact h2, h3⟩
        · have ij : i = j := by omega
          subst ij
          rw [hb] at h0
          cases h0
          exact ⟨b', by rw [List.getElem?_append_right (by omega), ul, Nat.sub_self]; rfl, hr⟩
      · rintro H8 ⟨vvs2, us, e8, hD8, hvv2, ul, hus⟩
        rw [List.length_drop, bl] at ul hus
        have e18 := e17.trans e8
        refine ⟨.ref a, rfl, .int (k : Nat), rfl, (k : Nat), rfl, ?_⟩
        refine sl_any (K := K) (lo := none) (hi := some (k : Nat)) (Evl.ex_t e18 ha) fun H9 zl e9 s9 => ?_
        rw [cut_take] at s9
        have hD9 := (e7.trans (e8.trans e9)) _ _ hD6
        have hvv9 : Paired (GN K H9) vvs (c.gaps.map (rgK nm)) := Paired.imp (fun _ _ => GN.mono (TX.ex (e7.trans (e8.trans e9)))) hvv
        have B4 := rgK_keyed ok hc N
        obtain ⟨t1', t2'⟩ := keyed_asks B4 hvv9
        refine ⟨.int c.many, rfl, .ref D0, rfl, D0, vvs, kH H9, rfl, SqL.of hD9, by omega, t1', t2', fun ys O pm pw nO => ?_⟩
        obtain ⟨gs', hgs, gpm, grise⟩ := keyed_sorted B4 hvv9 pm pw
        have e10 := Evl.Ex.new (o := .lst ys) nO
        have gO : (upd H9 O (.lst ys)) O = some (.lst ys) := upd_same
        generalize upd H9 O (.lst ys) = H10 at e10 gO
        refine ⟨O, ys, rfl, .inl ⟨.inl (.inl gO), fun t nt => ?_⟩⟩
        have e11 := Evl.Ex.new (o := .tup ys) nt
        have gt : (upd H10 t (.tup ys)) t = some (.tup ys) := upd_same
        generalize upd H10 t (.tup ys) = H11 at e11 gt
        refine ⟨(by show 2 ≤ sizeLine; decide), fun tb ntb => ?_⟩
        have e12 := Evl.Ex.new (o := .tup [.int c.many, .ref t]) ntb
        have gb : (upd H11 tb (.tup [.int c.many, .ref t])) tb = some (.tup [.int c.many, .ref t]) := upd_same
        generalize upd H11 tb (.tup [.int c.many, .ref t]) = H12 at e12 gb
        refine ⟨(by show 1 ≤ sizeLine; decide), fun t5 nt5 => ?_⟩
        have e13' := Evl.Ex.new (o := .tup [.ref tb]) nt5
        have g5 : (upd H12 t5 (.tup [.ref tb])) t5 = some (.tup [.ref tb]) := upd_same
        generalize upd H12 t5 (.tup [.ref tb]) = H13 at e13' g5
        have e913 := e10.trans (e11.trans (e12.trans e13'))
        refine cat_any (K := K) (Evl.ex_t e913 s9) (.inl (.inl g5)) (Nat.le_trans (by rw [List.length_take, List.length_singleton]; omega : (bs.take k).length + [V.ref tb].length ≤ 61) (by decide)) fun H14 z14 e14' s14 => ?_
        refine ⟨.ref D1, rfl, D1, vvs2, rfl, .inl ⟨.inl (.inl ((e9.trans (e913.trans e14')) _ _ hD8)), fun t6 nt6 => ?_⟩⟩
        have e15' := Evl.Ex.new (o := .tup vvs2) nt6
        have g6 : (upd H14 t6 (.tup vvs2)) t6 = some (.tup vvs2) := upd_same
        generalize upd H14 t6 (.tup vvs2) = H15 at e15' g6
        have vul : vvs2.length = us.length := Paired.len hvv2
        refine cat_any (K := K) (Evl.ex_t e15' s14) (.inl (.inl g6)) (Nat.le_trans (by rw [List.length_append, List.length_take, List.length_singleton]; omega : (bs.take k ++ [V.ref tb]).length + vvs2.length ≤ 121) (by decide)) fun H16 z16 e16' s16 => ?_
        have e916 := e913.trans (e14'.trans (e15'.trans e16'))
        have e1216 := e13'.trans (e14'.trans (e15'.trans e16'))
        have hB : BoltAt K H16 (.ref tb) ⟨c.many, gs'⟩ := ⟨tb, t, ys, rfl, .inl (.inl (e1216 _ _ gb)), .inl (.inl ((e12.trans e1216) _ _ gt)), Paired.imp (fun _ _ h => (GN.mono (TX.ex e916) h).1) hgs⟩
        have hLo : Paired (BoltAt K H16) (bs.take k) (l.take k) := Paired.takeN k (Paired.imp (fun _ _ => BoltAt.mono (TX.ex (e18.trans (e9.trans e916)))) hbs)
        have hHi : Paired (BoltAt K H16) vvs2 us := Paired.imp (fun _ _ => BoltAt.mono (TX.ex (e9.trans e916))) hvv2
        have hL : LockAt K H16 (.ref z16) (l.take k ++ [⟨c.many, gs'⟩] ++ us) := ⟨z16, _, rfl, s16, Paired.app (paired_app1 hLo hB) hHi⟩
        have tl : (l.take k).length = k := by rw [List.length_take]; omega
        have R : Rens k nm l (l.take k ++ [⟨c.many, gs'⟩] ++ us) := by
          refine ⟨by simp only [List.length_append, List.length_singleton]; omega, fun n b hb => ?_⟩
          have nl := (List.getElem?_eq_some_iff.mp hb).1
          by_cases n1 : n < k
          · refine ⟨b, by rw [List.append_assoc, List.getElem?_append_left (by omega), List.getElem?_take, if_pos n1]; exact hb, ren_below ok hb n1⟩
          · by_cases n2 : n = k
            · subst n2
              rw [hc] at hb
              cases hb
              refine ⟨⟨c.many, gs'⟩, by rw [List.append_assoc, List.getElem?_append_right (by omega), tl, Nat.sub_self]; rfl, rfl, ⟨_, gpm, rgK_ren ok hc fun _ h => h⟩, grise⟩
            · obtain ⟨b', h1, h2⟩ := hus (n - (k + 1)) b (by omega) (by rw [show k + 1 + (n - (k + 1)) = n by omega]; exact hb)
              rw [show k + 1 + (n - (k + 1)) = n by omega] at h2
              refine ⟨b', ?_, h2⟩
              rw [List.getElem?_append_right (by rw [List.length_append, tl, List.length_singleton]; omega), List.length_append, tl, List.length_singleton]
              exact h1
        refine ⟨.ref z16, _, rfl, hL, rens_ok ok hc N R, fun H17 e17' => ?_⟩
        exact q3 k c nm rfl hc rfl N H17 (.ref z16) _ (e18.trans (e9.trans (e916.trans e17'))) (LockAt.mono (TX.ex e17') hL) R

end
end Wb

set_option Elab.async false
set_option linter.all false
set_option maxRecDepth 100000
set_option maxHeartbeats 4000000
set_option pp.maxSteps 900
set_option pp.deepTerms false
namespace Wb
open PySem PySem.Spec PyProof.Rows L2
abbrev sFrom : Stmt := topS 48
abbrev nFrom : List Str := ["_law_thing", "_law_low", "_law_high"]
theorem scFrom : FnScope nFrom ["_law_thing", "_law_low", "_law_high"] (defScope sFrom) := ⟨rfl, rfl, rfl, by decide +kernel, rfl, by decide +kernel, by decide +kernel⟩

abbrev sLRen : Stmt := topS 49
abbrev nLRen : List Str := ["_law_lock_here", "_law_k", "_law_names_here", "_law_found", "_law_n", "_law_gaps_here", "_law_here", "_law_there", "_law_price_here", "_law_ways", "_law_way"]
theorem scLRen : FnScope nLRen ["_law_lock_here", "_law_k", "_law_names_here"] (defScope sLRen) := ⟨rfl, rfl, rfl, by decide +kernel, rfl, by decide +kernel, by decide +kernel⟩

/-- t.index(x), t a tuple of ints -/
def rTIdx (K : PySem.W.Frag) : V → List V → Hp → VK → Prop := fun x xs H Q => ∃ (p : Addr) (ns : List Int) (k : Int) (j : Nat), x = .ref p ∧ xs = [.int k] ∧ SqT K H p (ns.map V.int) ∧ ns[j]? = some k ∧ (∀ m : Nat, m < j → ns[m]? ≠ some k) ∧ Q (.int (j : Nat)) H
theorem flat_ints (ns : List Int) : (ns.map V.int).all flatV = true := List.all_eq_true.mpr fun x hx => by
  obtain ⟨n, _, rfl⟩ := List.mem_map.mp hx
  rfl
theorem mt_tupIdx {X : Cx} : MtR X "tuple.index" (rTIdx X.K) := by
  intro pins s σ H x xs v us Q I rx rs h
  obtain ⟨p, ns, k, j, rfl, rfl, hq, hy, no, q⟩ := h
  cases rx
  obtain ⟨u, rfl, ru⟩ := vals1 rs
  obtain ⟨its, rv, pl, hz⟩ := I.tuple hq
  obtain ⟨⟨c0, d0, dt, sl⟩, ho, hc, n, hd⟩ := pl
  simp only at hc hd
  subst hc hd
  have at_ : ∀ (m : Nat) (hm : m < its.toArray.size), ∃ y, ns[m]? = some y ∧ eqU (.int k) its.toArray[m] = decide (y = k) := fun m hm => by
    have hm1 : m < its.length := by simpa using hm
    have hm2 : m < ns.length := by rw [← rv.length, List.length_map] at hm1; exact hm1
    obtain ⟨w1, hw, rw1⟩ := rv.get (i := m) (x := .int ns[m]) (by simp [hm2])
    have e : its.toArray[m] = w1 := by simpa using (List.getElem?_eq_some_iff.mp hw).2
    refine ⟨ns[m], List.getElem?_eq_getElem hm2, ?_⟩
    rw [e, eqU_of rw1 rfl]
    by_cases c : ns[m] = k
    · rw [decide_eq_true c, c]
      show eqV (.int k) (.int k) = true
      simp [eqV]
    · rw [decide_eq_false c]
      show eqV (.int ns[m]) (.int k) = false
      simp [eqV, c]
  have hj : j < its.toArray.size := by
    have := (List.getElem?_eq_some_iff.mp hy).1
    rw [List.size_toArray, ← rv.length, List.length_map]
    exact this
  refine call_meets PySem.F.slot_tuple_index ⟨_, ho, rfl⟩ PySem.F.entry_tuple_index (PySem.F.args_tuple_index_2 _ _) (TI.tuple_indexAt p its.toArray n d0 sl u (eqU (.int k)) j hj ?_ ?_)
    ⟨ho, fun z hz2 => mem_eqAt ru rfl rv (flat_ints ns) z (by simpa using hz2), ⟨.int (j : Nat), H, I.tok _, ⟨_, rfl⟩, q⟩⟩
  · obtain ⟨y, e1, e2⟩ := at_ j hj
    rw [e2]
    rw [hy] at e1
    cases e1
    exact decide_eq_true rfl
  · intro m hm hmj
    obtain ⟨y, e1, e2⟩ := at_ m hm
    rw [e2]
    exact decide_eq_false fun z => no m hmj (by rw [e1, z])
theorem paired_pw {α β : Type} {R : α → β → Prop} {S : α → α → Prop} {T : β → β → Prop} : ∀ {xs : List α} {ys : List β}, Paired R xs ys → xs.Pairwise S → (∀ x x' y y', x ∈ xs → x' ∈ xs → R x y → R x' y' → S x x' → T y y') → ys.Pairwise T
  | _, _, .nil, _, _ => .nil
  | _, _, .cons (a := x) (b := y) r t, h, f => by
    obtain ⟨h1, h2⟩ := List.pairwise_cons.mp h
    refine List.pairwise_cons.mpr ⟨fun z hz => ?_, paired_pw t h2 fun x x' y y' hx hx' => f x x' y y' (List.mem_cons_of_mem _ hx) (List.mem_cons_of_mem _ hx')⟩
    obtain ⟨m, hm⟩ := List.mem_iff_getElem?.mp hz
    obtain ⟨x2, e1, e2⟩ := Paired.get2 t hm
    have mm := List.mem_of_getElem? e1
    exact f _ x2 _ z List.mem_cons_self (List.mem_cons_of_mem _ mm) r e2 (h1 x2 mm)
theorem ren_keyed {l : Lock} (ok : LockOk l) {k n : Nat} {nm : Word} {c b : Bolt} {gs : List Gap} (hc : l[k]? = some c) (N : NmOk nm c.many) (hb : l[n]? = some b) (h : Paired (RenG k n nm) b.gaps gs) : Keyed4 gs := by
  have BO := ok.bolts n b hb
  have m1 := BO.m1
  refine ⟨fun g hg => ?_, ?_⟩
  · obtain ⟨i, hi⟩ := List.mem_iff_getElem?.mp hg
    obtain ⟨x, e1, e2⟩ := Paired.get2 h hi
    have G := e2.ok ok hc N hb (List.mem_of_getElem? e1)
    have f1 := G.f1
    have t1 := G.t1
    exact ⟨G.f0, by omega, G.t0, by omega⟩
  · refine List.pairwise_map.mpr (paired_pw h BO.rise fun x x' y y' hx hx' r r' q e => ?_)
    have G := BO.gaps x hx
    have G' := BO.gaps x' hx'
    have e1 : y.frm = y'.frm := congrArg Prod.fst e
    have e2 : y.to_ = y'.to_ := congrArg Prod.snd e
    rw [r.frm, r'.frm] at e1
    rw [r.to_, r'.to_] at e2
    unfold lexLt2 at q
    by_cases z : n = k
    · subst z
      rw [hc] at hb
      cases hb
      rw [if_pos rfl, if_pos rfl] at e1 e2
      have z1 := nm_inj N G.f0 G.f1 G'.f0 G'.f1 e1
      have z2 := nm_inj N G.t0 G.t1 G'.t0 G'.t1 e2
      omega
    · rw [if_neg z, if_neg z] at e1 e2
      omega
/-- the ways of a gap above, by the new names: what sorted asks and tells -/
theorem words_ren {l : Lock} (ok : LockOk l) {k n : Nat} {nm : Word} {c b : Bolt} {g : Gap} (hc : l[k]? = some c) (N : NmOk nm c.many) (hb : l[n]? = some b) (kn : k < n) (hg : g ∈ b.gaps) :
    (∀ w ∈ g.ways.map (renW k nm), w.length = n ∧ TS.Bd 4 w) ∧ (g.ways.map (renW k nm)).Nodup := by
  have G := (ok.bolts n b hb).gaps g hg
  refine ⟨fun w hw => ?_, ?_⟩
  · obtain ⟨v, hv, rfl⟩ := List.mem_map.mp hw
    obtain ⟨ul, y, hy, y0, y1⟩ := way_at ok hc hb kn hg hv
    refine ⟨by rw [renW_len]; exact ul, fun x hx => ?_⟩
    obtain ⟨i, hi⟩ := List.mem_iff_getElem?.mp hx
    by_cases e : k = i
    · subst e
      rw [renW_self (by omega), getD_of hy] at hi
      cases hi
      have b := nm_bd N y0 y1
      have c4 := (ok.bolts k c hc).m1
      exact ⟨b.1, by omega⟩
    · rw [renW_other e] at hi
      have il := (List.getElem?_eq_some_iff.mp hi).1
      have nl := (List.getElem?_eq_some_iff.mp hb).1
      have hli : l[i]? = some (l[i]'(by omega)) := List.getElem?_eq_getElem _
      have z := (G.words v hv).2 i x _ hi (by rw [manys_tk, List.getElem?_take, if_pos (by omega)]; exact manys_at hli)
      have c4 := (ok.bolts i _ hli).m1
      omega
  · refine List.pairwise_map.mpr ((G.rise.imp_of_mem (S := fun a b : Word => renW k nm a ≠ renW k nm b)) fun {a b} ha hb' q e => ?_)
    obtain ⟨_, y, hy, y0, y1⟩ := way_at ok hc hb kn hg ha
    obtain ⟨_, z, hz, z0, z1⟩ := way_at ok hc hb kn hg hb'
    have ab : a = b := by rw [← renW_back N hy y0 y1, ← renW_back N hz z0 z1, e]
    subst ab
    exact absurd q (by rw [lex_irr]; exact Bool.false_ne_true)
def spFrom (K : PySem.W.Frag) : Sp := fun vs H Q _ => ∃ (v : V) (d : PyData) (a b : Int), vs = [v, .int a, .int b] ∧ Th K H v d ∧ Q (.bl (wholeB d a b)) H
def spLRen (K : PySem.W.Frag) : Sp := fun vs H Q _ => ∃ (v : V) (na : Addr) (l : Lock) (k : Nat) (c : Bolt) (nm : Word), vs = [v, .int (k : Nat), .ref na] ∧ LockAt K H v l ∧ LockOk l ∧ l[k]? = some c ∧ NmOk nm c.many ∧ SqT K H na (nm.map V.int) ∧
  ∀ H' v' l', Evl.Ex H H' → LockAt K H' v' l' → Rens k nm l l' → Q v' H'
section
variable {P : Program} {w : World} {K : PySem.W.Frag} {mg : Str → Option Value} {base : Heap}
theorem ok_from {f : Addr} {fd : FuncData} (F : Fun K "_law_is_from" "_law_is_from" sFrom f fd) (B : Bi mg) : FnOk P w K mg base CX0 1 f fd ["_law_thing", "_law_low", "_law_high"] (spFrom K) := by
  refine F.ok scFrom (fun vs H Q E h => ?_) (fun cdv A outer s H vs Q E hr h => ?_)
  · obtain ⟨v, d, a, b, rfl, _⟩ := h; rfl
  · obtain ⟨v, d, a, b, rfl, hv, q⟩ := h
    refine ⟨_, (pss_one (ps_ret (pe_and (pe_callB call_isi (by rfl) B.isi boot_isinstance (pa_cons (pv 0) (pa_cons (pe_bltn (v := .ty "int") (by rfl) B.int (by decide +kernel) rfl) pa_nil))) (pe_and (pe_not (pe_callB call_isi (by rfl) B.isi boot_isinstance (pa_cons (pv 0) (pa_cons (pe_bltn (v := .ty "bool") (by rfl) B.bool (by decide +kernel) rfl) pa_nil)))) (pe_one (pe_chain op_le op_le (pv 1) (pv 0) (pv 2))))))), ?_⟩
    have isF : isInt d = true → isBool d = false → plainInt d = true := fun h1 h2 => by rw [← plain_eq, h1, h2]; rfl
    have no : plainInt d = false → wholeB d a b = false := fun h => by
      cases d <;> first
        | rfl
        | cases h
    refine ⟨v, rfl, v, .ty "int", .type (tyS d), .type "int", isInt d, rfl, .ty _, hv.ty, kit_ty (kit_int d), isInt d, rfl, ?_⟩
    cases hi : isInt d with
    | false =>
      rw [if_neg Bool.false_ne_true]
      rw [no (by rw [← plain_eq, hi]; rfl)] at q
      exact q
    | true =>
      rw [if_pos rfl]
      refine ⟨v, rfl, v, .ty "bool", .type (tyS d), .type "bool", isBool d, rfl, .ty _, hv.ty, kit_ty (kit_bool d), ?_⟩
      refine ⟨isBool d, rfl, ?_⟩
      cases hb : isBool d with
      | true =>
        rw [no (by rw [← plain_eq, hi, hb]; rfl)] at q
        refine ⟨false, rfl, ?_⟩
        rw [if_neg Bool.false_ne_true]
        exact q
      | false =>
        obtain ⟨i, rfl, rfl⟩ := plain_of hv (isF hi hb)
        have z : wholeB (.int i) a b = (decide (a ≤ i) && decide (i ≤ b)) := rfl
        rw [z] at q
        refine ⟨true, rfl, ?_⟩
        rw [if_pos rfl]
        refine ⟨.int a, rfl, .int i, rfl, a, i, rfl, rfl, decide (a ≤ i), rfl, ?_⟩
        by_cases h1 : a ≤ i
        · rw [if_pos (decide_eq_true h1)]
          refine ⟨.int b, rfl, i, b, rfl, rfl, ?_⟩
          rw [decide_eq_true h1] at q
          exact q
        · rw [if_neg (by rw [decide_eq_false h1]; exact Bool.false_ne_true)]
          rw [decide_eq_false h1] at q
          exact q
theorem ok_lren {f : Addr} {fd : FuncData} (F : Fun K "_law_renamed" "_law_renamed" sLRen f fd) (B : Bi mg) : FnOk P w K mg base CX0 1 f fd ["_law_lock_here", "_law_k", "_law_names_here"] (spLRen K) := by
  refine F.ok scLRen (fun vs H Q E h => ?_) (fun cdv A outer s H vs Q E hr h => ?_)
  · obtain ⟨v, na, l, k, c, nm, rfl, _⟩ := h; rfl
  · obtain ⟨v, na, l, k, c, nm, rfl, hv, ok, hc, N, hna, q⟩ := h
    refine ⟨_, (pss_cons (ps_set (i := 3) scLRen.nd rfl (.inl rfl) (pe_lst pa_nil))
 (pss_cons (ps_for PassesOwn.never rfl (pi_range1 (by rfl) B.range (pa_cons (pe_callB call_len_seq (by rfl) B.len PySem.boot_len (pa_cons (pv 0) pa_nil)) pa_nil)) (pg_name (i := 4) scLRen.nd rfl (.inl rfl))
 (pss_cons (ps_set (i := 5) scLRen.nd rfl (.inl rfl) (pe_lst pa_nil))
 (pss_cons (ps_for PassesOwn.never rfl (pi_tup (pe_ix (r := rIxT K) ix_tup (pe_ix (r := rIxT K) ix_tup (pv 0) (pv 4) (fun _ _ => rfl)) pe_int (fun _ _ => rfl))) (pg_tup rfl (pgs_cons (pg_name (i := 6) scLRen.nd rfl (.inl rfl)) (pgs_cons (pg_name (i := 7) scLRen.nd rfl (.inl rfl)) (pgs_cons (pg_name (i := 8) scLRen.nd rfl (.inl rfl)) (pgs_cons (pg_name (i := 9) scLRen.nd rfl (.inl rfl)) pgs_nil)))))
 (Evl.pss_cut (ps_if (pt_cmpR op_eq (pv 4) (pv 1) (nomark _))
 (pss_one (ps_par (by rfl) scLRen.nd (i := 6) (j := 7) rfl rfl (by decide) rfl rfl (pa_cons (pe_ix (r := rIxT K) ix_tup (pv 2) (pv 6) (fun _ _ => rfl)) (pa_cons (pe_ix (r := rIxT K) ix_tup (pv 2) (pv 7) (fun _ _ => rfl)) pa_nil)) (by rfl)))
 pss_nil)
 (Evl.pss_cut (ps_if (pt_cmpR op_gt (pv 4) (pv 1) (nomark _))
 (pss_one (ps_set (i := 9) scLRen.nd rfl (.inl rfl) (pe_callTy (r := rTupK K) call_tupK (by rfl) B.tuple PyProof.Rows.boot_tuple (pa_cons (pe_callB (r := rSortL K) cr_sortL (by rfl) B.sorted boot_sorted (pa_cons (pe_lc (own := [("_law_way", 10)]) (g := gName 10) rfl scLRen.nd (pi_tup (pv 9)) (blkOk_by (own := [("_law_way", 10)]) (N := nLRen) (sc := defScope sLRen) (by decide +kernel)) (fun _ _ _ _ _ => (pg_name (i := 10) scLRen.nd rfl (.inl rfl))) (fun _ _ _ _ _ => pts_nil) (fun _ _ _ _ _ => (pe_op (r := rCatA K) op_catA (pe_op (r := rCatA K) op_catA (pe_slice (r := rSlA K) sl_tupA (pv 10) po_none (po_some (pv 1))) (pe_tup (pa_cons (pe_ix (r := rIxT K) ix_tup (pv 2) (pe_ix (r := rIxT K) ix_tup (pv 10) (pv 1) (fun _ _ => rfl)) (fun _ _ => rfl)) pa_nil))) (pe_slice (r := rSlA K) sl_tupA (pv 10) (po_some (pe_op op_add (pv 1) pe_int)) po_none)))) pa_nil)) pa_nil))))
 pss_nil)
 (pss_one (ps_expr (pe_bm PySem.F.plainAttrs_list PySem.F.slot_list_append PySem.F.type_list_append mt_append (pv 5) (pa_cons (pe_tup (pa_cons (pv 6) (pa_cons (pv 7) (pa_cons (pv 8) (pa_cons (pv 9) pa_nil))))) pa_nil)))))))
 (pss_one (ps_expr (pe_bm PySem.F.plainAttrs_list PySem.F.slot_list_append PySem.F.type_list_append mt_append (pv 3) (pa_cons (pe_tup (pa_cons (pe_ix (r := rIxT K) ix_tup (pe_ix (r := rIxT K) ix_tup (pv 0) (pv 4) (fun _ _ => rfl)) pe_int (fun _ _ => rfl)) (pa_cons (pe_callTy (r := rTupK K) call_tupK (by rfl) B.tuple PyProof.Rows.boot_tuple (pa_cons (pe_callB cr_sortG (by rfl) B.sorted boot_sorted (pa_cons (pv 5) pa_nil)) pa_nil)) pa_nil))) pa_nil)))))))
 (pss_one (ps_ret (pe_callTy (r := rTupK K) call_tupK (by rfl) B.tuple PyProof.Rows.boot_tuple (pa_cons (pv 3) pa_nil)))))), ?_⟩
    obtain ⟨a, bs, rfl, ha, hbs⟩ := hv
    have bl : bs.length = l.length := Paired.len hbs
    have l60 := ok.n1
    refine ⟨Nat.zero_le _, fun r0 nr0 => ?_⟩
    have e1 := Evl.Ex.new (o := .lst []) nr0
    have nr : H r0 = none := nr0
    refine ⟨.ref a, rfl, a, bs, rfl, .inr (Evl.ex_t e1 ha), (bs.length : Nat), rfl, by omega, by omega, ?_⟩
    refine for_range (lo := 0) (n := bs.length) (fun i σ H' => ∃ (rvs : List V) (rl : Lock) (y4 y5 y6 y7 y8 y9 y10 : Option V), σ = [some (.ref a), some (.int (k : Nat)), some (.ref na), some (.ref r0), y4, y5, y6, y7, y8, y9, y10] ∧ Evl.Ex H H' ∧ H' r0 = some (.lst rvs) ∧ Paired (BoltAt K H') rvs rl ∧ rl.length = i ∧
        ∀ (n : Nat) (b : Bolt), n < i → l[n]? = some b → ∃ b', rl[n]? = some b' ∧ IsRen k n nm b b')
      ⟨[], [], none, none, none, none, none, none, none, rfl, e1, upd_same, .nil, rfl, fun n b hn => absurd hn (Nat.not_lt_zero n)⟩ ?_ ?_
    · rintro i σ H1 hi ⟨rvs, rl, y4, y5, y6, y7, y8, y9, y10, rfl, x1, hr1, hrv, rll, hrn⟩
      have il : i < l.length := by omega
      obtain ⟨b, hb⟩ : ∃ b, l[i]? = some b := ⟨_, List.getElem?_eq_getElem il⟩
      have BO := ok.bolts i b hb
      have g16 := gaps_16 ok hb
      obtain ⟨bv, hbv, ⟨a1, c1, gs, rfl, h1, h2, h3⟩⟩ := Paired.get2 hbs hb
      have gl : gs.length = b.gaps.length := Paired.len h3
      have hix : atI bs ((0 : Int) + (i : Nat)) = some (.ref a1) := by rw [Int.zero_add]; exact atI_nat hbv
      refine ⟨Nat.zero_le _, fun g0 ng0 => ?_⟩
      have e2 := Evl.Ex.new (o := .lst []) ng0
      have x2 := x1.trans e2
      have gg0 : (upd H1 g0 (.lst [])) g0 = some (.lst []) := upd_same
      have hr2 := e2 _ _ hr1
      have ngr : g0 ≠ r0 := fun z => by rw [z, hr1] at ng0; cases ng0
      generalize upd H1 g0 (.lst []) = H2 at e2 x2 gg0 hr2
      refine ⟨.ref a, rfl, .int (0 + (i : Nat)), rfl, a, bs, _, .ref a1, rfl, rfl, Evl.ex_t x2 ha, hix, ?_⟩
      refine ⟨a1, _, 1, .ref c1, rfl, rfl, Evl.ex_t x2 h1, atI_nat (j := 1) rfl, ?_⟩
      refine ⟨c1, rfl, ⟨gs, Evl.ex_t x2 h2⟩, ?_⟩
      refine for_tup (K := K) (a := c1) (xs := gs) (fun j σ H' => ∃ (gvs : List V) (rs : List Gap) (y6 y7 y8 y9 y10 : Option V), σ = [some (.ref a), some (.int (k : Nat)), some (.ref na), some (.ref r0), some (.int (0 + (i : Nat))), some (.ref g0), y6, y7, y8, y9, y10] ∧ Evl.Ex H1 H' ∧ H' g0 = some (.lst gvs) ∧ Paired (GN K H') gvs rs ∧ Paired (RenG k i nm) (b.gaps.take j) rs)
        ⟨[], [], _, _, _, _, _, rfl, e2, gg0, .nil, .nil⟩ ?_ ?_ ?_
      · rintro j σ H3 _ ⟨_, _, _, _, _, _, _, _, e, _⟩
        exact Evl.ex_t (x1.trans e) h2
      · rintro j x σ H3 hx ⟨gvs, rs, y6, y7, y8, y9, y10, rfl, x3, hg3, hgv, hT⟩
        obtain ⟨g, hg, ⟨a2, b2, ws, rfl, k1, k2, k3⟩⟩ := Paired.get1 h3 hx
        have jl : j < b.gaps.length := (List.getElem?_eq_some_iff.mp hg).1
        have hgm := List.mem_of_getElem? hg
        have G := BO.gaps g hgm
        have f8 := G.few
        have gvl : gvs.length = rs.length := Paired.len hgv
        have rsl : (b.gaps.take j).length = rs.length := Paired.len hT
        rw [List.length_take] at rsl
        have x13 := x1.trans x3
        refine ⟨a2, _, rfl, Evl.ex_t x13 k1, rfl, _, _, rfl, _, _, rfl, _, _, rfl, _, _, rfl, rfl, ?_⟩
        refine ⟨fun σ' H' => σ' = [some (.ref a), some (.int (k : Nat)), some (.ref na), some (.ref r0), some (.int (0 + (i : Nat))), some (.ref g0), some (.int (if i = k then nmAt nm g.frm else g.frm)), some (.int (if i = k then nmAt nm g.to_ else g.to_)), some (.int g.price), some (.ref b2), y10] ∧ H3 = H', ?_, ?_⟩
        · refine ⟨.int (0 + (i : Nat)), rfl, .int (k : Nat), rfl, rfl, _, rfl, ?_⟩
          have hna3 : SqT K H3 na _ := Evl.ex_t x13 hna
          refine ite2 (fun hc0 => ?_) (fun hc0 => ?_)
          · have ik : i = k := by
              have z := of_decide_eq_true hc0
              injection z with z
              omega
            subst ik
            rw [hc] at hb
            cases hb
            have z1 := atI_nat (map_int_get (nm_get N G.f0 G.f1))
            have z2 := atI_nat (map_int_get (nm_get N G.t0 G.t1))
            rw [Int.toNat_of_nonneg G.f0] at z1
            rw [Int.toNat_of_nonneg G.t0] at z2
            refine ⟨.ref na, rfl, .int g.frm, rfl, ?_⟩
            refine ⟨na, _, g.frm, .int (nmAt nm g.frm), rfl, rfl, hna3, z1, ?_⟩
            refine ⟨.ref na, rfl, .int g.to_, rfl, ?_⟩
            refine ⟨na, _, g.to_, .int (nmAt nm g.to_), rfl, rfl, hna3, z2, ?_⟩
            refine ⟨.int (nmAt nm g.frm), .int (nmAt nm g.to_), rfl, ?_⟩
            rw [if_pos rfl, if_pos rfl]
            exact ⟨rfl, rfl⟩
          · have ik : ¬ i = k := fun z => hc0 (decide_eq_true (by rw [z, Int.zero_add]))
            rw [if_neg ik, if_neg ik]
            exact ⟨rfl, rfl⟩
        rintro σ' H' ⟨rfl, rfl⟩
        refine ⟨fun σ' H' => ∃ (b3 : Addr) (ws3 : List V) (ways : List Word) (z10 : Option V), σ' = [some (.ref a), some (.int (k : Nat)), some (.ref na), some (.ref r0), some (.int (0 + (i : Nat))), some (.ref g0), some (.int (if i = k then nmAt nm g.frm else g.frm)), some (.int (if i = k then nmAt nm g.to_ else g.to_)), some (.int g.price), some (.ref b3), z10] ∧ Evl.Ex H3 H' ∧ SqT K H' b3 ws3 ∧ Paired (Wd K H') ws3 ways ∧
            ways.Perm (if k < i then g.ways.map (renW k nm) else g.ways) ∧ ways.Pairwise (fun u w => HT.lexLt u w = true), ?_, ?_⟩
        · refine ⟨.int (0 + (i : Nat)), rfl, .int (k : Nat), rfl, _, _, rfl, rfl, _, rfl, ?_⟩
          refine ite2 (fun hc0 => ?_) (fun hc0 => ?_)
          · have ki : k < i := by
              have z := of_decide_eq_true hc0
              omega
            obtain ⟨wn, nd⟩ := words_ren ok hc N hb ki hgm
            refine ⟨.ref b2, rfl, b2, rfl, ⟨ws, Evl.ex_t x13 k2⟩, fun D0 hD => ?_⟩
            refine lc_tup (K := K) (a := b2) (xs := ws) (fun m H' => ∃ vvs : List V, Evl.Ex H3 H' ∧ H' D0 = some (.lst vvs) ∧ Paired (Wd K H') vvs ((g.ways.take m).map (renW k nm))) ⟨[], Evl.Ex.new hD, upd_same, .nil⟩ ?_ ?_ ?_
            · rintro m H4 _ ⟨_, e4, _⟩
              exact Evl.ex_t (x13.trans e4) k2
            · rintro m x H4 hj ⟨vvs, e4, hD4, hvv⟩
              obtain ⟨wd, hwd, ⟨wa, rfl, hwa⟩⟩ := Paired.get1 k3 hj
              have ml : m < g.ways.length := (List.getElem?_eq_some_iff.mp hwd).1
              have vl : vvs.length = m := by
                have := Paired.len hvv
                rw [List.length_map, List.length_take] at this
                omega
              have x14 := x13.trans e4
              obtain ⟨wl, y, hy, y0, y1⟩ := way_at ok hc hb ki hgm (List.mem_of_getElem? hwd)
              refine ⟨rfl, ?_⟩
              refine renw_read (iw := 10) (ik := 1) (inm := 2) rfl rfl rfl (x14 _ _ hwa) (Evl.ex_t x14 hna) N hy y0 y1 (by omega) fun H5 z e5 hz => ?_
              have hD5 := e5 _ _ hD4
              refine ⟨vvs, hD5, Nat.lt_of_le_of_lt (by omega : vvs.length ≤ 16) (by decide), vvs ++ [.ref z], (e4.trans e5).mut hD, upd_same, ?_⟩
              rw [take_succ_get hwd, List.map_append]
              exact Paired.imp (fun _ _ => Wd.mono (TX.put hD5)) (paired_app1 (Paired.imp (fun _ _ => Wd.mono (TX.ex e5)) hvv) ⟨z, rfl, hz⟩)
            · rintro H4 ⟨vvs, e4, hD4, hvv⟩
              have wl : ws.length = g.ways.length := Paired.len k3
              rw [wl, List.take_length] at hvv
              refine ⟨D0, vvs, _, i, 4, rfl, SqL.of hD4, .inr (by omega), hvv, wn, fun ys us O yl hys pm pw nO => ?_⟩
              have e5 := Evl.Ex.new (o := .lst ys) nO
              have gO : (upd H4 O (.lst ys)) O = some (.lst ys) := upd_same
              generalize upd H4 O (.lst ys) = H5 at e5 gO
              refine ⟨O, ys, rfl, .inl ⟨.inl (.inl gO), fun t nt => ?_⟩⟩
              have e6 := Evl.Ex.new (o := .tup ys) nt
              have gt : (upd H5 t (.tup ys)) t = some (.tup ys) := upd_same
              generalize upd H5 t (.tup ys) = H6 at e6 gt
              refine ⟨t, ys, us, _, rfl, e4.trans (e5.trans e6), .inl (.inl gt), Paired.imp (fun _ _ => Wd.mono (TX.ex (e5.trans e6))) hys, ?_, lex_pairwise pm nd wn pw⟩
              rw [if_pos ki]
              exact pm
          · have ki : ¬ k < i := fun z => hc0 (decide_eq_true (by omega))
            refine ⟨b2, ws, g.ways, _, rfl, Evl.Ex.refl _, Evl.ex_t x13 k2, Paired.imp (fun _ _ => Wd.mono (TX.ex x13)) k3, ?_, G.rise⟩
            rw [if_neg ki]
        · rintro σ' H4 ⟨b3, ws3, ways, z10, rfl, e4, s3, p3, pm, rise⟩
          have hg4 := e4 _ _ hg3
          refine ⟨.ref g0, rfl, .inl ⟨rfl, _, SqL.of hg4⟩, .int (if i = k then nmAt nm g.frm else g.frm), rfl, .int (if i = k then nmAt nm g.to_ else g.to_), rfl, .int g.price, rfl, .ref b3, rfl, ?_⟩
          refine ⟨(by show 4 ≤ sizeLine; decide), fun t nt => ?_⟩
          generalize ef : (if i = k then nmAt nm g.frm else g.frm) = f1 at nt ⊢
          generalize et : (if i = k then nmAt nm g.to_ else g.to_) = f2 at nt ⊢
          have e5 := Evl.Ex.new (o := .tup [.int f1, .int f2, .int g.price, .ref b3]) nt
          have gt : (upd H4 t (.tup [.int f1, .int f2, .int g.price, .ref b3])) t = some (.tup [.int f1, .int f2, .int g.price, .ref b3]) := upd_same
          generalize upd H4 t (.tup [.int f1, .int f2, .int g.price, .ref b3]) = H5 at e5 gt
          have hg5 := e5 _ _ hg4
          have x45 := e4.trans e5
          have RG : RenG k i nm g ⟨f1, f2, g.price, ways⟩ := ⟨ef.symm, et.symm, rfl, pm, rise⟩
          refine ⟨g0, gvs, _, rfl, rfl, hg5, Nat.lt_of_le_of_lt (by omega : gvs.length ≤ 16) (by decide), gvs ++ [.ref t], rs ++ [⟨f1, f2, g.price, ways⟩], _, _, _, _, _, rfl, (x3.trans x45).mut ng0, upd_same, ?_, ?_⟩
          · exact Paired.imp (fun _ _ => GN.mono (TX.put hg5)) (paired_app1 (Paired.imp (fun _ _ => GN.mono (TX.ex x45)) hgv) (gn_new gt (Evl.ex_t e5 s3) (Paired.imp (fun _ _ => Wd.mono (TX.ex e5)) p3)))
          · rw [take_succ_get hg]
            exact paired_app1 hT RG
      · rintro σ H3 ⟨gvs, rs, y6, y7, y8, y9, y10, rfl, x3, hg3, hgv, hT⟩
        rw [gl, List.take_length] at hT
        have gvl : gvs.length = rs.length := Paired.len hgv
        have rsl : b.gaps.length = rs.length := Paired.len hT
        have rvl : rvs.length = rl.length := Paired.len hrv
        have x13 := x1.trans x3
        have hr3 := x3 _ _ hr1
        have B4 := ren_keyed ok hc N hb hT
        obtain ⟨t1, t2⟩ := keyed_asks B4 hgv
        refine ⟨.ref r0, rfl, .inl ⟨rfl, _, SqL.of hr3⟩, .ref a, rfl, .int (0 + (i : Nat)), rfl, ?_⟩
        refine ⟨a, bs, _, .ref a1, rfl, rfl, Evl.ex_t x13 ha, hix, ?_⟩
        refine ⟨a1, _, 0, .int b.many, rfl, rfl, Evl.ex_t x13 h1, atI_nat (j := 0) rfl, ?_⟩
        refine ⟨.ref g0, rfl, g0, gvs, kH H3, rfl, SqL.of hg3, by omega, t1, t2, fun ys O pm pw nO => ?_⟩
        obtain ⟨gs', hgs, gpm, grise⟩ := keyed_sorted B4 hgv pm pw
        have e4 := Evl.Ex.new (o := .lst ys) nO
        have gO : (upd H3 O (.lst ys)) O = some (.lst ys) := upd_same
        generalize upd H3 O (.lst ys) = H4 at e4 gO
        refine ⟨O, ys, rfl, .inl ⟨.inl (.inl gO), fun t nt => ?_⟩⟩
        have e5 := Evl.Ex.new (o := .tup ys) nt
        have gt : (upd H4 t (.tup ys)) t = some (.tup ys) := upd_same
        generalize upd H4 t (.tup ys) = H5 at e5 gt
        refine ⟨(by show 2 ≤ sizeLine; decide), fun tb ntb => ?_⟩
        have e6 := Evl.Ex.new (o := .tup [.int b.many, .ref t]) ntb
        have gb : (upd H5 tb (.tup [.int b.many, .ref t])) tb = some (.tup [.int b.many, .ref t]) := upd_same
        generalize upd H5 tb (.tup [.int b.many, .ref t]) = H6 at e6 gb
        have x36 := e4.trans (e5.trans e6)
        have x16 := x3.trans x36
        have hr6 := x16 _ _ hr1
        have hB : BoltAt K H6 (.ref tb) ⟨b.many, gs'⟩ := ⟨tb, t, ys, rfl, .inl (.inl gb), .inl (.inl (e6 _ _ gt)), Paired.imp (fun _ _ h => (GN.mono (TX.ex x36) h).1) hgs⟩
        refine ⟨r0, rvs, _, rfl, rfl, hr6, Nat.lt_of_le_of_lt (by omega : rvs.length ≤ 60) (by decide), rvs ++ [.ref tb], rl ++ [⟨b.many, gs'⟩], _, _, _, _, _, _, _, rfl, (x1.trans x16).mut nr, upd_same, ?_, by rw [List.length_append, rll]; rfl, ?_⟩
        · exact Paired.imp (fun _ _ => BoltAt.mono (TX.put hr6)) (paired_app1 (Paired.imp (fun _ _ => BoltAt.mono (TX.ex x16)) hrv) hB)
        · intro n b0 hn h0
          by_cases ni : n < i
          · obtain ⟨b', z1, z2⟩ := hrn n b0 ni h0
            exact ⟨b', by rw [List.getElem?_append_left (by omega)]; exact z1, z2⟩
          · have ni : n = i := by omega
            subst ni
            rw [hb] at h0
            cases h0
            exact ⟨⟨b.many, gs'⟩, by rw [List.getElem?_append_right (by omega), rll, Nat.sub_self]; rfl, rfl, ⟨rs, gpm, hT⟩, grise⟩
    · rintro σ H1 ⟨rvs, rl, y4, y5, y6, y7, y8, y9, y10, rfl, x1, hr1, hrv, rll, hrn⟩
      refine ⟨.ref r0, rfl, r0, rvs, rfl, .inl ⟨.inl (.inl hr1), fun t nt => ?_⟩⟩
      have e2 := Evl.Ex.new (o := .tup rvs) nt
      have gt : (upd H1 t (.tup rvs)) t = some (.tup rvs) := upd_same
      generalize upd H1 t (.tup rvs) = H2 at e2 gt
      refine q H2 (.ref t) rl (x1.trans e2) ⟨t, rvs, rfl, .inl (.inl gt), Paired.imp (fun _ _ => BoltAt.mono (TX.ex e2)) hrv⟩ ⟨by omega, fun n b hb => hrn n b ?_ hb⟩
      have := (List.getElem?_eq_some_iff.mp hb).1
      omega
end
end Wb

set_option Elab.async false
set_option linter.all false
set_option maxRecDepth 100000
set_option maxHeartbeats 4000000
namespace Wb
open PySem PySem.Spec PyProof.Rows L2
/-! ### tuples of which the object is known: made, and asked a method -/
/-- a tuple's object, without a dict of its own -/
def KnT (H : Hp) (v : V) : Prop := ∃ (a : Addr) (o : Obj) (xs : List V), v = .ref a ∧ H a = some (.frz o (.tup xs)) ∧ o.cls = .type "tuple" ∧ o.dict = none
theorem KnT.ex {H H' : Hp} (e : Evl.Ex H H') {v : V} (h : KnT H v) : KnT H' v := by
  obtain ⟨a, o, xs, h1, h2, h3⟩ := h
  exact ⟨a, o, xs, h1, e _ _ h2, h3⟩
/-- tuple(xs), xs a list: a new tuple, its object told -/
def rTupF (K : PySem.W.Frag) : List V → Hp → VK → Prop := fun xs H Q => ∃ p ys, xs = [.ref p] ∧ SqL K H p ys ∧ ∀ l o, H l = none → o.cls = .type "tuple" → o.dict = none → Q (.ref l) (upd H l (.frz o (.tup ys)))
section
variable {X : Cx}
theorem call_tupF : CallR X (.type "tuple") (rTupF X.K) := by
  intro pins s σ H xs us Q I r h
  obtain ⟨p, ys, rfl, hq, q⟩ := h
  obtain ⟨u, rfl, rx⟩ := vals1 r
  cases rx
  obtain ⟨its, rv, pl, hz⟩ := I.list hq
  have len := rv.length
  refine call_tuple_list pl.isList (fun h1 kp => ?_) (by simp only [List.size_toArray] <;> omega)
  have I1 : Inv X pins σ H { s with heap := h1 } := I.kept (t' := s.toks) kp
  refine ⟨.ref h1.objs.size, upd H h1.objs.size (.frz { cls := .type "tuple", data := .seq its.toArray } (.tup ys)), I1.laid (t' := s.toks) (fun b o e => Heap.get?_push_of_some _ e) (Nat.le_refl _) ?_, rfl, q _ _ (I1.hok.fresh (Nat.le_refl _)) rfl rfl⟩
  exact ⟨Heap.get?_push_size _ rfl, hz, its, rv, IsTup.new _ _⟩
/-- tuple(range(..)): the same -/
def tTupRgF (te : L2.St → Hp → (Int → Int → Hp → Prop) → Prop) : TE := fun σ H Q => te σ H fun a b H1 => RgOk a b ∧ ∀ q o, H1 q = none → o.cls = .type "tuple" → o.dict = none → Q (.ref q) (upd H1 q (.frz o (.tup (rgV a b))))
theorem pe_tupRgF {e : Expr} {te : L2.St → Hp → (Int → Int → Hp → Prop) → Prop} {p pos : Pos} (hc : X.calm = true) (hg : Gl X "tuple") (hm : X.mg "tuple" = none) (he : PRg X e te) (na : starEach [e] X.env = (false, eval e X.env) :: starEach [] X.env := by rfl) :
    PE X (.Call (.Name "tuple" p) [e] [] pos) (tTupRgF te) := by
  constructor
  intro pins s σ H Q I h
  refine Call_ (ld_blt I hg hm PyProof.Rows.boot_tuple (PyProof.Rows.callWith_type1 (PyProof.Rows.args_cons (thn (he pins s σ H _ I h) fun x s1 hx => PyProof.Rows.args_nil ?_) na) na))
  obtain ⟨r, a, b, t, u, v, H1, rfl, hr, I1, ok, q⟩ := hx
  obtain ⟨b1, b2, b3, b4, b5⟩ := ok
  refine call_tuple_range (n := (b - a).toNat) (I1.ok.hd hc) hr (small_one b1 b2 b3 b4) (rangeSize_nat a b) b5 fun h1 tk acc kp hi => ?_
  have I2 : Inv X pins σ H1 { s1 with heap := h1, toks := tk } := I1.kept kp
  refine ⟨.ref h1.objs.size, upd H1 h1.objs.size (.frz { cls := .type "tuple", data := .seq acc } (.tup (rgV a b))), I2.laid (t' := tk) (fun c o e => Heap.get?_push_of_some _ e) (Nat.le_refl _) ?_, rfl, q _ _ (I2.hok.fresh (Nat.le_refl _)) rfl rfl⟩
  refine ⟨Heap.get?_push_size _ rfl, by rw [rgV_length, sizeLine_eq]; omega, acc.toList, vals_rg hi, ?_⟩
  rw [Array.toArray_toList]
  exact IsTup.new _ _
theorem ty_knT : TyOk X "tuple" (fun x H => KnT H x) := by
  intro pins σ H s x v I r ty
  obtain ⟨a, o, xs, rfl, ha, hc, hd⟩ := ty
  cases r
  obtain ⟨ho, _⟩ := I.hok a _ ha
  refine ⟨⟨o, ho, hc⟩, fun b e => ?_⟩
  cases e
  exact ⟨o, ho, hd⟩
end
end Wb

set_option Elab.async false
set_option linter.all false
set_option maxRecDepth 100000
set_option maxHeartbeats 4000000
set_option pp.maxSteps 600
set_option pp.deepTerms false
namespace Wb
open PySem PySem.Spec PyProof.Rows L2 LamX
/-! ### a def whose code object is known: promises that know that no repr runs around them -/
section
variable {P : Program} {w : World} {K : PySem.W.Frag} {mg : Str → Option Value} {base : Heap}
theorem fnG_okT {x qual : Str} {st : Stmt} {f : Addr} {fd : FuncData} {N ps : List Str} {k : Nat} {sp : Sp} {cc : Addr} (F : Fun K x qual st f fd) (known : fd.code = .ref cc)
    (S : FnScope N ps (defScope st)) (len : ∀ vs H Q E, sp vs H Q E → vs.length = ps.length)
    (hbody : ∀ (A : Around) (outer : List Env) (s : Shared) (H : Hp) (vs : List V) (Q : VK) (E : XK), A.guards = some [] →
      Room k (A.deeper (envOfC qual (defScope st) s.heap.objs.size f (.ref cc))) → sp vs H Q E →
      ∃ t, PSs (cxOf CX0 P w K mg base N qual (defScope st) f (.ref cc) A outer s H E).nox (defBody st) t ∧
        t { nx := fun _ H' => Q .non H', rt := Q } (start N vs) H) : FnG P w K mg base (k + 1) f fd ps sp := by
  have F2 := F
  obtain ⟨oc, od, kV, doc, pm, an, cdv, ct, osl, rfl, lk, hcd⟩ := F2.ex
  have kn : cdv = .ref cc := known
  refine ⟨len, ?_⟩
  intro A outer s H args us vs Q E hgd hr e0 hb r hsp
  have kin1 : K.In s.heap := e0.mod.kin.keeps (fun b o e => (e0.bs b o e).1)
  have lim : s.heap.NoLimit := e0.mod.nolimit.keeps (fun b o e => (e0.bs b o e).1)
  have kinds : ∀ y ∈ ps.zip us, (defScope st).names.lookup y.1 = some .local ∨
      ((defScope st).names.lookup y.1 = some .cell ∧ ((cellsFrom (s.heap.objs.size + 1) (defScope st).names []).lookup y.1).isSome = true) := by
    rintro ⟨n, v⟩ hy
    cases S.par n (List.of_mem_zip hy).1 with
    | inl q => exact .inl q
    | inr q => exact .inr ⟨q, PySem.W.cellsFrom_some _ _ _ (.inl q)⟩
  apply codeAny_call_function hr.depth (kin1 _ _ lk) rfl S.co S.gen rfl (PySem.W.codeRec_of kin1 hcd)
  apply hb
  apply wpAny_newFunctionEnv_cells S.kind kinds
  intro env he s1 x
  subst he
  refine ⟨lim.keeps x.toInCall.keep, codeAny_func ?_⟩
  subst kn
  obtain ⟨t, ht, hq⟩ := hbody A outer s H vs Q E hgd (hr.deeper _) hsp
  have I := inv_start (CX := CX0) (P := P) (w := w) (qual := qual) (E := E) S hr.hd e0 (len _ _ _ _ hsp) r x
  apply wpAny_mono (ht.nox.run [] s1 (start N vs) H _ I hq)
  · intro fl s' hs
    cases fl
    case next =>
      obtain ⟨σ', H', J, q⟩ := hs
      exact ⟨V.non, H', J.os, J.bare, J.base, J.hok, rfl, q⟩
    case brk => obtain ⟨_, _, _, q⟩ := hs; exact q.elim
    case cont => obtain ⟨_, _, _, q⟩ := hs; exact q.elim
    case ret u =>
      obtain ⟨v, σ', H', J, rv, q⟩ := hs
      exact ⟨v, H', J.os, J.bare, J.base, J.hok, rv, q⟩
  · intro e s' hs
    exact hs
end
/-! ### the end, where the law's code object has a table of lambdas -/
section
variable {P : Program} {w : World} {K : PySem.W.Frag} {mg mb : Str → Option Value} {k : Nat} {fa a cc tb : Addr} {fd : FuncData} {x : Str} {sp : Sp} {t : Shared} {vs : List Value} {ns : List Int}
/-- from a heap that tracks at most the script and the table -/
theorem top_coreT (kin : K.In t.heap) (mns : t.heap.Ns mainGlobals mg) (bns : t.heap.Ns builtinsNs mb)
    (bok : ∀ y : Str, y ≠ "__name__" → mb y = bootBuiltins y) (nol : t.heap.NoLimit) (gen0 : t.gens = #[])
    (bmn : ∃ (bm : Addr) (ob : Obj), mg "__builtins__" = some (.ref bm) ∧ bm ≠ builtinsNs ∧ t.heap.get? bm = some ob ∧ ob.cls = .type "module" ∧ ob.dict = some builtinsNs ∧ ob.data = .plain)
    (tabE : t.heap.get? tb = some { cls := .none, data := .fields #[] }) (tabN : K.lookup tb = none) (code : PySem.W.CodeHd t.heap cc tb)
    (oa : t.heap.get? a = some { cls := .type "list", data := .seq vs.toArray }) (rv : Vals (ns.map V.int) vs) (room : Room k callerA) (gu : callerA.guards = some [])
    (prom : ∀ bs : Heap, K.In bs → bs.Ns mainGlobals mg → TabB bs mg cc tb → FnG P w K mg bs k fa fd [x] sp) (bnd : ∀ (t' : Shared) (u : Value), BindsTo t' fd ⟨[u], []⟩ [(x, u)])
    (I : Hp) (tbI : I tb = some (.tbl #[])) (only : ∀ b, I b = none ∨ b = tb ∨ ∃ o xs, I b = some (.frz o (.lst xs))) (due : sp [.ref a] I (fun v _ => v = .bl true) fun _ _ _ => False) (iok : HOk P w I t.heap)
    (at_a : ∀ b, I b ≠ none → b = a ∨ b = tb) (free_a : I a ≠ none → K.lookup a = none) :
    codeAny (model P w) callerA (.call (.ref fa) ⟨[.ref a], []⟩) (fun r t' => r = .ok (.ret (.bool true)) ∧ OldK t.heap t'.heap ∧ t'.os = t.os ∧ AllBare t'.gens) t := by
  have keep : ∀ {b : Addr} {o : Obj}, I b = none → t.heap.get? b = some o → (hidT t.heap I).get? b = some o := fun n e => hidT_get e n
  -- what is tracked is the script's list or the empty table
  have notIn : ∀ {b : Addr} {o : Obj}, t.heap.get? b = some o → (∀ us n, o.data ≠ .seq us n) → o.data ≠ .fields #[] → I b = none := by
    intro b o e n1 n2
    refine Classical.byContradiction fun h => ?_
    rcases at_a b h with rfl | rfl
    · rw [oa] at e
      cases e
      exact n1 _ _ rfl
    · rw [tabE] at e
      cases e
      exact n2 rfl
  have nsI : ∀ {b : Addr} {m : Str → Option Value}, t.heap.Ns b m → (hidT t.heap I).Ns b m := by
    intro b m h
    obtain ⟨o, es, ep, e1, e2, e3⟩ := h
    refine ⟨o, es, ep, keep (notIn e1 (fun us n z => ?_) fun z => ?_) e1, e2, e3⟩
    · rw [e2] at z
      cases z
    · rw [e2] at z
      cases z
  have kinI : K.In (hidT t.heap I) := by
    intro b o e
    refine keep (Classical.byContradiction fun n => ?_) (kin b o e)
    rcases at_a b n with z | z
    · have y := free_a (by rw [← z]; exact n)
      rw [← z, e] at y
      cases y
    · rw [z, tabN] at e
      cases e
  have nolI : (hidT t.heap I).NoLimit := by
    obtain ⟨mc, h1, h2⟩ := nol
    exact ⟨mc, nsI h1, h2⟩
  have tabB : TabB (hidT t.heap I) mg cc tb := by
    refine ⟨?_, ?_, fun z => ?_⟩
    · obtain ⟨o, us, file, tf, flags, tg, inF, text, tt, e1, r1, r2, r3, rest⟩ := code
      refine ⟨o, us, file, tf, flags, tg, inF, text, tt, keep (notIn e1 (fun us n z => ?_) fun z => ?_) e1, r1, r2, r3, rest⟩
      · rw [r2] at z
        cases z
      · rw [r2] at z
        cases z
        simp at r3
    · obtain ⟨bm, ob, b1, b2, b3, b4, b5, b6⟩ := bmn
      refine ⟨bm, ob, b1, b2, fun q => ?_, fun q => ?_, keep (notIn b3 (fun us n z => ?_) fun z => ?_) b3, b4, b5, b6⟩
      · obtain ⟨o, es, ep, e, hd, _⟩ := mns
        rw [q, e] at b3
        cases b3
        rw [hd] at b6
        cases b6
      · rw [q, tabE] at b3
        cases b3
        cases b6
      · rw [b6] at z
        cases z
      · rw [b6] at z
        cases z
    · obtain ⟨o, es, ep, e, hd, _⟩ := mns
      rw [z, tabE] at e
      cases e
      cases hd
  have mod : Mod K mg (hidT t.heap I) := ⟨kinI, nsI mns, ⟨mb, nsI bns, bok⟩, nolI⟩
  have env : Env0 P w K mg (hidT t.heap I) callerA [] t I :=
    ⟨rfl, mod, fun b o e => of_hidT e, Nat.le_of_eq (hidT_size _ _), trivial, (fun b hb => absurd hb (List.not_mem_nil)), iok, .of_eq gen0⟩
  refine codeAny_mono ((prom _ kinI (nsI mns) tabB).go callerA [] t I ⟨[.ref a], []⟩ [.ref a] [.ref a] _ _ gu room env (bnd t (.ref a)) (.cons rfl .nil) due) ?_
  intro r t' h
  cases r with
  | error e => exact False.elim h
  | ok fl =>
    cases fl with
    | next => exact False.elim h
    | brk => exact False.elim h
    | cont => exact False.elim h
    | ret u =>
      obtain ⟨v, I', eos, bare, un, iok', rr, hv⟩ := h
      have hv' : v = .bl true := hv
      rw [hv'] at rr
      have hu : u = Value.bool true := rr
      rw [hu]
      have same : ∀ b o, b ≠ tb → t.heap.get? b = some o → t'.heap.get? b = some o := by
        intro b o nb e
        rcases only b with z | z | ⟨ob, xs, z⟩
        · exact un.keep b o e z (by intro h; exact absurd h List.not_mem_nil) (by simp)
        · exact absurd z nb
        · obtain ⟨e1, _⟩ := iok b _ z
          obtain ⟨e2, _⟩ := iok' b _ (un.frzs b ob _ z)
          rw [e] at e1
          cases e1
          exact e2
      obtain ⟨more, zt⟩ := un.tbls tb #[] tbI
      have grown : t'.heap.get? tb = some { cls := .none, data := .fields (#[] ++ more) } := iok' tb _ zt
      refine ⟨rfl, ⟨fun b o e => ?_, fun b o e => ?_⟩, eos, bare⟩
      · by_cases nb : b = tb
        · rw [nb] at e ⊢
          rw [tabE] at e
          cases e
          exact .inr (.inl ⟨(code.tab tabE).isCodeTable, rfl, #[], more, rfl, grown⟩)
        · exact .inl (same b o nb e)
      · by_cases nb : b = tb
        · rw [nb]
          exact ⟨_, grown⟩
        · exact ⟨o, same b o nb e⟩
theorem call_topT (kin : K.In t.heap) (mns : t.heap.Ns mainGlobals mg) (bns : t.heap.Ns builtinsNs mb)
    (bok : ∀ y : Str, y ≠ "__name__" → mb y = bootBuiltins y) (nol : t.heap.NoLimit) (gen0 : t.gens = #[])
    (bmn : ∃ (bm : Addr) (ob : Obj), mg "__builtins__" = some (.ref bm) ∧ bm ≠ builtinsNs ∧ t.heap.get? bm = some ob ∧ ob.cls = .type "module" ∧ ob.dict = some builtinsNs ∧ ob.data = .plain)
    (tabE : t.heap.get? tb = some { cls := .none, data := .fields #[] }) (tabN : K.lookup tb = none) (code : PySem.W.CodeHd t.heap cc tb)
    (oa : t.heap.get? a = some { cls := .type "list", data := .seq vs.toArray }) (iv : IntsAre vs ns) (len : ns.length ≤ sizeLine) (room : Room k callerA) (gu : callerA.guards = some [])
    (prom : ∀ bs : Heap, K.In bs → bs.Ns mainGlobals mg → TabB bs mg cc tb → FnG P w K mg bs k fa fd [x] sp) (bnd : ∀ (t' : Shared) (u : Value), BindsTo t' fd ⟨[u], []⟩ [(x, u)])
    (due : ∀ I : Hp, I tb = some (.tbl #[]) → SqL K I a (ns.map V.int) → sp [.ref a] I (fun v _ => v = .bl true) fun _ _ _ => False) :
    codeAny (model P w) callerA (.call (.ref fa) ⟨[.ref a], []⟩) (fun r t' => r = .ok (.ret (.bool true)) ∧ OldK t.heap t'.heap ∧ t'.os = t.os ∧ AllBare t'.gens) t := by
  have rv := vals_ints iv
  have lv := iv.length
  have ab : a ≠ tb := fun z => by
    rw [z, tabE] at oa
    have q : Data.fields #[] = Data.seq vs.toArray _ := congrArg Obj.data (Option.some.inj oa)
    cases q
  cases hk : K.lookup a with
  | some o =>
    have e := kin a o hk
    rw [oa] at e
    cases e
    have one : ∀ b, b ≠ tb → (fun b => if b = tb then some (HO.tbl #[]) else none : Hp) b = none := fun b n => if_neg n
    have two : (fun b => if b = tb then some (HO.tbl #[]) else none : Hp) tb = some (HO.tbl #[]) := if_pos rfl
    generalize (fun b => if b = tb then some (HO.tbl #[]) else none : Hp) = I at one two
    have hS : SqL K I a (ns.map V.int) := .inr ⟨_, vs.toArray, _, hk, rfl, rfl, rfl, (by rw [List.size_toArray, lv]; exact len), (by simpa using rv)⟩
    refine top_coreT kin mns bns bok nol gen0 bmn tabE tabN code oa rv room gu prom bnd I two (fun b => ?_) (due _ two hS) (fun b u z => ?_) (fun b z => ?_) (fun z => absurd (one a ab) z)
    · by_cases nb : b = tb
      · exact .inr (.inl nb)
      · exact .inl (one b nb)
    · by_cases nb : b = tb
      · subst nb
        rw [two] at z
        cases z
        exact tabE
      · rw [one b nb] at z
        cases z
    · by_cases nb : b = tb
      · exact .inr nb
      · exact absurd (one b nb) z
  | none =>
    have one : ∀ b, b ≠ a → b ≠ tb → (fun b => if b = a then some (HO.frz { cls := .type "list", data := .seq vs.toArray } (.lst (ns.map V.int))) else if b = tb then some (HO.tbl #[]) else none : Hp) b = none := fun b n m => (if_neg n).trans (if_neg m)
    have two : (fun b => if b = a then some (HO.frz { cls := .type "list", data := .seq vs.toArray } (.lst (ns.map V.int))) else if b = tb then some (HO.tbl #[]) else none : Hp) a = some (HO.frz { cls := .type "list", data := .seq vs.toArray } (.lst (ns.map V.int))) := if_pos rfl
    have three : (fun b => if b = a then some (HO.frz { cls := .type "list", data := .seq vs.toArray } (.lst (ns.map V.int))) else if b = tb then some (HO.tbl #[]) else none : Hp) tb = some (HO.tbl #[]) := (if_neg (Ne.symm ab)).trans (if_pos rfl)
    generalize (fun b => if b = a then some (HO.frz { cls := .type "list", data := .seq vs.toArray } (.lst (ns.map V.int))) else if b = tb then some (HO.tbl #[]) else none : Hp) = I at one two three
    have hS : SqL K I a (ns.map V.int) := .inl (.inr ⟨_, two⟩)
    have at_a : ∀ b, I b ≠ none → b = a ∨ b = tb := fun b n => Classical.byContradiction fun z => n (one b (fun y => z (.inl y)) (fun y => z (.inr y)))
    refine top_coreT kin mns bns bok nol gen0 bmn tabE tabN code oa rv room gu prom bnd I three ?_ (due I three hS) ?_ at_a (fun _ => hk)
    · intro b
      by_cases z : b = a
      · rw [z]
        exact .inr (.inr ⟨_, _, two⟩)
      · by_cases y : b = tb
        · exact .inr (.inl y)
        · exact .inl (one b z y)
    · intro b u z
      rcases at_a b (by rw [z]; exact fun y => nomatch y) with e | e
      · subst e
        rw [two] at z
        cases z
        exact ⟨oa, (by rw [List.length_map]; exact len), vs, _, rv, oa⟩
      · subst e
        rw [three] at z
        cases z
        exact tabE
end
theorem walk_topT {l : PySem.W.OpenLaw} {n k : Nat} {q : Program} {loose : List Str} {XP : (Str → Option Value) → Heap → Prop} {YP : World → Heap → Prop} {d : DefRec} {K : Params → PySem.W.Frag} {sp : World → Addr → Sp} {x : Str}
    (hn : l.most = some n) (hn2 : n ≤ sizeLine) (hd : d.params.defaults = []) (room : Room k callerA) (gu : callerA.guards = some [])
    (hY : ∀ (w : World) (h : Heap), YP w h → (K w.params).In h)
    (F : ∀ (w : World) (mg : Str → Option Value) (fa : Addr) (h : Heap), YP w h → (K w.params).In h → h.Ns mainGlobals mg → mg d.name = some (.ref fa) → ∃ (fd : FuncData) (cc tb : Addr),
      h.get? tb = some { cls := .none, data := .fields #[] } ∧ (K w.params).lookup tb = none ∧ PySem.W.CodeHd h cc tb ∧ (∀ (t : Shared) (u : Value), BindsTo t fd ⟨[u], []⟩ [(x, u)]) ∧
      (∀ bs : Heap, (K w.params).In bs → bs.Ns mainGlobals mg → TabB bs mg cc tb → FnG l.prog w (K w.params) mg bs k fa fd [x] (sp w tb)) ∧
      ∀ (I : Hp) (a : Addr) (ns : List Int), I tb = some (.tbl #[]) → SqL (K w.params) I a (ns.map V.int) → sp w tb [.ref a] I (fun v _ => v = .bl true) fun _ _ _ => False) :
    PySem.W.WalkO q loose XP YP l.row.toRowW d [] (fun f vs => PySem.call f vs) := by
  refine Att.attach_call hn hd ?_
  intro w t0 t mg mb fa o pm cd doc a vs ns G Y ho hdt hcd hmg oa iv hl gen0
  obtain ⟨fd, cc, tb, f1, f2, f3, hb, hF, due⟩ := F w mg fa _ Y (hY w _ Y) G.T.g hmg
  exact call_topT (hY w _ Y) G.T.g G.T.b G.T.builtins G.T.nolimit gen0 G.T.bmain f1 f2 f3 oa iv (Nat.le_trans hl hn2) room gu hF hb fun I hI hS => due I a ns hI hS
end Wb

set_option Elab.async false
set_option linter.all false
set_option maxRecDepth 100000
set_option maxHeartbeats 4000000
set_option pp.maxSteps 900
set_option pp.deepTerms false
namespace Wb
open PySem PySem.Spec PyProof.Rows L2 LamX
abbrev sRefd : Stmt := topS 50
abbrev nRefd : List Str := ["_law_asked", "e"]
theorem scRefd : FnScope nRefd ["_law_asked"] (defScope sRefd) := ⟨rfl, rfl, rfl, by decide +kernel, rfl, by decide +kernel, by decide +kernel⟩
/-- the two classes of refusals, as the law holds them against others -/
structure TwoX (K : PySem.W.Frag) (CB CN : Addr) : Prop where
  eb : ExcC K CB
  en : ExcC K CN
  kb : PySem.W.kitOne K (.ref CB) (.type "ValueError") = some true
  kn : PySem.W.kitOne K (.ref CN) (.type "ValueError") = some true
  kx : PySem.W.kitOne K (.ref CB) (.ref CN) = some false
  xb : PySem.W.exmOne K (.ref CB) (.ref CB) = some true
  xn : PySem.W.exmOne K (.ref CN) (.ref CN) = some true
  xx : PySem.W.exmOne K (.ref CN) (.ref CB) = some false
/-- what is told of what was asked: told, or the refusal's name -/
def TTref (CB CN : Addr) : (XK → Hp → VK → Prop) → Hp → VK → Prop := fun tl H Q =>
  tl (fun cls d H' => d = none ∧ ((cls = .ref CB ∧ ∀ H'' z, Evl.Ex H' H'' → H'' z = some (.tup [.str "bolt", .bl true]) → Q (.ref z) H'') ∨ (cls = .ref CN ∧ ∀ H'' z, Evl.Ex H' H'' → H'' z = some (.tup [.str "names", .bl true]) → Q (.ref z) H''))) H
    (fun v H' => 2 ≤ sizeLine ∧ ∀ z, H' z = none → Q (.ref z) (upd H' z (.tup [.str "told", v])))
theorem ref_gives {X : Cx} {g CB CN : Addr} {cdg : Value} {q : Str} (T : TwoX X.K CB CN) (gB : X.mg "NoBolt" = some (.ref CB)) (gN : X.mg "NoNames" = some (.ref CN)) (isi : X.mg "isinstance" = none) (ve : X.mg "ValueError" = none) :
    GivesTo X nRefd "_law_refused" (defScope sRefd) g cdg (defBody sRefd) "_law_asked" q (TTref CB CN) := by
  intro f c' s H Q tl act hc h
  refine ⟨_, pss_one (ps_try_each (X := (cxOf C8.CX0 X.prog X.w X.K X.mg X.base nRefd "_law_refused" (defScope sRefd) g cdg X.A X.stack s H C8.E0).nox)
      (cls := [(.ref CB, 1, _), (.ref CN, 1, _)]) (out := fun _ _ _ _ => False)
      (tb := fun W D σ H => ∃ Ech : XK, (∀ cls d σ' H', Ech cls d H' → W cls d σ' H') ∧ σ[0]? = some (some (.ref f)) ∧ H c' = some (CodeO c' q) ∧ tl Ech H (fun v H' => 2 ≤ sizeLine ∧ ∀ z, H' z = none → D.rt (.ref z) (upd H' z (.tup [.str "told", v]))))
      rfl rfl scRefd.nd LamX.takes0 (fun W pn xe tk _ => ?_)
      (.cons (n := "e") ⟨rfl, by decide, .inl gB⟩ rfl rfl (fun p o kl dd pn z fs => pss_one (ps_ret (pe_tup (pa_cons pe_str (pa_cons (pe_and (pe_callB (call_isO z fs) (by rfl) isi boot_isinstance (pa_cons (pv 1) (pa_cons (pe_bltn (v := .ty "ValueError") (by rfl) ve boot_ValueError rfl) pa_nil)))
          (pe_one (pe_not (pe_callB (call_isO z fs) (by rfl) isi boot_isinstance (pa_cons (pv 1) (pa_cons (pe_glob (v := .ref CN) (by rfl) gN rfl) pa_nil)))))) pa_nil)))))
      (.cons (n := "e") ⟨rfl, by decide, .inl gN⟩ rfl rfl (fun p o kl dd pn z fs => pss_one (ps_ret (pe_tup (pa_cons pe_str (pa_cons (pe_callB (call_isO z fs) (by rfl) isi boot_isinstance (pa_cons (pv 1) (pa_cons (pe_bltn (v := .ty "ValueError") (by rfl) ve boot_ValueError rfl) pa_nil))) pa_nil))))) .nil))), ?_⟩
  · refine ⟨fun pins s' σ H' D I h' => ?_⟩
    obtain ⟨Ech, hW, h1, h2, h3⟩ := h'
    exact (pss_one (ps_ret (pe_tup (pa_cons pe_str (pa_cons (act W pn xe Ech _ _ tk hW) pa_nil))))).run pins s' σ H' D I ⟨h1, h2, h3⟩
  · refine ⟨fun cls d H' => d = none ∧ ((cls = .ref CB ∧ ∀ H'' z, Evl.Ex H' H'' → H'' z = some (.tup [.str "bolt", .bl true]) → Q (.ref z) H'') ∨ (cls = .ref CN ∧ ∀ H'' z, Evl.Ex H' H'' → H'' z = some (.tup [.str "names", .bl true]) → Q (.ref z) H'')), fun cls d σ' H' hx => ?_, rfl, hc, ?_⟩
    · obtain ⟨rfl, ⟨rfl, hq⟩ | ⟨rfl, hq⟩⟩ := hx
      · refine ⟨true, T.xb, fun _ p np ln => ?_, fun z => absurd z (Ne.symm Bool.false_ne_true)⟩
        obtain ⟨x0, x1, rfl⟩ : ∃ x0 x1, σ' = [x0, x1] := by
          match σ', ln with
          | [x0, x1], _ => exact ⟨x0, x1, rfl⟩
        refine ⟨.ref p, rfl, CB, .ty "ValueError", .type "ValueError", true, rfl, rfl, T.eb, rfl, fun u e => e, T.kb, true, rfl, ?_⟩
        rw [if_pos rfl]
        refine ⟨.ref p, rfl, CB, .ref CN, .ref CN, false, rfl, rfl, T.eb, rfl, fun u e => e, T.kx, false, rfl, ?_⟩
        refine ⟨(by show 2 ≤ sizeLine; decide), fun z nz => hq _ z (Evl.Ex.new nz) upd_same⟩
      · refine ⟨false, T.xx, fun z => absurd z Bool.false_ne_true, fun _ => ⟨true, T.xn, fun _ p np ln => ?_, fun z => absurd z (Ne.symm Bool.false_ne_true)⟩⟩
        obtain ⟨x0, x1, rfl⟩ : ∃ x0 x1, σ' = [x0, x1] := by
          match σ', ln with
          | [x0, x1], _ => exact ⟨x0, x1, rfl⟩
        refine ⟨.ref p, rfl, CN, .ty "ValueError", .type "ValueError", true, rfl, rfl, T.en, rfl, fun u e => e, T.kn, ?_⟩
        refine ⟨(by show 2 ≤ sizeLine; decide), fun z nz => hq _ z (Evl.Ex.new nz) upd_same⟩
    · exact h
end Wb

set_option Elab.async false
set_option linter.all false
set_option maxRecDepth 100000
set_option maxHeartbeats 4000000
set_option pp.maxSteps 900
set_option pp.deepTerms false
namespace Wb
open PySem PySem.Spec PyProof.Rows L2
abbrev sNames : Stmt := topS 51
abbrev nNames : List Str := ["_law_pen_here", "_law_lock_here", "_law_k", "_law_count", "_law_found", "_law_odd"]
theorem scNames : FnScope nNames ["_law_pen_here", "_law_lock_here", "_law_k"] (defScope sNames) := ⟨rfl, rfl, rfl, by decide +kernel, rfl, by decide +kernel, by decide +kernel⟩

abbrev sAreN : Stmt := topS 52
abbrev nAreN : List Str := ["_law_thing", "_law_count", "_law_one"]
theorem scAreN : FnScope nAreN ["_law_thing", "_law_count"] (defScope sAreN) := ⟨rfl, rfl, rfl, by decide +kernel, rfl, by decide +kernel, by decide +kernel⟩

theorem ints_inj0 {a b : Word} (h : PyData.tuple (a.map .int) = .tuple (b.map .int)) : a = b := by
  have := congrArg intsD h
  rw [ints_back, ints_back] at this
  exact this
/-! ### odd things: scalars, tuples of them, lists of them beside the pen -/
inductive Sc : V → PyData → Prop
  | non : Sc .non .none
  | bl (b : Bool) : Sc (.bl b) (.bool b)
  | int (i : Int) : Sc (.int i) (.int i)
  | str (x : Str) (h : PyData.canLay0 (.str x) = true) : Sc (.str x) (.str x)
theorem Sc.th {K : PySem.W.Frag} {H : Hp} {v : V} {d : PyData} (h : Sc v d) : Th K H v d := by
  cases h with
  | non => exact .non
  | bl b => exact .bl b
  | int i => exact .int i
  | str x _ => exact .str x
theorem Sc.dp {K : PySem.W.Frag} {H : Hp} {v : V} {d : PyData} (h : Sc v d) : Dp K H v d := by
  cases h with
  | non => exact .non
  | bl b => exact .bl b
  | int i => exact .int i
  | str x _ => exact .str x
def Odd (p : Addr) (H : Hp) (v : V) (d : PyData) : Prop := Sc v d ∨ (∃ a xs ds, v = .ref a ∧ d = .tuple ds ∧ Rd H a (.tup xs) ∧ Paired Sc xs ds) ∨ ∃ a xs ds, v = .ref a ∧ a ≠ p ∧ d = .list ds ∧ H a = some (.lst xs) ∧ Paired Sc xs ds
theorem Odd.th {K : PySem.W.Frag} {p : Addr} {H : Hp} {v : V} {d : PyData} (h : Odd p H v d) : Th K H v d := by
  rcases h with h | ⟨a, xs, ds, rfl, rfl, ha, hp⟩ | ⟨a, xs, ds, rfl, _, rfl, ha, hp⟩
  · exact h.th
  · exact .tup ha (thAll (Paired.imp (fun _ _ h => h.th) hp))
  · exact .lst ha (thAll (Paired.imp (fun _ _ h => h.th) hp))
theorem rd_exx {p c : Addr} {T : Int} {H H' : Hp} {a : Addr} {xs : List V} (hp : PenAt H p c T) (e : Exx p H H') (h : Rd H a (.tup xs)) : Rd H' a (.tup xs) := by
  obtain ⟨cells, t, d, h1, _⟩ := hp
  rcases h with h | ⟨o, h⟩
  · refine .inl (e a _ (fun z => ?_) h)
    rw [z, h1] at h
    cases h
  · refine .inr ⟨o, e a _ (fun z => ?_) h⟩
    rw [z, h1] at h
    cases h
theorem KnT.exx {p c : Addr} {T : Int} {H H' : Hp} {v : V} (hp : PenAt H p c T) (e : Exx p H H') (h : KnT H v) : KnT H' v := by
  obtain ⟨cells, t, d, h1, _⟩ := hp
  obtain ⟨a, o, xs, e1, e2, e3⟩ := h
  refine ⟨a, o, xs, e1, e a _ (fun z => ?_) e2, e3⟩
  rw [z, h1] at e2
  cases e2
theorem Odd.exx {p c : Addr} {T : Int} {H H' : Hp} {v : V} {d : PyData} (hp : PenAt H p c T) (e : Exx p H H') (h : Odd p H v d) : Odd p H' v d := by
  rcases h with h | ⟨a, xs, ds, rfl, rfl, ha, hq⟩ | ⟨a, xs, ds, rfl, na, rfl, ha, hq⟩
  · exact .inl h
  · exact .inr (.inl ⟨a, xs, ds, rfl, rfl, rd_exx hp e ha, hq⟩)
  · exact .inr (.inr ⟨a, xs, ds, rfl, na, rfl, e a _ na ha, hq⟩)
theorem sc_ints : ∀ ns : List Int, Paired Sc (ns.map V.int) (ns.map .int)
  | [] => .nil
  | n :: ns => .cons (.int n) (sc_ints ns)
theorem cut_ints (us : List Int) (lo hi : Option Int) : ∃ us' : List Int, cutV (us.map V.int) lo hi = us'.map V.int ∧ us'.length ≤ us.length := by
  unfold cutV
  rw [← List.map_drop, ← List.map_take]
  refine ⟨_, rfl, ?_⟩
  rw [List.length_take, List.length_drop]
  omega
theorem cut_pre (us : List Int) (hi : Option Int) : ∃ k, cutV (us.map V.int) none hi = (us.take k).map V.int := by
  unfold cutV
  rw [HT.sIx_none, ← List.map_drop, ← List.map_take]
  exact ⟨_, rfl⟩
section
variable {K : PySem.W.Frag} {H : Hp} {Q : VK} {a b : Addr} {xs ys : List V}
theorem sl_rd {lo hi : Option Int} (ha : Rd H a (.tup xs)) (q : ∀ H' z, Evl.Ex H H' → Rd H' z (.tup (cutV xs lo hi)) → Q (.ref z) H') : rSlA K (.ref a) lo hi H Q := by
  refine ⟨a, xs, rfl, .inl ha, fun h => ?_, fun _ t nt => ?_⟩
  · exact q H a (Evl.Ex.refl H) (by rw [cutV_whole h]; exact ha)
  · exact q _ t (Evl.Ex.new nt) (.inl upd_same)
theorem cat_rd (ha : Rd H a (.tup xs)) (hb : Rd H b (.tup ys)) (hz : xs.length + ys.length ≤ sizeLine) (q : ∀ H' z, Evl.Ex H H' → Rd H' z (.tup (xs ++ ys)) → Q (.ref z) H') : rCatA K (.ref a) (.ref b) H Q := by
  refine ⟨a, b, xs, ys, rfl, rfl, .inl ha, .inl hb, hz, fun h => ?_, fun _ h => ?_, fun _ _ t nt => ?_⟩
  · exact q H b (Evl.Ex.refl H) (by rw [h]; exact hb)
  · exact q H a (Evl.Ex.refl H) (by rw [h, List.append_nil]; exact ha)
  · exact q _ t (Evl.Ex.new nt) (.inl upd_same)
end
/-- an odd thing of few parts; where it names so many places well, its object is known -/
def Few (m : Int) (p : Addr) (H : Hp) (v : V) : Prop := ∃ e, Odd p H v e ∧ (itemsD e).length ≤ 6 ∧ (namesB e m = true → KnT H v)
theorem Few.exx {m : Int} {p c : Addr} {T : Int} {H H' : Hp} {v : V} (hp : PenAt H p c T) (e : Exx p H H') (h : Few m p H v) : Few m p H' v := by
  obtain ⟨d, h1, h2, h3⟩ := h
  exact ⟨d, h1.exx hp e, h2, fun z => (h3 z).exx hp e⟩
theorem Few.ex {m : Int} {p c : Addr} {T : Int} {H H' : Hp} {v : V} (hp : PenAt H p c T) (e : Evl.Ex H H') (h : Few m p H v) : Few m p H' v := h.exx hp (Exx.ex e)
theorem names_is {ds : List PyData} {m : Int} (h : namesB (.tuple ds) m = true) : ∃ nm : Word, ds = nm.map .int ∧ nm.length = m.toNat ∧ nm.Nodup := by
  unfold namesB at h
  rw [Bool.and_eq_true] at h
  obtain ⟨nm, e, l, _⟩ := places_ints h.1
  injection e with e
  subst e
  have nd := of_decide_eq_true h.2
  rw [ints_back] at nd
  exact ⟨nm, rfl, l, nd⟩
theorem few_bad {m : Int} {p a : Addr} {H : Hp} {us : List Int} (h : Rd H a (.tup (us.map V.int))) (l : us.length ≤ 6) (bad : ¬ (us.length = m.toNat ∧ us.Nodup)) : Few m p H (.ref a) := by
  refine ⟨.tuple (us.map .int), .inr (.inl ⟨a, _, _, rfl, rfl, h, sc_ints us⟩), by show (us.map PyData.int).length ≤ 6; rw [List.length_map]; exact l, fun z => ?_⟩
  obtain ⟨nm, e, l2, nd⟩ := names_is z
  have en : us = nm := ints_inj0 (congrArg PyData.tuple e)
  subst en
  exact absurd ⟨l2, nd⟩ bad
theorem few_known {m : Int} {p a : Addr} {H : Hp} {us : List Int} {o : Obj} (h : H a = some (.frz o (.tup (us.map V.int)))) (hc : o.cls = .type "tuple") (hd : o.dict = none) (l : us.length ≤ 6) : Few m p H (.ref a) :=
  ⟨.tuple (us.map .int), .inr (.inl ⟨a, _, _, rfl, rfl, .inr ⟨o, h⟩, sc_ints us⟩), by show (us.map PyData.int).length ≤ 6; rw [List.length_map]; exact l, fun _ => ⟨a, o, _, rfl, h, hc, hd⟩⟩
theorem few_tup {m : Int} {p a : Addr} {H : Hp} {xs : List V} {d : PyData} {ds : List PyData} (h : Rd H a (.tup xs)) (s : Paired Sc xs (d :: ds)) (l : ds.length ≤ 5) (n : ∀ i, d ≠ .int i) : Few m p H (.ref a) := by
  refine ⟨.tuple (d :: ds), .inr (.inl ⟨a, _, _, rfl, rfl, h, s⟩), by show ds.length + 1 ≤ 6; omega, fun z => ?_⟩
  obtain ⟨nm, e, _, _⟩ := names_is z
  cases nm with
  | nil => cases e
  | cons x nm =>
    injection e with e _
    exact absurd e (n x)
theorem few_sc {m : Int} {p : Addr} {H : Hp} {v : V} {d : PyData} (h : Sc v d) : Few m p H v := by
  refine ⟨d, .inl h, ?_, fun z => ?_⟩
  · cases h <;> exact Nat.zero_le _
  · cases h <;> simp [namesB, placesB, isTup] at z
theorem rg_ints (m : Int) : rgV 0 m = ((List.range m.toNat).map fun (i : Nat) => (i : Int)).map V.int := by
  unfold rgV
  rw [Int.sub_zero, List.map_map]
  exact List.map_congr_left fun i _ => by show V.int (0 + (i : Nat)) = V.int (i : Nat); rw [Int.zero_add]
theorem Sc.lay {v : V} {d : PyData} (h : Sc v d) : d.canLay0 = true ∧ d.depth = 0 := by
  cases h with
  | non => exact ⟨rfl, rfl⟩
  | bl b => exact ⟨rfl, rfl⟩
  | int i => exact ⟨rfl, rfl⟩
  | str x hx => exact ⟨hx, rfl⟩
theorem scs_shaped {xs : List V} {ds : List PyData} (h : Paired Sc xs ds) : SeqAt.shaped (.list ds) = true := by
  have h1 : PyData.canLayAll0 ds = true ∧ PyData.depthAll ds ≤ 1 := by
    induction h with
    | nil => exact ⟨rfl, by simp [PyData.depthAll]⟩
    | cons a _ ih =>
      obtain ⟨l1, l2⟩ := a.lay
      refine ⟨by simp [PyData.canLayAll0, l1, ih.1], ?_⟩
      have := ih.2
      simp only [PyData.depthAll, l2]
      omega
  unfold SeqAt.shaped
  simp only [PyData.canLay0, PyData.depth, h1.1, Bool.true_and]
  have := h1.2
  exact decide_eq_true (by omega)
theorem scs_dp {K : PySem.W.Frag} {H : Hp} {xs : List V} {ds : List PyData} (h : Paired Sc xs ds) : DpAll K H xs ds := by
  induction h with
  | nil => exact .nil
  | cons a _ ih => exact .cons a.dp ih
theorem eqv_nil : ∀ ds : List PyData, PyData.eqv (.list ds) (.list []) = decide (ds = [])
  | [] => by simp [PyData.eqv, PyData.eqvAll]
  | d :: ds => by simp [PyData.eqv, PyData.eqvAll]
/-- tuples of whole numbers from 0 to m - 1, in whatever number -/
theorem all_from {m : Int} : ∀ {ds : List PyData}, ds.filter (fun d => !wholeB d 0 (m - 1)) = [] → ∃ ns : List Int, ds = ns.map .int ∧ ∀ x ∈ ns, 0 ≤ x ∧ x < m
  | [], _ => ⟨[], rfl, fun x hx => nomatch hx⟩
  | d :: ds, h => by
    have h1 : wholeB d 0 (m - 1) = true := by
      refine Classical.byContradiction fun n => ?_
      rw [List.filter_cons_of_pos (by simpa using n)] at h
      cases h
    rw [List.filter_cons_of_neg (by rw [h1]; simp)] at h
    obtain ⟨ns, rfl, hn⟩ := all_from h
    cases d with
    | int i =>
      have c2 : (decide (0 ≤ i) && decide (i ≤ m - 1)) = true := h1
      simp only [Bool.and_eq_true, decide_eq_true_eq] at c2
      refine ⟨i :: ns, rfl, fun x hx => ?_⟩
      rcases List.mem_cons.mp hx with rfl | hx
      · exact ⟨c2.1, by omega⟩
      · exact hn x hx
    | _ => exact absurd h1 (by simp [wholeB])
/-- of such: its sorted list is that of all places just where each place is there once -/
theorem sorted_all {ns us : List Int} {m : Int} (m0 : 0 ≤ m) (b : ∀ x ∈ ns, 0 ≤ x ∧ x < m) (pm : us.Perm ns) (pw : us.Pairwise (· ≤ ·)) : us = ((List.range m.toNat).map fun (i : Nat) => (i : Int)) ↔ ns.length = m.toNat ∧ ns.Nodup := by
  have rl : ((List.range m.toNat).map fun (i : Nat) => (i : Int)).length = m.toNat := by rw [List.length_map, List.length_range]
  have rn : ((List.range m.toNat).map fun (i : Nat) => (i : Int)).Nodup := List.pairwise_map.mpr (List.Pairwise.imp (fun {a b} h e => h (by omega)) (List.nodup_range (n := m.toNat)))
  have rs : ((List.range m.toNat).map fun (i : Nat) => (i : Int)).Pairwise (· ≤ ·) := List.pairwise_map.mpr (List.Pairwise.imp (fun {a b} h => by omega) (List.pairwise_lt_range (n := m.toNat)))
  constructor
  · intro e
    subst e
    exact ⟨by rw [← pm.length_eq, rl], pm.nodup_iff.mp rn⟩
  · rintro ⟨l, nd⟩
    have N : NmOk ns m := nmok_of m0 l b nd
    have sub : ∀ x, x ∈ us ↔ x ∈ ((List.range m.toNat).map fun (i : Nat) => (i : Int)) := fun x => by
      rw [pm.mem_iff, List.mem_map]
      constructor
      · intro hx
        have h := b x hx
        exact ⟨x.toNat, List.mem_range.mpr (by omega), by omega⟩
      · rintro ⟨i, hi, rfl⟩
        exact nm_all N (by omega) (by have := List.mem_range.mp hi; omega)
    have p2 : us.Perm ((List.range m.toNat).map fun (i : Nat) => (i : Int)) := (List.perm_ext_iff_of_nodup (pm.nodup_iff.mpr nd) rn).mpr fun x => sub x
    exact p2.eq_of_pairwise (le := fun a b : Int => a ≤ b) (fun a b _ _ h1 h2 => by omega) pw rs
theorem eqv_intl : ∀ u w : List Int, PyData.eqv (.list (u.map .int)) (.list (w.map .int)) = decide (u = w) := fun u w => by
  show PyData.eqvAll (u.map .int) (w.map .int) = _
  exact eqv_ints u w
theorem names_iff {ns : List Int} {m : Int} (m0 : 0 ≤ m) (b : ∀ x ∈ ns, 0 ≤ x ∧ x < m) : namesB (.tuple (ns.map .int)) m = decide (ns.length = m.toNat ∧ ns.Nodup) := by
  unfold namesB
  rw [ints_back]
  by_cases l : ns.length = m.toNat
  · have p : placesB (.tuple (ns.map .int)) (List.replicate m.toNat m) = true := by
      unfold placesB
      have a : allP (itemsD (.tuple (ns.map .int))) (List.replicate m.toNat m) = true := allP_all fun i d k h1 h2 => by
        have e : itemsD (.tuple (ns.map PyData.int)) = ns.map .int := rfl
        rw [e, List.getElem?_map] at h1
        obtain ⟨x, hx, rfl⟩ := Option.map_eq_some_iff.mp h1
        rw [List.getElem?_replicate] at h2
        split at h2
        · cases h2
          have z := b x (List.mem_of_getElem? hx)
          show (decide (0 ≤ x) && decide (x < m)) = true
          simp [z]
        · cases h2
      have e : (itemsD (.tuple (ns.map PyData.int))).length = (List.replicate m.toNat m).length := by
        show (ns.map PyData.int).length = _
        rw [List.length_map, List.length_replicate, l]
      rw [a, decide_eq_true e]
      rfl
    rw [p, Bool.true_and]
    exact decide_eq_decide.mpr ⟨fun z => ⟨l, z⟩, fun z => z.2⟩
  · have p : placesB (.tuple (ns.map .int)) (List.replicate m.toNat m) = false := by
      unfold placesB
      have e : ¬ (itemsD (.tuple (ns.map PyData.int))).length = (List.replicate m.toNat m).length := by
        show ¬ (ns.map PyData.int).length = _
        rw [List.length_map, List.length_replicate]
        exact l
      rw [decide_eq_false e]
      simp
    rw [p, Bool.false_and]
    exact (decide_eq_false fun z => l z.1).symm
theorem names_not {ds : List PyData} {m : Int} (h : ds.filter (fun d => !wholeB d 0 (m - 1)) ≠ []) : namesB (.tuple ds) m = false := by
  cases q : namesB (.tuple ds) m with
  | false => rfl
  | true =>
    unfold namesB at q
    rw [Bool.and_eq_true] at q
    obtain ⟨nm, e, _, b⟩ := places_ints q.1
    injection e with e
    subst e
    refine absurd (List.filter_eq_nil_iff.mpr fun d hd => ?_) h
    obtain ⟨x, hx, rfl⟩ := List.mem_map.mp hd
    have z := b x hx
    show ¬ (!(decide (0 ≤ x) && decide (x ≤ m - 1))) = true
    rw [decide_eq_true z.1, decide_eq_true (by omega : x ≤ m - 1)]
    simp
theorem whole_at {l : Lock} {k : Nat} {c : Bolt} (h : l[k]? = some c) : wholeB (.int (k : Nat)) 0 ((l.length : Int) - 1) = true := by
  have kl := (List.getElem?_eq_some_iff.mp h).1
  show (decide ((0 : Int) ≤ (k : Nat)) && decide (((k : Nat) : Int) ≤ (l.length : Int) - 1)) = true
  rw [decide_eq_true (by omega), decide_eq_true (by omega)]
  rfl
theorem sc_ints_eq : ∀ {xs : List V} {ns : List Int}, Paired Sc xs (ns.map .int) → xs = ns.map V.int
  | _, [], h => by
    cases h
    rfl
  | _, n :: ns, h => by
    cases h with
    | cons a r =>
      cases a
      rw [sc_ints_eq r]
      rfl
def spShufI (K : PySem.W.Frag) : Sp := fun vs H Q _ => ∃ (p c a : Addr) (T : Int) (ns : List Int), vs = [.ref p, .ref a] ∧ PenAt H p c T ∧ T ≤ 9000000 ∧ SqL K H a (ns.map V.int) ∧ ns.length ≤ 60 ∧
  ∀ (H' : Hp) (z : Addr) (us : List Int), Exx p H H' → PenAt H' p c (T + 60) → H z = none → H' z = some (.lst (us.map V.int)) → us.Perm ns → Q (.ref z) H'
def spNames (K : PySem.W.Frag) : Sp := fun vs H Q _ => ∃ (p c : Addr) (T : Int) (v u : V) (l : Lock) (d : PyData), vs = [.ref p, v, u] ∧ PenAt H p c T ∧ T ≤ 8000000 ∧ LockAt K H v l ∧ LockOk l ∧ Odd p H u d ∧
  ∀ H' z e, Exx p H H' → PenAt H' p c (T + 70) → Odd p H' z e → (itemsD e).length ≤ 6 → (∀ (k : Nat) (b : Bolt), d = .int (k : Nat) → l[k]? = some b → namesB e b.many = true → KnT H' z) → Q z H'
def spAreN (K : PySem.W.Frag) : Sp := fun vs H Q _ => ∃ (v : V) (p : Addr) (e : PyData) (m : Int), vs = [v, .int m] ∧ Odd p H v e ∧ (itemsD e).length ≤ 6 ∧ 2 ≤ m ∧ m ≤ 4 ∧ ∀ H', Evl.Ex H H' → Q (.bl (namesB e m)) H'
section
variable {P : Program} {w : World} {K : PySem.W.Frag} {mg : Str → Option Value} {base : Heap}
theorem ok_shufI {f f1 : Addr} {fd fd1 : FuncData} (F : Fun K "_law_shuffled" "_law_shuffled" sShuf f fd) (F1 : Fun K "_law_draw" "_law_draw" sDraw f1 fd1) (b1 : Binds K fd1 ["_law_pen_here", "_law_many_here"] []) (g1 : mg "_law_draw" = some (.ref f1)) (B : Bi mg) :
    FnOk P w K mg base CX0 2 f fd ["_law_pen_here", "_law_bag"] (spShufI K) := by
  have G1 : FnOk P w K mg base CX0 1 f1 fd1 ["_law_pen_here", "_law_many_here"] spDraw := ok_draw F1 B
  refine F.ok scShuf (fun vs H Q E h => ?_) (fun cdv A outer s H vs Q E hr h => ?_)
  · obtain ⟨p, c, a, T, ns, rfl, _⟩ := h; rfl
  · obtain ⟨p, c, a, T, ns, rfl, hp, T9, ha, x60, q⟩ := h
    refine ⟨_, pss_cons (ps_par (by rfl) scShuf.nd (i := 2) (j := 3) rfl rfl (by decide) rfl rfl (pa_cons (pe_callTy call_list_of (by rfl) B.list PyProof.Rows.boot_list (pa_cons (pv 1) pa_nil)) (pa_cons (pe_lst pa_nil) pa_nil)) (by rfl))
      (pss_cons (ps_while PassesOwn.never (pt_cmpR (op_neD hr.units) (pv 2) (pe_lst pa_nil) (nomark _))
        (pss_one (ps_expr (pe_bm PySem.F.plainAttrs_list PySem.F.slot_list_append PySem.F.type_list_append mt_append (pv 3)
          (pa_cons (pe_bm PySem.F.plainAttrs_list PySem.F.slot_list_pop PySem.F.type_list_pop mt_popAt (pv 2) (pa_cons (pe_call G1 hr (by rfl) g1 F1.kp b1 .nil pass0 (pa_cons (pv 0) (pa_cons (pe_callB call_len_seq (by rfl) B.len PySem.boot_len (pa_cons (pv 2) pa_nil)) pa_nil))) pa_nil)) pa_nil)))))
      (pss_one (ps_ret (pv 3)))), ?_⟩
    refine ⟨.ref a, rfl, a, ns.map V.int, rfl, .inl ha, fun l nl => ?_⟩
    have e1 := Evl.Ex.new (o := .lst (ns.map V.int)) nl
    have g1' : (upd H l (.lst (ns.map V.int))) l = some (.lst (ns.map V.int)) := upd_same
    have nlp : l ≠ p := hp.new1 nl
    have nlc : l ≠ c := hp.new2 nl
    have hp1 := hp.ex e1
    generalize upd H l (.lst (ns.map V.int)) = H1 at e1 g1' hp1
    refine ⟨Nat.zero_le _, fun z nz => ?_⟩
    have e2 := Evl.Ex.new (o := .lst []) nz
    have g2' : (upd H1 z (.lst [])) z = some (.lst []) := upd_same
    have nzp : z ≠ p := hp1.new1 nz
    have nzc : z ≠ c := hp1.new2 nz
    have nzl : z ≠ l := fun y => by rw [y, g1'] at nz; cases nz
    have nz0 : H z = none := Evl.fresh_back e1 nz
    have hp2 := hp1.ex e2
    generalize upd H1 z (.lst []) = H2 at e2 g2' hp2
    have e12 := e1.trans e2
    refine ⟨.ref l, .ref z, rfl, ?_⟩
    refine ⟨fun m σ H' => ∃ (lw fw : List Int), σ = [some (.ref p), some (.ref a), some (.ref l), some (.ref z)] ∧ lw.length = m ∧ H' l = some (.lst (lw.map V.int)) ∧ H' z = some (.lst (fw.map V.int)) ∧ (fw ++ lw).Perm ns ∧ Exx p H H' ∧ PenAt H' p c (T + (fw.length : Nat)),
      ⟨ns.length, ns, [], rfl, rfl, e2 _ _ g1', g2', List.Perm.refl _, Exx.ex e12, by simpa using hp2⟩, ?_⟩
    rintro m σ H3 ⟨lw, fw, rfl, lm, hl3, hz3, pm, x3, hp3⟩
    have tot : fw.length + lw.length = ns.length := by rw [← List.length_append]; exact pm.length_eq
    refine ⟨.ref l, rfl, Nat.zero_le _, fun e ne => ?_⟩
    have e4 := Evl.Ex.new (o := .lst []) ne
    have ge : (upd H3 e (.lst [])) e = some (.lst []) := upd_same
    generalize upd H3 e (.lst []) = H4 at e4 ge
    have hl4 := e4 _ _ hl3
    have hz4 := e4 _ _ hz3
    have hp4 := hp3.ex e4
    refine ⟨.list (lw.map .int), .list [], .lst (.inl (.inl hl4)) (dp_ints lw), .lst (.inl (.inl ge)) .nil, ints_shaped lw, (by decide), _, rfl, ?_⟩
    cases lw with
    | nil =>
      refine iteF ?_
      refine ⟨.ref z, rfl, ?_⟩
      rw [List.append_nil] at pm
      exact q H4 z fw (x3.trans (Exx.ex e4)) (hp4.mono (by omega)) nz0 hz4 pm
    | cons w0 lw' =>
      refine iteT ?_
      have lp : (w0 :: lw').length = lw'.length + 1 := rfl
      have lpm : ((w0 :: lw').map V.int).length = lw'.length + 1 := by rw [List.length_map]; rfl
      refine ⟨fun σ' H' => ∃ (lw2 fw2 : List Int), σ' = [some (.ref p), some (.ref a), some (.ref l), some (.ref z)] ∧ lw2.length + 1 = m ∧ H' l = some (.lst (lw2.map V.int)) ∧ H' z = some (.lst (fw2.map V.int)) ∧ (fw2 ++ lw2).Perm ns ∧ Exx p H H' ∧ PenAt H' p c (T + (fw2.length : Nat)), fun σ' H' h => ?_, ?_⟩
      · obtain ⟨lw2, fw2, a1, a2, rest⟩ := h
        exact ⟨m - 1, by omega, lw2, fw2, a1, by omega, rest⟩
      · refine ⟨.ref z, rfl, .inl ⟨rfl, _, SqL.of hz4⟩, .ref l, rfl, .inl ⟨rfl, _, SqL.of hl4⟩, .ref p, rfl, .ref l, rfl, l, _, rfl, .inl (SqL.of hl4), p, c, _, T + (fw.length : Nat), rfl, hp4, by rw [lpm]; omega, by rw [lpm]; omega, by omega, fun i H5 i0 i1 x5 hp5 => ?_⟩
        rw [lpm] at i1
        have hl5 := x5 _ _ nlp hl4
        have hz5 := x5 _ _ nzp hz4
        have il : i.toNat < (w0 :: lw').length := by omega
        obtain ⟨y, hy⟩ : ∃ y, (w0 :: lw')[i.toNat]? = some y := ⟨_, List.getElem?_eq_getElem il⟩
        refine ⟨l, _, i, i.toNat, .int y, rfl, rfl, hl5, by omega, by omega, seqIndex_of i0 (by rw [lpm]; omega), map_int_get hy, ?_⟩
        rw [erase_mapI]
        have hl6 : (upd H5 l (.lst (((w0 :: lw').eraseIdx i.toNat).map V.int))) l = some (.lst (((w0 :: lw').eraseIdx i.toNat).map V.int)) := upd_same
        have hz6 : (upd H5 l (.lst (((w0 :: lw').eraseIdx i.toNat).map V.int))) z = some (.lst (fw.map V.int)) := by rw [upd_ne nzl]; exact hz5
        have x6 : Exx p H (upd H5 l (.lst (((w0 :: lw').eraseIdx i.toNat).map V.int))) := (x3.trans ((Exx.ex e4).trans x5)).mut nl
        have hp6 := hp5.put (o := .lst (((w0 :: lw').eraseIdx i.toNat).map V.int)) nlp nlc
        generalize upd H5 l (.lst (((w0 :: lw').eraseIdx i.toNat).map V.int)) = H6 at hl6 hz6 x6 hp6
        refine ⟨z, _, .int y, rfl, rfl, hz6, Nat.lt_of_le_of_lt (by rw [List.length_map]; omega : (fw.map V.int).length ≤ 60) (by decide), ?_⟩
        refine ⟨(w0 :: lw').eraseIdx i.toNat, fw ++ [y], rfl, ?_, by rw [upd_ne (Ne.symm nzl)]; exact hl6, by rw [upd_same, List.map_append]; rfl, ?_, x6.mut nz0, ?_⟩
        · rw [List.length_eraseIdx, if_pos il]
          omega
        · refine List.Perm.trans ?_ pm
          rw [List.append_assoc]
          exact List.Perm.append_left fw (erase_perm hy)
        · refine (hp6.put (o := .lst (fw.map V.int ++ [.int y])) nzp nzc).mono ?_
          rw [List.length_append, List.length_singleton]
          omega

theorem ok_names {f f1 f2 f3 f4 : Addr} {fd fd1 fd2 fd3 fd4 : FuncData} (F : Fun K "_law_names" "_law_names" sNames f fd) (F1 : Fun K "_law_is_from" "_law_is_from" sFrom f1 fd1) (b1 : Binds K fd1 ["_law_thing", "_law_low", "_law_high"] []) (g1 : mg "_law_is_from" = some (.ref f1))
    (F2 : Fun K "_law_shuffled" "_law_shuffled" sShuf f2 fd2) (b2 : Binds K fd2 ["_law_pen_here", "_law_bag"] []) (g2 : mg "_law_shuffled" = some (.ref f2)) (F3 : Fun K "_law_pick" "_law_pick" sPick f3 fd3) (b3 : Binds K fd3 ["_law_pen_here", "_law_bag"] []) (g3 : mg "_law_pick" = some (.ref f3))
    (F4 : Fun K "_law_draw" "_law_draw" sDraw f4 fd4) (b4 : Binds K fd4 ["_law_pen_here", "_law_many_here"] []) (g4 : mg "_law_draw" = some (.ref f4)) (B : Bi mg) : FnOk P w K mg base CX0 3 f fd ["_law_pen_here", "_law_lock_here", "_law_k"] (spNames K) := by
  have G1 : FnOk P w K mg base CX0 1 f1 fd1 ["_law_thing", "_law_low", "_law_high"] (spFrom K) := ok_from F1 B
  have G2 : FnOk P w K mg base CX0 2 f2 fd2 ["_law_pen_here", "_law_bag"] (spShufI K) := ok_shufI F2 F4 b4 g4 B
  have G3 : FnOk P w K mg base CX0 2 f3 fd3 ["_law_pen_here", "_law_bag"] (spPick K) := ok_pick F3 F4 b4 g4 B
  refine F.ok scNames (fun vs H Q E h => ?_) (fun cdv A outer s H vs Q E hr h => ?_)
  · obtain ⟨p, c, T, v, u, l, d, rfl, _⟩ := h; rfl
  · obtain ⟨p, c, T, v, u, l, d, rfl, hp, T8, hv, ok, hu, q⟩ := h
    have hr1 : Room 1 _ := hr.mono (by decide)
    have hr2 : Room 2 _ := hr.mono (by decide)
    refine ⟨_, (Evl.pss_cut (ps_set (i := 3) scNames.nd rfl (.inl rfl) (pe_ifExp (pt_val (pe_call G1 hr1 (by rfl) g1 F1.kp b1 .nil pass0 (pa_cons (pv 2) (pa_cons pe_int (pa_cons (pe_op op_sub (pe_callB call_len_seq (by rfl) B.len PySem.boot_len (pa_cons (pv 1) pa_nil)) pe_int) pa_nil))))) (pe_ix (r := rIxT K) ix_tup (pe_ix (r := rIxT K) ix_tup (pv 1) (pv 2) (fun _ _ => rfl)) pe_int (fun _ _ => rfl)) pe_int))
 (pss_cons (ps_set (i := 4) scNames.nd rfl (.inl rfl) (pe_callTy (r := rTupF K) call_tupF (by rfl) B.tuple PyProof.Rows.boot_tuple (pa_cons (pe_call G2 hr2 (by rfl) g2 F2.kp b2 .nil pass0 (pa_cons (pv 0) (pa_cons (pe_listRg rfl (by rfl) B.list (prg_1 (by rfl) B.range (pv 3))) pa_nil))) pa_nil)))
 (pss_cons (ps_set (i := 5) scNames.nd rfl (.inl rfl) (pe_lst (pa_cons (pe_slice (r := rSlA K) sl_tupA (pv 4) (po_some pe_int) po_none) (pa_cons (pe_op (r := rCatA K) op_catA (pv 4) (pe_tup (pa_cons (pv 3) pa_nil))) (pa_cons (pe_op (r := rCatA K) op_catA (pe_slice (r := rSlA K) sl_tupA (pv 4) po_none (po_some pe_int)) (pe_slice (r := rSlA K) sl_tupA (pv 4) po_none (po_some (pe_un un_neg pe_int)))) (pa_cons (pe_callTy call_list_of (by rfl) B.list PyProof.Rows.boot_list (pa_cons (pv 4) pa_nil)) (pa_cons pe_non (pa_cons pe_int (pa_cons (pe_op (r := rCatA K) op_catA (pe_tup (pa_cons pe_bl pa_nil)) (pe_slice (r := rSlA K) sl_tupA (pv 4) (po_some pe_int) po_none)) pa_nil)))))))))
 (pss_cons (ps_expr (pe_bm PySem.F.plainAttrs_list PySem.F.slot_list_append PySem.F.type_list_append mt_append (pv 5) (pa_cons (pe_op (r := rRepT K) op_repT (pe_tup (pa_cons pe_non pa_nil)) (pv 3)) pa_nil)))
 (pss_one (ps_ret (pe_call G3 hr2 (by rfl) g3 F3.kp b3 .nil pass0 (pa_cons (pv 0) (pa_cons (pe_lst (pa_cons (pv 4) (pa_cons (pv 4) (pa_cons (pv 4) (pa_cons (pv 4) (pa_cons (pe_tupRgF rfl (by rfl) B.tuple (prg_1 (by rfl) B.range (pv 3))) (pa_cons (pe_call G3 hr2 (by rfl) g3 F3.kp b3 .nil pass0 (pa_cons (pv 0) (pa_cons (pv 5) pa_nil))) pa_nil))))))) pa_nil))))))))), ?_⟩
    refine ⟨fun σ' H' => ∃ cnt : Int, σ' = [some (.ref p), some v, some u, some (.int cnt), none, none] ∧ H = H' ∧ 2 ≤ cnt ∧ cnt ≤ 4 ∧ ∀ (k : Nat) (b : Bolt), d = .int (k : Nat) → l[k]? = some b → b.many = cnt, ?_, ?_⟩
    · obtain ⟨a, bs, rfl, ha, hbs⟩ := hv
      have bl : bs.length = l.length := Paired.len hbs
      refine ⟨u, rfl, .ref a, rfl, a, bs, rfl, .inr ha, (bs.length : Nat), 1, rfl, rfl, ?_⟩
      refine ⟨u, d, 0, _, rfl, hu.th, ?_⟩
      rw [bl]
      refine ⟨_, rfl, ?_⟩
      refine ite2 (fun hw => ?_) (fun hw => ⟨2, rfl, rfl, by decide, by decide, fun k b hd hb => absurd (by rw [hd]; exact whole_at hb) hw⟩)
      obtain ⟨k, rfl, rfl, kl⟩ : ∃ k : Nat, d = .int (k : Nat) ∧ u = .int (k : Nat) ∧ k < l.length := by
        have ht := hu.th (K := K)
        cases d with
        | int i =>
          cases ht
          have c2 : (decide (0 ≤ i) && decide (i ≤ (l.length : Int) - 1)) = true := hw
          simp only [Bool.and_eq_true, decide_eq_true_eq] at c2
          refine ⟨i.toNat, ?_, ?_, by omega⟩ <;> rw [Int.toNat_of_nonneg c2.1]
        | _ => exact absurd hw (by simp [wholeB])
      obtain ⟨b, hb⟩ : ∃ b, l[k]? = some b := ⟨_, List.getElem?_eq_getElem kl⟩
      obtain ⟨bv, hbv, ⟨a1, c1, gs, rfl, h1, h2, h3⟩⟩ := Paired.get2 hbs hb
      have BO := ok.bolts k b hb
      refine ⟨.ref a, rfl, .int (k : Nat), rfl, a, bs, (k : Nat), .ref a1, rfl, rfl, ha, atI_nat hbv, ?_⟩
      refine ⟨a1, _, 0, .int b.many, rfl, rfl, h1, atI_nat (j := 0) rfl, ?_⟩
      refine ⟨b.many, rfl, rfl, BO.m0, BO.m1, fun k2 b2 hd hb2 => ?_⟩
      injection hd with hd
      have ek : k = k2 := by omega
      subst ek
      rw [hb] at hb2
      cases hb2
      rfl
    rintro σ' H' ⟨cnt, rfl, rfl, c2, c4, hcnt⟩
    -- the places in some order
    refine ⟨.ref p, rfl, .int cnt, rfl, cnt, rfl, RgOk.of_le (by decide) (by omega) (by decide) (by omega), fun rl nrl => ?_⟩
    rw [rg_ints]
    generalize ens : ((List.range cnt.toNat).map fun (i : Nat) => (i : Int)) = ns
    have nl : ns.length = cnt.toNat := by rw [← ens, List.length_map, List.length_range]
    have e1 := Evl.Ex.new (o := .lst (ns.map V.int)) nrl
    have grl : (upd H rl (.lst (ns.map V.int))) rl = some (.lst (ns.map V.int)) := upd_same
    have hp1 := hp.ex e1
    generalize upd H rl (.lst (ns.map V.int)) = H1 at e1 grl hp1
    refine ⟨p, c, rl, T, ns, rfl, hp1, by omega, SqL.of grl, by omega, fun H2 z us x2 hp2 nz hz pm => ?_⟩
    have ul : us.length = cnt.toNat := by rw [pm.length_eq, nl]
    have x02 : Exx p H H2 := (Exx.ex e1).trans x2
    refine ⟨z, _, rfl, SqL.of hz, fun t ot nt oc od => ?_⟩
    have e3 := Evl.Ex.new (o := .frz ot (.tup (us.map V.int))) nt
    have gt : (upd H2 t (.frz ot (.tup (us.map V.int)))) t = some (.frz ot (.tup (us.map V.int))) := upd_same
    have hp3 := hp2.ex e3
    generalize upd H2 t (.frz ot (.tup (us.map V.int))) = H3 at e3 gt hp3
    have gtR : Rd H3 t (.tup (us.map V.int)) := .inr ⟨ot, gt⟩
    have x03 : Exx p H H3 := x02.trans (Exx.ex e3)
    -- odd ones
    refine ⟨.ref t, rfl, 1, rfl, ?_⟩
    refine nopart1 ?_
    refine sl_rd (K := K) (lo := some 1) (hi := none) gtR fun H4 z4 e4 s4 => ?_
    obtain ⟨u4, q4, l4⟩ := cut_ints us (some 1) none
    rw [q4] at s4
    have u4l : u4.length = us.length - 1 := by
      have h := congrArg List.length q4
      rw [List.length_map, show (some (1 : Int)) = some ((1 : Nat) : Int) from rfl, cut_drop (us.map V.int) (k := 1) (by rw [List.length_map]; omega), List.length_drop, List.length_map] at h
      omega
    have e34 := e4
    refine ⟨.ref t, rfl, .int cnt, rfl, (by show 1 ≤ sizeLine; decide), fun t5 nt5 => ?_⟩
    have e5 := Evl.Ex.new (o := .tup [.int cnt]) nt5
    have g5 : (upd H4 t5 (.tup [.int cnt])) t5 = some (.tup [.int cnt]) := upd_same
    generalize upd H4 t5 (.tup [.int cnt]) = H5 at e5 g5
    have e35 := e34.trans e5
    refine cat_rd (K := K) (rd_ex e35 gtR) (.inl g5) (Nat.le_trans (by rw [List.length_map, List.length_singleton]; omega : (us.map V.int).length + [V.int cnt].length ≤ 5) (by decide)) fun H6 z6 e6 s6 => ?_
    have q6 : us.map V.int ++ [V.int cnt] = (us ++ [cnt]).map V.int := by rw [List.map_append]; rfl
    rw [q6] at s6
    have e36 := e35.trans e6
    refine ⟨.ref t, rfl, 1, rfl, ?_⟩
    refine sl_rd (K := K) (lo := none) (hi := some 1) (rd_ex e36 gtR) fun H7 z7 e7 s7 => ?_
    obtain ⟨n7, q7⟩ := cut_pre us (some 1)
    rw [q7] at s7
    have e37 := e36.trans e7
    refine ⟨.ref t, rfl, 1, rfl, -1, rfl, ?_⟩
    refine sl_rd (K := K) (lo := none) (hi := some (-1)) (rd_ex e37 gtR) fun H8 z8 e8 s8 => ?_
    obtain ⟨n8, q8⟩ := cut_pre us (some (-1))
    rw [q8] at s8
    have e38 := e37.trans e8
    have u7l : (us.take n7).length = 1 := by
      have h := congrArg List.length q7
      rw [List.length_map, show (some (1 : Int)) = some ((1 : Nat) : Int) from rfl, cut_take, List.length_take] at h
      simp only [List.length_map, List.length_take] at h ⊢
      omega
    refine cat_rd (K := K) (rd_ex e8 s7) s8 (Nat.le_trans (by rw [List.length_map, List.length_map, List.length_take, List.length_take]; omega : ((us.take n7).map V.int).length + ((us.take n8).map V.int).length ≤ 10) (by decide)) fun H9 z9 e9 s9 => ?_
    rw [← List.map_append] at s9
    have e39 := e38.trans e9
    refine ⟨.ref t, rfl, t, _, rfl, .inr (.inl (rd_ex e39 gtR)), fun ll nll => ?_⟩
    have e10 := Evl.Ex.new (o := .lst (us.map V.int)) nll
    have gll : (upd H9 ll (.lst (us.map V.int))) ll = some (.lst (us.map V.int)) := upd_same
    have hp9 := hp3.ex e39
    have nllp : ll ≠ p := hp9.new1 nll
    generalize upd H9 ll (.lst (us.map V.int)) = H10 at e10 gll
    have e310 := e39.trans e10
    refine ⟨(by show 1 ≤ sizeLine; decide), fun t11 nt11 => ?_⟩
    have e11 := Evl.Ex.new (o := .tup [.bl true]) nt11
    have g11 : (upd H10 t11 (.tup [.bl true])) t11 = some (.tup [.bl true]) := upd_same
    generalize upd H10 t11 (.tup [.bl true]) = H11 at e11 g11
    have e311 := e310.trans e11
    refine ⟨.ref t, rfl, 1, rfl, ?_⟩
    refine nopart1 ?_
    refine sl_rd (K := K) (lo := some 1) (hi := none) (rd_ex e311 gtR) fun H12 z12 e12 s12 => ?_
    rw [q4] at s12
    have e312 := e311.trans e12
    refine cat_rd (K := K) (.inl (e12 _ _ g11)) s12 (Nat.le_trans (by rw [List.length_map, List.length_singleton]; omega : [V.bl true].length + (u4.map V.int).length ≤ 10) (by decide)) fun H13 z13 e13 s13 => ?_
    have e313 := e312.trans e13
    refine ⟨(by show 7 ≤ sizeLine; decide), fun lo nlo => ?_⟩
    have e14 := Evl.Ex.new (o := .lst [.ref z4, .ref z6, .ref z9, .ref ll, .non, .int 0, .ref z13]) nlo
    have glo : (upd H13 lo (.lst [.ref z4, .ref z6, .ref z9, .ref ll, .non, .int 0, .ref z13])) lo = some (.lst [.ref z4, .ref z6, .ref z9, .ref ll, .non, .int 0, .ref z13]) := upd_same
    have hp13 := hp3.ex e313
    have nlop : lo ≠ p := hp13.new1 nlo
    have nloc : lo ≠ c := hp13.new2 nlo
    have hp14 := hp13.ex e14
    have few7 : ∀ x ∈ [V.ref z4, .ref z6, .ref z9, .ref ll, .non, .int 0, .ref z13], Few cnt p H13 x := by
      intro x hx
      simp only [List.mem_cons, List.not_mem_nil, or_false] at hx
      rcases hx with rfl | rfl | rfl | rfl | rfl | rfl | rfl
      · refine few_bad (rd_ex (e5.trans (e6.trans (e7.trans (e8.trans (e9.trans (e10.trans (e11.trans (e12.trans e13)))))))) s4) (by omega) fun h => ?_
        have := h.1
        omega
      · refine few_bad (rd_ex (e7.trans (e8.trans (e9.trans (e10.trans (e11.trans (e12.trans e13)))))) s6) (by rw [List.length_append, List.length_singleton]; omega) fun h => ?_
        have := h.1
        rw [List.length_append, List.length_singleton] at this
        omega
      · refine few_bad (rd_ex (e10.trans (e11.trans (e12.trans e13))) s9) (by rw [List.length_append, u7l, List.length_take]; omega) fun h => ?_
        have h1 := h.1
        rw [List.length_append] at h1
        rw [List.length_take] at u7l
        have h2 := h.2
        match us, ul with
        | [], z => simp at z; omega
        | x0 :: us', z =>
          have p7 : 0 < n7 := by
            refine Nat.pos_of_ne_zero fun y => ?_
            rw [y] at u7l
            simp at u7l
          have p8 : 0 < n8 := by
            refine Nat.pos_of_ne_zero fun y => ?_
            rw [y, List.take_zero, List.length_nil, List.length_take] at h1
            omega
          obtain ⟨m7, rfl⟩ : ∃ m, n7 = m + 1 := ⟨n7 - 1, by omega⟩
          obtain ⟨m8, rfl⟩ : ∃ m, n8 = m + 1 := ⟨n8 - 1, by omega⟩
          rw [List.take_succ_cons, List.take_succ_cons, List.cons_append] at h2
          exact (List.nodup_cons.mp h2).1 (List.mem_append_right _ List.mem_cons_self)
      · exact ⟨.list (us.map .int), .inr (.inr ⟨ll, _, _, rfl, nllp, rfl, (e11.trans (e12.trans e13)) _ _ gll, sc_ints us⟩), Nat.zero_le _, fun z => by simp [namesB, placesB, isTup] at z⟩
      · exact few_sc .non
      · exact few_sc (.int 0)
      · exact few_tup s13 (.cons (.bl true) (sc_ints u4)) (by rw [List.length_map]; omega) (fun i h => nomatch h)
    have few14 : ∀ x ∈ [V.ref z4, .ref z6, .ref z9, .ref ll, .non, .int 0, .ref z13], Few cnt p (upd H13 lo (.lst [.ref z4, .ref z6, .ref z9, .ref ll, .non, .int 0, .ref z13])) x := fun x hx => (few7 x hx).ex hp13 e14
    generalize upd H13 lo (.lst [.ref z4, .ref z6, .ref z9, .ref ll, .non, .int 0, .ref z13]) = H14 at e14 glo hp14 few14
    have e314 := e313.trans e14
    -- the last odd one
    refine ⟨.ref lo, rfl, .inl ⟨rfl, _, SqL.of glo⟩, (by show 1 ≤ sizeLine; decide), fun t15 nt15 => ?_⟩
    have e15 := Evl.Ex.new (o := .tup [.non]) nt15
    have g15 : (upd H14 t15 (.tup [.non])) t15 = some (.tup [.non]) := upd_same
    generalize upd H14 t15 (.tup [.non]) = H15 at e15 g15
    refine ⟨.int cnt, rfl, t15, cnt, _, rfl, rfl, .inl (.inl g15), (by simp), c2, by omega, (by decide), fun t16 nt16 => ?_⟩
    have er : (List.replicate cnt.toNat [V.non]).flatten = List.replicate cnt.toNat V.non := by
      generalize cnt.toNat = j
      induction j with
      | zero => rfl
      | succ j ih => rw [List.replicate_succ, List.flatten_cons, ih, List.replicate_succ]; rfl
    rw [er]
    have e16 := Evl.Ex.new (o := .tup (List.replicate cnt.toNat V.non)) nt16
    have g16 : (upd H15 t16 (.tup (List.replicate cnt.toNat V.non))) t16 = some (.tup (List.replicate cnt.toNat V.non)) := upd_same
    generalize upd H15 t16 (.tup (List.replicate cnt.toNat V.non)) = H16 at e16 g16
    have e1416 := e15.trans e16
    have glo16 := e1416 _ _ glo
    have hp16 := hp14.ex e1416
    refine ⟨lo, _, _, rfl, rfl, glo16, Nat.lt_of_le_of_lt (show 7 ≤ 7 by decide) (by decide), ?_⟩
    have scn : Paired Sc (List.replicate cnt.toNat V.non) (List.replicate cnt.toNat PyData.none) := by
      generalize cnt.toNat = j
      induction j with
      | zero => exact .nil
      | succ j ih => exact .cons .non ih
    have ntl : t16 ≠ lo := fun z => by
      rw [z, e15 _ _ glo] at nt16
      cases nt16
    have e1317 : Evl.Ex H13 (upd H16 lo (.lst ([V.ref z4, .ref z6, .ref z9, .ref ll, .non, .int 0, .ref z13] ++ [V.ref t16]))) := (e14.trans e1416).mut nlo
    have glo17 : (upd H16 lo (.lst ([V.ref z4, .ref z6, .ref z9, .ref ll, .non, .int 0, .ref z13] ++ [V.ref t16]))) lo = some (.lst ([V.ref z4, .ref z6, .ref z9, .ref ll, .non, .int 0, .ref z13] ++ [V.ref t16])) := upd_same
    have g17 : (upd H16 lo (.lst ([V.ref z4, .ref z6, .ref z9, .ref ll, .non, .int 0, .ref z13] ++ [V.ref t16]))) t16 = some (.tup (List.replicate cnt.toNat V.non)) := by rw [upd_ne ntl]; exact g16
    generalize upd H16 lo (.lst ([V.ref z4, .ref z6, .ref z9, .ref ll, .non, .int 0, .ref z13] ++ [V.ref t16])) = H17 at e1317 glo17 g17
    have hp17 := hp13.ex e1317
    have few8 : ∀ x ∈ [V.ref z4, .ref z6, .ref z9, .ref ll, .non, .int 0, .ref z13] ++ [V.ref t16], Few cnt p H17 x := by
      intro x hx
      rcases List.mem_append.mp hx with h | h
      · exact (few7 x h).ex hp13 e1317
      · rw [List.mem_singleton.mp h]
        obtain ⟨c1, hc1⟩ : ∃ c1, cnt.toNat = c1 + 1 := ⟨cnt.toNat - 1, by omega⟩
        rw [hc1, List.replicate_succ, List.replicate_succ] at scn
        rw [hc1, List.replicate_succ] at g17
        exact few_tup (.inl g17) scn (by rw [List.length_replicate]; omega) (fun i h => nomatch h)
    have x017 : Exx p H H17 := x03.trans (Exx.ex (e313.trans e1317))
    have gt17 := (e313.trans e1317) _ _ gt
    -- the names: in order, mostly, or an odd one
    refine ⟨.ref p, rfl, .ref t, rfl, .ref t, rfl, .ref t, rfl, .ref t, rfl, .int cnt, rfl, cnt, rfl, RgOk.of_le (by decide) (by omega) (by decide) (by omega), fun tr otr ntr orc ord => ?_⟩
    rw [rg_ints, ens]
    have e18 := Evl.Ex.new (o := .frz otr (.tup (ns.map V.int))) ntr
    have gtr : (upd H17 tr (.frz otr (.tup (ns.map V.int)))) tr = some (.frz otr (.tup (ns.map V.int))) := upd_same
    generalize upd H17 tr (.frz otr (.tup (ns.map V.int))) = H18 at e18 gtr
    have hp18 := hp17.ex e18
    refine ⟨.ref p, rfl, .ref lo, rfl, p, c, lo, _, _, rfl, hp18, by omega, SqL.of (e18 _ _ glo17), nlop, by simp, by show 8 ≤ 1000000; decide, fun y H19 hy x19 hp19 => ?_⟩
    have fy : Few cnt p H19 y := ((few8 y hy).ex hp17 e18).exx hp18 x19
    have ft : Few cnt p H19 (.ref t) := (few_known (e18 _ _ gt17) oc od (by omega)).exx hp18 x19
    have fr : Few cnt p H19 (.ref tr) := (few_known gtr orc ord (by omega)).exx hp18 x19
    refine ⟨(by show 6 ≤ sizeLine; decide), fun lf nlf => ?_⟩
    have e20 := Evl.Ex.new (o := .lst [.ref t, .ref t, .ref t, .ref t, .ref tr, y]) nlf
    have glf : (upd H19 lf (.lst [.ref t, .ref t, .ref t, .ref t, .ref tr, y])) lf = some (.lst [.ref t, .ref t, .ref t, .ref t, .ref tr, y]) := upd_same
    have hp20 := hp19.ex e20
    have nlfp : lf ≠ p := hp19.new1 nlf
    generalize upd H19 lf (.lst [.ref t, .ref t, .ref t, .ref t, .ref tr, y]) = H20 at e20 glf hp20
    refine ⟨p, c, lf, _, _, rfl, hp20, by omega, SqL.of glf, nlfp, by simp, by show 6 ≤ 1000000; decide, fun y2 H21 hy2 x21 hp21 => ?_⟩
    have f2 : Few cnt p H21 y2 := by
      have h : Few cnt p H19 y2 := by
        simp only [List.mem_cons, List.not_mem_nil, or_false] at hy2
        rcases hy2 with rfl | rfl | rfl | rfl | rfl | rfl
        · exact ft
        · exact ft
        · exact ft
        · exact ft
        · exact fr
        · exact fy
      exact (h.ex hp19 e20).exx hp20 x21
    obtain ⟨e, h1, h2, h3⟩ := f2
    exact q H21 y2 e (x017.trans ((Exx.ex e18).trans (x19.trans ((Exx.ex e20).trans x21)))) (hp21.mono (by omega)) h1 h2 (fun k b hd hb z => h3 (by rw [← hcnt k b hd hb]; exact z))
theorem ok_areN {f f1 : Addr} {fd fd1 : FuncData} (F : Fun K "_law_are_names" "_law_are_names" sAreN f fd) (F1 : Fun K "_law_is_from" "_law_is_from" sFrom f1 fd1) (b1 : Binds K fd1 ["_law_thing", "_law_low", "_law_high"] []) (g1 : mg "_law_is_from" = some (.ref f1)) (B : Bi mg) :
    FnOk P w K mg base CX0 2 f fd ["_law_thing", "_law_count"] (spAreN K) := by
  have G1 : FnOk P w K mg base CX0 1 f1 fd1 ["_law_thing", "_law_low", "_law_high"] (spFrom K) := ok_from F1 B
  refine F.ok scAreN (fun vs H Q E h => ?_) (fun cdv A outer s H vs Q E hr h => ?_)
  · obtain ⟨v, p, e, m, rfl, _⟩ := h; rfl
  · obtain ⟨v, p, e, m, rfl, hv, hl, m0, m1, q⟩ := h
    refine ⟨_, (pss_cons (ps_if (PW.pt (pw_or (pt_not (pt_val (pe_callB call_isi (by rfl) B.isi boot_isinstance (pa_cons (pv 0) (pa_cons (pe_bltn (v := .ty "tuple") (by rfl) B.tuple (by decide +kernel) rfl) pa_nil))))) (pw_or1 (pt_cmpR (op_neD hr.units) (pe_lc (own := [("_law_one", 2)]) (g := gName 2) rfl scAreN.nd (pi_tup (pv 0)) (blkOk_by (own := [("_law_one", 2)]) (N := nAreN) (sc := defScope sAreN) (by decide +kernel)) (fun _ _ _ _ _ => (pg_name (i := 2) scAreN.nd rfl (.inl rfl))) (fun _ _ _ _ _ => (pts_one (pt_not (pt_val (pe_call G1 hr (by rfl) g1 F1.kp b1 .nil pass0 (pa_cons (pv 2) (pa_cons pe_int (pa_cons (pe_op op_sub (pv 1) pe_int) pa_nil)))))))) (fun _ _ _ _ _ => (pv 2))) (pe_lst pa_nil) (nomark _)))))
 (pss_one (ps_ret pe_bl))
 pss_nil)
 (pss_one (ps_ret (pe_cmpR (op_eqD hr.units) (pe_callB (r := rSortIT K) cr_sortIT (by rfl) B.sorted boot_sorted (pa_cons (pv 0) pa_nil)) (pe_listRg rfl (by rfl) B.list (prg_1 (by rfl) B.range (pv 1))) (nomark _))))), ?_⟩
    have ht := hv.th (K := K)
    refine ⟨v, rfl, v, .ty "tuple", .type (tyS e), .type "tuple", isTup e, rfl, .ty _, ht.ty, kit_ty (kit_tup e), isTup e, rfl, ?_⟩
    refine ite2 (fun hn => ?_) (fun hn => ?_)
    · refine ite2 (fun _ => ?_) (fun z => absurd rfl z)
      rw [Bool.not_eq_true'] at hn
      have z : namesB e m = false := by
        unfold namesB placesB
        rw [hn]
        rfl
      rw [z] at q
      exact q H (Evl.Ex.refl H)
    · rw [Bool.not_eq_true', Bool.not_eq_false] at hn
      obtain ⟨a, xs, ds, rfl, rfl, ha, hs⟩ : ∃ a xs ds, v = .ref a ∧ e = .tuple ds ∧ Rd H a (.tup xs) ∧ Paired Sc xs ds := by
        rcases hv with h | h | ⟨a, xs, ds, rfl, _, rfl, _⟩
        · cases h <;> exact absurd hn (by simp [isTup])
        · exact h
        · exact absurd hn (by simp [isTup])
      have dl : ds.length ≤ 6 := hl
      have xl : xs.length = ds.length := Paired.len hs
      refine ⟨.ref a, rfl, a, rfl, ⟨xs, .inl ha⟩, fun D0 hD => ?_⟩
      refine lc_tup (K := K) (a := a) (xs := xs) (fun i H' => ∃ vvs : List V, Evl.Ex H H' ∧ H' D0 = some (.lst vvs) ∧ Paired Sc vvs ((ds.take i).filter fun d => !wholeB d 0 (m - 1))) ⟨[], Evl.Ex.new hD, upd_same, .nil⟩ ?_ ?_ ?_
      · rintro i H1 _ ⟨_, e1, _⟩
        exact .inl (rd_ex e1 ha)
      · rintro i x H1 hx ⟨vvs, e1, hD1, hvv⟩
        obtain ⟨d, hd, hsc⟩ := Paired.get1 hs hx
        have il := (List.getElem?_eq_some_iff.mp hd).1
        refine ⟨rfl, x, rfl, .int m, rfl, m, 1, rfl, rfl, x, d, 0, m - 1, rfl, hsc.th, _, rfl, ?_⟩
        have vl : vvs.length ≤ 6 := by
          rw [Paired.len hvv]
          exact Nat.le_trans (List.length_filter_le _ _) (by rw [List.length_take]; omega)
        refine ite2 (fun hw => ?_) (fun hw => ?_)
        · refine ⟨x, rfl, vvs, hD1, Nat.lt_of_le_of_lt vl (by decide), vvs ++ [x], e1.mut hD, upd_same, ?_⟩
          have f1 : [d].filter (fun d => !wholeB d 0 (m - 1)) = [d] := by
            rw [List.filter_cons]
            exact if_pos hw
          rw [take_succ_get hd, List.filter_append, f1]
          exact paired_app1 hvv hsc
        · refine ⟨vvs, e1, hD1, ?_⟩
          have f1 : [d].filter (fun d => !wholeB d 0 (m - 1)) = [] := by
            rw [List.filter_cons]
            exact if_neg hw
          rw [take_succ_get hd, List.filter_append, f1, List.append_nil]
          exact hvv
      · rintro H1 ⟨vvs, e1, hD1, hvv⟩
        rw [xl, List.take_length] at hvv
        refine ⟨Nat.zero_le _, fun el nel => ?_⟩
        have e2 := Evl.Ex.new (o := .lst []) nel
        have gel : (upd H1 el (.lst [])) el = some (.lst []) := upd_same
        generalize upd H1 el (.lst []) = H2 at e2 gel
        refine ⟨.list _, .list [], .lst (.inl (.inl (e2 _ _ hD1))) (scs_dp hvv), .lst (.inl (.inl gel)) .nil, scs_shaped hvv, (by decide), _, rfl, ?_⟩
        rw [eqv_nil]
        refine ite2 (fun hc => ?_) (fun hc => ?_)
        · rw [names_not (by simpa using hc)] at q
          exact q H2 (e1.trans e2)
        · have fn : ds.filter (fun d => !wholeB d 0 (m - 1)) = [] := by simpa using hc
          obtain ⟨ns, rfl, nb⟩ := all_from fn
          have hx : xs = ns.map V.int := sc_ints_eq hs
          rw [hx] at ha
          refine ⟨.ref a, rfl, a, ns, rfl, .inl (rd_ex (e1.trans e2) ha), fun us p3 pm pw np3 => ?_⟩
          have e3 := Evl.Ex.new (o := .lst (us.map V.int)) np3
          have g3 : (upd H2 p3 (.lst (us.map V.int))) p3 = some (.lst (us.map V.int)) := upd_same
          generalize upd H2 p3 (.lst (us.map V.int)) = H3 at e3 g3
          refine ⟨.int m, rfl, m, rfl, RgOk.of_le (by decide) (by omega) (by decide) (by omega), fun p4 np4 => ?_⟩
          rw [rg_ints]
          generalize ew : ((List.range m.toNat).map fun (i : Nat) => (i : Int)) = ws
          have e4 := Evl.Ex.new (o := .lst (ws.map V.int)) np4
          have g4 : (upd H3 p4 (.lst (ws.map V.int))) p4 = some (.lst (ws.map V.int)) := upd_same
          generalize upd H3 p4 (.lst (ws.map V.int)) = H4 at e4 g4
          refine ⟨.list (us.map .int), .list (ws.map .int), .lst (.inl (.inl (e4 _ _ g3))) (dp_ints us), .lst (.inl (.inl g4)) (dp_ints ws), ints_shaped us, ints_shaped ws, ?_⟩
          rw [eqv_intl]
          have so := sorted_all (by omega) nb pm pw
          rw [ew] at so
          have zz : namesB (.tuple (ns.map .int)) m = decide (us = ws) := by
            rw [names_iff (by omega) nb]
            exact decide_eq_decide.mpr so.symm
          rw [zz] at q
          exact q H4 (e1.trans (e2.trans (e3.trans e4)))
end
end Wb

set_option Elab.async false
set_option linter.all false
set_option maxRecDepth 100000
set_option maxHeartbeats 8000000
set_option pp.maxSteps 900
set_option pp.deepTerms false
namespace Wb
open PySem PySem.Spec PyProof.Rows L2 LamX
abbrev sLaw : Stmt := topS 53
abbrev nLaw : List Str := ["_law_script", "_law_pen_here", "_law_bout", "_law_lock_here", "_law_turn", "_law_odd", "_law_k", "_law_names_here", "_law_kept", "_law_due", "_law_word", "_law_found", "_law_there", "_law_steps_due", "_law_n", "_law_goal", "_law_price_here", "_law_back_names", "_law_place"]
theorem scLaw : FnScope nLaw ["_law_script"] (defScope sLaw) := ⟨rfl, rfl, rfl, by decide +kernel, rfl, by decide +kernel, by decide +kernel⟩

abbrev lamQ : Str := (("law" : Str) ++ ".<locals>.") ++ "<lambda>"
structure Ld (K : PySem.W.Frag) (mg : Str → Option Value) where
  f31 : Addr
  d31 : FuncData
  F31 : Fun K "need_bolt" "need_bolt" sNeedB f31 d31
  b31 : Binds K d31 ["lock", "thing"] []
  g31 : mg "need_bolt" = some (.ref f31)
  f32 : Addr
  d32 : FuncData
  F32 : Fun K "told_lock" "told_lock" sTold f32 d32
  b32 : Binds K d32 ["lock"] []
  g32 : mg "told_lock" = some (.ref f32)
  f33 : Addr
  d33 : FuncData
  F33 : Fun K "renamed" "renamed" sRen f33 d33
  b33 : Binds K d33 ["lock", "k", "names"] []
  g33 : mg "renamed" = some (.ref f33)
  f34 : Addr
  d34 : FuncData
  F34 : Fun K "bolt_renamed" "bolt_renamed" sBRen f34 d34
  b34 : Binds K d34 ["bolt", "k", "names"] []
  g34 : mg "bolt_renamed" = some (.ref f34)
  f36 : Addr
  d36 : FuncData
  F36 : Fun K "_law_pen" "_law_pen" sPen f36 d36
  b36 : Binds K d36 ["_law_script"] []
  g36 : mg "_law_pen" = some (.ref f36)
  f37 : Addr
  d37 : FuncData
  F37 : Fun K "_law_draw" "_law_draw" sDraw f37 d37
  b37 : Binds K d37 ["_law_pen_here", "_law_many_here"] []
  g37 : mg "_law_draw" = some (.ref f37)
  f38 : Addr
  d38 : FuncData
  F38 : Fun K "_law_pick" "_law_pick" sPick f38 d38
  b38 : Binds K d38 ["_law_pen_here", "_law_bag"] []
  g38 : mg "_law_pick" = some (.ref f38)
  f39 : Addr
  d39 : FuncData
  F39 : Fun K "_law_shuffled" "_law_shuffled" sShuf f39 d39
  b39 : Binds K d39 ["_law_pen_here", "_law_bag"] []
  g39 : mg "_law_shuffled" = some (.ref f39)
  f40 : Addr
  d40 : FuncData
  F40 : Fun K "_law_price" "_law_price" sPrc f40 d40
  b40 : Binds K d40 ["_law_pen_here", "_law_dear"] []
  g40 : mg "_law_price" = some (.ref f40)
  f41 : Addr
  d41 : FuncData
  F41 : Fun K "_law_bases" "_law_bases" sBases f41 d41
  b41 : Binds K d41 ["_law_pen_here", "_law_counts", "_law_most"] []
  g41 : mg "_law_bases" = some (.ref f41)
  f42 : Addr
  d42 : FuncData
  F42 : Fun K "_law_cuts" "_law_cuts" sCuts f42 d42
  b42 : Binds K d42 ["_law_words", "_law_many_here"] []
  g42 : mg "_law_cuts" = some (.ref f42)
  f43 : Addr
  d43 : FuncData
  F43 : Fun K "_law_gaps" "_law_gaps" sGaps f43 d43
  b43 : Binds K d43 ["_law_pen_here", "_law_count", "_law_words", "_law_dear"] []
  g43 : mg "_law_gaps" = some (.ref f43)
  f44 : Addr
  d44 : FuncData
  F44 : Fun K "_law_many" "_law_many" sMany f44 d44
  b44 : Binds K d44 ["_law_pen_here", "_law_low"] []
  g44 : mg "_law_many" = some (.ref f44)
  f45 : Addr
  d45 : FuncData
  F45 : Fun K "_law_lock" "_law_lock" sLock f45 d45
  b45 : Binds K d45 ["_law_pen_here", "_law_many_here", "_law_top", "_law_dear"] []
  g45 : mg "_law_lock" = some (.ref f45)
  f46 : Addr
  d46 : FuncData
  F46 : Fun K "_law_steps" "_law_steps" sSteps f46 d46
  b46 : Binds K d46 ["_law_lock_here", "_law_at"] []
  g46 : mg "_law_steps" = some (.ref f46)
  f47 : Addr
  d47 : FuncData
  F47 : Fun K "_law_drawn" "_law_drawn" sDrawn f47 d47
  b47 : Binds K d47 ["_law_pen_here", "_law_lock_here"] []
  g47 : mg "_law_drawn" = some (.ref f47)
  f48 : Addr
  d48 : FuncData
  F48 : Fun K "_law_is_from" "_law_is_from" sFrom f48 d48
  b48 : Binds K d48 ["_law_thing", "_law_low", "_law_high"] []
  g48 : mg "_law_is_from" = some (.ref f48)
  f49 : Addr
  d49 : FuncData
  F49 : Fun K "_law_renamed" "_law_renamed" sLRen f49 d49
  b49 : Binds K d49 ["_law_lock_here", "_law_k", "_law_names_here"] []
  g49 : mg "_law_renamed" = some (.ref f49)
  f50 : Addr
  d50 : FuncData
  F50 : Fun K "_law_refused" "_law_refused" sRefd f50 d50
  b50 : Binds K d50 ["_law_asked"] []
  g50 : mg "_law_refused" = some (.ref f50)
  f51 : Addr
  d51 : FuncData
  F51 : Fun K "_law_names" "_law_names" sNames f51 d51
  b51 : Binds K d51 ["_law_pen_here", "_law_lock_here", "_law_k"] []
  g51 : mg "_law_names" = some (.ref f51)
  f52 : Addr
  d52 : FuncData
  F52 : Fun K "_law_are_names" "_law_are_names" sAreN f52 d52
  b52 : Binds K d52 ["_law_thing", "_law_count"] []
  g52 : mg "_law_are_names" = some (.ref f52)
  ve : mg "ValueError" = none
def spLaw (K : PySem.W.Frag) (tb : Addr) : Sp := fun vs H Q _ => ∃ (a : Addr) (ns : List Int), vs = [.ref a] ∧ SqL K H a (ns.map V.int) ∧ H tb = some (.tbl #[]) ∧ ∀ H', Q (.bl true) H'
abbrev lamScope : Scope := { kind := .function, names := [("_law_k", .free), ("_law_lock_here", .free), ("_law_names_here", .free), ("renamed", .globalImplicit)], isGenerator := false, isCoroutine := false }
theorem lamS_law : LamS (defScope sLaw) lamScope := lamS_by (by decide +kernel)
section
variable {P : Program} {w : World} {K : PySem.W.Frag} {mg : Str → Option Value} {base : Heap}
abbrev tLamL (K : PySem.W.Frag) (CB CN tb : Addr) : TE := tLam [(tb, lamQ)] (TTref CB CN) (fun E => tCall (spRen K CB CN) [] E (tCons (tVar 3) (tCons (tVar 6) (tCons (tVar 7) tNil))))
theorem lam_pe (L : Ld K mg) (NB : XcK K mg "NoBolt") (NN : XcK K mg "NoNames") (TX2 : TwoX K NB.C NN.C) {f cc tb : Addr} {A : Around} {outer : List Env} {s : Shared} {H : Hp} {E : XK} {isi : mg "isinstance" = none} {p q1 q2 q3 q4 q5 lpos pos : Pos} (tbh : TabB base mg cc tb)
    (GRn : FnOk P w K mg base (L2.CX P w) 9 L.f33 L.d33 ["lock", "k", "names"] (spRen K NB.C NN.C)) (hr : Room 11 (A.deeper (envOfC "law" (defScope sLaw) s.heap.objs.size f (.ref cc)))) :
    PE (cxOf CX0 P w K mg base nLaw "law" (defScope sLaw) f (.ref cc) A outer s H E).nox
      (.Call (.Name "_law_refused" p) [.Lambda ⟨[], [], none, [], [], none, []⟩ (.Call (.Name "renamed" q1) [.Name "_law_lock_here" q2, .Name "_law_k" q3, .Name "_law_names_here" q4] [] q5) lamScope lpos] [] pos) (tLamL K NB.C NN.C tb) := by
  obtain ⟨ocR, odR, kVR, docR, pmR, anR, cdR, ctR, oslR, edR, lkR, hcdR⟩ := L.F50.ex
  have bR := L.b50
  rw [edR] at bR lkR
  refine pe_lamcall (X := (cxOf CX0 P w K mg base nLaw "law" (defScope sLaw) f (.ref cc) A outer s H E).nox) (T := [(tb, lamQ)]) (TT := TTref NB.C NN.C) (a := "_law_asked") (Ng := nRefd) (k := 9) (sg := defScope sRefd)
    (t := fun E => tCall (spRen K NB.C NN.C) [] E (tCons (tVar 3) (tCons (tVar 6) (tCons (tVar 7) tNil)))) (by rfl) L.g50 L.F50.kp lkR hcdR bR scRefd rfl (.inl rfl) ?g tbh rfl (List.mem_singleton.mpr rfl) (fun p hp _ => ?h) hr lamS_law rfl (fun _ _ _ _ _ => rfl) ?b
  case g => exact ref_gives TX2 NB.g NN.g isi L.ve
  case h => exact (congrArg Prod.snd (List.mem_singleton.mp hp)).trans rfl
  case b =>
    intro A2 outer2 s2 H2 E2 f2 c2 hr2
    exact pe_call GRn hr2 (by rfl) L.g33 L.F33.kp L.b33 .nil (passes_call (W := fun cls dd _ G => E2 cls dd G) (takes_of rfl rfl rfl rfl) (fun _ _ _ _ z => z)) (pa_cons (pv 3) (pa_cons (pv 6) (pa_cons (pv 7) pa_nil)))
end
end Wb

set_option Elab.async false
set_option linter.all false
set_option maxRecDepth 100000
set_option maxHeartbeats 8000000
set_option pp.maxSteps 900
set_option pp.deepTerms false
namespace Wb
open PySem PySem.Spec PyProof.Rows L2 LamX
theorem names_true {nm : Word} {m : Int} (m0 : 0 ≤ m) (N : NmOk nm m) : namesB (.tuple (nm.map .int)) m = true := by
  have l := N.len
  rw [names_iff m0 N.bd]
  exact decide_eq_true ⟨by omega, N.nd⟩
theorem ints_inj {a b : Word} (h : PyData.tuple (a.map .int) = .tuple (b.map .int)) : a = b := by
  have := congrArg intsD h
  rw [ints_back, ints_back] at this
  exact this
/-- what is due: the refusal's name, or what is told -/
def Due (K : PySem.W.Frag) (l : Lock) (d e : PyData) (H : Hp) (dv : Addr) (dd : PyData) : Prop :=
  (wholeB d 0 ((l.length : Int) - 1) = false ∧ H dv = some (.tup [.str "bolt", .bl true]) ∧ dd = .tuple [.str "bolt", .bool true]) ∨
  (∃ (k : Nat) (c : Bolt), d = .int (k : Nat) ∧ l[k]? = some c ∧ namesB e c.many = false ∧ H dv = some (.tup [.str "names", .bl true]) ∧ dd = .tuple [.str "names", .bool true]) ∨
  ∃ (k : Nat) (c : Bolt) (nm : Word) (l' : Lock) (v' : V), d = .int (k : Nat) ∧ l[k]? = some c ∧ e = .tuple (nm.map .int) ∧ NmOk nm c.many ∧ Rens k nm l l' ∧ LockOk l' ∧ LockAt K H v' l' ∧ H dv = some (.tup [.str "told", v']) ∧ dd = .tuple [.str "told", dL l']
theorem Due.tx {K : PySem.W.Frag} {l : Lock} {d e : PyData} {H H' : Hp} {dv : Addr} {dd : PyData} (x : TX K H H') (h : Due K l d e H dv dd) : Due K l d e H' dv dd := by
  rcases h with ⟨h1, h2, h3⟩ | ⟨k, c, h1, h2, h3, h4, h5⟩ | ⟨k, c, nm, l', v', h1, h2, h3, h4, h5, h6, h7, h8, h9⟩
  · exact .inl ⟨h1, x.2 _ _ h2, h3⟩
  · exact .inr (.inl ⟨k, c, h1, h2, h3, x.2 _ _ h4, h5⟩)
  · exact .inr (.inr ⟨k, c, nm, l', v', h1, h2, h3, h4, h5, h6, LockAt.mono x h7, x.2 _ _ h8, h9⟩)
theorem Due.dp {K : PySem.W.Frag} {l : Lock} {d e : PyData} {H : Hp} {dv : Addr} {dd : PyData} (h : Due K l d e H dv dd) : Dp K H (.ref dv) dd := by
  rcases h with ⟨_, h2, rfl⟩ | ⟨_, _, _, _, _, h4, rfl⟩ | ⟨_, _, _, l', v', _, _, _, _, _, _, h7, h8, rfl⟩
  · exact .tup (.inl (.inl h2)) (.cons (.str _) (.cons (.bl _) .nil))
  · exact .tup (.inl (.inl h4)) (.cons (.str _) (.cons (.bl _) .nil))
  · exact .tup (.inl (.inl h8)) (.cons (.str _) (.cons (dp_L h7) .nil))
theorem fine_told : Fine (.str "told") 6 20 := ⟨by decide +kernel, by decide +kernel, by decide +kernel, by decide +kernel⟩
theorem Due.fine {K : PySem.W.Frag} {l : Lock} {d e : PyData} {H : Hp} {dv : Addr} {dd : PyData} (h : Due K l d e H dv dd) : Fine dd 7 5000100 := by
  rcases h with ⟨_, _, rfl⟩ | ⟨_, _, _, _, _, _, rfl⟩ | ⟨_, _, _, l', v', _, _, _, _, _, ok, _, _, rfl⟩
  · exact ⟨by decide +kernel, by decide +kernel, by decide +kernel, by decide +kernel⟩
  · exact ⟨by decide +kernel, by decide +kernel, by decide +kernel, by decide +kernel⟩
  · exact (fine_tup (FineAll.cons fine_told (FineAll.cons (fine_L ok) FineAll.nil))).mono (by decide) (by decide)
theorem ref_read {K : PySem.W.Frag} {CB CN : Addr} {v u z : V} {l : Lock} {d e : PyData} {H1 : Hp} {dv : Addr} {dd : PyData} {Q : VK} {σ : L2.St} (s3 : σ[3]? = some (some v)) (s6 : σ[6]? = some (some u)) (s7 : σ[7]? = some (some z))
    (hv : LockAt K H1 v l) (ok : LockOk l) (hu : Th K H1 u d) (hz : Th K H1 z e) (due : Due K l d e H1 dv dd) (q : ∀ H2 y, Evl.Ex H1 H2 → Dp K H2 (.ref y) dd → Q (.ref y) H2) :
    TTref CB CN (fun E H' Q' => tCall (spRen K CB CN) [] E (tCons (tVar 3) (tCons (tVar 6) (tCons (tVar 7) tNil))) σ H' Q') H1 Q := by
  refine ⟨v, s3, u, s6, z, s7, v, u, z, l, d, e, rfl, hv, ok, hu, hz, fun hw H' e1 => ?_, fun k c hd hc hn H' e1 => ?_, fun k c nm hd hc he N H' v' l' e1 hL R => ?_⟩
  · refine ⟨rfl, .inl ⟨rfl, fun H2 y e2 hy => ?_⟩⟩
    rcases due with ⟨_, _, rfl⟩ | ⟨k, c, rfl, hc, _⟩ | ⟨k, c, _, _, _, rfl, hc, _⟩
    · exact q H2 y (e1.trans e2) (.tup (.inl (.inl hy)) (.cons (.str _) (.cons (.bl _) .nil)))
    · rw [whole_at hc] at hw
      cases hw
    · rw [whole_at hc] at hw
      cases hw
  · refine ⟨rfl, .inr ⟨rfl, fun H2 y e2 hy => ?_⟩⟩
    subst hd
    rcases due with ⟨hw, _⟩ | ⟨_, _, _, _, _, _, rfl⟩ | ⟨k', c', nm, l', v', hd, hc', rfl, N, _⟩
    · rw [whole_at hc] at hw
      cases hw
    · exact q H2 y (e1.trans e2) (.tup (.inl (.inl hy)) (.cons (.str _) (.cons (.bl _) .nil)))
    · injection hd with hd
      have ek : k = k' := by omega
      subst ek
      rw [hc] at hc'
      cases hc'
      have m0 := (ok.bolts k c hc).m0
      rw [names_true (by omega) N] at hn
      cases hn
  · subst hd
    subst he
    rcases due with ⟨hw, _⟩ | ⟨k', c', hd, hc', hn, _⟩ | ⟨k', c', nm', l2, v2, hd, hc', he, N', R', _, _, _, rfl⟩
    · rw [whole_at hc] at hw
      cases hw
    · injection hd with hd
      have ek : k = k' := by omega
      subst ek
      rw [hc] at hc'
      cases hc'
      have m0 := (ok.bolts k c hc).m0
      rw [names_true (by omega) N] at hn
      cases hn
    · injection hd with hd
      have ek : k = k' := by omega
      subst ek
      have en := ints_inj he
      subst en
      have el := rens_one R R'
      subst el
      refine ⟨(by show 2 ≤ sizeLine; decide), fun y ny => ?_⟩
      exact q _ y (e1.trans (Evl.Ex.new ny)) (.tup (.inl (.inl upd_same)) (.cons (.str _) (.cons (dp_L (LockAt.mono (TX.ex (Evl.Ex.new ny)) hL)) .nil)))
theorem tabs_exx {tb p c : Addr} {q : Str} {T : Int} {H H' : Hp} (n : tb ≠ p) (hp : PenAt H p c T) (e : Exx p H H') (h : Tabs [(tb, q)] H) : Tabs [(tb, q)] H' := fun pr hpr => by
  obtain ⟨ps, h1, h2, h3⟩ := h pr hpr
  rw [List.mem_singleton.mp hpr] at *
  refine ⟨ps, e _ _ n h1, h2, fun pos cv hc => ?_⟩
  obtain ⟨c0, e1, e2⟩ := h3 pos cv hc
  refine ⟨c0, e1, e _ _ (fun z => ?_) e2⟩
  obtain ⟨cells, t, d, h4, _⟩ := hp
  rw [z, h4] at e2
  unfold CodeO at e2
  cases e2
theorem extN_tx {K : PySem.W.Frag} {H H' : Hp} (x : ExtN H H') : TX K H H' := by
  refine ⟨fun a xs h => ?_, fun a xs h => x a _ h (fun ps z => by cases z)⟩
  rcases h with (h | ⟨o, h⟩) | h
  · exact .inl (.inl (x a _ h (fun ps z => by cases z)))
  · exact .inl (.inr ⟨o, x a _ h (fun ps z => by cases z)⟩)
  · exact .inr h
theorem pen_extN {H H' : Hp} {p c : Addr} {T : Int} (x : ExtN H H') (h : PenAt H p c T) : PenAt H' p c T := by
  obtain ⟨cells, t, d, h1, h2, r⟩ := h
  exact ⟨cells, t, d, x _ _ h1 (fun ps z => by cases z), x _ _ h2 (fun ps z => by cases z), r⟩
theorem odd_extN {H H' : Hp} {p : Addr} {v : V} {d : PyData} (x : ExtN H H') (h : Odd p H v d) : Odd p H' v d := by
  rcases h with h | ⟨a, xs, ds, h1, h2, h3, h4⟩ | ⟨a, xs, ds, h1, n, h2, h3, h4⟩
  · exact .inl h
  · exact .inr (.inl ⟨a, xs, ds, h1, h2, h3.imp (fun z => x _ _ z (fun ps y => by cases y)) (fun ⟨o, z⟩ => ⟨o, x _ _ z (fun ps y => by cases y)⟩), h4⟩)
  · exact .inr (.inr ⟨a, xs, ds, h1, n, h2, x _ _ h3 (fun ps z => by cases z), h4⟩)
/-! ### steps, as k52's law has them -/
theorem of_mem {l : Lock} {st : Word} {n : Nat} {t : Tr3} (h : t ∈ stepsOf l st n) : t.frm = (n : Int) ∧ ∃ b g, l[n]? = some b ∧ g ∈ b.gaps ∧ t.to_ = g.to_ ∧ t.price = g.price := by
  unfold stepsOf at h
  split at h
  · rename_i b p hb hp
    unfold pickAt movesL at h
    obtain ⟨t1, h1, rfl⟩ := List.mem_map.mp h
    obtain ⟨g, hg, e⟩ := List.mem_map.mp (List.mem_filter.mp h1).1
    subst e
    exact ⟨rfl, b, g, hb, (List.mem_filter.mp hg).1, rfl, rfl⟩
  · cases h
theorem upto_len {l : Lock} (ok : LockOk l) (st : Word) : ∀ n, n ≤ l.length → (stepsUpto l st n).length ≤ 8 * n
  | 0, _ => Nat.le_refl _
  | n + 1, hn => by
    have ih := upto_len ok st n (by omega)
    rw [stepsUpto_succ, List.length_append]
    have h : (stepsOf l st n).length ≤ 8 := by
      unfold stepsOf
      split
      · rename_i b p hb hp
        unfold pickAt
        rw [List.length_map]
        have h1 := movesL_len b.gaps (st.take n)
        have h2 := (ok.bolts n b hb).few
        have h3 := List.length_filter_le (fun t : Tr3 => decide (t.frm = p)) (movesL b.gaps (st.take n))
        omega
      · exact Nat.zero_le _
    omega
theorem steps_len {l : Lock} (ok : LockOk l) (st : Word) : (stepsL l st).length ≤ 480 := by
  have h := upto_len ok st l.length (Nat.le_refl _)
  have := ok.n1
  unfold stepsL
  omega
theorem steps_ok {l : Lock} (ok : LockOk l) {st : Word} {t : Tr3} (h : t ∈ stepsL l st) : TrOk t := by
  obtain ⟨n, hn, h⟩ := List.mem_flatMap.mp h
  obtain ⟨h1, b, g, hb, hg, h2, h3⟩ := of_mem h
  have nl : n < l.length := (List.getElem?_eq_some_iff.mp hb).1
  have := ok.n1
  have BO := ok.bolts n b hb
  have m1 := BO.m1
  have G := BO.gaps g hg
  have t0 := G.t0
  have t1 := G.t1
  have p0 := G.p0
  have p1 := G.p1
  exact ⟨by omega, by omega, by omega, by omega, by omega, by omega⟩
theorem steps_in {l : Lock} (ok : LockOk l) {st : Word} {t : Tr3} (h : t ∈ stepsL l st) {k : Nat} (hk : t.frm = (k : Int)) : ∃ b, l[k]? = some b ∧ 0 ≤ t.to_ ∧ t.to_ < b.many := by
  obtain ⟨n, hn, h⟩ := List.mem_flatMap.mp h
  obtain ⟨h1, b, g, hb, hg, h2, h3⟩ := of_mem h
  have e : n = k := by omega
  subst e
  have G := (ok.bolts n b hb).gaps g hg
  have t0 := G.t0
  have t1 := G.t1
  exact ⟨b, hb, by omega, by omega⟩
def w3 (t : Tr3) : Word := [t.frm, t.to_, t.price]
def t3 : Word → Tr3
  | [a, b, c] => ⟨a, b, c⟩
  | _ => ⟨0, 0, 0⟩
theorem w3_le {s t : Tr3} (hs : TrOk s) (ht : TrOk t) (h : TS.code 1000001 (w3 s) ≤ TS.code 1000001 (w3 t)) : s.frm < t.frm ∨ (s.frm = t.frm ∧ s.to_ ≤ t.to_) := by
  have bd : ∀ {u : Tr3}, TrOk u → TS.Bd 1000001 (w3 u) := fun {u} hu m hm => by
    have f0 := hu.f0
    have f1 := hu.f1
    have t0 := hu.t0
    have t1 := hu.t1
    have p0 := hu.p0
    have p1 := hu.p1
    unfold w3 at hm
    simp only [List.mem_cons, List.not_mem_nil, or_false] at hm
    rcases hm with rfl | rfl | rfl <;> omega
  have tl : ∀ {d : Int} {r : Word}, TS.Bd 1000001 (d :: r) → TS.Bd 1000001 r := fun h m hm => h m (List.mem_cons_of_mem _ hm)
  have bs := bd hs
  have bt := bd ht
  unfold w3 at h bs bt
  rcases Int.lt_trichotomy s.frm t.frm with z | z | z
  · exact .inl z
  · refine .inr ⟨z, Int.not_lt.mp fun y => ?_⟩
    have q := TS.code_lt (B := 1000001) (r := [t.price]) (q := [s.price]) rfl (tl (tl bt)) (tl (tl bs)) y
    have q2 := (TS.code_same (d := t.frm) (B := 1000001) (r := [t.to_, t.price]) (q := [s.to_, s.price]) rfl).mpr q
    rw [z] at h
    omega
  · have q := TS.code_lt (B := 1000001) (r := [t.to_, t.price]) (q := [s.to_, s.price]) rfl (tl bt) (tl bs) z
    omega
/-- the sorted list of the steps by the new names is the lock's own -/
theorem sorted_steps {l l' : Lock} (ok : LockOk l) {k : Nat} {nm st : Word} {c : Bolt} (hc : l[k]? = some c) (N : NmOk nm c.many) (R : Rens k nm l l') (hin : InAll st (manysOf l)) {us : List Word} (pm : us.Perm (((stepsL l st).map (renT k nm)).map w3)) (pw : us.Pairwise (fun u v => TS.code 1000001 u ≤ TS.code 1000001 v)) :
    us = (stepsL l' (renW k nm st)).map w3 := by
  have ok' := rens_ok ok hc N R
  have hp := steps_perm ok hc N R hin
  have back : ∀ u ∈ us, w3 (t3 u) = u := fun u hu => by
    obtain ⟨t, _, rfl⟩ := List.mem_map.mp (pm.mem_iff.mp hu)
    rfl
  have e1 : us = (us.map t3).map w3 := by
    rw [List.map_map]
    exact ((List.map_congr_left fun u hu => back u hu).trans (List.map_id us)).symm
  have p2 : (us.map t3).Perm (stepsL l' (renW k nm st)) := by
    have z := pm.map t3
    rw [List.map_map] at z
    have e : (t3 ∘ w3) = id := rfl
    rw [e, List.map_id] at z
    exact z.trans hp.symm
  have r : (us.map t3).Pairwise (fun s t => s.frm < t.frm ∨ (s.frm = t.frm ∧ s.to_ ≤ t.to_)) := by
    refine List.pairwise_map.mpr (pw.imp_of_mem fun {a b} ha hb q => ?_)
    have oa := steps_ok ok' (p2.mem_iff.mp (List.mem_map.mpr ⟨a, ha, rfl⟩))
    have ob := steps_ok ok' (p2.mem_iff.mp (List.mem_map.mpr ⟨b, hb, rfl⟩))
    rw [← back a ha, ← back b hb] at q
    exact w3_le oa ob q
  rw [e1, steps_eq ok' p2 r]
theorem inAll_ren {l l' : Lock} {k : Nat} {nm st : Word} {c : Bolt} (hc : l[k]? = some c) (N : NmOk nm c.many) (R : Rens k nm l l') (hin : InAll st (manysOf l)) : InAll (renW k nm st) (manysOf l') := by
  have sl : st.length = l.length := by rw [hin.1, manys_len]
  have kl := (List.getElem?_eq_some_iff.mp hc).1
  rw [rens_manys R]
  refine ⟨by rw [renW_len]; exact hin.1, fun i x m hx hm => ?_⟩
  by_cases e : k = i
  · subst e
    have hs : st[k]? = some (st[k]'(by omega)) := List.getElem?_eq_getElem _
    rw [renW_self (by omega), getD_of hs] at hx
    cases hx
    rw [manys_at hc] at hm
    cases hm
    obtain ⟨a, b⟩ := hin.2 k _ _ hs (manys_at hc)
    exact nm_bd N a b
  · rw [renW_other e] at hx
    exact hin.2 i x m hx hm
theorem tr_put {H : Hp} {l : Addr} {xs : List V} {o : HO} (h : H l = some (.lst xs)) {v : V} {t : Tr3} (q : TrAt H v t) : TrAt (upd H l o) v t := by
  obtain ⟨a, rfl, ha⟩ := q
  refine ⟨a, rfl, ?_⟩
  rw [upd_ne (fun z => by rw [z, h] at ha; cases ha)]
  exact ha
/-- where the names are good ones, their object is known -/
def KnF (l : Lock) (d e : PyData) (H : Hp) (z : V) : Prop := ∀ (k : Nat) (b : Bolt), d = .int (k : Nat) → l[k]? = some b → namesB e b.many = true → KnT H z
theorem KnF.ex {l : Lock} {d e : PyData} {H H' : Hp} {z : V} (x : Evl.Ex H H') (h : KnF l d e H z) : KnF l d e H' z := fun k b h1 h2 h3 => (h k b h1 h2 h3).ex x
theorem KnF.extN {l : Lock} {d e : PyData} {H H' : Hp} {z : V} (x : ExtN H H') (h : KnF l d e H z) : KnF l d e H' z := fun k b h1 h2 h3 => by
  obtain ⟨a, o, xs, e1, e2, e3⟩ := h k b h1 h2 h3
  exact ⟨a, o, xs, e1, x _ _ e2 (fun ps y => by cases y), e3⟩
theorem back_get {nm : Word} {m : Int} (N : NmOk nm m) {j : Nat} (h : j < nm.length) : (backOf nm)[j]? = some ((nm.idxOf (j : Int) : Nat) : Int) := by
  unfold backOf
  rw [List.getElem?_map, List.getElem?_range h]
  rfl
theorem back_len (nm : Word) : (backOf nm).length = nm.length := by
  unfold backOf
  rw [List.length_map, List.length_range]
section
variable {P : Program} {w : World} {K : PySem.W.Frag} {mg : Str → Option Value} {base : Heap}
theorem ok_law {f cc tb : Addr} {fd : FuncData} (F : Fun K "law" "law" sLaw f fd) (known : fd.code = .ref cc) (tbh : TabB base mg cc tb) (D : Pr K mg) (L : Ld K mg) (NB : XcK K mg "NoBolt") (NN : XcK K mg "NoNames") (TX2 : TwoX K NB.C NN.C) : FnG P w K mg base 12 f fd ["_law_script"] (spLaw K tb) := by
  have B := D.B
  have GRn : FnOk P w K mg base (L2.CX P w) 9 L.f33 L.d33 ["lock", "k", "names"] (spRen K NB.C NN.C) := ok_ren D NB NN L.F33 L.F31 L.b31 L.g31 L.F34 L.b34 L.g34 L.F32 L.b32 L.g32
  have Gc : FnOk P w K mg base CX0 8 D.f26 D.d26 ["lock", "stand"] (spCan K) := ok_can D
  have G36 : FnOk P w K mg base CX0 1 L.f36 L.d36 ["_law_script"] (spPen K) := ok_pen L.F36 B
  have G37 : FnOk P w K mg base CX0 1 L.f37 L.d37 ["_law_pen_here", "_law_many_here"] spDraw := ok_draw L.F37 B
  have G38 : FnOk P w K mg base CX0 2 L.f38 L.d38 ["_law_pen_here", "_law_bag"] (spPick K) := ok_pick L.F38 L.F37 L.b37 L.g37 B
  have G44 : FnOk P w K mg base CX0 2 L.f44 L.d44 ["_law_pen_here", "_law_low"] spMany := ok_many L.F44 L.F37 L.b37 L.g37 B
  have G45 : FnOk P w K mg base CX0 5 L.f45 L.d45 ["_law_pen_here", "_law_many_here", "_law_top", "_law_dear"] (spLock K) := ok_lock L.F45 L.F37 L.b37 L.g37 L.F38 L.b38 L.g38 L.F39 L.b39 L.g39 L.F40 L.b40 L.g40 L.F41 L.b41 L.g41 L.F42 L.b42 L.g42 L.F43 L.b43 L.g43 B
  have G46 : FnOk P w K mg base CX0 1 L.f46 L.d46 ["_law_lock_here", "_law_at"] (spSteps K) := ok_lsteps L.F46 B
  have G47 : FnOk P w K mg base CX0 2 L.f47 L.d47 ["_law_pen_here", "_law_lock_here"] (spDrawn K) := ok_drawn L.F47 L.F37 L.b37 L.g37 B
  have G48 : FnOk P w K mg base CX0 1 L.f48 L.d48 ["_law_thing", "_law_low", "_law_high"] (spFrom K) := ok_from L.F48 B
  have G49 : FnOk P w K mg base CX0 1 L.f49 L.d49 ["_law_lock_here", "_law_k", "_law_names_here"] (spLRen K) := ok_lren L.F49 B
  have G51 : FnOk P w K mg base CX0 3 L.f51 L.d51 ["_law_pen_here", "_law_lock_here", "_law_k"] (spNames K) := ok_names L.F51 L.F48 L.b48 L.g48 L.F39 L.b39 L.g39 L.F38 L.b38 L.g38 L.F37 L.b37 L.g37 B
  have G52 : FnOk P w K mg base CX0 2 L.f52 L.d52 ["_law_thing", "_law_count"] (spAreN K) := ok_areN L.F52 L.F48 L.b48 L.g48 B
  refine fnG_okT F known scLaw (fun vs H Q E h => ?_) (fun A outer s H vs Q E hgd hr h => ?_)
  · obtain ⟨a, ns, rfl, _⟩ := h; rfl
  · obtain ⟨a, ns, rfl, hS, htb, q⟩ := h
    have hr1 : Room 1 _ := hr.mono (by decide)
    have hr2 : Room 2 _ := hr.mono (by decide)
    have hr3 : Room 3 _ := hr.mono (by decide)
    have hr5 : Room 5 _ := hr.mono (by decide)
    have hr8 : Room 8 _ := hr.mono (by decide)
    have hr9 : Room 9 _ := hr.mono (by decide)
    have hg' : (A.deeper (envOfC "law" (defScope sLaw) s.heap.objs.size f (.ref cc))).guards = some [] := hgd
    refine ⟨_, (pss_cons (ps_set (i := 1) scLaw.nd rfl (.inl rfl) (pe_call G36 hr1 (by rfl) L.g36 L.F36.kp L.b36 .nil pass0 (pa_cons (pv 0) pa_nil)))
 (pss_cons (ps_for PassesOwn.never rfl (pi_range1 (by rfl) B.range (pa_cons pe_int pa_nil)) (pg_name (i := 2) scLaw.nd rfl (.inl rfl))
 (Evl.pss_cut (ps_set (i := 3) scLaw.nd rfl (.inr rfl) (pe_call G45 hr5 (by rfl) L.g45 L.F45.kp L.b45 .nil pass0 (pa_cons (pv 1) (pa_cons (pe_ifExp (pt_cmpR op_eq (pv 2) pe_int (nomark _)) (pe_call G44 hr2 (by rfl) L.g44 L.F44.kp L.b44 .nil pass0 (pa_cons (pv 1) (pa_cons pe_int pa_nil))) (pe_op op_add pe_int (pe_call G37 hr1 (by rfl) L.g37 L.F37.kp L.b37 .nil pass0 (pa_cons (pv 1) (pa_cons pe_int pa_nil))))) (pa_cons pe_int (pa_cons pe_int pa_nil))))))
 (pss_one (ps_for PassesOwn.never rfl (pi_range1 (by rfl) B.range (pa_cons pe_int pa_nil)) (pg_name (i := 4) scLaw.nd rfl (.inl rfl))
 (pss_cons (ps_set (i := 5) scLaw.nd rfl (.inl rfl) (pe_call G38 hr2 (by rfl) L.g38 L.F38.kp L.b38 .nil pass0 (pa_cons (pv 1) (pa_cons (pe_lst (pa_cons pe_non (pa_cons pe_bl (pa_cons (pe_un un_neg pe_int) (pa_cons (pe_callB call_len_seq (by rfl) B.len PySem.boot_len (pa_cons (pv 3) pa_nil)) (pa_cons pe_str (pa_cons (pe_tup (pa_cons pe_int pa_nil)) pa_nil))))))) pa_nil))))
 (pss_cons (ps_set (i := 6) scLaw.nd rfl (.inr rfl) (pe_call G38 hr2 (by rfl) L.g38 L.F38.kp L.b38 .nil pass0 (pa_cons (pv 1) (pa_cons (pe_op op_cat (pe_op op_rep (pe_lst (pa_cons (pe_call G37 hr1 (by rfl) L.g37 L.F37.kp L.b37 .nil pass0 (pa_cons (pv 1) (pa_cons (pe_callB call_len_seq (by rfl) B.len PySem.boot_len (pa_cons (pv 3) pa_nil)) pa_nil))) pa_nil)) pe_int) (pe_lst (pa_cons (pv 5) pa_nil))) pa_nil))))
 (pss_cons (ps_asg (pe_tup (pa_cons (pe_call G51 hr3 (by rfl) L.g51 L.F51.kp L.b51 .nil pass0 (pa_cons (pv 1) (pa_cons (pv 3) (pa_cons (pv 6) pa_nil)))) (pa_cons (pe_callB (call_repr_data hr.units hg') (by rfl) B.repr boot_repr (pa_cons (pv 3) pa_nil)) pa_nil))) (pg_tup rfl (pgs_cons (pg_name (i := 7) scLaw.nd rfl (.inr rfl)) (pgs_cons (pg_name (i := 8) scLaw.nd rfl (.inl rfl)) pgs_nil))))
 (pss_cons (ps_set (i := 9) scLaw.nd rfl (.inl rfl) (pe_tup (pa_cons pe_str (pa_cons pe_bl pa_nil))))
 (Evl.pss_cut (ps_if (pt_val (pe_call G48 hr1 (by rfl) L.g48 L.F48.kp L.b48 .nil pass0 (pa_cons (pv 6) (pa_cons pe_int (pa_cons (pe_op op_sub (pe_callB call_len_seq (by rfl) B.len PySem.boot_len (pa_cons (pv 3) pa_nil)) pe_int) pa_nil)))))
 (pss_cons (ps_set (i := 9) scLaw.nd rfl (.inl rfl) (pe_tup (pa_cons pe_str (pa_cons pe_bl pa_nil))))
 (pss_one (ps_if (pt_val (pe_call G52 hr2 (by rfl) L.g52 L.F52.kp L.b52 .nil pass0 (pa_cons (pv 7) (pa_cons (pe_ix (r := rIxT K) ix_tup (pe_ix (r := rIxT K) ix_tup (pv 3) (pv 6) (fun _ _ => rfl)) pe_int (fun _ _ => rfl)) pa_nil))))
 (pss_one (ps_set (i := 9) scLaw.nd rfl (.inl rfl) (pe_tup (pa_cons pe_str (pa_cons (pe_call G49 hr1 (by rfl) L.g49 L.F49.kp L.b49 .nil pass0 (pa_cons (pv 3) (pa_cons (pv 6) (pa_cons (pv 7) pa_nil)))) pa_nil)))))
 pss_nil)))
 pss_nil)
 (Evl.pss_cut (ps_if (PW.pt (pw_or (pt_cmpR op_ne (pe_callB (call_repr_data hr.units hg') (by rfl) B.repr boot_repr (pa_cons (lam_pe (isi := B.isi) L NB NN TX2 tbh GRn hr) pa_nil)) (pe_callB (call_repr_data hr.units hg') (by rfl) B.repr boot_repr (pa_cons (pv 9) pa_nil)) (nomark _)) (pw_or1 (pt_cmpR op_ne (pe_callB (call_repr_data hr.units hg') (by rfl) B.repr boot_repr (pa_cons (pv 3) pa_nil)) (pv 8) (nomark _)))))
 (pss_one (ps_ret pe_bl))
 pss_nil)
 (pss_one (ps_if (pt_cmpR op_eq (pe_ix (r := rIxT K) ix_tup (pv 9) pe_int (fun _ _ => rfl)) pe_str (nomark _))
 (pss_cons (ps_par (by rfl) scLaw.nd (i := 10) (j := 11) rfl rfl (by decide) rfl rfl (pa_cons (pe_call G47 hr2 (by rfl) L.g47 L.F47.kp L.b47 .nil pass0 (pa_cons (pv 1) (pa_cons (pv 3) pa_nil))) (pa_cons (pe_ix (r := rIxT K) ix_tup (pv 9) pe_int (fun _ _ => rfl)) pa_nil)) (by rfl))
 (Evl.pss_cut (ps_set (i := 12) scLaw.nd rfl (.inl rfl) (pe_op (r := rCatA K) op_catA (pe_op (r := rCatA K) op_catA (pe_slice (r := rSlA K) sl_tupA (pv 10) po_none (po_some (pv 6))) (pe_tup (pa_cons (pe_ix (r := rIxT K) ix_tup (pv 7) (pe_ix (r := rIxT K) ix_tup (pv 10) (pv 6) (fun _ _ => rfl)) (fun _ _ => rfl)) pa_nil))) (pe_slice (r := rSlA K) sl_tupA (pv 10) (po_some (pe_op op_add (pv 6) pe_int)) po_none)))
 (pss_cons (ps_set (i := 13) scLaw.nd rfl (.inl rfl) (pe_lst pa_nil))
 (pss_cons (ps_for PassesOwn.never rfl (pi_list (pe_call G46 hr1 (by rfl) L.g46 L.F46.kp L.b46 .nil pass0 (pa_cons (pv 3) (pa_cons (pv 10) pa_nil)))) (pg_tup rfl (pgs_cons (pg_name (i := 14) scLaw.nd rfl (.inl rfl)) (pgs_cons (pg_name (i := 15) scLaw.nd rfl (.inl rfl)) (pgs_cons (pg_name (i := 16) scLaw.nd rfl (.inl rfl)) pgs_nil))))
 (pss_one (ps_expr (pe_bm PySem.F.plainAttrs_list PySem.F.slot_list_append PySem.F.type_list_append mt_append (pv 13) (pa_cons (pe_tup (pa_cons (pv 14) (pa_cons (pe_ifExp (pt_cmpR op_eq (pv 14) (pv 6) (nomark _)) (pe_ix (r := rIxT K) ix_tup (pv 7) (pv 15) (fun _ _ => rfl)) (pv 15)) (pa_cons (pv 16) pa_nil)))) pa_nil)))))
 (Evl.pss_cut (ps_if (pt_cmpR (op_neD hr.units) (pe_call Gc hr8 (by rfl) D.g26 D.F26.kp D.b26 .nil pass0 (pa_cons (pv 11) (pa_cons (pv 12) pa_nil))) (pe_callB (r := rSortL K) cr_sortL (by rfl) B.sorted boot_sorted (pa_cons (pv 13) pa_nil)) (nomark _))
 (pss_one (ps_ret pe_bl))
 pss_nil)
 (Evl.pss_cut (ps_set (i := 17) scLaw.nd rfl (.inl rfl) (pe_callTy (r := rTupK K) call_tupK (by rfl) B.tuple PyProof.Rows.boot_tuple (pa_cons (pe_lc (X := (cxOf CX0 P w K mg base nLaw "law" (defScope sLaw) f (.ref cc) A outer s H E).nox) (te := tMG (fun x H => KnT H x) (rTIdx K) (tVar 7) (tCons (tVar 18) tNil)) (own := [("_law_place", 18)]) (g := gName 18) rfl scLaw.nd (pi_range1 (by rfl) B.range (pa_cons (pe_callB call_len_seq (by rfl) B.len PySem.boot_len (pa_cons (pv 7) pa_nil)) pa_nil)) (blkOk_by (own := [("_law_place", 18)]) (N := nLaw) (sc := defScope sLaw) (by decide +kernel)) (fun _ _ _ _ _ => (pg_name (i := 18) scLaw.nd rfl (.inl rfl))) (fun _ _ _ _ _ => pts_nil) (fun _ _ _ _ _ => (pe_mG (ty := fun x H => KnT H x) (r := rTIdx K) ty_knT PySem.F.plainAttrs_tuple PySem.F.slot_tuple_index PySem.F.type_tuple_index mt_tupIdx (pv 7) (pa_cons (pv 18) pa_nil)))) pa_nil)))
 (pss_cons (ps_if (pt_cmpR (op_neD hr.units) (pe_call GRn hr9 (by rfl) L.g33 L.F33.kp L.b33 .nil (passes_call (E := fun _ _ _ => False) LamX.takes0 (fun _ _ _ _ z => z)) (pa_cons (pv 11) (pa_cons (pv 6) (pa_cons (pv 17) pa_nil)))) (pv 3) (nomark _))
 (pss_one (ps_ret pe_bl))
 pss_nil)
 (pss_one (ps_set (i := 3) scLaw.nd rfl (.inr rfl) (pv 11))))))))))
 pss_nil))))))))))))
 (pss_one (ps_ret pe_bl)))), ?_⟩
    refine ⟨.ref a, rfl, a, ns, rfl, hS, fun H1 p e1 np hpc => ?_⟩
    obtain ⟨c, hp1⟩ := hpc
    have ntp : tb ≠ p := fun z => by rw [z, np] at htb; cases htb
    have T1 : Tabs [(tb, lamQ)] H1 := fun pr hpr => by
      rw [List.mem_singleton.mp hpr]
      exact TabS.nil (e1 _ _ htb)
    refine ⟨4, rfl, by decide, by decide, ?_⟩
    refine for_range (lo := 0) (n := 4) (fun t σ H' => ∃ y2 y3 y4 y5 y6 y7 y8 y9 y10 y11 y12 y13 y14 y15 y16 y17 y18 : Option V, σ = [some (.ref a), some (.ref p), y2, y3, y4, y5, y6, y7, y8, y9, y10, y11, y12, y13, y14, y15, y16, y17, y18] ∧ PenAt H' p c (200000 * (t : Nat)) ∧ Tabs [(tb, lamQ)] H')
      ⟨none, none, none, none, none, none, none, none, none, none, none, none, none, none, none, none, none, rfl, by simpa using hp1, T1⟩ ?_ ?_
    · rintro t σ H2 ht ⟨y2, y3, y4, y5, y6, y7, y8, y9, y10, y11, y12, y13, y14, y15, y16, y17, y18, rfl, hp2, T2⟩
      refine ⟨fun σ' H' => ∃ (lk : Addr) (l : Lock), σ' = [some (.ref a), some (.ref p), some (.int (0 + (t : Nat))), some (.ref lk), y4, y5, y6, y7, y8, y9, y10, y11, y12, y13, y14, y15, y16, y17, y18] ∧ PenAt H' p c (200000 * (t : Nat) + 160010) ∧ LockAt K H' (.ref lk) l ∧ LockOk l ∧ Tabs [(tb, lamQ)] H', ?_, ?_⟩
      · have lockq : ∀ (many : Int) (H3 : Hp), 1 ≤ many → many ≤ 60 → PenAt H3 p c (200000 * (t : Nat) + 2) → Tabs [(tb, lamQ)] H3 → spLock K [.ref p, .int many, .int 4, .int 99] H3 (fun v H' => ∃ (lk : Addr) (l : Lock), v = .ref lk ∧ PenAt H' p c (200000 * (t : Nat) + 160010) ∧ LockAt K H' (.ref lk) l ∧ LockOk l ∧ Tabs [(tb, lamQ)] H') (fun _ _ _ => False) := by
          intro many H3 m1 m60 hp3 T3
          refine ⟨p, c, many, _, _, rfl, hp3, by omega, m1, m60, by decide, by decide, fun H4 v l x4 hp4 hL ok hl => ?_⟩
          have hL := hL.at_
          obtain ⟨lk, bs, rfl, hL1, hL2⟩ := hL
          exact ⟨lk, l, rfl, hp4.mono (by omega), ⟨lk, bs, rfl, hL1, hL2⟩, ok, tabs_exx ntp hp3 x4 T3⟩
        refine ⟨.ref p, rfl, .int (0 + (t : Nat)), rfl, rfl, _, rfl, ?_⟩
        refine ite2 (fun _ => ?_) (fun _ => ?_)
        · refine ⟨.ref p, rfl, p, c, _, rfl, hp2, by omega, fun m H3 m1 m60 x3 hp3 => ?_⟩
          obtain ⟨p', c', many', dear', T', ev, h1, h2, h3, h4, h5, h6, h7⟩ := lockq m H3 m1 m60 hp3 (tabs_exx ntp hp2 x3 T2)
          refine ⟨p', c', many', dear', T', ev, h1, h2, h3, h4, h5, h6, fun H4 v l x4 hp4 hL ok hl => ?_⟩
          obtain ⟨lk, l', rfl, r1, r2, r3, r4⟩ := h7 H4 v l x4 hp4 hL ok hl
          exact ⟨lk, l', rfl, r1, r2, r3, r4⟩
        · refine ⟨.ref p, rfl, p, c, 7, _, rfl, hp2, by decide, by decide, by omega, fun r H3 r0 r1 x3 hp3 => ?_⟩
          refine ⟨1, r, rfl, rfl, ?_⟩
          obtain ⟨p', c', many', dear', T', ev, h1, h2, h3, h4, h5, h6, h7⟩ := lockq (1 + r) H3 (by omega) (by omega) (hp3.mono (by omega)) (tabs_exx ntp hp2 x3 T2)
          refine ⟨p', c', many', dear', T', ev, h1, h2, h3, h4, h5, h6, fun H4 v l x4 hp4 hL ok hl => ?_⟩
          obtain ⟨lk, l', rfl, r1, r2, r3, r4⟩ := h7 H4 v l x4 hp4 hL ok hl
          exact ⟨lk, l', rfl, r1, r2, r3, r4⟩
      · rintro σ' H3 ⟨lk, l, rfl, hp3, hL, ok, T3⟩
        refine ⟨3, rfl, by decide, by decide, ?_⟩
        refine for_range (lo := 0) (n := 3) (fun i σ H' => ∃ (lk : Addr) (l : Lock) (y4 y5 y6 y7 y8 y9 y10 y11 y12 y13 y14 y15 y16 y17 y18 : Option V), σ = [some (.ref a), some (.ref p), some (.int (0 + (t : Nat))), some (.ref lk), y4, y5, y6, y7, y8, y9, y10, y11, y12, y13, y14, y15, y16, y17, y18] ∧ PenAt H' p c (200000 * (t : Nat) + 160010 + 300 * (i : Nat)) ∧ LockAt K H' (.ref lk) l ∧ LockOk l ∧ Tabs [(tb, lamQ)] H')
          ⟨lk, l, _, _, _, _, _, _, _, _, _, _, _, _, _, _, _, rfl, hp3.mono (by omega), hL, ok, T3⟩ ?_ ?_
        · clear hL ok T3 hp3 lk l
          rintro i σ H3 hi ⟨lk, l, y4, y5, y6, y7, y8, y9, y10, y11, y12, y13, y14, y15, y16, y17, y18, rfl, hp3, hL, ok, T3⟩
          have l60 := ok.n1
          have l1 := ok.n0
          obtain ⟨lk0, bs, elk, hL1, hL2⟩ := hL
          cases elk
          have hL : LockAt K H3 (.ref lk) l := ⟨lk, bs, rfl, hL1, hL2⟩
          have bl : bs.length = l.length := Paired.len hL2
          -- an odd number of a bolt
          refine ⟨.ref p, rfl, 1, rfl, .ref lk, rfl, lk, bs, rfl, .inr hL1, (by show 1 ≤ sizeLine; decide), fun t0 nt0 => ?_⟩
          have e1 := Evl.Ex.new (o := .tup [.int 0]) nt0
          have g0 : (upd H3 t0 (.tup [.int 0])) t0 = some (.tup [.int 0]) := upd_same
          generalize upd H3 t0 (.tup [.int 0]) = H4 at e1 g0
          refine ⟨(by show 6 ≤ sizeLine; decide), fun lo nlo => ?_⟩
          have e2 := Evl.Ex.new (o := .lst [.non, .bl true, .int (-1), .int (bs.length : Nat), .str "0", .ref t0]) nlo
          have glo : (upd H4 lo (.lst [.non, .bl true, .int (-1), .int (bs.length : Nat), .str "0", .ref t0])) lo = some (.lst [.non, .bl true, .int (-1), .int (bs.length : Nat), .str "0", .ref t0]) := upd_same
          have nlop : lo ≠ p := (hp3.ex e1).new1 nlo
          have g02 := e2 _ _ g0
          have hp5 := hp3.ex (e1.trans e2)
          have T5 : Tabs [(tb, lamQ)] (upd H4 lo (.lst [.non, .bl true, .int (-1), .int (bs.length : Nat), .str "0", .ref t0])) := T3.ext (e1.trans e2)
          have hL5 := LockAt.mono (TX.ex (e1.trans e2)) hL
          generalize upd H4 lo (.lst [.non, .bl true, .int (-1), .int (bs.length : Nat), .str "0", .ref t0]) = H5 at e2 glo g02 hp5 T5 hL5
          refine ⟨p, c, lo, _, _, rfl, hp5, by omega, SqL.of glo, nlop, by simp, (show 6 ≤ 1000000 by decide), fun x H6 hx x6 hp6 => ?_⟩
          have fx : ∃ dx, Odd p H6 x dx := by
            have h : ∃ dx, Odd p H5 x dx := by
              simp only [List.mem_cons, List.not_mem_nil, or_false] at hx
              rcases hx with rfl | rfl | rfl | rfl | rfl | rfl
              · exact ⟨_, .inl .non⟩
              · exact ⟨_, .inl (.bl true)⟩
              · exact ⟨_, .inl (.int (-1))⟩
              · exact ⟨_, .inl (.int _)⟩
              · exact ⟨_, .inl (.str "0" (by decide +kernel))⟩
              · exact ⟨_, .inr (.inl ⟨t0, _, _, rfl, rfl, .inl g02, .cons (.int 0) .nil⟩)⟩
            obtain ⟨dx, h⟩ := h
            exact ⟨dx, h.exx hp5 x6⟩
          have T6 := tabs_exx ntp hp5 x6 T5
          have hL6 := LockAt.mono (hp5.tx x6) hL5
          obtain ⟨lk6, bs6, elk6, hL16, hL26⟩ := id hL6
          cases elk6
          have bl6 : bs6.length = l.length := Paired.len hL26
          -- a drawn one, mostly
          refine ⟨.ref p, rfl, .ref p, rfl, .ref lk, rfl, lk, bs6, rfl, .inr hL16, p, c, (bs6.length : Nat), _, rfl, hp6, by omega, by omega, by omega, fun r H7 r0 r1 x7 hp7 => ?_⟩
          refine ⟨(by show 1 ≤ sizeLine; decide), fun la nla => ?_⟩
          have e8 := Evl.Ex.new (o := .lst [.int r]) nla
          have gla : (upd H7 la (.lst [.int r])) la = some (.lst [.int r]) := upd_same
          generalize upd H7 la (.lst [.int r]) = H8 at e8 gla
          refine ⟨la, 6, _, rfl, rfl, gla, by decide, by decide, (show 1 * 6 ≤ sizeLine by decide), fun lb nlb => ?_⟩
          have e9 := Evl.Ex.new (o := .lst (List.replicate (Int.toNat 6) [V.int r]).flatten) nlb
          have glb : (upd H8 lb (.lst (List.replicate (Int.toNat 6) [V.int r]).flatten)) lb = some (.lst (List.replicate (Int.toNat 6) [V.int r]).flatten) := upd_same
          generalize upd H8 lb (.lst (List.replicate (Int.toNat 6) [V.int r]).flatten) = H9 at e9 glb
          refine ⟨x, rfl, (by show 1 ≤ sizeLine; decide), fun lc nlc => ?_⟩
          have e10 := Evl.Ex.new (o := .lst [x]) nlc
          have glc : (upd H9 lc (.lst [x])) lc = some (.lst [x]) := upd_same
          generalize upd H9 lc (.lst [x]) = H10 at e10 glc
          refine ⟨lb, lc, _, _, rfl, rfl, e10 _ _ glb, glc, (show 7 ≤ sizeLine by decide), fun ld nld => ?_⟩
          have e11 := Evl.Ex.new (o := .lst ((List.replicate (Int.toNat 6) [V.int r]).flatten ++ [x])) nld
          have gld : (upd H10 ld (.lst ((List.replicate (Int.toNat 6) [V.int r]).flatten ++ [x]))) ld = some (.lst ((List.replicate (Int.toNat 6) [V.int r]).flatten ++ [x])) := upd_same
          have e711 := e8.trans (e9.trans (e10.trans e11))
          have hp10 := hp7.ex (e8.trans (e9.trans e10))
          have nldp : ld ≠ p := hp10.new1 nld
          have hp11 := hp7.ex e711
          have T11 : Tabs [(tb, lamQ)] (upd H10 ld (.lst ((List.replicate (Int.toNat 6) [V.int r]).flatten ++ [x]))) := (tabs_exx ntp hp6 x7 T6).ext e711
          have hL11 := LockAt.mono (TX.ex e711) (LockAt.mono (hp6.tx x7) hL6)
          have fx11 : ∃ dx, Odd p (upd H10 ld (.lst ((List.replicate (Int.toNat 6) [V.int r]).flatten ++ [x]))) x dx := by
            obtain ⟨dx, h⟩ := fx
            exact ⟨dx, (h.exx hp6 x7).exx hp7 (Exx.ex e711)⟩
          generalize upd H10 ld (.lst ((List.replicate (Int.toNat 6) [V.int r]).flatten ++ [x])) = H11 at e11 gld e711 hp11 T11 hL11 fx11
          refine ⟨p, c, ld, _, _, rfl, hp11, by omega, SqL.of gld, nldp, by simp, (show 7 ≤ 1000000 by decide), fun y H12 hy x12 hp12 => ?_⟩
          obtain ⟨dy, fy⟩ : ∃ dy, Odd p H12 y dy := by
            have h : ∃ dy, Odd p H11 y dy := by
              rcases List.mem_append.mp hy with h | h
              · have e : y = .int r := by
                  have z : (List.replicate (Int.toNat 6) [V.int r]).flatten = [.int r, .int r, .int r, .int r, .int r, .int r] := rfl
                  rw [z] at h
                  simpa using h
                rw [e]
                exact ⟨_, .inl (.int r)⟩
              · rw [List.mem_singleton.mp h]
                exact fx11
            obtain ⟨dy, h⟩ := h
            exact ⟨dy, h.exx hp11 x12⟩
          have T12 := tabs_exx ntp hp11 x12 T11
          have hL12 := LockAt.mono (hp11.tx x12) hL11
          -- the names
          refine ⟨.ref p, rfl, .ref lk, rfl, y, rfl, p, c, _, .ref lk, y, l, dy, rfl, hp12, by omega, hL12, ok, fy, fun H13 z ez x13 hp13 fz fl kn => ?_⟩
          have fy13 := fy.exx hp12 x13
          have T13 := tabs_exx ntp hp12 x13 T12
          have hL13 := LockAt.mono (hp12.tx x13) hL12
          have fL := fine_L ok
          refine ⟨.ref lk, rfl, lk, dL l, rfl, dp_L hL13, fL.sho, PyData.hasDict_of_canLay _ fL.lay, Nat.le_trans fL.dep (by decide), Nat.le_trans fL.len (by decide), ?_⟩
          refine ⟨(by show 2 ≤ sizeLine; decide), fun tt ntt => ?_⟩
          have e14 := Evl.Ex.new (o := .tup [z, .str (dL l).shown]) ntt
          have gtt : (upd H13 tt (.tup [z, .str (dL l).shown])) tt = some (.tup [z, .str (dL l).shown]) := upd_same
          generalize upd H13 tt (.tup [z, .str (dL l).shown]) = H14 at e14 gtt
          refine ⟨tt, _, rfl, .inl (.inl gtt), rfl, _, _, rfl, _, _, rfl, rfl, ?_⟩
          refine ⟨(by show 2 ≤ sizeLine; decide), fun d0 nd0 => ?_⟩
          have e15 := Evl.Ex.new (o := .tup [.str "bolt", .bl true]) nd0
          have gd0 : (upd H14 d0 (.tup [.str "bolt", .bl true])) d0 = some (.tup [.str "bolt", .bl true]) := upd_same
          generalize upd H14 d0 (.tup [.str "bolt", .bl true]) = H15 at e15 gd0
          have e1315 := e14.trans e15
          have hp15 := hp13.ex e1315
          have T15 := T13.ext e1315
          have hL15 := LockAt.mono (TX.ex e1315) hL13
          have fy15 := fy13.exx hp13 (Exx.ex e1315)
          have fz15 := fz.exx hp13 (Exx.ex e1315)
          have kn15 : KnF l dy ez H15 z := KnF.ex e1315 kn
          have hPz : PenAt H15 p c (200000 * (t : Nat) + 160010 + 300 * (i : Nat) + 100) := hp15.mono (by omega)
          clear hp15 hp13 hp12 hp11 hp10 hp7 hp6 hp5 hp3 T13 T12 T11 T6 T5 T3 hL13 hL12 hL11 hL6 hL5 fy13 fy fz fx fx11
          refine ⟨fun σ' H' => ∃ (dv : Addr) (dd : PyData), σ' = [some (.ref a), some (.ref p), some (.int (0 + (t : Nat))), some (.ref lk), some (.int (0 + (i : Nat))), some x, some y, some z, some (.str (dL l).shown), some (.ref dv), y10, y11, y12, y13, y14, y15, y16, y17, y18] ∧ PenAt H' p c (200000 * (t : Nat) + 160010 + 300 * (i : Nat) + 100) ∧ LockAt K H' (.ref lk) l ∧ Tabs [(tb, lamQ)] H' ∧ Odd p H' y dy ∧ Odd p H' z ez ∧ KnF l dy ez H' z ∧ Due K l dy ez H' dv dd, ?_, ?_⟩
          · obtain ⟨lk15, bs15, elk15, hL115, hL215⟩ := id hL15
            cases elk15
            have bl15 : bs15.length = l.length := Paired.len hL215
            refine ⟨y, rfl, .ref lk, rfl, lk, bs15, rfl, .inr hL115, (bs15.length : Nat), 1, rfl, rfl, ?_⟩
            refine ⟨y, dy, 0, _, rfl, fy15.th, ?_⟩
            rw [bl15]
            refine ⟨_, rfl, ?_⟩
            refine ite2 (fun hw => ?_) (fun hw => ?_)
            · obtain ⟨k, rfl, rfl, kl⟩ : ∃ k : Nat, dy = .int (k : Nat) ∧ y = .int (k : Nat) ∧ k < l.length := by
                have hth := fy15.th (K := K)
                cases dy with
                | int n =>
                  cases hth
                  have c2 : (decide (0 ≤ n) && decide (n ≤ (l.length : Int) - 1)) = true := hw
                  simp only [Bool.and_eq_true, decide_eq_true_eq] at c2
                  refine ⟨n.toNat, ?_, ?_, by omega⟩ <;> rw [Int.toNat_of_nonneg c2.1]
                | _ => exact absurd hw (by simp [wholeB])
              obtain ⟨b, hb⟩ : ∃ b, l[k]? = some b := ⟨_, List.getElem?_eq_getElem kl⟩
              have BO := ok.bolts k b hb
              refine ⟨(by show 2 ≤ sizeLine; decide), fun d1 nd1 => ?_⟩
              have e16 := Evl.Ex.new (o := .tup [.str "names", .bl true]) nd1
              have gd1 : (upd H15 d1 (.tup [.str "names", .bl true])) d1 = some (.tup [.str "names", .bl true]) := upd_same
              generalize upd H15 d1 (.tup [.str "names", .bl true]) = H16 at e16 gd1
              obtain ⟨bv, hbv, ⟨a1, c1, gs, rfl, h1, h2, h3⟩⟩ := Paired.get2 hL215 hb
              have fz16 := fz15.exx hPz (Exx.ex e16)
              refine ⟨z, rfl, .ref lk, rfl, .int (k : Nat), rfl, lk, bs15, (k : Nat), .ref a1, rfl, rfl, Evl.ex_t e16 hL115, atI_nat hbv, ?_⟩
              refine ⟨a1, _, 0, .int b.many, rfl, rfl, Evl.ex_t e16 h1, atI_nat (j := 0) rfl, ?_⟩
              refine ⟨z, p, ez, b.many, rfl, fz16, fl, BO.m0, BO.m1, fun H17 e17 => ?_⟩
              have e1517 := e16.trans e17
              refine ⟨_, rfl, ?_⟩
              refine ite2 (fun hn => ?_) (fun hn => ?_)
              · have pl : placesB ez (List.replicate b.many.toNat b.many) = true := by
                  unfold namesB at hn
                  rw [Bool.and_eq_true] at hn
                  exact hn.1
                have ndp : (intsD ez).Nodup := by
                  unfold namesB at hn
                  rw [Bool.and_eq_true] at hn
                  exact of_decide_eq_true hn.2
                obtain ⟨nm, rfl, nl, nb⟩ := places_ints pl
                rw [ints_back] at ndp
                have m0 := BO.m0
                have N : NmOk nm b.many := nmok_of (by omega) nl nb ndp
                obtain ⟨na, rfl, hna⟩ := th_ints (fz15.th (K := K))
                refine ⟨.ref lk, rfl, .int (k : Nat), rfl, .ref na, rfl, .ref lk, na, l, k, b, nm, rfl, LockAt.mono (TX.ex e1517) hL15, ok, hb, N, .inl (rd_ex e1517 hna), fun H18 v' l' e18 hL' R => ?_⟩
                refine ⟨(by show 2 ≤ sizeLine; decide), fun d2 nd2 => ?_⟩
                have e19 := Evl.Ex.new (o := .tup [.str "told", v']) nd2
                have gd2 : (upd H18 d2 (.tup [.str "told", v'])) d2 = some (.tup [.str "told", v']) := upd_same
                generalize upd H18 d2 (.tup [.str "told", v']) = H19 at e19 gd2
                have e1519 := e1517.trans (e18.trans e19)
                exact ⟨d2, _, rfl, hPz.ex e1519, LockAt.mono (TX.ex e1519) hL15, T15.ext e1519, fy15.exx hPz (Exx.ex e1519), fz15.exx hPz (Exx.ex e1519), kn15.ex e1519, .inr (.inr ⟨k, b, nm, l', v', rfl, hb, rfl, N, R, rens_ok ok hb N R, LockAt.mono (TX.ex e19) hL', gd2, rfl⟩)⟩
              · exact ⟨d1, _, rfl, hPz.ex e1517, LockAt.mono (TX.ex e1517) hL15, T15.ext e1517, fy15.exx hPz (Exx.ex e1517), fz15.exx hPz (Exx.ex e1517), kn15.ex e1517, .inr (.inl ⟨k, b, rfl, hb, by simpa using hn, e17 _ _ gd1, rfl⟩)⟩
            · exact ⟨d0, _, rfl, hPz, hL15, T15, fy15, fz15, kn15, .inl ⟨by simpa using hw, gd0, rfl⟩⟩
          · rintro σ' H16 ⟨dv, dd, rfl, hp16, hL16, T16, fy16, fz16, kn16, due⟩
            clear hPz T15 hL15 fy15 fz15 gd0 gtt
            refine ⟨fun σ' H' => σ' = [some (.ref a), some (.ref p), some (.int (0 + (t : Nat))), some (.ref lk), some (.int (0 + (i : Nat))), some x, some y, some z, some (.str (dL l).shown), some (.ref dv), y10, y11, y12, y13, y14, y15, y16, y17, y18] ∧ PenAt H' p c (200000 * (t : Nat) + 160010 + 300 * (i : Nat) + 100) ∧ LockAt K H' (.ref lk) l ∧ Tabs [(tb, lamQ)] H' ∧ Odd p H' y dy ∧ Odd p H' z ez ∧ KnF l dy ez H' z ∧ Due K l dy ez H' dv dd, ?_, ?_⟩
            · refine ⟨T16, fun H17 x17 T17 => ?_⟩
              have tx17 := extN_tx (K := K) x17
              have due17 := due.tx tx17
              have hL17 := LockAt.mono tx17 hL16
              refine ref_read rfl rfl rfl hL17 ok (odd_extN x17 fy16).th (odd_extN x17 fz16).th due17 (fun H18 yy e18 dpy => ?_)
              have due18 := due17.tx (TX.ex e18)
              have hL18 := LockAt.mono (TX.ex e18) hL17
              have fD := due18.fine
              refine ⟨yy, dd, rfl, dpy, fD.sho, PyData.hasDict_of_canLay _ fD.lay, Nat.le_trans fD.dep (by decide), Nat.le_trans fD.len (by decide), ?_⟩
              refine ⟨.ref dv, rfl, dv, dd, rfl, due18.dp, fD.sho, PyData.hasDict_of_canLay _ fD.lay, Nat.le_trans fD.dep (by decide), Nat.le_trans fD.len (by decide), ?_⟩
              refine ⟨rfl, _, rfl, ?_⟩
              refine ite2 (fun hc => absurd hc (by simp)) (fun _ => ?_)
              refine ⟨.ref lk, rfl, lk, dL l, rfl, dp_L hL18, fL.sho, PyData.hasDict_of_canLay _ fL.lay, Nat.le_trans fL.dep (by decide), Nat.le_trans fL.len (by decide), ?_⟩
              refine ⟨.str (dL l).shown, rfl, rfl, _, rfl, ?_⟩
              refine ite2 (fun hc => absurd hc (by simp)) (fun _ => ?_)
              have hp17 := pen_extN x17 hp16
              exact ⟨rfl, hp17.ex e18, hL18, T17.ext e18, (odd_extN x17 fy16).exx hp17 (Exx.ex e18), (odd_extN x17 fz16).exx hp17 (Exx.ex e18), (kn16.extN x17).ex e18, due18⟩
            · rintro σ' H17 ⟨rfl, hp17, hL17, T17, fy17, fz17, kn17, due17⟩
              clear hp16 hL16 T16 fy16 fz16 due
              have keep : ∀ (H' : Hp), PenAt H' p c (200000 * (t : Nat) + 160010 + 300 * (i : Nat) + 100) → LockAt K H' (.ref lk) l → Tabs [(tb, lamQ)] H' → ∃ (lk2 : Addr) (l2 : Lock) (z4 z5 z6 z7 z8 z9 z10 z11 z12 z13 z14 z15 z16 z17 z18 : Option V), ([some (.ref a), some (.ref p), some (.int (0 + (t : Nat))), some (.ref lk), some (.int (0 + (i : Nat))), some x, some y, some z, some (.str (dL l).shown), some (.ref dv), y10, y11, y12, y13, y14, y15, y16, y17, y18] : L2.St) = [some (.ref a), some (.ref p), some (.int (0 + (t : Nat))), some (.ref lk2), z4, z5, z6, z7, z8, z9, z10, z11, z12, z13, z14, z15, z16, z17, z18] ∧ PenAt H' p c (200000 * (t : Nat) + 160010 + 300 * ((i + 1 : Nat))) ∧ LockAt K H' (.ref lk2) l2 ∧ LockOk l2 ∧ Tabs [(tb, lamQ)] H' := fun H' h1 h2 h3 =>
                ⟨lk, l, _, _, _, _, _, _, _, _, _, _, _, _, _, _, _, rfl, h1.mono (by omega), h2, ok, h3⟩
              have d17 := due17
              rcases due17 with ⟨hw, hdv, rfl⟩ | ⟨k, b, rfl, hb, hn, hdv, rfl⟩ | ⟨k, b, nm, l', v', rfl, hb, rfl, N, R, ok', hL', hdv, rfl⟩
              · refine ⟨.ref dv, rfl, dv, _, 0, .str "bolt", rfl, rfl, .inl (.inl hdv), atI_nat (j := 0) rfl, ?_⟩
                refine ⟨rfl, _, rfl, ?_⟩
                refine ite2 (fun hc => absurd hc (by decide)) (fun _ => ?_)
                exact keep H17 hp17 hL17 T17
              · refine ⟨.ref dv, rfl, dv, _, 0, .str "names", rfl, rfl, .inl (.inl hdv), atI_nat (j := 0) rfl, ?_⟩
                refine ⟨rfl, _, rfl, ?_⟩
                refine ite2 (fun hc => absurd hc (by decide)) (fun _ => ?_)
                exact keep H17 hp17 hL17 T17
              refine ⟨.ref dv, rfl, dv, _, 0, .str "told", rfl, rfl, .inl (.inl hdv), atI_nat (j := 0) rfl, ?_⟩
              refine ⟨rfl, _, rfl, ?_⟩
              refine ite2 (fun _ => ?_) (fun hc => absurd (by decide) hc)
              have knz : KnT H17 z := kn17 k b rfl hb (names_true (by have := (ok.bolts k b hb).m0; omega) N)
              obtain ⟨na, rfl, hna⟩ := th_ints (fz17.th (K := K))
              obtain rfl : y = .int (k : Nat) := by
                have h := fy17.th (K := K)
                cases h
                rfl
              obtain ⟨fa, bsf, rfl, hf1, hf2⟩ := id hL'
              have lp : l.length = l'.length := R.1
              -- a stand
              refine ⟨.ref p, rfl, .ref lk, rfl, p, c, .ref lk, l, _, rfl, hp17, by omega, hL17, ok, fun H18 u st x18 hp18 hu hin => ?_⟩
              obtain ⟨ua, rfl, hua⟩ := hu
              have tx18 := hp17.tx (K := K) x18
              have hdv18 := tx18.2 _ _ hdv
              have hna18 : SqT K H18 na (nm.map V.int) := tx18.1 _ _ (.inl hna)
              have knz18 := knz.exx hp17 x18
              have hL18 := LockAt.mono tx18 hL17
              have hF18 := LockAt.mono tx18 hL'
              have T18 := tabs_exx ntp hp17 x18 T17
              refine ⟨.ref dv, rfl, dv, _, 1, .ref fa, rfl, rfl, .inl (.inl hdv18), atI_nat (j := 1) rfl, ?_⟩
              refine ⟨.ref ua, .ref fa, rfl, ?_⟩
              have hs : st.length = l.length := by rw [hin.1, manys_len]
              have kl := (List.getElem?_eq_some_iff.mp hb).1
              have hsk : st[k]? = some (st[k]'(by omega)) := List.getElem?_eq_getElem _
              obtain ⟨s0, s1⟩ := hin.2 k _ _ hsk (manys_at hb)
              refine ⟨fun σ' H' => ∃ ta : Addr, σ' = [some (.ref a), some (.ref p), some (.int (0 + (t : Nat))), some (.ref lk), some (.int (0 + (i : Nat))), some x, some (.int (k : Nat)), some (.ref na), some (.str (dL l).shown), some (.ref dv), some (.ref ua), some (.ref fa), some (.ref ta), y13, y14, y15, y16, y17, y18] ∧ Evl.Ex H18 H' ∧ H' ta = some (.tup ((renW k nm st).map V.int)), ?_, ?_⟩
              · exact renw_read (iw := 10) (ik := 6) (inm := 7) rfl rfl rfl hua hna18 N hsk s0 s1 (by omega) fun H' zt e' hz' => ⟨zt, rfl, e', hz'⟩
              rintro σ' H19 ⟨ta, rfl, e19, hta⟩
              have hp19 := hp18.ex e19
              refine ⟨Nat.zero_le _, fun sl nsl => ?_⟩
              have e20 := Evl.Ex.new (o := .lst []) nsl
              have gsl : (upd H19 sl (.lst [])) sl = some (.lst []) := upd_same
              generalize upd H19 sl (.lst []) = H20 at e20 gsl
              have e1820 := e19.trans e20
              refine ⟨.ref lk, rfl, .ref ua, rfl, .ref lk, .ref ua, l, st, rfl, LockAt.mono (TX.ex e1820) hL18, ok, ⟨ua, rfl, e1820 _ _ hua⟩, hin, fun H21 pr us e21 npr hpr hus => ?_⟩
              have nps : pr ≠ sl := fun zz => by rw [zz, gsl] at npr; cases npr
              refine ⟨pr, rfl, ⟨_, SqL.of hpr⟩, ?_⟩
              have sll := steps_len ok st
              have usl : us.length = (stepsL l st).length := Paired.len hus
              refine for_list (K := K) (a := pr) (xs := us) (fun j σ H' => ∃ (svs : List V) (z14 z15 z16 : Option V), σ = [some (.ref a), some (.ref p), some (.int (0 + (t : Nat))), some (.ref lk), some (.int (0 + (i : Nat))), some x, some (.int (k : Nat)), some (.ref na), some (.str (dL l).shown), some (.ref dv), some (.ref ua), some (.ref fa), some (.ref ta), some (.ref sl), z14, z15, z16, y17, y18] ∧ Evl.Ex H19 H' ∧ H' pr = some (.lst us) ∧ Paired (TrAt H') us (stepsL l st) ∧ H' sl = some (.lst svs) ∧ Paired (TrAt H') svs (((stepsL l st).take j).map (renT k nm)))
                ⟨[], _, _, _, rfl, e20.trans e21, hpr, hus, e21 _ _ gsl, .nil⟩ ?_ ?_ ?_
              · rintro j σ H22 _ ⟨_, _, _, _, _, _, h, _⟩
                exact SqL.of h
              · rintro j xx σ H22 hxx ⟨svs, z14, z15, z16, rfl, e22, hpr22, hus22, hsl22, hsv⟩
                obtain ⟨s, hs3, ⟨sa, rfl, hsa⟩⟩ := Paired.get1 hus22 hxx
                have jl : j < (stepsL l st).length := (List.getElem?_eq_some_iff.mp hs3).1
                have vl : svs.length = j := by
                  have := Paired.len hsv
                  rw [List.length_map, List.length_take] at this
                  omega
                have smem := List.mem_of_getElem? hs3
                refine ⟨sa, _, rfl, .inl (.inl hsa), rfl, _, _, rfl, _, _, rfl, _, _, rfl, rfl, ?_⟩
                refine ⟨.ref sl, rfl, .inl ⟨rfl, _, SqL.of hsl22⟩, .int s.frm, rfl, ?_⟩
                refine ⟨.int s.frm, rfl, .int (k : Nat), rfl, rfl, _, rfl, ?_⟩
                refine ite2 (fun hk => ?_) (fun hk => ?_)
                · have ek : s.frm = (k : Int) := by
                    have h := of_decide_eq_true hk
                    injection h
                  obtain ⟨b2, hb2, g0, g1⟩ := steps_in ok smem ek
                  rw [hb] at hb2
                  cases hb2
                  have zn := atI_nat (map_int_get (nm_get N g0 g1))
                  rw [Int.toNat_of_nonneg g0] at zn
                  refine ⟨.ref na, rfl, .int s.to_, rfl, ?_⟩
                  refine ⟨na, _, s.to_, .int (nmAt nm s.to_), rfl, rfl, Evl.ex_t (e19.trans e22) hna18, zn, ?_⟩
                  have er : (renT k nm s) = ⟨s.frm, nmAt nm s.to_, s.price⟩ := by
                    unfold renT
                    rw [if_pos ek]
                  refine ⟨.int s.price, rfl, ?_⟩
                  refine ⟨(by show 3 ≤ sizeLine; decide), fun tt3 ntt3 => ?_⟩
                  have e23 := Evl.Ex.new (o := .tup [.int s.frm, .int (nmAt nm s.to_), .int s.price]) ntt3
                  have g23 : (upd H22 tt3 (.tup [.int s.frm, .int (nmAt nm s.to_), .int s.price])) tt3 = some (.tup [.int s.frm, .int (nmAt nm s.to_), .int s.price]) := upd_same
                  generalize upd H22 tt3 (.tup [.int s.frm, .int (nmAt nm s.to_), .int s.price]) = H23 at e23 g23
                  have hsl23 := e23 _ _ hsl22
                  refine ⟨sl, svs, _, rfl, rfl, hsl23, Nat.lt_of_le_of_lt (by omega : svs.length ≤ 480) (by decide), svs ++ [.ref tt3], _, _, _, rfl, (e22.trans e23).mut nsl, by rw [upd_ne nps]; exact e23 _ _ hpr22, ?_, upd_same, ?_⟩
                  · exact Paired.imp (fun _ _ h => tr_put hsl23 (TrAt.new e23 h)) hus22
                  · rw [take_succ_get hs3, List.map_append]
                    refine Paired.imp (fun _ _ h => tr_put hsl23 h) (paired_app1 (Paired.imp (fun _ _ => TrAt.new e23) hsv) ?_)
                    rw [er]
                    exact ⟨tt3, rfl, g23⟩
                · have ek : ¬ s.frm = (k : Int) := fun h => hk (decide_eq_true (by rw [h]))
                  refine ⟨.int s.to_, rfl, ?_⟩
                  have er : (renT k nm s) = ⟨s.frm, s.to_, s.price⟩ := by
                    unfold renT
                    rw [if_neg ek]
                  refine ⟨.int s.price, rfl, ?_⟩
                  refine ⟨(by show 3 ≤ sizeLine; decide), fun tt3 ntt3 => ?_⟩
                  have e23 := Evl.Ex.new (o := .tup [.int s.frm, .int (s.to_), .int s.price]) ntt3
                  have g23 : (upd H22 tt3 (.tup [.int s.frm, .int (s.to_), .int s.price])) tt3 = some (.tup [.int s.frm, .int (s.to_), .int s.price]) := upd_same
                  generalize upd H22 tt3 (.tup [.int s.frm, .int (s.to_), .int s.price]) = H23 at e23 g23
                  have hsl23 := e23 _ _ hsl22
                  refine ⟨sl, svs, _, rfl, rfl, hsl23, Nat.lt_of_le_of_lt (by omega : svs.length ≤ 480) (by decide), svs ++ [.ref tt3], _, _, _, rfl, (e22.trans e23).mut nsl, by rw [upd_ne nps]; exact e23 _ _ hpr22, ?_, upd_same, ?_⟩
                  · exact Paired.imp (fun _ _ h => tr_put hsl23 (TrAt.new e23 h)) hus22
                  · rw [take_succ_get hs3, List.map_append]
                    refine Paired.imp (fun _ _ h => tr_put hsl23 h) (paired_app1 (Paired.imp (fun _ _ => TrAt.new e23) hsv) ?_)
                    rw [er]
                    exact ⟨tt3, rfl, g23⟩
              · rintro σ H22 ⟨svs, z14, z15, z16, rfl, e22, hpr22, hus22, hsl22, hsv⟩
                rw [usl, List.take_length] at hsv
                have svl : svs.length = (stepsL l st).length := by rw [Paired.len hsv, List.length_map]
                have e1822 := e19.trans e22
                have hin' := inAll_ren hb N R hin
                refine ⟨fun σ' H' => σ' = [some (.ref a), some (.ref p), some (.int (0 + (t : Nat))), some (.ref lk), some (.int (0 + (i : Nat))), some x, some (.int (k : Nat)), some (.ref na), some (.str (dL l).shown), some (.ref dv), some (.ref ua), some (.ref fa), some (.ref ta), some (.ref sl), z14, z15, z16, y17, y18] ∧ Evl.Ex H22 H', ?_, ?_⟩
                · refine ⟨.ref fa, rfl, .ref ta, rfl, .ref fa, .ref ta, l', renW k nm st, rfl, LockAt.mono (TX.ex e1822) hF18, ok', ⟨ta, rfl, e22 _ _ hta⟩, hin', fun H23 pc cs e23 npc hpc hcs => ?_⟩
                  have wsv : ∀ {vs : List V} {ts : List Tr3}, Paired (TrAt H22) vs ts → Paired (fun v ns => ∃ t, v = V.ref t ∧ H23 t = some (.tup (ns.map V.int))) vs (ts.map w3) := by
                    intro vs ts h
                    induction h with
                    | nil => exact .nil
                    | cons a _ ih =>
                      obtain ⟨ad, rfl, had⟩ := a
                      exact .cons ⟨ad, rfl, e23 _ _ had⟩ ih
                  have wbd : ∀ w ∈ ((stepsL l st).map (renT k nm)).map w3, w.length = 3 ∧ TS.Bd 1000001 w := by
                    intro w hw
                    obtain ⟨s, hs4, rfl⟩ := List.mem_map.mp hw
                    have so := steps_ok ok' ((steps_perm ok hb N R hin).mem_iff.mpr hs4)
                    have f0 := so.f0
                    have f1 := so.f1
                    have t0 := so.t0
                    have t1 := so.t1
                    have p0 := so.p0
                    have p1 := so.p1
                    refine ⟨rfl, fun m hm => ?_⟩
                    unfold w3 at hm
                    simp only [List.mem_cons, List.not_mem_nil, or_false] at hm
                    rcases hm with rfl | rfl | rfl <;> omega
                  refine ⟨.ref sl, rfl, sl, svs, _, 3, 1000001, rfl, SqL.of (e23 _ _ hsl22), .inr (by decide), wsv hsv, wbd, fun ys us2 O yl hys pm pw nO => ?_⟩
                  have eq2 := sorted_steps ok hb N R hin pm pw
                  subst eq2
                  have e24 := Evl.Ex.new (o := .lst ys) nO
                  have gO : (upd H23 O (.lst ys)) O = some (.lst ys) := upd_same
                  generalize upd H23 O (.lst ys) = H24 at e24 gO
                  have trs : ∀ {vs : List V} {ts : List Tr3}, Paired (fun v ns => ∃ t, v = V.ref t ∧ H23 t = some (.tup (ns.map V.int))) vs (ts.map w3) → Paired (TrAt H24) vs ts := by
                    intro vs ts
                    induction ts generalizing vs with
                    | nil => intro h; cases h; exact .nil
                    | cons s ts ih =>
                      intro h
                      cases h with
                      | cons a r =>
                        obtain ⟨ad, rfl, had⟩ := a
                        exact .cons ⟨ad, rfl, e24 _ _ had⟩ (ih r)
                  have ft := fine_Ts (ts := stepsL l' (renW k nm st)) (fun t ht => steps_ok ok' ht) (Nat.le_trans (steps_len ok' _) (by decide))
                  refine ⟨.list ((stepsL l' (renW k nm st)).map dT), .list ((stepsL l' (renW k nm st)).map dT), .lst (.inl (.inl (e24 _ _ hpc))) (dp_all (F := TrAt H24) (f := dT) (fun _ _ => dp_T) (Paired.imp (fun _ _ => TrAt.new e24) hcs)), .lst (.inl (.inl gO)) (dp_all (F := TrAt H24) (f := dT) (fun _ _ => dp_T) (trs hys)), ft.shaped (by decide), ft.shaped (by decide), _, rfl, ?_⟩
                  refine ite2 (fun hc => absurd hc (by rw [SeqAt.eqv_refl _ ft.lay]; simp)) (fun _ => ?_)
                  exact ⟨rfl, e23.trans e24⟩
                · rintro σ' H23 ⟨rfl, e23⟩
                  have e1823 := e1822.trans e23
                  refine ⟨fun σ' H' => ∃ ba : Addr, σ' = [some (.ref a), some (.ref p), some (.int (0 + (t : Nat))), some (.ref lk), some (.int (0 + (i : Nat))), some x, some (.int (k : Nat)), some (.ref na), some (.str (dL l).shown), some (.ref dv), some (.ref ua), some (.ref fa), some (.ref ta), some (.ref sl), z14, z15, z16, some (.ref ba), y18] ∧ Evl.Ex H23 H' ∧ H' ba = some (.tup ((backOf nm).map V.int)), ?_, ?_⟩
                  · have hna23 := Evl.ex_t (K := K) e1823 hna18
                    have l4 := N.len
                    have c4 := (ok.bolts k b hb).m1
                    have lnm : (nm.map V.int).length = nm.length := List.length_map ..
                    refine ⟨.ref na, rfl, na, _, rfl, .inr hna23, ((nm.map V.int).length : Nat), rfl, by omega, by omega, fun D0 hD => ?_⟩
                    have toN : (((nm.map V.int).length : Nat) : Int).toNat = nm.length := by omega
                    rw [toN]
                    refine lc_range (lo := 0) (n := nm.length) (fun j H' => Evl.Ex H23 H' ∧ H' D0 = some (.lst (((backOf nm).take j).map V.int))) ⟨Evl.Ex.new hD, upd_same⟩ ?_ ?_
                    · rintro j H24 hj ⟨e24, hD24⟩
                      obtain ⟨i1, i2⟩ := idx_at N (x := (j : Int)) (by omega) (by omega)
                      have kn24 : KnT H24 (.ref na) := (knz18.ex e1823).ex e24
                      refine ⟨rfl, .ref na, rfl, kn24, .int (0 + (j : Nat)), rfl, na, nm, (0 + (j : Nat)), nm.idxOf (j : Int), rfl, rfl, Evl.ex_t e24 hna23, by rw [Int.zero_add]; exact i1, fun m hm hx => ?_, ?_⟩
                      · rw [Int.zero_add] at hx
                        have := (List.getElem?_inj (show m < nm.length by omega) N.nd).mp (hx.trans i1.symm)
                        omega
                      · refine ⟨_, hD24, Nat.lt_of_le_of_lt (by rw [List.length_map, List.length_take]; omega : (((backOf nm).take j).map V.int).length ≤ 4) (by decide), e24.mut hD, ?_⟩
                        rw [upd_same, take_succ_get (back_get N hj), List.map_append]
                        rfl
                    · rintro H24 ⟨e24, hD24⟩
                      rw [← back_len nm, List.take_length] at hD24
                      refine ⟨D0, _, rfl, .inl ⟨SqL.of hD24, fun tb2 ntb2 => ?_⟩⟩
                      exact ⟨tb2, rfl, e24.trans (Evl.Ex.new ntb2), upd_same⟩
                  · rintro σ' H24 ⟨ba, rfl, e24, hba⟩
                    have e1824 := e1823.trans e24
                    have hL24 := LockAt.mono (TX.ex e1824) hL18
                    have hF24 := LockAt.mono (TX.ex e1824) hF18
                    have hp24 := hp18.ex e1824
                    have T24 := T18.ext e1824
                    obtain ⟨b', hb', rb⟩ := R.2 k b hb
                    have Rb := rens_back ok hb N R
                    have m0 := (ok.bolts k b hb).m0
                    have Nb : NmOk (backOf nm) b'.many := by rw [rb.many]; exact back_ok N
                    refine ⟨.ref fa, rfl, .int (k : Nat), rfl, .ref ba, rfl, .ref fa, .int (k : Nat), .ref ba, l', .int (k : Nat), .tuple ((backOf nm).map .int), rfl, hF24, ok', .int _, .tup (.inl hba) (thAll (Paired.imp (fun _ _ h => h.th) (sc_ints _))), fun hw => ?_, fun k2 c2 hd hc2 hn => ?_, fun k2 c2 nm2 hd hc2 he N2 H25 v2 l2 e25 hLz R2 => ?_⟩
                    · rw [whole_at hb'] at hw
                      cases hw
                    · injection hd with hd
                      have ek : k = k2 := by omega
                      subst ek
                      rw [hb'] at hc2
                      cases hc2
                      rw [names_true (by rw [rb.many]; omega) Nb] at hn
                      cases hn
                    · injection hd with hd
                      have ek : k = k2 := by omega
                      subst ek
                      have en := ints_inj he
                      subst en
                      have el := rens_one R2 Rb
                      subst el
                      have fl2 := fine_L ok
                      refine ⟨.ref lk, rfl, dL l2, dL l2, dp_L hLz, dp_L (LockAt.mono (TX.ex e25) hL24), fl2.shaped (by decide), fl2.shaped (by decide), _, rfl, ?_⟩
                      refine ite2 (fun hc => absurd hc (by rw [SeqAt.eqv_refl _ fl2.lay]; simp)) (fun _ => ?_)
                      refine ⟨.ref fa, rfl, ?_⟩
                      exact ⟨fa, l', _, _, _, _, _, _, _, _, _, _, _, _, _, _, _, rfl, (hp24.ex e25).mono (by omega), LockAt.mono (TX.ex e25) hF24, ok', T24.ext e25⟩
        · rintro σ H4 ⟨lk, l, y4, y5, y6, y7, y8, y9, y10, y11, y12, y13, y14, y15, y16, y17, y18, rfl, hp4, hL, ok, T4⟩
          exact ⟨_, _, _, _, _, _, _, _, _, _, _, _, _, _, _, _, _, rfl, hp4.mono (by omega), T4⟩
    · rintro σ H2 ⟨y2, y3, y4, y5, y6, y7, y8, y9, y10, y11, y12, y13, y14, y15, y16, y17, y18, rfl, hp2, T2⟩
      exact q _
end
end Wb

set_option Elab.async false
set_option linter.all false
set_option maxRecDepth 100000
set_option maxHeartbeats 4000000
namespace Wb
open PySem PySem.Spec PyProof.Rows L2 LamX
theorem all_facts {pr : Program} {w : World} {K : PySem.W.Frag} {h : Heap} {mg : Str → Option Value} {fa : Addr} (X : K.In h) (G : h.Ns mainGlobals mg) (hfa : mg "law" = some (.ref fa))
    {cc : Addr} (tb : Addr) (tN : K.lookup tb = none) (tC : PySem.W.codeHdIn K cc tb = true) (tE : h.get? tb = some { cls := .none, data := .fields #[] })
    {f1 : Addr} {oc1 kV1 dc1 pm1 cd1 ct1 : Value} {od1 an1 : Option Addr} {sl1 : Array (Option Value)}
    (a1 : PySem.W.nsIn K mainGlobals "is_whole" = some (some (.ref f1)))
    (l1 : K.lookup f1 = some ⟨oc1, od1, .func (PySem.W.fnOf "is_whole" "is_whole" (defArgs sWhole) (defBody sWhole) (defScope sWhole) .none kV1 dc1 pm1 an1 cd1 ct1), sl1⟩)
    (c1 : PySem.W.codeIn K cd1 "is_whole" = true) (k1 : PySem.W.keepIn K (.ref f1) = true)
    {f2 : Addr} {oc2 kV2 dc2 pm2 cd2 ct2 : Value} {od2 an2 : Option Addr} {sl2 : Array (Option Value)}
    (a2 : PySem.W.nsIn K mainGlobals "is_whole_in" = some (some (.ref f2)))
    (l2 : K.lookup f2 = some ⟨oc2, od2, .func (PySem.W.fnOf "is_whole_in" "is_whole_in" (defArgs sWholeIn) (defBody sWholeIn) (defScope sWholeIn) .none kV2 dc2 pm2 an2 cd2 ct2), sl2⟩)
    (c2 : PySem.W.codeIn K cd2 "is_whole_in" = true) (k2 : PySem.W.keepIn K (.ref f2) = true)
    {f3 : Addr} {oc3 kV3 dc3 pm3 cd3 ct3 : Value} {od3 an3 : Option Addr} {sl3 : Array (Option Value)}
    (a3 : PySem.W.nsIn K mainGlobals "is_tuple_of" = some (some (.ref f3)))
    (l3 : K.lookup f3 = some ⟨oc3, od3, .func (PySem.W.fnOf "is_tuple_of" "is_tuple_of" (defArgs sTupOf) (defBody sTupOf) (defScope sTupOf) .none kV3 dc3 pm3 an3 cd3 ct3), sl3⟩)
    (c3 : PySem.W.codeIn K cd3 "is_tuple_of" = true) (k3 : PySem.W.keepIn K (.ref f3) = true)
    {f4 : Addr} {oc4 kV4 dc4 pm4 cd4 ct4 : Value} {od4 an4 : Option Addr} {sl4 : Array (Option Value)}
    (a4 : PySem.W.nsIn K mainGlobals "are_places" = some (some (.ref f4)))
    (l4 : K.lookup f4 = some ⟨oc4, od4, .func (PySem.W.fnOf "are_places" "are_places" (defArgs sPlaces) (defBody sPlaces) (defScope sPlaces) .none kV4 dc4 pm4 an4 cd4 ct4), sl4⟩)
    (c4 : PySem.W.codeIn K cd4 "are_places" = true) (k4 : PySem.W.keepIn K (.ref f4) = true)
    {f10 : Addr} {oc10 kV10 dc10 pm10 cd10 ct10 : Value} {od10 an10 : Option Addr} {sl10 : Array (Option Value)}
    (a10 : PySem.W.nsIn K mainGlobals "words_of" = some (some (.ref f10)))
    (l10 : K.lookup f10 = some ⟨oc10, od10, .func (PySem.W.fnOf "words_of" "words_of" (defArgs sWords) (defBody sWords) (defScope sWords) .none kV10 dc10 pm10 an10 cd10 ct10), sl10⟩)
    (c10 : PySem.W.codeIn K cd10 "words_of" = true) (k10 : PySem.W.keepIn K (.ref f10) = true)
    {f11 : Addr} {oc11 kV11 dc11 pm11 cd11 ct11 : Value} {od11 an11 : Option Addr} {sl11 : Array (Option Value)}
    (a11 : PySem.W.nsIn K mainGlobals "moves_by_word" = some (some (.ref f11)))
    (l11 : K.lookup f11 = some ⟨oc11, od11, .func (PySem.W.fnOf "moves_by_word" "moves_by_word" (defArgs sMoves) (defBody sMoves) (defScope sMoves) .none kV11 dc11 pm11 an11 cd11 ct11), sl11⟩)
    (c11 : PySem.W.codeIn K cd11 "moves_by_word" = true) (k11 : PySem.W.keepIn K (.ref f11) = true)
    {f19 : Addr} {oc19 kV19 dc19 pm19 cd19 ct19 : Value} {od19 an19 : Option Addr} {sl19 : Array (Option Value)}
    (a19 : PySem.W.nsIn K mainGlobals "fault_of" = some (some (.ref f19)))
    (l19 : K.lookup f19 = some ⟨oc19, od19, .func (PySem.W.fnOf "fault_of" "fault_of" (defArgs sFault) (defBody sFault) (defScope sFault) .none kV19 dc19 pm19 an19 cd19 ct19), sl19⟩)
    (c19 : PySem.W.codeIn K cd19 "fault_of" = true) (k19 : PySem.W.keepIn K (.ref f19) = true)
    {f20 : Addr} {oc20 kV20 dc20 pm20 cd20 ct20 : Value} {od20 an20 : Option Addr} {sl20 : Array (Option Value)}
    (a20 : PySem.W.nsIn K mainGlobals "is_bolt" = some (some (.ref f20)))
    (l20 : K.lookup f20 = some ⟨oc20, od20, .func (PySem.W.fnOf "is_bolt" "is_bolt" (defArgs sBolt) (defBody sBolt) (defScope sBolt) .none kV20 dc20 pm20 an20 cd20 ct20), sl20⟩)
    (c20 : PySem.W.codeIn K cd20 "is_bolt" = true) (k20 : PySem.W.keepIn K (.ref f20) = true)
    {f21 : Addr} {oc21 kV21 dc21 pm21 cd21 ct21 : Value} {od21 an21 : Option Addr} {sl21 : Array (Option Value)}
    (a21 : PySem.W.nsIn K mainGlobals "is_gap" = some (some (.ref f21)))
    (l21 : K.lookup f21 = some ⟨oc21, od21, .func (PySem.W.fnOf "is_gap" "is_gap" (defArgs sGap) (defBody sGap) (defScope sGap) .none kV21 dc21 pm21 an21 cd21 ct21), sl21⟩)
    (c21 : PySem.W.codeIn K cd21 "is_gap" = true) (k21 : PySem.W.keepIn K (.ref f21) = true)
    {f22 : Addr} {oc22 kV22 dc22 pm22 cd22 ct22 : Value} {od22 an22 : Option Addr} {sl22 : Array (Option Value)}
    (a22 : PySem.W.nsIn K mainGlobals "are_ways" = some (some (.ref f22)))
    (l22 : K.lookup f22 = some ⟨oc22, od22, .func (PySem.W.fnOf "are_ways" "are_ways" (defArgs sWays) (defBody sWays) (defScope sWays) .none kV22 dc22 pm22 an22 cd22 ct22), sl22⟩)
    (c22 : PySem.W.codeIn K cd22 "are_ways" = true) (k22 : PySem.W.keepIn K (.ref f22) = true)
    {f23 : Addr} {oc23 kV23 dc23 pm23 cd23 ct23 : Value} {od23 an23 : Option Addr} {sl23 : Array (Option Value)}
    (a23 : PySem.W.nsIn K mainGlobals "manys_of" = some (some (.ref f23)))
    (l23 : K.lookup f23 = some ⟨oc23, od23, .func (PySem.W.fnOf "manys_of" "manys_of" (defArgs sManys) (defBody sManys) (defScope sManys) .none kV23 dc23 pm23 an23 cd23 ct23), sl23⟩)
    (c23 : PySem.W.codeIn K cd23 "manys_of" = true) (k23 : PySem.W.keepIn K (.ref f23) = true)
    {f24 : Addr} {oc24 kV24 dc24 pm24 cd24 ct24 : Value} {od24 an24 : Option Addr} {sl24 : Array (Option Value)}
    (a24 : PySem.W.nsIn K mainGlobals "need_lock" = some (some (.ref f24)))
    (l24 : K.lookup f24 = some ⟨oc24, od24, .func (PySem.W.fnOf "need_lock" "need_lock" (defArgs sNeedL) (defBody sNeedL) (defScope sNeedL) .none kV24 dc24 pm24 an24 cd24 ct24), sl24⟩)
    (c24 : PySem.W.codeIn K cd24 "need_lock" = true) (k24 : PySem.W.keepIn K (.ref f24) = true)
    {f25 : Addr} {oc25 kV25 dc25 pm25 cd25 ct25 : Value} {od25 an25 : Option Addr} {sl25 : Array (Option Value)}
    (a25 : PySem.W.nsIn K mainGlobals "need_stand" = some (some (.ref f25)))
    (l25 : K.lookup f25 = some ⟨oc25, od25, .func (PySem.W.fnOf "need_stand" "need_stand" (defArgs sNeedS) (defBody sNeedS) (defScope sNeedS) .none kV25 dc25 pm25 an25 cd25 ct25), sl25⟩)
    (c25 : PySem.W.codeIn K cd25 "need_stand" = true) (k25 : PySem.W.keepIn K (.ref f25) = true)
    {f26 : Addr} {oc26 kV26 dc26 pm26 cd26 ct26 : Value} {od26 an26 : Option Addr} {sl26 : Array (Option Value)}
    (a26 : PySem.W.nsIn K mainGlobals "can_step" = some (some (.ref f26)))
    (l26 : K.lookup f26 = some ⟨oc26, od26, .func (PySem.W.fnOf "can_step" "can_step" (defArgs sCan) (defBody sCan) (defScope sCan) .none kV26 dc26 pm26 an26 cd26 ct26), sl26⟩)
    (c26 : PySem.W.codeIn K cd26 "can_step" = true) (k26 : PySem.W.keepIn K (.ref f26) = true)
    {f27 : Addr} {oc27 kV27 dc27 pm27 cd27 ct27 : Value} {od27 an27 : Option Addr} {sl27 : Array (Option Value)}
    (a27 : PySem.W.nsIn K mainGlobals "steps_at" = some (some (.ref f27)))
    (l27 : K.lookup f27 = some ⟨oc27, od27, .func (PySem.W.fnOf "steps_at" "steps_at" (defArgs sStepsAt) (defBody sStepsAt) (defScope sStepsAt) .none kV27 dc27 pm27 an27 cd27 ct27), sl27⟩)
    (c27 : PySem.W.codeIn K cd27 "steps_at" = true) (k27 : PySem.W.keepIn K (.ref f27) = true)
    {f31 : Addr} {oc31 kV31 dc31 pm31 cd31 ct31 : Value} {od31 an31 : Option Addr} {sl31 : Array (Option Value)}
    (a31 : PySem.W.nsIn K mainGlobals "need_bolt" = some (some (.ref f31)))
    (l31 : K.lookup f31 = some ⟨oc31, od31, .func (PySem.W.fnOf "need_bolt" "need_bolt" (defArgs sNeedB) (defBody sNeedB) (defScope sNeedB) .none kV31 dc31 pm31 an31 cd31 ct31), sl31⟩)
    (c31 : PySem.W.codeIn K cd31 "need_bolt" = true) (k31 : PySem.W.keepIn K (.ref f31) = true)
    {f32 : Addr} {oc32 kV32 dc32 pm32 cd32 ct32 : Value} {od32 an32 : Option Addr} {sl32 : Array (Option Value)}
    (a32 : PySem.W.nsIn K mainGlobals "told_lock" = some (some (.ref f32)))
    (l32 : K.lookup f32 = some ⟨oc32, od32, .func (PySem.W.fnOf "told_lock" "told_lock" (defArgs sTold) (defBody sTold) (defScope sTold) .none kV32 dc32 pm32 an32 cd32 ct32), sl32⟩)
    (c32 : PySem.W.codeIn K cd32 "told_lock" = true) (k32 : PySem.W.keepIn K (.ref f32) = true)
    {f33 : Addr} {oc33 kV33 dc33 pm33 cd33 ct33 : Value} {od33 an33 : Option Addr} {sl33 : Array (Option Value)}
    (a33 : PySem.W.nsIn K mainGlobals "renamed" = some (some (.ref f33)))
    (l33 : K.lookup f33 = some ⟨oc33, od33, .func (PySem.W.fnOf "renamed" "renamed" (defArgs sRen) (defBody sRen) (defScope sRen) .none kV33 dc33 pm33 an33 cd33 ct33), sl33⟩)
    (c33 : PySem.W.codeIn K cd33 "renamed" = true) (k33 : PySem.W.keepIn K (.ref f33) = true)
    {f34 : Addr} {oc34 kV34 dc34 pm34 cd34 ct34 : Value} {od34 an34 : Option Addr} {sl34 : Array (Option Value)}
    (a34 : PySem.W.nsIn K mainGlobals "bolt_renamed" = some (some (.ref f34)))
    (l34 : K.lookup f34 = some ⟨oc34, od34, .func (PySem.W.fnOf "bolt_renamed" "bolt_renamed" (defArgs sBRen) (defBody sBRen) (defScope sBRen) .none kV34 dc34 pm34 an34 cd34 ct34), sl34⟩)
    (c34 : PySem.W.codeIn K cd34 "bolt_renamed" = true) (k34 : PySem.W.keepIn K (.ref f34) = true)
    {f36 : Addr} {oc36 kV36 dc36 pm36 cd36 ct36 : Value} {od36 an36 : Option Addr} {sl36 : Array (Option Value)}
    (a36 : PySem.W.nsIn K mainGlobals "_law_pen" = some (some (.ref f36)))
    (l36 : K.lookup f36 = some ⟨oc36, od36, .func (PySem.W.fnOf "_law_pen" "_law_pen" (defArgs sPen) (defBody sPen) (defScope sPen) .none kV36 dc36 pm36 an36 cd36 ct36), sl36⟩)
    (c36 : PySem.W.codeIn K cd36 "_law_pen" = true) (k36 : PySem.W.keepIn K (.ref f36) = true)
    {f37 : Addr} {oc37 kV37 dc37 pm37 cd37 ct37 : Value} {od37 an37 : Option Addr} {sl37 : Array (Option Value)}
    (a37 : PySem.W.nsIn K mainGlobals "_law_draw" = some (some (.ref f37)))
    (l37 : K.lookup f37 = some ⟨oc37, od37, .func (PySem.W.fnOf "_law_draw" "_law_draw" (defArgs sDraw) (defBody sDraw) (defScope sDraw) .none kV37 dc37 pm37 an37 cd37 ct37), sl37⟩)
    (c37 : PySem.W.codeIn K cd37 "_law_draw" = true) (k37 : PySem.W.keepIn K (.ref f37) = true)
    {f38 : Addr} {oc38 kV38 dc38 pm38 cd38 ct38 : Value} {od38 an38 : Option Addr} {sl38 : Array (Option Value)}
    (a38 : PySem.W.nsIn K mainGlobals "_law_pick" = some (some (.ref f38)))
    (l38 : K.lookup f38 = some ⟨oc38, od38, .func (PySem.W.fnOf "_law_pick" "_law_pick" (defArgs sPick) (defBody sPick) (defScope sPick) .none kV38 dc38 pm38 an38 cd38 ct38), sl38⟩)
    (c38 : PySem.W.codeIn K cd38 "_law_pick" = true) (k38 : PySem.W.keepIn K (.ref f38) = true)
    {f39 : Addr} {oc39 kV39 dc39 pm39 cd39 ct39 : Value} {od39 an39 : Option Addr} {sl39 : Array (Option Value)}
    (a39 : PySem.W.nsIn K mainGlobals "_law_shuffled" = some (some (.ref f39)))
    (l39 : K.lookup f39 = some ⟨oc39, od39, .func (PySem.W.fnOf "_law_shuffled" "_law_shuffled" (defArgs sShuf) (defBody sShuf) (defScope sShuf) .none kV39 dc39 pm39 an39 cd39 ct39), sl39⟩)
    (c39 : PySem.W.codeIn K cd39 "_law_shuffled" = true) (k39 : PySem.W.keepIn K (.ref f39) = true)
    {f40 : Addr} {oc40 kV40 dc40 pm40 cd40 ct40 : Value} {od40 an40 : Option Addr} {sl40 : Array (Option Value)}
    (a40 : PySem.W.nsIn K mainGlobals "_law_price" = some (some (.ref f40)))
    (l40 : K.lookup f40 = some ⟨oc40, od40, .func (PySem.W.fnOf "_law_price" "_law_price" (defArgs sPrc) (defBody sPrc) (defScope sPrc) .none kV40 dc40 pm40 an40 cd40 ct40), sl40⟩)
    (c40 : PySem.W.codeIn K cd40 "_law_price" = true) (k40 : PySem.W.keepIn K (.ref f40) = true)
    {f41 : Addr} {oc41 kV41 dc41 pm41 cd41 ct41 : Value} {od41 an41 : Option Addr} {sl41 : Array (Option Value)}
    (a41 : PySem.W.nsIn K mainGlobals "_law_bases" = some (some (.ref f41)))
    (l41 : K.lookup f41 = some ⟨oc41, od41, .func (PySem.W.fnOf "_law_bases" "_law_bases" (defArgs sBases) (defBody sBases) (defScope sBases) .none kV41 dc41 pm41 an41 cd41 ct41), sl41⟩)
    (c41 : PySem.W.codeIn K cd41 "_law_bases" = true) (k41 : PySem.W.keepIn K (.ref f41) = true)
    {f42 : Addr} {oc42 kV42 dc42 pm42 cd42 ct42 : Value} {od42 an42 : Option Addr} {sl42 : Array (Option Value)}
    (a42 : PySem.W.nsIn K mainGlobals "_law_cuts" = some (some (.ref f42)))
    (l42 : K.lookup f42 = some ⟨oc42, od42, .func (PySem.W.fnOf "_law_cuts" "_law_cuts" (defArgs sCuts) (defBody sCuts) (defScope sCuts) .none kV42 dc42 pm42 an42 cd42 ct42), sl42⟩)
    (c42 : PySem.W.codeIn K cd42 "_law_cuts" = true) (k42 : PySem.W.keepIn K (.ref f42) = true)
    {f43 : Addr} {oc43 kV43 dc43 pm43 cd43 ct43 : Value} {od43 an43 : Option Addr} {sl43 : Array (Option Value)}
    (a43 : PySem.W.nsIn K mainGlobals "_law_gaps" = some (some (.ref f43)))
    (l43 : K.lookup f43 = some ⟨oc43, od43, .func (PySem.W.fnOf "_law_gaps" "_law_gaps" (defArgs sGaps) (defBody sGaps) (defScope sGaps) .none kV43 dc43 pm43 an43 cd43 ct43), sl43⟩)
    (c43 : PySem.W.codeIn K cd43 "_law_gaps" = true) (k43 : PySem.W.keepIn K (.ref f43) = true)
    {f44 : Addr} {oc44 kV44 dc44 pm44 cd44 ct44 : Value} {od44 an44 : Option Addr} {sl44 : Array (Option Value)}
    (a44 : PySem.W.nsIn K mainGlobals "_law_many" = some (some (.ref f44)))
    (l44 : K.lookup f44 = some ⟨oc44, od44, .func (PySem.W.fnOf "_law_many" "_law_many" (defArgs sMany) (defBody sMany) (defScope sMany) .none kV44 dc44 pm44 an44 cd44 ct44), sl44⟩)
    (c44 : PySem.W.codeIn K cd44 "_law_many" = true) (k44 : PySem.W.keepIn K (.ref f44) = true)
    {f45 : Addr} {oc45 kV45 dc45 pm45 cd45 ct45 : Value} {od45 an45 : Option Addr} {sl45 : Array (Option Value)}
    (a45 : PySem.W.nsIn K mainGlobals "_law_lock" = some (some (.ref f45)))
    (l45 : K.lookup f45 = some ⟨oc45, od45, .func (PySem.W.fnOf "_law_lock" "_law_lock" (defArgs sLock) (defBody sLock) (defScope sLock) .none kV45 dc45 pm45 an45 cd45 ct45), sl45⟩)
    (c45 : PySem.W.codeIn K cd45 "_law_lock" = true) (k45 : PySem.W.keepIn K (.ref f45) = true)
    {f46 : Addr} {oc46 kV46 dc46 pm46 cd46 ct46 : Value} {od46 an46 : Option Addr} {sl46 : Array (Option Value)}
    (a46 : PySem.W.nsIn K mainGlobals "_law_steps" = some (some (.ref f46)))
    (l46 : K.lookup f46 = some ⟨oc46, od46, .func (PySem.W.fnOf "_law_steps" "_law_steps" (defArgs sSteps) (defBody sSteps) (defScope sSteps) .none kV46 dc46 pm46 an46 cd46 ct46), sl46⟩)
    (c46 : PySem.W.codeIn K cd46 "_law_steps" = true) (k46 : PySem.W.keepIn K (.ref f46) = true)
    {f47 : Addr} {oc47 kV47 dc47 pm47 cd47 ct47 : Value} {od47 an47 : Option Addr} {sl47 : Array (Option Value)}
    (a47 : PySem.W.nsIn K mainGlobals "_law_drawn" = some (some (.ref f47)))
    (l47 : K.lookup f47 = some ⟨oc47, od47, .func (PySem.W.fnOf "_law_drawn" "_law_drawn" (defArgs sDrawn) (defBody sDrawn) (defScope sDrawn) .none kV47 dc47 pm47 an47 cd47 ct47), sl47⟩)
    (c47 : PySem.W.codeIn K cd47 "_law_drawn" = true) (k47 : PySem.W.keepIn K (.ref f47) = true)
    {f48 : Addr} {oc48 kV48 dc48 pm48 cd48 ct48 : Value} {od48 an48 : Option Addr} {sl48 : Array (Option Value)}
    (a48 : PySem.W.nsIn K mainGlobals "_law_is_from" = some (some (.ref f48)))
    (l48 : K.lookup f48 = some ⟨oc48, od48, .func (PySem.W.fnOf "_law_is_from" "_law_is_from" (defArgs sFrom) (defBody sFrom) (defScope sFrom) .none kV48 dc48 pm48 an48 cd48 ct48), sl48⟩)
    (c48 : PySem.W.codeIn K cd48 "_law_is_from" = true) (k48 : PySem.W.keepIn K (.ref f48) = true)
    {f49 : Addr} {oc49 kV49 dc49 pm49 cd49 ct49 : Value} {od49 an49 : Option Addr} {sl49 : Array (Option Value)}
    (a49 : PySem.W.nsIn K mainGlobals "_law_renamed" = some (some (.ref f49)))
    (l49 : K.lookup f49 = some ⟨oc49, od49, .func (PySem.W.fnOf "_law_renamed" "_law_renamed" (defArgs sLRen) (defBody sLRen) (defScope sLRen) .none kV49 dc49 pm49 an49 cd49 ct49), sl49⟩)
    (c49 : PySem.W.codeIn K cd49 "_law_renamed" = true) (k49 : PySem.W.keepIn K (.ref f49) = true)
    {f50 : Addr} {oc50 kV50 dc50 pm50 cd50 ct50 : Value} {od50 an50 : Option Addr} {sl50 : Array (Option Value)}
    (a50 : PySem.W.nsIn K mainGlobals "_law_refused" = some (some (.ref f50)))
    (l50 : K.lookup f50 = some ⟨oc50, od50, .func (PySem.W.fnOf "_law_refused" "_law_refused" (defArgs sRefd) (defBody sRefd) (defScope sRefd) .none kV50 dc50 pm50 an50 cd50 ct50), sl50⟩)
    (c50 : PySem.W.codeIn K cd50 "_law_refused" = true) (k50 : PySem.W.keepIn K (.ref f50) = true)
    {f51 : Addr} {oc51 kV51 dc51 pm51 cd51 ct51 : Value} {od51 an51 : Option Addr} {sl51 : Array (Option Value)}
    (a51 : PySem.W.nsIn K mainGlobals "_law_names" = some (some (.ref f51)))
    (l51 : K.lookup f51 = some ⟨oc51, od51, .func (PySem.W.fnOf "_law_names" "_law_names" (defArgs sNames) (defBody sNames) (defScope sNames) .none kV51 dc51 pm51 an51 cd51 ct51), sl51⟩)
    (c51 : PySem.W.codeIn K cd51 "_law_names" = true) (k51 : PySem.W.keepIn K (.ref f51) = true)
    {f52 : Addr} {oc52 kV52 dc52 pm52 cd52 ct52 : Value} {od52 an52 : Option Addr} {sl52 : Array (Option Value)}
    (a52 : PySem.W.nsIn K mainGlobals "_law_are_names" = some (some (.ref f52)))
    (l52 : K.lookup f52 = some ⟨oc52, od52, .func (PySem.W.fnOf "_law_are_names" "_law_are_names" (defArgs sAreN) (defBody sAreN) (defScope sAreN) .none kV52 dc52 pm52 an52 cd52 ct52), sl52⟩)
    (c52 : PySem.W.codeIn K cd52 "_law_are_names" = true) (k52 : PySem.W.keepIn K (.ref f52) = true)
    {f53 : Addr} {oc53 kV53 dc53 pm53 ct53 : Value} {od53 an53 : Option Addr} {sl53 : Array (Option Value)}
    (a53 : PySem.W.nsIn K mainGlobals "law" = some (some (.ref f53)))
    (l53 : K.lookup f53 = some ⟨oc53, od53, .func (PySem.W.fnOf "law" "law" (defArgs sLaw) (defBody sLaw) (defScope sLaw) .none kV53 dc53 pm53 an53 (.ref cc) ct53), sl53⟩)
    (c53 : PySem.W.codeIn K (.ref cc) "law" = true) (k53 : PySem.W.keepIn K (.ref f53) = true)
    {t0 : Tok} (n0 : PySem.W.nsIn K mainGlobals "MOST_BOLTS" = some (some (.int 60 t0)))
    {t1 : Tok} (n1 : PySem.W.nsIn K mainGlobals "FEWEST_PLACES" = some (some (.int 2 t1)))
    {t2 : Tok} (n2 : PySem.W.nsIn K mainGlobals "MOST_PLACES" = some (some (.int 4 t2)))
    {t3 : Tok} (n3 : PySem.W.nsIn K mainGlobals "MOST_WAYS" = some (some (.int 8 t3)))
    {t4 : Tok} (n4 : PySem.W.nsIn K mainGlobals "MOST_WORDS" = some (some (.int 8 t4)))
    {t5 : Tok} (n5 : PySem.W.nsIn K mainGlobals "MOST_PRICE" = some (some (.int 1000000 t5)))
    (z0 : PySem.W.nsIn K mainGlobals "isinstance" = some none)
    (z1 : PySem.W.nsIn K mainGlobals "int" = some none)
    (z2 : PySem.W.nsIn K mainGlobals "bool" = some none)
    (z3 : PySem.W.nsIn K mainGlobals "tuple" = some none)
    (z4 : PySem.W.nsIn K mainGlobals "list" = some none)
    (z5 : PySem.W.nsIn K mainGlobals "len" = some none)
    (z6 : PySem.W.nsIn K mainGlobals "zip" = some none)
    (z7 : PySem.W.nsIn K mainGlobals "all" = some none)
    (z8 : PySem.W.nsIn K mainGlobals "range" = some none)
    (z9 : PySem.W.nsIn K mainGlobals "reversed" = some none)
    (z10 : PySem.W.nsIn K mainGlobals "enumerate" = some none)
    (z11 : PySem.W.nsIn K mainGlobals "sorted" = some none)
    (z12 : PySem.W.nsIn K mainGlobals "set" = some none)
    (z13 : PySem.W.nsIn K mainGlobals "abs" = some none)
    (z14 : PySem.W.nsIn K mainGlobals "repr" = some none)
    (zv : PySem.W.nsIn K mainGlobals "ValueError" = some none)
    {CB : Addr} (xBa : PySem.W.nsIn K mainGlobals "NoBolt" = some (some (.ref CB))) (xBq : PySem.W.excIn K CB [.type "ValueError", .type "Exception", .type "BaseException", .type "object"] "ValueError.__new__" = true) (xBk : PySem.W.keepIn K (.ref CB) = true)
    (xBs : PySem.W.subIn K (.ref CB) (.type "BaseException") = some true) (xBt : PySem.W.typeIn K (.ref CB) = some (.type "type"))
    (xB1 : PySem.W.findIn K (.ref CB) "__getattribute__" = some (some (.builtin "BaseException.__getattribute__"))) (xB2 : PySem.W.findIn K (.ref CB) "__getattr__" = some none) (xB3 : PySem.W.hasDictIn K CB = true)
    (xB4 : PySem.W.findIn K (.ref CB) "__class__" = some (some (.builtin "object.__class__"))) (xB5 : PySem.W.mroIn K CB (.type "object") = some true)
    (xB6 : PySem.W.kitOne K (.ref CB) (.type "ValueError") = some true) (xB7 : PySem.W.exmOne K (.ref CB) (.ref CB) = some true)
    {CN : Addr} (xNa : PySem.W.nsIn K mainGlobals "NoNames" = some (some (.ref CN))) (xNq : PySem.W.excIn K CN [.type "ValueError", .type "Exception", .type "BaseException", .type "object"] "ValueError.__new__" = true) (xNk : PySem.W.keepIn K (.ref CN) = true)
    (xNs : PySem.W.subIn K (.ref CN) (.type "BaseException") = some true) (xNt : PySem.W.typeIn K (.ref CN) = some (.type "type"))
    (xN1 : PySem.W.findIn K (.ref CN) "__getattribute__" = some (some (.builtin "BaseException.__getattribute__"))) (xN2 : PySem.W.findIn K (.ref CN) "__getattr__" = some none) (xN3 : PySem.W.hasDictIn K CN = true)
    (xN4 : PySem.W.findIn K (.ref CN) "__class__" = some (some (.builtin "object.__class__"))) (xN5 : PySem.W.mroIn K CN (.type "object") = some true)
    (xN6 : PySem.W.kitOne K (.ref CN) (.type "ValueError") = some true) (xN7 : PySem.W.exmOne K (.ref CN) (.ref CN) = some true)
    (y1 : PySem.W.specialIn K (.builtin "object.__class__") "__get__" = some (some (.builtin "getset_descriptor.__get__"))) (y2 : PySem.W.takesIn K (.builtin "object.__class__") = some true)
    (y3 : PySem.W.kitOne K (.ref CB) (.ref CN) = some false) (y4 : PySem.W.exmOne K (.ref CN) (.ref CB) = some false) :
    ∃ (fd : FuncData) (cc tb : Addr), h.get? tb = some { cls := .none, data := .fields #[] } ∧ K.lookup tb = none ∧ PySem.W.CodeHd h cc tb ∧ (∀ (t : Shared) (u : Value), BindsTo t fd ⟨[u], []⟩ [("_law_script", u)]) ∧
      (∀ bs : Heap, K.In bs → bs.Ns mainGlobals mg → TabB bs mg cc tb → FnG pr w K mg bs 12 fa fd ["_law_script"] (spLaw K tb)) ∧
      ∀ (I : Hp) (a : Addr) (ns : List Int), I tb = some (.tbl #[]) → SqL K I a (ns.map V.int) → spLaw K tb [.ref a] I (fun v _ => v = .bl true) fun _ _ _ => False := by
  have e := hfa.symm.trans (PySem.W.mg_of X G a53)
  cases e
  have F1 := fun_mk (st := sWhole) l1 c1 k1
  have F2 := fun_mk (st := sWholeIn) l2 c2 k2
  have F3 := fun_mk (st := sTupOf) l3 c3 k3
  have F4 := fun_mk (st := sPlaces) l4 c4 k4
  have F10 := fun_mk (st := sWords) l10 c10 k10
  have F11 := fun_mk (st := sMoves) l11 c11 k11
  have F19 := fun_mk (st := sFault) l19 c19 k19
  have F20 := fun_mk (st := sBolt) l20 c20 k20
  have F21 := fun_mk (st := sGap) l21 c21 k21
  have F22 := fun_mk (st := sWays) l22 c22 k22
  have F23 := fun_mk (st := sManys) l23 c23 k23
  have F24 := fun_mk (st := sNeedL) l24 c24 k24
  have F25 := fun_mk (st := sNeedS) l25 c25 k25
  have F26 := fun_mk (st := sCan) l26 c26 k26
  have F27 := fun_mk (st := sStepsAt) l27 c27 k27
  have F31 := fun_mk (st := sNeedB) l31 c31 k31
  have F32 := fun_mk (st := sTold) l32 c32 k32
  have F33 := fun_mk (st := sRen) l33 c33 k33
  have F34 := fun_mk (st := sBRen) l34 c34 k34
  have F36 := fun_mk (st := sPen) l36 c36 k36
  have F37 := fun_mk (st := sDraw) l37 c37 k37
  have F38 := fun_mk (st := sPick) l38 c38 k38
  have F39 := fun_mk (st := sShuf) l39 c39 k39
  have F40 := fun_mk (st := sPrc) l40 c40 k40
  have F41 := fun_mk (st := sBases) l41 c41 k41
  have F42 := fun_mk (st := sCuts) l42 c42 k42
  have F43 := fun_mk (st := sGaps) l43 c43 k43
  have F44 := fun_mk (st := sMany) l44 c44 k44
  have F45 := fun_mk (st := sLock) l45 c45 k45
  have F46 := fun_mk (st := sSteps) l46 c46 k46
  have F47 := fun_mk (st := sDrawn) l47 c47 k47
  have F48 := fun_mk (st := sFrom) l48 c48 k48
  have F49 := fun_mk (st := sLRen) l49 c49 k49
  have F50 := fun_mk (st := sRefd) l50 c50 k50
  have F51 := fun_mk (st := sNames) l51 c51 k51
  have F52 := fun_mk (st := sAreN) l52 c52 k52
  have F53 := fun_mk (st := sLaw) l53 c53 k53
  have b1 := F1.binds (ps := ["thing"]) fun _ _ _ _ _ _ us hl => match us, hl with | [_], _ => rfl
  have b2 := F2.binds (ps := ["thing", "low", "high"]) fun _ _ _ _ _ _ us hl => match us, hl with | [_, _, _], _ => rfl
  have b3 := F3.binds (ps := ["thing", "low", "high"]) fun _ _ _ _ _ _ us hl => match us, hl with | [_, _, _], _ => rfl
  have b4 := F4.binds (ps := ["thing", "manys"]) fun _ _ _ _ _ _ us hl => match us, hl with | [_, _], _ => rfl
  have b10 := F10.binds (ps := ["lock"]) fun _ _ _ _ _ _ us hl => match us, hl with | [_], _ => rfl
  have b11 := F11.binds (ps := ["lock"]) fun _ _ _ _ _ _ us hl => match us, hl with | [_], _ => rfl
  have b19 := F19.binds (ps := ["thing"]) fun _ _ _ _ _ _ us hl => match us, hl with | [_], _ => rfl
  have b20 := F20.binds (ps := ["thing", "below"]) fun _ _ _ _ _ _ us hl => match us, hl with | [_, _], _ => rfl
  have b21 := F21.binds (ps := ["thing", "many", "below"]) fun _ _ _ _ _ _ us hl => match us, hl with | [_, _, _], _ => rfl
  have b22 := F22.binds (ps := ["thing", "below"]) fun _ _ _ _ _ _ us hl => match us, hl with | [_, _], _ => rfl
  have b23 := F23.binds (ps := ["lock"]) fun _ _ _ _ _ _ us hl => match us, hl with | [_], _ => rfl
  have b24 := F24.binds (ps := ["lock"]) fun _ _ _ _ _ _ us hl => match us, hl with | [_], _ => rfl
  have b25 := F25.binds (ps := ["lock", "thing"]) fun _ _ _ _ _ _ us hl => match us, hl with | [_, _], _ => rfl
  have b26 := F26.binds (ps := ["lock", "stand"]) fun _ _ _ _ _ _ us hl => match us, hl with | [_, _], _ => rfl
  have b27 := F27.binds (ps := ["moves", "stand"]) fun _ _ _ _ _ _ us hl => match us, hl with | [_, _], _ => rfl
  have b31 := F31.binds (ps := ["lock", "thing"]) fun _ _ _ _ _ _ us hl => match us, hl with | [_, _], _ => rfl
  have b32 := F32.binds (ps := ["lock"]) fun _ _ _ _ _ _ us hl => match us, hl with | [_], _ => rfl
  have b33 := F33.binds (ps := ["lock", "k", "names"]) fun _ _ _ _ _ _ us hl => match us, hl with | [_, _, _], _ => rfl
  have b34 := F34.binds (ps := ["bolt", "k", "names"]) fun _ _ _ _ _ _ us hl => match us, hl with | [_, _, _], _ => rfl
  have b36 := F36.binds (ps := ["_law_script"]) fun _ _ _ _ _ _ us hl => match us, hl with | [_], _ => rfl
  have b37 := F37.binds (ps := ["_law_pen_here", "_law_many_here"]) fun _ _ _ _ _ _ us hl => match us, hl with | [_, _], _ => rfl
  have b38 := F38.binds (ps := ["_law_pen_here", "_law_bag"]) fun _ _ _ _ _ _ us hl => match us, hl with | [_, _], _ => rfl
  have b39 := F39.binds (ps := ["_law_pen_here", "_law_bag"]) fun _ _ _ _ _ _ us hl => match us, hl with | [_, _], _ => rfl
  have b40 := F40.binds (ps := ["_law_pen_here", "_law_dear"]) fun _ _ _ _ _ _ us hl => match us, hl with | [_, _], _ => rfl
  have b41 := F41.binds (ps := ["_law_pen_here", "_law_counts", "_law_most"]) fun _ _ _ _ _ _ us hl => match us, hl with | [_, _, _], _ => rfl
  have b42 := F42.binds (ps := ["_law_words", "_law_many_here"]) fun _ _ _ _ _ _ us hl => match us, hl with | [_, _], _ => rfl
  have b43 := F43.binds (ps := ["_law_pen_here", "_law_count", "_law_words", "_law_dear"]) fun _ _ _ _ _ _ us hl => match us, hl with | [_, _, _, _], _ => rfl
  have b44 := F44.binds (ps := ["_law_pen_here", "_law_low"]) fun _ _ _ _ _ _ us hl => match us, hl with | [_, _], _ => rfl
  have b45 := F45.binds (ps := ["_law_pen_here", "_law_many_here", "_law_top", "_law_dear"]) fun _ _ _ _ _ _ us hl => match us, hl with | [_, _, _, _], _ => rfl
  have b46 := F46.binds (ps := ["_law_lock_here", "_law_at"]) fun _ _ _ _ _ _ us hl => match us, hl with | [_, _], _ => rfl
  have b47 := F47.binds (ps := ["_law_pen_here", "_law_lock_here"]) fun _ _ _ _ _ _ us hl => match us, hl with | [_, _], _ => rfl
  have b48 := F48.binds (ps := ["_law_thing", "_law_low", "_law_high"]) fun _ _ _ _ _ _ us hl => match us, hl with | [_, _, _], _ => rfl
  have b49 := F49.binds (ps := ["_law_lock_here", "_law_k", "_law_names_here"]) fun _ _ _ _ _ _ us hl => match us, hl with | [_, _, _], _ => rfl
  have b50 := F50.binds (ps := ["_law_asked"]) fun _ _ _ _ _ _ us hl => match us, hl with | [_], _ => rfl
  have b51 := F51.binds (ps := ["_law_pen_here", "_law_lock_here", "_law_k"]) fun _ _ _ _ _ _ us hl => match us, hl with | [_, _, _], _ => rfl
  have b52 := F52.binds (ps := ["_law_thing", "_law_count"]) fun _ _ _ _ _ _ us hl => match us, hl with | [_, _], _ => rfl
  have B : Bi mg := ⟨PySem.W.mg_none_of X G z0, PySem.W.mg_none_of X G z1, PySem.W.mg_none_of X G z2, PySem.W.mg_none_of X G z3, PySem.W.mg_none_of X G z4, PySem.W.mg_none_of X G z5, PySem.W.mg_none_of X G z6, PySem.W.mg_none_of X G z7, PySem.W.mg_none_of X G z8, PySem.W.mg_none_of X G z9, PySem.W.mg_none_of X G z10, PySem.W.mg_none_of X G z11, PySem.W.mg_none_of X G z12, PySem.W.mg_none_of X G z13, PySem.W.mg_none_of X G z14⟩
  have N : Nu mg := ⟨⟨_, PySem.W.mg_of X G n0⟩, ⟨_, PySem.W.mg_of X G n1⟩, ⟨_, PySem.W.mg_of X G n2⟩, ⟨_, PySem.W.mg_of X G n3⟩, ⟨_, PySem.W.mg_of X G n4⟩, ⟨_, PySem.W.mg_of X G n5⟩⟩
  have D : Pr K mg := ⟨_, _, F1, b1, PySem.W.mg_of X G a1, _, _, F2, b2, PySem.W.mg_of X G a2, _, _, F3, b3, PySem.W.mg_of X G a3, _, _, F4, b4, PySem.W.mg_of X G a4, _, _, F10, b10, PySem.W.mg_of X G a10, _, _, F11, b11, PySem.W.mg_of X G a11, _, _, F19, b19, PySem.W.mg_of X G a19, _, _, F20, b20, PySem.W.mg_of X G a20, _, _, F21, b21, PySem.W.mg_of X G a21, _, _, F22, b22, PySem.W.mg_of X G a22, _, _, F23, b23, PySem.W.mg_of X G a23, _, _, F24, b24, PySem.W.mg_of X G a24, _, _, F25, b25, PySem.W.mg_of X G a25, _, _, F26, b26, PySem.W.mg_of X G a26, _, _, F27, b27, PySem.W.mg_of X G a27, B, N⟩
  have L : Ld K mg := ⟨_, _, F31, b31, PySem.W.mg_of X G a31, _, _, F32, b32, PySem.W.mg_of X G a32, _, _, F33, b33, PySem.W.mg_of X G a33, _, _, F34, b34, PySem.W.mg_of X G a34, _, _, F36, b36, PySem.W.mg_of X G a36, _, _, F37, b37, PySem.W.mg_of X G a37, _, _, F38, b38, PySem.W.mg_of X G a38, _, _, F39, b39, PySem.W.mg_of X G a39, _, _, F40, b40, PySem.W.mg_of X G a40, _, _, F41, b41, PySem.W.mg_of X G a41, _, _, F42, b42, PySem.W.mg_of X G a42, _, _, F43, b43, PySem.W.mg_of X G a43, _, _, F44, b44, PySem.W.mg_of X G a44, _, _, F45, b45, PySem.W.mg_of X G a45, _, _, F46, b46, PySem.W.mg_of X G a46, _, _, F47, b47, PySem.W.mg_of X G a47, _, _, F48, b48, PySem.W.mg_of X G a48, _, _, F49, b49, PySem.W.mg_of X G a49, _, _, F50, b50, PySem.W.mg_of X G a50, _, _, F51, b51, PySem.W.mg_of X G a51, _, _, F52, b52, PySem.W.mg_of X G a52, PySem.W.mg_none_of X G zv⟩
  let NB : XcK K mg "NoBolt" := ⟨CB, PySem.W.mg_of X G xBa, xBq, xBk, xBs, xBt⟩
  let NN : XcK K mg "NoNames" := ⟨CN, PySem.W.mg_of X G xNa, xNq, xNk, xNs, xNt⟩
  have T2 : TwoX K NB.C NN.C := ⟨⟨xB1, xB2, xBs, xB3, xB4, y1, y2, xB5⟩, ⟨xN1, xN2, xNs, xN3, xN4, y1, y2, xN5⟩, xB6, xN6, y3, xB7, xN7, y4⟩
  exact ⟨_, cc, tb, tE, tN, PySem.W.codeHd_of_K X tC, fun t u => .of_eq rfl, fun bs _ _ tbh => ok_law F53 rfl tbh D L NB NN T2, fun I a ns hI hS => ⟨a, ns, rfl, hS, hI, fun _ => rfl⟩⟩
theorem walk_topK {l : PySem.W.OpenLaw} {n k : Nat} {q : Program} {loose : List Str} {XP : (Str → Option Value) → Heap → Prop} {YP : World → Heap → Prop} {d : DefRec} {K : Params → PySem.W.Frag} (sp : PySem.W.Frag → Addr → Sp) {x : Str}
    (hn : l.most = some n) (hn2 : n ≤ sizeLine) (hd : d.params.defaults = []) (room : Room k callerA) (gu : callerA.guards = some [])
    (hY : ∀ (w : World) (h : Heap), YP w h → (K w.params).In h)
    (F : ∀ (w : World) (mg : Str → Option Value) (fa : Addr) (h : Heap), YP w h → (K w.params).In h → h.Ns mainGlobals mg → mg d.name = some (.ref fa) → ∃ (fd : FuncData) (cc tb : Addr),
      h.get? tb = some { cls := .none, data := .fields #[] } ∧ (K w.params).lookup tb = none ∧ PySem.W.CodeHd h cc tb ∧ (∀ (t : Shared) (u : Value), BindsTo t fd ⟨[u], []⟩ [(x, u)]) ∧
      (∀ bs : Heap, (K w.params).In bs → bs.Ns mainGlobals mg → TabB bs mg cc tb → FnG l.prog w (K w.params) mg bs k fa fd [x] (sp (K w.params) tb)) ∧
      ∀ (I : Hp) (a : Addr) (ns : List Int), I tb = some (.tbl #[]) → SqL (K w.params) I a (ns.map V.int) → sp (K w.params) tb [.ref a] I (fun v _ => v = .bl true) fun _ _ _ => False) :
    PySem.W.WalkO q loose XP YP l.row.toRowW d [] (fun f vs => PySem.call f vs) :=
  walk_topT (sp := fun w => sp (K w.params)) hn hn2 hd room gu hY F
end Wb

set_option Elab.async false
set_option linter.all false
set_option maxRecDepth 100000
open PySem PySem.W PyProof.Rows
set_option maxHeartbeats 0 in
theorem PySem.Challenge.cw_waitbolts_k51_places_renamed_holds : PySem.Challenge.rw_waitbolts_k51_places_renamed.Holds := by
  w_on; o_law; k_head; (case hw => w_witness2)
  k_fill
  refine Wb.walk_topK (l := PySem.Challenge.rw_waitbolts_k51_places_renamed) (n := 63) (k := 12) (x := "_law_script") Wb.spLaw rfl (by decide) rfl ⟨rfl, by decide, by decide⟩ rfl (fun w h Y => PySem.W.km_in_of Y) ?F
  case F =>
    intro w mg fa h Y KX G hmg
    refine' Wb.all_facts KX G hmg 314 ?tN ?tC ?tE ?a1 ?l1 ?c1 ?k1 ?a2 ?l2 ?c2 ?k2 ?a3 ?l3 ?c3 ?k3 ?a4 ?l4 ?c4 ?k4 ?a10 ?l10 ?c10 ?k10 ?a11 ?l11 ?c11 ?k11 ?a19 ?l19 ?c19 ?k19 ?a20 ?l20 ?c20 ?k20 ?a21 ?l21 ?c21 ?k21 ?a22 ?l22 ?c22 ?k22 ?a23 ?l23 ?c23 ?k23 ?a24 ?l24 ?c24 ?k24 ?a25 ?l25 ?c25 ?k25 ?a26 ?l26 ?c26 ?k26 ?a27 ?l27 ?c27 ?k27 ?a31 ?l31 ?c31 ?k31 ?a32 ?l32 ?c32 ?k32 ?a33 ?l33 ?c33 ?k33 ?a34 ?l34 ?c34 ?k34 ?a36 ?l36 ?c36 ?k36 ?a37 ?l37 ?c37 ?k37 ?a38 ?l38 ?c38 ?k38 ?a39 ?l39 ?c39 ?k39 ?a40 ?l40 ?c40 ?k40 ?a41 ?l41 ?c41 ?k41 ?a42 ?l42 ?c42 ?k42 ?a43 ?l43 ?c43 ?k43 ?a44 ?l44 ?c44 ?k44 ?a45 ?l45 ?c45 ?k45 ?a46 ?l46 ?c46 ?k46 ?a47 ?l47 ?c47 ?k47 ?a48 ?l48 ?c48 ?k48 ?a49 ?l49 ?c49 ?k49 ?a50 ?l50 ?c50 ?k50 ?a51 ?l51 ?c51 ?k51 ?a52 ?l52 ?c52 ?k52 ?a53 ?l53 ?c53 ?k53 ?n0 ?n1 ?n2 ?n3 ?n4 ?n5 ?z0 ?z1 ?z2 ?z3 ?z4 ?z5 ?z6 ?z7 ?z8 ?z9 ?z10 ?z11 ?z12 ?z13 ?z14 ?zv ?xBa ?xBq ?xBk ?xBs ?xBt ?xB1 ?xB2 ?xB3 ?xB4 ?xB5 ?xB6 ?xB7 ?xNa ?xNq ?xNk ?xNs ?xNt ?xN1 ?xN2 ?xN3 ?xN4 ?xN5 ?xN6 ?xN7 ?y1 ?y2 ?y3 ?y4
    (case a1 => first | k_is | rfl | kernel_rfl)
    (case l1 => first | k_is | rfl | kernel_rfl)
    (case c1 => first | k_is | rfl | kernel_rfl)
    (case k1 => first | k_is | rfl | kernel_rfl)
    (case a2 => first | k_is | rfl | kernel_rfl)
    (case l2 => first | k_is | rfl | kernel_rfl)
    (case c2 => first | k_is | rfl | kernel_rfl)
    (case k2 => first | k_is | rfl | kernel_rfl)
    (case a3 => first | k_is | rfl | kernel_rfl)
    (case l3 => first | k_is | rfl | kernel_rfl)
    (case c3 => first | k_is | rfl | kernel_rfl)
    (case k3 => first | k_is | rfl | kernel_rfl)
    (case a4 => first | k_is | rfl | kernel_rfl)
    (case l4 => first | k_is | rfl | kernel_rfl)
    (case c4 => first | k_is | rfl | kernel_rfl)
    (case k4 => first | k_is | rfl | kernel_rfl)
    (case a10 => first | k_is | rfl | kernel_rfl)
    (case l10 => first | k_is | rfl | kernel_rfl)
    (case c10 => first | k_is | rfl | kernel_rfl)
    (case k10 => first | k_is | rfl | kernel_rfl)
    (case a11 => first | k_is | rfl | kernel_rfl)
    (case l11 => first | k_is | rfl | kernel_rfl)
    (case c11 => first | k_is | rfl | kernel_rfl)
    (case k11 => first | k_is | rfl | kernel_rfl)
    (case a19 => first | k_is | rfl | kernel_rfl)
    (case l19 => first | k_is | rfl | kernel_rfl)
    (case c19 => first | k_is | rfl | kernel_rfl)
    (case k19 => first | k_is | rfl | kernel_rfl)
    (case a20 => first | k_is | rfl | kernel_rfl)
    (case l20 => first | k_is | rfl | kernel_rfl)
    (case c20 => first | k_is | rfl | kernel_rfl)
    (case k20 => first | k_is | rfl | kernel_rfl)
    (case a21 => first | k_is | rfl | kernel_rfl)
    (case l21 => first | k_is | rfl | kernel_rfl)
    (case c21 => first | k_is | rfl | kernel_rfl)
    (case k21 => first | k_is | rfl | kernel_rfl)
    (case a22 => first | k_is | rfl | kernel_rfl)
    (case l22 => first | k_is | rfl | kernel_rfl)
    (case c22 => first | k_is | rfl | kernel_rfl)
    (case k22 => first | k_is | rfl | kernel_rfl)
    (case a23 => first | k_is | rfl | kernel_rfl)
    (case l23 => first | k_is | rfl | kernel_rfl)
    (case c23 => first | k_is | rfl | kernel_rfl)
    (case k23 => first | k_is | rfl | kernel_rfl)
    (case a24 => first | k_is | rfl | kernel_rfl)
    (case l24 => first | k_is | rfl | kernel_rfl)
    (case c24 => first | k_is | rfl | kernel_rfl)
    (case k24 => first | k_is | rfl | kernel_rfl)
    (case a25 => first | k_is | rfl | kernel_rfl)
    (case l25 => first | k_is | rfl | kernel_rfl)
    (case c25 => first | k_is | rfl | kernel_rfl)
    (case k25 => first | k_is | rfl | kernel_rfl)
    (case a26 => first | k_is | rfl | kernel_rfl)
    (case l26 => first | k_is | rfl | kernel_rfl)
    (case c26 => first | k_is | rfl | kernel_rfl)
    (case k26 => first | k_is | rfl | kernel_rfl)
    (case a27 => first | k_is | rfl | kernel_rfl)
    (case l27 => first | k_is | rfl | kernel_rfl)
    (case c27 => first | k_is | rfl | kernel_rfl)
    (case k27 => first | k_is | rfl | kernel_rfl)
    (case a31 => first | k_is | rfl | kernel_rfl)
    (case l31 => first | k_is | rfl | kernel_rfl)
    (case c31 => first | k_is | rfl | kernel_rfl)
    (case k31 => first | k_is | rfl | kernel_rfl)
    (case a32 => first | k_is | rfl | kernel_rfl)
    (case l32 => first | k_is | rfl | kernel_rfl)
    (case c32 => first | k_is | rfl | kernel_rfl)
    (case k32 => first | k_is | rfl | kernel_rfl)
    (case a33 => first | k_is | rfl | kernel_rfl)
    (case l33 => first | k_is | rfl | kernel_rfl)
    (case c33 => first | k_is | rfl | kernel_rfl)
    (case k33 => first | k_is | rfl | kernel_rfl)
    (case a34 => first | k_is | rfl | kernel_rfl)
    (case l34 => first | k_is | rfl | kernel_rfl)
    (case c34 => first | k_is | rfl | kernel_rfl)
    (case k34 => first | k_is | rfl | kernel_rfl)
    (case a36 => first | k_is | rfl | kernel_rfl)
    (case l36 => first | k_is | rfl | kernel_rfl)
    (case c36 => first | k_is | rfl | kernel_rfl)
    (case k36 => first | k_is | rfl | kernel_rfl)
    (case a37 => first | k_is | rfl | kernel_rfl)
    (case l37 => first | k_is | rfl | kernel_rfl)
    (case c37 => first | k_is | rfl | kernel_rfl)
    (case k37 => first | k_is | rfl | kernel_rfl)
    (case a38 => first | k_is | rfl | kernel_rfl)
    (case l38 => first | k_is | rfl | kernel_rfl)
    (case c38 => first | k_is | rfl | kernel_rfl)
    (case k38 => first | k_is | rfl | kernel_rfl)
    (case a39 => first | k_is | rfl | kernel_rfl)
    (case l39 => first | k_is | rfl | kernel_rfl)
    (case c39 => first | k_is | rfl | kernel_rfl)
    (case k39 => first | k_is | rfl | kernel_rfl)
    (case a40 => first | k_is | rfl | kernel_rfl)
    (case l40 => first | k_is | rfl | kernel_rfl)
    (case c40 => first | k_is | rfl | kernel_rfl)
    (case k40 => first | k_is | rfl | kernel_rfl)
    (case a41 => first | k_is | rfl | kernel_rfl)
    (case l41 => first | k_is | rfl | kernel_rfl)
    (case c41 => first | k_is | rfl | kernel_rfl)
    (case k41 => first | k_is | rfl | kernel_rfl)
    (case a42 => first | k_is | rfl | kernel_rfl)
    (case l42 => first | k_is | rfl | kernel_rfl)
    (case c42 => first | k_is | rfl | kernel_rfl)
    (case k42 => first | k_is | rfl | kernel_rfl)
    (case a43 => first | k_is | rfl | kernel_rfl)
    (case l43 => first | k_is | rfl | kernel_rfl)
    (case c43 => first | k_is | rfl | kernel_rfl)
    (case k43 => first | k_is | rfl | kernel_rfl)
    (case a44 => first | k_is | rfl | kernel_rfl)
    (case l44 => first | k_is | rfl | kernel_rfl)
    (case c44 => first | k_is | rfl | kernel_rfl)
    (case k44 => first | k_is | rfl | kernel_rfl)
    (case a45 => first | k_is | rfl | kernel_rfl)
    (case l45 => first | k_is | rfl | kernel_rfl)
    (case c45 => first | k_is | rfl | kernel_rfl)
    (case k45 => first | k_is | rfl | kernel_rfl)
    (case a46 => first | k_is | rfl | kernel_rfl)
    (case l46 => first | k_is | rfl | kernel_rfl)
    (case c46 => first | k_is | rfl | kernel_rfl)
    (case k46 => first | k_is | rfl | kernel_rfl)
    (case a47 => first | k_is | rfl | kernel_rfl)
    (case l47 => first | k_is | rfl | kernel_rfl)
    (case c47 => first | k_is | rfl | kernel_rfl)
    (case k47 => first | k_is | rfl | kernel_rfl)
    (case a48 => first | k_is | rfl | kernel_rfl)
    (case l48 => first | k_is | rfl | kernel_rfl)
    (case c48 => first | k_is | rfl | kernel_rfl)
    (case k48 => first | k_is | rfl | kernel_rfl)
    (case a49 => first | k_is | rfl | kernel_rfl)
    (case l49 => first | k_is | rfl | kernel_rfl)
    (case c49 => first | k_is | rfl | kernel_rfl)
    (case k49 => first | k_is | rfl | kernel_rfl)
    (case a50 => first | k_is | rfl | kernel_rfl)
    (case l50 => first | k_is | rfl | kernel_rfl)
    (case c50 => first | k_is | rfl | kernel_rfl)
    (case k50 => first | k_is | rfl | kernel_rfl)
    (case a51 => first | k_is | rfl | kernel_rfl)
    (case l51 => first | k_is | rfl | kernel_rfl)
    (case c51 => first | k_is | rfl | kernel_rfl)
    (case k51 => first | k_is | rfl | kernel_rfl)
    (case a52 => first | k_is | rfl | kernel_rfl)
    (case l52 => first | k_is | rfl | kernel_rfl)
    (case c52 => first | k_is | rfl | kernel_rfl)
    (case k52 => first | k_is | rfl | kernel_rfl)
    (case a53 => first | k_is | rfl | kernel_rfl)
    (case l53 => first | k_is | rfl | kernel_rfl)
    (case c53 => first | k_is | rfl | kernel_rfl)
    (case k53 => first | k_is | rfl | kernel_rfl)
    (case n0 => first | k_is | rfl | kernel_rfl)
    (case n1 => first | k_is | rfl | kernel_rfl)
    (case n2 => first | k_is | rfl | kernel_rfl)
    (case n3 => first | k_is | rfl | kernel_rfl)
    (case n4 => first | k_is | rfl | kernel_rfl)
    (case n5 => first | k_is | rfl | kernel_rfl)
    (case z0 => first | k_is | rfl | kernel_rfl)
    (case z1 => first | k_is | rfl | kernel_rfl)
    (case z2 => first | k_is | rfl | kernel_rfl)
    (case z3 => first | k_is | rfl | kernel_rfl)
    (case z4 => first | k_is | rfl | kernel_rfl)
    (case z5 => first | k_is | rfl | kernel_rfl)
    (case z6 => first | k_is | rfl | kernel_rfl)
    (case z7 => first | k_is | rfl | kernel_rfl)
    (case z8 => first | k_is | rfl | kernel_rfl)
    (case z9 => first | k_is | rfl | kernel_rfl)
    (case z10 => first | k_is | rfl | kernel_rfl)
    (case z11 => first | k_is | rfl | kernel_rfl)
    (case z12 => first | k_is | rfl | kernel_rfl)
    (case z13 => first | k_is | rfl | kernel_rfl)
    (case z14 => first | k_is | rfl | kernel_rfl)
    (case zv => first | k_is | rfl | kernel_rfl)
    (case xBa => first | k_is | rfl | kernel_rfl)
    (case xBq => first | k_is | rfl | kernel_rfl)
    (case xBk => first | k_is | rfl | kernel_rfl)
    (case xBs => first | k_is | rfl | kernel_rfl)
    (case xBt => first | k_is | rfl | kernel_rfl)
    (case xB1 => first | k_is | rfl | kernel_rfl)
    (case xB2 => first | k_is | rfl | kernel_rfl)
    (case xB3 => first | k_is | rfl | kernel_rfl)
    (case xB4 => first | k_is | rfl | kernel_rfl)
    (case xB5 => first | k_is | rfl | kernel_rfl)
    (case xB6 => first | k_is | rfl | kernel_rfl)
    (case xB7 => first | k_is | rfl | kernel_rfl)
    (case xNa => first | k_is | rfl | kernel_rfl)
    (case xNq => first | k_is | rfl | kernel_rfl)
    (case xNk => first | k_is | rfl | kernel_rfl)
    (case xNs => first | k_is | rfl | kernel_rfl)
    (case xNt => first | k_is | rfl | kernel_rfl)
    (case xN1 => first | k_is | rfl | kernel_rfl)
    (case xN2 => first | k_is | rfl | kernel_rfl)
    (case xN3 => first | k_is | rfl | kernel_rfl)
    (case xN4 => first | k_is | rfl | kernel_rfl)
    (case xN5 => first | k_is | rfl | kernel_rfl)
    (case xN6 => first | k_is | rfl | kernel_rfl)
    (case xN7 => first | k_is | rfl | kernel_rfl)
    (case y1 => first | k_is | rfl | kernel_rfl)
    (case y2 => first | k_is | rfl | kernel_rfl)
    (case y3 => first | k_is | rfl | kernel_rfl)
    (case y4 => first | k_is | rfl | kernel_rfl)
    (case tN => first | k_is | rfl | kernel_rfl)
    (case tC => first | k_is | rfl | kernel_rfl)
    (case tE => exact PySem.W.km_tabs_of Y _ (by k_mem))

