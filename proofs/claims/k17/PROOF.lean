import PyProof.Rows.All
import Wide.All
import OpenK.AllK
import Wide.FinOn
import PySem.Challenge.RW_waitbolts_k17_books_weighed
import HandS.Evl
import HandS.Ends
import HandS.Words
import HandS.TupSets
import PyProof.ReprRoads
import PyProof.P3In
import KE.GoesEnum
import HandS.Walk
import HandS.Zip
import KE.GoesMore
import PyProof.EnumMake
import HandS.TupLe
import HandS.TupAny
import HandS.Deep
import HandS.DictComp
import HandS.IsInst
import HandS.RevRange
import HandS.Conv
import HandS.Style
import HandS.Wide
import HandS.WideMore
import HandS.Dict
import HandS.Comp
import HandS.Flow
import HandS.WordsList
import HandS.WordsDict
import HandS.Exc
import HandS.ExcOwn
import PyProof.DictFindH
import HandS.Sort
import HandS.Keys
import HandS.ExcInit
import HandS.ExcField
import HandS.ExcIs
import HandS.ExcValue
import HandS.WordsExc
import HandS.ExcBuiltin
import HandS.TryMany
import HandS.Lambda
import HandS.Small
import HandS.TupMul
import HandS.RaiseMore
set_option Elab.async false
set_option linter.all false
set_option maxRecDepth 100000
set_option maxHeartbeats 2000000
namespace Wb
open PySem PySem.Spec PyProof.Rows L2

/-! ### promises that know that no repr runs around them -/
structure FnG (P : Program) (w : World) (K : PySem.W.Frag) (mg : Str → Option Value) (base : Heap) (k : Nat) (f : Addr) (fd : FuncData) (ps : List Str) (sp : Sp) : Prop where
  len : ∀ vs H Q E, sp vs H Q E → vs.length = ps.length
  go : ∀ (A : Around) (outer : List Env) (s : Shared) (H : Hp) (args : Args) (us : List Value) (vs : List V) (Q : VK) (E : XK),
    A.guards = some [] → Room k A → Env0 P w K mg base A outer s H → BindsTo s fd args (ps.zip us) → Vals vs us → sp vs H Q E →
    codeAny (model P w) A (.call (.ref f) args) (CR CX0 outer P w H s Q E) s

section
variable {P : Program} {w : World} {K : PySem.W.Frag} {mg : Str → Option Value} {base : Heap}
theorem fnG_ok {x qual : Str} {st : Stmt} {f : Addr} {fd : FuncData} {N ps : List Str} {k : Nat} {sp : Sp} (F : Fun K x qual st f fd)
    (S : FnScope N ps (defScope st)) (len : ∀ vs H Q E, sp vs H Q E → vs.length = ps.length)
    (hbody : ∀ (cdv : Value) (A : Around) (outer : List Env) (s : Shared) (H : Hp) (vs : List V) (Q : VK) (E : XK), A.guards = some [] →
      Room k (A.deeper (envOfC qual (defScope st) s.heap.objs.size f cdv)) → sp vs H Q E →
      ∃ t, PSs (cxOf CX0 P w K mg base N qual (defScope st) f cdv A outer s H E).nox (defBody st) t ∧
        t { nx := fun _ H' => Q .non H', rt := Q } (start N vs) H) : FnG P w K mg base (k + 1) f fd ps sp := by
  obtain ⟨oc, od, kV, doc, pm, an, cdv, ct, osl, rfl, lk, hcd⟩ := F.ex
  refine ⟨len, ?_⟩
  intro A outer s H args us vs Q E hgd hr e0 hb r hsp
  have e1 : K.In s.heap := e0.mod.kin.keeps (fun b o e => (e0.bs b o e).1)
  have e2 : s.heap.NoLimit := e0.mod.nolimit.keeps (fun b o e => (e0.bs b o e).1)
  have kinds : ∀ y ∈ ps.zip us, (defScope st).names.lookup y.1 = some .local ∨
      ((defScope st).names.lookup y.1 = some .cell ∧ ((cellsFrom (s.heap.objs.size + 1) (defScope st).names []).lookup y.1).isSome = true) := by
    rintro ⟨n, v⟩ hy
    cases S.par n (List.of_mem_zip hy).1 with
    | inl q => exact .inl q
    | inr q => exact .inr ⟨q, PySem.W.cellsFrom_some _ _ _ (.inl q)⟩
  apply codeAny_call_function hr.depth (e1 _ _ lk) rfl S.co S.gen rfl (PySem.W.codeRec_of e1 hcd)
  apply hb
  apply wpAny_newFunctionEnv_cells S.kind kinds
  intro env he s1 x
  subst he
  refine ⟨e2.keeps x.toInCall.keep, codeAny_func ?_⟩
  obtain ⟨t, ht, hq⟩ := hbody cdv A outer s H vs Q E hgd (hr.deeper _) hsp
  have I := inv_start (CX := CX0) (P := P) (w := w) (qual := qual) (E := E) S hr.hd e0 (len _ _ _ _ hsp) r x
  apply wpAny_mono (ht.nox.run [] s1 (start N vs) H _ I hq)
  · intro fl s' hs
    cases fl
    case next =>
      obtain ⟨σ', H', J, q⟩ := hs
      exact ⟨V.non, H', J.os, J.bare, J.base, J.hok, rfl, q⟩
    case brk => obtain ⟨_, _, _, q⟩ := hs; exact q.elim
    case cont => obtain ⟨_, _, _, q⟩ := hs; exact q.elim
    case ret u =>
      obtain ⟨v, σ', H', J, rv, q⟩ := hs
      exact ⟨v, H', J.os, J.bare, J.base, J.hok, rv, q⟩
  · intro e s' hs
    exact hs
end

section
variable {X : Cx}
/-! ### repr of data -/
def rRepr (K : PySem.W.Frag) : List V → Hp → VK → Prop := fun xs H Q => ∃ (a : Addr) (d : PyData), xs = [.ref a] ∧ Dp K H (.ref a) d ∧ d.showable = true ∧ d.hasDict = false ∧ d.depth ≤ 20 ∧ d.shown.length ≤ sizeLine ∧ Q (.str d.shown) H
theorem call_repr_data (hu : X.A.units + 64 < cLine) (hg : X.A.guards = some []) : CallR X (.builtin "repr") (rRepr X.K) := by
  intro pins s σ H xs us Q I r h
  obtain ⟨a, d, rfl, hd, h1, h2, h3, h4, q⟩ := h
  cases r with
  | cons r1 r2 =>
    cases r2
    obtain ⟨as, rd⟩ := Dp.reads I d _ _ hd r1
    cases r1
    refine repr_of_reads' rd h1 (fun z => by rw [h2] at z; cases z) hg (by omega) (fun _ _ e => e) (fun h' u tk hk => ?_) h4
    exact ⟨.str d.shown, H, I.kept (t' := tk) hk, ⟨u, rfl⟩, q⟩
/-! ### x in a tuple of data -/
def rInTD (K : PySem.W.Frag) : R2 := fun x y H Q => ∃ d ds, Dp K H x d ∧ Dp K H y (.tuple ds) ∧ SeqAt.shaped d = true ∧ SeqAt.shaped (.tuple ds) = true ∧ Q (.bl (ds.any fun z => PyData.eqv z d)) H
theorem op_inTD (hu : X.A.units + 65 < cLine) : OpR X (compareOp .In) (rInTD X.K) := by
  intro pins s σ H x y v u Q I rx ry h
  obtain ⟨d, ds, hd, he, sd, se, q⟩ := h
  obtain ⟨as, r1⟩ := Dp.reads I d x v hd rx
  obtain ⟨bs, r2⟩ := Dp.reads I (.tuple ds) y u he ry
  have hdp := SeqAt.depth_of_shaped sd
  have hcl : PyData.canLayAll0 ds = true := by
    have z := SeqAt.canLay_of_shaped se
    simpa [PyData.canLay0] using z
  refine SeqAt.in_tuple_reads r2 r1 hcl (SeqAt.canLay_of_shaped sd) (by show X.A.units + 1 + min _ _ < cLine; omega) ⟨.bl _, H, I, rfl, q⟩
end
end Wb

set_option Elab.async false
set_option linter.all false
set_option maxRecDepth 100000
set_option maxHeartbeats 2000000
namespace Wb
open PySem PySem.Spec PyProof.Rows L2

/-! ### a list or a tuple that is read: l tells which -/
def SqX (K : PySem.W.Frag) (l : Bool) (H : Hp) (a : Addr) (xs : List V) : Prop := if l = true then SqL K H a xs else SqT K H a xs
def ItAt (l : Bool) (h : Heap) (it a : Addr) (i : Nat) : Prop := if l = true then h.IsListIter it a i else h.IsTupleIter it a i
def SqAt (l : Bool) (h : Heap) (a : Addr) (us : Array Value) : Prop := if l = true then h.IsList a us else h.IsTuple a us
def itObj (l : Bool) (a : Addr) : Obj := if l = true then { cls := .type "list_iterator", data := .fields #[.ref a, .int 0 0] } else { cls := .type "tuple_iterator", data := .fields #[.ref a, .int 0 0] }

theorem itObj_at (l : Bool) {h : Heap} {it a : Addr} (e : h.get? it = some (itObj l a)) : ItAt l h it a 0 := by
  cases l
  · exact ⟨_, e, rfl, rfl⟩
  · exact ⟨_, e, rfl, rfl⟩
theorem ItAt.obj {l : Bool} {h : Heap} {it a : Addr} {i : Nat} (x : ItAt l h it a i) : ∃ o, h.get? it = some o ∧ ∀ v, o.data ≠ .cell v := by
  cases l
  · obtain ⟨o, e, _, d⟩ := x
    exact ⟨o, e, fun v q => by rw [d] at q; cases q⟩
  · obtain ⟨o, e, _, d⟩ := x
    exact ⟨o, e, fun v q => by rw [d] at q; cases q⟩
theorem ItAt.keep {l : Bool} {h h' : Heap} {it a : Addr} {i : Nat} (x : ItAt l h it a i) (k : ∀ o, h.get? it = some o → h'.get? it = some o) : ItAt l h' it a i := by
  cases l
  · exact Heap.IsTupleIter.at x k
  · exact Heap.IsListIter.at x k
theorem draws_at {prog : Program} {w : World} {A : Around} (hh : A.handled = none) (l : Bool) (it a : Addr) (hne : a ≠ it) (us : Array Value) :
    Draws prog w A it [it, a] us.size (fun i v => us[i]? = some v) (fun i h => ItAt l h it a i ∧ SqAt l h a us) := by
  cases l
  · exact Draws.tuple hh it a hne us
  · exact Draws.list hh it a hne us
theorem begins_at (l : Bool) (a : Addr) (us : Array Value) : Begins (.ref a) (itObj l a) (fun h => SqAt l h a us) := by
  cases l
  · exact begins_tuple a us
  · exact begins_list a us
section
variable {X : Cx} {pins : List (Addr × Obj)} {σ : L2.St} {H : Hp} {s : Shared}
theorem sqx_vals (I : Inv X pins σ H s) {l : Bool} {a : Addr} {xs : List V} (h : SqX X.K l H a xs) : ∃ us : List Value, Vals xs us ∧ SqAt l s.heap a us.toArray ∧ a < s.heap.objs.size := by
  cases l
  · obtain ⟨us, r, p, _⟩ := I.tuple (a := a) (xs := xs) h
    have p' : s.heap.IsTuple a us.toArray := p
    obtain ⟨o, e, _⟩ := p
    exact ⟨us, r, p', Heap.lt_size e⟩
  · obtain ⟨us, r, p, _⟩ := I.list (a := a) (xs := xs) h
    exact ⟨us, r, p.isList, p.lt⟩
theorem sqx_one (I : Inv X pins σ H s) {l : Bool} {a : Addr} {xs ys : List V} (h : SqX X.K l H a xs) (h' : SqX X.K l H a ys) : xs = ys := by
  cases l
  · exact I.tuple_inj (a := a) h h'
  · exact I.list_inj (a := a) h h'
end

/-! ### zip over any two of them -/
def Itzx (K : PySem.W.Frag) (l m : Bool) (a b : Addr) : It :=
  ⟨fun i H => ∃ (xs ys : List V) (x y : V), SqX K l H a xs ∧ SqX K m H b ys ∧ xs[i]? = some x ∧ ys[i]? = some y,
   fun i H v H' => ∃ T x y, v = .ref T ∧ H T = none ∧ H' = upd H T (.tup [x, y]) ∧ (∀ xs, SqX K l H a xs → xs[i]? = some x) ∧ ∀ ys, SqX K m H b ys → ys[i]? = some y,
   fun i H => ∃ xs ys : List V, SqX K l H a xs ∧ SqX K m H b ys ∧ (i = xs.length ∧ i ≤ ys.length ∨ i = ys.length ∧ i ≤ xs.length)⟩
structure Apart5 (z TI TO i1 i2 a b : Addr) : Prop where
  sep : ZipSep2 z TI TO i1 i2 [i1, a] [i2, b]
  n1 : a ≠ i1
  n2 : b ≠ i2
theorem turn_zx {P : Program} {w : World} {K : PySem.W.Frag} {elts : List Expr} {kk : Nat} {tpos : Pos} {a b z TI TO i1 i2 : Addr} {l m : Bool} (D : Apart5 z TI TO i1 i2 a b) :
    Turn P w K (.Tuple elts kk tpos) (Itzx K l m a b) [z, TI, TO, i1, i2] z
      (fun i h => IsZip h z TI TO .none ∧ IsTupOf2 h TI (.ref i1) (.ref i2) ∧ (∃ x y, IsTupOf2 h TO x y) ∧ ItAt l h i1 a i ∧ ItAt m h i2 b i) where
  mem := by simp
  obj := by
    rintro i h ⟨q1, q2, ⟨x, y, q3⟩, q4, q5⟩ c hc
    simp only [List.mem_cons, List.not_mem_nil, or_false] at hc
    rcases hc with rfl | rfl | rfl | rfl | rfl
    · exact ⟨_, q1, fun v q => nomatch q⟩
    · exact ⟨_, q2, fun v q => nomatch q⟩
    · exact ⟨_, q3, fun v q => nomatch q⟩
    · exact q4.obj
    · exact q5.obj
  keep := by
    rintro i h h' ⟨q1, q2, ⟨x, y, q3⟩, q4, q5⟩ k
    exact ⟨k _ (by simp) _ q1, k _ (by simp) _ q2, ⟨x, y, k _ (by simp) _ q3⟩, q4.keep (k i1 (by simp)), q5.keep (k i2 (by simp))⟩
  item := by
    intro X hP hw hK hc i pins s σ H E I hf st hg
    subst hP hw hK
    obtain ⟨q1, q2, ⟨x0, y0, q3⟩, q4, q5⟩ := st
    obtain ⟨xs, ys, x, y, hx, hy, ex, ey⟩ := hg
    obtain ⟨us, r1, p1, lt1⟩ := sqx_vals I hx
    obtain ⟨vs, r2, p2, lt2⟩ := sqx_vals I hy
    obtain ⟨u, hu, ru⟩ := r1.get ex
    obtain ⟨v, hv, rv⟩ := r2.get ey
    have hh : X.A.in1.handled = none := I.ok.hd hc
    have g1 := draws_at (prog := X.prog) (w := X.w) hh l i1 a D.n1 us.toArray
    have g2 := draws_at (prog := X.prog) (w := X.w) hh m i2 b D.n2 vs.toArray
    have b1 : i < us.toArray.size := by
      have := (List.getElem?_eq_some_iff.mp hu).1
      simpa using this
    have b2 : i < vs.toArray.size := by
      have := (List.getElem?_eq_some_iff.mp hv).1
      simpa using this
    have zl : z < s.heap.objs.size := Heap.lt_size q1
    refine wpAny_pyNext_zipD2_item D.sep g1 g2 q1 q2 q3 ⟨q4, p1⟩ ⟨q5, p2⟩ b1 b2 ?_
    intro u' v' h' tk eu ev z' TO' t1 t2 hT hsz hk
    have eu' : u' = u := by
      have e : us[i]? = some u' := by simpa using eu
      exact Option.some.inj (e.symm.trans hu)
    have ev' : v' = v := by
      have e : vs[i]? = some v' := by simpa using ev
      exact Option.some.inj (e.symm.trans hv)
    subst eu'
    subst ev'
    refine ⟨_, rfl, wpAny_letOwnedTupleGo_zip (s := { s with heap := h', toks := tk }) z' ?_⟩
    intro h2 z2 sb
    have keepT : h2.get? s.heap.objs.size = some { cls := .type "tuple", data := .seq #[u', v'] } := (sb.2 _ (Nat.ne_of_gt zl)).trans hT
    have all : ∀ c o, c ∉ [z, TI, TO, i1, i2] → s.heap.get? c = some o → h2.get? c = some o := by
      intro c o hc e
      simp only [List.mem_cons, List.not_mem_nil, or_false, not_or] at hc
      exact (sb.2 c hc.1).trans (hk c o hc.1 hc.2.2.1 hc.2.2.2.1 hc.2.2.2.2 e)
    have new : ObjOk X.prog X.w (upd H s.heap.objs.size (.tup [x, y])) h2 s.heap.objs.size (.tup [x, y]) :=
      ⟨(by decide : 2 ≤ sizeLine), [u', v'], Paired.cons ru (Paired.cons rv Paired.nil), ⟨_, keepT, rfl, _, rfl⟩⟩
    have J := I.turnedNew (t' := tk) all hf (Nat.le_refl _) new
    refine ⟨.ref s.heap.objs.size, _, J, rfl, ⟨_, x, y, rfl, I.hok.fresh (Nat.le_refl _), rfl, fun xs' h1 => ?_, fun ys' h1 => ?_⟩, ⟨z2, ?_, ⟨u', v', ?_⟩, ?_, ?_⟩, fun c hc => ?_⟩
    · rw [sqx_one I h1 hx]; exact ex
    · rw [sqx_one I h1 hy]; exact ey
    · exact (sb.2 _ D.sep.TIz).trans (hk _ _ D.sep.TIz D.sep.TITO D.sep.TIi1 D.sep.TIi2 q2)
    · exact (sb.2 _ D.sep.TOz).trans TO'
    · exact t1.1.keep fun o e => (sb.2 _ (Ne.symm D.sep.zi1)).trans e
    · exact t2.1.keep fun o e => (sb.2 _ (Ne.symm D.sep.zi2)).trans e
    · have hlt : c < s.heap.objs.size := by
        simp only [List.mem_cons, List.not_mem_nil, or_false] at hc
        rcases hc with rfl | rfl | rfl | rfl | rfl
        · exact zl
        · exact Heap.lt_size q2
        · exact Heap.lt_size q3
        · obtain ⟨o, e, _⟩ := q4.obj; exact Heap.lt_size e
        · obtain ⟨o, e, _⟩ := q5.obj; exact Heap.lt_size e
      rw [upd_ne (Nat.ne_of_lt hlt)]
      exact (hf c hc).1
  done := by
    intro X hP hw hK hc i pins s σ H E I hf st hg
    subst hP hw hK
    obtain ⟨q1, q2, ⟨x0, y0, q3⟩, q4, q5⟩ := st
    obtain ⟨xs, ys, hx, hy, he⟩ := hg
    obtain ⟨us, r1, p1, lt1⟩ := sqx_vals I hx
    obtain ⟨vs, r2, p2, lt2⟩ := sqx_vals I hy
    have hh : X.A.in1.handled = none := I.ok.hd hc
    have g1 := draws_at (prog := X.prog) (w := X.w) hh l i1 a D.n1 us.toArray
    have g2 := draws_at (prog := X.prog) (w := X.w) hh m i2 b D.n2 vs.toArray
    have e1 : us.toArray.size = xs.length := by rw [List.size_toArray, r1.length]
    have e2 : vs.toArray.size = ys.length := by rw [List.size_toArray, r2.length]
    refine wpAny_pyNext_zipD2_end D.sep g1 g2 q1 q2 q3 ⟨q4, p1⟩ ⟨q5, p2⟩ (by omega) (by omega) (by omega) ?_
    intro h' tk hk
    refine ⟨rfl, I.turnedL (t' := tk) (ch := [z, TI, TO, i1, i2]) (fun c o hc e => ?_) hf⟩
    simp only [List.mem_cons, List.not_mem_nil, or_false, not_or] at hc
    exact hk c o hc.1 hc.2.2.1 hc.2.2.2.1 hc.2.2.2.2 e
  self := fun A i s Q E st h => wpAny_pyIter_zip st.1 h

def iZipX (K : PySem.W.Frag) (ta : TA) : TI := fun σ H R => ta σ H fun vs H1 => ∃ l m a b xs ys, vs = [.ref a, .ref b] ∧ SqX K l H1 a xs ∧ SqX K m H1 b ys ∧ R (Itzx K l m a b) H1
theorem pi_zipX {X : Cx} {e e2 : Expr} {ta : TA} {p pos tpos : Pos} {elts : List Expr} {kk : Nat} (hg : Gl X "zip") (hm : X.mg "zip" = none) (ha : PA X [e, e2] ta)
    (hs : starEach [e, e2] X.env = (false, eval e X.env) :: starEach [e2] X.env := by rfl) (hpl : (backTo pos (starEach [e2] X.env)).any (·.1) = false := by rfl) :
    PI X (.Tuple elts kk tpos) (.Call (.Name "zip" p) [e, e2] [] pos) (iZipX X.K ta) := by
  constructor
  intro pins s σ H R I h
  refine Call_ (ld_blt I hg hm PyProof.Rows.boot_zip (PyProof.Rows.callWith_type1 (thn (ha.run pos pins s σ H _ I h) ?_) hs hpl))
  rintro us s1 ⟨vs, H1, I1, r1, l, m, a, b, xs, ys, rfl, hx, hy, q⟩
  obtain ⟨us1, w1, p1, lt1⟩ := sqx_vals I1 hx
  obtain ⟨us2, w2, p2, lt2⟩ := sqx_vals I1 hy
  rcases r1 with _ | ⟨ra, r1⟩
  rcases r1 with _ | ⟨rb, r1⟩
  cases r1
  cases ra
  cases rb
  refine zip_begins2 (begins_at l a us1.toArray) (begins_at m b us2.toArray) p1 p2 ?_
  intro h' hz hTI hTO h1 h2 hsz hk
  refine wpAny_pyIter_zip hz ?_
  have I2 : Inv X pins σ H1 { s1 with heap := h' } := I1.kept (t' := s1.toks) hk
  have D : Apart5 (s1.heap.objs.size + 4) (s1.heap.objs.size + 2) (s1.heap.objs.size + 3) s1.heap.objs.size (s1.heap.objs.size + 1) a b :=
    ⟨zip_sep2 (N := s1.heap.objs.size) (fp1 := [a]) (fp2 := [b]) (by simpa using lt1) (by simpa using lt2), Nat.ne_of_lt lt1, Nat.ne_of_lt (Nat.lt_succ_of_lt lt2)⟩
  refine ⟨s1.heap.objs.size + 4, [s1.heap.objs.size + 4, s1.heap.objs.size + 2, s1.heap.objs.size + 3, s1.heap.objs.size, s1.heap.objs.size + 1], _, _, H1, rfl, I2, turn_zx D, ⟨hz, hTI, ⟨_, _, hTO⟩, itObj_at l h1, itObj_at m h2⟩, ?_, q⟩
  intro c hc
  have hle : s1.heap.objs.size ≤ c := by
    simp only [List.mem_cons, List.not_mem_nil, or_false] at hc
    rcases hc with rfl | rfl | rfl | rfl | rfl
    · exact Nat.le_add_right _ _
    · exact Nat.le_add_right _ _
    · exact Nat.le_add_right _ _
    · exact Nat.le_refl _
    · exact Nat.le_add_right _ _
  exact I1.fpOk hle (I1.hok.fresh hle)
theorem walk_zx {K : PySem.W.Frag} {l m : Bool} {a b : Addr} {xs ys : List V} (hl : xs.length = ys.length) :
    Walk (Itzx K l m a b) xs.length (fun H => SqX K l H a xs ∧ SqX K m H b ys) (YPair (fun i => xs[i]?) (fun i => ys[i]?)) := by
  refine ⟨fun i H hi q => ?_, fun H q => ⟨xs, ys, q.1, q.2, .inl ⟨rfl, by omega⟩⟩, fun i H v H' hi q y => ?_⟩
  · have h2 : i < ys.length := by omega
    exact ⟨xs, ys, xs[i], ys[i], q.1, q.2, by simp [hi], by simp [h2]⟩
  · obtain ⟨T, x, z, h1, h2, h3, h4, h5⟩ := y
    exact ⟨T, x, z, h1, h2, h3, h4 xs q.1, h5 ys q.2⟩

/-! ### enumerate over either -/
def Itex (K : PySem.W.Frag) (l : Bool) (a : Addr) : It :=
  ⟨fun i H => ∃ (xs : List V) (x : V), SqX K l H a xs ∧ xs[i]? = some x,
   fun i H v H' => ∃ T x, v = .ref T ∧ H T = none ∧ H' = upd H T (.tup [.int (i : Nat), x]) ∧ ∀ xs, SqX K l H a xs → xs[i]? = some x,
   fun i H => ∃ xs : List V, SqX K l H a xs ∧ i = xs.length⟩
end Wb

set_option Elab.async false
set_option linter.all false
set_option maxRecDepth 100000
set_option maxHeartbeats 2000000
namespace Wb
open PySem PySem.Spec PyProof.Rows L2
open AutoSeq1 (wpAny_loadPart')

theorem meets_enumT (a : Addr) (us : Array Value) (n : Nat) (dct : Option Addr) (sl : Array (Option Value)) :
    Meets (Builtin.«enumerate.__new__» ⟨[.type "enumerate", .ref a], []⟩) (fun _ R s => s.heap.get? a = some { cls := .type "tuple", dict := dct, data := .seq us n, slots := sl } ∧
      R (.ok (.ret (.ref (s.heap.push (itObj false a)).objs.size)))
        { s with heap := (s.heap.push (itObj false a)).push { cls := .type "enumerate", data := .fields #[.none, .bool false, .ref s.heap.objs.size, rawInt 0, .none, .none] } }) := by
  apply Meets.of_wp
  intro prog w A R s h
  obtain ⟨hp, g, d, tk, os⟩ := s
  obtain ⟨hl, h⟩ := h
  have hsub := sub_enumerate
  have hT : Heap.IsTuple (Shared.heap ⟨hp, g, d, tk, os⟩) a us := ⟨_, hl, rfl, n, rfl⟩
  wp_walk using wpAny_loadPart' hl
  apply wpAny_stack_any
  intro st
  apply wpAny_pure
  split
  · rename_i c _ _ _ _ _
    cases (c == Value.type "enumerate") <;> wp_walk using wpAny_loadPart' hl, wpAny_pyIter_tuple hT
    · exact ⟨_, rfl, h⟩
    · exact ⟨_, rfl, h⟩
  · wp_walk using wpAny_loadPart' hl, wpAny_pyIter_tuple hT
    exact ⟨_, rfl, h⟩
theorem call_enumT {prog : Program} {w : World} {A : Around} {E : Value → Shared → Prop} {s : Shared} {a : Addr} {us : Array Value} {Q : Value → Shared → Prop} (hT : s.heap.IsTuple a us)
    (h : ∀ h', IsEnum h' (s.heap.objs.size + 1) s.heap.objs.size 0 .none → ItAt false h' s.heap.objs.size a 0 → (∀ b o, s.heap.get? b = some o → h'.get? b = some o) → Q (.ref (s.heap.objs.size + 1)) { s with heap := h' }) :
    wpAny (model prog w) A (call (.type "enumerate") [.ref a]) Q E s := by
  obtain ⟨⟨c, dct, dt, sl⟩, hl, hc, n, hd⟩ := hT
  have hc' : c = .type "tuple" := hc
  have hd' : dt = .seq us n := hd
  subst hc' hd'
  refine callType_new F.called_enumerate (by decide) (F.typeCall_enumerate_1 _) (F.newCall_enumerate_1 _) (fun obj => F.args_object_init_2 obj _) F.entry_enumerate_new (meets_enumT a us n dct sl) ⟨hl, ?_⟩
  have sz : (s.heap.push (itObj false a)).objs.size = s.heap.objs.size + 1 := Heap.size_push ..
  have e0 := Heap.get?_push_size (s.heap.push (itObj false a)) (o := { cls := .type "enumerate", data := .fields #[.none, .bool false, .ref s.heap.objs.size, rawInt 0, .none, .none] }) rfl
  rw [sz] at e0
  show _ ∧ _
  rw [sz]
  exact ⟨⟨_, e0, rfl⟩, h _ e0 (itObj_at false (Heap.get?_push_of_some _ (Heap.get?_push_size _ rfl))) fun b o x => Heap.get?_push_of_some _ (Heap.get?_push_of_some _ x)⟩

/-- the tuple at a, item by item, each in a new pair with its number -/
def Itet (K : PySem.W.Frag) (a : Addr) : It :=
  ⟨fun i H => ∃ (xs : List V) (x : V), SqT K H a xs ∧ xs[i]? = some x,
   fun i H v H' => ∃ T x, v = .ref T ∧ H T = none ∧ H' = upd H T (.tup [.int (i : Nat), x]) ∧ ∀ xs, SqT K H a xs → xs[i]? = some x,
   fun i H => ∃ xs : List V, SqT K H a xs ∧ i = xs.length⟩
theorem turn_et {P : Program} {w : World} {K : PySem.W.Frag} {elts : List Expr} {kk : Nat} {tpos : Pos} (a e it : Addr) (hne : e ≠ it) (hea : e ≠ a) (hia : a ≠ it) :
    Turn P w K (.Tuple elts kk tpos) (Itet K a) [e, it] e (fun i h => (∃ old, IsEnum h e it ((i : Nat) : Int) old) ∧ ItAt false h it a i) where
  mem := by simp
  obj := by
    rintro i h ⟨⟨old, q1⟩, q2⟩ b hb
    simp only [List.mem_cons, List.not_mem_nil, or_false] at hb
    rcases hb with rfl | rfl
    · exact ⟨_, q1, fun v q => nomatch q⟩
    · exact q2.obj
  keep := by
    rintro i h h' ⟨⟨old, q1⟩, q2⟩ k
    exact ⟨⟨old, k _ (by simp) _ q1⟩, q2.keep (k it (by simp))⟩
  item := by
    intro X hP hw hK hc i pins s σ H E I hf st hg
    subst hP hw hK
    obtain ⟨⟨old, q1⟩, q2⟩ := st
    obtain ⟨xs, x, hx, ex⟩ := hg
    obtain ⟨us, r1, p1, lt1⟩ := sqx_vals (l := false) I hx
    obtain ⟨u, hu, ru⟩ := r1.get ex
    have hh : X.A.in1.handled = none := I.ok.hd hc
    have g1 := draws_at (prog := X.prog) (w := X.w) hh false it a hia us.toArray
    have b1 : i < us.toArray.size := by
      have := (List.getElem?_eq_some_iff.mp hu).1
      simpa using this
    have el : e < s.heap.objs.size := Heap.lt_size q1
    have il : it < s.heap.objs.size := by obtain ⟨o, z, _⟩ := q2.obj; exact Heap.lt_size z
    refine wpAny_pyNext_enum_itemC g1 q1 ⟨q2, p1⟩ b1 hne (by simp [hne, hea]) ?_
    intro u' h' tk eu ho t1 hT hsz hk
    have eu' : u' = u := by
      have z : us[i]? = some u' := by simpa using eu
      exact Option.some.inj (z.symm.trans hu)
    subst eu'
    refine ⟨_, rfl, wpAny_letOwnedTupleGo_enum (s := { s with heap := h', toks := tk + 1 }) ho ?_⟩
    intro h2 he' sb
    have keepT := (sb.2 _ (Nat.ne_of_gt el)).trans hT
    have all : ∀ c o, c ∉ [e, it] → s.heap.get? c = some o → h2.get? c = some o := by
      intro c o hc z
      simp only [List.mem_cons, List.not_mem_nil, or_false, not_or] at hc
      exact (sb.2 c hc.1).trans (hk c o hc.1 hc.2 z)
    have new : ObjOk X.prog X.w (upd H s.heap.objs.size (.tup [.int (i : Nat), x])) h2 s.heap.objs.size (.tup [.int (i : Nat), x]) :=
      ⟨(by decide : 2 ≤ sizeLine), [.int i tk, u'], Paired.cons ⟨_, rfl⟩ (Paired.cons ru Paired.nil), ⟨_, keepT, rfl, _, rfl⟩⟩
    have J := I.turnedNew (t' := tk + 1) all hf (Nat.le_refl _) new
    refine ⟨.ref s.heap.objs.size, _, J, rfl, ⟨_, x, rfl, I.hok.fresh (Nat.le_refl _), rfl, fun xs' h1 => ?_⟩, ⟨⟨u', ?_⟩, ?_⟩, fun c hc => ?_⟩
    · rw [sqx_one (l := false) I h1 hx]; exact ex
    · have z : ((i + 1 : Nat) : Int) = (i : Int) + 1 := by omega
      rw [z]
      exact he'
    · exact t1.1.keep fun o z => (sb.2 _ (Ne.symm hne)).trans z
    · have hlt : c < s.heap.objs.size := by
        simp only [List.mem_cons, List.not_mem_nil, or_false] at hc
        rcases hc with rfl | rfl
        · exact el
        · exact il
      rw [upd_ne (Nat.ne_of_lt hlt)]
      exact (hf c hc).1
  done := by
    intro X hP hw hK hc i pins s σ H E I hf st hg
    subst hP hw hK
    obtain ⟨⟨old, q1⟩, q2⟩ := st
    obtain ⟨xs, hx, he⟩ := hg
    obtain ⟨us, r1, p1, lt1⟩ := sqx_vals (l := false) I hx
    have hh : X.A.in1.handled = none := I.ok.hd hc
    have g1 := draws_at (prog := X.prog) (w := X.w) hh false it a hia us.toArray
    have e1 : us.toArray.size = i := by rw [List.size_toArray, ← r1.length, he]
    refine wpAny_pyNext_enum_endD g1 q1 (by rw [e1]; exact ⟨q2, p1⟩) ?_
    intro h' eb
    obtain ⟨f0, f1, f2, f3, f4, f5⟩ := hf it (by simp)
    exact ⟨rfl, I.turned (t' := s.toks) (fun b o hb q => eb b o hb q) f0 f1 f3 f4 f5⟩
  self := by
    rintro A i s Q E ⟨⟨old, q1⟩, _⟩ h
    exact wpAny_pyIter_enum q1 h
def iEnumT (K : PySem.W.Frag) (ta : TA) : TI := fun σ H R => ta σ H fun vs H1 => ∃ a xs, vs = [.ref a] ∧ SqT K H1 a xs ∧ R (Itet K a) H1
theorem pi_enumT {X : Cx} {e : Expr} {ta : TA} {p pos tpos : Pos} {elts : List Expr} {kk : Nat} (hg : Gl X "enumerate") (hm : X.mg "enumerate" = none) (ha : PA X [e] ta)
    (hs : starEach [e] X.env = [(false, eval e X.env)] := by rfl) : PI X (.Tuple elts kk tpos) (.Call (.Name "enumerate" p) [e] [] pos) (iEnumT X.K ta) := by
  constructor
  intro pins s σ H R I h
  refine Call_ (ld_blt I hg hm boot_enumerate (PyProof.Rows.callWith_type1 (thn (ha.run pos pins s σ H _ I h) ?_) hs rfl))
  rintro us s1 ⟨vs, H1, I1, r1, a, xs, rfl, hx, q⟩
  obtain ⟨us1, w1, p1, lt1⟩ := sqx_vals (l := false) I1 hx
  rcases r1 with _ | ⟨ra, r1⟩
  cases r1
  cases ra
  refine call_enumT p1 ?_
  intro h' he hit hk
  refine wpAny_pyIter_enum he ?_
  have I2 : Inv X pins σ H1 { s1 with heap := h' } := I1.kept (t' := s1.toks) hk
  refine ⟨s1.heap.objs.size + 1, [s1.heap.objs.size + 1, s1.heap.objs.size], _, _, H1, rfl, I2, turn_et a _ _ (Nat.succ_ne_self _) (Nat.ne_of_gt (Nat.lt_succ_of_lt lt1)) (Nat.ne_of_lt lt1), ⟨⟨.none, he⟩, hit⟩, ?_, q⟩
  intro c hc
  have hle : s1.heap.objs.size ≤ c := by
    simp only [List.mem_cons, List.not_mem_nil, or_false] at hc
    rcases hc with rfl | rfl
    · exact Nat.le_add_right _ _
    · exact Nat.le_refl _
  exact I1.fpOk hle (I1.hok.fresh hle)
theorem walk_et {K : PySem.W.Frag} {a : Addr} {xs : List V} : Walk (Itet K a) xs.length (fun H => SqT K H a xs) (YPair (fun i => some (.int (i : Nat))) (fun i => xs[i]?)) := by
  refine ⟨fun i H hi q => ⟨xs, xs[i], q, by simp [hi]⟩, fun H q => ⟨xs, q, rfl⟩, fun i H v H' hi q y => ?_⟩
  obtain ⟨T, x, h1, h2, h3, h4⟩ := y
  exact ⟨T, .int (i : Nat), x, h1, h2, h3, rfl, h4 xs q⟩
end Wb

set_option Elab.async false
set_option linter.all false
set_option maxRecDepth 100000
set_option maxHeartbeats 2000000
namespace L2
open PySem PySem.Spec PyProof.Rows
section
variable {P : Program} {w : World} {A : Around} {E : Value → Shared → Prop} {s : Shared}
/-- sorted of a set of one tuple, whatever its length -/
theorem sorted_lone {a : Addr} {q : Addr × List Int} {es : Array (Int × Value)} {ep : Nat} {t : SetTable} {Q : Value → Shared → Prop} (R : SetTR P w s.heap a [q] es ep t) (hh : A.handled = none)
    (hQ : ∀ (s' : Shared) (p : Addr) (c : Nat), (∀ b o, s.heap.get? b = some o → s'.heap.get? b = some o) → s'.gens = s.gens → s'.os = s.os → s.heap.objs.size ≤ p →
      s'.heap.get? p = some (seqObj "list" #[.ref q.1] c) → Q (.ref p) s') : wpAny (model P w) A (call (.builtin "sorted") [.ref a]) Q E s := by
  obtain ⟨o, ho, hex, hd⟩ := R.ob
  have sz1 := R.size
  apply Calls.call_function_entry kind_sorted plain_sorted entry_sorted (args_sorted1 _)
  unfold Builtin.«sorted»
  apply wpAny_bind (m := checkCount "sorted" 1 1 _)
  apply wpAny_pure
  apply wpAny_bind
  apply collect_set (A := A.in1) hh ⟨o, ho, hex.1, hd⟩ R.fits (by unfold scanBound; simp at sz1; omega) R.tab.ris R.led
  intro s1 vs k1 hz g1 o1 pm
  have rows1 : es.toList.map (·.2) = [Value.ref q.1] := by
    rw [R.rows]
    rfl
  rw [rows1] at pm
  have evs : vs = [Value.ref q.1] := List.perm_singleton.mp pm
  subst evs
  apply wpAny_bind
  refine wpAny_newList ?_ (show 1 ≤ sizeLine by decide)
  have hoL : (s1.heap.push (seqObj "list" #[Value.ref q.1] 0)).get? s1.heap.objs.size = some (seqObj "list" [Value.ref q.1].toArray 0) := Heap.get?_push_size _ rfl
  apply wpAny_bind
  apply wpAny_holding
  refine wpAny_call_entry (s := { s1 with heap := s1.heap.push (seqObj "list" #[Value.ref q.1] 0) }) slot_list_sort (self := .ref s1.heap.objs.size) ⟨_, hoL, rfl⟩ entry_list_sort ?_ (args_list_sort _)
  refine SK.plain_sort (r := fun _ => 0) hoL (show 1 < 64 by decide) (fun h2 => absurd (show 2 ≤ 1 from h2) (by decide)) ?_
  intro ps out h1 h2 h3
  have eout : out.toList = [Value.ref q.1] := by
    rw [h1]
    have z := h2.map Prod.snd
    exact List.perm_singleton.mp z
  obtain ⟨c, hc⟩ := sortedHeap_at (vs := [Value.ref q.1]) (out := out) hoL
  have eo2 : out = #[Value.ref q.1] := by
    have z := congrArg List.toArray eout
    simpa using z
  subst eo2
  refine ⟨_, rfl, wpAny_pure ⟨_, rfl, hQ _ s1.heap.objs.size c (fun b u e => ?_) g1 o1 hz hc⟩⟩
  have e1 := k1 b u e
  have lt1 := Heap.lt_size e1
  show (sortedHeap (s1.heap.push (seqObj "list" #[Value.ref q.1] 0)) s1.heap.objs.size [Value.ref q.1] #[Value.ref q.1]).get? b = some u
  rw [sortedHeap_old (Nat.ne_of_lt lt1) (by rw [size_push']; exact Nat.lt_succ_of_lt lt1)]
  exact Heap.get?_push_of_some _ e1
end
section
variable {X : Cx}
/-- sorted(set) of tuples of as many ints each -/
def rSortedW (K : PySem.W.Frag) (P : Program) (w : World) : List V → Hp → VK → Prop := fun vs H Q => ∃ (a : Addr) (L : List (Addr × List Int)) (d : Nat) (B : Int), vs = [V.ref a] ∧ H a = some (SetTO P w a L) ∧
  (∀ p ∈ L, SqT K H p.1 (p.2.map V.int)) ∧ (∀ p ∈ L, p.2.length = d ∧ TS.Bd B p.2) ∧ L ≠ [] ∧
  ∀ (L' : List (Addr × List Int)) (p : Addr), L'.Perm L → (L'.map (·.2)).Nodup → L'.length < 64 → L'.Pairwise (fun q r => TS.code B q.2 ≤ TS.code B r.2) → H p = none → Q (.ref p) (upd H p (.lst (L'.map fun q => V.ref q.1)))
theorem cr_sortedW (hc : X.calm = true) : CallR X (.builtin "sorted") (rSortedW X.K X.prog X.w) := by
  intro pins s σ H vs us Q I r h
  obtain ⟨a, L, d, B, e1, ha, hk, hB, hne, q⟩ := h
  by_cases hd : 1 ≤ d
  · exact cr_sortedT hc pins s σ H vs us Q I r ⟨a, L, d, B, e1, ha, hk, hd, hB, q⟩
  · subst e1
    have R0 : SetT0 X.prog X.w s.heap a L := (I.hok a _ ha).1
    obtain ⟨es, ep, t, R⟩ := R0.full fun p hp => I.isT (hk p hp)
    have emp : ∀ p ∈ L, p.2 = [] := fun p hp => List.eq_nil_of_length_eq_zero (by have := (hB p hp).1; omega)
    obtain ⟨p0, rfl⟩ : ∃ p0, L = [p0] := by
      cases L with
      | nil => exact absurd rfl hne
      | cons p0 L1 =>
        cases L1 with
        | nil => exact ⟨p0, rfl⟩
        | cons p1 L2 =>
          exfalso
          have nd := R.nd
          have z0 := emp p0 (by simp)
          have z1 := emp p1 (by simp)
          simp [z0, z1] at nd
    rw [Vals.ref1 r]
    refine sorted_lone R (I.ok.hd hc) ?_
    intro s' p c k g o hp hg
    have hn : H p = none := I.hok.fresh hp
    have J : Inv X pins σ (upd H p (.lst [V.ref p0.1])) { s with heap := s'.heap, gens := s'.gens, drawn := s'.drawn, toks := s'.toks } :=
      I.call (ch := []) (Un.laid k hp hn) (I.hok.laid k hp ⟨(by show 1 ≤ sizeLine; decide), [Value.ref p0.1], c, Paired.cons rfl Paired.nil, hg⟩) (by rw [g]; exact I.bare) (fun _ z => nomatch z)
    have e : s' = { s with heap := s'.heap, gens := s'.gens, drawn := s'.drawn, toks := s'.toks } := by
      cases s'; cases s; cases o; rfl
    rw [e]
    exact ⟨.ref p, _, J, rfl, q [p0] p (List.Perm.refl _) (by simp) (show 1 < 64 by decide) (by simp) hn⟩
end
end L2

set_option Elab.async false
set_option linter.all false
set_option maxRecDepth 100000
set_option maxHeartbeats 2000000
namespace Wb
open PySem PySem.Spec PyProof.Rows L2

/-! ### data -/
abbrev Word := List Int
structure Gap where
  frm : Int
  to_ : Int
  price : Int
  ways : List Word
structure Bolt where
  many : Int
  gaps : List Gap
abbrev Lock := List Bolt

/-- tuples that are read stay -/
def TX (K : PySem.W.Frag) (H H' : Hp) : Prop := (∀ a xs, SqT K H a xs → SqT K H' a xs) ∧ ∀ a xs, H a = some (.tup xs) → H' a = some (.tup xs)
theorem TX.refl (K : PySem.W.Frag) (H : Hp) : TX K H H := ⟨fun _ _ h => h, fun _ _ h => h⟩
theorem TX.trans {K : PySem.W.Frag} {H H1 H2 : Hp} (a : TX K H H1) (b : TX K H1 H2) : TX K H H2 := ⟨fun x o h => b.1 x o (a.1 x o h), fun x o h => b.2 x o (a.2 x o h)⟩
theorem TX.ex {K : PySem.W.Frag} {H H' : Hp} (e : Evl.Ex H H') : TX K H H' := ⟨fun _ _ h => Evl.ex_t e h, fun _ _ h => e _ _ h⟩
/-- all but what stands at p is kept -/
def Exx (p : Addr) (H H' : Hp) : Prop := ∀ a o, a ≠ p → H a = some o → H' a = some o
theorem Exx.refl (p : Addr) (H : Hp) : Exx p H H := fun _ _ _ h => h
theorem Exx.trans {p : Addr} {H H1 H2 : Hp} (a : Exx p H H1) (b : Exx p H1 H2) : Exx p H H2 := fun x o n h => b x o n (a x o n h)
theorem Exx.ex {p : Addr} {H H' : Hp} (e : Evl.Ex H H') : Exx p H H' := fun a o _ h => e a o h
theorem Exx.put {p : Addr} {H : Hp} {o : HO} : Exx p H (upd H p o) := fun a u n h => by rw [upd_ne n]; exact h
theorem Exx.new {p q : Addr} {H : Hp} {o : HO} (h : H q = none) : Exx p H (upd H q o) := Exx.ex (Evl.Ex.new h)
/-- .. where p is no tuple -/
theorem Exx.tx {K : PySem.W.Frag} {p : Addr} {H H' : Hp} (e : Exx p H H') (np : ∀ xs, ¬ Rd H p (.tup xs)) : TX K H H' := by
  refine ⟨fun a xs h => ?_, fun a xs h => e a _ (fun z => np xs (.inl (z ▸ h))) h⟩
  rcases h with h | h
  · have na : a ≠ p := fun z => np xs (z ▸ h)
    rcases h with h | ⟨o, h⟩
    · exact .inl (.inl (e a _ na h))
    · exact .inl (.inr ⟨o, e a _ na h⟩)
  · exact .inr h
theorem Exx.l {K : PySem.W.Frag} {p a : Addr} {H H' : Hp} {xs : List V} (e : Exx p H H') (na : a ≠ p) (h : SqL K H a xs) : SqL K H' a xs := by
  rcases h with (h | ⟨o, h⟩) | h
  · exact .inl (.inl (e a _ na h))
  · exact .inl (.inr ⟨o, e a _ na h⟩)
  · exact .inr h

def Wd (K : PySem.W.Frag) (H : Hp) (v : V) (ns : Word) : Prop := ∃ a, v = .ref a ∧ H a = some (.tup (ns.map V.int))
def GapAt (K : PySem.W.Frag) (H : Hp) (v : V) (g : Gap) : Prop :=
  ∃ a b ws, v = .ref a ∧ SqT K H a [.int g.frm, .int g.to_, .int g.price, .ref b] ∧ SqT K H b ws ∧ Paired (Wd K H) ws g.ways
def BoltAt (K : PySem.W.Frag) (H : Hp) (v : V) (b : Bolt) : Prop := ∃ a c gs, v = .ref a ∧ SqT K H a [.int b.many, .ref c] ∧ SqT K H c gs ∧ Paired (GapAt K H) gs b.gaps
def LockAt (K : PySem.W.Frag) (H : Hp) (v : V) (l : Lock) : Prop := ∃ a bs, v = .ref a ∧ SqT K H a bs ∧ Paired (BoltAt K H) bs l

theorem Paired.imp {α β : Type} {F G : α → β → Prop} (f : ∀ a b, F a b → G a b) : ∀ {l₁ : List α} {l₂ : List β}, Paired F l₁ l₂ → Paired G l₁ l₂
  | _, _, .nil => .nil
  | _, _, .cons r t => .cons (f _ _ r) (Paired.imp f t)
section
variable {K : PySem.W.Frag} {H H' : Hp} {v : V}
theorem Wd.mono (e : TX K H H') {ns : Word} (h : Wd K H v ns) : Wd K H' v ns := by
  obtain ⟨a, r, q⟩ := h
  exact ⟨a, r, e.2 _ _ q⟩
theorem GapAt.mono (e : TX K H H') {g : Gap} (h : GapAt K H v g) : GapAt K H' v g := by
  obtain ⟨a, b, ws, r, q1, q2, q3⟩ := h
  exact ⟨a, b, ws, r, e.1 _ _ q1, e.1 _ _ q2, Paired.imp (fun _ _ => Wd.mono e) q3⟩
theorem BoltAt.mono (e : TX K H H') {b : Bolt} (h : BoltAt K H v b) : BoltAt K H' v b := by
  obtain ⟨a, c, gs, r, q1, q2, q3⟩ := h
  exact ⟨a, c, gs, r, e.1 _ _ q1, e.1 _ _ q2, Paired.imp (fun _ _ => GapAt.mono e) q3⟩
theorem LockAt.mono (e : TX K H H') {l : Lock} (h : LockAt K H v l) : LockAt K H' v l := by
  obtain ⟨a, bs, r, q1, q2⟩ := h
  exact ⟨a, bs, r, e.1 _ _ q1, Paired.imp (fun _ _ => BoltAt.mono e) q2⟩
end
section
variable {α β : Type} {R : α → β → Prop}
theorem Paired.get1 : ∀ {xs : List α} {ys : List β} {i : Nat} {x : α}, Paired R xs ys → xs[i]? = some x → ∃ y, ys[i]? = some y ∧ R x y
  | _, _, _, _, .nil, e => by simp at e
  | _, _, 0, _, .cons r _, e => by simp at e; subst e; exact ⟨_, rfl, r⟩
  | _, _, i + 1, x, .cons _ t, e => by
    obtain ⟨u, h1, h2⟩ := Paired.get1 (i := i) (x := x) t (by simpa using e)
    exact ⟨u, by simpa using h1, h2⟩
theorem Paired.get2 : ∀ {xs : List α} {ys : List β} {i : Nat} {y : β}, Paired R xs ys → ys[i]? = some y → ∃ x, xs[i]? = some x ∧ R x y
  | _, _, _, _, .nil, e => by simp at e
  | _, _, 0, _, .cons r _, e => by simp at e; subst e; exact ⟨_, rfl, r⟩
  | _, _, i + 1, y, .cons _ t, e => by
    obtain ⟨u, h1, h2⟩ := Paired.get2 (i := i) (y := y) t (by simpa using e)
    exact ⟨u, by simpa using h1, h2⟩
theorem Paired.len {xs : List α} {ys : List β} (h : Paired R xs ys) : xs.length = ys.length := Paired.length h
theorem Paired.app : ∀ {xs : List α} {ys : List β} {xs' : List α} {ys' : List β}, Paired R xs ys → Paired R xs' ys' → Paired R (xs ++ xs') (ys ++ ys')
  | _, _, _, _, .nil, s => s
  | _, _, _, _, .cons r t, s => .cons r (Paired.app t s)
theorem Paired.takeN : ∀ {xs : List α} {ys : List β} (n : Nat), Paired R xs ys → Paired R (xs.take n) (ys.take n)
  | _, _, 0, _ => .nil
  | _, _, _ + 1, .nil => .nil
  | _, _, n + 1, .cons r t => .cons r (Paired.takeN n t)
end
theorem take_succ_get {α : Type} {xs : List α} {i : Nat} {x : α} (h : xs[i]? = some x) : xs.take (i + 1) = xs.take i ++ [x] := by
  rw [List.take_add_one, h]
  rfl
theorem get_map_int {ns : List Int} {i : Nat} {x : V} (h : (ns.map V.int)[i]? = some x) : ∃ n, ns[i]? = some n ∧ x = .int n := by
  rw [List.getElem?_map] at h
  cases e : ns[i]? with
  | none => rw [e] at h; cases h
  | some n => rw [e] at h; exact ⟨n, rfl, (Option.some.inj h).symm⟩
theorem map_int_get {ns : List Int} {i : Nat} {n : Int} (h : ns[i]? = some n) : (ns.map V.int)[i]? = some (.int n) := by
  rw [List.getElem?_map, h]
  rfl

/-! ### what a lock must be -/
def lexLt2 (a b c d : Int) : Prop := a < c ∨ (a = c ∧ b < d)
structure GapOk (manys : List Int) (many : Int) (g : Gap) : Prop where
  f0 : 0 ≤ g.frm
  f1 : g.frm < many
  t0 : 0 ≤ g.to_
  t1 : g.to_ < many
  ne : g.frm ≠ g.to_
  p0 : 1 ≤ g.price
  p1 : g.price ≤ 1000000
  few : g.ways.length ≤ 8
  words : ∀ w ∈ g.ways, w.length = manys.length ∧ ∀ (i : Nat) (x m : Int), w[i]? = some x → manys[i]? = some m → 0 ≤ x ∧ x < m
  rise : g.ways.Pairwise (fun u w => HT.lexLt u w = true)
structure BoltOk (manys : List Int) (b : Bolt) : Prop where
  m0 : 2 ≤ b.many
  m1 : b.many ≤ 4
  gaps : ∀ g ∈ b.gaps, GapOk manys b.many g
  rise : b.gaps.Pairwise (fun g h => lexLt2 g.frm g.to_ h.frm h.to_)
  few : (b.gaps.map (fun g => g.ways.length)).sum ≤ 8
def manysOf (l : Lock) : List Int := l.map (·.many)
/-- the ways of the bolts numbered k and more, cut to k places -/
def cutsFrom (l : Lock) (k : Nat) (w : Word) : Prop := ∃ (j : Nat) (b : Bolt) (g : Gap) (u : Word), k ≤ j ∧ l[j]? = some b ∧ g ∈ b.gaps ∧ u ∈ g.ways ∧ w = u.take k
structure LockOk (l : Lock) : Prop where
  n0 : 1 ≤ l.length
  n1 : l.length ≤ 60
  bolts : ∀ (k : Nat) (b : Bolt), l[k]? = some b → BoltOk (manysOf (l.take k)) b
  words : ∀ (k : Nat) (ws : List Word), k < l.length → ws.Nodup → (∀ w ∈ ws, cutsFrom l k w) → ws.length ≤ 8
end Wb

set_option Elab.async false
set_option linter.all false
set_option maxRecDepth 100000
set_option maxHeartbeats 4000000
set_option pp.maxSteps 600
set_option pp.deepTerms false
namespace Wb
open PySem PySem.Spec PyProof.Rows L2
def topS (i : Nat) : Stmt := PySem.Challenge.pw_waitbolts_k17_books_weighed.main.body.getD i (.Pass ⟨0, 0, 0, 0⟩)
abbrev sWhole : Stmt := topS 2
abbrev sWholeIn : Stmt := topS 3
abbrev sTupOf : Stmt := topS 4
abbrev sPlaces : Stmt := topS 5
theorem scWhole : FnScope ["thing"] ["thing"] (defScope sWhole) := ⟨rfl, rfl, rfl, by decide +kernel, rfl, by decide +kernel, by decide +kernel⟩
theorem scWholeIn : FnScope ["thing", "low", "high"] ["thing", "low", "high"] (defScope sWholeIn) := ⟨rfl, rfl, rfl, by decide +kernel, rfl, by decide +kernel, by decide +kernel⟩
theorem scTupOf : FnScope ["thing", "low", "high"] ["thing", "low", "high"] (defScope sTupOf) := ⟨rfl, rfl, rfl, by decide +kernel, rfl, by decide +kernel, by decide +kernel⟩
theorem scPlaces : FnScope ["thing", "manys", "place", "many"] ["thing", "manys"] (defScope sPlaces) := ⟨rfl, rfl, rfl, by decide +kernel, rfl, by decide +kernel, by decide +kernel⟩

/-- the built-in names are the built-in ones -/
structure Bi (mg : Str → Option Value) : Prop where
  isi : mg "isinstance" = none
  int : mg "int" = none
  bool : mg "bool" = none
  tuple : mg "tuple" = none
  list : mg "list" = none
  len : mg "len" = none
  zip : mg "zip" = none
  all : mg "all" = none
  range : mg "range" = none
  rev : mg "reversed" = none
  enum : mg "enumerate" = none
  sorted : mg "sorted" = none
  set : mg "set" = none
  abs : mg "abs" = none
  repr : mg "repr" = none

theorem tyx_tup {K : PySem.W.Frag} {H : Hp} {a : Addr} {xs : List V} (h : SqT K H a xs) : TyX K H (.ref a) (.type "tuple") := by
  rcases h with (h | ⟨o, h⟩) | ⟨o, its, n, h, c, _⟩
  · exact .base (.tup h)
  · exact .fTuple h
  · exact .kTuple h c
theorem tyx_int {K : PySem.W.Frag} {H : Hp} (i : Int) : TyX K H (.int i) (.type "int") := .base (.int i)

/-! ### promises -/
def spWhole : Sp := fun vs H Q _ => ∃ i : Int, vs = [.int i] ∧ Q (.bl true) H
def spWholeIn : Sp := fun vs H Q _ => ∃ i l h : Int, vs = [.int i, .int l, .int h] ∧ Q (.bl (decide (l ≤ i) && decide (i ≤ h))) H
def spTupOf (K : PySem.W.Frag) : Sp := fun vs H Q _ => ∃ (a : Addr) (xs : List V) (l h : Int), vs = [.ref a, .int l, .int h] ∧ SqT K H a xs ∧ Q (.bl (decide (l ≤ (xs.length : Int)) && decide ((xs.length : Int) ≤ h))) H
/-- as many places as bolts, each of them one of its bolt's -/
def InAll (ns ms : List Int) : Prop := ns.length = ms.length ∧ ∀ (i : Nat) (n m : Int), ns[i]? = some n → ms[i]? = some m → 0 ≤ n ∧ n < m
def spPlaces (K : PySem.W.Frag) : Sp := fun vs H Q _ => ∃ (a b : Addr) (m : Bool) (ns ms : List Int), vs = [.ref a, .ref b] ∧ SqT K H a (ns.map V.int) ∧ SqX K m H b (ms.map V.int) ∧ InAll ns ms ∧ ∀ H', Evl.Ex H H' → Q (.bl true) H'

section
variable {P : Program} {w : World} {K : PySem.W.Frag} {mg : Str → Option Value} {base : Heap}
theorem ok_whole {f : Addr} {fd : FuncData} (F : Fun K "is_whole" "is_whole" sWhole f fd) (B : Bi mg) : FnOk P w K mg base CX0 1 f fd ["thing"] spWhole := by
  refine F.ok scWhole (fun vs H Q E h => ?_) (fun cdv A outer s H vs Q E hr h => ?_)
  · obtain ⟨i, rfl, _⟩ := h; rfl
  · obtain ⟨i, rfl, q⟩ := h
    refine ⟨_, pss_one (ps_ret (pe_and (pe_callB call_isi (by rfl) B.isi boot_isinstance (pa_cons (pv 0) (pa_cons (pe_bltn (v := .ty "int") (by rfl) B.int (by decide +kernel) rfl) pa_nil)))
      (pe_one (pe_not (pe_callB call_isi (by rfl) B.isi boot_isinstance (pa_cons (pv 0) (pa_cons (pe_bltn (v := .ty "bool") (by rfl) B.bool (by decide +kernel) rfl) pa_nil))))))), ?_⟩
    refine ⟨.int i, rfl, .int i, .ty "int", .type "int", .type "int", true, rfl, .ty _, tyx_int i, kit_ty (by decide +kernel), true, rfl, ?_⟩
    rw [if_pos rfl]
    refine ⟨.int i, rfl, .int i, .ty "bool", .type "int", .type "bool", false, rfl, .ty _, tyx_int i, kit_ty (by decide +kernel), false, rfl, q⟩
theorem ok_wholeIn {f f1 : Addr} {fd fd1 : FuncData} (F : Fun K "is_whole_in" "is_whole_in" sWholeIn f fd) (F1 : Fun K "is_whole" "is_whole" sWhole f1 fd1) (b1 : Binds K fd1 ["thing"] []) (g1 : mg "is_whole" = some (.ref f1)) (B : Bi mg) :
    FnOk P w K mg base CX0 2 f fd ["thing", "low", "high"] spWholeIn := by
  have G1 : FnOk P w K mg base CX0 1 f1 fd1 ["thing"] spWhole := ok_whole F1 B
  refine F.ok scWholeIn (fun vs H Q E h => ?_) (fun cdv A outer s H vs Q E hr h => ?_)
  · obtain ⟨i, l, m, rfl, _⟩ := h; rfl
  · obtain ⟨i, l, m, rfl, q⟩ := h
    refine ⟨_, pss_one (ps_ret (pe_and (pe_call G1 hr (by rfl) g1 F1.kp b1 .nil pass0 (pa_cons (pv 0) pa_nil)) (pe_one (pe_chain op_le op_le (pv 1) (pv 0) (pv 2))))), ?_⟩
    refine ⟨.int i, rfl, i, rfl, true, rfl, ?_⟩
    rw [if_pos rfl]
    refine ⟨.int l, rfl, .int i, rfl, l, i, rfl, rfl, decide (l ≤ i), rfl, ?_⟩
    by_cases h1 : l ≤ i
    · rw [if_pos (decide_eq_true h1)]
      refine ⟨.int m, rfl, i, m, rfl, rfl, ?_⟩
      rw [decide_eq_true h1] at q
      exact q
    · rw [if_neg (by rw [decide_eq_false h1]; exact Bool.false_ne_true)]
      rw [decide_eq_false h1] at q
      exact q
theorem ok_tupOf {f : Addr} {fd : FuncData} (F : Fun K "is_tuple_of" "is_tuple_of" sTupOf f fd) (B : Bi mg) : FnOk P w K mg base CX0 1 f fd ["thing", "low", "high"] (spTupOf K) := by
  refine F.ok scTupOf (fun vs H Q E h => ?_) (fun cdv A outer s H vs Q E hr h => ?_)
  · obtain ⟨a, xs, l, m, rfl, _⟩ := h; rfl
  · obtain ⟨a, xs, l, m, rfl, hx, q⟩ := h
    refine ⟨_, pss_one (ps_ret (pe_and (pe_callB call_isi (by rfl) B.isi boot_isinstance (pa_cons (pv 0) (pa_cons (pe_bltn (v := .ty "tuple") (by rfl) B.tuple (by decide +kernel) rfl) pa_nil)))
      (pe_one (pe_chain op_le op_le (pv 1) (pe_callB call_len_seq (by rfl) B.len PySem.boot_len (pa_cons (pv 0) pa_nil)) (pv 2))))), ?_⟩
    refine ⟨.ref a, rfl, .ref a, .ty "tuple", .type "tuple", .type "tuple", true, rfl, .ty _, tyx_tup hx, kit_ty (by decide +kernel), true, rfl, ?_⟩
    rw [if_pos rfl]
    refine ⟨.int l, rfl, .ref a, rfl, a, xs, rfl, .inr hx, l, xs.length, rfl, rfl, decide (l ≤ (xs.length : Int)), rfl, ?_⟩
    by_cases h1 : l ≤ (xs.length : Int)
    · rw [if_pos (decide_eq_true h1)]
      refine ⟨.int m, rfl, xs.length, m, rfl, rfl, ?_⟩
      rw [decide_eq_true h1] at q
      exact q
    · rw [if_neg (by rw [decide_eq_false h1]; exact Bool.false_ne_true)]
      rw [decide_eq_false h1] at q
      exact q
theorem sqx_ex {l : Bool} {H H' : Hp} {a : Addr} {xs : List V} (e : Evl.Ex H H') (h : SqX K l H a xs) : SqX K l H' a xs := by
  cases l
  · exact Evl.ex_t e h
  · exact Evl.ex_l e h
theorem sqx_seq {l : Bool} {H : Hp} {a : Addr} {xs : List V} (h : SqX K l H a xs) : SqL K H a xs ∨ SqT K H a xs := by
  cases l
  · exact .inr h
  · exact .inl h
theorem ok_places {f f1 : Addr} {fd fd1 : FuncData} (F : Fun K "are_places" "are_places" sPlaces f fd) (F1 : Fun K "is_tuple_of" "is_tuple_of" sTupOf f1 fd1) (b1 : Binds K fd1 ["thing", "low", "high"] []) (g1 : mg "is_tuple_of" = some (.ref f1)) (B : Bi mg) :
    FnOk P w K mg base CX0 2 f fd ["thing", "manys"] (spPlaces K) := by
  have G1 : FnOk P w K mg base CX0 1 f1 fd1 ["thing", "low", "high"] (spTupOf K) := ok_tupOf F1 B
  refine F.ok scPlaces (fun vs H Q E h => ?_) (fun cdv A outer s H vs Q E hr h => ?_)
  · obtain ⟨a, b, m, ns, ms, rfl, _⟩ := h; rfl
  · obtain ⟨a, b, m, ns, ms, rfl, hx, hy, ⟨hl, hin⟩, q⟩ := h
    have isI : ∀ (X : Cx) (T : String) (hT : X.mg T = none) (i : Nat), True := fun _ _ _ _ => trivial
    refine ⟨_, pss_cons (ps_if (pt_not (pt_val (pe_call G1 hr (by rfl) g1 F1.kp b1 .nil pass0 (pa_cons (pv 0) (pa_cons (pe_callB call_len_seq (by rfl) B.len PySem.boot_len (pa_cons (pv 1) pa_nil)) (pa_cons (pe_callB call_len_seq (by rfl) B.len PySem.boot_len (pa_cons (pv 1) pa_nil)) pa_nil))))))
        (pss_one (ps_ret pe_bl)) pss_nil)
      (pss_cons (ps_for PassesOwn.never rfl (pi_zipX (by rfl) B.zip (pa_cons (pv 0) (pa_cons (pv 1) pa_nil))) (pg_tup rfl (pgs_cons (pg_name (i := 2) scPlaces.nd rfl (.inl rfl)) (pgs_cons (pg_name (i := 3) scPlaces.nd rfl (.inl rfl)) pgs_nil)))
        (pss_one (ps_if (PW.pt (pw_or (pt_val (pe_callB call_isi (by rfl) B.isi boot_isinstance (pa_cons (pv 2) (pa_cons (pe_bltn (v := .ty "bool") (by rfl) B.bool (by decide +kernel) rfl) pa_nil))))
            (pw_or (pt_not (pt_val (pe_callB call_isi (by rfl) B.isi boot_isinstance (pa_cons (pv 2) (pa_cons (pe_bltn (v := .ty "int") (by rfl) B.int (by decide +kernel) rfl) pa_nil)))))
              (pw_or1 (pt_not (pt_chain op_le op_lt pe_int (pv 2) (pv 3)))))))
          (pss_one (ps_ret pe_bl)) pss_nil)))
      (pss_one (ps_ret pe_bl))), ?_⟩
    refine ⟨.ref a, rfl, .ref b, rfl, b, _, rfl, sqx_seq hy, .ref b, rfl, b, _, rfl, sqx_seq hy, a, _, _, _, rfl, hx, _, rfl, ?_⟩
    have e1 : (decide (((ms.map V.int).length : Int) ≤ ((ns.map V.int).length : Int)) && decide (((ns.map V.int).length : Int) ≤ ((ms.map V.int).length : Int))) = true := by
      rw [List.length_map, List.length_map, hl]
      simp
    rw [e1]
    refine iteF ?_
    refine ⟨.ref a, rfl, .ref b, rfl, false, m, a, b, ns.map V.int, ms.map V.int, rfl, hx, hy, ?_⟩
    refine for_it (walk_zx (l := false) (m := m) (xs := ns.map V.int) (ys := ms.map V.int) (by rw [List.length_map, List.length_map, hl])) (fun i σ H' => ∃ y2 y3, σ = [some (.ref a), some (.ref b), y2, y3] ∧ Evl.Ex H H') ⟨none, none, rfl, Evl.Ex.refl H⟩ ?_ ?_ ?_
    · rintro i σ H' _ ⟨_, _, _, e⟩
      exact ⟨Evl.ex_t e hx, sqx_ex e hy⟩
    · rintro i v σ H1 H2 hi ⟨y2, y3, rfl, e⟩ ⟨T, x, y, rfl, nT, rfl, ex, ey⟩
      obtain ⟨n, hn, rfl⟩ := get_map_int ex
      obtain ⟨k, hk, rfl⟩ := get_map_int ey
      obtain ⟨h0, h1⟩ := hin i n k hn hk
      refine ⟨T, [.int n, .int k], rfl, .inl (.inl upd_same), rfl, .int n, [.int k], rfl, .int k, [], rfl, rfl, ?_⟩
      refine ⟨.int n, rfl, .int n, .ty "bool", .type "int", .type "bool", false, rfl, .ty _, tyx_int n, kit_ty (by decide +kernel), false, rfl, ?_⟩
      refine iteF ?_
      refine ⟨.int n, rfl, .int n, .ty "int", .type "int", .type "int", true, rfl, .ty _, tyx_int n, kit_ty (by decide +kernel), true, rfl, ?_⟩
      refine iteF ?_
      refine ⟨.int n, rfl, 0, n, rfl, rfl, decide ((0:Int) ≤ n), rfl, ?_⟩
      rw [if_pos (decide_eq_true h0)]
      refine ⟨.int k, rfl, n, k, rfl, rfl, decide (n < k), rfl, ?_⟩
      rw [decide_eq_true h1]
      refine iteF ?_
      exact ⟨_, _, rfl, e.trans (Evl.Ex.new nT)⟩
    · rintro σ H' ⟨y2, y3, rfl, e⟩
      exact q H' e
end
end Wb

set_option Elab.async false
set_option linter.all false
set_option maxRecDepth 100000
set_option maxHeartbeats 4000000
set_option pp.maxSteps 600
set_option pp.deepTerms false
namespace Wb
open PySem PySem.Spec PyProof.Rows L2
abbrev sWays : Stmt := topS 23
abbrev sGap : Stmt := topS 22
abbrev sBolt : Stmt := topS 21
theorem scWays : FnScope ["thing", "below", "way", "n"] ["thing", "below"] (defScope sWays) := ⟨rfl, rfl, rfl, by decide +kernel, rfl, by decide +kernel, by decide +kernel⟩
theorem scGap : FnScope ["thing", "many", "below", "here", "there", "price", "ways"] ["thing", "many", "below"] (defScope sGap) := ⟨rfl, rfl, rfl, by decide +kernel, rfl, by decide +kernel, by decide +kernel⟩
theorem scBolt : FnScope ["thing", "below", "many", "gaps", "count", "last", "gap"] ["thing", "below"] (defScope sBolt) := ⟨rfl, rfl, rfl, by decide +kernel, rfl, by decide +kernel, by decide +kernel⟩

/-- the module's numbers -/
structure Nu (mg : Str → Option Value) : Prop where
  bolts : ∃ t, mg "MOST_BOLTS" = some (.int 60 t)
  fewest : ∃ t, mg "FEWEST_PLACES" = some (.int 2 t)
  places : ∃ t, mg "MOST_PLACES" = some (.int 4 t)
  ways : ∃ t, mg "MOST_WAYS" = some (.int 8 t)
  words : ∃ t, mg "MOST_WORDS" = some (.int 8 t)
  price : ∃ t, mg "MOST_PRICE" = some (.int 1000000 t)

/-- ways of a gap: words below, rising -/
structure WaysOk (ms : List Int) (ws : List Word) : Prop where
  few : ws.length ≤ 8
  words : ∀ w ∈ ws, InAll w ms
  rise : ws.Pairwise (fun u w => HT.lexLt u w = true)
def spWays (K : PySem.W.Frag) : Sp := fun vs H Q _ => ∃ (a b : Addr) (us : List V) (ws : List Word) (ms : List Int), vs = [.ref a, .ref b] ∧ SqT K H a us ∧ Paired (Wd K H) us ws ∧ SqL K H b (ms.map V.int) ∧ WaysOk ms ws ∧ ∀ H', Evl.Ex H H' → Q (.bl true) H'

theorem wd_ex {K : PySem.W.Frag} {H H' : Hp} (e : Evl.Ex H H') {v : V} {ns : Word} (h : Wd K H v ns) : Wd K H' v ns := h.mono (TX.ex e)
theorem all_true (n : Nat) : ((List.replicate n true).all id) = true := by simp

section
variable {P : Program} {w : World} {K : PySem.W.Frag} {mg : Str → Option Value} {base : Heap}
theorem ok_ways {f f1 f2 : Addr} {fd fd1 fd2 : FuncData} (F : Fun K "are_ways" "are_ways" sWays f fd) (F1 : Fun K "is_tuple_of" "is_tuple_of" sTupOf f1 fd1) (b1 : Binds K fd1 ["thing", "low", "high"] []) (g1 : mg "is_tuple_of" = some (.ref f1))
    (F2 : Fun K "are_places" "are_places" sPlaces f2 fd2) (b2 : Binds K fd2 ["thing", "manys"] []) (g2 : mg "are_places" = some (.ref f2)) (B : Bi mg) (N : Nu mg) :
    FnOk P w K mg base CX0 3 f fd ["thing", "below"] (spWays K) := by
  have G1 : FnOk P w K mg base CX0 1 f1 fd1 ["thing", "low", "high"] (spTupOf K) := ok_tupOf F1 B
  have G2 : FnOk P w K mg base CX0 2 f2 fd2 ["thing", "manys"] (spPlaces K) := ok_places F2 F1 b1 g1 B
  obtain ⟨tw, ew⟩ := N.ways
  refine F.ok scWays (fun vs H Q E h => ?_) (fun cdv A outer s H vs Q E hr h => ?_)
  · obtain ⟨a, b, us, ws, ms, rfl, _⟩ := h; rfl
  · obtain ⟨a, b, us, ws, ms, rfl, hx, hp, hy, ok, q⟩ := h
    have hr1 : Room 1 _ := hr.mono (by decide)
    refine ⟨_, pss_cons (ps_if (pt_not (pt_val (pe_call G1 hr1 (by rfl) g1 F1.kp b1 .nil pass0 (pa_cons (pv 0) (pa_cons pe_int (pa_cons (pe_glob (v := .int 8) (by rfl) ew ⟨_, rfl⟩) pa_nil)))))) (pss_one (ps_ret pe_bl)) pss_nil)
      (pss_cons (ps_if (pt_not (pt_val (pe_callB (cr_all rfl) (by rfl) B.all boot_all (pa_cons
          (pe_lc (own := [("way", 2)]) (g := gName 2) rfl scWays.nd (pi_tup (pv 0)) (blkOk_by (own := [("way", 2)]) (N := ["thing", "below", "way", "n"]) (sc := defScope sWays) (by decide +kernel))
            (fun _ _ _ _ _ => pg_name (i := 2) scWays.nd rfl (Or.inl rfl)) (fun _ _ _ _ _ => pts_nil)
            (fun _ _ _ _ _ => pe_call G2 hr (by rfl) g2 F2.kp b2 .nil pass0 (pa_cons (pv 2) (pa_cons (pv 1) pa_nil)))) pa_nil)))) (pss_one (ps_ret pe_bl)) pss_nil)
      (pss_one (ps_ret (pe_callB (cr_all rfl) (by rfl) B.all boot_all (pa_cons
          (pe_lc (own := [("n", 3)]) (g := gName 3) rfl scWays.nd (pi_range1 rfl B.range (pa_cons (pe_op op_sub (pe_callB call_len_seq (by rfl) B.len PySem.boot_len (pa_cons (pv 0) pa_nil)) pe_int) pa_nil)) (blkOk_by (own := [("n", 3)]) (N := ["thing", "below", "way", "n"]) (sc := defScope sWays) (by decide +kernel))
            (fun _ _ _ _ _ => pg_name (i := 3) scWays.nd rfl (Or.inl rfl)) (fun _ _ _ _ _ => pts_nil)
            (fun _ _ _ _ _ => pe_cmpR (r := rLtT K) (op_ltT hr.units0) (pe_ix (r := rIxT K) ix_tup (pv 0) (pv 3) (fun _ _ => rfl)) (pe_ix (r := rIxT K) ix_tup (pv 0) (pe_op op_add (pv 3) pe_int) (fun _ _ => rfl)) (nomark _))) pa_nil))))), ?_⟩
    have ul : us.length = ws.length := Paired.len hp
    have few := ok.few
    refine ⟨.ref a, rfl, a, us, 0, 8, rfl, hx, _, rfl, ?_⟩
    have e1 : (decide ((0 : Int) ≤ (us.length : Int)) && decide ((us.length : Int) ≤ 8)) = true := by
      rw [ul]
      simp
      omega
    rw [e1]
    refine iteF ?_
    refine ⟨.ref a, rfl, a, rfl, ⟨_, hx⟩, fun D hD => lc_tup (K := K) (a := a) (xs := us) (fun i H' => Evl.Ex H H' ∧ H' D = some (.lst ((List.replicate i true).map V.bl))) ⟨Evl.Ex.new hD, upd_same⟩ ?_ ?_ ?_⟩
    · rintro i H' _ ⟨e, _⟩
      exact Evl.ex_t e hx
    · rintro i x H' hi ⟨e, eD⟩
      obtain ⟨wd, hw, ⟨ax, rfl, hax⟩⟩ := Paired.get1 hp hi
      have hin := ok.words wd (List.mem_of_getElem? hw)
      refine ⟨rfl, .ref ax, rfl, .ref b, rfl, ax, b, true, wd, ms, rfl, Evl.ex_t e (SqT.of hax), Evl.ex_l e hy, hin, ?_⟩
      intro H2 e2
      have l9 : i < 9 := by
        have := (List.getElem?_eq_some_iff.mp hi).1
        omega
      refine ⟨_, e2 _ _ eD, ?_, (e.trans e2).mut hD, ?_⟩
      · rw [List.length_map, List.length_replicate]
        exact Nat.lt_of_lt_of_le l9 (by decide)
      · rw [upd_same, List.replicate_succ', List.map_append]
        rfl
    · rintro H1 ⟨e, eD⟩
      refine ⟨D, _, rfl, .inl (.inl eD), true, ?_, ?_⟩
      · rw [all_true]
      · refine iteF ?_
        refine ⟨.ref a, rfl, a, us, rfl, .inr (Evl.ex_t e hx), _, _, rfl, rfl, (us.length : Int) - 1, rfl, by omega, by omega, fun D2 hD2 =>
          lc_range (lo := 0) (n := ((us.length : Int) - 1).toNat) (fun i H' => Evl.Ex H1 H' ∧ H' D2 = some (.lst ((List.replicate i true).map V.bl))) ⟨Evl.Ex.new hD2, upd_same⟩ ?_ ?_⟩
        · rintro i H' hi ⟨e2, eD2⟩
          have h1 : i < us.length := by omega
          have h2 : i + 1 < us.length := by omega
          obtain ⟨u1, hu1, ⟨a1, ea1, ha1⟩⟩ := Paired.get1 hp (List.getElem?_eq_getElem h1)
          obtain ⟨u2, hu2, ⟨a2, ea2, ha2⟩⟩ := Paired.get1 hp (List.getElem?_eq_getElem h2)
          have rise : HT.lexLt u1 u2 = true := by
            obtain ⟨l1, q1⟩ := List.getElem?_eq_some_iff.mp hu1
            obtain ⟨l2, q2⟩ := List.getElem?_eq_some_iff.mp hu2
            have := List.pairwise_iff_getElem.mp ok.rise i (i + 1) l1 l2 (Nat.lt_succ_self i)
            rw [q1, q2] at this
            exact this
          refine ⟨rfl, ?_⟩
          have e3 := e.trans e2
          refine ⟨.ref a, rfl, .int ((0 : Int) + (i : Nat)), rfl, a, us, (0 : Int) + (i : Nat), .ref a1, rfl, rfl, Evl.ex_t e3 hx, ?_, .ref a, rfl, .int ((0 : Int) + (i : Nat)), rfl, _, _, rfl, rfl, a, us, (0 : Int) + (i : Nat) + 1, .ref a2, rfl, rfl, Evl.ex_t e3 hx, ?_, a1, a2, u1, u2, rfl, rfl, Evl.ex_t e3 (SqT.of ha1), Evl.ex_t e3 (SqT.of ha2), ?_⟩
          · have z : (0 : Int) + (i : Nat) = ((i : Nat) : Int) := by omega
            rw [z, ← ea1]
            exact atI_nat (List.getElem?_eq_getElem h1)
          · have z : (0 : Int) + (i : Nat) + 1 = ((i + 1 : Nat) : Int) := by omega
            rw [z, ← ea2]
            exact atI_nat (List.getElem?_eq_getElem h2)
          · refine ⟨_, eD2, ?_, e2.mut hD2, ?_⟩
            · rw [List.length_map, List.length_replicate]
              exact Nat.lt_of_lt_of_le (show i < 9 by omega) (by decide)
            · rw [upd_same, List.replicate_succ', List.map_append, rise]
              rfl
        · rintro H2 ⟨e2, eD2⟩
          refine ⟨D2, _, rfl, .inl (.inl eD2), ?_⟩
          rw [all_true]
          exact q H2 (e.trans e2)
end
end Wb

set_option Elab.async false
set_option linter.all false
set_option maxRecDepth 100000
set_option maxHeartbeats 4000000
set_option pp.maxSteps 600
set_option pp.deepTerms false
namespace Wb
open PySem PySem.Spec PyProof.Rows L2
def spGap (K : PySem.W.Frag) : Sp := fun vs H Q _ => ∃ (v : V) (b : Addr) (g : Gap) (many : Int) (ms : List Int), vs = [v, .int many, .ref b] ∧ GapAt K H v g ∧ SqL K H b (ms.map V.int) ∧ GapOk ms many g ∧ ∀ H', Evl.Ex H H' → Q (.bl true) H'
def spBolt (K : PySem.W.Frag) : Sp := fun vs H Q _ => ∃ (v : V) (b : Addr) (bo : Bolt) (ms : List Int), vs = [v, .ref b] ∧ BoltAt K H v bo ∧ SqL K H b (ms.map V.int) ∧ BoltOk ms bo ∧ ∀ H', Evl.Ex H H' → Q (.bl true) H'

theorem inAll_two {a b m : Int} (h1 : 0 ≤ a) (h2 : a < m) (h3 : 0 ≤ b) (h4 : b < m) : InAll [a, b] [m, m] := by
  refine ⟨rfl, fun i n k hn hk => ?_⟩
  match i, hn, hk with
  | 0, hn, hk =>
    cases hn; cases hk; exact ⟨h1, h2⟩
  | 1, hn, hk =>
    cases hn; cases hk; exact ⟨h3, h4⟩
  | i + 2, hn, hk => simp at hn
theorem GapOk.ways_ok {ms : List Int} {many : Int} {g : Gap} (h : GapOk ms many g) : WaysOk ms g.ways :=
  ⟨h.few, fun w hw => ⟨(h.words w hw).1, (h.words w hw).2⟩, h.rise⟩
theorem lex2 {a b c d : Int} (h : lexLt2 c d a b) : Ob.lexAt (fun j => decide (([a, b] : List Int).getD j 0 = ([c, d] : List Int).getD j 0)) (fun j => decide (([a, b] : List Int).getD j 0 ≤ ([c, d] : List Int).getD j 0)) (decide (([a, b] : List Int).length ≤ ([c, d] : List Int).length)) 0 (min ([a, b] : List Int).length ([c, d] : List Int).length) = false := by
  show (if decide (a = c) = true then (if decide (b = d) = true then (decide (2 ≤ 2)) else decide (b ≤ d)) else decide (a ≤ c)) = false
  rcases h with h | ⟨h, h'⟩
  · rw [if_neg (by simp; omega)]
    simp; omega
  · rw [if_pos (by simp; omega), if_neg (by simp; omega)]
    simp; omega
theorem cut2 {a b c d : V} : cutV [a, b, c, d] none (some 2) = [a, b] := by
  unfold cutV
  rw [HT.sIx_none]
  rw [show HT.sIx [a, b, c, d].length [a, b, c, d].length (some 2) = 2 from HT.sIx_nat 4 4 2]
  rfl

section
variable {P : Program} {w : World} {K : PySem.W.Frag} {mg : Str → Option Value} {base : Heap}
theorem ok_gap {f f1 f2 f3 f4 f5 : Addr} {fd fd1 fd2 fd3 fd4 fd5 : FuncData} (F : Fun K "is_gap" "is_gap" sGap f fd) (F1 : Fun K "is_tuple_of" "is_tuple_of" sTupOf f1 fd1) (b1 : Binds K fd1 ["thing", "low", "high"] []) (g1 : mg "is_tuple_of" = some (.ref f1))
    (F2 : Fun K "are_places" "are_places" sPlaces f2 fd2) (b2 : Binds K fd2 ["thing", "manys"] []) (g2 : mg "are_places" = some (.ref f2))
    (F3 : Fun K "is_whole_in" "is_whole_in" sWholeIn f3 fd3) (b3 : Binds K fd3 ["thing", "low", "high"] []) (g3 : mg "is_whole_in" = some (.ref f3))
    (F4 : Fun K "are_ways" "are_ways" sWays f4 fd4) (b4 : Binds K fd4 ["thing", "below"] []) (g4 : mg "are_ways" = some (.ref f4))
    (F5 : Fun K "is_whole" "is_whole" sWhole f5 fd5) (b5 : Binds K fd5 ["thing"] []) (g5 : mg "is_whole" = some (.ref f5)) (B : Bi mg) (N : Nu mg) :
    FnOk P w K mg base CX0 4 f fd ["thing", "many", "below"] (spGap K) := by
  have G1 : FnOk P w K mg base CX0 1 f1 fd1 ["thing", "low", "high"] (spTupOf K) := ok_tupOf F1 B
  have G2 : FnOk P w K mg base CX0 2 f2 fd2 ["thing", "manys"] (spPlaces K) := ok_places F2 F1 b1 g1 B
  have G3 : FnOk P w K mg base CX0 2 f3 fd3 ["thing", "low", "high"] spWholeIn := ok_wholeIn F3 F5 b5 g5 B
  have G4 : FnOk P w K mg base CX0 3 f4 fd4 ["thing", "below"] (spWays K) := ok_ways F4 F1 b1 g1 F2 b2 g2 B N
  obtain ⟨tp, ep⟩ := N.price
  refine F.ok scGap (fun vs H Q E h => ?_) (fun cdv A outer s H vs Q E hr h => ?_)
  · obtain ⟨v, b, g, m, ms, rfl, _⟩ := h; rfl
  · obtain ⟨v, b, g, m, ms, rfl, ⟨a, c, ws, rfl, hx, hw, hp⟩, hy, ok, q⟩ := h
    have hr1 : Room 1 _ := hr.mono (by decide)
    have hr2 : Room 2 _ := hr.mono (by decide)
    refine ⟨_, pss_cons (ps_if (pt_not (pt_val (pe_call G1 hr1 (by rfl) g1 F1.kp b1 .nil pass0 (pa_cons (pv 0) (pa_cons pe_int (pa_cons pe_int pa_nil)))))) (pss_one (ps_ret pe_bl)) pss_nil)
      (pss_cons (ps_asg (pv 0) (pg_tup rfl (pgs_cons (pg_name (i := 3) scGap.nd rfl (.inl rfl)) (pgs_cons (pg_name (i := 4) scGap.nd rfl (.inl rfl)) (pgs_cons (pg_name (i := 5) scGap.nd rfl (.inl rfl)) (pgs_cons (pg_name (i := 6) scGap.nd rfl (.inl rfl)) pgs_nil))))))
      (pss_cons (ps_if (PW.pt (pw_or (pt_not (pt_val (pe_call G2 hr2 (by rfl) g2 F2.kp b2 .nil pass0 (pa_cons (pe_tup (pa_cons (pv 3) (pa_cons (pv 4) pa_nil))) (pa_cons (pe_tup (pa_cons (pv 1) (pa_cons (pv 1) pa_nil))) pa_nil)))))
          (pw_or1 (pt_cmpR op_eq (pv 3) (pv 4) (nomark _))))) (pss_one (ps_ret pe_bl)) pss_nil)
      (pss_one (ps_ret (pe_and (pe_call G3 hr2 (by rfl) g3 F3.kp b3 .nil pass0 (pa_cons (pv 5) (pa_cons pe_int (pa_cons (pe_glob (v := .int 1000000) (by rfl) ep ⟨_, rfl⟩) pa_nil))))
        (pe_one (pe_call G4 hr (by rfl) g4 F4.kp b4 .nil pass0 (pa_cons (pv 6) (pa_cons (pv 2) pa_nil))))))))), ?_⟩
    refine ⟨.ref a, rfl, a, _, 4, 4, rfl, hx, true, rfl, ?_⟩
    refine iteF ?_
    refine ⟨.ref a, rfl, a, _, rfl, hx, rfl, _, _, rfl, _, _, rfl, _, _, rfl, _, _, rfl, rfl, ?_⟩
    refine ⟨.int g.frm, rfl, .int g.to_, rfl, (by show 2 ≤ sizeLine; decide), fun p1 n1 => ?_⟩
    refine ⟨.int m, rfl, .int m, rfl, (by show 2 ≤ sizeLine; decide), fun p2 n2 => ?_⟩
    have x1 : Evl.Ex H (upd H p1 (.tup [.int g.frm, .int g.to_])) := Evl.Ex.new n1
    have x2 := Evl.Ex.new (o := .tup [.int m, .int m]) n2
    refine ⟨p1, p2, false, [g.frm, g.to_], [m, m], rfl, .inl (.inl (x2 _ _ upd_same)), (Or.inl (Or.inl upd_same)), inAll_two ok.f0 ok.f1 ok.t0 ok.t1, fun H' x3 => ?_⟩
    refine ⟨true, rfl, ?_⟩
    refine iteF ?_
    refine ⟨.int g.frm, rfl, .int g.to_, rfl, rfl, decide (V.int g.frm = V.int g.to_), rfl, ?_⟩
    have ne : decide (V.int g.frm = V.int g.to_) = false := decide_eq_false fun z => ok.ne (V.int.inj z)
    rw [ne]
    refine iteF ?_
    refine ⟨.int g.price, rfl, g.price, 1, 1000000, rfl, true, ?_, ?_⟩
    · have z1 := ok.p0
      have z2 := ok.p1
      rw [decide_eq_true z1, decide_eq_true z2]
      rfl
    · refine iteT ?_
      have x : Evl.Ex H H' := (x1.trans x2).trans x3
      refine ⟨.ref c, rfl, .ref b, rfl, c, b, ws, g.ways, ms, rfl, Evl.ex_t x hw, Paired.imp (fun _ _ => wd_ex x) hp, Evl.ex_l x hy, ok.ways_ok, fun H2 y => q H2 (x.trans y)⟩
theorem ok_bolt {f f1 f2 f3 f4 f5 f6 : Addr} {fd fd1 fd2 fd3 fd4 fd5 fd6 : FuncData} (F : Fun K "is_bolt" "is_bolt" sBolt f fd) (F1 : Fun K "is_tuple_of" "is_tuple_of" sTupOf f1 fd1) (b1 : Binds K fd1 ["thing", "low", "high"] []) (g1 : mg "is_tuple_of" = some (.ref f1))
    (F2 : Fun K "are_places" "are_places" sPlaces f2 fd2) (b2 : Binds K fd2 ["thing", "manys"] []) (g2 : mg "are_places" = some (.ref f2))
    (F3 : Fun K "is_whole_in" "is_whole_in" sWholeIn f3 fd3) (b3 : Binds K fd3 ["thing", "low", "high"] []) (g3 : mg "is_whole_in" = some (.ref f3))
    (F4 : Fun K "are_ways" "are_ways" sWays f4 fd4) (b4 : Binds K fd4 ["thing", "below"] []) (g4 : mg "are_ways" = some (.ref f4))
    (F5 : Fun K "is_whole" "is_whole" sWhole f5 fd5) (b5 : Binds K fd5 ["thing"] []) (g5 : mg "is_whole" = some (.ref f5))
    (F6 : Fun K "is_gap" "is_gap" sGap f6 fd6) (b6 : Binds K fd6 ["thing", "many", "below"] []) (g6 : mg "is_gap" = some (.ref f6)) (B : Bi mg) (N : Nu mg) :
    FnOk P w K mg base CX0 5 f fd ["thing", "below"] (spBolt K) := by
  have G1 : FnOk P w K mg base CX0 1 f1 fd1 ["thing", "low", "high"] (spTupOf K) := ok_tupOf F1 B
  have G3 : FnOk P w K mg base CX0 2 f3 fd3 ["thing", "low", "high"] spWholeIn := ok_wholeIn F3 F5 b5 g5 B
  have G6 : FnOk P w K mg base CX0 4 f6 fd6 ["thing", "many", "below"] (spGap K) := ok_gap F6 F1 b1 g1 F2 b2 g2 F3 b3 g3 F4 b4 g4 F5 b5 g5 B N
  obtain ⟨tf, ef⟩ := N.fewest
  obtain ⟨tl, el⟩ := N.places
  obtain ⟨tw, ew⟩ := N.ways
  refine F.ok scBolt (fun vs H Q E h => ?_) (fun cdv A outer s H vs Q E hr h => ?_)
  · obtain ⟨v, b, bo, ms, rfl, _⟩ := h; rfl
  · obtain ⟨v, b, bo, ms, rfl, ⟨a, c, gs, rfl, hx, hg, hp⟩, hy, ok, q⟩ := h
    have hr1 : Room 1 _ := hr.mono (by decide)
    have hr2 : Room 2 _ := hr.mono (by decide)
    refine ⟨_, pss_cons (ps_if (pt_not (pt_val (pe_call G1 hr1 (by rfl) g1 F1.kp b1 .nil pass0 (pa_cons (pv 0) (pa_cons pe_int (pa_cons pe_int pa_nil)))))) (pss_one (ps_ret pe_bl)) pss_nil)
      (pss_cons (ps_asg (pv 0) (pg_tup rfl (pgs_cons (pg_name (i := 2) scBolt.nd rfl (.inl rfl)) (pgs_cons (pg_name (i := 3) scBolt.nd rfl (.inl rfl)) pgs_nil))))
      (pss_cons (ps_if (PW.pt (pw_or (pt_not (pt_val (pe_call G3 hr2 (by rfl) g3 F3.kp b3 .nil pass0 (pa_cons (pv 2) (pa_cons (pe_glob (v := .int 2) (by rfl) ef ⟨_, rfl⟩) (pa_cons (pe_glob (v := .int 4) (by rfl) el ⟨_, rfl⟩) pa_nil))))))
          (pw_or1 (pt_not (pt_val (pe_callB call_isi (by rfl) B.isi boot_isinstance (pa_cons (pv 3) (pa_cons (pe_bltn (v := .ty "tuple") (by rfl) B.tuple (by decide +kernel) rfl) pa_nil)))))))) (pss_one (ps_ret pe_bl)) pss_nil)
      (pss_cons (ps_set (i := 4) scBolt.nd rfl (.inl rfl) pe_int)
      (pss_cons (ps_set (i := 5) scBolt.nd rfl (.inl rfl) (pe_tup (pa_cons (pe_un un_neg pe_int) (pa_cons (pe_un un_neg pe_int) pa_nil))))
      (pss_cons (ps_for PassesOwn.never rfl (pi_tup (pv 3)) (pg_name (i := 6) scBolt.nd rfl (.inl rfl))
        (pss_cons (ps_if (PW.pt (pw_or (pt_not (pt_val (pe_call G6 hr (by rfl) g6 F6.kp b6 .nil pass0 (pa_cons (pv 6) (pa_cons (pv 2) (pa_cons (pv 1) pa_nil))))))
            (pw_or1 (pt_cmpR (op_leT hr.units0) (pe_slice sl_tupA (pv 6) po_none (po_some pe_int)) (pv 5) (nomark _))))) (pss_one (ps_ret pe_bl)) pss_nil)
        (pss_cons (ps_set (i := 5) scBolt.nd rfl (.inl rfl) (pe_slice sl_tupA (pv 6) po_none (po_some pe_int)))
        (pss_one (ps_aug (i := 4) scBolt.nd rfl (.inl rfl) (pe_callB call_len_seq (by rfl) B.len PySem.boot_len (pa_cons (pe_ix ix_tup (pv 6) pe_int (fun _ _ => rfl)) pa_nil)) ip_add)))))
      (pss_one (ps_ret (pe_cmpR op_le (pv 4) (pe_glob (v := .int 8) (by rfl) ew ⟨_, rfl⟩) (nomark _))))))))), ?_⟩
    refine ⟨.ref a, rfl, a, _, 2, 2, rfl, hx, true, rfl, ?_⟩
    refine iteF ?_
    refine ⟨.ref a, rfl, a, _, rfl, hx, rfl, _, _, rfl, _, _, rfl, rfl, ?_⟩
    refine ⟨.int bo.many, rfl, bo.many, 2, 4, rfl, true, ?_, ?_⟩
    · rw [decide_eq_true ok.m0, decide_eq_true ok.m1]
      rfl
    refine iteF ?_
    refine ⟨.ref c, rfl, .ref c, .ty "tuple", .type "tuple", .type "tuple", true, rfl, .ty _, tyx_tup hg, kit_ty (by decide +kernel), true, rfl, ?_⟩
    refine iteF ?_
    refine ⟨1, rfl, 1, rfl, (by show 2 ≤ sizeLine; decide), fun p0 n0 => ?_⟩
    have gl : gs.length = bo.gaps.length := Paired.len hp
    refine ⟨.ref c, rfl, c, rfl, ⟨_, (Evl.ex_t (Evl.Ex.new n0) hg)⟩, for_tup (K := K) (a := c) (xs := gs)
      (fun i σ H' => ∃ (pl : Addr) (lf lt : Int) (y6 : Option V), σ = [some (.ref a), some (.ref b), some (.int bo.many), some (.ref c), some (.int (((bo.gaps.take i).map (fun g => ((g.ways.length : Nat) : Int))).sum)), some (.ref pl), y6] ∧
        Evl.Ex H H' ∧ SqT K H' pl ([lf, lt].map V.int) ∧ (∀ g, bo.gaps[i]? = some g → lexLt2 lf lt g.frm g.to_)) ⟨p0, -1, -1, none, rfl, Evl.Ex.new n0, .inl (.inl upd_same), ?_⟩ ?_ ?_ ?_⟩
    · intro g hgi
      have := (ok.gaps g (List.mem_of_getElem? hgi)).f0
      exact .inl (by omega)
    · rintro i σ H' _ ⟨_, _, _, _, _, e, _⟩
      exact Evl.ex_t e hg
    · rintro i x σ H' hi ⟨pl, lf, lt, y6, rfl, e, hpl, hlex⟩
      obtain ⟨g, hgi, hga⟩ := Paired.get1 hp hi
      have hga' : GapAt K H' x g := hga.mono (TX.ex e)
      obtain ⟨ag, bg, ws, rfl, h1, h2, h3⟩ := hga'
      have gok := ok.gaps g (List.mem_of_getElem? hgi)
      refine ⟨.ref ag, rfl, .int bo.many, rfl, .ref b, rfl, .ref ag, b, g, bo.many, ms, rfl, ⟨ag, bg, ws, rfl, h1, h2, h3⟩, Evl.ex_l e hy, gok, fun H2 e2 => ?_⟩
      refine ⟨true, rfl, iteF ?_⟩
      have ex2 := e.trans e2
      refine ⟨.ref ag, rfl, 2, rfl, ag, _, rfl, Evl.ex_t e2 h1, fun z => absurd (show HT.sIx 4 4 (some 2) = 4 from z.2) (by decide), fun _ p np => ?_⟩
      rw [cut2]
      have e3 := Evl.Ex.new (o := .tup [V.int g.frm, V.int g.to_]) np
      refine ⟨.ref pl, rfl, p, pl, [g.frm, g.to_], [lf, lt], rfl, rfl, .inl (.inl upd_same), Evl.ex_t (e2.trans e3) hpl, _, rfl, ?_⟩
      rw [lex2 (hlex g hgi)]
      refine iteF ?_
      refine ⟨.ref ag, rfl, 2, rfl, ag, _, rfl, Evl.ex_t (e2.trans e3) h1, fun z => absurd (show HT.sIx 4 4 (some 2) = 4 from z.2) (by decide), fun _ p' np' => ?_⟩
      rw [cut2]
      have e4 := Evl.Ex.new (o := .tup [V.int g.frm, V.int g.to_]) np'
      refine ⟨_, rfl, .ref ag, rfl, ag, _, 3, .ref bg, rfl, rfl, Evl.ex_t ((e2.trans e3).trans e4) h1, atI_nat (j := 3) rfl, bg, ws, rfl, .inr (Evl.ex_t ((e2.trans e3).trans e4) h2), _, _, rfl, rfl, ?_⟩
      refine ⟨p', g.frm, g.to_, some (.ref ag), ?_, (ex2.trans e3).trans e4, .inl (.inl upd_same), fun g' hg' => ?_⟩
      · have wl : ws.length = g.ways.length := Paired.len h3
        rw [take_succ_get hgi, List.map_append, List.sum_append, wl]
        simp
      · obtain ⟨l1, q1⟩ := List.getElem?_eq_some_iff.mp hgi
        obtain ⟨l2, q2⟩ := List.getElem?_eq_some_iff.mp hg'
        have := List.pairwise_iff_getElem.mp ok.rise i (i + 1) l1 l2 (Nat.lt_succ_self i)
        rw [q1, q2] at this
        exact this
    · rintro σ H' ⟨pl, lf, lt, y6, rfl, e, hpl, hlex⟩
      refine ⟨_, rfl, _, 8, rfl, rfl, ?_⟩
      have s8 : decide ((((bo.gaps.take gs.length).map (fun g => ((g.ways.length : Nat) : Int))).sum) ≤ 8) = true := by
        have h := ok.few
        rw [gl, List.take_length]
        have z : ∀ l : List Gap, (l.map (fun g => ((g.ways.length : Nat) : Int))).sum = (((l.map (fun g => g.ways.length)).sum : Nat) : Int) := by
          intro l
          induction l with
          | nil => rfl
          | cons g l ih => simp [ih]
        rw [z]
        simp
        omega
      show Q (.bl (decide (_ ≤ 8))) H'
      rw [s8]
      exact q H' e
end
end Wb

set_option Elab.async false
set_option linter.all false
set_option maxRecDepth 100000
set_option maxHeartbeats 4000000
set_option pp.maxSteps 600
set_option pp.deepTerms false
namespace Wb
open PySem PySem.Spec PyProof.Rows L2
abbrev sWords : Stmt := topS 11
theorem scWords : FnScope ["lock", "rows", "above", "k", "found", "word", "gap", "way"] ["lock"] (defScope sWords) := ⟨rfl, rfl, rfl, by decide +kernel, rfl, by decide +kernel, by decide +kernel⟩

/-! ### words as keys -/
def keyW (w : Word) : List Key := w.map Sum.inl
theorem keyW_kV (w : Word) : (keyW w).map kV = w.map V.int := by
  unfold keyW
  rw [List.map_map]
  rfl
theorem keyW_inj {u w : Word} (h : keyW u = keyW w) : u = w := by
  unfold keyW at h
  exact (List.map_inj_right (fun _ _ e => Sum.inl.inj e)).mp h
def kws (ws : List Word) (v : Word → V) : List (List Key × V) := ws.map fun w => (keyW w, v w)
def addW (ws : List Word) (w : Word) : List Word := if w ∈ ws then ws else ws ++ [w]
theorem kws_any (ws : List Word) (v : Word → V) (w : Word) : ((kws ws v).any fun kv => decide (kv.1 = keyW w)) = decide (w ∈ ws) := by
  unfold kws
  rw [List.any_map]
  rw [Bool.eq_iff_iff]
  simp only [List.any_eq_true, Function.comp, decide_eq_true_eq]
  constructor
  · rintro ⟨u, hu, e⟩
    rw [← keyW_inj e]
    exact hu
  · intro h
    exact ⟨w, h, rfl⟩
theorem put_kws (ws : List Word) (w : Word) : putK (kws ws fun _ => .bl true) (keyW w) (.bl true) = kws (addW ws w) fun _ => .bl true := by
  unfold putK addW
  rw [kws_any]
  by_cases h : w ∈ ws
  · rw [if_pos (decide_eq_true h), if_pos h]
    unfold kws
    rw [List.map_map]
    apply List.map_congr_left
    intro u _
    show (if keyW u = keyW w then (keyW u, V.bl true) else (keyW u, V.bl true)) = (keyW u, V.bl true)
    split <;> rfl
  · rw [if_neg (by rw [decide_eq_false h]; exact Bool.false_ne_true), if_neg h]
    unfold kws
    rw [List.map_append]
    rfl
theorem mem_addW {ws : List Word} {w u : Word} : u ∈ addW ws w ↔ u ∈ ws ∨ u = w := by
  unfold addW
  split
  · rename_i h
    exact ⟨.inl, fun z => z.elim id fun e => e ▸ h⟩
  · simp
theorem nodup_addW {ws : List Word} {w : Word} (h : ws.Nodup) : (addW ws w).Nodup := by
  unfold addW
  split
  · exact h
  · rename_i hn
    rw [List.nodup_append]
    refine ⟨h, by simp, ?_⟩
    intro a ha b hb
    simp at hb
    subst hb
    intro e
    exact hn (e ▸ ha)
theorem valV_kws (ws : List Word) (v : Word → V) (w : Word) : valV (kws ws v) (keyW w) = if w ∈ ws then some (v w) else none := by
  induction ws with
  | nil => rfl
  | cons u ws ih =>
    by_cases e : u = w
    · subst e
      rw [if_pos (by simp)]
      exact valV_pos rfl
    · have z : valV (kws (u :: ws) v) (keyW w) = valV (kws ws v) (keyW w) := valV_neg (fun q => e (keyW_inj q))
      rw [z, ih]
      have m : w ∈ u :: ws ↔ w ∈ ws := by
        simp only [List.mem_cons]
        exact ⟨fun q => q.elim (fun q => absurd q.symm e) id, .inr⟩
      by_cases h : w ∈ ws
      · rw [if_pos h, if_pos (m.mpr h)]
      · rw [if_neg h, if_neg (fun q => h (m.mp q))]

/-! ### the words at a bolt -/
def WordsAt (l : Lock) (k : Nat) (ws : List Word) : Prop := ws.Nodup ∧ ∀ w, w ∈ ws ↔ cutsFrom l k w
/-- a list of words at r -/
def RowAt (K : PySem.W.Frag) (H : Hp) (r : Addr) (ws : List Word) : Prop := ∃ us, H r = some (.lst us) ∧ Paired (Wd K H) us ws
theorem RowAt.ex {K : PySem.W.Frag} {H H' : Hp} (e : Evl.Ex H H') {r : Addr} {ws : List Word} (h : RowAt K H r ws) : RowAt K H' r ws := by
  obtain ⟨us, a, b⟩ := h
  exact ⟨us, e _ _ a, Paired.imp (fun _ _ => wd_ex e) b⟩
theorem cutsFrom_len {l : Lock} (ok : LockOk l) {k : Nat} {w : Word} (hk : k ≤ l.length) (h : cutsFrom l k w) : w.length = k := by
  obtain ⟨j, b, g, u, hj, hb, hg, hu, rfl⟩ := h
  have lu := (((ok.bolts j b hb).gaps g hg).words u hu).1
  have lj : j < l.length := (List.getElem?_eq_some_iff.mp hb).1
  unfold manysOf at lu
  rw [List.length_map, List.length_take] at lu
  rw [List.length_take]
  omega
/-- the words at k: those at k + 1 cut, and the bolt's own -/
theorem cuts_step {l : Lock} (ok : LockOk l) {k : Nat} {b : Bolt} (hb : l[k]? = some b) (w : Word) :
    cutsFrom l k w ↔ (∃ u, cutsFrom l (k + 1) u ∧ w = u.take k) ∨ ∃ g ∈ b.gaps, w ∈ g.ways := by
  constructor
  · rintro ⟨j, b', g, u, hj, hb', hg, hu, rfl⟩
    by_cases e : j = k
    · subst e
      rw [hb] at hb'
      cases hb'
      have lu := (((ok.bolts j b hb).gaps g hg).words u hu).1
      have lj : j < l.length := (List.getElem?_eq_some_iff.mp hb).1
      unfold manysOf at lu
      rw [List.length_map, List.length_take] at lu
      refine .inr ⟨g, hg, ?_⟩
      rw [List.take_of_length_le (by omega)]
      exact hu
    · refine .inl ⟨u.take (k + 1), ⟨j, b', g, u, by omega, hb', hg, hu, rfl⟩, ?_⟩
      rw [List.take_take, Nat.min_eq_left (Nat.le_succ k)]
  · rintro (⟨u, ⟨j, b', g, u', hj, hb', hg, hu, rfl⟩, rfl⟩ | ⟨g, hg, hw⟩)
    · refine ⟨j, b', g, u', by omega, hb', hg, hu, ?_⟩
      rw [List.take_take, Nat.min_eq_left (Nat.le_succ k)]
    · have lu := (((ok.bolts k b hb).gaps g hg).words w hw).1
      have lj : k < l.length := (List.getElem?_eq_some_iff.mp hb).1
      unfold manysOf at lu
      rw [List.length_map, List.length_take] at lu
      refine ⟨k, b, g, w, Nat.le_refl _, hb, hg, hw, ?_⟩
      rw [List.take_of_length_le (by omega)]
theorem isKeys_rows {K : PySem.W.Frag} {H : Hp} : ∀ {ws : List Word} {bs : List Addr}, IsKeys H (kws ws fun _ => V.bl true) bs → Paired (Wd K H) (bs.map V.ref) ws
  | [], _, h => by
    cases h
    exact .nil
  | w :: ws, _, h => by
    cases h with
    | cons r t =>
      refine .cons ⟨_, rfl, ?_⟩ (isKeys_rows t)
      have r' : _ = some (HO.tup ((keyW w).map kV)) := r
      rw [keyW_kV] at r'
      exact r'
def spWords (K : PySem.W.Frag) : Sp := fun vs H Q _ => ∃ (v : V) (l : Lock), vs = [v] ∧ LockAt K H v l ∧ LockOk l ∧
  ∀ H' p (rs : List Addr), Evl.Ex H H' → H p = none → H' p = some (.lst (rs.map V.ref)) → rs.length = l.length →
    (∀ k r, rs[k]? = some r → H r = none ∧ ∃ ws, RowAt K H' r ws ∧ WordsAt l k ws) → Q (.ref p) H'

/-- a word of a tuple of words, cut -/
theorem cut_take (xs : List V) (k : Nat) : cutV xs none (some (k : Int)) = xs.take k := by
  unfold cutV
  rw [HT.sIx_none, HT.sIx_nat]
  rw [List.drop_zero, Nat.sub_zero]
  by_cases h : k ≤ xs.length
  · rw [Nat.min_eq_left h]
  · rw [Nat.min_eq_right (by omega), List.take_length, List.take_of_length_le (by omega)]
theorem slice_whole {n k : Nat} (h : HT.sIx n n (some (k : Int)) = n) : n ≤ k := by
  rw [HT.sIx_nat] at h
  omega
end Wb

set_option Elab.async false
set_option linter.all false
set_option maxRecDepth 100000
set_option maxHeartbeats 4000000
set_option pp.maxSteps 600
set_option pp.deepTerms false
namespace Wb
open PySem PySem.Spec PyProof.Rows L2
/-! ### things of whatever kind: data, with dicts {} and {0: 1} within -/
def one0 : List (Key × V) := [(.inl 0, .int 1)]
mutual
inductive Th (K : PySem.W.Frag) (H : Hp) : V → PyData → Prop where
  | non : Th K H .non .none
  | bl (b : Bool) : Th K H (.bl b) (.bool b)
  | int (i : Int) : Th K H (.int i) (.int i)
  | str (x : Str) : Th K H (.str x) (.str x)
  | d0 {a : Addr} : H a = some (.dK []) → Th K H (.ref a) (.dict [])
  | d1 {a : Addr} : H a = some (.dK one0) → Th K H (.ref a) (.dict [(.int 0, .int 1)])
  | lst {a : Addr} {xs : List V} {ds : List PyData} : H a = some (.lst xs) → ThAll K H xs ds → Th K H (.ref a) (.list ds)
  | tup {a : Addr} {xs : List V} {ds : List PyData} : Rd H a (.tup xs) → ThAll K H xs ds → Th K H (.ref a) (.tuple ds)
inductive ThAll (K : PySem.W.Frag) (H : Hp) : List V → List PyData → Prop where
  | nil : ThAll K H [] []
  | cons {v : V} {d : PyData} {vs : List V} {ds : List PyData} : Th K H v d → ThAll K H vs ds → ThAll K H (v :: vs) (d :: ds)
end
/-- what such things lean on stays -/
structure TK (K : PySem.W.Frag) (H H' : Hp) : Prop where
  t : ∀ a xs, Rd H a (.tup xs) → Rd H' a (.tup xs)
  l : ∀ a xs, H a = some (.lst xs) → H' a = some (.lst xs)
  d0 : ∀ a, H a = some (.dK []) → H' a = some (.dK [])
  d1 : ∀ a, H a = some (.dK one0) → H' a = some (.dK one0)
section
variable {K : PySem.W.Frag} {H H' : Hp} {p c : Addr} {T : Int}
theorem rd_ex {G G' : Hp} (e : Evl.Ex G G') {a : Addr} {u : HO} (h : Rd G a u) : Rd G' a u := h.imp (fun z => e _ _ z) fun ⟨o, z⟩ => ⟨o, e _ _ z⟩
theorem TK.ex (e : Evl.Ex H H') : TK K H H' := ⟨fun _ _ h => rd_ex e h, fun _ _ h => e _ _ h, fun _ h => e _ _ h, fun _ h => e _ _ h⟩
theorem TK.refl (K : PySem.W.Frag) (H : Hp) : TK K H H := TK.ex (Evl.Ex.refl H)
theorem TK.trans {H1 : Hp} (a : TK K H H1) (b : TK K H1 H') : TK K H H' := ⟨fun x o h => b.t x o (a.t x o h), fun x o h => b.l x o (a.l x o h), fun x h => b.d0 x (a.d0 x h), fun x h => b.d1 x (a.d1 x h)⟩
mutual
theorem Th.keep (e : TK K H H') : ∀ {v : V} {d : PyData}, Th K H v d → Th K H' v d
  | _, _, .non => .non
  | _, _, .bl b => .bl b
  | _, _, .int i => .int i
  | _, _, .str x => .str x
  | _, _, .d0 h => .d0 (e.d0 _ h)
  | _, _, .d1 h => .d1 (e.d1 _ h)
  | _, _, .lst h a => .lst (e.l _ _ h) (ThAll.keep e a)
  | _, _, .tup h a => .tup (e.t _ _ h) (ThAll.keep e a)
theorem ThAll.keep (e : TK K H H') : ∀ {vs : List V} {ds : List PyData}, ThAll K H vs ds → ThAll K H' vs ds
  | _, _, .nil => .nil
  | _, _, .cons h a => .cons (Th.keep e h) (ThAll.keep e a)
end
theorem Th.ex (e : Evl.Ex H H') {v : V} {d : PyData} (h : Th K H v d) : Th K H' v d := h.keep (TK.ex e)
theorem ThAll.paired : ∀ {vs : List V} {ds : List PyData}, ThAll K H vs ds → Paired (Th K H) vs ds
  | _, _, .nil => .nil
  | _, _, .cons h t => .cons h (ThAll.paired t)
theorem thAll : ∀ {vs : List V} {ds : List PyData}, Paired (Th K H) vs ds → ThAll K H vs ds
  | _, _, .nil => .nil
  | _, _, .cons h t => .cons h (thAll t)
def tyS : PyData → String
  | .none => "NoneType"
  | .bool _ => "bool"
  | .int _ => "int"
  | .str _ => "str"
  | .list _ => "list"
  | .tuple _ => "tuple"
  | .dict _ => "dict"
theorem tyx_lst {a : Addr} {xs : List V} (h : SqL K H a xs) : TyX K H (.ref a) (.type "list") := by
  rcases h with (h | ⟨o, h⟩) | ⟨o, its, n, h, c, _⟩
  · exact .base (.lst h)
  · exact .base (.frz h)
  · exact .kList h c
theorem Th.ty {v : V} {d : PyData} (h : Th K H v d) : TyX K H v (.type (tyS d)) := by
  cases h with
  | non => exact .base .non
  | bl b => exact .base (.bl b)
  | int i => exact .base (.int i)
  | str x => exact .base (.str x)
  | d0 h => exact .base (.dK h)
  | d1 h => exact .base (.dK h)
  | lst h _ => exact tyx_lst (.inl (.inl h))
  | tup h _ => exact tyx_tup (.inl h)
def isInt : PyData → Bool
  | .int _ => true
  | .bool _ => true
  | _ => false
def isBool : PyData → Bool
  | .bool _ => true
  | _ => false
def isTup : PyData → Bool
  | .tuple _ => true
  | _ => false
def isLst : PyData → Bool
  | .list _ => true
  | _ => false
def isStr : PyData → Bool
  | .str _ => true
  | _ => false
theorem kit_int (d : PyData) : kitB (tyS d) "int" = some (isInt d) := by cases d <;> (simp only [tyS, isInt]; decide +kernel)
theorem kit_bool (d : PyData) : kitB (tyS d) "bool" = some (isBool d) := by cases d <;> (simp only [tyS, isBool]; decide +kernel)
theorem kit_tup (d : PyData) : kitB (tyS d) "tuple" = some (isTup d) := by cases d <;> (simp only [tyS, isTup]; decide +kernel)
theorem kit_lst (d : PyData) : kitB (tyS d) "list" = some (isLst d) := by cases d <;> (simp only [tyS, isLst]; decide +kernel)
theorem kit_str (d : PyData) : kitB (tyS d) "str" = some (isStr d) := by cases d <;> (simp only [tyS, isStr]; decide +kernel)
theorem Th.itemsS {v : V} {ds : List PyData} (h : Th K H v (.tuple ds)) : ∃ a xs, v = .ref a ∧ Rd H a (.tup xs) ∧ Paired (Th K H) xs ds := by
  cases h with
  | tup h a => exact ⟨_, _, rfl, h, a.paired⟩
theorem Th.items {v : V} {ds : List PyData} (h : Th K H v (.tuple ds)) : ∃ a xs, v = .ref a ∧ SqT K H a xs ∧ Paired (Th K H) xs ds := by
  obtain ⟨a, xs, e, h, t⟩ := h.itemsS
  exact ⟨a, xs, e, .inl h, t⟩
theorem Th.tupI {a : Addr} {xs : List V} {ds : List PyData} (h : H a = some (.tup xs)) (hi : Paired (Th K H) xs ds) : Th K H (.ref a) (.tuple ds) := .tup (.inl h) (thAll hi)
end
end Wb

set_option Elab.async false
set_option linter.all false
set_option maxRecDepth 100000
set_option maxHeartbeats 4000000
set_option pp.maxSteps 600
set_option pp.deepTerms false
namespace Wb
open PySem PySem.Spec PyProof.Rows L2
def itemsD : PyData → List PyData
  | .tuple ds => ds
  | _ => []
def placeB : PyData → Int → Bool
  | .int i, m => decide (0 ≤ i) && decide (i < m)
  | _, _ => false
def allP : List PyData → List Int → Bool
  | d :: ds, m :: ms => placeB d m && allP ds ms
  | _, _ => true
def placesB (d : PyData) (ms : List Int) : Bool := isTup d && (decide ((itemsD d).length = ms.length) && allP (itemsD d) ms)
theorem allP_bad : ∀ {ds : List PyData} {ms : List Int} {i : Nat} {d : PyData} {m : Int}, ds[i]? = some d → ms[i]? = some m → placeB d m = false → allP ds ms = false
  | _ :: _, _ :: _, 0, d, m, h1, h2, h => by
    simp at h1 h2
    subst h1 h2
    simp [allP, h]
  | _ :: _, _ :: _, i + 1, d, m, h1, h2, h => by
    have := allP_bad (i := i) (by simpa using h1) (by simpa using h2) h
    simp [allP, this]
  | [], _, _, _, _, h1, _, _ => by simp at h1
  | _ :: _, [], _, _, _, _, h2, _ => by simp at h2
theorem allP_all : ∀ {ds : List PyData} {ms : List Int}, (∀ (i : Nat) (d : PyData) (m : Int), ds[i]? = some d → ms[i]? = some m → placeB d m = true) → allP ds ms = true
  | d :: ds, m :: ms, h => by
    have h0 := h 0 d m rfl rfl
    have := allP_all (ds := ds) (ms := ms) fun i d' m' a b => h (i + 1) d' m' (by simpa using a) (by simpa using b)
    simp [allP, h0, this]
  | [], _, _ => by simp [allP]
  | _ :: _, [], _ => by simp [allP]
def isNon : PyData → Bool
  | .none => true
  | _ => false
section
variable {K : PySem.W.Frag} {H : Hp}
theorem tup_of {d : PyData} (h : isTup d = true) : ∃ ds, d = .tuple ds := by
  cases d <;> first
    | exact ⟨_, rfl⟩
    | cases h
/-- the value of a thing is no int or bool that its data isn't -/
theorem Th.int_of {v : V} {d : PyData} (h : Th K H v d) (hi : isInt d = true) (hb : isBool d = false) : ∃ i, d = .int i ∧ v = .int i := by
  cases d <;> first
    | (cases hi; done)
    | (cases hb; done)
    | skip
  rename_i i
  refine ⟨i, rfl, ?_⟩
  cases h
  rfl
theorem Th.non_iff {v : V} {d : PyData} (h : Th K H v d) : decide (v = .non) = isNon d := by
  cases h <;> simp [isNon]
end
def spTupG (K : PySem.W.Frag) : Sp := fun vs H Q _ => ∃ (v : V) (d : PyData) (l h : Int), vs = [v, .int l, .int h] ∧ Th K H v d ∧ Q (.bl (isTup d && (decide (l ≤ ((itemsD d).length : Int)) && decide (((itemsD d).length : Int) ≤ h)))) H
section
variable {P : Program} {w : World} {K : PySem.W.Frag} {mg : Str → Option Value} {base : Heap}
theorem ok_tupG {f : Addr} {fd : FuncData} (F : Fun K "is_tuple_of" "is_tuple_of" sTupOf f fd) (B : Bi mg) : FnOk P w K mg base CX0 1 f fd ["thing", "low", "high"] (spTupG K) := by
  refine F.ok scTupOf (fun vs H Q E h => ?_) (fun cdv A outer s H vs Q E hr h => ?_)
  · obtain ⟨v, d, l, m, rfl, _⟩ := h; rfl
  · obtain ⟨v, d, l, m, rfl, hv, q⟩ := h
    refine ⟨_, pss_one (ps_ret (pe_and (pe_callB call_isi (by rfl) B.isi boot_isinstance (pa_cons (pv 0) (pa_cons (pe_bltn (v := .ty "tuple") (by rfl) B.tuple (by decide +kernel) rfl) pa_nil)))
      (pe_one (pe_chain op_le op_le (pv 1) (pe_callB call_len_seq (by rfl) B.len PySem.boot_len (pa_cons (pv 0) pa_nil)) (pv 2))))), ?_⟩
    refine ⟨v, rfl, v, .ty "tuple", .type (tyS d), .type "tuple", isTup d, rfl, .ty _, hv.ty, kit_ty (kit_tup d), isTup d, rfl, ?_⟩
    cases ht : isTup d with
    | false =>
      rw [ht] at q
      rw [if_neg Bool.false_ne_true]
      exact q
    | true =>
      rw [ht] at q
      rw [if_pos rfl]
      obtain ⟨ds, rfl⟩ := tup_of ht
      obtain ⟨a, xs, rfl, hx, hi⟩ := hv.items
      have e : ((itemsD (.tuple ds)).length : Int) = xs.length := by rw [(Paired.len hi)]; rfl
      rw [e] at q
      refine ⟨.int l, rfl, .ref a, rfl, a, xs, rfl, .inr hx, l, xs.length, rfl, rfl, decide (l ≤ (xs.length : Int)), rfl, ?_⟩
      by_cases h1 : l ≤ (xs.length : Int)
      · rw [if_pos (decide_eq_true h1)]
        refine ⟨.int m, rfl, xs.length, m, rfl, rfl, ?_⟩
        rw [decide_eq_true h1] at q
        exact q
      · rw [if_neg (by rw [decide_eq_false h1]; exact Bool.false_ne_true)]
        rw [decide_eq_false h1] at q
        exact q
end
def wholeB : PyData → Int → Int → Bool
  | .int i, l, m => decide (l ≤ i) && decide (i ≤ m)
  | _, _, _ => false
def plainInt : PyData → Bool
  | .int _ => true
  | _ => false
theorem plain_eq (d : PyData) : (isInt d && !isBool d) = plainInt d := by cases d <;> rfl
def spWholeG (K : PySem.W.Frag) : Sp := fun vs H Q _ => ∃ (v : V) (d : PyData), vs = [v] ∧ Th K H v d ∧ Q (.bl (plainInt d)) H
def spWholeInG (K : PySem.W.Frag) : Sp := fun vs H Q _ => ∃ (v : V) (d : PyData) (l m : Int), vs = [v, .int l, .int m] ∧ Th K H v d ∧ Q (.bl (wholeB d l m)) H
section
variable {P : Program} {w : World} {K : PySem.W.Frag} {mg : Str → Option Value} {base : Heap}
theorem ok_wholeG {f : Addr} {fd : FuncData} (F : Fun K "is_whole" "is_whole" sWhole f fd) (B : Bi mg) : FnOk P w K mg base CX0 1 f fd ["thing"] (spWholeG K) := by
  refine F.ok scWhole (fun vs H Q E h => ?_) (fun cdv A outer s H vs Q E hr h => ?_)
  · obtain ⟨v, d, rfl, _⟩ := h; rfl
  · obtain ⟨v, d, rfl, hv, q⟩ := h
    refine ⟨_, pss_one (ps_ret (pe_and (pe_callB call_isi (by rfl) B.isi boot_isinstance (pa_cons (pv 0) (pa_cons (pe_bltn (v := .ty "int") (by rfl) B.int (by decide +kernel) rfl) pa_nil)))
      (pe_one (pe_not (pe_callB call_isi (by rfl) B.isi boot_isinstance (pa_cons (pv 0) (pa_cons (pe_bltn (v := .ty "bool") (by rfl) B.bool (by decide +kernel) rfl) pa_nil))))))), ?_⟩
    refine ⟨v, rfl, v, .ty "int", .type (tyS d), .type "int", isInt d, rfl, .ty _, hv.ty, kit_ty (kit_int d), isInt d, rfl, ?_⟩
    rw [← plain_eq] at q
    cases hi : isInt d with
    | false =>
      rw [hi] at q
      rw [if_neg Bool.false_ne_true]
      exact q
    | true =>
      rw [hi] at q
      rw [if_pos rfl]
      exact ⟨v, rfl, v, .ty "bool", .type (tyS d), .type "bool", isBool d, rfl, .ty _, hv.ty, kit_ty (kit_bool d), isBool d, rfl, q⟩
theorem plain_of {v : V} {d : PyData} {H : Hp} (h : Th K H v d) (hp : plainInt d = true) : ∃ i, d = .int i ∧ v = .int i := by
  cases d <;> first
    | (cases hp; done)
    | skip
  rename_i i
  refine ⟨i, rfl, ?_⟩
  cases h
  rfl
theorem ok_wholeInG {f f1 : Addr} {fd fd1 : FuncData} (F : Fun K "is_whole_in" "is_whole_in" sWholeIn f fd) (F1 : Fun K "is_whole" "is_whole" sWhole f1 fd1) (b1 : Binds K fd1 ["thing"] []) (g1 : mg "is_whole" = some (.ref f1)) (B : Bi mg) :
    FnOk P w K mg base CX0 2 f fd ["thing", "low", "high"] (spWholeInG K) := by
  have G1 : FnOk P w K mg base CX0 1 f1 fd1 ["thing"] (spWholeG K) := ok_wholeG F1 B
  refine F.ok scWholeIn (fun vs H Q E h => ?_) (fun cdv A outer s H vs Q E hr h => ?_)
  · obtain ⟨v, d, l, m, rfl, _⟩ := h; rfl
  · obtain ⟨v, d, l, m, rfl, hv, q⟩ := h
    refine ⟨_, pss_one (ps_ret (pe_and (pe_call G1 hr (by rfl) g1 F1.kp b1 .nil pass0 (pa_cons (pv 0) pa_nil)) (pe_one (pe_chain op_le op_le (pv 1) (pv 0) (pv 2))))), ?_⟩
    refine ⟨v, rfl, v, d, rfl, hv, plainInt d, rfl, ?_⟩
    cases hp : plainInt d with
    | false =>
      rw [if_neg Bool.false_ne_true]
      have z : wholeB d l m = false := by
        cases d <;> first
          | rfl
          | cases hp
      rw [z] at q
      exact q
    | true =>
      rw [if_pos rfl]
      obtain ⟨i, rfl, rfl⟩ := plain_of hv hp
      have z : wholeB (.int i) l m = (decide (l ≤ i) && decide (i ≤ m)) := rfl
      rw [z] at q
      refine ⟨.int l, rfl, .int i, rfl, l, i, rfl, rfl, decide (l ≤ i), rfl, ?_⟩
      by_cases h1 : l ≤ i
      · rw [if_pos (decide_eq_true h1)]
        refine ⟨.int m, rfl, i, m, rfl, rfl, ?_⟩
        rw [decide_eq_true h1] at q
        exact q
      · rw [if_neg (by rw [decide_eq_false h1]; exact Bool.false_ne_true)]
        rw [decide_eq_false h1] at q
        exact q
def spPlacesG (K : PySem.W.Frag) : Sp := fun vs H Q _ => ∃ (v : V) (d : PyData) (b : Addr) (m : Bool) (ms : List Int), vs = [v, .ref b] ∧ Th K H v d ∧ SqX K m H b (ms.map V.int) ∧ ∀ H', Evl.Ex H H' → Q (.bl (placesB d ms)) H'
theorem ok_placesG {f f1 : Addr} {fd fd1 : FuncData} (F : Fun K "are_places" "are_places" sPlaces f fd) (F1 : Fun K "is_tuple_of" "is_tuple_of" sTupOf f1 fd1) (b1 : Binds K fd1 ["thing", "low", "high"] []) (g1 : mg "is_tuple_of" = some (.ref f1)) (B : Bi mg) :
    FnOk P w K mg base CX0 2 f fd ["thing", "manys"] (spPlacesG K) := by
  have G1 : FnOk P w K mg base CX0 1 f1 fd1 ["thing", "low", "high"] (spTupG K) := ok_tupG F1 B
  refine F.ok scPlaces (fun vs H Q E h => ?_) (fun cdv A outer s H vs Q E hr h => ?_)
  · obtain ⟨v, d, b, m, ms, rfl, _⟩ := h; rfl
  · obtain ⟨v, d, b, mm, ms, rfl, hv, hy, q⟩ := h
    refine ⟨_, pss_cons (ps_if (pt_not (pt_val (pe_call G1 hr (by rfl) g1 F1.kp b1 .nil pass0 (pa_cons (pv 0) (pa_cons (pe_callB call_len_seq (by rfl) B.len PySem.boot_len (pa_cons (pv 1) pa_nil)) (pa_cons (pe_callB call_len_seq (by rfl) B.len PySem.boot_len (pa_cons (pv 1) pa_nil)) pa_nil))))))
        (pss_one (ps_ret pe_bl)) pss_nil)
      (pss_cons (ps_for PassesOwn.never rfl (pi_zipX (by rfl) B.zip (pa_cons (pv 0) (pa_cons (pv 1) pa_nil))) (pg_tup rfl (pgs_cons (pg_name (i := 2) scPlaces.nd rfl (.inl rfl)) (pgs_cons (pg_name (i := 3) scPlaces.nd rfl (.inl rfl)) pgs_nil)))
        (pss_one (ps_if (PW.pt (pw_or (pt_val (pe_callB call_isi (by rfl) B.isi boot_isinstance (pa_cons (pv 2) (pa_cons (pe_bltn (v := .ty "bool") (by rfl) B.bool (by decide +kernel) rfl) pa_nil))))
            (pw_or (pt_not (pt_val (pe_callB call_isi (by rfl) B.isi boot_isinstance (pa_cons (pv 2) (pa_cons (pe_bltn (v := .ty "int") (by rfl) B.int (by decide +kernel) rfl) pa_nil)))))
              (pw_or1 (pt_not (pt_chain op_le op_lt pe_int (pv 2) (pv 3)))))))
          (pss_one (ps_ret pe_bl)) pss_nil)))
      (pss_one (ps_ret pe_bl))), ?_⟩
    refine ⟨v, rfl, .ref b, rfl, b, _, rfl, sqx_seq hy, .ref b, rfl, b, _, rfl, sqx_seq hy, v, d, _, _, rfl, hv, _, rfl, ?_⟩
    have lm : ((ms.map V.int).length) = ms.length := List.length_map ..
    cases ht : isTup d with
    | false =>
      have z : placesB d ms = false := by unfold placesB; rw [ht]; rfl
      rw [z] at q
      refine iteT ?_
      exact q H (Evl.Ex.refl H)
    | true =>
      obtain ⟨ds, rfl⟩ := tup_of ht
      obtain ⟨a, xs, rfl, hx, hi⟩ := hv.items
      have xl := (Paired.len hi)
      by_cases hl : ds.length = ms.length
      · have z : (decide (((ms.map V.int).length : Int) ≤ ((itemsD (.tuple ds)).length : Int)) && decide (((itemsD (.tuple ds)).length : Int) ≤ ((ms.map V.int).length : Int))) = true := by
          rw [lm]
          show (decide ((ms.length : Int) ≤ (ds.length : Int)) && decide ((ds.length : Int) ≤ (ms.length : Int))) = true
          rw [hl]
          simp
        rw [z]
        refine iteF ?_
        have pB : placesB (.tuple ds) ms = allP ds ms := by
          show (true && (decide (ds.length = ms.length) && allP ds ms)) = _
          rw [decide_eq_true hl]
          simp
        rw [pB] at q
        refine ⟨.ref a, rfl, .ref b, rfl, false, mm, a, b, xs, ms.map V.int, rfl, hx, hy, ?_⟩
        refine for_it (walk_zx (l := false) (m := mm) (xs := xs) (ys := ms.map V.int) (by rw [lm, xl, hl])) (fun i σ H' => ∃ y2 y3, σ = [some (.ref a), some (.ref b), y2, y3] ∧ Evl.Ex H H' ∧ ∀ j d m, j < i → ds[j]? = some d → ms[j]? = some m → placeB d m = true) ⟨none, none, rfl, Evl.Ex.refl H, fun j _ _ z => absurd z (Nat.not_lt_zero j)⟩ ?_ ?_ ?_
        · rintro i σ H' _ ⟨_, _, _, e, _⟩
          exact ⟨Evl.ex_t e hx, sqx_ex e hy⟩
        · rintro i v σ H1 H2 hii ⟨y2, y3, rfl, e, hall⟩ ⟨T, x, y, rfl, nT, rfl, ex, ey⟩
          obtain ⟨k, hk, rfl⟩ := get_map_int ey
          obtain ⟨dx, hdx, hth⟩ := Paired.get1 hi ex
          have e2 : Evl.Ex H (upd H1 T (.tup [x, .int k])) := e.trans (Evl.Ex.new nT)
          have hth2 := hth.keep (TK.ex e2)
          refine ⟨T, [x, .int k], rfl, .inl (.inl upd_same), rfl, x, [.int k], rfl, .int k, [], rfl, rfl, ?_⟩
          refine ⟨x, rfl, x, .ty "bool", .type (tyS dx), .type "bool", isBool dx, rfl, .ty _, hth2.ty, kit_ty (kit_bool dx), isBool dx, rfl, ?_⟩
          have bad : placeB dx k = false → Q (.bl false) (upd H1 T (.tup [x, .int k])) := fun z => by
            have := q _ e2
            rw [allP_bad hdx hk z] at this
            exact this
          cases hb : isBool dx with
          | true =>
            refine iteT (iteT ?_)
            refine bad ?_
            cases dx <;> first
              | rfl
              | cases hb
          | false =>
            refine iteF ?_
            refine ⟨x, rfl, x, .ty "int", .type (tyS dx), .type "int", isInt dx, rfl, .ty _, hth2.ty, kit_ty (kit_int dx), isInt dx, rfl, ?_⟩
            cases hn : isInt dx with
            | false =>
              refine iteT (iteT ?_)
              refine bad ?_
              cases dx <;> first
                | rfl
                | cases hn
            | true =>
              refine iteF ?_
              obtain ⟨n, rfl, rfl⟩ := hth.int_of hn hb
              refine ⟨.int n, rfl, 0, n, rfl, rfl, decide ((0:Int) ≤ n), rfl, ?_⟩
              by_cases h0 : (0 : Int) ≤ n
              · rw [if_pos (decide_eq_true h0)]
                refine ⟨.int k, rfl, n, k, rfl, rfl, decide (n < k), rfl, ?_⟩
                by_cases h1 : n < k
                · rw [decide_eq_true h1]
                  refine iteF ?_
                  refine ⟨_, _, rfl, e2, fun j d m hj hd hm => ?_⟩
                  by_cases hji : j = i
                  · subst hji
                    rw [hdx] at hd
                    rw [hk] at hm
                    cases hd
                    cases hm
                    show (decide (0 ≤ n) && decide (n < k)) = true
                    rw [decide_eq_true h0, decide_eq_true h1]
                    rfl
                  · exact hall j d m (by omega) hd hm
                · rw [decide_eq_false h1]
                  refine iteT ?_
                  refine bad ?_
                  show (decide (0 ≤ n) && decide (n < k)) = false
                  rw [decide_eq_false h1]
                  simp
              · rw [if_neg (by rw [decide_eq_false h0]; exact Bool.false_ne_true)]
                refine ⟨false, rfl, ?_⟩
                refine iteT ?_
                refine bad ?_
                show (decide (0 ≤ n) && decide (n < k)) = false
                rw [decide_eq_false h0]
                rfl
        · rintro σ H' ⟨y2, y3, rfl, e, hall⟩
          have z2 : allP ds ms = true := allP_all fun i d m hd hm => hall i d m (by
            have := (List.getElem?_eq_some_iff.mp hd).1
            omega) hd hm
          have := q H' e
          rw [z2] at this
          exact this
      · have z : (decide (((ms.map V.int).length : Int) ≤ ((itemsD (.tuple ds)).length : Int)) && decide (((itemsD (.tuple ds)).length : Int) ≤ ((ms.map V.int).length : Int))) = false := by
          rw [lm]
          show (decide ((ms.length : Int) ≤ (ds.length : Int)) && decide ((ds.length : Int) ≤ (ms.length : Int))) = false
          rw [Bool.and_eq_false_iff]
          by_cases h : (ms.length : Int) ≤ ds.length
          · exact .inr (decide_eq_false (by omega))
          · exact .inl (decide_eq_false h)
        rw [z]
        have pB : placesB (.tuple ds) ms = false := by
          show (true && (decide (ds.length = ms.length) && allP ds ms)) = false
          rw [decide_eq_false hl]
          rfl
        rw [pB] at q
        refine iteT ?_
        exact q H (Evl.Ex.refl H)
end
end Wb

set_option Elab.async false
set_option linter.all false
set_option maxRecDepth 100000
set_option maxHeartbeats 4000000
set_option pp.maxSteps 600
set_option pp.deepTerms false
namespace Wb
open PySem PySem.Spec PyProof.Rows L2
section
variable {P : Program} {w : World} {K : PySem.W.Frag} {mg : Str → Option Value} {base : Heap}
theorem few_cuts {l : Lock} (ok : LockOk l) {k : Nat} (hk : k < l.length) {cur : List Word} (h1 : cur.Nodup) (h2 : ∀ u ∈ cur, cutsFrom l k u) : cur.length < sizeLine :=
  Nat.lt_of_le_of_lt (ok.words k cur hk h1 h2) (by decide)
theorem kws_len (ws : List Word) (v : Word → V) : (kws ws v).length = ws.length := List.length_map ..
theorem ok_words {f : Addr} {fd : FuncData} (F : Fun K "words_of" "words_of" sWords f fd) (B : Bi mg) : FnOk P w K mg base CX0 1 f fd ["lock"] (spWords K) := by
  refine F.ok scWords (fun vs H Q E h => ?_) (fun cdv A outer s H vs Q E hr h => ?_)
  · obtain ⟨v, l, rfl, _⟩ := h; rfl
  · obtain ⟨v, l, rfl, ⟨a, bs, rfl, hx, hp⟩, ok, q⟩ := h
    have hu := hu_of hr
    refine ⟨_, pss_cons (ps_set (i := 1) scWords.nd rfl (.inl rfl) (pe_lst pa_nil))
      (pss_cons (ps_set (i := 2) scWords.nd rfl (.inl rfl) (pe_lst pa_nil))
      (pss_cons (ps_for PassesOwn.never rfl (pi_revR (by rfl) B.rev (prg_1 (by rfl) B.range (pe_callB call_len_seq (by rfl) B.len PySem.boot_len (pa_cons (pv 0) pa_nil)))) (pg_name (i := 3) scWords.nd rfl (.inl rfl))
        (pss_cons (ps_set (i := 4) scWords.nd rfl (.inl rfl) pe_dnewT)
        (pss_cons (ps_for PassesOwn.never rfl (pi_list (pv 2)) (pg_name (i := 5) scWords.nd rfl (.inl rfl))
          (pss_one (ps_dput hu (pv 4) (pe_slice sl_tupA (pv 5) po_none (po_some (pv 3))) pe_bl rfl)))
        (pss_cons (ps_for PassesOwn.never rfl (pi_tup (pe_ix ix_tup (pe_ix ix_tup (pv 0) (pv 3) (fun _ _ => rfl)) pe_int (fun _ _ => rfl))) (pg_name (i := 6) scWords.nd rfl (.inl rfl))
          (pss_one (ps_for PassesOwn.never rfl (pi_tup (pe_ix ix_tup (pv 6) pe_int (fun _ _ => rfl))) (pg_name (i := 7) scWords.nd rfl (.inl rfl))
            (pss_one (ps_dput hu (pv 4) (pv 7) pe_bl rfl)))))
        (pss_cons (ps_set (i := 2) scWords.nd rfl (.inl rfl) (pe_callTy (call_list_dT rfl) (by rfl) B.list (PyProof.Rows.boot_list) (pa_cons (pv 4) pa_nil)))
        (pss_one (ps_expr (pe_bm PySem.F.plainAttrs_list PySem.F.slot_list_append PySem.F.type_list_append mt_append (pv 1) (pa_cons (pv 2) pa_nil)))))))))
      (pss_one (ps_ret (pe_revL (pv 1)))))), ?_⟩
    have bl : bs.length = l.length := Paired.len hp
    have n60 := ok.n1
    refine ⟨Nat.zero_le _, fun r0 nr0 => ?_⟩
    refine ⟨Nat.zero_le _, fun a0 na0 => ?_⟩
    have x1 : Evl.Ex H (upd H r0 (.lst [])) := Evl.Ex.new nr0
    have na0' : H a0 = none := Evl.fresh_back x1 na0
    have nar : r0 ≠ a0 := fun z => by rw [← z, upd_same] at na0; cases na0
    refine ⟨.ref a, rfl, a, bs, rfl, .inr (Evl.ex_t (x1.trans (Evl.Ex.new na0)) hx), _, rfl, by omega, by omega, by omega, by omega, ?_⟩
    refine for_rangeC (lo := _) (c := -1) (n := _) (fun i σ H' => ∃ (aA : Addr) (rs : List Addr) (ws : List Word) (y3 y4 y5 y6 y7 : Option V), σ = [some (.ref a), some (.ref r0), some (.ref aA), y3, y4, y5, y6, y7] ∧
        Evl.Ex H H' ∧ RowAt K H' aA ws ∧ WordsAt l (l.length - i) ws ∧ H' r0 = some (.lst (rs.map V.ref)) ∧ rs.length = i ∧
        ∀ j r, rs[j]? = some r → r ≠ r0 ∧ H r = none ∧ ∃ ws', RowAt K H' r ws' ∧ WordsAt l (l.length - 1 - j) ws')
      ⟨a0, [], [], none, none, none, none, none, rfl, x1.trans (Evl.Ex.new na0), ⟨[], upd_same, .nil⟩, ⟨List.nodup_nil, fun w => ?_⟩, by rw [upd_ne nar, upd_same]; rfl, rfl, fun j r e => by simp at e⟩ ?_ ?_
    · constructor
      · intro z; cases z
      · rintro ⟨j, b, g, u, hj, hb, _⟩
        have := (List.getElem?_eq_some_iff.mp hb).1
        omega
    · rintro i σ H1 hi ⟨aA, rs, ws, y3, y4, y5, y6, y7, rfl, e1, hA, hW, hR, hl, hrs⟩
      have hi' : i < l.length := by omega
      -- the bolt's number
      have ek : (0 : Int) + (((((bs.length : Nat) : Int) - 0).toNat : Nat) : Int) - 1 + (i : Nat) * (-1) = ((l.length - 1 - i : Nat) : Int) := by rw [bl]; omega
      rw [ek]
      generalize hk : l.length - 1 - i = k at *
      have hkl : k < l.length := by omega
      have hk1 : l.length - i = k + 1 := by omega
      rw [hk1] at hW
      obtain ⟨b, hb⟩ : ∃ b, l[k]? = some b := ⟨l[k], List.getElem?_eq_getElem hkl⟩
      obtain ⟨vb, hvb, hba⟩ := Paired.get2 hp hb
      obtain ⟨us, hAu, hAp⟩ := hA
      have ul : us.length = ws.length := Paired.len hAp
      intro d nd
      have nd0 : H d = none := Evl.fresh_back e1 nd
      have ndr : d ≠ r0 := fun z => by rw [z, hR] at nd; cases nd
      have e2 : Evl.Ex H1 (upd H1 d (.dT [])) := Evl.Ex.new nd
      -- the words above, cut
      refine ⟨.ref aA, rfl, aA, rfl, ⟨us, .inl (.inl (e2 _ _ hAu))⟩, for_list (K := K) (a := aA) (xs := us) (fun j σ H' => ∃ (cur : List Word) (y5 : Option V), σ = [some (.ref a), some (.ref r0), some (.ref aA), some (.int (k : Nat)), some (.ref d), y5, y6, y7] ∧
          Evl.Ex H1 H' ∧ H' d = some (.dT (kws cur fun _ => .bl true)) ∧ cur.Nodup ∧ ∀ u, u ∈ cur ↔ ∃ t ∈ ws.take j, u = t.take k) ⟨[], y5, rfl, e2, upd_same, List.nodup_nil, fun u => by simp⟩ ?_ ?_ ?_⟩
      · rintro j σ H' _ ⟨cur, z5, _, e, _⟩
        exact .inl (.inl (e _ _ hAu))
      · rintro j x σ H' hj ⟨cur, z5, rfl, e3, hd, nc, hc⟩
        obtain ⟨t, ht, ⟨ax, rfl, hax⟩⟩ := Paired.get1 hAp hj
        have htw : t ∈ ws := List.mem_of_getElem? ht
        have hcut : cutsFrom l (k + 1) t := (hW.2 t).mp htw
        have lt1 : t.length = k + 1 := cutsFrom_len ok (by omega) hcut
        have hcur : ∀ u ∈ cur, cutsFrom l k u := by
          intro u hu
          obtain ⟨t', ht', rfl⟩ := (hc u).mp hu
          exact (cuts_step ok hb _).mpr (.inl ⟨t', (hW.2 t').mp (List.mem_of_mem_take ht'), rfl⟩)
        have lc := few_cuts ok hkl nc hcur
        refine ⟨.ref d, rfl, .ref ax, rfl, .int (k : Nat), rfl, (k : Nat), rfl, ax, _, rfl, .inl (.inl (e3 _ _ hax)), fun z => absurd (slice_whole z.2) (by rw [List.length_map]; omega), fun _ p np => ?_⟩
        rw [cut_take, ← List.map_take]
        have npd : p ≠ d := fun z => by rw [z, hd] at np; cases np
        have e4 := Evl.Ex.new (o := .tup ((t.take k).map V.int)) np
        refine ⟨d, _, rfl, DPut.t (k := keyW (t.take k)) (e4 _ _ hd) (by rw [keyW_kV]; exact upd_same) (by rw [kws_len]; exact lc), ?_⟩
        refine ⟨addW cur (t.take k), _, rfl, (e3.trans e4).mut nd, by rw [upd_same, put_kws], nodup_addW nc, fun u => ?_⟩
        rw [mem_addW, hc u, take_succ_get ht]
        constructor
        · rintro (⟨t', h1, h2⟩ | rfl)
          · exact ⟨t', List.mem_append_left _ h1, h2⟩
          · exact ⟨t, by simp, rfl⟩
        · rintro ⟨t', h1, h2⟩
          rcases List.mem_append.mp h1 with h1 | h1
          · exact .inl ⟨t', h1, h2⟩
          · have : t' = t := by simpa using h1
            subst this
            exact .inr h2
      · rintro σ H2 ⟨cur0, z5, rfl, e3, hd, nc0, hc0⟩
        rw [ul, List.take_length] at hc0
        obtain ⟨ab, cg, gs, rfl, hb1, hb2, hb3⟩ := hba
        have e13 := e1.trans e3
        have gl : gs.length = b.gaps.length := Paired.len hb3
        -- the bolt's own ways
        refine ⟨.ref a, rfl, .int (k : Nat), rfl, a, bs, (k : Nat), .ref ab, rfl, rfl, Evl.ex_t e13 hx, atI_nat hvb, ab, _, 1, .ref cg, rfl, rfl, Evl.ex_t e13 hb1, atI_nat (j := 1) rfl, cg, rfl, ⟨gs, Evl.ex_t e13 hb2⟩,
          for_tup (K := K) (a := cg) (xs := gs) (fun j σ H' => ∃ (cur : List Word) (y6 y7 : Option V), σ = [some (.ref a), some (.ref r0), some (.ref aA), some (.int (k : Nat)), some (.ref d), z5, y6, y7] ∧
            Evl.Ex H1 H' ∧ H' d = some (.dT (kws cur fun _ => .bl true)) ∧ cur.Nodup ∧ ∀ u, u ∈ cur ↔ (∃ t ∈ ws, u = t.take k) ∨ ∃ g ∈ b.gaps.take j, u ∈ g.ways) ⟨cur0, y6, y7, rfl, e3, hd, nc0, fun u => by rw [hc0]; simp⟩ ?_ ?_ ?_⟩
        · rintro j σ H' _ ⟨cur, _, _, _, e, _⟩
          exact Evl.ex_t (e1.trans e) hb2
        · rintro j x σ H' hj ⟨cur, z6, z7, rfl, e4, hd4, nc, hc⟩
          obtain ⟨g, hgj, ⟨ag, bg, wv, rfl, hg1, hg2, hg3⟩⟩ := Paired.get1 hb3 hj
          have hgm : g ∈ b.gaps := List.mem_of_getElem? hgj
          have e14 := e1.trans e4
          have wl : wv.length = g.ways.length := Paired.len hg3
          refine ⟨.ref ag, rfl, ag, _, 3, .ref bg, rfl, rfl, Evl.ex_t e14 hg1, atI_nat (j := 3) rfl, bg, rfl, ⟨wv, Evl.ex_t e14 hg2⟩,
            for_tup (K := K) (a := bg) (xs := wv) (fun m σ H' => ∃ (cur : List Word) (y7 : Option V), σ = [some (.ref a), some (.ref r0), some (.ref aA), some (.int (k : Nat)), some (.ref d), z5, some (.ref ag), y7] ∧
              Evl.Ex H1 H' ∧ H' d = some (.dT (kws cur fun _ => .bl true)) ∧ cur.Nodup ∧ ∀ u, u ∈ cur ↔ ((∃ t ∈ ws, u = t.take k) ∨ ∃ g ∈ b.gaps.take j, u ∈ g.ways) ∨ u ∈ g.ways.take m) ⟨cur, z7, rfl, e4, hd4, nc, fun u => by rw [hc]; simp⟩ ?_ ?_ ?_⟩
          · rintro m σ H' _ ⟨_, _, _, e, _⟩
            exact Evl.ex_t (e1.trans e) hg2
          · rintro m x σ H3 hm ⟨cur, z7, rfl, e5, hd5, nc, hc⟩
            obtain ⟨t, ht, ⟨ax, rfl, hax⟩⟩ := Paired.get1 hg3 hm
            have hcur : ∀ u ∈ cur, cutsFrom l k u := by
              intro u hu
              rcases (hc u).mp hu with (⟨t', ht', rfl⟩ | ⟨g', hg', hu'⟩) | hu'
              · exact (cuts_step ok hb _).mpr (.inl ⟨t', (hW.2 t').mp ht', rfl⟩)
              · exact (cuts_step ok hb _).mpr (.inr ⟨g', List.mem_of_mem_take hg', hu'⟩)
              · exact (cuts_step ok hb _).mpr (.inr ⟨g, hgm, List.mem_of_mem_take hu'⟩)
            have lc := few_cuts ok hkl nc hcur
            refine ⟨.ref d, rfl, .ref ax, rfl, d, _, rfl, DPut.t (k := keyW t) hd5 (by rw [keyW_kV]; exact (e1.trans e5) _ _ hax) (by rw [kws_len]; exact lc), ?_⟩
            refine ⟨addW cur t, _, rfl, e5.mut nd, by rw [upd_same, put_kws], nodup_addW nc, fun u => ?_⟩
            rw [mem_addW, hc u, take_succ_get ht, List.mem_append, or_assoc]
            simp
          · rintro σ H3 ⟨cur, z7, rfl, e5, hd5, nc, hc⟩
            refine ⟨cur, _, _, rfl, e5, hd5, nc, fun u => ?_⟩
            rw [hc u, wl, List.take_length, take_succ_get hgj, or_assoc]
            simp only [List.mem_append, List.mem_singleton]
            constructor
            · rintro (h | ⟨g', h1, h2⟩ | h)
              · exact .inl h
              · exact .inr ⟨g', .inl h1, h2⟩
              · exact .inr ⟨g, .inr rfl, h⟩
            · rintro (h | ⟨g', h1 | h1, h2⟩)
              · exact .inl h
              · exact .inr (.inl ⟨g', h1, h2⟩)
              · exact .inr (.inr (h1 ▸ h2))
        · rintro σ H2 ⟨cur, z6, z7, rfl, e4, hd4, nc, hc⟩
          rw [gl, List.take_length] at hc
          have hcur : ∀ u, u ∈ cur ↔ cutsFrom l k u := by
            intro u
            rw [hc u, cuts_step ok hb u]
            constructor
            · rintro (⟨t, h1, h2⟩ | h)
              · exact .inl ⟨t, (hW.2 t).mp h1, h2⟩
              · exact .inr h
            · rintro (⟨t, h1, h2⟩ | h)
              · exact .inl ⟨t, (hW.2 t).mpr h1, h2⟩
              · exact .inr h
          refine ⟨.ref d, rfl, d, _, rfl, .inl hd4, fun p qs np hk' => ?_⟩
          have hrows := isKeys_rows (K := K) hk'
          have e5 := Evl.Ex.new (o := .lst (qs.map V.ref)) np
          have npr : p ≠ r0 := fun z => by rw [z, e4 _ _ hR] at np; cases np
          have hR5 : (upd H2 p (.lst (qs.map V.ref))) r0 = some (.lst (rs.map V.ref)) := e5 _ _ (e4 _ _ hR)
          refine ⟨.ref r0, rfl, .inl ⟨rfl, _, SqL.of hR5⟩, .ref p, rfl, r0, _, _, rfl, rfl, hR5, ?_, ?_⟩
          · rw [List.length_map, hl]
            exact Nat.lt_of_lt_of_le (show i < 61 by omega) (by decide)
          · have e15 : Evl.Ex H1 (upd H2 p (.lst (qs.map V.ref))) := e4.trans e5
            have keep : ∀ {r : Addr} {ws' : List Word} {Hx : Hp}, r ≠ r0 → RowAt K Hx r ws' → Hx r0 ≠ none → (∀ xs, Hx r0 ≠ some (.tup xs)) → ∀ o, RowAt K (upd Hx r0 o) r ws' := by
              rintro r ws' Hx hne ⟨us', h1, h2⟩ _ ht o
              refine ⟨us', by rw [upd_ne hne]; exact h1, Paired.imp (fun v w' h => ?_) h2⟩
              obtain ⟨ax, rfl, hax⟩ := h
              exact ⟨ax, rfl, by rw [upd_ne (fun z => ht _ (z ▸ hax))]; exact hax⟩
            have nn : (upd H2 p (.lst (qs.map V.ref))) r0 ≠ none := by rw [hR5]; exact fun z => nomatch z
            have nt : ∀ xs, (upd H2 p (.lst (qs.map V.ref))) r0 ≠ some (.tup xs) := fun xs z => by rw [hR5] at z; cases z
            have hP : RowAt K (upd H2 p (.lst (qs.map V.ref))) p cur := ⟨qs.map V.ref, upd_same, Paired.imp (fun _ _ => wd_ex e5) hrows⟩
            have hWk : WordsAt l k cur := ⟨nc, hcur⟩
            refine ⟨p, rs ++ [p], cur, _, _, _, _, _, rfl, (e1.trans e15).mut nr0, keep npr hP nn nt _, ?_, by rw [upd_same, List.map_append]; rfl, by simp [hl], ?_⟩
            · rw [show l.length - (i + 1) = k by omega]
              exact hWk
            · intro j r hj
              by_cases hjl : j < rs.length
              · rw [List.getElem?_append_left hjl] at hj
                obtain ⟨h1, h0, ws', h2, h3⟩ := hrs j r hj
                exact ⟨h1, h0, ws', keep h1 (h2.ex e15) nn nt _, h3⟩
              · rw [List.getElem?_append_right (by omega)] at hj
                have : j = rs.length := by
                  by_cases e : j - rs.length = 0
                  · omega
                  · rw [List.getElem?_eq_none (by simp; omega)] at hj; cases hj
                subst this
                rw [Nat.sub_self] at hj
                have er : r = p := (Option.some.inj hj).symm
                subst er
                exact ⟨npr, Evl.fresh_back (e1.trans e4) np, cur, keep npr hP nn nt _, by rw [hl, hk]; exact hWk⟩
    · rintro σ H1 ⟨aA, rs, ws, y3, y4, y5, y6, y7, rfl, e1, hA, hW, hR, hl, hrs⟩
      have hl' : rs.length = l.length := by rw [hl, bl]; omega
      refine ⟨.ref r0, rfl, r0, _, rfl, .inl (.inl hR), fun p np => ?_⟩
      rw [← List.map_reverse]
      have e2 := Evl.Ex.new (o := .lst (rs.reverse.map V.ref)) np
      refine q _ p rs.reverse (e1.trans e2) (Evl.fresh_back e1 np) upd_same (by rw [List.length_reverse, hl']) ?_
      intro k r hk
      have hk2 : k < rs.reverse.length := (List.getElem?_eq_some_iff.mp hk).1
      rw [List.length_reverse] at hk2
      rw [List.getElem?_reverse hk2] at hk
      obtain ⟨_, h0, ws', h2, h3⟩ := hrs _ r hk
      refine ⟨h0, ws', h2.ex e2, ?_⟩
      rw [show l.length - 1 - (rs.length - 1 - k) = k by omega] at h3
      exact h3
end
end Wb

set_option Elab.async false
set_option linter.all false
set_option maxRecDepth 100000
set_option maxHeartbeats 4000000
set_option pp.maxSteps 600
set_option pp.deepTerms false
namespace L2
open PySem PySem.Spec PyProof.Rows
/-! ### {k: v for .. in ..}, keys that are tuples -/
theorem dT_set {X : Cx} {pins : List (Addr × Obj)} {σ : L2.St} {H : Hp} {s : Shared} {E : Value → Shared → Prop} {D q : Addr} {kvs : List (List Key × V)} {k : List Key} {v : V} {r : Value} {Q : Unit → Shared → Prop} (hu : X.A.units + 1 < cLine)
    (I : Inv X pins σ H s) (hD : H D = some (.dT kvs)) (hz : kvs.length < sizeLine) (hq : H q = some (.tup (k.map kV))) (rv : RelV v r)
    (go : ∀ s', Inv X pins σ (upd H D (.dT (putK kvs k v))) s' → Q () s') : wpAny (model X.prog X.w) X.A (dictSet D (.ref q) r) Q E s := by
  obtain ⟨z, hd, xs, rel, dd⟩ := dt_of I.hok hD
  have n1 : xs.length ≤ sizeLine := by rw [← Paired.length rel]; exact z
  have n2 : (putK kvs k v).length ≤ sizeLine := by have := length_putK kvs k v; omega
  apply wpAny_dictSet_heap (hsz := n1) (show (tupleKind (mixKind X.prog X.w)).room X.A from Nat.lt_trans (Nat.lt_succ_self _) hu) (key_of I.hok hq) dd
  intro h' dd' hs
  apply go
  obtain ⟨o, es, ep, e1, e2, e3, e4, _, e5⟩ := dd'
  apply d_write I (by rw [hD]; exact True.intro) hs ⟨o, e1⟩
  refine ⟨n2, hd, _, (rel.put k hq rv).keeps ?_, o, es, ep, e1, e2, e3, e4, e5⟩
  intro c ys ec
  rw [upd_ne (ne_of ec hD (fun z => nomatch z))]
  exact ec
section
variable {X : Cx}
def tDcT (wi : TI) (g : TG) (tt : TT) (tk tv : TE) (vs : List Nat) : TE := fun σ H Q => wi σ H fun J H1 => ∀ D, H1 D = none → ∃ W : Nat → Nat → Hp → Prop, (∃ m, W 0 m (upd H1 D (.dT []))) ∧ ∀ i m H, W i m H →
  (J.stop i H ∧ Q (.ref D) H) ∨ (J.go i H ∧ ∃ Nx : Hp → Prop, (∀ H', Nx H' → ∃ m', m' < m ∧ W (i + 1) m' H') ∧ ∀ x H', J.yld i H x H' → g x (wipe σ vs) H' fun σ2 H2 => wipe σ2 vs = wipe σ vs ∧ tt σ2 H2 fun b H3 =>
    if b = true then tk σ2 H3 fun y H4 => tv σ2 H4 fun z H5 => ∃ kvs k q, y = .ref q ∧ H5 q = some (.tup (k.map kV)) ∧ H5 D = some (.dT kvs) ∧ kvs.length < sizeLine ∧ Nx (upd H5 D (.dT (putK kvs k z))) else Nx H3)
theorem dct_core {pins : List (Addr × Obj)} {s : Shared} {σ : L2.St} {H : Hp} {Q : VK} {kx vx tg iter : Expr} {ifs : List Expr} {sc : Scope} {own : List (Str × Nat)} {pos pos' : Pos} {wi : TI} {g : TG} {tt : TT} {tk tv : TE}
    {use : Option (Value → Sem Unit)} {Qf : Value → Shared → Prop} (hu : X.A.units + 1 < cLine) (hc : X.calm = true) (hN : X.N.Nodup) (I : Inv X pins σ H s) (hi : PI X tg iter wi) (ok : BlkOk X.N X.env.scope sc own)
    (pgs : ∀ (s : Shared) (H : Hp) (C : Addr) (cl : List (Str × Addr)) (fp : List Addr), PG (X.blk s H sc (compEnvC sc cl C X.env) fp) tg g)
    (pts : ∀ (s : Shared) (H : Hp) (C : Addr) (cl : List (Str × Addr)) (fp : List Addr), PTs (X.blk s H sc (compEnvC sc cl C X.env) fp) ifs tt)
    (pks : ∀ (s : Shared) (H : Hp) (C : Addr) (cl : List (Str × Addr)) (fp : List Addr), PE (X.blk s H sc (compEnvC sc cl C X.env) fp) kx tk)
    (pes : ∀ (s : Shared) (H : Hp) (C : Addr) (cl : List (Str × Addr)) (fp : List Addr), PE (X.blk s H sc (compEnvC sc cl C X.env) fp) vx tv)
    (hs : ∀ x, foldedSetIterable iter X.env x = pure x) (h : tDcT wi g tt tk tv (own.map (·.2)) σ H Q)
    (fin0 : ∀ D C s' m H', Inv X pins σ H' s' → Q (.ref D) H' → s'.heap.Ns C m → FpOk X pins H' C → compPost (model X.prog X.w) X.A X.xe use Qf (.ref D) C (.ok .next) s') :
    wpAny (model X.prog X.w) X.A (comprehension (.DictComp kx vx [⟨tg, iter, ifs, 0⟩] sc pos) sc X.env pos' newDict false (eval iter X.env) use) Qf X.xe s := by
  have frees : ∀ y ∈ sc.names, y.2 = .free → ∃ c, X.env.cells.lookup y.1 = some c := by
    intro y hy e
    cases ok.free y hy e with
    | inl k => exact I.ok.has _ (.inl k)
    | inr k => exact I.ok.has _ (.inr k)
  apply wpAny_comprehension_free (use := use) rfl hs (closure_ok frees) ok.kind (fun y hy e => by rw [ok.uniq y hy, e])
  refine thn (hi.run pins s σ H _ I h) ?_
  intro xv s1 hx
  refine thn hx ?_
  rintro itv s2 ⟨it, fp, tn, J, H2, rfl, I2, T, st2, f2, q⟩
  refine wpAny_newObj_type (newEnv_comp ?_)
  obtain ⟨D, hD⟩ : ∃ D, s2.heap.objs.size = D := ⟨_, rfl⟩
  have hDn : H2 D = none := I2.hok.fresh (Nat.le_of_eq hD)
  obtain ⟨W, ⟨m0, w0⟩, turn⟩ := q D hDn
  obtain ⟨s3, hs3⟩ : ∃ s3 : Shared, ({ s2 with heap := s2.heap.push { cls := .type "dict", data := .dict #[] } } : Shared) = s3 := ⟨_, rfl⟩
  rw [hD, hs3]
  have h3 : s3.heap = s2.heap.push { cls := .type "dict", data := .dict #[] } := by rw [← hs3]
  have I3 : Inv X pins σ (upd H2 D (.dT [])) s3 := by
    subst hs3
    apply I2.laid (t' := s2.toks) (fun b o e => Heap.get?_push_of_some _ e) (Nat.le_of_eq hD)
    subst hD
    exact dt_empty s2.heap I2.big
  have below : ∀ b ∈ fp, b < s2.heap.objs.size := by
    intro b hb
    obtain ⟨o, e, _⟩ := T.obj _ _ st2 b hb
    exact Heap.lt_size e
  have f3 : ∀ b ∈ fp, FpOk X pins (upd H2 D (.dT [])) b ∧ b < s3.heap.objs.size := by
    intro b hb
    have lt := below b hb
    refine ⟨⟨?_, (f2 b hb).2⟩, by rw [h3, Heap.size_push]; exact Nat.lt_succ_of_lt lt⟩
    rw [upd_ne (by subst hD; exact Nat.ne_of_lt lt)]
    exact (f2 b hb).1
  have st3 : tn 0 s3.heap := by
    apply T.keep _ _ _ st2
    intro b _ o e
    rw [h3]
    exact Heap.get?_push_of_some _ e
  have I4 := block_start I3 ok hN f3
  have pg := pgs s3 (upd H2 D (.dT [])) s3.heap.objs.size (cellsFrom (s3.heap.objs.size + 1) sc.names (cloFrom X.env.cells sc.names [])) fp
  have pt := pts s3 (upd H2 D (.dT [])) s3.heap.objs.size (cellsFrom (s3.heap.objs.size + 1) sc.names (cloFrom X.env.cells sc.names [])) fp
  have pk := pks s3 (upd H2 D (.dT [])) s3.heap.objs.size (cellsFrom (s3.heap.objs.size + 1) sc.names (cloFrom X.env.cells sc.names [])) fp
  have pe := pes s3 (upd H2 D (.dT [])) s3.heap.objs.size (cellsFrom (s3.heap.objs.size + 1) sc.names (cloFrom X.env.cells sc.names [])) fp
  show codeAny _ _ (.compStart (.DictComp kx vx [⟨tg, iter, ifs, 0⟩] sc pos) 0 (.ref it) (.ref D) (compEnvC sc (cellsFrom (s3.heap.objs.size + 1) sc.names (cloFrom X.env.cells sc.names [])) s3.heap.objs.size X.env)) _ { s3 with heap := pushCells (s3.heap.push { cls := .type "dict", data := .dict #[] }) sc.names }
  have none3 : ∀ b ∈ fp, (upd H2 D (.dT [])) b = none := fun b hb => (f3 b hb).1.1
  generalize hce : compEnvC sc (cellsFrom (s3.heap.objs.size + 1) sc.names (cloFrom X.env.cells sc.names [])) s3.heap.objs.size X.env = ce at I4 pg pt pk pe ⊢
  have cL : ce.locals = s3.heap.objs.size := by rw [← hce]; rfl
  generalize hH3 : upd H2 D (.dT []) = H3 at I3 I4 pg pt pk pe w0 none3 f3
  generalize hs4 : ({ s3 with heap := pushCells (s3.heap.push { cls := .type "dict", data := .dict #[] }) sc.names } : Shared) = s4 at I4 ⊢
  have st4 : tn 0 s4.heap := by
    apply T.keep _ _ _ st3
    intro b _ o e
    rw [← hs4]
    exact pushCells_keeps _ _ _ _ (Heap.get?_push_of_some _ e)
  have stat : ∀ {σ' : L2.St} {H' : Hp} {s' : Shared}, Inv (X.blk s3 H3 sc ce fp) [] σ' H' s' → (∀ b ∈ fp, H' b = none) → ∀ b ∈ fp, FpOk (X.blk s3 H3 sc ce fp) [] H' b := by
    intro σ' H' s' I' hn b hb
    refine ⟨hn b hb, (I'.ok.exf b hb).1, I'.ok.exfs b hb, .inl hb, fun x c e => (I'.ok.exf b hb).2 x c e, ?_⟩
    intro p hp
    exact absurd (show p ∈ ([] : List (Addr × Obj)) ++ [] from hp) (by simp)
  refine (fun loop => codeAny_compStart_dict loop (T.self X.A 0 _ _ _ st4 loop)) ?_
  apply compLoop_anyD (fun n s' => ∃ i H', Inv (X.blk s3 H3 sc ce fp) [] (wipe σ (own.map (·.2))) H' s' ∧ tn i s'.heap ∧ (∀ b ∈ fp, H' b = none) ∧ W i n H') _ m0 ⟨0, H3, I4, st4, none3, w0⟩
  rintro n s5 ⟨i, H5, I5, st5, n5, w5⟩
  rcases turn i n H5 w5 with ⟨stop, qq⟩ | ⟨go, Nx, hNx, step⟩
  · refine thnF (T.done (X.blk s3 H3 sc ce fp) rfl rfl rfl hc i [] s5 _ H5 (fun _ _ => False) I5 (stat I5 n5) st5 stop) ?_
    rintro r s6 ⟨rfl, I6⟩
    have I7 : Inv X pins σ H5 s6 := I3.call' (ch := fp) I6.os I6.base I6.hok I6.bare (fun b hb => by
      have z := (f3 b hb).1
      exact ⟨z.2.2.2.1, z.2.1, z.2.2.2.2.1, z.2.2.2.2.2⟩)
    have nC : H5 s3.heap.objs.size = none := by
      rw [← cL]
      exact I6.free
    obtain ⟨m, hn, _⟩ := I6.loc
    have hn' : s6.heap.Ns s3.heap.objs.size m := by
      rw [← cL]
      exact hn
    exact fin0 D s3.heap.objs.size s6 m H5 I7 qq hn' (I3.fpOk (b := s3.heap.objs.size) (Nat.le_refl _) nC)
  · refine thnF (T.item (X.blk s3 H3 sc ce fp) rfl rfl rfl hc i [] s5 _ H5 (fun _ _ => False) I5 (stat I5 n5) st5 go) ?_
    rintro r s6 ⟨u, rfl, h6⟩
    refine thnF h6 ?_
    rintro _ s7 ⟨x, H7, I7, r7, y7, st7, n7⟩
    have I7p := I7.pinned (stat I7 n7) (T.obj _ _ st7)
    refine thnF (pg.run _ s7 _ H7 x u _ I7p r7 (step x H7 y7)) ?_
    rintro _ s8 ⟨σ8, H8, I8, hw8, q8⟩
    refine thnF (pt.run _ s8 σ8 H8 _ I8 q8) ?_
    rintro b s9 ⟨H9, I9, q9⟩
    have fin : ∀ {s' : Shared} {H' : Hp}, Inv (X.blk s3 H3 sc ce fp) ([] ++ pinsAt fp s7.heap) σ8 H' s' → Nx H' →
        ∃ m, m < n ∧ ∃ i H', Inv (X.blk s3 H3 sc ce fp) [] (wipe σ (own.map (·.2))) H' s' ∧ tn i s'.heap ∧ (∀ b ∈ fp, H' b = none) ∧ W i m H' := by
      intro s' H' I' nx
      obtain ⟨m', hm, w'⟩ := hNx H' nx
      have stay : ∀ b ∈ fp, ∀ o, s7.heap.get? b = some o → s'.heap.get? b = some o ∧ H' b = none := by
        intro b hb o e
        have z := I'.pin (b, o) (List.mem_append_right _ (List.mem_append_right _ (mem_pinsAt hb e)))
        exact ⟨z.1, z.2.1⟩
      refine ⟨m', hm, i + 1, H', (I'.unpinned (pins := [])).weak (by rw [← hw8, wipe_length]) ?_, T.keep _ _ _ st7 (fun b hb o e => (stay b hb o e).1), ?_, w'⟩
      · intro j v e
        rw [← hw8] at e
        exact (wipe_some e).1
      · intro b hb
        obtain ⟨o, e, _⟩ := T.obj _ _ st7 b hb
        exact (stay b hb o e).2
    cases b
    · simp only [Bool.false_eq_true, if_false] at q9 ⊢
      exact fin I9 q9
    · simp only [if_true] at q9 ⊢
      refine thnF (pk.run _ s9 σ8 H9 _ I9 q9) ?_
      rintro z s10 ⟨yk, H10, I10, r10, q10⟩
      refine thnF (pe.run _ s10 σ8 H10 _ I10 q10) ?_
      rintro z2 s11 ⟨yv, H11, I11, r11, kvs, k, kq, rfl, hkq, hD11, hz11, nx⟩
      cases r10
      exact dT_set (X := X.blk s3 H3 sc ce fp) hu I11 hD11 hz11 hkq r11 (fun s12 I12 => fin I12 nx)
theorem pe_dcT {kx vx tg iter : Expr} {ifs : List Expr} {sc : Scope} {own : List (Str × Nat)} {pos : Pos} {wi : TI} {g : TG} {tt : TT} {tk tv : TE} (hu : X.A.units + 1 < cLine) (hc : X.calm = true) (hN : X.N.Nodup) (hi : PI X tg iter wi) (ok : BlkOk X.N X.env.scope sc own)
    (pgs : ∀ (s : Shared) (H : Hp) (C : Addr) (cl : List (Str × Addr)) (fp : List Addr), PG (X.blk s H sc (compEnvC sc cl C X.env) fp) tg g)
    (pts : ∀ (s : Shared) (H : Hp) (C : Addr) (cl : List (Str × Addr)) (fp : List Addr), PTs (X.blk s H sc (compEnvC sc cl C X.env) fp) ifs tt)
    (pks : ∀ (s : Shared) (H : Hp) (C : Addr) (cl : List (Str × Addr)) (fp : List Addr), PE (X.blk s H sc (compEnvC sc cl C X.env) fp) kx tk)
    (pes : ∀ (s : Shared) (H : Hp) (C : Addr) (cl : List (Str × Addr)) (fp : List Addr), PE (X.blk s H sc (compEnvC sc cl C X.env) fp) vx tv)
    (hs : ∀ x, foldedSetIterable iter X.env x = pure x := by intro _; rfl) : PE X (.DictComp kx vx [⟨tg, iter, ifs, 0⟩] sc pos) (tDcT wi g tt tk tv (own.map (·.2))) := by
  constructor
  intro pins s σ H Q I h
  rw [arm_eval_DictComp]
  apply dct_core hu hc hN I hi ok pgs pts pks pes hs h
  intro D C s' m H' I' q hn f
  refine ⟨m, hn, ?_⟩
  intro h'' sb
  obtain ⟨g0, g1, g2, g3, g4, g5⟩ := f
  exact ⟨.ref D, H', I'.turned (t' := s'.toks) (fun b o hb e => (sb.2 b hb).trans e) g0 g1 g3 g4 g5, rfl, q⟩
/-- name = {..} on one line, the name a local -/
theorem ps_setDcT {i : Nat} {y : Str} {py : Pos} {kx vx tg iter : Expr} {ifs : List Expr} {sc : Scope} {own : List (Str × Nat)} {pos spos : Pos} {wi : TI} {g : TG} {tt : TT} {tk tv : TE} (hu : X.A.units + 1 < cLine) (hc : X.calm = true) (hN : X.N.Nodup)
    (hy : X.N[i]? = some y) (hyl : X.env.scope.names.lookup y = some .local) (hsw : swapsWith (.DictComp kx vx [⟨tg, iter, ifs, 0⟩] sc pos) (some (.Name y py)) spos.line X.env = pure true) (hi : PI X tg iter wi) (ok : BlkOk X.N X.env.scope sc own)
    (pgs : ∀ (s : Shared) (H : Hp) (C : Addr) (cl : List (Str × Addr)) (fp : List Addr), PG (X.blk s H sc (compEnvC sc cl C X.env) fp) tg g)
    (pts : ∀ (s : Shared) (H : Hp) (C : Addr) (cl : List (Str × Addr)) (fp : List Addr), PTs (X.blk s H sc (compEnvC sc cl C X.env) fp) ifs tt)
    (pks : ∀ (s : Shared) (H : Hp) (C : Addr) (cl : List (Str × Addr)) (fp : List Addr), PE (X.blk s H sc (compEnvC sc cl C X.env) fp) kx tk)
    (pes : ∀ (s : Shared) (H : Hp) (C : Addr) (cl : List (Str × Addr)) (fp : List Addr), PE (X.blk s H sc (compEnvC sc cl C X.env) fp) vx tv)
    (hs : ∀ x, foldedSetIterable iter X.env x = pure x := by intro _; rfl) :
    PS X (.Assign [.Name y py] (.DictComp kx vx [⟨tg, iter, ifs, 0⟩] sc pos) spos) (tAsg (tDcT wi g tt tk tv (own.map (·.2))) (gName i)) := by
  constructor
  intro pins s σ H D I h
  rw [exec_Assign_Name_used _ _ _ _ hsw]
  apply wpAny_bind
  apply wpAny_standAt
  apply wpAny_bind
  show wpAny _ X.A (do let _ ← comprehension (.DictComp kx vx [⟨tg, iter, ifs, 0⟩] sc pos) sc X.env (firstIterPos [⟨tg, iter, ifs, 0⟩] pos) newDict false (eval iter X.env) (some (assign (.Name y py) X.env))) _ _ s
  have h' : tDcT wi g tt tk tv (own.map (·.2)) σ H (fun x H1 => gName i x σ H1 D.nx) := h
  apply wpAny_bind
  refine thn (dct_core (Qf := fun _ s' => SP X pins D .next s') hu hc hN I hi ok pgs pts pks pes hs h' ?_) (fun _ s' hq => wpAny_pure (wpAny_pure hq))
  intro L C s' m H' I' q hn f
  show wpAny _ _ (assign (.Name y py) X.env (.ref L)) _ _ _
  apply wpAny_assign_Name
  refine store_ok2 (v := V.ref L) I' hN hy (.inl hyl) rfl ?_ (.inr hyl)
  rintro s2 I2 ⟨a, sb, ha⟩
  obtain ⟨g0, g1, g2, g3, g4, g5⟩ := f
  have apart : C ≠ a := by
    cases ha with
    | inl z => rw [z]; exact g1
    | inr z => exact fun e => g4 y a z e.symm
  refine ⟨m, hn.sameBut sb apart, ?_⟩
  intro h3 sb3
  exact ⟨_, H', I2.turned (t' := s2.toks) (fun b o hb e => (sb3.2 b hb).trans e) g0 g1 g3 g4 g5, q⟩
end
end L2

set_option Elab.async false
set_option linter.all false
set_option maxRecDepth 100000
set_option maxHeartbeats 4000000
set_option pp.maxSteps 600
set_option pp.deepTerms false
namespace Wb
open PySem PySem.Spec PyProof.Rows L2
abbrev sMoves : Stmt := topS 12
theorem scMoves : FnScope ["lock", "rows", "words", "bolt", "moves", "here", "there", "price", "ways", "way", "word"] ["lock"] (defScope sMoves) := ⟨rfl, rfl, rfl, by decide +kernel, rfl, by decide +kernel, by decide +kernel⟩

/-- a dict comprehension over any walk -/
theorem dct_it {J : It} {n : Nat} {G : Hp → Prop} {Y : Nat → Hp → V → Hp → Prop} (w : Walk J n G Y) {g : TG} {tt : TT} {tk tv : TE} {vs : List Nat} {σ : L2.St} {H1 : Hp} {D : Addr} {Qd : Hp → Prop} (Pv : Nat → Hp → Prop)
    (h0 : Pv 0 (upd H1 D (.dT []))) (hG : ∀ i H, i ≤ n → Pv i H → G H)
    (hs : ∀ i x H H', i < n → Pv i H → Y i H x H' → g x (wipe σ vs) H' fun σ2 H2 => wipe σ2 vs = wipe σ vs ∧ tt σ2 H2 fun b H3 =>
      if b = true then tk σ2 H3 fun y H4 => tv σ2 H4 fun z H5 => ∃ kvs k q, y = .ref q ∧ H5 q = some (.tup (k.map kV)) ∧ H5 D = some (.dT kvs) ∧ kvs.length < sizeLine ∧ Pv (i + 1) (upd H5 D (.dT (putK kvs k z))) else Pv (i + 1) H3)
    (hd : ∀ H, Pv n H → Qd H) :
    ∃ W : Nat → Nat → Hp → Prop, (∃ m, W 0 m (upd H1 D (.dT []))) ∧ ∀ i m H, W i m H →
      (J.stop i H ∧ Qd H) ∨ (J.go i H ∧ ∃ Nx : Hp → Prop, (∀ H', Nx H' → ∃ m', m' < m ∧ W (i + 1) m' H') ∧ ∀ x H', J.yld i H x H' → g x (wipe σ vs) H' fun σ2 H2 => wipe σ2 vs = wipe σ vs ∧ tt σ2 H2 fun b H3 =>
        if b = true then tk σ2 H3 fun y H4 => tv σ2 H4 fun z H5 => ∃ kvs k q, y = .ref q ∧ H5 q = some (.tup (k.map kV)) ∧ H5 D = some (.dT kvs) ∧ kvs.length < sizeLine ∧ Nx (upd H5 D (.dT (putK kvs k z))) else Nx H3) := by
  refine ⟨fun i m H => (m = n - i ∧ i ≤ n) ∧ Pv i H, ⟨n, ⟨rfl, Nat.zero_le _⟩, h0⟩, ?_⟩
  rintro i m H ⟨⟨rfl, hi⟩, p⟩
  have gg := hG i H hi p
  rcases Nat.lt_or_eq_of_le hi with lt | rfl
  · refine .inr ⟨w.goes i H lt gg, Pv (i + 1), ?_, ?_⟩
    · intro H' p'
      exact ⟨n - (i + 1), by omega, ⟨rfl, lt⟩, p'⟩
    · intro x H' y
      exact hs i x H H' lt p (w.yields i H x H' lt gg y)
  · exact .inl ⟨w.stops H gg, hd H p⟩

/-! ### moves by word -/
structure Tr3 where
  frm : Int
  to_ : Int
  price : Int
def TrAt (H : Hp) (v : V) (t : Tr3) : Prop := ∃ a, v = .ref a ∧ H a = some (.tup [.int t.frm, .int t.to_, .int t.price])
def trOf (g : Gap) : Tr3 := ⟨g.frm, g.to_, g.price⟩
def movesL (gs : List Gap) (w : Word) : List Tr3 := (gs.filter fun g => decide (w ∈ g.ways)).map trOf
def kps (ps : List (Word × Addr)) : List (List Key × V) := ps.map fun q => (keyW q.1, .ref q.2)
theorem kps_any (ps : List (Word × Addr)) (w : Word) : ((kps ps).any fun kv => decide (kv.1 = keyW w)) = decide (w ∈ ps.map (·.1)) := by
  unfold kps
  rw [List.any_map, Bool.eq_iff_iff]
  simp only [List.any_eq_true, Function.comp, decide_eq_true_eq, List.mem_map]
  constructor
  · rintro ⟨q, hq, e⟩
    exact ⟨q, hq, keyW_inj e⟩
  · rintro ⟨q, hq, e⟩
    exact ⟨q, hq, by rw [e]⟩
theorem put_kps {ps : List (Word × Addr)} {w : Word} (h : w ∉ ps.map (·.1)) (a : Addr) : putK (kps ps) (keyW w) (.ref a) = kps (ps ++ [(w, a)]) := by
  unfold putK
  rw [kps_any, if_neg (by rw [decide_eq_false h]; exact Bool.false_ne_true)]
  unfold kps
  rw [List.map_append]
  rfl
theorem valV_kps_none {ps : List (Word × Addr)} {w : Word} (h : w ∉ ps.map (·.1)) : valV (kps ps) (keyW w) = none := by
  have z := valV_any (keyW w) (kps ps)
  rw [kps_any, decide_eq_false h] at z
  cases e : valV (kps ps) (keyW w) with
  | none => rfl
  | some v => rw [e] at z; cases z
theorem valV_kps {ps : List (Word × Addr)} {q : Word × Addr} (hn : (ps.map (·.1)).Nodup) (h : q ∈ ps) : valV (kps ps) (keyW q.1) = some (.ref q.2) := by
  induction ps with
  | nil => cases h
  | cons p ps ih =>
    rw [List.map_cons, List.nodup_cons] at hn
    rcases List.mem_cons.mp h with rfl | h
    · exact valV_pos rfl
    · have ne : ¬ keyW p.1 = keyW q.1 := fun e => hn.1 (by rw [keyW_inj e]; exact List.mem_map.mpr ⟨q, h, rfl⟩)
      have z : valV (kps (p :: ps)) (keyW q.1) = valV (kps ps) (keyW q.1) := valV_neg ne
      rw [z]
      exact ih hn.2 h
/-- the dict of bolt b's moves, by words, its lists apart from r0 -/
def MvAt (H : Hp) (r0 d : Addr) (gs : List Gap) (ws : List Word) : Prop :=
  ∃ ps : List (Word × Addr), ps.map (·.1) = ws ∧ H d = some (.dT (kps ps)) ∧ ∀ q ∈ ps, q.2 ≠ r0 ∧ ∃ us, H q.2 = some (.lst us) ∧ Paired (TrAt H) us (movesL gs q.1)
theorem TrAt.ex {H H' : Hp} (e : Evl.Ex H H') {v : V} {t : Tr3} (h : TrAt H v t) : TrAt H' v t := by
  obtain ⟨a, r, q⟩ := h
  exact ⟨a, r, e _ _ q⟩
theorem MvAt.ex {H H' : Hp} (e : Evl.Ex H H') {r0 d : Addr} {gs : List Gap} {ws : List Word} (h : MvAt H r0 d gs ws) : MvAt H' r0 d gs ws := by
  obtain ⟨ps, h1, h2, h3⟩ := h
  refine ⟨ps, h1, e _ _ h2, fun q hq => ?_⟩
  obtain ⟨a, us, b, c⟩ := h3 q hq
  exact ⟨a, us, e _ _ b, Paired.imp (fun _ _ => TrAt.ex e) c⟩
theorem MvAt.put {H : Hp} {r0 d : Addr} {xs ys : List V} (hr : H r0 = some (.lst xs)) {gs : List Gap} {ws : List Word} (h : MvAt H r0 d gs ws) : MvAt (upd H r0 (.lst ys)) r0 d gs ws := by
  obtain ⟨ps, h1, h2, h3⟩ := h
  refine ⟨ps, h1, by rw [upd_ne (ne_of h2 hr (fun z => nomatch z))]; exact h2, fun q hq => ?_⟩
  obtain ⟨a, us, b, c⟩ := h3 q hq
  refine ⟨a, us, by rw [upd_ne a]; exact b, Paired.imp (fun v t => ?_) c⟩
  rintro ⟨x, rfl, hx⟩
  exact ⟨x, rfl, by rw [upd_ne (ne_of hx hr (fun z => nomatch z))]; exact hx⟩
def spMoves (K : PySem.W.Frag) : Sp := fun vs H Q _ => ∃ (v : V) (l : Lock), vs = [v] ∧ LockAt K H v l ∧ LockOk l ∧
  ∀ H' p (ds : List Addr), Evl.Ex H H' → H p = none → H' p = some (.lst (ds.map V.ref)) → ds.length = l.length →
    (∀ k d b, ds[k]? = some d → l[k]? = some b → ∃ ws, WordsAt l k ws ∧ MvAt H' p d b.gaps ws) → Q (.ref p) H'

section
variable {P : Program} {w : World} {K : PySem.W.Frag} {mg : Str → Option Value} {base : Heap}
theorem paired_app1 {α β : Type} {R : α → β → Prop} {xs : List α} {ys : List β} {x : α} {y : β} (h : Paired R xs ys) (r : R x y) : Paired R (xs ++ [x]) (ys ++ [y]) := Paired.app h (.cons r .nil)
theorem ok_moves {f f1 : Addr} {fd fd1 : FuncData} (F : Fun K "moves_by_word" "moves_by_word" sMoves f fd) (F1 : Fun K "words_of" "words_of" sWords f1 fd1) (b1 : Binds K fd1 ["lock"] []) (g1 : mg "words_of" = some (.ref f1)) (B : Bi mg) :
    FnOk P w K mg base CX0 2 f fd ["lock"] (spMoves K) := by
  have G1 : FnOk P w K mg base CX0 1 f1 fd1 ["lock"] (spWords K) := ok_words F1 B
  refine F.ok scMoves (fun vs H Q E h => ?_) (fun cdv A outer s H vs Q E hr h => ?_)
  · obtain ⟨v, l, rfl, _⟩ := h; rfl
  · obtain ⟨v, l, rfl, ⟨a, bs, rfl, hx, hp⟩, ok, q⟩ := h
    have hu := hu_of hr
    refine ⟨_, pss_cons (ps_set (i := 1) scMoves.nd rfl (.inl rfl) (pe_lst pa_nil))
      (pss_cons (ps_for PassesOwn.never rfl (pi_zipX (by rfl) B.zip (pa_cons (pe_call G1 hr (by rfl) g1 F1.kp b1 .nil pass0 (pa_cons (pv 0) pa_nil)) (pa_cons (pv 0) pa_nil))) (pg_tup rfl (pgs_cons (pg_name (i := 2) scMoves.nd rfl (.inl rfl)) (pgs_cons (pg_name (i := 3) scMoves.nd rfl (.inl rfl)) pgs_nil)))
        (pss_cons (ps_setDcT (i := 4) (own := [("word", 10)]) (g := gName 10) hu rfl scMoves.nd rfl rfl rfl (pi_list (pv 2)) (blkOk_by (own := [("word", 10)]) (N := ["lock", "rows", "words", "bolt", "moves", "here", "there", "price", "ways", "way", "word"]) (sc := defScope sMoves) (by decide +kernel))
            (fun _ _ _ _ _ => pg_name (i := 10) scMoves.nd rfl (Or.inl rfl)) (fun _ _ _ _ _ => pts_nil) (fun _ _ _ _ _ => pv 10) (fun _ _ _ _ _ => pe_lst pa_nil))
        (pss_cons (ps_for PassesOwn.never rfl (pi_tup (pe_ix ix_tup (pv 3) pe_int (fun _ _ => rfl))) (pg_tup rfl (pgs_cons (pg_name (i := 5) scMoves.nd rfl (.inl rfl)) (pgs_cons (pg_name (i := 6) scMoves.nd rfl (.inl rfl)) (pgs_cons (pg_name (i := 7) scMoves.nd rfl (.inl rfl)) (pgs_cons (pg_name (i := 8) scMoves.nd rfl (.inl rfl)) pgs_nil)))))
          (pss_one (ps_for PassesOwn.never rfl (pi_tup (pv 8)) (pg_name (i := 9) scMoves.nd rfl (.inl rfl))
            (pss_one (ps_expr (pe_bm PySem.F.plainAttrs_list PySem.F.slot_list_append PySem.F.type_list_append mt_append (pe_dget hu (pv 4) (pv 9) (fun _ _ => rfl)) (pa_cons (pe_tup (pa_cons (pv 5) (pa_cons (pv 6) (pa_cons (pv 7) pa_nil)))) pa_nil)))))))
        (pss_one (ps_expr (pe_bm PySem.F.plainAttrs_list PySem.F.slot_list_append PySem.F.type_list_append mt_append (pv 1) (pa_cons (pv 4) pa_nil)))))))
      (pss_one (ps_ret (pv 1)))), ?_⟩
    have bl : bs.length = l.length := Paired.len hp
    have n60 := ok.n1
    refine ⟨Nat.zero_le _, fun r0 nr0 => ?_⟩
    have x1 : Evl.Ex H (upd H r0 (.lst [])) := Evl.Ex.new nr0
    refine ⟨.ref a, rfl, .ref a, l, rfl, ⟨a, bs, rfl, Evl.ex_t x1 hx, Paired.imp (fun _ _ => BoltAt.mono (TX.ex x1)) hp⟩, ok, fun H0 pw rs x2 npw hpw rl hrs => ?_⟩
    have x3 := x1.trans x2
    have hR0 : H0 r0 = some (.lst []) := x2 _ _ upd_same
    have nrpw : pw ≠ r0 := fun z => by rw [z, upd_same] at npw; cases npw
    refine ⟨.ref a, rfl, true, false, pw, a, rs.map V.ref, bs, rfl, .inl (.inl hpw), Evl.ex_t x3 hx, ?_⟩
    refine for_it (walk_zx (l := true) (m := false) (xs := rs.map V.ref) (ys := bs) (by rw [List.length_map, rl, bl])) (fun i σ H' => ∃ (ds : List Addr) (y2 y3 y4 y5 y6 y7 y8 y9 y10 : Option V), σ = [some (.ref a), some (.ref r0), y2, y3, y4, y5, y6, y7, y8, y9, y10] ∧
        Evl.Ex H H' ∧ (∀ b o, b ≠ r0 → H0 b = some o → H' b = some o) ∧ H' r0 = some (.lst (ds.map V.ref)) ∧ ds.length = i ∧ ∀ k d b, ds[k]? = some d → l[k]? = some b → ∃ ws, WordsAt l k ws ∧ MvAt H' r0 d b.gaps ws)
      ⟨[], none, none, none, none, none, none, none, none, none, rfl, x3, fun b o _ h => h, hR0, rfl, fun k d b h => by simp at h⟩ ?_ ?_ ?_
    · rintro i σ H' _ ⟨_, _, _, _, _, _, _, _, _, _, _, e, k0, _⟩
      exact ⟨.inl (.inl (k0 _ _ nrpw hpw)), Evl.ex_t e hx⟩
    · rintro i v σ H1 H2 hi ⟨ds, y2, y3, y4, y5, y6, y7, y8, y9, y10, rfl, e1, k0, hR, dl, hds⟩ ⟨T, x, y, rfl, nT, rfl, ex, ey⟩
      rw [List.length_map, rl] at hi
      obtain ⟨b, hb⟩ : ∃ b, l[i]? = some b := ⟨l[i], List.getElem?_eq_getElem hi⟩
      obtain ⟨vb, hvb, hba⟩ := Paired.get2 hp hb
      have ey' : bs[i]? = some y := ey
      rw [hvb] at ey'
      cases ey'
      obtain ⟨r, hr1, rfl⟩ : ∃ r, rs[i]? = some r ∧ x = .ref r := by
        have ex' : (rs.map V.ref)[i]? = some x := ex
        rw [List.getElem?_map] at ex'
        cases e : rs[i]? with
        | none => rw [e] at ex'; cases ex'
        | some r => rw [e] at ex'; exact ⟨r, rfl, (Option.some.inj ex').symm⟩
      obtain ⟨nr, ws, ⟨us, hus, hup⟩, hW⟩ := hrs i r hr1
      have nrr : r ≠ r0 := fun z => by rw [z, upd_same] at nr; cases nr
      have e2 := Evl.Ex.new (o := .tup [.ref r, y]) nT
      generalize hH2 : upd H1 T (.tup [.ref r, y]) = H2 at e2
      have hT2 : H2 T = some (.tup [.ref r, y]) := by rw [← hH2]; exact upd_same
      have hus2 : H2 r = some (.lst us) := e2 _ _ (k0 _ _ nrr hus)
      have hR2 : H2 r0 = some (.lst (ds.map V.ref)) := e2 _ _ hR
      have tx2 : ∀ {v w'}, Wd K H0 v w' → Wd K H2 v w' := by
        rintro v w' ⟨ax, rfl, hax⟩
        exact ⟨ax, rfl, e2 _ _ (k0 _ _ (ne_of hax hR0 (fun z => nomatch z)) hax)⟩
      have hup2 : Paired (Wd K H2) us ws := Paired.imp (fun _ _ => tx2) hup
      have ul : us.length = ws.length := Paired.len hup
      have w8 : ws.length ≤ 8 := ok.words i ws hi hW.1 (fun u hu' => (hW.2 u).mp hu')
      obtain ⟨ab, cg, gs, rfl, hb1, hb2, hb3⟩ := hba
      have bok := ok.bolts i b hb
      have e12 := e1.trans e2
      refine ⟨T, _, rfl, .inl (.inl hT2), rfl, _, _, rfl, _, _, rfl, rfl, ?_⟩
      refine ⟨.ref r, rfl, r, rfl, ⟨us, .inl (.inl hus2)⟩, fun D hD => ?_⟩
      refine dct_it (walk_list (K := K) (a := r) (xs := us)) (fun m H' => ∃ ps : List (Word × Addr), ps.map (·.1) = ws.take m ∧ Evl.Ex H2 H' ∧ H' D = some (.dT (kps ps)) ∧ (ps.map (·.2)).Nodup ∧ ∀ q ∈ ps, H2 q.2 = none ∧ q.2 ≠ D ∧ H' q.2 = some (.lst []))
        ⟨[], rfl, Evl.Ex.new hD, upd_same, List.nodup_nil, fun q hq => nomatch hq⟩ ?_ ?_ ?_
      · rintro m H' _ ⟨ps, _, e3, _⟩
        exact .inl (.inl (e3 _ _ hus2))
      · rintro m x H3 H4 hm ⟨ps, hps, e3, hd3, nd3, hq3⟩ ⟨rfl, hx3⟩
        obtain ⟨t, ht, ⟨ax, rfl, hax⟩⟩ := Paired.get1 hup2 hx3
        have tn : t ∉ ps.map (·.1) := by
          rw [hps]
          intro hmem
          obtain ⟨j, hj, ej⟩ := List.getElem_of_mem hmem
          rw [List.length_take] at hj
          rw [List.getElem_take] at ej
          obtain ⟨l1, q1⟩ := List.getElem?_eq_some_iff.mp ht
          have := (List.getElem_inj hW.1).mp (ej.trans q1.symm)
          omega
        refine ⟨rfl, .ref ax, rfl, Nat.zero_le _, fun p np => ?_⟩
        have e4 := Evl.Ex.new (o := .lst []) np
        have np2 : H2 p = none := Evl.fresh_back e3 np
        have npD : p ≠ D := fun z => by rw [z, hd3] at np; cases np
        have nDp : D ≠ p := fun z => npD z.symm
        refine ⟨kps ps, keyW t, ax, rfl, ?_, e4 _ _ hd3, ?_, ps ++ [(t, p)], ?_, (e3.trans e4).mut hD, ?_, ?_, ?_⟩
        · rw [keyW_kV]
          exact (e3.trans e4) _ _ hax
        · have z : ps.length ≤ 8 := by
            have := congrArg List.length hps
            rw [List.length_map, List.length_take] at this
            omega
          unfold kps
          rw [List.length_map]
          exact Nat.lt_of_le_of_lt z (by decide)
        · rw [List.map_append, hps, take_succ_get ht]
          rfl
        · rw [upd_same, put_kps tn]
        · rw [List.map_append, List.nodup_append]
          refine ⟨nd3, by simp, ?_⟩
          intro x hx' y hy'
          simp at hy'
          subst hy'
          obtain ⟨q, hq, rfl⟩ := List.mem_map.mp hx'
          intro z
          have := (hq3 q hq).2.2
          rw [z] at this
          rw [this] at np
          cases np
        · intro q hq
          rcases List.mem_append.mp hq with hq | hq
          · obtain ⟨a1, a2, a3⟩ := hq3 q hq
            refine ⟨a1, a2, ?_⟩
            rw [upd_ne a2]
            exact e4 _ _ a3
          · have : q = (t, p) := by simpa using hq
            subst this
            exact ⟨np2, npD, by rw [upd_ne npD, upd_same]⟩
      · rintro H3 ⟨ps, hps, e3, hd3, nd3, hq3⟩
        rw [ul, List.take_length] at hps
        have ndp : (ps.map (·.1)).Nodup := by rw [hps]; exact hW.1
        have one : ∀ q ∈ ps, ∀ q' ∈ ps, q'.2 = q.2 → q' = q := by
          intro q hq q' hq' e
          obtain ⟨j, hj, rfl⟩ := List.getElem_of_mem hq
          obtain ⟨j', hj', rfl⟩ := List.getElem_of_mem hq'
          have z : (ps.map (·.2))[j']'(by rw [List.length_map]; exact hj') = (ps.map (·.2))[j]'(by rw [List.length_map]; exact hj) := by
            rw [List.getElem_map, List.getElem_map]
            exact e
          have := (List.getElem_inj nd3).mp z
          subst this
          rfl
        have one1 : ∀ q ∈ ps, ∀ q' ∈ ps, q'.1 = q.1 → q' = q := by
          intro q hq q' hq' e
          obtain ⟨j, hj, rfl⟩ := List.getElem_of_mem hq
          obtain ⟨j', hj', rfl⟩ := List.getElem_of_mem hq'
          have z : (ps.map (·.1))[j']'(by rw [List.length_map]; exact hj') = (ps.map (·.1))[j]'(by rw [List.length_map]; exact hj) := by
            rw [List.getElem_map, List.getElem_map]
            exact e
          have := (List.getElem_inj ndp).mp z
          subst this
          rfl
        have gl : gs.length = b.gaps.length := Paired.len hb3
        refine ⟨.ref ab, rfl, ab, _, 1, .ref cg, rfl, rfl, Evl.ex_t (e12.trans e3) hb1, atI_nat (j := 1) rfl, cg, rfl, ⟨gs, Evl.ex_t (e12.trans e3) hb2⟩, ?_⟩
        refine for_tup (K := K) (a := cg) (xs := gs) (fun j σ H' => ∃ (y5 y6 y7 y8 y9 y10 : Option V), σ = [some (.ref a), some (.ref r0), some (.ref r), some (.ref ab), some (.ref D), y5, y6, y7, y8, y9, y10] ∧ Evl.Ex H2 H' ∧ H' D = some (.dT (kps ps)) ∧
            ∀ q ∈ ps, ∃ us, H' q.2 = some (.lst us) ∧ Paired (TrAt H') us (movesL (b.gaps.take j) q.1)) ⟨_, _, _, _, _, _, rfl, e3, hd3, fun q hq => ⟨[], (hq3 q hq).2.2, .nil⟩⟩ ?_ ?_ ?_
        · rintro j σ H' _ ⟨_, _, _, _, _, _, _, e4, _⟩
          exact Evl.ex_t (e12.trans e4) hb2
        · rintro j x σ H4 hj ⟨z5, z6, z7, z8, z9, z10, rfl, e4, hd4, hq4⟩
          obtain ⟨g, hgj, ⟨ag, bg, wv, rfl, hg1, hg2, hg3⟩⟩ := Paired.get1 hb3 hj
          have hgm : g ∈ b.gaps := List.mem_of_getElem? hgj
          have gok := bok.gaps g hgm
          have wl : wv.length = g.ways.length := Paired.len hg3
          have nodupW : g.ways.Nodup := by
            refine List.Pairwise.imp ?_ gok.rise
            intro u w' h e
            subst e
            have irr : ∀ u : List Int, HT.lexLt u u = false := by
              intro u
              induction u with
              | nil => rfl
              | cons x u ih => rw [HT.lexLt_cons, if_pos rfl]; exact ih
            rw [irr] at h
            cases h
          have few1 : ∀ (gs : List Gap) (w' : Word), (movesL gs w').length ≤ (gs.map (fun g => g.ways.length)).sum := by
            intro gs w'
            unfold movesL
            rw [List.length_map]
            induction gs with
            | nil => simp
            | cons g gs ih =>
              rw [List.filter_cons, List.map_cons, List.sum_cons]
              split
              · rename_i hm
                have : 1 ≤ g.ways.length := List.length_pos_of_mem (of_decide_eq_true hm)
                rw [List.length_cons]
                omega
              · omega
          have few2 : ∀ w', (movesL (b.gaps.take j) w').length ≤ 8 := by
            intro w'
            have h1 := few1 (b.gaps.take j) w'
            have h2 := bok.few
            have h3 : (b.gaps.map (fun g => g.ways.length)).sum = ((b.gaps.take j).map (fun g => g.ways.length)).sum + ((b.gaps.drop j).map (fun g => g.ways.length)).sum := by
              rw [← List.sum_append, ← List.map_append, List.take_append_drop]
            omega
          have e14 := e12.trans e4
          refine ⟨ag, _, rfl, Evl.ex_t e14 hg1, rfl, _, _, rfl, _, _, rfl, _, _, rfl, _, _, rfl, rfl, ?_⟩
          refine ⟨.ref bg, rfl, bg, rfl, ⟨wv, Evl.ex_t e14 hg2⟩, ?_⟩
          refine for_tup (K := K) (a := bg) (xs := wv) (fun m σ H' => ∃ (y9 y10 : Option V), σ = [some (.ref a), some (.ref r0), some (.ref r), some (.ref ab), some (.ref D), some (.int g.frm), some (.int g.to_), some (.int g.price), some (.ref bg), y9, y10] ∧ Evl.Ex H2 H' ∧ H' D = some (.dT (kps ps)) ∧
              ∀ q ∈ ps, ∃ us, H' q.2 = some (.lst us) ∧ Paired (TrAt H') us (movesL (b.gaps.take j) q.1 ++ if q.1 ∈ g.ways.take m then [trOf g] else [])) ⟨_, _, rfl, e4, hd4, fun q hq => ?_⟩ ?_ ?_ ?_
          · obtain ⟨us, h1, h2⟩ := hq4 q hq
            exact ⟨us, h1, by simpa using h2⟩
          · rintro m σ H' _ ⟨_, _, _, e5, _⟩
            exact Evl.ex_t (e12.trans e5) hg2
          · rintro m x σ H5 hm ⟨z9, z10, rfl, e5, hd5, hq5⟩
            obtain ⟨t, ht, ⟨ax, rfl, hax⟩⟩ := Paired.get1 hg3 hm
            have htw : t ∈ ws := (hW.2 t).mpr ((cuts_step ok hb t).mpr (.inr ⟨g, hgm, List.mem_of_getElem? ht⟩))
            rw [← hps] at htw
            obtain ⟨q, hq, rfl⟩ := List.mem_map.mp htw
            obtain ⟨uq, h1, h2⟩ := hq5 q hq
            have e15 := e12.trans e5
            have tnot : q.1 ∉ g.ways.take m := by
              intro hmem
              obtain ⟨k, hk, ek⟩ := List.getElem_of_mem hmem
              rw [List.length_take] at hk
              rw [List.getElem_take] at ek
              obtain ⟨l1, q1⟩ := List.getElem?_eq_some_iff.mp ht
              have := (List.getElem_inj nodupW).mp (ek.trans q1.symm)
              omega
            rw [if_neg tnot, List.append_nil] at h2
            have ulen : uq.length = (movesL (b.gaps.take j) q.1).length := Paired.len h2
            refine ⟨.ref D, rfl, .ref ax, rfl, D, .ref q.2, rfl, ?_, .inl ⟨rfl, _, SqL.of h1⟩, .int g.frm, rfl, .int g.to_, rfl, .int g.price, rfl, (by show 3 ≤ sizeLine; decide), fun p np => ?_⟩
            · rw [← valV_kps ndp hq]
              exact DGet.t hd5 (by rw [keyW_kV]; exact e15 _ _ hax)
            · have e6 := Evl.Ex.new (o := .tup [.int g.frm, .int g.to_, .int g.price]) np
              have nqp : q.2 ≠ p := fun z => by rw [← z, h1] at np; cases np
              have nDq : D ≠ q.2 := fun z => (hq3 q hq).2.1 z.symm
              refine ⟨q.2, uq, _, rfl, rfl, e6 _ _ h1, ?_, _, _, rfl, (e5.trans e6).mut (hq3 q hq).1, ?_, ?_⟩
              · have := few2 q.1
                exact Nat.lt_of_le_of_lt (by omega : uq.length ≤ 8) (by decide)
              · rw [upd_ne nDq]
                exact e6 _ _ hd5
              · intro q' hq'
                have tr : ∀ {v : V} {t3 : Tr3}, TrAt H5 v t3 → TrAt (upd (upd H5 p (.tup [.int g.frm, .int g.to_, .int g.price])) q.2 (.lst (uq ++ [.ref p]))) v t3 := by
                  rintro v t3 ⟨c, rfl, hc⟩
                  exact ⟨c, rfl, by rw [upd_ne (ne_of hc h1 (fun z => nomatch z))]; exact e6 _ _ hc⟩
                by_cases eq : q'.2 = q.2
                · have := one q hq q' hq' eq
                  subst this
                  refine ⟨uq ++ [.ref p], upd_same, ?_⟩
                  rw [take_succ_get ht, if_pos (by simp)]
                  refine paired_app1 (Paired.imp (fun _ _ => tr) h2) ⟨p, rfl, ?_⟩
                  rw [upd_ne nqp.symm, upd_same]
                  rfl
                · obtain ⟨u', h3, h4⟩ := hq5 q' hq'
                  refine ⟨u', by rw [upd_ne eq]; exact e6 _ _ h3, ?_⟩
                  have ne1 : q'.1 ≠ q.1 := fun z => eq (by rw [one1 q hq q' hq' z])
                  have mm : (q'.1 ∈ g.ways.take (m + 1)) ↔ (q'.1 ∈ g.ways.take m) := by
                    rw [take_succ_get ht]
                    simp [ne1]
                  have h5 := Paired.imp (fun _ _ => tr) h4
                  by_cases hh : q'.1 ∈ g.ways.take m
                  · rw [if_pos hh] at h5
                    rw [if_pos (mm.mpr hh)]
                    exact h5
                  · rw [if_neg hh] at h5
                    rw [if_neg (fun z => hh (mm.mp z))]
                    exact h5
          · rintro σ H5 ⟨z9, z10, rfl, e5, hd5, hq5⟩
            refine ⟨_, _, _, _, _, _, rfl, e5, hd5, fun q hq => ?_⟩
            obtain ⟨uq, h1, h2⟩ := hq5 q hq
            refine ⟨uq, h1, ?_⟩
            rw [wl, List.take_length] at h2
            have z : movesL (b.gaps.take (j + 1)) q.1 = movesL (b.gaps.take j) q.1 ++ if q.1 ∈ g.ways then [trOf g] else [] := by
              unfold movesL
              rw [take_succ_get hgj, List.filter_append, List.map_append]
              congr 1
              by_cases hh : q.1 ∈ g.ways
              · rw [if_pos hh, List.filter_cons, if_pos (decide_eq_true hh)]
                rfl
              · rw [if_neg hh, List.filter_cons, if_neg (by rw [decide_eq_false hh]; exact Bool.false_ne_true)]
                rfl
            rw [z]
            exact h2
        · rintro σ H4 ⟨z5, z6, z7, z8, z9, z10, rfl, e4, hd4, hq4⟩
          rw [gl, List.take_length] at hq4
          have hR4 : H4 r0 = some (.lst (ds.map V.ref)) := e4 _ _ hR2
          have mv : MvAt H4 r0 D b.gaps ws := ⟨ps, hps, hd4, fun q hq => ⟨(fun z => by have h0 := (hq3 q hq).1; rw [z, hR2] at h0; cases h0), hq4 q hq⟩⟩
          refine ⟨.ref r0, rfl, .inl ⟨rfl, _, SqL.of hR4⟩, .ref D, rfl, r0, _, _, rfl, rfl, hR4, ?_, ?_⟩
          · rw [List.length_map, dl]
            exact Nat.lt_of_lt_of_le (show i < 61 by omega) (by decide)
          · refine ⟨ds ++ [D], _, _, _, _, _, _, _, _, _, rfl, (e12.trans e4).mut nr0, ?_, by rw [upd_same, List.map_append]; rfl, by simp [dl], ?_⟩
            · intro b' o nb h0
              rw [upd_ne nb]
              exact e4 _ _ (e2 _ _ (k0 b' o nb h0))
            · intro k d b' hk hb'
              by_cases hkl : k < ds.length
              · rw [List.getElem?_append_left hkl] at hk
                obtain ⟨ws', h1, h2⟩ := hds k d b' hk hb'
                exact ⟨ws', h1, (h2.ex (e2.trans e4)).put hR4⟩
              · rw [List.getElem?_append_right (by omega)] at hk
                have : k = ds.length := by
                  by_cases e : k - ds.length = 0
                  · omega
                  · rw [List.getElem?_eq_none (by simp; omega)] at hk; cases hk
                subst this
                rw [Nat.sub_self] at hk
                have er : d = D := (Option.some.inj hk).symm
                subst er
                rw [dl, hb] at hb'
                cases hb'
                rw [dl]
                exact ⟨ws, hW, mv.put hR4⟩
    · rintro σ H1 ⟨ds, y2, y3, y4, y5, y6, y7, y8, y9, y10, rfl, e1, k0, hR, dl, hds⟩
      refine ⟨.ref r0, rfl, q H1 r0 ds e1 nr0 hR ?_ hds⟩
      rw [dl, List.length_map, rl]
end
end Wb

set_option Elab.async false
set_option linter.all false
set_option maxRecDepth 100000
set_option maxHeartbeats 4000000
set_option pp.maxSteps 600
set_option pp.deepTerms false
namespace Wb
open PySem PySem.Spec PyProof.Rows L2
abbrev sFault : Stmt := topS 20
abbrev sManys : Stmt := topS 24
abbrev sNeedL : Stmt := topS 25
theorem scFault : FnScope ["thing", "manys", "k", "bolt", "words"] ["thing"] (defScope sFault) := ⟨rfl, rfl, rfl, by decide +kernel, rfl, by decide +kernel, by decide +kernel⟩
theorem scManys : FnScope ["lock", "bolt"] ["lock"] (defScope sManys) := ⟨rfl, rfl, rfl, by decide +kernel, rfl, by decide +kernel, by decide +kernel⟩
theorem scNeedL : FnScope ["lock", "fault"] ["lock"] (defScope sNeedL) := ⟨rfl, rfl, rfl, by decide +kernel, rfl, by decide +kernel, by decide +kernel⟩
/-- all defs of the checks, as they stand -/
structure Pr (K : PySem.W.Frag) (mg : Str → Option Value) where
  f1 : Addr
  d1 : FuncData
  F1 : Fun K "is_whole" "is_whole" sWhole f1 d1
  b1 : Binds K d1 ["thing"] []
  g1 : mg "is_whole" = some (.ref f1)
  f2 : Addr
  d2 : FuncData
  F2 : Fun K "is_whole_in" "is_whole_in" sWholeIn f2 d2
  b2 : Binds K d2 ["thing", "low", "high"] []
  g2 : mg "is_whole_in" = some (.ref f2)
  f3 : Addr
  d3 : FuncData
  F3 : Fun K "is_tuple_of" "is_tuple_of" sTupOf f3 d3
  b3 : Binds K d3 ["thing", "low", "high"] []
  g3 : mg "is_tuple_of" = some (.ref f3)
  f4 : Addr
  d4 : FuncData
  F4 : Fun K "are_places" "are_places" sPlaces f4 d4
  b4 : Binds K d4 ["thing", "manys"] []
  g4 : mg "are_places" = some (.ref f4)
  f10 : Addr
  d10 : FuncData
  F10 : Fun K "words_of" "words_of" sWords f10 d10
  b10 : Binds K d10 ["lock"] []
  g10 : mg "words_of" = some (.ref f10)
  f11 : Addr
  d11 : FuncData
  F11 : Fun K "moves_by_word" "moves_by_word" sMoves f11 d11
  b11 : Binds K d11 ["lock"] []
  g11 : mg "moves_by_word" = some (.ref f11)
  f19 : Addr
  d19 : FuncData
  F19 : Fun K "fault_of" "fault_of" sFault f19 d19
  b19 : Binds K d19 ["thing"] []
  g19 : mg "fault_of" = some (.ref f19)
  f20 : Addr
  d20 : FuncData
  F20 : Fun K "is_bolt" "is_bolt" sBolt f20 d20
  b20 : Binds K d20 ["thing", "below"] []
  g20 : mg "is_bolt" = some (.ref f20)
  f21 : Addr
  d21 : FuncData
  F21 : Fun K "is_gap" "is_gap" sGap f21 d21
  b21 : Binds K d21 ["thing", "many", "below"] []
  g21 : mg "is_gap" = some (.ref f21)
  f22 : Addr
  d22 : FuncData
  F22 : Fun K "are_ways" "are_ways" sWays f22 d22
  b22 : Binds K d22 ["thing", "below"] []
  g22 : mg "are_ways" = some (.ref f22)
  f23 : Addr
  d23 : FuncData
  F23 : Fun K "manys_of" "manys_of" sManys f23 d23
  b23 : Binds K d23 ["lock"] []
  g23 : mg "manys_of" = some (.ref f23)
  f24 : Addr
  d24 : FuncData
  F24 : Fun K "need_lock" "need_lock" sNeedL f24 d24
  b24 : Binds K d24 ["lock"] []
  g24 : mg "need_lock" = some (.ref f24)
  B : Bi mg
  N : Nu mg

def spFault (K : PySem.W.Frag) : Sp := fun vs H Q _ => ∃ (v : V) (l : Lock), vs = [v] ∧ LockAt K H v l ∧ LockOk l ∧ ∀ H', Evl.Ex H H' → Q .non H'
def spManys (K : PySem.W.Frag) : Sp := fun vs H Q _ => ∃ (v : V) (l : Lock), vs = [v] ∧ LockAt K H v l ∧ l.length ≤ 60 ∧ ∀ H' p, Evl.Ex H H' → H p = none → H' p = some (.lst ((manysOf l).map V.int)) → Q (.ref p) H'
section
variable {P : Program} {w : World} {K : PySem.W.Frag} {mg : Str → Option Value} {base : Heap}
theorem manysOf_take (l : Lock) (i : Nat) : manysOf (l.take i) = (manysOf l).take i := by
  unfold manysOf
  rw [List.map_take]
theorem ok_fault (D : Pr K mg) : FnOk P w K mg base CX0 6 D.f19 D.d19 ["thing"] (spFault K) := by
  have G3 : FnOk P w K mg base CX0 1 D.f3 D.d3 ["thing", "low", "high"] (spTupOf K) := ok_tupOf D.F3 D.B
  have G20 : FnOk P w K mg base CX0 5 D.f20 D.d20 ["thing", "below"] (spBolt K) := ok_bolt D.F20 D.F3 D.b3 D.g3 D.F4 D.b4 D.g4 D.F2 D.b2 D.g2 D.F22 D.b22 D.g22 D.F1 D.b1 D.g1 D.F21 D.b21 D.g21 D.B D.N
  have G10 : FnOk P w K mg base CX0 1 D.f10 D.d10 ["lock"] (spWords K) := ok_words D.F10 D.B
  obtain ⟨tb, eb⟩ := D.N.bolts
  obtain ⟨tw, ew⟩ := D.N.words
  refine D.F19.ok scFault (fun vs H Q E h => ?_) (fun cdv A outer s H vs Q E hr h => ?_)
  · obtain ⟨v, l, rfl, _⟩ := h; rfl
  · obtain ⟨v, l, rfl, ⟨a, bs, rfl, hx, hp⟩, ok, q⟩ := h
    have hr1 : Room 1 _ := hr.mono (by decide)
    refine ⟨_, pss_cons (ps_if (pt_not (pt_val (pe_call G3 hr1 (by rfl) D.g3 D.F3.kp D.b3 .nil pass0 (pa_cons (pv 0) (pa_cons pe_int (pa_cons (pe_glob (v := .int 60) (by rfl) eb ⟨_, rfl⟩) pa_nil)))))) pss_never pss_nil)
      (pss_cons (ps_set (i := 1) scFault.nd rfl (.inl rfl) (pe_lst pa_nil))
      (pss_cons (ps_for PassesOwn.never rfl (pi_enumT (by rfl) D.B.enum (pa_cons (pv 0) pa_nil)) (pg_tup rfl (pgs_cons (pg_name (i := 2) scFault.nd rfl (.inl rfl)) (pgs_cons (pg_name (i := 3) scFault.nd rfl (.inl rfl)) pgs_nil)))
        (pss_cons (ps_if (pt_not (pt_val (pe_call G20 hr (by rfl) D.g20 D.F20.kp D.b20 .nil pass0 (pa_cons (pv 3) (pa_cons (pv 1) pa_nil))))) pss_never pss_nil)
        (pss_one (ps_expr (pe_bm PySem.F.plainAttrs_list PySem.F.slot_list_append PySem.F.type_list_append mt_append (pv 1) (pa_cons (pe_ix ix_tup (pv 3) pe_int (fun _ _ => rfl)) pa_nil))))))
      (pss_cons (ps_for PassesOwn.never rfl (pi_enum (by rfl) D.B.enum (pa_cons (pe_call G10 hr1 (by rfl) D.g10 D.F10.kp D.b10 .nil pass0 (pa_cons (pv 0) pa_nil)) pa_nil)) (pg_tup rfl (pgs_cons (pg_name (i := 2) scFault.nd rfl (.inl rfl)) (pgs_cons (pg_name (i := 4) scFault.nd rfl (.inl rfl)) pgs_nil)))
        (pss_one (ps_if (pt_cmpR op_gt (pe_callB call_len_seq (by rfl) D.B.len PySem.boot_len (pa_cons (pv 4) pa_nil)) (pe_glob (v := .int 8) (by rfl) ew ⟨_, rfl⟩) (nomark _)) pss_never pss_nil)))
      (pss_one (ps_ret pe_non))))), ?_⟩
    have bl : bs.length = l.length := Paired.len hp
    have n0 := ok.n0
    have n60 := ok.n1
    refine ⟨.ref a, rfl, a, bs, 1, 60, rfl, hx, true, ?_, ?_⟩
    · have z1 : decide ((1 : Int) ≤ (bs.length : Int)) = true := decide_eq_true (by omega)
      have z2 : decide ((bs.length : Int) ≤ 60) = true := decide_eq_true (by omega)
      rw [z1, z2]
      rfl
    refine iteF ?_
    refine ⟨Nat.zero_le _, fun r0 nr0 => ?_⟩
    have x1 : Evl.Ex H (upd H r0 (.lst [])) := Evl.Ex.new nr0
    refine ⟨.ref a, rfl, a, bs, rfl, Evl.ex_t x1 hx, ?_⟩
    refine for_it (walk_et (xs := bs)) (fun i σ H' => ∃ (y2 y3 y4 : Option V), σ = [some (.ref a), some (.ref r0), y2, y3, y4] ∧ Evl.Ex H H' ∧ H' r0 = some (.lst (((manysOf l).take i).map V.int))) ⟨none, none, none, rfl, x1, upd_same⟩ ?_ ?_ ?_
    · rintro i σ H' _ ⟨_, _, _, _, e, _⟩
      exact Evl.ex_t e hx
    · rintro i v σ H1 H2 hi ⟨y2, y3, y4, rfl, e1, hR⟩ ⟨T, x, y, rfl, nT, rfl, ex, ey⟩
      cases ex
      have ey' : bs[i]? = some y := ey
      obtain ⟨b, hb, hba⟩ := Paired.get1 hp ey'
      have e2 := Evl.Ex.new (o := .tup [.int (i : Nat), y]) nT
      generalize hH2 : upd H1 T (.tup [.int (i : Nat), y]) = H2 at e2
      have hT2 : H2 T = some (.tup [.int (i : Nat), y]) := by rw [← hH2]; exact upd_same
      have e12 := e1.trans e2
      have hR2 := e2 _ _ hR
      have bok := ok.bolts i b hb
      refine ⟨T, _, rfl, .inl (.inl hT2), rfl, _, _, rfl, _, _, rfl, rfl, ?_⟩
      refine ⟨y, rfl, .ref r0, rfl, y, r0, b, manysOf (l.take i), rfl, hba.mono (TX.ex e12), ?_, bok, fun H3 e3 => ?_⟩
      · rw [manysOf_take]
        exact .inl (.inl hR2)
      refine ⟨true, rfl, iteF ?_⟩
      obtain ⟨ab, cg, gs, rfl, hb1, hb2, hb3⟩ := hba
      have hR3 := e3 _ _ hR2
      refine ⟨.ref r0, rfl, .inl ⟨rfl, _, SqL.of hR3⟩, .ref ab, rfl, ab, _, 0, .int b.many, rfl, rfl, Evl.ex_t (e12.trans e3) hb1, atI_nat (j := 0) rfl, r0, _, _, rfl, rfl, hR3, ?_, ?_⟩
      · rw [List.length_map, List.length_take]
        have : i < 61 := by rw [bl] at hi; omega
        exact Nat.lt_of_le_of_lt (Nat.min_le_left _ _) (Nat.lt_of_lt_of_le this (by decide))
      · have mm : (manysOf l)[i]? = some b.many := by
          unfold manysOf
          rw [List.getElem?_map, hb]
          rfl
        refine ⟨_, _, _, rfl, (e12.trans e3).mut nr0, ?_⟩
        rw [upd_same, take_succ_get mm, List.map_append]
        rfl
    · rintro σ H1 ⟨y2, y3, y4, rfl, e1, hR⟩
      refine ⟨.ref a, rfl, .ref a, l, rfl, ⟨a, bs, rfl, Evl.ex_t e1 hx, Paired.imp (fun _ _ => BoltAt.mono (TX.ex e1)) hp⟩, ok, fun H2 pw rs e2 npw hpw rl hrs => ?_⟩
      refine ⟨pw, rs.map V.ref, rfl, .inl (.inl hpw), ?_⟩
      refine for_it (walk_enum (xs := rs.map V.ref)) (fun i σ H' => ∃ (y2 y3 y4 : Option V), σ = [some (.ref a), some (.ref r0), y2, y3, y4] ∧ Evl.Ex H2 H') ⟨_, _, _, rfl, Evl.Ex.refl _⟩ ?_ ?_ ?_
      · rintro i σ H' _ ⟨_, _, _, _, e⟩
        exact .inl (.inl (e _ _ hpw))
      · rintro i v σ H3 H4 hi ⟨z2, z3, z4, rfl, e3⟩ ⟨T, x, y, rfl, nT, rfl, ex, ey⟩
        cases ex
        rw [List.length_map, rl] at hi
        obtain ⟨r, hr1', rfl⟩ : ∃ r, rs[i]? = some r ∧ y = .ref r := by
          have ey' : (rs.map V.ref)[i]? = some y := ey
          rw [List.getElem?_map] at ey'
          cases e : rs[i]? with
          | none => rw [e] at ey'; cases ey'
          | some r => rw [e] at ey'; exact ⟨r, rfl, (Option.some.inj ey').symm⟩
        obtain ⟨_, ws, ⟨us, hus, hup⟩, hW⟩ := hrs i r hr1'
        have w8 : ws.length ≤ 8 := ok.words i ws hi hW.1 (fun u hu' => (hW.2 u).mp hu')
        have ul : us.length = ws.length := Paired.len hup
        have e4 := Evl.Ex.new (o := .tup [.int (i : Nat), .ref r]) nT
        refine ⟨T, _, rfl, .inl (.inl upd_same), rfl, _, _, rfl, _, _, rfl, rfl, ?_⟩
        refine ⟨.ref r, rfl, r, us, rfl, .inl (.inl (.inl ((e3.trans e4) _ _ hus))), _, 8, rfl, rfl, false, ?_, ?_⟩
        · have z : decide ((8 : Int) < (us.length : Int)) = false := decide_eq_false (by omega)
          show V.bl (decide ((8 : Int) < (us.length : Int))) = V.bl false
          rw [z]
        · exact iteF ⟨_, _, _, rfl, e3.trans e4⟩
      · rintro σ H3 ⟨z2, z3, z4, rfl, e3⟩
        exact q H3 ((e1.trans e2).trans e3)
theorem ok_needL (D : Pr K mg) : FnOk P w K mg base CX0 7 D.f24 D.d24 ["lock"] (spFault K) := by
  have G19 : FnOk P w K mg base CX0 6 D.f19 D.d19 ["thing"] (spFault K) := ok_fault D
  refine D.F24.ok scNeedL (fun vs H Q E h => ?_) (fun cdv A outer s H vs Q E hr h => ?_)
  · obtain ⟨v, l, rfl, _⟩ := h; rfl
  · obtain ⟨v, l, rfl, hv, ok, q⟩ := h
    refine ⟨_, pss_cons (ps_set (i := 1) scNeedL.nd rfl (.inl rfl) (pe_call G19 hr (by rfl) D.g19 D.F19.kp D.b19 .nil pass0 (pa_cons (pv 0) pa_nil)))
      (pss_one (ps_if (pt_cmpR op_notN (pv 1) pe_non (nomark _)) pss_never pss_nil)), ?_⟩
    refine ⟨v, rfl, v, l, rfl, hv, ok, fun H' e => ?_⟩
    refine ⟨.non, rfl, rfl, false, rfl, iteF ?_⟩
    exact q H' e
theorem ok_manys (D : Pr K mg) : FnOk P w K mg base CX0 1 D.f23 D.d23 ["lock"] (spManys K) := by
  refine D.F23.ok scManys (fun vs H Q E h => ?_) (fun cdv A outer s H vs Q E hr h => ?_)
  · obtain ⟨v, l, rfl, _⟩ := h; rfl
  · obtain ⟨v, l, rfl, ⟨a, bs, rfl, hx, hp⟩, n60, q⟩ := h
    refine ⟨_, pss_one (ps_ret (pe_lc (own := [("bolt", 1)]) (g := gName 1) rfl scManys.nd (pi_tup (pv 0)) (blkOk_by (own := [("bolt", 1)]) (N := ["lock", "bolt"]) (sc := defScope sManys) (by decide +kernel))
      (fun _ _ _ _ _ => pg_name (i := 1) scManys.nd rfl (Or.inl rfl)) (fun _ _ _ _ _ => pts_nil) (fun _ _ _ _ _ => pe_ix (r := rIxT K) ix_tup (pv 1) pe_int (fun _ _ => rfl)))), ?_⟩
    have bl : bs.length = l.length := Paired.len hp
    refine ⟨.ref a, rfl, a, rfl, ⟨_, hx⟩, fun D hD => lc_tup (K := K) (a := a) (xs := bs) (fun i H' => Evl.Ex H H' ∧ H' D = some (.lst (((manysOf l).take i).map V.int))) ⟨Evl.Ex.new hD, upd_same⟩ ?_ ?_ ?_⟩
    · rintro i H' _ ⟨e, _⟩
      exact Evl.ex_t e hx
    · rintro i x H' hi ⟨e, hd⟩
      obtain ⟨b, hb, ⟨ab, cg, gs, rfl, hb1, _⟩⟩ := Paired.get1 hp hi
      have li : i < 61 := by
        have := (List.getElem?_eq_some_iff.mp hi).1
        omega
      have mm : (manysOf l)[i]? = some b.many := by
        unfold manysOf
        rw [List.getElem?_map, hb]
        rfl
      refine ⟨rfl, .ref ab, rfl, ab, _, 0, .int b.many, rfl, rfl, Evl.ex_t e hb1, atI_nat (j := 0) rfl, _, hd, ?_, e.mut hD, ?_⟩
      · rw [List.length_map, List.length_take]
        exact Nat.lt_of_le_of_lt (Nat.min_le_left _ _) (Nat.lt_of_lt_of_le li (by decide))
      · rw [upd_same, take_succ_get mm, List.map_append]
        rfl
    · rintro H1 ⟨e, hd⟩
      refine q H1 D e hD ?_
      rw [hd, List.take_of_length_le]
      unfold manysOf
      rw [List.length_map, bl]
      exact Nat.le_refl _
end
end Wb

set_option Elab.async false
set_option linter.all false
set_option maxRecDepth 100000
set_option maxHeartbeats 4000000
set_option pp.maxSteps 600
set_option pp.deepTerms false
namespace Wb
open PySem PySem.Spec PyProof.Rows L2
/-- the steps of bolt k -/
def pickAt (k : Nat) (p : Int) (ts : List Tr3) : List Tr3 := (ts.filter fun t => decide (t.frm = p)).map fun t => ⟨(k : Int), t.to_, t.price⟩
def stepsOf (l : Lock) (st : Word) (k : Nat) : List Tr3 :=
  match l[k]?, st[k]? with
  | some b, some p => pickAt k p (movesL b.gaps (st.take k))
  | _, _ => []
def stepsUpto (l : Lock) (st : Word) (n : Nat) : List Tr3 := (List.range n).flatMap (stepsOf l st)
def stepsL (l : Lock) (st : Word) : List Tr3 := stepsUpto l st l.length
theorem stepsUpto_succ (l : Lock) (st : Word) (n : Nat) : stepsUpto l st (n + 1) = stepsUpto l st n ++ stepsOf l st n := by
  unfold stepsUpto
  rw [List.range_succ, List.flatMap_append]
  simp
theorem movesL_len (gs : List Gap) (w' : Word) : (movesL gs w').length ≤ (gs.map (fun g => g.ways.length)).sum := by
  unfold movesL
  rw [List.length_map]
  induction gs with
  | nil => simp
  | cons g gs ih =>
    rw [List.filter_cons, List.map_cons, List.sum_cons]
    split
    · rename_i hm
      have : 1 ≤ g.ways.length := List.length_pos_of_mem (of_decide_eq_true hm)
      rw [List.length_cons]
      omega
    · omega
theorem pickAt_len (k : Nat) (p : Int) (ts : List Tr3) : (pickAt k p ts).length ≤ ts.length := by
  unfold pickAt
  rw [List.length_map]
  exact List.length_filter_le _ _
/-- behind a word that none of the bolts from k on waits for, no bolt steps -/
theorem steps_none {l : Lock} (ok : LockOk l) {st : Word} {k : Nat} (hn : ¬ cutsFrom l k (st.take k)) : ∀ j, k ≤ j → stepsOf l st j = [] := by
  intro j hj
  unfold stepsOf
  cases hb : l[j]? with
  | none => rfl
  | some b =>
    cases hp : st[j]? with
    | none => rfl
    | some p =>
      have z : movesL b.gaps (st.take j) = [] := by
        unfold movesL
        rw [List.map_eq_nil_iff, List.filter_eq_nil_iff]
        intro g hg hm
        apply hn
        refine ⟨j, b, g, st.take j, hj, hb, hg, of_decide_eq_true hm, ?_⟩
        rw [List.take_take, Nat.min_eq_left hj]
      show pickAt j p (movesL b.gaps (st.take j)) = []
      rw [z]
      rfl
theorem steps_stop {l : Lock} (ok : LockOk l) {st : Word} {k : Nat} (hk : k ≤ l.length) (hn : ¬ cutsFrom l k (st.take k)) : stepsUpto l st k = stepsL l st := by
  have z : ∀ n, stepsUpto l st (k + n) = stepsUpto l st k := by
    intro n
    induction n with
    | zero => rfl
    | succ n ih =>
      rw [show k + (n + 1) = (k + n) + 1 by omega, stepsUpto_succ, ih, steps_none ok hn _ (by omega), List.append_nil]
  have := z (l.length - k)
  rw [show k + (l.length - k) = l.length by omega] at this
  exact this.symm

section
variable {P : Program} {w : World} {K : PySem.W.Frag} {mg : Str → Option Value} {base : Heap}
end
end Wb

set_option Elab.async false
set_option linter.all false
set_option maxRecDepth 100000
set_option maxHeartbeats 4000000
set_option pp.maxSteps 600
set_option pp.deepTerms false
namespace Wb
open PySem PySem.Spec PyProof.Rows L2
abbrev sPen : Stmt := topS 36
abbrev sDraw : Stmt := topS 37
abbrev sPick : Stmt := topS 38
abbrev nDraw : List Str := ["_law_pen_here", "_law_many", "_law_found", "_law_at", "_law_cell", "_law_number"]
theorem scPen : FnScope ["_law_script"] ["_law_script"] (defScope sPen) := ⟨rfl, rfl, rfl, by decide +kernel, rfl, by decide +kernel, by decide +kernel⟩
theorem scDraw : FnScope nDraw ["_law_pen_here", "_law_many"] (defScope sDraw) := ⟨rfl, rfl, rfl, by decide +kernel, rfl, by decide +kernel, by decide +kernel⟩
theorem scPick : FnScope ["_law_pen_here", "_law_bag"] ["_law_pen_here", "_law_bag"] (defScope sPick) := ⟨rfl, rfl, rfl, by decide +kernel, rfl, by decide +kernel, by decide +kernel⟩

/-! ### the pen -/
def PenAt (H : Hp) (p c : Addr) (T : Int) : Prop :=
  ∃ (cells : List Int) (t d : Int), H p = some (.lst [.ref c, .int t, .int d]) ∧ H c = some (.lst (cells.map V.int)) ∧ c ≠ p ∧ cells.length ≤ 63 ∧ 0 ≤ t ∧ t ≤ T ∧ 0 ≤ d
section
variable {H H' : Hp} {p c q : Addr} {T T' : Int}
theorem PenAt.ex (e : Evl.Ex H H') (h : PenAt H p c T) : PenAt H' p c T := by
  obtain ⟨cells, t, d, h1, h2, r⟩ := h
  exact ⟨cells, t, d, e _ _ h1, e _ _ h2, r⟩
theorem PenAt.put {o : HO} (h : PenAt H p c T) (h1 : q ≠ p) (h2 : q ≠ c) : PenAt (upd H q o) p c T := by
  obtain ⟨cells, t, d, a, b, r⟩ := h
  exact ⟨cells, t, d, by rw [upd_ne h1.symm]; exact a, by rw [upd_ne h2.symm]; exact b, r⟩
theorem PenAt.mono (h : PenAt H p c T) (l : T ≤ T') : PenAt H p c T' := by
  obtain ⟨cells, t, d, a, b, n, b2, t0, t1, d0⟩ := h
  exact ⟨cells, t, d, a, b, n, b2, t0, Int.le_trans t1 l, d0⟩
theorem PenAt.no (h : PenAt H p c T) : ∀ xs, ¬ Rd H p (.tup xs) := by
  obtain ⟨cells, t, d, a, _⟩ := h
  rintro xs (z | ⟨o, z⟩)
  · rw [a] at z; cases z
  · rw [a] at z; cases z
theorem PenAt.here (h : PenAt H p c T) : H p ≠ none := by
  obtain ⟨cells, t, d, a, _⟩ := h
  rw [a]
  exact fun z => nomatch z
theorem PenAt.new1 (h : PenAt H p c T) (n : H q = none) : q ≠ p := fun z => h.here (z ▸ n)
theorem PenAt.new2 (h : PenAt H p c T) (n : H q = none) : q ≠ c := fun z => by
  obtain ⟨cells, t, d, _, b, _⟩ := h
  rw [← z, n] at b
  cases b
theorem PenAt.tx {K : PySem.W.Frag} (h : PenAt H p c T) (e : Exx p H H') : TX K H H' := e.tx h.no
/-- a list of ours has changed -/
theorem TX.put {K : PySem.W.Frag} {l : Addr} {xs : List V} {o : HO} (h : H l = some (.lst xs)) : TX K H (upd H l o) := by
  refine ⟨fun a ys z => ?_, fun a ys z => ?_⟩
  · rcases z with (z | ⟨o', z⟩) | z
    · exact .inl (.inl (by rw [upd_ne (ne_of z h (fun q => nomatch q))]; exact z))
    · exact .inl (.inr ⟨o', by rw [upd_ne (ne_of z h (fun q => nomatch q))]; exact z⟩)
    · exact .inr z
  · rw [upd_ne (ne_of z h (fun q => nomatch q))]
    exact z
theorem Exx.mut {l : Addr} {o : HO} (e : Exx p H H') (n : H l = none) : Exx p H (upd H' l o) := fun a u na ha => by
  rw [upd_ne (ne_of_none ha n)]
  exact e a u na ha
end
theorem fresh_exx {p q : Addr} {H H' : Hp} (e : Exx p H H') (hp : H' p ≠ none) (h : H' q = none) : H q = none := by
  cases z : H q with
  | none => rfl
  | some o =>
    by_cases n : q = p
    · subst n; exact absurd h hp
    · rw [e q o n z] at h; cases h

def spPen (K : PySem.W.Frag) : Sp := fun vs H Q _ => ∃ (a : Addr) (ns : List Int), vs = [.ref a] ∧ SqL K H a (ns.map V.int) ∧ ∀ H' p, Evl.Ex H H' → H p = none → (∃ c, PenAt H' p c 0) → Q (.ref p) H'
def spDraw : Sp := fun vs H Q _ => ∃ (p c : Addr) (n T : Int), vs = [.ref p, .int n] ∧ PenAt H p c T ∧ 1 ≤ n ∧ n ≤ 1000000 ∧ T ≤ 10000000 ∧ ∀ i H', 0 ≤ i → i < n → Exx p H H' → PenAt H' p c (T + 1) → Q (.int i) H'
def spPick (K : PySem.W.Frag) : Sp := fun vs H Q _ => ∃ (p c a : Addr) (T : Int) (xs : List V), vs = [.ref p, .ref a] ∧ PenAt H p c T ∧ T ≤ 10000000 ∧ SqL K H a xs ∧ a ≠ p ∧ xs ≠ [] ∧ xs.length ≤ 1000000 ∧
  ∀ x H', x ∈ xs → Exx p H H' → PenAt H' p c (T + 1) → Q x H'
theorem ints_shaped (ns : List Int) : SeqAt.shaped (.list (ns.map PyData.int)) = true := by
  have h1 : ∀ ns : List Int, PyData.canLayAll0 (ns.map PyData.int) = true := by
    intro ns
    induction ns with
    | nil => rfl
    | cons n ns ih => simp [PyData.canLayAll0, PyData.canLay0, ih]
  have h2 : ∀ ns : List Int, PyData.depthAll (ns.map PyData.int) ≤ 1 := by
    intro ns
    induction ns with
    | nil => simp [PyData.depthAll]
    | cons n ns ih => simp [PyData.depthAll, PyData.depth]; omega
  unfold SeqAt.shaped
  simp only [PyData.canLay0, PyData.depth, h1, Bool.true_and]
  have := h2 ns
  exact decide_eq_true (by omega)
theorem dp_ints {K : PySem.W.Frag} {H : Hp} : ∀ ns : List Int, DpAll K H (ns.map V.int) (ns.map PyData.int)
  | [] => .nil
  | n :: ns => .cons (.int n) (dp_ints ns)
section
variable {P : Program} {w : World} {K : PySem.W.Frag} {mg : Str → Option Value} {base : Heap}
theorem cut63 (ns : List Int) : cutV (ns.map V.int) none (some 63) = (ns.take 63).map V.int := by
  rw [List.map_take]
  exact cut_take _ 63
theorem ok_pen {f : Addr} {fd : FuncData} (F : Fun K "_law_pen" "_law_pen" sPen f fd) (B : Bi mg) : FnOk P w K mg base CX0 1 f fd ["_law_script"] (spPen K) := by
  refine F.ok scPen (fun vs H Q E h => ?_) (fun cdv A outer s H vs Q E hr h => ?_)
  · obtain ⟨a, ns, rfl, _⟩ := h; rfl
  · obtain ⟨a, ns, rfl, hS, q⟩ := h
    refine ⟨_, pss_one (ps_ret (pe_lst (pa_cons (pe_callTy call_list_of (by rfl) B.list PyProof.Rows.boot_list (pa_cons (pe_slice sl_list (pv 0) po_none (po_some pe_int)) pa_nil)) (pa_cons pe_int (pa_cons pe_int pa_nil))))), ?_⟩
    refine ⟨.ref a, rfl, 63, rfl, a, _, rfl, hS, fun c1 n1 => ?_⟩
    rw [cut63]
    have x2 := Evl.Ex.new (o := .lst ((ns.take 63).map V.int)) n1
    refine ⟨c1, _, rfl, .inl (.inl (.inl upd_same)), fun c n2 => ?_⟩
    have x3 := Evl.Ex.new (o := .lst ((ns.take 63).map V.int)) n2
    refine ⟨(by show 3 ≤ sizeLine; decide), fun p n3 => ?_⟩
    have x4 := Evl.Ex.new (o := .lst [.ref c, .int 0, .int 0]) n3
    have hc := x4 _ _ (upd_same (H := upd H c1 (.lst ((ns.take 63).map V.int))) (a := c) (o := .lst ((ns.take 63).map V.int)))
    refine q _ p (x2.trans (x3.trans x4)) (Evl.fresh_back (x2.trans x3) n3) ⟨c, ns.take 63, 0, 0, upd_same, hc, fun z => ?_, by rw [List.length_take]; omega, Int.le_refl _, Int.le_refl _, Int.le_refl _⟩
    rw [z] at n2
    rw [← z, upd_same] at n3
    cases n3
end
end Wb

set_option Elab.async false
set_option linter.all false
set_option maxRecDepth 100000
set_option maxHeartbeats 4000000
set_option pp.maxSteps 600
set_option pp.deepTerms false
namespace Wb
open PySem PySem.Spec PyProof.Rows L2
section
variable {P : Program} {w : World} {K : PySem.W.Frag} {mg : Str → Option Value} {base : Heap}
theorem bndM (x m : Int) (h0 : 0 < m) (h1 : m ≤ 2147483647) : 0 ≤ x % m ∧ x % m < 2147483647 := by
  have a1 := Int.emod_nonneg x (show m ≠ 0 by omega)
  have a2 := Int.emod_lt_of_pos x h0
  omega
theorem ok_draw {f : Addr} {fd : FuncData} (F : Fun K "_law_draw" "_law_draw" sDraw f fd) (B : Bi mg) : FnOk P w K mg base CX0 1 f fd ["_law_pen_here", "_law_many"] spDraw := by
  refine F.ok scDraw (fun vs H Q E h => ?_) (fun cdv A outer s H vs Q E hr h => ?_)
  · obtain ⟨p, c, n, T, rfl, _⟩ := h; rfl
  · obtain ⟨p, c, n, T, rfl, ⟨cells, t, d, hp, hc, ncp, c63, t0, t1, d0⟩, n1, n2, T7, q⟩ := h
    have hu := hu_of hr
    refine ⟨_, pss_cons (ps_if (pt_cmpR op_gt (pe_ix ix_list (pv 0) pe_int (fun _ _ => rfl)) pe_int (nomark _))
        (pss_cons (ps_set (i := 2) scDraw.nd rfl (.inl rfl) (pe_op op_mod (pe_ix ix_list (pv 0) pe_int (fun _ _ => rfl)) (pv 1)))
        (pss_cons (ps_asg (pe_op op_fdiv (pe_ix ix_list (pv 0) pe_int (fun _ _ => rfl)) (pv 1)) (pg_sub (pv 0) pe_int set_list))
        (pss_one (ps_ret (pv 2))))) pss_nil)
      (pss_cons (ps_set (i := 3) scDraw.nd rfl (.inl rfl) (pe_ix ix_list (pv 0) pe_int (fun _ _ => rfl)))
      (pss_cons (ps_asg (pe_op op_add (pv 3) pe_int) (pg_sub (pv 0) pe_int set_list))
      (pss_cons (ps_set (i := 4) scDraw.nd rfl (.inl rfl) pe_int)
      (Evl.pss_cut (ps_if (pt_cmpR (op_neD hr.units) (pe_ix ix_list (pv 0) pe_int (fun _ _ => rfl)) (pe_lst pa_nil) (nomark _))
        (pss_one (ps_set (i := 4) scDraw.nd rfl (.inl rfl) (pe_ix ix_list (pe_ix ix_list (pv 0) pe_int (fun _ _ => rfl)) (pe_op op_mod (pv 3) (pe_callB call_len_seq (by rfl) B.len PySem.boot_len (pa_cons (pe_ix ix_list (pv 0) pe_int (fun _ _ => rfl)) pa_nil))) (fun _ _ => rfl)))) pss_nil)
      (Evl.pss_cut (ps_if (PW.pt (pw_and (pt_cmpR op_lt (pv 3) (pe_callB call_len_seq (by rfl) B.len PySem.boot_len (pa_cons (pe_ix ix_list (pv 0) pe_int (fun _ _ => rfl)) pa_nil)) (nomark _)) (pw_and1 (pt_cmpR op_ge (pe_callB call_abs (by rfl) B.abs boot_abs (pa_cons (pv 4) pa_nil)) (pe_op op_pow pe_int pe_int) (nomark _)))))
        (pss_cons (ps_asg (pe_op op_fdiv (pe_callB call_abs (by rfl) B.abs boot_abs (pa_cons (pv 4) pa_nil)) (pv 1)) (pg_sub (pv 0) pe_int set_list))
        (pss_one (ps_ret (pe_op op_mod (pe_callB call_abs (by rfl) B.abs boot_abs (pa_cons (pv 4) pa_nil)) (pv 1))))) pss_nil)
      (pss_cons (ps_set (i := 5) scDraw.nd rfl (.inl rfl) (pe_op op_mod (pe_op op_mul (pe_op op_add (pe_op op_mod (pv 4) pe_int) pe_int) (pe_op op_add (pe_op op_add (pe_op op_mul (pv 3) (pv 3)) (pe_op op_mul pe_int (pv 3))) pe_int)) pe_int))
      (pss_cons (ps_set (i := 5) scDraw.nd rfl (.inl rfl) (pe_op op_mod (pe_op op_mul (pe_op op_mod (pe_op op_add (pe_op op_pow (pv 5) pe_int) (pe_op op_mul pe_int (pv 3))) pe_int) pe_int) pe_int))
      (pss_one (ps_ret (pe_op op_mod (pe_op op_fdiv (pv 5) pe_int) (pv 1))))))))))), ?_⟩
    have n0 : 0 < n := by omega
    have nb : 0 < n ∧ n < 1073741824 := ⟨n0, by omega⟩
    have at0 : ∀ {a b c : V}, atI [a, b, c] 0 = some a := fun {_ _ _} => atI_nat (j := 0) rfl
    have at1 : ∀ {a b c : V}, atI [a, b, c] 1 = some b := fun {_ _ _} => atI_nat (j := 1) rfl
    have at2 : ∀ {a b c : V}, atI [a, b, c] 2 = some c := fun {_ _ _} => atI_nat (j := 2) rfl
    have sl : ∀ {H' : Hp} {xs : List V}, H' p = some (.lst xs) → SqL K H' p xs := fun {_ _} e => SqL.of e
    -- the digits of a great cell
    refine ⟨.ref p, rfl, p, _, 2, .int d, rfl, rfl, sl hp, at2, d, 0, rfl, rfl, _, rfl, ?_⟩
    refine ite2 (fun _ => ?_) (fun _ => ?_)
    · refine ⟨.ref p, rfl, p, _, 2, .int d, rfl, rfl, sl hp, at2, .int n, rfl, d, n, rfl, rfl, n0, ?_⟩
      refine ⟨.ref p, rfl, p, _, 2, .int d, rfl, rfl, sl hp, at2, .int n, rfl, d, n, rfl, rfl, nb, .ref p, rfl, p, _, 2, 2, rfl, rfl, hp, rfl, .int (d % n), rfl, ?_⟩
      exact q _ _ (Int.emod_nonneg _ (by omega)) (Int.emod_lt_of_pos _ n0) Exx.put ⟨cells, t, d / n, upd_same, by rw [upd_ne ncp]; exact hc, ncp, c63, t0, by omega, Int.ediv_nonneg d0 (by omega)⟩
    · refine ⟨.ref p, rfl, p, _, 1, .int t, rfl, rfl, sl hp, at1, ?_⟩
      refine ⟨.int t, rfl, t, 1, rfl, rfl, .ref p, rfl, p, _, 1, 1, rfl, rfl, hp, rfl, ?_⟩
      have hp1 : (upd H p (.lst ([V.ref c, .int t, .int d].set 1 (.int (t + 1))))) p = some (.lst [.ref c, .int (t + 1), .int d]) := upd_same
      have hc1 : (upd H p (.lst ([V.ref c, .int t, .int d].set 1 (.int (t + 1))))) c = some (.lst (cells.map V.int)) := by rw [upd_ne ncp]; exact hc
      have x1 : Exx p H (upd H p (.lst ([V.ref c, .int t, .int d].set 1 (.int (t + 1))))) := Exx.put
      generalize upd H p (.lst ([V.ref c, .int t, .int d].set 1 (.int (t + 1)))) = H1 at hp1 hc1 x1
      refine ⟨fun σ H' => ∃ cell : Int, σ = [some (.ref p), some (.int n), none, some (.int t), some (.int cell), none] ∧ Evl.Ex H1 H', ?_, ?_⟩
      · refine ⟨.ref p, rfl, p, _, 0, .ref c, rfl, rfl, sl hp1, at0, Nat.zero_le _, fun e ne => ?_⟩
        have e1 := Evl.Ex.new (o := .lst []) ne
        have hp2 := e1 _ _ hp1
        have hc2 := e1 _ _ hc1
        refine ⟨.list (cells.map PyData.int), .list [], .lst (.inl (.inl hc2)) (dp_ints cells), .lst (.inl (.inl upd_same)) .nil, ints_shaped cells, (by decide), _, rfl, ?_⟩
        cases hcells : cells with
        | nil =>
          refine iteF ?_
          exact ⟨11, rfl, e1⟩
        | cons c0 cs =>
          refine iteT ?_
          have lp : 0 < cells.length := by rw [hcells]; exact Nat.succ_pos _
          have hlt : (t % (cells.length : Int)).toNat < cells.length := by
            have h1 := Int.emod_nonneg t (show (cells.length : Int) ≠ 0 by omega)
            have h2 := Int.emod_lt_of_pos t (show (0 : Int) < cells.length by omega)
            omega
          have hix : ((t % (cells.length : Int)).toNat : Int) = t % ((cells.map V.int).length : Nat) := by
            have h1 := Int.emod_nonneg t (show (cells.length : Int) ≠ 0 by omega)
            rw [List.length_map]
            omega
          refine ⟨.ref p, rfl, p, _, 0, .ref c, rfl, rfl, sl hp2, at0, .int t, rfl, .ref p, rfl, p, _, 0, .ref c, rfl, rfl, sl hp2, at0, c, _, rfl, .inl (.inl (.inl hc2)), t, _, rfl, rfl, (by rw [List.length_map]; omega), c, _, _, .int (cells[(t % (cells.length : Int)).toNat]), rfl, rfl, .inl (.inl hc2), ?_, ?_⟩
          · rw [← hix]
            exact atI_nat (map_int_get (List.getElem?_eq_getElem hlt))
          · exact ⟨_, rfl, e1⟩
      · rintro σ H2 ⟨cell, rfl, e2⟩
        have hp2 := e2 _ _ hp1
        have hc2 := e2 _ _ hc1
        have x2 := x1.trans (Exx.ex e2)
        have fin : ∀ i : Int, 0 ≤ i → i < n → Q (.int i) H2 := fun i h1 h2 => q i H2 h1 h2 x2 ⟨cells, t + 1, d, hp2, hc2, ncp, c63, by omega, by omega, d0⟩
        have p18 : (0 : Int) ≤ 18 ∧ (18 : Int) ≤ 1000000 ∧ (10 : Int).natAbs < 2 ^ 64 := by decide
        refine ⟨fun σ H' => σ = [some (.ref p), some (.int n), none, some (.int t), some (.int cell), none] ∧ H' = H2, ?_, ?_⟩
        · refine ⟨.int t, rfl, .ref p, rfl, p, _, 0, .ref c, rfl, rfl, sl hp2, at0, c, _, rfl, .inl (.inl (.inl hc2)), t, _, rfl, rfl, _, rfl, ?_⟩
          refine ite2 (fun _ => ?_) (fun _ => ⟨rfl, rfl⟩)
          refine ⟨.int cell, rfl, cell, rfl, 10, 18, rfl, rfl, p18, (if cell < 0 then -cell else cell), _, rfl, rfl, _, rfl, ?_⟩
          refine ite2 (fun _ => ?_) (fun _ => ⟨rfl, rfl⟩)
          refine ⟨.int cell, rfl, cell, rfl, .int n, rfl, (if cell < 0 then -cell else cell), n, rfl, rfl, nb, .ref p, rfl, p, _, 2, 2, rfl, rfl, hp2, rfl, ?_⟩
          refine ⟨.int cell, rfl, cell, rfl, .int n, rfl, (if cell < 0 then -cell else cell), n, rfl, rfl, n0, ?_⟩
          exact q _ _ (Int.emod_nonneg _ (by omega)) (Int.emod_lt_of_pos _ n0) (x2.trans Exx.put) ⟨cells, t + 1, _, upd_same, by rw [upd_ne ncp]; exact hc2, ncp, c63, by omega, by omega, Int.ediv_nonneg (by split <;> omega) (by omega)⟩
        · rintro σ H' ⟨rfl, rfl⟩
          have tb : -(2 ^ 64) < t ∧ t < 2 ^ 64 := ⟨by omega, by omega⟩
          have m1 : (0 : Int) < 2147483629 := by decide
          have m2 : (0 : Int) < 2147483647 := by decide
          have m3 : (0 : Int) < 2147483587 := by decide
          have m4 : (0 : Int) < 2147483399 := by decide
          have c1 := bndM cell 2147483629 (by decide) (by decide)
          have cb : -(2 ^ 64) < cell % 2147483629 + 13 ∧ cell % 2147483629 + 13 < 2 ^ 64 := ⟨by omega, by omega⟩
          refine ⟨.int cell, rfl, cell, 2147483629, rfl, rfl, m1, _, 13, rfl, rfl, .int t, rfl, .int t, rfl, t, t, rfl, rfl, .inl tb, .int t, rfl, 7, t, rfl, rfl, .inl (by decide), _, _, rfl, rfl, _, 5, rfl, rfl, _, _, rfl, rfl, .inl cb, _, 2147483647, rfl, rfl, m2, ?_⟩
          generalize (cell % 2147483629 + 13) * (t * t + 7 * t + 5) = x1
          have b1 := bndM x1 2147483647 (by decide) (by decide)
          have p3 : (0 : Int) ≤ 3 ∧ (3 : Int) ≤ 1000000 ∧ (x1 % 2147483647).natAbs < 2 ^ 64 := ⟨by decide, by decide, by omega⟩
          refine ⟨_, rfl, _, 3, rfl, rfl, p3, .int t, rfl, 40692, t, rfl, rfl, .inl (by decide), _, _, rfl, rfl, _, 2147483587, rfl, rfl, m3, _, 69621, rfl, rfl, .inr (by decide), _, 2147483399, rfl, rfl, m4, ?_⟩
          refine ⟨_, rfl, _, 64, rfl, rfl, (show (0 : Int) < 64 ∧ (64 : Int) < 1073741824 by decide), .int n, rfl, _, n, rfl, rfl, n0, ?_⟩
          exact fin _ (Int.emod_nonneg _ (by omega)) (Int.emod_lt_of_pos _ n0)
theorem ok_pick {f f1 : Addr} {fd fd1 : FuncData} (F : Fun K "_law_pick" "_law_pick" sPick f fd) (F1 : Fun K "_law_draw" "_law_draw" sDraw f1 fd1) (b1 : Binds K fd1 ["_law_pen_here", "_law_many"] []) (g1 : mg "_law_draw" = some (.ref f1)) (B : Bi mg) :
    FnOk P w K mg base CX0 2 f fd ["_law_pen_here", "_law_bag"] (spPick K) := by
  have G1 : FnOk P w K mg base CX0 1 f1 fd1 ["_law_pen_here", "_law_many"] spDraw := ok_draw F1 B
  refine F.ok scPick (fun vs H Q E h => ?_) (fun cdv A outer s H vs Q E hr h => ?_)
  · obtain ⟨p, c, a, T, xs, rfl, _⟩ := h; rfl
  · obtain ⟨p, c, a, T, xs, rfl, hp, T7, hx, nap, ne, xl, q⟩ := h
    refine ⟨_, pss_one (ps_ret (pe_ix ix_list (pv 1) (pe_call G1 hr (by rfl) g1 F1.kp b1 .nil pass0 (pa_cons (pv 0) (pa_cons (pe_callB call_len_seq (by rfl) B.len PySem.boot_len (pa_cons (pv 1) pa_nil)) pa_nil))) (fun _ _ => rfl))), ?_⟩
    have lp : 0 < xs.length := List.length_pos_iff.mpr ne
    refine ⟨.ref a, rfl, .ref p, rfl, .ref a, rfl, a, xs, rfl, .inl hx, p, c, _, T, rfl, hp, by omega, by omega, T7, fun i H' h0 h1 e hp' => ?_⟩
    have hlt : i.toNat < xs.length := by omega
    obtain ⟨y, hy⟩ : ∃ y, xs[i.toNat]? = some y := ⟨_, List.getElem?_eq_getElem hlt⟩
    refine ⟨a, xs, i, y, rfl, rfl, e.l nap hx, ?_, ?_⟩
    · have z : ((i.toNat : Nat) : Int) = i := by omega
      rw [← z]
      exact atI_nat hy
    · exact q _ H' (List.mem_of_getElem? hy) e hp'
end
end Wb

set_option Elab.async false
set_option linter.all false
set_option maxRecDepth 100000
set_option maxHeartbeats 4000000
namespace TS
open PySem PyProof.Rows
section
variable {prog : Program} {w : World} {A : Around} {E : Value → Shared → Prop} {s : Shared}
/-- sorted of a list of tuples that are held against one another by a rank -/
theorem sorted_rank {l : Addr} {vs : List Value} {r : Value → Int} {Q : Value → Shared → Prop} (hl : s.heap.IsList l vs.toArray) (h64 : vs.length < 64)
    (hK : ∀ (h' : Heap), (∀ b o, s.heap.get? b = some o → o.cls = .type "tuple" → h'.get? b = some o) → 2 ≤ vs.length → ∀ (A' : Around) (E' : Value → Shared → Prop) (Q' : SortKind → Shared → Prop), (∀ κ, Cmp prog w A' { s with heap := h' } κ (pairsOf vs) r → Q' κ { s with heap := h' }) →
      wpAny (model prog w) A' (keyKind' vs.toArray) Q' E' { s with heap := h' })
    (h : ∀ out : Array Value, out.toList.Perm vs → out.toList.Pairwise (fun u v => r u ≤ r v) → Q (.ref (s.heap.objs.size + 1)) { s with heap := sortedAll s.heap vs out }) :
    wpAny (model prog w) A (call (.builtin "sorted") [.ref l]) Q E s := by
  refine Calls.call_function_entry kind_sorted plain_sorted entry_sorted (args_sorted1 _) ?_
  unfold Builtin.«sorted»
  refine wpAny_bind (m := checkCount "sorted" 1 1 _) (wpAny_pure ?_)
  refine wpAny_bind (collect_list hl ?_ (by rw [sizeLine_eq]; omega))
  refine wpAny_bind (wpAny_newList ?_ (by rw [sizeLine_eq]; omega))
  have hsz : ((s.heap.push (seqObj "list" #[] 0)).update s.heap.objs.size (Obj.mapSeq (· ++ vs.toArray))).objs.size = s.heap.objs.size + 1 := by
    rw [Heap.size_update, size_push']
  have hoL : (((s.heap.push (seqObj "list" #[] 0)).update s.heap.objs.size (Obj.mapSeq (· ++ vs.toArray))).push (seqObj "list" vs.toArray 0)).get? (s.heap.objs.size + 1) = some (seqObj "list" vs.toArray 0) := by
    rw [← hsz]; exact Heap.get?_push_size _ rfl
  have keep : ∀ b o, s.heap.get? b = some o → o.cls = .type "tuple" → (((s.heap.push (seqObj "list" #[] 0)).update s.heap.objs.size (Obj.mapSeq (· ++ vs.toArray))).push (seqObj "list" vs.toArray 0)).get? b = some o := fun b o q _ => by
    have hlt : b < s.heap.objs.size := Heap.lt_size q
    rw [Heap.get?_push_ne _ _ _ (by rw [hsz]; exact Nat.ne_of_lt (Nat.lt_succ_of_lt hlt)), Heap.get?_update_ne _ _ _ _ (Nat.ne_of_lt hlt), Heap.get?_push_ne _ _ _ (Nat.ne_of_lt hlt)]
    exact q
  show wpAny _ _ _ _ _ { s with heap := ((s.heap.push (seqObj "list" #[] 0)).update s.heap.objs.size (Obj.mapSeq (· ++ vs.toArray))).push (seqObj "list" vs.toArray 0) }
  rw [hsz]
  refine wpAny_bind (wpAny_holding (wpAny_call_entry slot_list_sort ⟨_, hoL, rfl⟩ entry_list_sort (SK.plain_sort (r := r) hoL h64 (fun h2 Q' hQ => ?_) fun ps out h1 h2 h3 => ⟨_, rfl, ?_⟩) (args_list_sort _)))
  · refine hK _ (fun b o e hc => ?_) h2 _ _ _ hQ
    have e1 := keep b o e hc
    refine midHeap_old ?_ e1
    rintro rfl
    rw [hoL] at e1
    have e' : seqObj "list" vs.toArray 0 = o := Option.some.inj e1
    rw [← e'] at hc
    have c' : Value.type "list" = Value.type "tuple" := hc
    injection c' with c''
    exact absurd c'' (by decide)
  · obtain ⟨p, o⟩ := out_rank h1 h2 h3
    exact wpAny_pure ⟨_, rfl, h out p o⟩
theorem eqBool_same {v : Value} {Q : Bool → Shared → Prop} (h : Q true s) : wpAny (model prog w) A (eqBool v v) Q E s := by
  unfold eqBool
  refine wpAny_holding ?_
  rw [if_pos (beq_self_eq_true v)]
  first
    | exact wpAny_bind (wpAny_rule (wpAny_pure h))
    | exact wpAny_pure h
    | exact wpAny_bind (wpAny_rule h)
/-- a gap's tuple, by the places it leads from and to -/
def G4 (h : Heap) (v : Value) (k : Int × Int) : Prop := ∃ (a : Addr) (o : Obj) (t u : Tok) (q : Int) (z : Tok) (x : Value) (n : Nat), v = .ref a ∧ h.get? a = some o ∧ o.cls = .type "tuple" ∧ o.data = .seq #[.int k.1 t, .int k.2 u, .int q z, x] n
theorem G4.keeps {h h' : Heap} {v : Value} {k : Int × Int} (x : G4 h v k) (kp : ∀ b o, h.get? b = some o → o.cls = .type "tuple" → h'.get? b = some o) : G4 h' v k := by
  obtain ⟨a, o, t, u, q, z, y, n, e, ho, hc, hd⟩ := x
  exact ⟨a, o, t, u, q, z, y, n, e, kp _ _ ho hc, hc, hd⟩
theorem g4_firsts {h : Heap} {k : Value → Int × Int} : ∀ vs : List Value, (∀ v ∈ vs, G4 h v (k v)) → ∃ fs, PySem.W.KatTups h vs fs ∧ fs.length = vs.length ∧ ∀ f, f ∈ fs → ∃ n t, f = Value.int n t
  | [], _ => ⟨[], PySem.W.KatTups.nil, rfl, fun f hf => by simp at hf⟩
  | v :: vs, x => by
    obtain ⟨fs, kt, hl, hi⟩ := g4_firsts vs fun u hu => x u (List.mem_cons_of_mem _ hu)
    obtain ⟨a, o, t, u, q, z, y, n, e, ho, hc, hd⟩ := x v (List.mem_cons_self ..)
    subst e
    refine ⟨.int (k (.ref a)).1 t :: fs, PySem.W.KatTups.cons ho hc hd rfl kt, by simp [hl], fun f hf => ?_⟩
    rcases List.mem_cons.mp hf with rfl | hf
    · exact ⟨_, _, rfl⟩
    · exact hi f hf
/-- a rank of pairs of places below 4 -/
def rk4 (k : Int × Int) : Int := 4 * k.1 + k.2
theorem g4_kind {vs : List Value} {k : Value → Int × Int} (h2 : 2 ≤ vs.length) (x : ∀ v ∈ vs, G4 s.heap v (k v)) (bd : ∀ v ∈ vs, 0 ≤ (k v).1 ∧ (k v).1 < 4 ∧ 0 ≤ (k v).2 ∧ (k v).2 < 4) (inj : ∀ v ∈ vs, ∀ u ∈ vs, k v = k u → v = u) (Q : SortKind → Shared → Prop)
    (h : ∀ κ, Cmp prog w A s κ (pairsOf vs) (fun v => rk4 (k v)) → Q κ s) : wpAny (model prog w) A (keyKind' vs.toArray) Q E s := by
  obtain ⟨fs, kt, hl, hi⟩ := g4_firsts vs x
  refine PySem.W.kat_kind (T := Value.type "int") kt (by omega) (fun f hf => ?_) rfl (h _ ?_)
  · obtain ⟨n, t, rfl⟩ := hi f hf
    exact PySem.W.Looks.of_pure rfl
  · intro p q hp hq Q' E' hQ
    rw [pairsOf_toList] at hp hq
    have mp := (mem_zip_self hp).2
    have mq := (mem_zip_self hq).2
    obtain ⟨p1, p2, p3, p4⟩ := bd _ mp
    obtain ⟨q1, q2, q3, q4⟩ := bd _ mq
    have ij := inj _ mp _ mq
    obtain ⟨a, o, t, u, c, z, y, n, e, ho, hc, hd⟩ := x _ mp
    obtain ⟨a', o', t', u', c', z', y', n', e', ho', hc', hd'⟩ := x _ mq
    have hQ' : Q' (decide (rk4 (k p.1) < rk4 (k q.1))) s := hQ
    unfold rk4 at hQ'
    generalize k p.1 = kp at p1 p2 p3 p4 hQ' hd ij
    generalize k q.1 = kq at q1 q2 q3 q4 hQ' hd' ij
    rw [e, e'] at ij
    rw [e, e']
    refine PySem.W.kat_lt ho hd ho' hd' ?_
    show PySem.W.KatLex prog w A _ (decide (4 < 4)) _ [(.int kp.1 t, .int kq.1 t'), (.int kp.2 u, .int kq.2 u'), (.int c z, .int c' z'), (y, y')] 0 s
    refine PySem.W.kat_cons (wpAny_eqBool_int ?_)
    refine PySem.W.kat_go (fun e1 => ?_) (fun e1 => ?_)
    · have ex : kp.1 = kq.1 := by simpa using e1
      refine PySem.W.kat_yes (PySem.W.kat_cons (wpAny_eqBool_int ?_))
      refine PySem.W.kat_go (fun e2 => ?_) (fun e2 => ?_)
      · have ey : kp.2 = kq.2 := by simpa using e2
        have same : Value.ref a = Value.ref a' := ij (Prod.ext ex ey)
        cases same
        rw [ho] at ho'
        cases ho'
        have E1 : Data.seq #[Value.int kp.1 t, .int kp.2 u, .int c z, y] n = Data.seq #[Value.int kq.1 t', .int kq.2 u', .int c' z', y'] n' := hd.symm.trans hd'
        injection E1 with E2 _
        have E3 := congrArg Array.toList E2
        simp only [List.cons.injEq, Value.int.injEq] at E3
        obtain ⟨_, _, ⟨rfl, rfl⟩, rfl, _⟩ := E3
        have d : decide (4 * kp.1 + kp.2 < 4 * kq.1 + kq.2) = false := decide_eq_false (by omega)
        rw [d] at hQ'
        refine PySem.W.kat_yes (PySem.W.kat_cons (eqBool_same ?_))
        refine PySem.W.kat_yes (PySem.W.kat_cons (eqBool_same ?_))
        exact PySem.W.kat_yes (PySem.W.kat_nil hQ')
      · have ey : ¬ kp.2 = kq.2 := by simpa using e2
        have d : decide (4 * kp.1 + kp.2 < 4 * kq.1 + kq.2) = decide (kp.2 < kq.2) := decide_eq_decide.mpr (by omega)
        rw [d] at hQ'
        exact PySem.W.kat_no (oneLt_ints _ hQ')
    · have ex : ¬ kp.1 = kq.1 := by simpa using e1
      have d : decide (4 * kp.1 + kp.2 < 4 * kq.1 + kq.2) = decide (kp.1 < kq.1) := decide_eq_decide.mpr (by omega)
      rw [d] at hQ'
      exact PySem.W.kat_no (oneLt_ints _ hQ')
end
end TS
namespace Wb
open PySem PySem.Spec PyProof.Rows L2
/-- sorted(xs), xs a list of gaps' tuples, no two of which lead from and to the same places -/
def rSortG (K : PySem.W.Frag) : List V → Hp → VK → Prop := fun vs H Q => ∃ (a : Addr) (xs : List V) (k : V → Int × Int), vs = [V.ref a] ∧ SqL K H a xs ∧ xs.length < 64 ∧
  (∀ x ∈ xs, ∃ (t : Addr) (q : Int) (y : V), x = .ref t ∧ SqT K H t [.int (k x).1, .int (k x).2, .int q, y] ∧ 0 ≤ (k x).1 ∧ (k x).1 < 4 ∧ 0 ≤ (k x).2 ∧ (k x).2 < 4) ∧ (∀ x ∈ xs, ∀ y ∈ xs, k x = k y → x = y) ∧
  ∀ (ys : List V) (p : Addr), ys.Perm xs → ys.Pairwise (fun x y => TS.rk4 (k x) ≤ TS.rk4 (k y)) → H p = none → Q (.ref p) (upd H p (.lst ys))
theorem bkV_back {us : List Value} (h : ∀ u ∈ us, ∃ a, u = Value.ref a) : ∀ u ∈ us, ∀ v ∈ us, bkV u = bkV v → u = v := fun u hu v hv e => by
  obtain ⟨a, rfl⟩ := h u hu
  obtain ⟨b, rfl⟩ := h v hv
  have e' : V.ref a = V.ref b := e
  cases e'
  rfl
theorem cr_sortG {X : Cx} : CallR X (.builtin "sorted") (rSortG X.K) := by
  intro pins s σ H vs us Q I r h
  obtain ⟨a, xs, k, rfl, hs, h64, hx, inj, q⟩ := h
  obtain ⟨its, rv, hl, hz⟩ := I.list hs
  rw [Vals.ref1 r]
  obtain ⟨e1, e2⟩ := bkV_refs rv fun x m => by
    obtain ⟨t, _, _, e, _⟩ := hx x m
    exact ⟨t, e⟩
  have mem : ∀ v ∈ its, bkV v ∈ xs := fun v hv => by rw [e1]; exact List.mem_map.mpr ⟨_, hv, rfl⟩
  have g4 : ∀ v ∈ its, TS.G4 s.heap v (k (bkV v)) := fun v hv => by
    have hm := mem v hv
    obtain ⟨t, rfl⟩ := e2 v hv
    obtain ⟨t', c, y, e, ht, _⟩ := hx _ hm
    cases e
    obtain ⟨its2, r2, ⟨o, ho, hc, n, hd⟩, _⟩ := I.tuple ht
    cases r2 with
    | cons ra r2 =>
      cases r2 with
      | cons rb r2 =>
        cases r2 with
        | cons rc r2 =>
          cases r2 with
          | cons rd r2 =>
            cases r2
            obtain ⟨t1, rfl⟩ := ra
            obtain ⟨t2, rfl⟩ := rb
            obtain ⟨t3, rfl⟩ := rc
            exact ⟨_, o, t1, t2, c, t3, _, n, rfl, ho, hc, hd⟩
  refine TS.sorted_rank (r := fun v => TS.rk4 (k (bkV v))) hl.isList (by rw [← rv.length]; exact h64) (fun h' kp h2 A' E' Q' hQ => ?_) fun out h1 h2 => ?_
  · refine TS.g4_kind (s := { s with heap := h' }) (k := fun v => k (bkV v)) h2 (fun v hv => (g4 v hv).keeps kp) (fun v hv => ?_) (fun v hv u hu e => ?_) Q' hQ
    · obtain ⟨_, _, _, _, _, b⟩ := hx _ (mem v hv)
      exact b
    · exact bkV_back e2 v hv u hu (inj _ (mem v hv) _ (mem u hu) e)
  · obtain ⟨ep, he'⟩ := PyProof.Rows.sortedAll_at s.heap its out
    have h3 : ∀ u ∈ out.toList, ∃ a, u = Value.ref a := fun u hu => e2 u (h1.mem_iff.mp hu)
    have hp : (out.toList.map bkV).Perm xs := by
      rw [e1]
      exact h1.map bkV
    have hlen : (out.toList.map bkV).length ≤ sizeLine := by
      rw [hp.length_eq]
      exact hz
    refine ⟨.ref _, upd H (s.heap.objs.size + 1) (.lst (out.toList.map bkV)), I.laid (t' := s.toks) (fun _ _ => PyProof.Rows.sortedAll_old) (Nat.le_succ _) ⟨hlen, out.toList, ep, bkV_vals h3, he'⟩, rfl, q _ _ hp ?_ (I.hok.fresh (Nat.le_succ _))⟩
    rw [List.pairwise_map]
    exact h2
/-- sorted(xs), xs a list of unlike words of as many places each -/
def rSortW (K : PySem.W.Frag) : List V → Hp → VK → Prop := fun vs H Q => ∃ (a : Addr) (xs : List V) (ws : List (List Int)) (d : Nat), vs = [V.ref a] ∧ SqL K H a xs ∧ xs.length < 64 ∧ Paired (fun v ns => ∃ t, v = V.ref t ∧ H t = some (.tup (ns.map V.int))) xs ws ∧ (∀ ns ∈ ws, ns.length = d ∧ TS.Bd 4 ns) ∧ ws.Nodup ∧
  ∀ (ys : List V) (us : List (List Int)) (p : Addr), ys.length = xs.length → Paired (fun v ns => ∃ t, v = V.ref t ∧ H t = some (.tup (ns.map V.int))) ys us → us.Perm ws → us.Pairwise (fun u v => TS.code 4 u ≤ TS.code 4 v) → H p = none → Q (.ref p) (upd H p (.lst ys))
theorem cr_sortW {X : Cx} : CallR X (.builtin "sorted") (rSortW X.K) := by
  intro pins s σ H vs us Q I r h
  obtain ⟨a, xs, ws, d, rfl, hs, h64, hp, hb, nd, q⟩ := h
  obtain ⟨its, rv, hl, hz⟩ := I.list hs
  rw [Vals.ref1 r]
  have raw : ∀ {t : Addr} {ns : List Int}, H t = some (.tup (ns.map V.int)) → TS.TupInts s.heap (.ref t) ns := fun ht => tupI_raw I (show SqT X.K H _ _ from .inl (.inl ht))
  have pr : ∀ {xs : List V} {us : List Value} {ws : List (List Int)}, Vals xs us → Paired (fun v ns => ∃ t, v = V.ref t ∧ H t = some (.tup (ns.map V.int))) xs ws →
      us.map (TS.intsOf s.heap) = ws ∧ ∀ u ∈ us, ∃ t ns, u = Value.ref t ∧ H t = some (.tup (ns.map V.int)) ∧ TS.intsOf s.heap u = ns ∧ ns ∈ ws := by
    intro xs us ws rv
    induction rv generalizing ws with
    | nil =>
      intro hp
      cases hp
      exact ⟨rfl, fun u hu => absurd hu List.not_mem_nil⟩
    | cons r1 _ ih =>
      intro hp
      cases hp with
      | cons h1 h2 =>
        obtain ⟨t, rfl, ht⟩ := h1
        cases r1
        obtain ⟨i1, i2⟩ := ih h2
        have e := (raw ht).ints
        refine ⟨by rw [List.map_cons, i1, e], fun u hu => ?_⟩
        rcases List.mem_cons.mp hu with rfl | hu
        · exact ⟨t, _, rfl, ht, e, List.mem_cons_self⟩
        · obtain ⟨t', ns, a1, a2, a3, a4⟩ := i2 u hu
          exact ⟨t', ns, a1, a2, a3, List.mem_cons_of_mem _ a4⟩
  obtain ⟨e1, e2⟩ := pr rv hp
  have xsl : its.length = ws.length := by rw [← e1, List.length_map]
  have xw : xs.length = its.length := rv.length
  have ok : TS.TupsOk s.heap d 4 its := fun v hv => by
    obtain ⟨t, ns, rfl, ht, e, hm⟩ := e2 v hv
    exact ⟨ns, raw ht, hb ns hm⟩
  refine TS.sorted_rank (r := fun v => TS.code 4 (TS.intsOf s.heap v)) hl.isList (by omega) (fun h' kp h2 A' E' Q' hQ => ?_) fun out h1 h2 => ?_
  · have d1 : 1 ≤ d := Nat.pos_of_ne_zero fun z => by
      subst z
      have emp : ∀ ns ∈ ws, ns = [] := fun ns hn => List.eq_nil_of_length_eq_zero (hb ns hn).1
      match ws, xsl, nd, emp with
      | [], l, _, _ => rw [l] at h2; simp at h2
      | [_], l, _, _ => rw [l] at h2; simp at h2
      | x :: y :: r, _, n, em =>
        have zx := em x (by simp)
        have zy := em y (by simp)
        rw [zx, zy] at n
        simp at n
    refine TS.kind_tups (s := { s with heap := h' }) d1 h2 (ok.keeps kp) _ (fun v hv ns t => ?_) Q' hQ
    obtain ⟨ns0, t0, _⟩ := ok v hv
    have e : ns = ns0 := t.ints.symm.trans (t0.keeps kp).ints
    rw [e, t0.ints]
  · obtain ⟨ep, he'⟩ := PyProof.Rows.sortedAll_at s.heap its out
    have h3 : ∀ u ∈ out.toList, ∃ a, u = Value.ref a := fun u hu => by
      obtain ⟨t, _, rfl, _⟩ := e2 u (h1.mem_iff.mp hu)
      exact ⟨t, rfl⟩
    have ol : out.toList.length = its.length := h1.length_eq
    refine ⟨.ref _, upd H (s.heap.objs.size + 1) (.lst (out.toList.map bkV)), I.laid (t' := s.toks) (fun _ _ => PyProof.Rows.sortedAll_old) (Nat.le_succ _) ⟨by rw [List.length_map, ol, ← xw]; exact hz, out.toList, ep, bkV_vals h3, he'⟩, rfl, q _ (out.toList.map (TS.intsOf s.heap)) _ (by rw [List.length_map, ol, xw]) ?_ ?_ ?_ (I.hok.fresh (Nat.le_succ _))⟩
    · have go : ∀ us : List Value, (∀ u ∈ us, u ∈ its) → Paired (fun v ns => ∃ t, v = V.ref t ∧ H t = some (.tup (ns.map V.int))) (us.map bkV) (us.map (TS.intsOf s.heap)) := by
        intro us
        induction us with
        | nil => intro _; exact .nil
        | cons u us ih =>
          intro hu
          obtain ⟨t, ns, rfl, ht, e, _⟩ := e2 u (hu u List.mem_cons_self)
          exact .cons ⟨t, rfl, by rw [e]; exact ht⟩ (ih fun v hv => hu v (List.mem_cons_of_mem _ hv))
      exact go _ fun u hu => h1.mem_iff.mp hu
    · rw [← e1]
      exact h1.map _
    · rw [List.pairwise_map]
      exact h2
end Wb

set_option Elab.async false
set_option linter.all false
set_option maxRecDepth 100000
set_option maxHeartbeats 4000000
set_option pp.maxSteps 600
set_option pp.deepTerms false
namespace Wb
open PySem PySem.Spec PyProof.Rows L2
theorem inAll_nil : InAll [] [] := ⟨rfl, fun i n m h => by simp at h⟩
theorem inAll_snoc {xs ms : List Int} {x m : Int} (h : InAll xs ms) (h0 : 0 ≤ x) (h1 : x < m) : InAll (xs ++ [x]) (ms ++ [m]) := by
  refine ⟨by rw [List.length_append, List.length_append, h.1]; rfl, fun i a b ha hb => ?_⟩
  by_cases hi : i < xs.length
  · rw [List.getElem?_append_left hi] at ha
    rw [List.getElem?_append_left (by rw [← h.1]; exact hi)] at hb
    exact h.2 i a b ha hb
  · rw [List.getElem?_append_right (by omega)] at ha
    rw [List.getElem?_append_right (by rw [← h.1]; omega)] at hb
    by_cases e : i - xs.length = 0
    · rw [e] at ha
      rw [← h.1, e] at hb
      cases ha
      cases hb
      exact ⟨h0, h1⟩
    · rw [List.getElem?_eq_none (by simp; omega)] at ha
      cases ha
theorem inAll_take {xs ms : List Int} (h : InAll xs ms) (k : Nat) : InAll (xs.take k) (ms.take k) := by
  refine ⟨by rw [List.length_take, List.length_take, h.1], fun i a b ha hb => ?_⟩
  rw [List.getElem?_take] at ha hb
  split at ha
  · rename_i hk
    rw [if_pos hk] at hb
    exact h.2 i a b ha hb
  · cases ha
/-- [draw(pen, one) for one in a list of ints] -/
theorem lc_draws {K : PySem.W.Frag} {vs : List Nat} {i : Nat} {σ : L2.St} {H : Hp} {Q : VK} {tl : TE} {wds : List Int} {p c : Addr} {T : Int} (hp : PenAt H p c T)
    (ha : ∀ Q' : VK, (∀ a H1, Exx p H H1 → PenAt H1 p c T → SqL K H1 a (wds.map V.int) → a ≠ p → Q' (.ref a) H1) → tl σ H Q')
    (hT : T ≤ 9000000) (hw : ∀ x ∈ wds, 1 ≤ x ∧ x ≤ 1000000) (hl : wds.length ≤ 100)
    (h0 : ∀ x, ((wipe σ vs).set i (some x))[0]? = some (some (.ref p))) (hi : ∀ x, ((wipe σ vs).set i (some x))[i]? = some (some x)) (hwp : ∀ x, wipe ((wipe σ vs).set i (some x)) vs = wipe σ vs)
    (q : ∀ H' D xs, Exx p H H' → PenAt H' p c (T + (wds.length : Nat)) → H D = none → H' D = some (.lst (xs.map V.int)) → InAll xs wds → Q (.ref D) H') :
    tLc (iList K tl) (gName i) tYes (tCall spDraw [] E0 (tCons (tVar 0) (tCons (tVar i) tNil))) vs σ H Q := by
  refine ha _ fun a H1 x1 hp1 ha1 nap => ⟨a, rfl, ⟨_, ha1⟩, fun D hD => ?_⟩
  have nDp : D ≠ p := hp1.new1 hD
  have nDc : D ≠ c := hp1.new2 hD
  refine lc_list (K := K) (a := a) (xs := wds.map V.int) (fun m H' => ∃ xs : List Int, Exx p H1 H' ∧ PenAt H' p c (T + (m : Nat)) ∧ H' D = some (.lst (xs.map V.int)) ∧ InAll xs (wds.take m)) ⟨[], Exx.ex (Evl.Ex.new hD), ?_, upd_same, inAll_nil⟩ ?_ ?_ ?_
  · have := hp1.put (o := .lst []) nDp nDc
    simpa using this
  · rintro m H' _ ⟨_, x, _⟩
    exact x.l nap ha1
  · rintro m x H2 hm ⟨xs, x2, hp2, hD2, hin⟩
    obtain ⟨wd, hwd, rfl⟩ := get_map_int hm
    have ml : m < wds.length := (List.getElem?_eq_some_iff.mp hwd).1
    obtain ⟨w1, w2⟩ := hw wd (List.mem_of_getElem? hwd)
    refine ⟨hwp _, ?_⟩
    refine ⟨.ref p, h0 _, .int wd, hi _, p, c, wd, _, rfl, hp2, w1, w2, by omega, fun r H3 r0 r1 x3 hp3 => ?_⟩
    have hD3 := x3 _ _ nDp hD2
    have xl : xs.length = m := by
      have := hin.1
      rw [List.length_take] at this
      omega
    refine ⟨_, hD3, Nat.lt_of_le_of_lt (by rw [List.length_map, xl]; omega : (xs.map V.int).length ≤ 100) (by decide), xs ++ [r], (x2.trans x3).mut hD, (hp3.put nDp nDc).mono (by omega), ?_, ?_⟩
    · rw [upd_same, List.map_append]
      rfl
    · rw [take_succ_get hwd]
      exact inAll_snoc hin r0 r1
  · rintro H2 ⟨xs, x2, hp2, hD2, hin⟩
    rw [List.length_map] at hp2 hin
    rw [List.take_length] at hin
    exact q H2 D xs (x1.trans x2) hp2 (fresh_exx x1 hp1.here hD) hD2 hin
def rTupK (K : PySem.W.Frag) : List V → Hp → VK → Prop := fun xs H Q => ∃ p ys, xs = [.ref p] ∧ ((SqL K H p ys ∧ ∀ l, H l = none → Q (.ref l) (upd H l (.tup ys))) ∨ (SqT K H p ys ∧ Q (.ref p) H))
theorem call_tupK {X : Cx} : CallR X (.type "tuple") (rTupK X.K) := call_tuple_of
/-! ### codes and the tuples' order -/
theorem lex_of_code {B : Int} : ∀ {u w : List Int}, u.length = w.length → TS.Bd B u → TS.Bd B w → TS.code B u ≤ TS.code B w → u ≠ w → HT.lexLt u w = true
  | [], [], _, _, _, _, ne => absurd rfl ne
  | x :: u, y :: w, hl, hu, hw, hc, ne => by
    have hl' : u.length = w.length := by simpa using hl
    have hu' : TS.Bd B u := fun m hm => hu m (List.mem_cons_of_mem _ hm)
    have hw' : TS.Bd B w := fun m hm => hw m (List.mem_cons_of_mem _ hm)
    rw [HT.lexLt_cons]
    by_cases e : x = y
    · subst e
      rw [if_pos rfl]
      refine lex_of_code hl' hu' hw' ?_ (fun z => ne (by rw [z]))
      apply Int.not_lt.mp
      intro z
      have := (TS.code_same (d := x) hl'.symm).mpr z
      omega
    · rw [if_neg e]
      apply decide_eq_true
      apply Int.not_le.mp
      intro z
      have := TS.code_lt hl'.symm hw' hu' (show y < x by omega)
      omega
  | [], _ :: _, hl, _, _, _, _ => by simp at hl
  | _ :: _, [], hl, _, _, _, _ => by simp at hl
theorem nodup_le {α : Type} [DecidableEq α] : ∀ {xs ys : List α}, xs.Nodup → (∀ x ∈ xs, x ∈ ys) → xs.length ≤ ys.length
  | [], _, _, _ => Nat.zero_le _
  | x :: xs, ys, hn, h => by
    rw [List.nodup_cons] at hn
    have hx : x ∈ ys := h x List.mem_cons_self
    have ih := nodup_le (xs := xs) (ys := ys.erase x) hn.2 (fun y hy => (List.mem_erase_of_ne (fun (e : y = x) => hn.1 (by rw [← e]; exact hy))).mpr (h y (List.mem_cons_of_mem _ hy)))
    rw [List.length_erase_of_mem hx] at ih
    have := List.length_pos_of_mem hx
    rw [List.length_cons]
    omega
theorem le_sum : ∀ {xs : List Nat} {x : Nat}, x ∈ xs → x ≤ xs.sum
  | y :: xs, x, h => by
    rw [List.sum_cons]
    rcases List.mem_cons.mp h with rfl | h
    · exact Nat.le_add_right _ _
    · have := le_sum h
      omega
theorem keys_of {K : PySem.W.Frag} {H : Hp} : ∀ {vs : List V} {ws : List Word}, Paired (Wd K H) vs ws → ∃ ks : List (Addr × List Int), vs = ks.map (fun p => V.ref p.1) ∧ ks.map (·.2) = ws ∧ ∀ p ∈ ks, H p.1 = some (.tup (p.2.map V.int))
  | [], [], _ => ⟨[], rfl, rfl, fun p hp => (by cases hp)⟩
  | v :: vs, w :: ws, h => by
    cases h with
    | cons r t =>
      obtain ⟨ks, h1, h2, h3⟩ := keys_of t
      obtain ⟨a, rfl, ha⟩ := r
      refine ⟨(a, w) :: ks, by rw [h1]; rfl, by rw [← h2]; rfl, fun p hp => ?_⟩
      rcases List.mem_cons.mp hp with rfl | hp
      · exact ha
      · exact h3 p hp
theorem rows_of_keys {K : PySem.W.Frag} {H : Hp} : ∀ {ks : List (Addr × List Int)}, (∀ p ∈ ks, H p.1 = some (.tup (p.2.map V.int))) → Paired (Wd K H) (ks.map (fun p => V.ref p.1)) (ks.map (·.2))
  | [], _ => .nil
  | k :: ks, h => .cons ⟨k.1, rfl, h k List.mem_cons_self⟩ (rows_of_keys fun p hp => h p (List.mem_cons_of_mem _ hp))
theorem take_map_succ {bases : List Word} {m : Nat} {b : Word} (k : Nat) (h : bases[m]? = some b) : (bases.take (m + 1)).map (fun u => u.take k) = (bases.take m).map (fun u => u.take k) ++ [b.take k] := by
  rw [take_succ_get h, List.map_append]
  rfl
theorem tcb1 {r : List V → Hp → VK → Prop} {X : TE} {σ : L2.St} {H : Hp} {Q : VK} (h : X σ H (fun x H1 => r [x] H1 Q)) : tCB r (tCons X tNil) σ H Q := h
theorem tcons1 {X : TE} {σ : L2.St} {H : Hp} {Q : List V → Hp → Prop} (h : X σ H (fun x H1 => Q [x] H1)) : tCons X tNil σ H Q := h
theorem tyes1 {σ : L2.St} {H : Hp} {E F : Hp → Prop} (h : E H) : tYes σ H (fun b H3 => if b = true then E H3 else F H3) := h
end Wb

set_option Elab.async false
set_option linter.all false
set_option maxRecDepth 100000
set_option maxHeartbeats 4000000
set_option pp.maxSteps 600
set_option pp.deepTerms false
namespace Wb
open PySem PySem.Spec PyProof.Rows L2
/-! ### data that is small: it can be compared and written -/
structure Fine (d : PyData) (n L : Nat) : Prop where
  lay : d.canLay0 = true
  sho : d.showable = true
  dep : d.depth ≤ n
  len : d.shown.length ≤ L
structure FineAll (ds : List PyData) (n S : Nat) : Prop where
  lay : PyData.canLayAll0 ds = true
  sho : PyData.showableAll ds = true
  dep : PyData.depthAll ds ≤ n
  len : piled (PyData.shownAll ds) ≤ S
theorem FineAll.nil {n : Nat} : FineAll [] n 0 := ⟨rfl, rfl, Nat.zero_le _, Nat.le_refl _⟩
theorem FineAll.cons {d : PyData} {ds : List PyData} {n L S : Nat} (h : Fine d n L) (t : FineAll ds n S) : FineAll (d :: ds) n (L + 2 + S) := by
  obtain ⟨a1, a2, a3, a4⟩ := h
  obtain ⟨b1, b2, b3, b4⟩ := t
  refine ⟨by simp [PyData.canLayAll0, a1, b1], by simp [PyData.showableAll, a2, b2], by simp only [PyData.depthAll]; omega, ?_⟩
  simp only [PyData.shownAll, piled_cons]
  omega
theorem FineAll.rep {n B : Nat} : ∀ {ds : List PyData}, (∀ d ∈ ds, Fine d n B) → FineAll ds n (ds.length * (B + 2))
  | [], _ => by simpa using FineAll.nil
  | d :: ds, h => by
    have := FineAll.cons (h d List.mem_cons_self) (FineAll.rep fun d' hd => h d' (List.mem_cons_of_mem _ hd))
    rw [List.length_cons, Nat.succ_mul, Nat.add_comm]
    exact this
theorem FineAll.mono {ds : List PyData} {n S S' : Nat} (h : FineAll ds n S) (l : S ≤ S') : FineAll ds n S' := ⟨h.1, h.2, h.3, Nat.le_trans h.4 l⟩
theorem Fine.mono {d : PyData} {n n' L L' : Nat} (h : Fine d n L) (a : n ≤ n') (b : L ≤ L') : Fine d n' L' := ⟨h.1, h.2, Nat.le_trans h.3 a, Nat.le_trans h.4 b⟩
theorem join_le (ts : List Str) : (Str.join ", " ts).length ≤ piled ts := by
  cases ts with
  | nil => exact Nat.zero_le _
  | cons t ts =>
    have := join_length_add (t :: ts) (by simp)
    omega
theorem textFrom_le : ∀ (ts : List Str) (k : Nat) (acc : Str), (textFrom k acc ts).length ≤ acc.length + piled ts
  | [], k, acc => by show acc.length ≤ _; omega
  | t :: ts, k, acc => by
    have h := textFrom_le ts (k + 1) (acc ++ (if k > 0 then ", " else "" : String) ++ t)
    have e : (acc ++ (if k > 0 then ", " else "" : String) ++ t).length = acc.length + (if k > 0 then 2 else 0) + t.length := by
      rw [strLen_append, strLen_append]
      split <;> rfl
    have e2 : (if k > 0 then 2 else 0 : Nat) ≤ 2 := by split <;> omega
    rw [piled_cons]
    show (textFrom (k + 1) _ ts).length ≤ _
    omega
theorem fine_tup {ds : List PyData} {n S : Nat} (h : FineAll ds n S) : Fine (.tuple ds) (n + 1) (S + 3) := by
  obtain ⟨b1, b2, b3, b4⟩ := h
  refine ⟨by simpa only [PyData.canLay0] using b1, by simpa only [PyData.showable] using b2, by simp only [PyData.depth]; omega, ?_⟩
  simp only [PyData.shown]
  unfold tupleText
  rw [strLen_append, strLen_append]
  have e1 : ((("(" : String) : Str)).length = 1 := rfl
  have e3 : (((if (PyData.shownAll ds).length == 1 then ",)" else ")" : String) : Str)).length ≤ 2 := by split <;> decide
  have := join_le (PyData.shownAll ds)
  omega
theorem fine_lst {ds : List PyData} {n S : Nat} (h : FineAll ds n S) : Fine (.list ds) (n + 1) (S + 3) := by
  obtain ⟨b1, b2, b3, b4⟩ := h
  refine ⟨by simpa only [PyData.canLay0] using b1, by simpa only [PyData.showable] using b2, by simp only [PyData.depth]; omega, ?_⟩
  simp only [PyData.shown]
  unfold listText
  rw [strLen_append]
  have e1 : ((("]" : String) : Str)).length = 1 := rfl
  have e2 : ((("[" : String) : Str)).length = 1 := rfl
  have := textFrom_le (PyData.shownAll ds) 0 "["
  omega
theorem fine_int {i : Int} (h : i.natAbs < 10 ^ 7) : Fine (.int i) 0 8 := by
  refine ⟨by simp only [PyData.canLay0], ?_, by simp only [PyData.depth]; omega, ?_⟩
  · simp only [PyData.showable]
    refine decide_eq_true ?_
    by_cases z : i.natAbs = 0
    · rw [z]; decide
    · refine (Nat.log2_lt z).mpr (Nat.lt_of_lt_of_le h ?_)
      exact Nat.le_trans (show 10 ^ 7 ≤ 2 ^ 24 by decide) (Nat.pow_le_pow_right (by decide) (by decide))
  · simp only [PyData.shown]
    rw [PySem.ofString_length]
    exact int_text_length_le10 (k := 7) (by decide) h
theorem Fine.shaped {d : PyData} {n L : Nat} (h : Fine d n L) (hn : n ≤ 64) : SeqAt.shaped d = true := by
  unfold SeqAt.shaped
  rw [h.lay, Bool.true_and]
  exact decide_eq_true (Nat.le_trans h.dep hn)
/-! ### words, gaps, bolts, locks, steps as data -/
def dW (w : Word) : PyData := .tuple (w.map .int)
def dWs (ws : List Word) : PyData := .tuple (ws.map dW)
def dG (g : Gap) : PyData := .tuple [.int g.frm, .int g.to_, .int g.price, dWs g.ways]
def dGs (gs : List Gap) : PyData := .tuple (gs.map dG)
def dB (b : Bolt) : PyData := .tuple [.int b.many, dGs b.gaps]
def dL (l : Lock) : PyData := .tuple (l.map dB)
def dT (t : Tr3) : PyData := .tuple [.int t.frm, .int t.to_, .int t.price]
section
variable {K : PySem.W.Frag} {H : Hp}
theorem dp_all {α : Type} {F : V → α → Prop} {f : α → PyData} (h : ∀ v x, F v x → Dp K H v (f x)) : ∀ {vs : List V} {xs : List α}, Paired F vs xs → DpAll K H vs (xs.map f)
  | _, _, .nil => .nil
  | _, _, .cons r t => .cons (h _ _ r) (dp_all h t)
theorem dp_W {v : V} {u : Word} (h : Wd K H v u) : Dp K H v (dW u) := by
  obtain ⟨a, rfl, ha⟩ := h
  exact .tup (.inl (.inl ha)) (dp_ints u)
theorem dp_G {v : V} {g : Gap} (h : GapAt K H v g) : Dp K H v (dG g) := by
  obtain ⟨a, b, ws, rfl, h1, h2, h3⟩ := h
  exact .tup h1 (.cons (.int _) (.cons (.int _) (.cons (.int _) (.cons (.tup h2 (dp_all (F := Wd K H) (f := dW) (fun _ _ => dp_W) h3)) .nil))))
theorem dp_B {v : V} {b : Bolt} (h : BoltAt K H v b) : Dp K H v (dB b) := by
  obtain ⟨a, c, gs, rfl, h1, h2, h3⟩ := h
  exact .tup h1 (.cons (.int _) (.cons (.tup h2 (dp_all (F := GapAt K H) (f := dG) (fun _ _ => dp_G) h3)) .nil))
theorem dp_L {v : V} {l : Lock} (h : LockAt K H v l) : Dp K H v (dL l) := by
  obtain ⟨a, bs, rfl, h1, h2⟩ := h
  exact .tup h1 (dp_all (F := BoltAt K H) (f := dB) (fun _ _ => dp_B) h2)
theorem dp_T {v : V} {t : Tr3} (h : TrAt H v t) : Dp K H v (dT t) := by
  obtain ⟨a, rfl, ha⟩ := h
  exact .tup (.inl (.inl ha)) (.cons (.int _) (.cons (.int _) (.cons (.int _) .nil)))
end
theorem fine_W {u : Word} {B : Int} {n : Nat} (hb : ∀ x ∈ u, 0 ≤ x ∧ x < B) (hB : B ≤ 10) (hn : u.length ≤ n) : Fine (dW u) 1 (10 * n + 3) := by
  have h : FineAll (u.map PyData.int) 0 ((u.map PyData.int).length * (8 + 2)) := FineAll.rep fun d hd => by
    obtain ⟨x, hx, rfl⟩ := List.mem_map.mp hd
    have := hb x hx
    have h10 : x.natAbs < 10 := by omega
    exact fine_int (Nat.lt_trans h10 (by decide))
  refine (fine_tup h).mono (Nat.le_refl _) ?_
  rw [List.length_map]
  omega
theorem fine_small {x : Int} (h0 : 0 ≤ x) (h1 : x ≤ 1000000) : Fine (.int x) 0 8 := fine_int (by
  have h : x.natAbs ≤ 1000000 := by omega
  exact Nat.lt_of_le_of_lt h (by decide))
theorem manys_le {l : Lock} (ok : LockOk l) {k : Nat} {b : Bolt} (h : l[k]? = some b) : b.many ≤ 4 := (ok.bolts k b h).m1
theorem fine_way {l : Lock} (ok : LockOk l) {k : Nat} {b : Bolt} {g : Gap} {u : Word} (hb : l[k]? = some b) (hg : g ∈ b.gaps) (hu : u ∈ g.ways) : Fine (dW u) 1 603 := by
  have G := (ok.bolts k b hb).gaps g hg
  obtain ⟨h1, h2⟩ := G.words u hu
  have kl : k < l.length := (List.getElem?_eq_some_iff.mp hb).1
  have l60 := ok.n1
  have ml : (manysOf (l.take k)).length = k := by
    unfold manysOf
    rw [List.length_map, List.length_take]
    omega
  refine (fine_W (B := 4) (n := 60) (fun x hx => ?_) (by decide) (by omega)).mono (Nat.le_refl _) (Nat.le_refl _)
  obtain ⟨i, hi⟩ := List.mem_iff_getElem?.mp hx
  have il : i < u.length := (List.getElem?_eq_some_iff.mp hi).1
  have il2 : i < l.length := by omega
  have hm : (manysOf (l.take k))[i]? = some l[i].many := by
    unfold manysOf
    rw [List.getElem?_map, List.getElem?_take, if_pos (by omega), List.getElem?_eq_getElem il2]
    rfl
  have := h2 i x _ hi hm
  have := manys_le ok (List.getElem?_eq_getElem il2)
  omega
theorem fine_G {l : Lock} (ok : LockOk l) {k : Nat} {b : Bolt} {g : Gap} (hb : l[k]? = some b) (hg : g ∈ b.gaps) : Fine (dG g) 3 5000 := by
  have BO := ok.bolts k b hb
  have G := BO.gaps g hg
  have m1 := BO.m1
  have h1 : FineAll (g.ways.map dW) 1 ((g.ways.map dW).length * (603 + 2)) := FineAll.rep fun d hd => by
    obtain ⟨u, hu, rfl⟩ := List.mem_map.mp hd
    exact fine_way ok hb hg hu
  have h2 := fine_tup h1
  have f8 := G.few
  rw [List.length_map] at h2
  have a1 := fine_small G.f0 (show g.frm ≤ 1000000 by have := G.f1; omega)
  have a2 := fine_small G.t0 (show g.to_ ≤ 1000000 by have := G.t1; omega)
  have a3 := fine_small (show 0 ≤ g.price by have := G.p0; omega) G.p1
  have w2 := a1.mono (Nat.zero_le 2) (Nat.le_refl 8)
  refine (fine_tup (FineAll.cons (a1.mono (Nat.zero_le 2) (Nat.le_refl 8)) (FineAll.cons (a2.mono (Nat.zero_le 2) (Nat.le_refl 8)) (FineAll.cons (a3.mono (Nat.zero_le 2) (Nat.le_refl 8)) (FineAll.cons (h2 : Fine (dWs g.ways) 2 _) FineAll.nil))))).mono (Nat.le_refl _) ?_
  omega
theorem codes_len {gs : List Gap} {m : Int} (hm : m ≤ 4) (h : ∀ g ∈ gs, 0 ≤ g.frm ∧ g.frm < m ∧ 0 ≤ g.to_ ∧ g.to_ < m) (r : gs.Pairwise (fun g h => lexLt2 g.frm g.to_ h.frm h.to_)) : gs.length ≤ 16 := by
  have n1 : (gs.map fun g => (4 * g.frm + g.to_).toNat).Nodup := by
    rw [List.Nodup, List.pairwise_map]
    refine List.Pairwise.imp_of_mem ?_ r
    intro g g' hg hg' hl
    have b1 := h g hg
    have b2 := h g' hg'
    rcases hl with hl | ⟨hl, hl'⟩ <;> omega
  have := nodup_le (ys := List.range 16) n1 fun x hx => by
    obtain ⟨g, hg, rfl⟩ := List.mem_map.mp hx
    have b1 := h g hg
    rw [List.mem_range]
    omega
  rw [List.length_map, List.length_range] at this
  exact this
theorem gaps_16 {l : Lock} (ok : LockOk l) {k : Nat} {b : Bolt} (hb : l[k]? = some b) : b.gaps.length ≤ 16 := by
  have BO := ok.bolts k b hb
  exact codes_len BO.m1 (fun g hg => by
    have G := BO.gaps g hg
    exact ⟨G.f0, G.f1, G.t0, G.t1⟩) BO.rise
theorem fine_B {l : Lock} (ok : LockOk l) {k : Nat} {b : Bolt} (hb : l[k]? = some b) : Fine (dB b) 5 81000 := by
  have BO := ok.bolts k b hb
  have h1 : FineAll (b.gaps.map dG) 3 ((b.gaps.map dG).length * (5000 + 2)) := FineAll.rep fun d hd => by
    obtain ⟨g, hg, rfl⟩ := List.mem_map.mp hd
    exact fine_G ok hb hg
  have h2 := fine_tup h1
  have g16 := gaps_16 ok hb
  rw [List.length_map] at h2
  have a1 := fine_small (show 0 ≤ b.many by have := BO.m0; omega) (show b.many ≤ 1000000 by have := BO.m1; omega)
  refine (fine_tup (FineAll.cons (a1.mono (Nat.zero_le 4) (Nat.le_refl 8)) (FineAll.cons (h2 : Fine (dGs b.gaps) 4 _) FineAll.nil))).mono (Nat.le_refl _) ?_
  omega
theorem fine_L {l : Lock} (ok : LockOk l) : Fine (dL l) 6 5000000 := by
  have h1 : FineAll (l.map dB) 5 ((l.map dB).length * (81000 + 2)) := FineAll.rep fun d hd => by
    obtain ⟨b, hb, rfl⟩ := List.mem_map.mp hd
    obtain ⟨k, hk⟩ := List.mem_iff_getElem?.mp hb
    exact fine_B ok hk
  have h2 := fine_tup h1
  have l60 := ok.n1
  rw [List.length_map] at h2
  refine h2.mono (Nat.le_refl _) ?_
  omega
structure TrOk (t : Tr3) : Prop where
  f0 : 0 ≤ t.frm
  f1 : t.frm ≤ 1000000
  t0 : 0 ≤ t.to_
  t1 : t.to_ ≤ 1000000
  p0 : 0 ≤ t.price
  p1 : t.price ≤ 1000000
theorem fine_T {t : Tr3} (h : TrOk t) : Fine (dT t) 1 40 :=
  (fine_tup (FineAll.cons (fine_small h.f0 h.f1) (FineAll.cons (fine_small h.t0 h.t1) (FineAll.cons (fine_small h.p0 h.p1) FineAll.nil)))).mono (Nat.le_refl _) (by decide)
theorem fine_Ts {ts : List Tr3} (h : ∀ t ∈ ts, TrOk t) (n : ts.length ≤ 1000) : Fine (.list (ts.map dT)) 2 50000 := by
  have h1 : FineAll (ts.map dT) 1 ((ts.map dT).length * (40 + 2)) := FineAll.rep fun d hd => by
    obtain ⟨t, ht, rfl⟩ := List.mem_map.mp hd
    exact fine_T (h t ht)
  have h2 := fine_lst h1
  rw [List.length_map] at h2
  refine h2.mono (Nat.le_refl _) ?_
  omega
end Wb

set_option Elab.async false
set_option linter.all false
set_option maxRecDepth 100000
set_option maxHeartbeats 4000000
set_option pp.maxSteps 600
set_option pp.deepTerms false
namespace Wb
open PySem PySem.Spec PyProof.Rows L2
abbrev sShuf : Stmt := topS 39
abbrev sPrc : Stmt := topS 40
abbrev sCuts : Stmt := topS 42
theorem scShuf : FnScope ["_law_pen_here", "_law_bag", "_law_left", "_law_found"] ["_law_pen_here", "_law_bag"] (defScope sShuf) := ⟨rfl, rfl, rfl, by decide +kernel, rfl, by decide +kernel, by decide +kernel⟩
theorem scPrc : FnScope ["_law_pen_here", "_law_dear"] ["_law_pen_here", "_law_dear"] (defScope sPrc) := ⟨rfl, rfl, rfl, by decide +kernel, rfl, by decide +kernel, by decide +kernel⟩
theorem scCuts : FnScope ["_law_words", "_law_many", "_law_found", "_law_word"] ["_law_words", "_law_many"] (defScope sCuts) := ⟨rfl, rfl, rfl, by decide +kernel, rfl, by decide +kernel, by decide +kernel⟩
/-- words of small ints -/
def SmallW (ws : List Word) : Prop := ∀ w ∈ ws, w.length ≤ 60 ∧ ∀ x ∈ w, 0 ≤ x ∧ x < 10
theorem fine_ws {ws : List Word} (h : SmallW ws) (hl : ws.length ≤ 100) : Fine (.list (ws.map dW)) 2 70000 := by
  have : FineAll (ws.map dW) 1 ((ws.map dW).length * (603 + 2)) := FineAll.rep fun d hd => by
    obtain ⟨w, hw, rfl⟩ := List.mem_map.mp hd
    exact fine_W (B := 10) (n := 60) (h w hw).2 (by decide) (h w hw).1
  refine (fine_lst this).mono (by decide) ?_
  rw [List.length_map]
  omega
theorem dp_ws {K : PySem.W.Frag} {H : Hp} {xs : List V} {ws : List Word} (h : Paired (Wd K H) xs ws) : DpAll K H xs (ws.map dW) := dp_all (F := Wd K H) (f := dW) (fun _ _ => dp_W) h
theorem erase_perm {α : Type} : ∀ {xs : List α} {i : Nat} {x : α}, xs[i]? = some x → (x :: xs.eraseIdx i).Perm xs
  | y :: ys, 0, x, h => by
    cases h
    exact List.Perm.refl _
  | y :: ys, i + 1, x, h => by
    have ih := erase_perm (xs := ys) (i := i) (x := x) h
    exact (List.Perm.swap y x _).trans (ih.cons y)
  | [], _, _, h => by cases h
theorem paired_erase {α β : Type} {R : α → β → Prop} : ∀ {xs : List α} {ys : List β} (i : Nat), Paired R xs ys → Paired R (xs.eraseIdx i) (ys.eraseIdx i)
  | _, _, _, .nil => .nil
  | _, _, 0, .cons _ t => t
  | _, _, i + 1, .cons r t => .cons r (paired_erase i t)
def spShuf (K : PySem.W.Frag) : Sp := fun vs H Q _ => ∃ (p c a : Addr) (T : Int) (xs : List V) (ws : List Word), vs = [.ref p, .ref a] ∧ PenAt H p c T ∧ T ≤ 9000000 ∧ SqL K H a xs ∧ Paired (Wd K H) xs ws ∧ SmallW ws ∧ xs.length ≤ 60 ∧
  ∀ H' z ys us, Exx p H H' → PenAt H' p c (T + 60) → H z = none → H' z = some (.lst ys) → Paired (Wd K H') ys us → us.Perm ws → Q (.ref z) H'
def spPrc : Sp := fun vs H Q _ => ∃ (p c : Addr) (dear T : Int), vs = [.ref p, .int dear] ∧ PenAt H p c T ∧ T ≤ 9000000 ∧ 1 ≤ dear ∧ dear ≤ 1000000 ∧ ∀ i H', 1 ≤ i → i ≤ 1000000 → Exx p H H' → PenAt H' p c (T + 3) → Q (.int i) H'
section
variable {P : Program} {w : World} {K : PySem.W.Frag} {mg : Str → Option Value} {base : Heap}
theorem ok_shuf {f f1 : Addr} {fd fd1 : FuncData} (F : Fun K "_law_shuffled" "_law_shuffled" sShuf f fd) (F1 : Fun K "_law_draw" "_law_draw" sDraw f1 fd1) (b1 : Binds K fd1 ["_law_pen_here", "_law_many"] []) (g1 : mg "_law_draw" = some (.ref f1)) (B : Bi mg) :
    FnOk P w K mg base CX0 2 f fd ["_law_pen_here", "_law_bag"] (spShuf K) := by
  have G1 : FnOk P w K mg base CX0 1 f1 fd1 ["_law_pen_here", "_law_many"] spDraw := ok_draw F1 B
  refine F.ok scShuf (fun vs H Q E h => ?_) (fun cdv A outer s H vs Q E hr h => ?_)
  · obtain ⟨p, c, a, T, xs, ws, rfl, _⟩ := h; rfl
  · obtain ⟨p, c, a, T, xs, ws, rfl, hp, T9, ha, hxs, sm, x60, q⟩ := h
    refine ⟨_, pss_cons (ps_par (by rfl) scShuf.nd (i := 2) (j := 3) rfl rfl (by decide) rfl rfl (pa_cons (pe_callTy call_list_of (by rfl) B.list PyProof.Rows.boot_list (pa_cons (pv 1) pa_nil)) (pa_cons (pe_lst pa_nil) pa_nil)) (by rfl))
      (pss_cons (ps_while PassesOwn.never (pt_cmpR (op_neD hr.units) (pv 2) (pe_lst pa_nil) (nomark _))
        (pss_one (ps_expr (pe_bm PySem.F.plainAttrs_list PySem.F.slot_list_append PySem.F.type_list_append mt_append (pv 3)
          (pa_cons (pe_bm PySem.F.plainAttrs_list PySem.F.slot_list_pop PySem.F.type_list_pop mt_popAt (pv 2) (pa_cons (pe_call G1 hr (by rfl) g1 F1.kp b1 .nil pass0 (pa_cons (pv 0) (pa_cons (pe_callB call_len_seq (by rfl) B.len PySem.boot_len (pa_cons (pv 2) pa_nil)) pa_nil))) pa_nil)) pa_nil)))))
      (pss_one (ps_ret (pv 3)))), ?_⟩
    have xl : xs.length = ws.length := Paired.len hxs
    refine ⟨.ref a, rfl, a, xs, rfl, .inl ha, fun l nl => ?_⟩
    have e1 := Evl.Ex.new (o := .lst xs) nl
    have g1' : (upd H l (.lst xs)) l = some (.lst xs) := upd_same
    have nlp : l ≠ p := hp.new1 nl
    have nlc : l ≠ c := hp.new2 nl
    have hp1 := hp.ex e1
    generalize upd H l (.lst xs) = H1 at e1 g1' hp1
    refine ⟨Nat.zero_le _, fun z nz => ?_⟩
    have e2 := Evl.Ex.new (o := .lst []) nz
    have g2' : (upd H1 z (.lst [])) z = some (.lst []) := upd_same
    have nzp : z ≠ p := hp1.new1 nz
    have nzc : z ≠ c := hp1.new2 nz
    have nzl : z ≠ l := fun y => by rw [y, g1'] at nz; cases nz
    have nz0 : H z = none := Evl.fresh_back e1 nz
    have hp2 := hp1.ex e2
    generalize upd H1 z (.lst []) = H2 at e2 g2' hp2
    have e12 := e1.trans e2
    refine ⟨.ref l, .ref z, rfl, ?_⟩
    refine ⟨fun m σ H' => ∃ (ls fs : List V) (lw fw : List Word), σ = [some (.ref p), some (.ref a), some (.ref l), some (.ref z)] ∧ ls.length = m ∧ H' l = some (.lst ls) ∧ H' z = some (.lst fs) ∧ Paired (Wd K H') ls lw ∧ Paired (Wd K H') fs fw ∧ (fw ++ lw).Perm ws ∧ Exx p H H' ∧ PenAt H' p c (T + (fs.length : Nat)),
      ⟨xs.length, xs, [], ws, [], rfl, rfl, e2 _ _ g1', g2', Paired.imp (fun _ _ => wd_ex e12) hxs, .nil, List.Perm.refl _, Exx.ex e12, by simpa using hp2⟩, ?_⟩
    rintro m σ H3 ⟨ls, fs, lw, fw, rfl, lm, hl3, hz3, hls, hfs, pm, x3, hp3⟩
    have lsl : ls.length = lw.length := Paired.len hls
    have fsl : fs.length = fw.length := Paired.len hfs
    have tot : fw.length + lw.length = ws.length := by rw [← List.length_append]; exact pm.length_eq
    have sml : SmallW lw := fun w hw => sm w (pm.mem_iff.mp (List.mem_append_right _ hw))
    refine ⟨.ref l, rfl, Nat.zero_le _, fun e ne => ?_⟩
    have e4 := Evl.Ex.new (o := .lst []) ne
    have ge : (upd H3 e (.lst [])) e = some (.lst []) := upd_same
    generalize upd H3 e (.lst []) = H4 at e4 ge
    have hl4 := e4 _ _ hl3
    have hz4 := e4 _ _ hz3
    have hp4 := hp3.ex e4
    refine ⟨.list (lw.map dW), .list [], .lst (.inl (.inl hl4)) (dp_ws (Paired.imp (fun _ _ => wd_ex e4) hls)), .lst (.inl (.inl ge)) .nil, (fine_ws sml (by omega)).shaped (by decide), (by decide), _, rfl, ?_⟩
    cases lw with
    | nil =>
      refine iteF ?_
      have l0 : ls = [] := List.eq_nil_of_length_eq_zero (by simpa using lsl)
      refine ⟨.ref z, rfl, ?_⟩
      rw [List.append_nil] at pm
      exact q H4 z fs fw (x3.trans (Exx.ex e4)) (hp4.mono (by omega)) nz0 hz4 (Paired.imp (fun _ _ => wd_ex e4) hfs) pm
    | cons w0 lw' =>
      refine iteT ?_
      have lp : 0 < ls.length := by rw [lsl]; exact Nat.succ_pos _
      refine ⟨fun σ' H' => ∃ (ls' fs' : List V) (lw2 fw2 : List Word), σ' = [some (.ref p), some (.ref a), some (.ref l), some (.ref z)] ∧ ls'.length + 1 = m ∧ H' l = some (.lst ls') ∧ H' z = some (.lst fs') ∧ Paired (Wd K H') ls' lw2 ∧ Paired (Wd K H') fs' fw2 ∧ (fw2 ++ lw2).Perm ws ∧ Exx p H H' ∧ PenAt H' p c (T + (fs'.length : Nat)), fun σ' H' h => ?_, ?_⟩
      · obtain ⟨ls', fs', lw2, fw2, a1, a2, rest⟩ := h
        exact ⟨m - 1, by omega, ls', fs', lw2, fw2, a1, by omega, rest⟩
      · refine ⟨.ref z, rfl, .inl ⟨rfl, _, SqL.of hz4⟩, .ref l, rfl, .inl ⟨rfl, _, SqL.of hl4⟩, .ref p, rfl, .ref l, rfl, l, ls, rfl, .inl (SqL.of hl4), p, c, ((ls.length : Nat) : Int), T + (fs.length : Nat), rfl, hp4, by omega, by omega, by omega, fun i H5 i0 i1 x5 hp5 => ?_⟩
        have hl5 := x5 _ _ nlp hl4
        have hz5 := x5 _ _ nzp hz4
        have il : i.toNat < ls.length := by omega
        obtain ⟨y, hy⟩ : ∃ y, ls[i.toNat]? = some y := ⟨_, List.getElem?_eq_getElem il⟩
        have tx5 : TX K H3 H5 := (TX.ex e4).trans (hp4.tx x5)
        have hls5 : Paired (Wd K H5) ls (w0 :: lw') := Paired.imp (fun _ _ => Wd.mono tx5) hls
        have hfs5 : Paired (Wd K H5) fs fw := Paired.imp (fun _ _ => Wd.mono tx5) hfs
        obtain ⟨u, hu, huw⟩ := Paired.get1 hls5 hy
        refine ⟨l, ls, i, i.toNat, y, rfl, rfl, hl5, by omega, by omega, seqIndex_of i0 i1, hy, ?_⟩
        have hl6 : (upd H5 l (.lst (ls.eraseIdx i.toNat))) l = some (.lst (ls.eraseIdx i.toNat)) := upd_same
        have hz6 : (upd H5 l (.lst (ls.eraseIdx i.toNat))) z = some (.lst fs) := by rw [upd_ne nzl]; exact hz5
        have tx6 : TX K H5 (upd H5 l (.lst (ls.eraseIdx i.toNat))) := TX.put hl5
        have x6 : Exx p H (upd H5 l (.lst (ls.eraseIdx i.toNat))) := (x3.trans ((Exx.ex e4).trans x5)).mut nl
        have hp6 := hp5.put (o := .lst (ls.eraseIdx i.toNat)) nlp nlc
        generalize upd H5 l (.lst (ls.eraseIdx i.toNat)) = H6 at hl6 hz6 tx6 x6 hp6
        refine ⟨z, fs, y, rfl, rfl, hz6, Nat.lt_of_le_of_lt (by omega : fs.length ≤ 60) (by decide), ?_⟩
        have tx7 : TX K H6 (upd H6 z (.lst (fs ++ [y]))) := TX.put hz6
        refine ⟨ls.eraseIdx i.toNat, fs ++ [y], (w0 :: lw').eraseIdx i.toNat, fw ++ [u], rfl, ?_, by rw [upd_ne (Ne.symm nzl)]; exact hl6, upd_same, ?_, ?_, ?_, x6.mut nz0, ?_⟩
        · rw [List.length_eraseIdx, if_pos il]
          omega
        · exact Paired.imp (fun _ _ => Wd.mono (tx6.trans tx7)) (paired_erase _ hls5)
        · exact Paired.imp (fun _ _ => Wd.mono (tx6.trans tx7)) (paired_app1 hfs5 huw)
        · refine List.Perm.trans ?_ pm
          rw [List.append_assoc]
          exact List.Perm.append_left fw (erase_perm hu)
        · refine (hp6.put (o := .lst (fs ++ [y])) nzp nzc).mono ?_
          rw [List.length_append, List.length_singleton]
          omega
theorem ok_prc {f f1 f2 : Addr} {fd fd1 fd2 : FuncData} (F : Fun K "_law_price" "_law_price" sPrc f fd) (F1 : Fun K "_law_draw" "_law_draw" sDraw f1 fd1) (b1 : Binds K fd1 ["_law_pen_here", "_law_many"] []) (g1 : mg "_law_draw" = some (.ref f1))
    (F2 : Fun K "_law_pick" "_law_pick" sPick f2 fd2) (b2 : Binds K fd2 ["_law_pen_here", "_law_bag"] []) (g2 : mg "_law_pick" = some (.ref f2)) (B : Bi mg) : FnOk P w K mg base CX0 3 f fd ["_law_pen_here", "_law_dear"] spPrc := by
  have G1 : FnOk P w K mg base CX0 1 f1 fd1 ["_law_pen_here", "_law_many"] spDraw := ok_draw F1 B
  have G2 : FnOk P w K mg base CX0 2 f2 fd2 ["_law_pen_here", "_law_bag"] (spPick K) := ok_pick F2 F1 b1 g1 B
  refine F.ok scPrc (fun vs H Q E h => ?_) (fun cdv A outer s H vs Q E hr h => ?_)
  · obtain ⟨p, c, dear, T, rfl, _⟩ := h; rfl
  · obtain ⟨p, c, dear, T, rfl, hp, T9, d1, d2, q⟩ := h
    have hr1 : Room 1 _ := hr.mono (by decide)
    refine ⟨_, pss_one (ps_ret (pe_call G2 hr (by rfl) g2 F2.kp b2 .nil pass0 (pa_cons (pv 0) (pa_cons (pe_lst (pa_cons pe_int (pa_cons pe_int (pa_cons pe_int (pa_cons pe_int
      (pa_cons (pe_op op_add pe_int (pe_call G1 hr1 (by rfl) g1 F1.kp b1 .nil pass0 (pa_cons (pv 0) (pa_cons pe_int pa_nil))))
      (pa_cons (pe_op op_add pe_int (pe_call G1 hr1 (by rfl) g1 F1.kp b1 .nil pass0 (pa_cons (pv 0) (pa_cons (pv 1) pa_nil)))) pa_nil))))))) pa_nil)))), ?_⟩
    refine ⟨.ref p, rfl, .ref p, rfl, p, c, 9, _, rfl, hp, by decide, by decide, by omega, fun q1 H1 a1 a2 x1 hp1 => ⟨1, q1, rfl, rfl, ?_⟩⟩
    refine ⟨.ref p, rfl, .int dear, rfl, p, c, dear, _, rfl, hp1, d1, d2, by omega, fun q2 H2 a3 a4 x2 hp2 => ⟨1, q2, rfl, rfl, ?_⟩⟩
    refine ⟨(by show 6 ≤ sizeLine; decide), fun L hL => ?_⟩
    have nLp : L ≠ p := hp2.new1 hL
    have e3 := Evl.Ex.new (o := .lst [.int 1, .int 1, .int 2, .int 3, .int (1 + q1), .int (1 + q2)]) hL
    have gL : (upd H2 L (.lst [.int 1, .int 1, .int 2, .int 3, .int (1 + q1), .int (1 + q2)])) L = some (.lst [.int 1, .int 1, .int 2, .int 3, .int (1 + q1), .int (1 + q2)]) := upd_same
    have hp3 := hp2.ex e3
    generalize upd H2 L (.lst [.int 1, .int 1, .int 2, .int 3, .int (1 + q1), .int (1 + q2)]) = H3 at e3 gL hp3
    refine ⟨p, c, L, _, _, rfl, hp3, by omega, .inl (.inl gL), nLp, (by simp), (by show 6 ≤ 1000000; decide), fun pr H4 hpr x4 hp4 => ?_⟩
    obtain ⟨pi, rfl, pi1, pi2⟩ : ∃ pi, pr = .int pi ∧ 1 ≤ pi ∧ pi ≤ 1000000 := by
      simp only [List.mem_cons, List.not_mem_nil, or_false] at hpr
      rcases hpr with rfl | rfl | rfl | rfl | rfl | rfl
      · exact ⟨_, rfl, by decide, by decide⟩
      · exact ⟨_, rfl, by decide, by decide⟩
      · exact ⟨_, rfl, by decide, by decide⟩
      · exact ⟨_, rfl, by decide, by decide⟩
      · exact ⟨_, rfl, by omega, by omega⟩
      · exact ⟨_, rfl, by omega, by omega⟩
    exact q pi H4 pi1 pi2 (x1.trans (x2.trans ((Exx.ex e3).trans x4))) (hp4.mono (by omega))
end
end Wb

set_option Elab.async false
set_option linter.all false
set_option maxRecDepth 100000
set_option maxHeartbeats 4000000
set_option pp.maxSteps 600
set_option pp.deepTerms false
namespace Wb
open PySem PySem.Spec PyProof.Rows L2
abbrev sBases : Stmt := topS 41
abbrev nBases : List Str := ["_law_pen_here", "_law_counts", "_law_most", "_law_found", "_law_k", "_law_count"]
theorem scBases : FnScope nBases ["_law_pen_here", "_law_counts", "_law_most"] (defScope sBases) := ⟨rfl, rfl, rfl, by decide +kernel, rfl, by decide +kernel, by decide +kernel⟩
theorem tasg1 {X : TE} {g : TG} {D : Ends} {σ : L2.St} {H : Hp} (h : X σ H (fun x H1 => g x σ H1 D.nx)) : tAsg X g D σ H := h
theorem tseq1 {t u : TS} {D : Ends} {σ : L2.St} {H : Hp} (h : t { D with nx := fun σ' H' => u D σ' H' } σ H) : tSeq t u D σ H := h
theorem nopart1 {σ : L2.St} {H : Hp} {F : Option Int → Hp → Prop} (h : F none H) : tNoPart σ H F := h
/-! ### parts of tuples, tuples together: a tuple of ours -/
theorem cutV_whole {xs : List V} {lo hi : Option Int} (h : HT.sIx xs.length 0 lo = 0 ∧ HT.sIx xs.length xs.length hi = xs.length) : cutV xs lo hi = xs := by
  unfold cutV
  rw [h.1, h.2, List.drop_zero, Nat.sub_zero, List.take_length]
theorem mem_cutV {xs : List V} {lo hi : Option Int} {x : V} (h : x ∈ cutV xs lo hi) : x ∈ xs := by
  unfold cutV at h
  exact List.mem_of_mem_drop (List.mem_of_mem_take h)
section
variable {K : PySem.W.Frag} {H : Hp} {Q : VK} {a b : Addr} {xs ys : List V}
theorem sl_own {lo hi : Option Int} (ha : H a = some (.tup xs)) (q : ∀ H' z, Evl.Ex H H' → H' z = some (.tup (cutV xs lo hi)) → Q (.ref z) H') : rSlA K (.ref a) lo hi H Q := by
  refine ⟨a, xs, rfl, .inl (.inl ha), fun h => ?_, fun _ t nt => ?_⟩
  · exact q H a (Evl.Ex.refl H) (by rw [cutV_whole h]; exact ha)
  · exact q _ t (Evl.Ex.new nt) upd_same
theorem cat_own (ha : H a = some (.tup xs)) (hb : H b = some (.tup ys)) (hz : xs.length + ys.length ≤ sizeLine) (q : ∀ H' z, Evl.Ex H H' → H' z = some (.tup (xs ++ ys)) → Q (.ref z) H') : rCatA K (.ref a) (.ref b) H Q := by
  refine ⟨a, b, xs, ys, rfl, rfl, .inl (.inl ha), .inl (.inl hb), hz, fun h => ?_, fun _ h => ?_, fun _ _ t nt => ?_⟩
  · exact q H b (Evl.Ex.refl H) (by rw [h]; exact hb)
  · exact q H a (Evl.Ex.refl H) (by rw [h, List.append_nil]; exact ha)
  · exact q _ t (Evl.Ex.new nt) upd_same
end
theorem eqv_ints : ∀ u w : List Int, PyData.eqvAll (u.map .int) (w.map .int) = decide (u = w)
  | [], [] => by simp [PyData.eqvAll]
  | [], y :: w => by simp [PyData.eqvAll]
  | x :: u, [] => by simp [PyData.eqvAll]
  | x :: u, y :: w => by
    simp only [List.map_cons, PyData.eqvAll, PyData.eqv, eqv_ints u w]
    by_cases h : x = y
    · subst h; simp
    · simp [h]
theorem eqv_W (u w : Word) : PyData.eqv (dW u) (dW w) = decide (u = w) := by
  unfold dW
  simp only [PyData.eqv, eqv_ints]
theorem any_W (ws : List Word) (w : Word) : ((ws.map dW).any fun z => PyData.eqv z (dW w)) = decide (w ∈ ws) := by
  rw [List.any_map, Bool.eq_iff_iff]
  simp only [List.any_eq_true, Function.comp, eqv_W, decide_eq_true_eq]
  constructor
  · rintro ⟨x, hx, rfl⟩
    exact hx
  · intro h
    exact ⟨w, h, rfl⟩
def spBases (K : PySem.W.Frag) : Sp := fun vs H Q _ => ∃ (p c W : Addr) (most T : Int) (wds : List Int), vs = [.ref p, .ref W, .int most] ∧ PenAt H p c T ∧ T ≤ 8000000 ∧ H W = some (.lst (wds.map V.int)) ∧ W ≠ p ∧ 1 ≤ most ∧ most ≤ 3 ∧ wds.length ≤ 60 ∧ (∀ x ∈ wds, 1 ≤ x ∧ x ≤ 4) ∧
  ∀ H' z bvs bases, Exx p H H' → PenAt H' p c (T + 200) → H z = none → H' z = some (.lst bvs) → Paired (Wd K H') bvs bases → bases.length ≤ 3 → (∀ u ∈ bases, InAll u wds) → Q (.ref z) H'
def spCuts (K : PySem.W.Frag) : Sp := fun vs H Q _ => ∃ (a : Addr) (m : Nat) (xs : List V) (ws : List Word), vs = [.ref a, .int (m : Nat)] ∧ SqL K H a xs ∧ Paired (Wd K H) xs ws ∧ SmallW ws ∧ ws.length ≤ 60 ∧
  ∀ H' z ys us, Evl.Ex H H' → H z = none → H' z = some (.lst ys) → Paired (Wd K H') ys us → us.Nodup → (∀ u ∈ us, ∃ w ∈ ws, u = w.take m) → us.length ≤ ws.length → Q (.ref z) H'
section
variable {P : Program} {w : World} {K : PySem.W.Frag} {mg : Str → Option Value} {base : Heap}
theorem ok_bases {f f1 : Addr} {fd fd1 : FuncData} (F : Fun K "_law_bases" "_law_bases" sBases f fd) (F1 : Fun K "_law_draw" "_law_draw" sDraw f1 fd1) (b1 : Binds K fd1 ["_law_pen_here", "_law_many"] []) (g1 : mg "_law_draw" = some (.ref f1)) (B : Bi mg) :
    FnOk P w K mg base CX0 2 f fd ["_law_pen_here", "_law_counts", "_law_most"] (spBases K) := by
  have G1 : FnOk P w K mg base CX0 1 f1 fd1 ["_law_pen_here", "_law_many"] spDraw := ok_draw F1 B
  refine F.ok scBases (fun vs H Q E h => ?_) (fun cdv A outer s H vs Q E hr h => ?_)
  · obtain ⟨p, c, W, most, T, wds, rfl, _⟩ := h; rfl
  · obtain ⟨p, c, W, most, T, wds, rfl, hp, T9, hW, nWp, m1, m3, w60, hw, q⟩ := h
    refine ⟨_, pss_cons (ps_set (i := 3) scBases.nd rfl (.inl rfl) (pe_lst pa_nil))
      (pss_cons (ps_for PassesOwn.never rfl (pi_range1 (by rfl) B.range (pa_cons (pe_op op_add pe_int (pe_call G1 hr (by rfl) g1 F1.kp b1 .nil pass0 (pa_cons (pv 0) (pa_cons (pv 2) pa_nil)))) pa_nil)) (pg_name (i := 4) scBases.nd rfl (.inl rfl))
        (pss_one (ps_expr (pe_bm PySem.F.plainAttrs_list PySem.F.slot_list_append PySem.F.type_list_append mt_append (pv 3) (pa_cons
          (pe_callTy (r := rTupK K) call_tupK (by rfl) B.tuple PyProof.Rows.boot_tuple (pa_cons
            (pe_lc (own := [("_law_count", 5)]) (wi := iList K (tVar 1)) (g := gName 5) rfl scBases.nd (pi_list (pv 1)) (blkOk_by (own := [("_law_count", 5)]) (N := nBases) (sc := defScope sBases) (by decide +kernel))
              (fun _ _ _ _ _ => pg_name (i := 5) scBases.nd rfl (Or.inl rfl)) (fun _ _ _ _ _ => pts_nil)
              (fun _ _ _ _ _ => pe_call G1 hr (by rfl) g1 F1.kp b1 .nil pass0 (pa_cons (pv 0) (pa_cons (pv 5) pa_nil)))) pa_nil)) pa_nil)))))
      (pss_one (ps_ret (pv 3)))), ?_⟩
    refine ⟨Nat.zero_le _, fun z nz => ?_⟩
    have e1 := Evl.Ex.new (o := .lst []) nz
    have gz : (upd H z (.lst [])) z = some (.lst []) := upd_same
    have nzp : z ≠ p := hp.new1 nz
    have nzc : z ≠ c := hp.new2 nz
    have nzW : W ≠ z := fun y => by rw [← y, hW] at nz; cases nz
    have hp1 := hp.ex e1
    generalize upd H z (.lst []) = H1 at e1 gz hp1
    refine ⟨.ref p, rfl, .int most, rfl, p, c, most, _, rfl, hp1, m1, by omega, by omega, fun r H2 r0 r1 x2 hp2 => ⟨1, r, rfl, rfl, _, rfl, by omega, by omega, ?_⟩⟩
    have hw1 : ∀ x ∈ wds, 1 ≤ x ∧ x ≤ 1000000 := fun x hx => by have := hw x hx; omega
    refine for_range (lo := 0) (n := (1 + r).toNat) (fun i σ H' => ∃ (bvs : List V) (bases : List Word) (y4 y5 : Option V), σ = [some (.ref p), some (.ref W), some (.int most), some (.ref z), y4, y5] ∧ Exx p H H' ∧ PenAt H' p c (T + 1 + 60 * (i : Nat)) ∧ H' W = some (.lst (wds.map V.int)) ∧ H' z = some (.lst bvs) ∧ Paired (Wd K H') bvs bases ∧ bases.length ≤ i ∧ ∀ u ∈ bases, InAll u wds)
      ⟨[], [], none, none, rfl, (Exx.ex e1).trans x2, by simpa using hp2, x2 _ _ nWp (e1 _ _ hW), x2 _ _ nzp gz, .nil, Nat.le_refl _, fun u hu => (by cases hu)⟩ ?_ ?_
    · rintro i σ H3 hi ⟨bvs, bases, y4, y5, rfl, x3, hp3, hW3, hz3, hbv, bl, hb⟩
      refine ⟨.ref z, rfl, .inl ⟨rfl, _, SqL.of hz3⟩, ?_⟩
      refine tcons1 ?_
      refine tcb1 ?_
      refine lc_draws (K := K) (vs := [5]) (i := 5) (wds := wds) (p := p) (c := c) hp3 ?_ (by omega) hw1 (by omega) ?_ ?_ ?_ ?_
      · exact fun Q' h => ⟨.ref W, rfl, h W H3 (Exx.refl p H3) hp3 (.inl (.inl hW3)) nWp⟩
      · exact fun _ => rfl
      · exact fun _ => rfl
      · exact fun _ => rfl
      intro H4 D xs x4 hp4 nD hD hin
      refine ⟨D, _, rfl, .inl ⟨.inl (.inl hD), fun t nt => ?_⟩⟩
      have e5 := Evl.Ex.new (o := .tup (xs.map V.int)) nt
      have gt : (upd H4 t (.tup (xs.map V.int))) t = some (.tup (xs.map V.int)) := upd_same
      have hp5 := hp4.ex e5
      generalize upd H4 t (.tup (xs.map V.int)) = H5 at e5 gt hp5
      have hz5 := e5 _ _ (x4 _ _ nzp hz3)
      have hW5 := e5 _ _ (x4 _ _ nWp hW3)
      have bvl : bvs.length = bases.length := Paired.len hbv
      have tx5 : TX K H3 H5 := (hp3.tx x4).trans (TX.ex e5)
      refine ⟨z, bvs, _, rfl, rfl, hz5, Nat.lt_of_le_of_lt (by omega : bvs.length ≤ 3) (by decide), ?_⟩
      refine ⟨bvs ++ [.ref t], bases ++ [xs], _, _, rfl, (x3.trans (x4.trans (Exx.ex e5))).mut nz, (hp5.put nzp nzc).mono (by omega), by rw [upd_ne nzW]; exact hW5, upd_same, ?_, by rw [List.length_append, List.length_singleton]; omega, ?_⟩
      · exact Paired.imp (fun _ _ => Wd.mono (TX.put hz5)) (paired_app1 (Paired.imp (fun _ _ => Wd.mono tx5) hbv) ⟨t, rfl, gt⟩)
      · intro u hu
        rcases List.mem_append.mp hu with h | h
        · exact hb u h
        · rw [List.mem_singleton.mp h]; exact hin
    · rintro σ H3 ⟨bvs, bases, y4, y5, rfl, x3, hp3, hW3, hz3, hbv, bl, hb⟩
      exact ⟨.ref z, rfl, q H3 z bvs bases x3 (hp3.mono (by omega)) nz hz3 hbv (by omega) hb⟩
theorem ok_cuts {f : Addr} {fd : FuncData} (F : Fun K "_law_cuts" "_law_cuts" sCuts f fd) : FnOk P w K mg base CX0 1 f fd ["_law_words", "_law_many"] (spCuts K) := by
  refine F.ok scCuts (fun vs H Q E h => ?_) (fun cdv A outer s H vs Q E hr h => ?_)
  · obtain ⟨a, m, xs, ws, rfl, _⟩ := h; rfl
  · obtain ⟨a, m, xs, ws, rfl, ha, hxs, sm, w60, q⟩ := h
    have hu65 : A.units + 3 + 65 < cLine := by
      have := hr.un
      have : (A.deeper (envOfC "_law_cuts" (defScope sCuts) s.heap.objs.size f cdv)).units = A.units + 3 := rfl
      omega
    refine ⟨_, pss_cons (ps_set (i := 2) scCuts.nd rfl (.inl rfl) (pe_lst pa_nil))
      (pss_cons (ps_for PassesOwn.never rfl (pi_list (pv 0)) (pg_name (i := 3) scCuts.nd rfl (.inl rfl))
        (pss_one (ps_if (pt_cmpR (op_notInD hu65) (pe_slice (r := rSlA K) sl_tupA (pv 3) po_none (po_some (pv 1))) (pv 2) rfl)
          (pss_one (ps_expr (pe_bm PySem.F.plainAttrs_list PySem.F.slot_list_append PySem.F.type_list_append mt_append (pv 2) (pa_cons (pe_slice (r := rSlA K) sl_tupA (pv 3) po_none (po_some (pv 1))) pa_nil)))) pss_nil)))
      (pss_one (ps_ret (pv 2)))), ?_⟩
    have xl : xs.length = ws.length := Paired.len hxs
    refine ⟨Nat.zero_le _, fun z nz => ?_⟩
    have e1 := Evl.Ex.new (o := .lst []) nz
    have gz : (upd H z (.lst [])) z = some (.lst []) := upd_same
    generalize upd H z (.lst []) = H1 at e1 gz
    have nza : ∀ ys, SqL K H a ys → True := fun _ _ => trivial
    refine ⟨.ref a, rfl, a, rfl, ⟨xs, Evl.ex_l e1 ha⟩, ?_⟩
    refine for_list (K := K) (a := a) (xs := xs) (fun i σ H' => ∃ (ys : List V) (us : List Word) (y3 : Option V), σ = [some (.ref a), some (.int (m : Nat)), some (.ref z), y3] ∧ Evl.Ex H H' ∧ H' z = some (.lst ys) ∧ Paired (Wd K H') ys us ∧ us.Nodup ∧ (∀ u ∈ us, ∃ w ∈ ws, u = w.take m) ∧ us.length ≤ i)
      ⟨[], [], none, rfl, e1, gz, .nil, List.nodup_nil, fun u hu => (by cases hu), Nat.le_refl _⟩ ?_ ?_ ?_
    · rintro i σ H2 _ ⟨_, _, _, _, e2, _⟩
      exact Evl.ex_l e2 ha
    · rintro i x σ H2 hx ⟨ys, us, y3, rfl, e2, hz2, hys, nd, hus, ul⟩
      obtain ⟨w0, hw0, hxw⟩ := Paired.get1 hxs hx
      obtain ⟨ax, rfl, hax⟩ := hxw
      have hw0m := List.mem_of_getElem? hw0
      have il : i < ws.length := (List.getElem?_eq_some_iff.mp hw0).1
      have ysl : ys.length = us.length := Paired.len hys
      refine ⟨.ref ax, rfl, .int (m : Nat), rfl, (m : Nat), rfl, ?_⟩
      refine sl_own (K := K) (lo := none) (hi := some (m : Nat)) (e2 _ _ hax) fun H3 z3 e3 s3 => ?_
      rw [cut_take, ← List.map_take] at s3
      have smu : SmallW us := fun u hu => by
        obtain ⟨w', hw', rfl⟩ := hus u hu
        obtain ⟨h1, h2⟩ := sm w' hw'
        exact ⟨by rw [List.length_take]; omega, fun x hx => h2 x (List.mem_of_mem_take hx)⟩
      have smt : SmallW [w0.take m] := fun u hu => by
        rw [List.mem_singleton.mp hu]
        obtain ⟨h1, h2⟩ := sm w0 hw0m
        exact ⟨by rw [List.length_take]; omega, fun x hx => h2 x (List.mem_of_mem_take hx)⟩
      have ft : Fine (dW (w0.take m)) 1 603 := fine_W (B := 10) (n := 60) (smt _ (by simp)).2 (by decide) (smt _ (by simp)).1
      have hys3 : Paired (Wd K H3) ys us := Paired.imp (fun _ _ => wd_ex e3) hys
      refine ⟨.ref z, rfl, dW (w0.take m), us.map dW, dp_W ⟨z3, rfl, s3⟩, .lst (.inl (.inl (e3 _ _ hz2))) (dp_ws hys3), ft.shaped (by decide), (fine_ws smu (by omega)).shaped (by decide), _, rfl, ?_⟩
      rw [any_W]
      refine ite2 (fun hc => ?_) (fun _ => ?_)
      · have hn : w0.take m ∉ us := fun z => by
          rw [decide_eq_true z] at hc
          cases hc
        have hz3 := e3 _ _ hz2
        refine ⟨.ref z, rfl, .inl ⟨rfl, _, SqL.of hz3⟩, .ref ax, rfl, .int (m : Nat), rfl, (m : Nat), rfl, ?_⟩
        refine sl_own (K := K) (lo := none) (hi := some (m : Nat)) ((e2.trans e3) _ _ hax) fun H4 z4 e4 s4 => ?_
        rw [cut_take, ← List.map_take] at s4
        have hz4 := e4 _ _ hz3
        refine ⟨z, ys, _, rfl, rfl, hz4, Nat.lt_of_le_of_lt (by omega : ys.length ≤ 60) (by decide), ?_⟩
        refine ⟨ys ++ [.ref z4], us ++ [w0.take m], _, rfl, (e2.trans (e3.trans e4)).mut nz, upd_same, ?_, ?_, ?_, by rw [List.length_append, List.length_singleton]; omega⟩
        · exact Paired.imp (fun _ _ => Wd.mono (TX.put hz4)) (paired_app1 (Paired.imp (fun _ _ => wd_ex e4) hys3) ⟨z4, rfl, s4⟩)
        · rw [List.nodup_append]
          refine ⟨nd, by simp, fun a ha b hb => ?_⟩
          rw [List.mem_singleton.mp hb]
          exact fun e => hn (e ▸ ha)
        · intro u hu
          rcases List.mem_append.mp hu with h | h
          · exact hus u h
          · exact ⟨w0, hw0m, List.mem_singleton.mp h⟩
      · exact ⟨ys, us, _, rfl, e2.trans e3, e3 _ _ hz2, hys3, nd, hus, by omega⟩
    · rintro σ H2 ⟨ys, us, y3, rfl, e2, hz2, hys, nd, hus, ul⟩
      exact ⟨.ref z, rfl, q H2 z ys us e2 nz hz2 hys nd hus (by omega)⟩
end
end Wb

set_option Elab.async false
set_option linter.all false
set_option maxRecDepth 100000
set_option maxHeartbeats 4000000
set_option pp.maxSteps 600
set_option pp.deepTerms false
namespace Wb
open PySem PySem.Spec PyProof.Rows L2
abbrev sGaps : Stmt := topS 43
abbrev nGaps : List Str := ["_law_pen_here", "_law_count", "_law_words", "_law_dear", "_law_pairs", "_law_found", "_law_left", "_law_here", "_law_there", "_law_bag"]
theorem scGaps : FnScope nGaps ["_law_pen_here", "_law_count", "_law_words", "_law_dear"] (defScope sGaps) := ⟨rfl, rfl, rfl, by decide +kernel, rfl, by decide +kernel, by decide +kernel⟩
/-- gaps as they are drawn: left so many ways of eight -/
structure DrawnU (wide : Int) (ws : List Word) (gs : List Gap) (left : Int) : Prop where
  each : ∀ g ∈ gs, (0 ≤ g.frm ∧ g.frm < wide) ∧ (0 ≤ g.to_ ∧ g.to_ < wide) ∧ g.frm ≠ g.to_ ∧ (1 ≤ g.price ∧ g.price ≤ 1000000) ∧ g.ways.Pairwise (fun u w => HT.lexLt u w = true) ∧ ∀ w ∈ g.ways, w ∈ ws
  sum : (((gs.map (fun g => g.ways.length)).sum : Nat) : Int) + left = 8
  left0 : 0 ≤ left
structure Drawn (wide : Int) (ws : List Word) (gs : List Gap) (left : Int) : Prop extends DrawnU wide ws gs left where
  rise : gs.Pairwise (fun g h => lexLt2 g.frm g.to_ h.frm h.to_)
def gKey (g : Gap) : Word := [g.frm, g.to_]
/-- a gap's own tuple -/
def FoundAt (H : Hp) (x : V) (g : Gap) : Prop := ∃ (t : Addr) (q : Int) (y : V), x = .ref t ∧ H t = some (.tup [.int g.frm, .int g.to_, .int q, y])
def GF (K : PySem.W.Frag) (H : Hp) (x : V) (g : Gap) : Prop := GapAt K H x g ∧ FoundAt H x g
theorem GF.mono {K : PySem.W.Frag} {H H' : Hp} (e : TX K H H') {x : V} {g : Gap} (h : GF K H x g) : GF K H' x g := by
  obtain ⟨h1, t, q, y, rfl, h2⟩ := h
  exact ⟨GapAt.mono e h1, t, q, y, rfl, e.2 _ _ h2⟩
def kH (H : Hp) : V → Int × Int
  | .ref t => (match H t with
    | some (.tup (.int i :: .int j :: _)) => (i, j)
    | _ => (0, 0))
  | _ => (0, 0)
theorem kH_of {H : Hp} {x : V} {g : Gap} (h : FoundAt H x g) : kH H x = (g.frm, g.to_) := by
  obtain ⟨t, q, y, rfl, ht⟩ := h
  simp only [kH, ht]
theorem paired_perm {α β : Type} {R : α → β → Prop} {xs xs' : List α} (h : xs'.Perm xs) : ∀ {ys : List β}, Paired R xs ys → ∃ ys', ys'.Perm ys ∧ Paired R xs' ys' := by
  induction h with
  | nil => intro ys p; cases p; exact ⟨[], List.Perm.refl _, .nil⟩
  | cons x _ ih =>
    intro ys p
    cases p with
    | cons r t =>
      obtain ⟨ys', h1, h2⟩ := ih t
      exact ⟨_, h1.cons _, .cons r h2⟩
  | swap x y l =>
    intro ys p
    cases p with
    | cons r t =>
      cases t with
      | cons r2 t2 => exact ⟨_, List.Perm.swap _ _ _, .cons r2 (.cons r t2)⟩
  | trans _ _ ih1 ih2 =>
    intro ys p
    obtain ⟨ys2, a1, a2⟩ := ih2 p
    obtain ⟨ys3, b1, b2⟩ := ih1 a2
    exact ⟨ys3, b1.trans a1, b2⟩
theorem lex_pairwise {ws us : List Word} {d : Nat} (pm : us.Perm ws) (nd : ws.Nodup) (hb : ∀ w ∈ ws, w.length = d ∧ TS.Bd 4 w) (pw : us.Pairwise (fun u v => TS.code 4 u ≤ TS.code 4 v)) : us.Pairwise (fun u w => HT.lexLt u w = true) := by
  have ndu : us.Nodup := pm.nodup_iff.mpr nd
  rw [List.pairwise_iff_getElem]
  intro i j hi hj hij
  have ne := List.pairwise_iff_getElem.mp ndu i j hi hj hij
  have cd := List.pairwise_iff_getElem.mp pw i j hi hj hij
  obtain ⟨a1, a2⟩ := hb us[i] (pm.mem_iff.mp (List.getElem_mem hi))
  obtain ⟨a3, a4⟩ := hb us[j] (pm.mem_iff.mp (List.getElem_mem hj))
  exact lex_of_code (by omega) a2 a4 cd ne
def spGaps (K : PySem.W.Frag) : Sp := fun vs H Q _ => ∃ (p c wl : Addr) (wide dear T : Int) (us : List V) (ws : List Word) (d : Nat), vs = [.ref p, .int wide, .ref wl, .int dear] ∧ PenAt H p c T ∧ T ≤ 8000000 ∧ 2 ≤ wide ∧ wide ≤ 4 ∧ 1 ≤ dear ∧ dear ≤ 1000000 ∧ wl ≠ p ∧
  H wl = some (.lst us) ∧ Paired (Wd K H) us ws ∧ ws.length ≤ 8 ∧ ws.Nodup ∧ d ≤ 60 ∧ (∀ w ∈ ws, w.length = d ∧ TS.Bd 4 w) ∧
  ∀ H' a gvs gs left, Exx p H H' → PenAt H' p c (T + 2000) → SqT K H' a gvs → Paired (GapAt K H') gvs gs → Drawn wide ws gs left → Q (.ref a) H'
section
variable {P : Program} {w : World} {K : PySem.W.Frag} {mg : Str → Option Value} {base : Heap}
theorem ok_gaps {f f1 f2 f3 f4 : Addr} {fd fd1 fd2 fd3 fd4 : FuncData} (F : Fun K "_law_gaps" "_law_gaps" sGaps f fd) (F1 : Fun K "_law_draw" "_law_draw" sDraw f1 fd1) (b1 : Binds K fd1 ["_law_pen_here", "_law_many"] []) (g1 : mg "_law_draw" = some (.ref f1))
    (F2 : Fun K "_law_pick" "_law_pick" sPick f2 fd2) (b2 : Binds K fd2 ["_law_pen_here", "_law_bag"] []) (g2 : mg "_law_pick" = some (.ref f2))
    (F3 : Fun K "_law_shuffled" "_law_shuffled" sShuf f3 fd3) (b3 : Binds K fd3 ["_law_pen_here", "_law_bag"] []) (g3 : mg "_law_shuffled" = some (.ref f3))
    (F4 : Fun K "_law_price" "_law_price" sPrc f4 fd4) (b4 : Binds K fd4 ["_law_pen_here", "_law_dear"] []) (g4 : mg "_law_price" = some (.ref f4)) (B : Bi mg) :
    FnOk P w K mg base CX0 4 f fd ["_law_pen_here", "_law_count", "_law_words", "_law_dear"] (spGaps K) := by
  have G1 : FnOk P w K mg base CX0 1 f1 fd1 ["_law_pen_here", "_law_many"] spDraw := ok_draw F1 B
  have G2 : FnOk P w K mg base CX0 2 f2 fd2 ["_law_pen_here", "_law_bag"] (spPick K) := ok_pick F2 F1 b1 g1 B
  have G3 : FnOk P w K mg base CX0 2 f3 fd3 ["_law_pen_here", "_law_bag"] (spShuf K) := ok_shuf F3 F1 b1 g1 B
  have G4 : FnOk P w K mg base CX0 3 f4 fd4 ["_law_pen_here", "_law_dear"] spPrc := ok_prc F4 F1 b1 g1 F2 b2 g2 B
  refine F.ok scGaps (fun vs H Q E h => ?_) (fun cdv A outer s H vs Q E hr h => ?_)
  · obtain ⟨p, c, wl, wide, dear, T, us, ws, d, rfl, _⟩ := h; rfl
  · obtain ⟨p, c, wl, wide, dear, T, us, ws, d, rfl, hp, T8, w2, w4, d1, d2, nwp, hwl, hws, w8, wnd, d60, hbd, q⟩ := h
    have hr1 : Room 1 _ := hr.mono (by decide)
    have hr2 : Room 2 _ := hr.mono (by decide)
    refine ⟨_, pss_cons (ps_par3 (by rfl) scGaps.nd (i := 4) (j := 5) (l := 6) rfl rfl rfl (by decide) (by decide) (by decide) rfl rfl rfl (pa_cons (pe_lst pa_nil) (pa_cons (pe_lst pa_nil) (pa_cons pe_int pa_nil))) (by rfl))
      (pss_cons (ps_for PassesOwn.never rfl (pi_range1 (by rfl) B.range (pa_cons (pv 1) pa_nil)) (pg_name (i := 7) scGaps.nd rfl (.inr rfl))
        (pss_one (ps_set (i := 4) scGaps.nd rfl (.inl rfl) (pe_op op_cat (pv 4) (pe_lc (own := [("_law_there", 8)]) (g := gName 8) rfl scGaps.nd (pi_range1 (by rfl) B.range (pa_cons (pv 1) pa_nil)) (blkOk_by (own := [("_law_there", 8)]) (N := nGaps) (sc := defScope sGaps) (by decide +kernel))
            (fun _ _ _ _ _ => pg_name (i := 8) scGaps.nd rfl (Or.inl rfl)) (fun _ _ _ _ _ => pts_one (pt_cmpR op_ne (pv 8) (pv 7) (nomark _)))
            (fun _ _ _ _ _ => pe_tup (pa_cons (pv 7) (pa_cons (pv 8) pa_nil))))))))
      (pss_cons (ps_for PassesOwn.never rfl (pi_list (pe_call G3 hr2 (by rfl) g3 F3.kp b3 .nil pass0 (pa_cons (pv 0) (pa_cons (pv 4) pa_nil)))) (pg_tup rfl (pgs_cons (pg_name (i := 7) scGaps.nd rfl (.inr rfl)) (pgs_cons (pg_name (i := 8) scGaps.nd rfl (.inl rfl)) pgs_nil)))
        (pss_one (ps_if (pt_cmpR op_gt (pe_call G1 hr1 (by rfl) g1 F1.kp b1 .nil pass0 (pa_cons (pv 0) (pa_cons pe_int pa_nil))) pe_int (nomark _))
          (pss_cons (ps_set (i := 9) scGaps.nd rfl (.inl rfl) (pe_slice sl_list (pe_callB cr_sortW (by rfl) B.sorted boot_sorted (pa_cons (pe_slice sl_list (pe_call G3 hr2 (by rfl) g3 F3.kp b3 .nil pass0 (pa_cons (pv 0) (pa_cons (pv 2) pa_nil))) po_none
              (po_some (pe_call G2 hr2 (by rfl) g2 F2.kp b2 .nil pass0 (pa_cons (pv 0) (pa_cons (pe_lst (pa_cons pe_int (pa_cons pe_int (pa_cons pe_int (pa_cons pe_int (pa_cons pe_int pa_nil)))))) pa_nil))))) pa_nil)) po_none (po_some (pv 6))))
          (pss_cons (ps_set (i := 6) scGaps.nd rfl (.inl rfl) (pe_op op_sub (pv 6) (pe_callB call_len_seq (by rfl) B.len PySem.boot_len (pa_cons (pv 9) pa_nil))))
          (pss_one (ps_expr (pe_bm PySem.F.plainAttrs_list PySem.F.slot_list_append PySem.F.type_list_append mt_append (pv 5) (pa_cons (pe_tup (pa_cons (pv 7) (pa_cons (pv 8) (pa_cons (pe_call G4 hr (by rfl) g4 F4.kp b4 .nil pass0 (pa_cons (pv 0) (pa_cons (pv 3) pa_nil)))
              (pa_cons (pe_callTy call_tuple_of (by rfl) B.tuple PyProof.Rows.boot_tuple (pa_cons (pv 9) pa_nil)) pa_nil))))) pa_nil)))))) pss_nil)))
      (pss_one (ps_ret (pe_callTy call_tuple_of (by rfl) B.tuple PyProof.Rows.boot_tuple (pa_cons (pe_callB cr_sortG (by rfl) B.sorted boot_sorted (pa_cons (pv 5) pa_nil)) pa_nil)))))), ?_⟩
    have ul : us.length = ws.length := Paired.len hws
    have smw : SmallW ws := fun u hu => by
      obtain ⟨h1, h2⟩ := hbd u hu
      exact ⟨by omega, fun x hx => by have := h2 x hx; omega⟩
    refine ⟨Nat.zero_le _, fun pl0 npl0 => ⟨Nat.zero_le _, fun fl nfl => ?_⟩⟩
    have e1 := Evl.Ex.new (o := .lst []) npl0
    have gp1 : (upd H pl0 (.lst [])) pl0 = some (.lst []) := upd_same
    generalize upd H pl0 (.lst []) = H1 at nfl e1 gp1
    have e2 := Evl.Ex.new (o := .lst []) nfl
    have gf2 : (upd H1 fl (.lst [])) fl = some (.lst []) := upd_same
    generalize upd H1 fl (.lst []) = H3 at e2 gf2
    have e13 := e1.trans e2
    have gp3 := e2 _ _ gp1
    have gf3 := gf2
    have hp3 := hp.ex e13
    have nfl0 : H fl = none := Evl.fresh_back e1 nfl
    have nflp : fl ≠ p := fun z => hp.here (z ▸ nfl0)
    have nflc : fl ≠ c := (hp.ex e1).new2 nfl
    refine ⟨.ref pl0, .ref fl, .int 8, rfl, ?_⟩
    -- the pairs
    refine ⟨.int wide, rfl, wide, rfl, by omega, by omega, ?_⟩
    refine for_range (lo := 0) (n := wide.toNat) (fun i σ H' => ∃ (pl : Addr) (pvs : List V) (ps : List Word) (y7 y8 y9 : Option V), σ = [some (.ref p), some (.int wide), some (.ref wl), some (.int dear), some (.ref pl), some (.ref fl), some (.int 8), y7, y8, y9] ∧ Evl.Ex H3 H' ∧ H' pl = some (.lst pvs) ∧ Paired (Wd K H') pvs ps ∧ ps.Nodup ∧ ps.length ≤ 4 * i ∧ ∀ u ∈ ps, ∃ a b : Int, u = [a, b] ∧ a ≠ b ∧ 0 ≤ a ∧ a < (i : Int) ∧ 0 ≤ b ∧ b < wide)
      ⟨pl0, [], [], none, none, none, rfl, Evl.Ex.refl _, gp3, .nil, List.nodup_nil, Nat.le_refl _, fun u hu => (by cases hu)⟩ ?_ ?_
    · rintro i σ H4 hi ⟨pl, pvs, ps, y7, y8, y9, rfl, e4, hpl4, hpv4, pnd, pln, hps⟩
      have ei : (0 : Int) + (i : Nat) = (i : Int) := by omega
      rw [ei]
      refine ⟨.ref pl, rfl, ?_⟩
      refine ⟨.int wide, rfl, wide, rfl, by omega, by omega, fun D hD => ?_⟩
      refine lc_range (lo := 0) (n := wide.toNat) (fun m H' => ∃ (rvs : List V) (rs : List Word), Evl.Ex H4 H' ∧ H' D = some (.lst rvs) ∧ Paired (Wd K H') rvs rs ∧ rs.Nodup ∧ rs.length ≤ m ∧ ∀ u ∈ rs, ∃ b : Int, u = [(i : Int), b] ∧ (i : Int) ≠ b ∧ 0 ≤ b ∧ b < (m : Int))
        ⟨[], [], Evl.Ex.new hD, upd_same, .nil, List.nodup_nil, Nat.le_refl _, fun u hu => (by cases hu)⟩ ?_ ?_
      · rintro m H5 hm ⟨rvs, rs, e5, hD5, hrv, rnd, rl, hrs⟩
        have em : (0 : Int) + (m : Nat) = (m : Int) := by omega
        rw [em]
        refine ⟨rfl, ?_⟩
        refine ⟨.int (m : Nat), rfl, .int (i : Nat), rfl, rfl, _, rfl, ?_⟩
        have step : ∀ u ∈ rs, ∃ b : Int, u = [(i : Int), b] ∧ (i : Int) ≠ b ∧ 0 ≤ b ∧ b < ((m + 1 : Nat) : Int) := fun u hu => by
          obtain ⟨b, e, n, b0, b1⟩ := hrs u hu
          exact ⟨b, e, n, b0, by omega⟩
        refine ite2 (fun hc => ?_) (fun _ => ⟨rvs, rs, e5, hD5, hrv, rnd, by omega, step⟩)
        have ne : (i : Int) ≠ (m : Int) := fun z => by
          rw [z] at hc
          simp at hc
        refine ⟨.int (i : Nat), rfl, .int (m : Nat), rfl, (by show 2 ≤ sizeLine; decide), fun t nt => ?_⟩
        have e6 := Evl.Ex.new (o := .tup [.int (i : Nat), .int (m : Nat)]) nt
        have g6 : (upd H5 t (.tup [.int (i : Nat), .int (m : Nat)])) t = some (.tup ([(i : Int), (m : Int)].map V.int)) := upd_same
        generalize upd H5 t (.tup [.int (i : Nat), .int (m : Nat)]) = H6 at e6 g6
        have hD6 := e6 _ _ hD5
        have rvl : rvs.length = rs.length := Paired.len hrv
        refine ⟨_, hD6, Nat.lt_of_le_of_lt (by omega : rvs.length ≤ 4) (by decide), rvs ++ [.ref t], rs ++ [[(i : Int), (m : Int)]], (e5.trans e6).mut hD, upd_same, ?_, ?_, by rw [List.length_append, List.length_singleton]; omega, ?_⟩
        · exact Paired.imp (fun _ _ => Wd.mono (TX.put hD6)) (paired_app1 (Paired.imp (fun _ _ => wd_ex e6) hrv) ⟨t, rfl, g6⟩)
        · rw [List.nodup_append]
          refine ⟨rnd, by simp, fun a ha b hb => ?_⟩
          rw [List.mem_singleton.mp hb]
          obtain ⟨b', rfl, _, _, b1⟩ := hrs a ha
          intro z
          injection z with _ z
          injection z with z _
          omega
        · intro u hu
          rcases List.mem_append.mp hu with h | h
          · exact step u h
          · exact ⟨m, List.mem_singleton.mp h, ne, by omega, by omega⟩
      · rintro H5 ⟨rvs, rs, e5, hD5, hrv, rnd, rl, hrs⟩
        have rvl : rvs.length = rs.length := Paired.len hrv
        have pvl : pvs.length = ps.length := Paired.len hpv4
        refine ⟨pl, D, _, _, rfl, rfl, e5 _ _ hpl4, hD5, Nat.le_trans (by omega : pvs.length + rvs.length ≤ 20) (by decide), fun pl2 npl2 => ?_⟩
        have e6 := Evl.Ex.new (o := .lst (pvs ++ rvs)) npl2
        refine ⟨pl2, pvs ++ rvs, ps ++ rs, _, _, _, rfl, e4.trans (e5.trans e6), upd_same, Paired.app (Paired.imp (fun _ _ => wd_ex (e5.trans e6)) hpv4) (Paired.imp (fun _ _ => wd_ex e6) hrv), ?_, by rw [List.length_append]; omega, ?_⟩
        · rw [List.nodup_append]
          refine ⟨pnd, rnd, fun a ha b hb => ?_⟩
          obtain ⟨a1, a2, rfl, _, _, a3, _⟩ := hps a ha
          obtain ⟨b', rfl, _⟩ := hrs b hb
          intro z
          injection z with z _
          omega
        · intro u hu
          rcases List.mem_append.mp hu with h | h
          · obtain ⟨a, b, e, n, a0, a1, b0, b1⟩ := hps u h
            exact ⟨a, b, e, n, a0, by omega, b0, b1⟩
          · obtain ⟨b, e, n, b0, b1⟩ := hrs u h
            exact ⟨i, b, e, n, by omega, by omega, b0, by omega⟩
    · rintro σ H4 ⟨pl, pvs, ps, y7, y8, y9, rfl, e4, hpl4, hpv4, pnd, pln, hps⟩
      have e04 := e13.trans e4
      have hp4 := hp3.ex e4
      have pvl : pvs.length = ps.length := Paired.len hpv4
      have smp : SmallW ps := fun u hu => by
        obtain ⟨a, b, rfl, _, a0, a1, b0, b1⟩ := hps u hu
        refine ⟨by simp, fun x hx => ?_⟩
        simp only [List.mem_cons, List.not_mem_nil, or_false] at hx
        rcases hx with rfl | rfl
        · omega
        · omega
      refine ⟨.ref p, rfl, .ref pl, rfl, p, c, pl, T, pvs, ps, rfl, hp4, by omega, SqL.of hpl4, hpv4, smp, by omega, fun H5 z sv su x5 hp5 nz hz hsv pm => ?_⟩
      have nzp : z ≠ p := hp4.new1 nz
      have snd : su.Nodup := pm.nodup_iff.mpr pnd
      have svl : sv.length = su.length := Paired.len hsv
      have sul : su.length ≤ 16 := by have := pm.length_eq; omega
      have x05 : Exx p H H5 := (Exx.ex e04).trans x5
      have gf5 := x5 _ _ nflp (e4 _ _ gf3)
      have hwl5 := x05 _ _ nwp hwl
      have hws5 : Paired (Wd K H5) us ws := Paired.imp (fun _ _ => Wd.mono (hp.tx x05)) hws
      refine ⟨z, rfl, ⟨sv, SqL.of hz⟩, ?_⟩
      have nfz : fl ≠ z := fun y => by rw [← y, e4 _ _ gf3] at nz; cases nz
      have nfw : fl ≠ wl := fun y => by rw [← y, nfl0] at hwl; cases hwl
      refine for_list (K := K) (a := z) (xs := sv) (fun i σ H' => ∃ (gvs : List V) (gs : List Gap) (left : Int) (y7 y8 y9 : Option V), σ = [some (.ref p), some (.int wide), some (.ref wl), some (.int dear), some (.ref pl), some (.ref fl), some (.int left), y7, y8, y9] ∧ Exx p H H' ∧ PenAt H' p c (T + 60 + 100 * (i : Nat)) ∧ H' z = some (.lst sv) ∧ Paired (Wd K H') sv su ∧ H' wl = some (.lst us) ∧ Paired (Wd K H') us ws ∧
          H' fl = some (.lst gvs) ∧ Paired (GF K H') gvs gs ∧ DrawnU wide ws gs left ∧ (gs.map gKey).Sublist (su.take i))
        ⟨[], [], 8, _, _, _, rfl, x05, by simpa using hp5, hz, hsv, hwl5, hws5, gf5, .nil, ⟨fun g hg => (by cases hg), by decide, by decide⟩, List.nil_sublist _⟩ ?_ ?_ ?_
      · rintro i σ H' _ ⟨_, _, _, _, _, _, _, _, _, h, _⟩
        exact SqL.of h
      · rintro i x σ H6 hx ⟨gvs, gs, left, y7, y8, y9, rfl, x6, hp6, hz6, hsv6, hwl6, hws6, hf6, hg6, hd6, sub6⟩
        obtain ⟨u0, hu0, hxw⟩ := Paired.get1 hsv6 hx
        obtain ⟨tx, rfl, htx⟩ := hxw
        have il : i < su.length := (List.getElem?_eq_some_iff.mp hu0).1
        obtain ⟨h0, t0, rfl, hne, h00, h01, t00, t01⟩ := hps u0 (pm.mem_iff.mp (List.mem_of_getElem? hu0))
        have h01' : h0 < wide := by omega
        have gvl : gvs.length = gs.length := Paired.len hg6
        have gsl : gs.length ≤ i := by
          have := sub6.length_le
          rw [List.length_map, List.length_take] at this
          omega
        refine ⟨tx, _, rfl, .inl (.inl htx), rfl, _, _, rfl, _, _, rfl, rfl, ?_⟩
        refine ⟨.ref p, rfl, p, c, 5, _, rfl, hp6, by decide, by decide, by omega, fun r H7 _ _ x7 hp7 => ?_⟩
        refine ⟨r, 0, rfl, rfl, _, rfl, ?_⟩
        have subS : (gs.map gKey).Sublist (su.take (i + 1)) := by
          rw [take_succ_get hu0]
          exact sub6.trans (List.sublist_append_left _ _)
        have tx7 := hp6.tx (K := K) x7
        refine ite2 (fun _ => ?_) (fun _ => ?_)
        · have hwl7 := x7 _ _ nwp hwl6
          have hws7 : Paired (Wd K H7) us ws := Paired.imp (fun _ _ => Wd.mono tx7) hws6
          have hf7 := x7 _ _ nflp hf6
          have hz7 := x7 _ _ nzp hz6
          refine ⟨.ref p, rfl, .ref wl, rfl, p, c, wl, _, us, ws, rfl, hp7, by omega, SqL.of hwl7, hws7, smw, by omega, fun H8 z8 bv bu x8 hp8 nz8 hz8 hbv bpm => ?_⟩
          have nz8p : z8 ≠ p := hp7.new1 nz8
          have bvl : bv.length = bu.length := Paired.len hbv
          have bul : bu.length = ws.length := bpm.length_eq
          have bnd : bu.Nodup := bpm.nodup_iff.mpr wnd
          -- how many
          refine ⟨.ref p, rfl, (by show 5 ≤ sizeLine; decide), fun L nL => ?_⟩
          have e9 := Evl.Ex.new (o := .lst [.int 1, .int 1, .int 2, .int 2, .int 0]) nL
          have gL : (upd H8 L (.lst [.int 1, .int 1, .int 2, .int 2, .int 0])) L = some (.lst [.int 1, .int 1, .int 2, .int 2, .int 0]) := upd_same
          have nLp : L ≠ p := hp8.new1 nL
          have hp9 := hp8.ex e9
          generalize upd H8 L (.lst [.int 1, .int 1, .int 2, .int 2, .int 0]) = H9 at e9 gL hp9
          refine ⟨p, c, L, _, _, rfl, hp9, by omega, .inl (.inl gL), nLp, (by simp), (by show 5 ≤ 1000000; decide), fun mv H10 hmv x10 hp10 => ?_⟩
          obtain ⟨m, rfl⟩ : ∃ m : Nat, mv = .int (m : Nat) := by
            simp only [List.mem_cons, List.not_mem_nil, or_false] at hmv
            rcases hmv with rfl | rfl | rfl | rfl | rfl
            · exact ⟨1, rfl⟩
            · exact ⟨1, rfl⟩
            · exact ⟨2, rfl⟩
            · exact ⟨2, rfl⟩
            · exact ⟨0, rfl⟩
          have x810 : Exx p H8 H10 := (Exx.ex e9).trans x10
          have hz10 := x810 _ _ nz8p hz8
          have hbv10 : Paired (Wd K H10) bv bu := Paired.imp (fun _ _ => Wd.mono (hp8.tx x810)) hbv
          refine ⟨(m : Nat), rfl, z8, bv, rfl, SqL.of hz10, fun S nS => ?_⟩
          rw [cut_take]
          have e11 := Evl.Ex.new (o := .lst (bv.take m)) nS
          have gS : (upd H10 S (.lst (bv.take m))) S = some (.lst (bv.take m)) := upd_same
          have hp11 := hp10.ex e11
          generalize upd H10 S (.lst (bv.take m)) = H11 at e11 gS hp11
          have hbt : Paired (Wd K H11) (bv.take m) (bu.take m) := Paired.takeN m (Paired.imp (fun _ _ => wd_ex e11) hbv10)
          have sbt : ∀ w ∈ bu.take m, w ∈ ws := fun w hw => bpm.mem_iff.mp (List.mem_of_mem_take hw)
          have tnd : (bu.take m).Nodup := (List.take_sublist m bu).nodup bnd
          have tl : (bv.take m).length ≤ 8 := by rw [List.length_take]; omega
          refine ⟨S, bv.take m, bu.take m, d, rfl, SqL.of gS, by omega, hbt, fun w hw => hbd w (sbt w hw), tnd, fun ov ou O ol hov opm opw nO => ?_⟩
          have e12 := Evl.Ex.new (o := .lst ov) nO
          have gO : (upd H11 O (.lst ov)) O = some (.lst ov) := upd_same
          have hp12 := hp11.ex e12
          generalize upd H11 O (.lst ov) = H12 at e12 gO hp12
          have ovu : ov.length = ou.length := Paired.len hov
          have left0 := hd6.left0
          obtain ⟨ln, hln⟩ : ∃ ln : Nat, left = (ln : Int) := ⟨left.toNat, by omega⟩
          subst hln
          refine ⟨.int (ln : Nat), rfl, (ln : Nat), rfl, O, ov, rfl, SqL.of gO, fun B9 nB9 => ?_⟩
          rw [cut_take]
          have e13' := Evl.Ex.new (o := .lst (ov.take ln)) nB9
          have gB : (upd H12 B9 (.lst (ov.take ln))) B9 = some (.lst (ov.take ln)) := upd_same
          have hp13 := hp12.ex e13'
          generalize upd H12 B9 (.lst (ov.take ln)) = H13 at e13' gB hp13
          have nB9p : B9 ≠ p := hp12.new1 nB9
          refine ⟨.int (ln : Nat), rfl, .ref B9, rfl, B9, _, rfl, .inl (SqL.of gB), (ln : Int), _, rfl, rfl, ?_⟩
          have hbag : Paired (Wd K H13) (ov.take ln) (ou.take ln) := Paired.takeN ln (Paired.imp (fun _ _ => wd_ex (e12.trans e13')) hov)
          have x713 : Exx p H7 H13 := x8.trans (x810.trans (Exx.ex (e11.trans (e12.trans e13'))))
          have hf13 := x713 _ _ nflp hf7
          -- the gap
          refine ⟨.ref fl, rfl, .inl ⟨rfl, _, SqL.of hf13⟩, .int h0, rfl, .int t0, rfl, ?_⟩
          refine ⟨.ref p, rfl, .int dear, rfl, p, c, dear, _, rfl, hp13, by omega, d1, d2, fun pr H14 pr1 pr2 x14 hp14 => ?_⟩
          have gB14 := x14 _ _ nB9p gB
          refine ⟨.ref B9, rfl, B9, _, rfl, .inl ⟨.inl (.inl gB14), fun W nW => ?_⟩⟩
          have e15 := Evl.Ex.new (o := .tup (ov.take ln)) nW
          have gW : (upd H14 W (.tup (ov.take ln))) W = some (.tup (ov.take ln)) := upd_same
          have hp15 := hp14.ex e15
          generalize upd H14 W (.tup (ov.take ln)) = H15 at e15 gW hp15
          refine ⟨(by show 4 ≤ sizeLine; decide), fun G nG => ?_⟩
          have e16 := Evl.Ex.new (o := .tup [.int h0, .int t0, .int pr, .ref W]) nG
          have gG : (upd H15 G (.tup [.int h0, .int t0, .int pr, .ref W])) G = some (.tup [.int h0, .int t0, .int pr, .ref W]) := upd_same
          have hp16 := hp15.ex e16
          generalize upd H15 G (.tup [.int h0, .int t0, .int pr, .ref W]) = H16 at e16 gG hp16
          have x1316 : Exx p H13 H16 := x14.trans (Exx.ex (e15.trans e16))
          have x716 := x713.trans x1316
          have x616 : Exx p H6 H16 := x7.trans x716
          have tx616 := hp6.tx (K := K) x616
          have hf16 := x616 _ _ nflp hf6
          refine ⟨fl, gvs, _, rfl, rfl, hf16, Nat.lt_of_le_of_lt (by omega : gvs.length ≤ 16) (by decide), ?_⟩
          let g : Gap := ⟨h0, t0, pr, ou.take ln⟩
          have txp : TX K H16 (upd H16 fl (.lst (gvs ++ [.ref G]))) := TX.put hf16
          have hbag16 : Paired (Wd K H16) (ov.take ln) (ou.take ln) := Paired.imp (fun _ _ => Wd.mono (hp13.tx x1316)) hbag
          have gAt : GF K H16 (.ref G) g := ⟨⟨G, W, ov.take ln, rfl, .inl (.inl gG), .inl (.inl (e16 _ _ gW)), hbag16⟩, G, pr, .ref W, rfl, gG⟩
          have otl : (ov.take ln).length = (ou.take ln).length := Paired.len hbag16
          refine ⟨gvs ++ [.ref G], gs ++ [g], (ln : Int) - ((ov.take ln).length : Int), _, _, _, rfl, (x6.trans x616).mut nfl0, (hp16.put nflp nflc).mono (by omega), by rw [upd_ne (Ne.symm nfz)]; exact x616 _ _ nzp hz6, Paired.imp (fun _ _ => Wd.mono (tx616.trans txp)) hsv6, by rw [upd_ne (Ne.symm nfw)]; exact x616 _ _ nwp hwl6, Paired.imp (fun _ _ => Wd.mono (tx616.trans txp)) hws6, upd_same, ?_, ⟨?_, ?_, ?_⟩, ?_⟩
          · exact Paired.imp (fun _ _ => GF.mono txp) (paired_app1 (Paired.imp (fun _ _ => GF.mono tx616) hg6) gAt)
          · intro g' hg'
            rcases List.mem_append.mp hg' with h | h
            · exact hd6.each g' h
            · rw [List.mem_singleton.mp h]
              refine ⟨⟨h00, h01'⟩, ⟨t00, t01⟩, hne, ⟨pr1, pr2⟩, ?_, ?_⟩
              · exact (lex_pairwise opm tnd (fun w hw => hbd w (sbt w hw)) opw).sublist (List.take_sublist ln ou)
              · exact fun w hw => sbt w (opm.mem_iff.mp (List.mem_of_mem_take hw))
          · have h := hd6.sum
            rw [List.map_append, List.sum_append, otl]
            simp only [List.map_cons, List.map_nil, List.sum_cons, List.sum_nil]
            show ((((gs.map (fun g => g.ways.length)).sum + ((ou.take ln).length + 0) : Nat)) : Int) + ((ln : Int) - ((ou.take ln).length : Int)) = 8
            omega
          · have : (ov.take ln).length ≤ ln := by rw [List.length_take]; exact Nat.min_le_left _ _
            omega
          · rw [take_succ_get hu0, List.map_append]
            exact List.Sublist.append sub6 (List.Sublist.refl _)
        · exact ⟨gvs, gs, left, _, _, _, rfl, x6.trans x7, hp7.mono (by omega), x7 _ _ nzp hz6, Paired.imp (fun _ _ => Wd.mono tx7) hsv6, x7 _ _ nwp hwl6, Paired.imp (fun _ _ => Wd.mono tx7) hws6, x7 _ _ nflp hf6, Paired.imp (fun _ _ => GF.mono tx7) hg6, hd6, subS⟩
      · rintro σ H6 ⟨gvs, gs, left, y7, y8, y9, rfl, x6, hp6, hz6, hsv6, hwl6, hws6, hf6, hg6, hd6, sub6⟩
        rw [svl, List.take_length] at sub6
        have gvl : gvs.length = gs.length := Paired.len hg6
        have gsl : gs.length ≤ 16 := by
          have := sub6.length_le
          rw [List.length_map] at this
          omega
        have gnd : (gs.map gKey).Nodup := sub6.nodup snd
        have kx : ∀ x ∈ gvs, ∃ g ∈ gs, GF K H6 x g ∧ kH H6 x = (g.frm, g.to_) := fun x hx => by
          obtain ⟨i, hi⟩ := List.mem_iff_getElem?.mp hx
          obtain ⟨g, hg, hgf⟩ := Paired.get1 hg6 hi
          exact ⟨g, List.mem_of_getElem? hg, hgf, kH_of hgf.2⟩
        refine ⟨.ref fl, rfl, fl, gvs, kH H6, rfl, SqL.of hf6, by omega, fun x hx => ?_, fun x hx y hy e => ?_, fun ys O pmy pw nO => ?_⟩
        · obtain ⟨g, hg, ⟨_, t, q0, y0, rfl, ht⟩, hk⟩ := kx x hx
          obtain ⟨⟨a1, a2⟩, ⟨a3, a4⟩, _⟩ := hd6.each g hg
          refine ⟨t, q0, y0, rfl, ?_, ?_⟩
          · rw [hk]
            exact .inl (.inl ht)
          · rw [hk]
            exact ⟨a1, by show g.frm < 4; omega, a3, by show g.to_ < 4; omega⟩
        · obtain ⟨i, hi⟩ := List.mem_iff_getElem?.mp hx
          obtain ⟨j, hj⟩ := List.mem_iff_getElem?.mp hy
          obtain ⟨g, hg, hgf⟩ := Paired.get1 hg6 hi
          obtain ⟨g', hg', hgf'⟩ := Paired.get1 hg6 hj
          rw [kH_of hgf.2, kH_of hgf'.2] at e
          have ek : gKey g = gKey g' := by
            have q1 : g.frm = g'.frm := congrArg Prod.fst e
            have q2 : g.to_ = g'.to_ := congrArg Prod.snd e
            unfold gKey
            rw [q1, q2]
          have e1 : (gs.map gKey)[i]? = some (gKey g) := by rw [List.getElem?_map, hg]; rfl
          have e2 : (gs.map gKey)[j]? = some (gKey g) := by rw [List.getElem?_map, hg', ek]; rfl
          have il := (List.getElem?_eq_some_iff.mp e1).1
          have ij : i = j := (List.getElem?_inj il gnd).mp (e1.trans e2.symm)
          subst ij
          rw [hi] at hj
          exact Option.some.inj hj
        · obtain ⟨gs2, gpm, hgy⟩ := paired_perm pmy hg6
          have e7 := Evl.Ex.new (o := .lst ys) nO
          have gO : (upd H6 O (.lst ys)) O = some (.lst ys) := upd_same
          have hp7 := hp6.ex e7
          generalize upd H6 O (.lst ys) = H7 at e7 gO hp7
          refine ⟨O, ys, rfl, .inl ⟨.inl (.inl gO), fun t nt => ?_⟩⟩
          have e8 := Evl.Ex.new (o := .tup ys) nt
          have gt : (upd H7 t (.tup ys)) t = some (.tup ys) := upd_same
          have hp8 := hp7.ex e8
          generalize upd H7 t (.tup ys) = H8 at e8 gt hp8
          refine q H8 t ys gs2 left (x6.trans (Exx.ex (e7.trans e8))) (hp8.mono (by omega)) (.inl (.inl gt)) (Paired.imp (fun _ _ h => GapAt.mono (TX.ex (e7.trans e8)) h.1) hgy) ⟨⟨fun g hg => hd6.each g (gpm.mem_iff.mp hg), ?_, hd6.left0⟩, ?_⟩
          · rw [(gpm.map (fun g => g.ways.length)).sum_nat]
            exact hd6.sum
          · have nd2 : (gs2.map gKey).Nodup := (gpm.map gKey).nodup_iff.mpr gnd
            rw [List.pairwise_iff_getElem]
            intro i j hi hj hij
            have ysl : ys.length = gs2.length := Paired.len hgy
            obtain ⟨gi, hgi, fi⟩ := Paired.get1 hgy (List.getElem?_eq_getElem (show i < ys.length by omega))
            obtain ⟨gj, hgj, fj⟩ := Paired.get1 hgy (List.getElem?_eq_getElem (show j < ys.length by omega))
            have c := List.pairwise_iff_getElem.mp pw i j (by omega) (by omega) hij
            rw [kH_of fi.2, kH_of fj.2] at c
            have ei : gs2[i] = gi := by rw [List.getElem?_eq_getElem hi] at hgi; exact Option.some.inj hgi
            have ej : gs2[j] = gj := by rw [List.getElem?_eq_getElem hj] at hgj; exact Option.some.inj hgj
            have ne := List.pairwise_iff_getElem.mp nd2 i j (by rw [List.length_map]; exact hi) (by rw [List.length_map]; exact hj) hij
            rw [List.getElem_map, List.getElem_map, ei, ej] at ne
            rw [ei, ej]
            obtain ⟨⟨a1, a2⟩, ⟨a3, a4⟩, _⟩ := hd6.each gi (gpm.mem_iff.mp (by rw [← ei]; exact List.getElem_mem hi))
            obtain ⟨⟨b1, b2⟩, ⟨b3, b4⟩, _⟩ := hd6.each gj (gpm.mem_iff.mp (by rw [← ej]; exact List.getElem_mem hj))
            unfold TS.rk4 at c
            have c' : 4 * gi.frm + gi.to_ ≤ 4 * gj.frm + gj.to_ := c
            unfold gKey at ne
            have ne' : ¬ (gi.frm = gj.frm ∧ gi.to_ = gj.to_) := fun z => ne (by rw [z.1, z.2])
            unfold lexLt2
            omega
end
end Wb

set_option Elab.async false
set_option linter.all false
set_option maxRecDepth 100000
set_option maxHeartbeats 4000000
set_option pp.maxSteps 600
set_option pp.deepTerms false
namespace Wb
open PySem PySem.Spec PyProof.Rows L2
abbrev sLock : Stmt := topS 44
abbrev nLock : List Str := ["_law_pen_here", "_law_many", "_law_top", "_law_dear", "_law_k", "_law_counts", "_law_bolts", "_law_spare", "_law_bases_here", "_law_words", "_law_count"]
theorem scLock : FnScope nLock ["_law_pen_here", "_law_many", "_law_top", "_law_dear"] (defScope sLock) := ⟨rfl, rfl, rfl, by decide +kernel, rfl, by decide +kernel, by decide +kernel⟩
/-! ### locks as they are drawn -/
structure BGood (wds : List Int) (srcs : List Word) (k : Nat) (b : Bolt) : Prop where
  many : wds[k]? = some b.many
  ex : ∃ ws left, Drawn b.many ws b.gaps left ∧ ∀ w ∈ ws, InAll w (wds.take k) ∧ ∃ s ∈ srcs, w = s.take k
theorem BGood.mono {wds : List Int} {srcs srcs' : List Word} {k : Nat} {b : Bolt} (h : BGood wds srcs k b) (hs : ∀ s ∈ srcs, s ∈ srcs') : BGood wds srcs' k b := by
  obtain ⟨m, ws, left, a, d⟩ := h
  refine ⟨m, ws, left, a, fun w hw => ?_⟩
  obtain ⟨h1, s, h2, h3⟩ := d w hw
  exact ⟨h1, s, hs s h2, h3⟩
theorem lockOk_drawn {wds : List Int} {srcs : List Word} {l : Lock} (hl : l.length = wds.length) (h0 : 1 ≤ l.length) (h60 : l.length ≤ 60) (hw : ∀ x ∈ wds, 2 ≤ x ∧ x ≤ 4) (hs : srcs.length ≤ 8)
    (hb : ∀ k b, l[k]? = some b → BGood wds srcs k b) : LockOk l := by
  have mk : ∀ k, k ≤ l.length → manysOf (l.take k) = wds.take k := by
    intro k hk
    apply List.ext_getElem?
    intro i
    unfold manysOf
    rw [List.getElem?_map, List.getElem?_take, List.getElem?_take]
    by_cases hi : i < k
    · rw [if_pos hi, if_pos hi]
      have hil : i < l.length := by omega
      rw [List.getElem?_eq_getElem hil]
      rw [(hb i l[i] (List.getElem?_eq_getElem hil)).many]
      rfl
    · rw [if_neg hi, if_neg hi]
      rfl
  refine ⟨h0, h60, fun k b hk => ?_, fun k ws hk hn hc => ?_⟩
  · have kl : k < l.length := (List.getElem?_eq_some_iff.mp hk).1
    obtain ⟨hm, ws, left, hd, hws⟩ := hb k b hk
    rw [mk k (Nat.le_of_lt kl)]
    have hm2 := hw _ (List.mem_of_getElem? hm)
    have sum8 : (b.gaps.map (fun g => g.ways.length)).sum ≤ 8 := by
      have h1 := hd.sum
      have h2 := hd.left0
      omega
    refine ⟨hm2.1, hm2.2, fun g hg => ?_, hd.rise, sum8⟩
    obtain ⟨⟨a1, a2⟩, ⟨a3, a4⟩, a5, ⟨a6, a7⟩, a8, a9⟩ := hd.each g hg
    have g8 : g.ways.length ≤ 8 := by
      have : g.ways.length ≤ (b.gaps.map (fun g => g.ways.length)).sum := le_sum (List.mem_map.mpr ⟨g, hg, rfl⟩)
      omega
    refine ⟨a1, a2, a3, a4, a5, a6, a7, g8, fun w' hw' => ?_, a8⟩
    have := (hws w' (a9 w' hw')).1
    exact ⟨this.1, this.2⟩
  · have : ws.length ≤ (srcs.map (fun s => s.take k)).length := by
      refine nodup_le hn fun w' hw' => ?_
      obtain ⟨j, b, g, u, hj, hbj, hg, hu, rfl⟩ := hc w' hw'
      obtain ⟨_, ws', left, hd, hws⟩ := hb j b hbj
      obtain ⟨_, s, hs', rfl⟩ := hws u ((hd.each g hg).2.2.2.2.2 u hu)
      refine List.mem_map.mpr ⟨s, hs', ?_⟩
      rw [List.take_take, Nat.min_eq_left hj]
    rw [List.length_map] at this
    omega

def spLock (K : PySem.W.Frag) : Sp := fun vs H Q _ => ∃ (p c : Addr) (many dear T : Int), vs = [.ref p, .int many, .int 4, .int dear] ∧ PenAt H p c T ∧ T ≤ 7000000 ∧ 1 ≤ many ∧ many ≤ 60 ∧ 1 ≤ dear ∧ dear ≤ 1000000 ∧
  ∀ H' v l, Exx p H H' → PenAt H' p c (T + 160000) → LockAt K H' v l → LockOk l → (l.length : Int) = many → Q v H'
theorem small_in {wds : List Int} {u : Word} (h : InAll u wds) (hl : wds.length ≤ 60) (hw : ∀ x ∈ wds, 2 ≤ x ∧ x ≤ 4) : u.length ≤ 60 ∧ ∀ x ∈ u, 0 ≤ x ∧ x < 4 := by
  refine ⟨by have := h.1; omega, fun x hx => ?_⟩
  obtain ⟨j, hj, rfl⟩ := List.getElem_of_mem hx
  have hjk : j < wds.length := by have := h.1; omega
  have := h.2 j _ _ (List.getElem?_eq_getElem hj) (List.getElem?_eq_getElem hjk)
  have h4 := hw wds[j] (List.getElem_mem hjk)
  omega
section
variable {P : Program} {w : World} {K : PySem.W.Frag} {mg : Str → Option Value} {base : Heap}
theorem ok_lock {f f1 f2 f3 f4 f5 f6 f7 : Addr} {fd fd1 fd2 fd3 fd4 fd5 fd6 fd7 : FuncData} (F : Fun K "_law_lock" "_law_lock" sLock f fd) (F1 : Fun K "_law_draw" "_law_draw" sDraw f1 fd1) (b1 : Binds K fd1 ["_law_pen_here", "_law_many"] []) (g1 : mg "_law_draw" = some (.ref f1))
    (F2 : Fun K "_law_pick" "_law_pick" sPick f2 fd2) (b2 : Binds K fd2 ["_law_pen_here", "_law_bag"] []) (g2 : mg "_law_pick" = some (.ref f2))
    (F3 : Fun K "_law_shuffled" "_law_shuffled" sShuf f3 fd3) (b3 : Binds K fd3 ["_law_pen_here", "_law_bag"] []) (g3 : mg "_law_shuffled" = some (.ref f3))
    (F4 : Fun K "_law_price" "_law_price" sPrc f4 fd4) (b4 : Binds K fd4 ["_law_pen_here", "_law_dear"] []) (g4 : mg "_law_price" = some (.ref f4))
    (F5 : Fun K "_law_bases" "_law_bases" sBases f5 fd5) (b5 : Binds K fd5 ["_law_pen_here", "_law_counts", "_law_most"] []) (g5 : mg "_law_bases" = some (.ref f5))
    (F6 : Fun K "_law_cuts" "_law_cuts" sCuts f6 fd6) (b6 : Binds K fd6 ["_law_words", "_law_many"] []) (g6 : mg "_law_cuts" = some (.ref f6))
    (F7 : Fun K "_law_gaps" "_law_gaps" sGaps f7 fd7) (b7 : Binds K fd7 ["_law_pen_here", "_law_count", "_law_words", "_law_dear"] []) (g7 : mg "_law_gaps" = some (.ref f7)) (B : Bi mg) :
    FnOk P w K mg base CX0 5 f fd ["_law_pen_here", "_law_many", "_law_top", "_law_dear"] (spLock K) := by
  have G1 : FnOk P w K mg base CX0 1 f1 fd1 ["_law_pen_here", "_law_many"] spDraw := ok_draw F1 B
  have G5 : FnOk P w K mg base CX0 2 f5 fd5 ["_law_pen_here", "_law_counts", "_law_most"] (spBases K) := ok_bases F5 F1 b1 g1 B
  have G6 : FnOk P w K mg base CX0 1 f6 fd6 ["_law_words", "_law_many"] (spCuts K) := ok_cuts F6
  have G7 : FnOk P w K mg base CX0 4 f7 fd7 ["_law_pen_here", "_law_count", "_law_words", "_law_dear"] (spGaps K) := ok_gaps F7 F1 b1 g1 F2 b2 g2 F3 b3 g3 F4 b4 g4 B
  refine F.ok scLock (fun vs H Q E h => ?_) (fun cdv A outer s H vs Q E hr h => ?_)
  · obtain ⟨p, c, many, dear, T, rfl, _⟩ := h; rfl
  · obtain ⟨p, c, many, dear, T, rfl, hp, T8, m1, m60, dd1, dd2, q⟩ := h
    have hr1 : Room 1 _ := hr.mono (by decide)
    have hr2 : Room 2 _ := hr.mono (by decide)
    refine ⟨_, pss_cons (ps_par3 (by rfl) scLock.nd (i := 5) (j := 6) (l := 7) rfl rfl rfl (by decide) (by decide) (by decide) rfl rfl rfl (pa_cons (pe_lc (own := [("_law_k", 4)]) (g := gName 4) rfl scLock.nd (pi_range1 (by rfl) B.range (pa_cons (pv 1) pa_nil)) (blkOk_by (own := [("_law_k", 4)]) (N := nLock) (sc := defScope sLock) (by decide +kernel)) (fun _ _ _ _ _ => pg_name (i := 4) scLock.nd rfl (Or.inl rfl)) (fun _ _ _ _ _ => pts_nil) (fun _ _ _ _ _ => pe_op op_add pe_int (pe_call G1 hr1 (by rfl) g1 F1.kp b1 .nil pass0 (pa_cons (pv 0) (pa_cons (pe_op op_sub (pv 2) pe_int) pa_nil))))) (pa_cons (pe_lst pa_nil) (pa_cons pe_int pa_nil))) (by rfl))
      (pss_cons (ps_set (i := 8) scLock.nd rfl (.inl rfl) (pe_call G5 hr2 (by rfl) g5 F5.kp b5 .nil pass0 (pa_cons (pv 0) (pa_cons (pv 5) (pa_cons pe_int pa_nil)))))
      (pss_cons (ps_for PassesOwn.never rfl (pi_range1 (by rfl) B.range (pa_cons (pv 1) pa_nil)) (pg_name (i := 4) scLock.nd rfl (.inl rfl))
        (pss_cons (ps_set (i := 9) scLock.nd rfl (.inl rfl) (pe_call G6 hr1 (by rfl) g6 F6.kp b6 .nil pass0 (pa_cons (pv 8) (pa_cons (pv 4) pa_nil))))
        (Evl.pss_cut (ps_if (PW.pt (pw_and (pt_cmpR op_gt (pv 4) pe_int (nomark _)) (pw_and (pt_cmpR op_gt (pv 7) pe_int (nomark _)) (pw_and1 (pt_cmpR op_eq (pe_call G1 hr1 (by rfl) g1 F1.kp b1 .nil pass0 (pa_cons (pv 0) (pa_cons pe_int pa_nil))) pe_int (nomark _))))))
            (pss_cons (ps_set (i := 9) scLock.nd rfl (.inl rfl) (pe_call G6 hr1 (by rfl) g6 F6.kp b6 .nil pass0 (pa_cons (pe_op op_cat (pv 9) (pe_lst (pa_cons (pe_callTy (r := rTupK K) call_tupK (by rfl) B.tuple PyProof.Rows.boot_tuple (pa_cons
                (pe_lc (own := [("_law_count", 10)]) (g := gName 10) rfl scLock.nd (pi_list (pe_slice sl_list (pv 5) po_none (po_some (pv 4)))) (blkOk_by (own := [("_law_count", 10)]) (N := nLock) (sc := defScope sLock) (by decide +kernel))
                  (fun _ _ _ _ _ => pg_name (i := 10) scLock.nd rfl (Or.inl rfl)) (fun _ _ _ _ _ => pts_nil)
                  (fun _ _ _ _ _ => pe_call G1 hr1 (by rfl) g1 F1.kp b1 .nil pass0 (pa_cons (pv 0) (pa_cons (pv 10) pa_nil)))) pa_nil)) pa_nil))) (pa_cons (pv 4) pa_nil))))
            (pss_one (ps_set (i := 7) scLock.nd rfl (.inl rfl) (pe_op op_sub (pv 7) pe_int)))) pss_nil)
        (pss_one (ps_expr (pe_bm PySem.F.plainAttrs_list PySem.F.slot_list_append PySem.F.type_list_append mt_append (pv 6) (pa_cons
          (pe_tup (pa_cons (pe_ix ix_list (pv 5) (pv 4) (fun _ _ => rfl)) (pa_cons (pe_call G7 hr (by rfl) g7 F7.kp b7 .nil pass0 (pa_cons (pv 0) (pa_cons (pe_ix ix_list (pv 5) (pv 4) (fun _ _ => rfl)) (pa_cons (pv 9) (pa_cons (pv 3) pa_nil))))) pa_nil))) pa_nil)))))))
      (pss_one (ps_ret (pe_callTy (r := rTupK K) call_tupK (by rfl) B.tuple PyProof.Rows.boot_tuple (pa_cons (pv 6) pa_nil)))))), ?_⟩
    refine ⟨.int many, rfl, many, rfl, by omega, by omega, fun W nW => ?_⟩
    have nWp : W ≠ p := hp.new1 nW
    have nWc : W ≠ c := hp.new2 nW
    refine lc_range (lo := 0) (n := many.toNat) (fun i H' => ∃ wds : List Int, Exx p H H' ∧ PenAt H' p c (T + (i : Nat)) ∧ H' W = some (.lst (wds.map V.int)) ∧ wds.length = i ∧ ∀ x ∈ wds, 2 ≤ x ∧ x ≤ 4) ⟨[], Exx.ex (Evl.Ex.new nW), ?_, upd_same, rfl, fun x hx => (by cases hx)⟩ ?_ ?_
    · have := hp.put (o := .lst []) nWp nWc
      simpa using this
    · rintro i H1 hi ⟨wds, x1, hp1, hW1, wl, hw⟩
      refine ⟨rfl, ?_⟩
      refine ⟨.ref p, rfl, .int 4, rfl, 4, 1, rfl, rfl, p, c, _, _, rfl, hp1, (by decide : (1 : Int) ≤ 4 - 1), (by decide : (4 : Int) - 1 ≤ 1000000), by omega, fun r H2 r0 r1 x2 hp2 => ?_⟩
      refine ⟨2, r, rfl, rfl, _, x2 _ _ nWp hW1, Nat.lt_of_le_of_lt (by rw [List.length_map, wl]; omega : (wds.map V.int).length ≤ 60) (by decide), wds ++ [2 + r], (x1.trans x2).mut nW, (hp2.put nWp nWc).mono (by omega), by rw [upd_same, List.map_append]; rfl, by rw [List.length_append, wl]; rfl, ?_⟩
      intro x hx
      rcases List.mem_append.mp hx with h | h
      · exact hw x h
      · have : x = 2 + r := by simpa using h
        omega
    · rintro H1 ⟨wds, x1, hp1, hW1, wl, hw⟩
      refine ⟨Nat.zero_le _, fun bl nbl => ?_⟩
      have nblp : bl ≠ p := hp1.new1 nbl
      have nblc : bl ≠ c := hp1.new2 nbl
      have nblW : bl ≠ W := fun z => by rw [z, hW1] at nbl; cases nbl
      have e2 := Evl.Ex.new (o := .lst []) nbl
      have hbl2 : (upd H1 bl (.lst [])) bl = some (.lst []) := upd_same
      generalize upd H1 bl (.lst []) = H3 at e2 hbl2
      refine ⟨.ref W, .ref bl, .int 4, rfl, ?_⟩
      have hW3 : H3 W = some (.lst (wds.map V.int)) := e2 _ _ hW1
      have hp3 := hp1.ex e2
      have x3 : Exx p H H3 := x1.trans (Exx.ex e2)
      have nbl0 : H bl = none := fresh_exx x1 hp1.here nbl
      have wlen : (wds.length : Int) = many := by omega
      have wds60 : wds.length ≤ 60 := by omega
      have hw1 : ∀ x ∈ wds, 1 ≤ x ∧ x ≤ 1000000 := fun x hx => by have := hw x hx; omega
      refine ⟨.ref p, rfl, .ref W, rfl, p, c, W, 3, _, wds, rfl, hp3, by omega, hW3, nWp, by decide, by decide, wds60, (fun x hx => by have := hw x hx; omega), fun H4 bs bvs bases x4 hp4 nbs hbs hbv bl3 hb => ?_⟩
      have nbsp : bs ≠ p := hp3.new1 nbs
      have nbsbl : bs ≠ bl := fun z => by rw [z, hbl2] at nbs; cases nbs
      have nbsW : bs ≠ W := fun z => by rw [z, hW3] at nbs; cases nbs
      have hW4 := x4 _ _ nWp hW3
      have hbl4 := x4 _ _ nblp hbl2
      have smb : SmallW bases := fun u hu => by
        obtain ⟨a, b⟩ := small_in (hb u hu) wds60 hw
        exact ⟨a, fun x hx => by have := b x hx; omega⟩
      -- the bolts
      refine ⟨.int many, rfl, many, rfl, by omega, by omega, ?_⟩
      refine for_range (lo := 0) (n := many.toNat) (fun k σ H' => ∃ (spare : Int) (lvs : List V) (l : Lock) (srcs : List Word) (y4 y9 y10 : Option V), σ = [some (.ref p), some (.int many), some (.int 4), some (.int dear), y4, some (.ref W), some (.ref bl), some (.int spare), some (.ref bs), y9, y10] ∧
          Exx p H H' ∧ PenAt H' p c (T + 300 + 2200 * (k : Nat)) ∧ H' W = some (.lst (wds.map V.int)) ∧ H' bs = some (.lst bvs) ∧ Paired (Wd K H') bvs bases ∧ H' bl = some (.lst lvs) ∧ Paired (BoltAt K H') lvs l ∧ l.length = k ∧
          (∀ s ∈ bases, s ∈ srcs) ∧ (srcs.length : Int) + spare ≤ 8 ∧ 0 ≤ spare ∧ ∀ j b, l[j]? = some b → BGood wds srcs j b)
        ⟨4, [], [], bases, _, _, _, rfl, x3.trans x4, hp4.mono (by omega), hW4, hbs, hbv, hbl4, .nil, rfl, fun s h => h, by omega, by decide, fun j b h => by simp at h⟩ ?_ ?_
      · rintro k σ H6 hk ⟨spare, lvs, l, srcs, y4, y9, y10, rfl, x6, hp6, hW6, hbs6, hbv6, hbl6, hlv6, ll, hsub, hspare, spare0, hgood⟩
        have ek : (0 : Int) + (k : Nat) = ((k : Nat) : Int) := by omega
        rw [ek]
        have kl : k < wds.length := by omega
        refine ⟨.ref bs, rfl, .int (k : Nat), rfl, bs, k, bvs, bases, rfl, SqL.of hbs6, hbv6, smb, by omega, fun H7 wlA wv us e7 nwl hwl7 hwv7 und hus ulen => ?_⟩
        have hp7 := hp6.ex e7
        have nwlp : wlA ≠ p := hp6.new1 nwl
        have w0 : ∀ u ∈ us, InAll u (wds.take k) ∧ ∃ s ∈ srcs, u = s.take k := fun u hu => by
          obtain ⟨b0, hb0, rfl⟩ := hus u hu
          exact ⟨inAll_take (hb b0 hb0) k, b0, hsub b0 hb0, rfl⟩
        refine ⟨fun σ' H' => ∃ (spare' : Int) (wlB : Addr) (vs' : List V) (words : List Word) (srcs' : List Word) (y10 : Option V), σ' = [some (.ref p), some (.int many), some (.int 4), some (.int dear), some (.int (k : Nat)), some (.ref W), some (.ref bl), some (.int spare'), some (.ref bs), some (.ref wlB), y10] ∧
            Exx p H6 H' ∧ PenAt H' p c (T + 300 + 2200 * (k : Nat) + 70) ∧ wlB ≠ p ∧ H' wlB = some (.lst vs') ∧ Paired (Wd K H') vs' words ∧ words.length ≤ 4 ∧ words.Nodup ∧ (∀ u ∈ words, InAll u (wds.take k) ∧ ∃ s ∈ srcs', u = s.take k) ∧ (∀ s ∈ srcs, s ∈ srcs') ∧ (srcs'.length : Int) + spare' ≤ 8 ∧ 0 ≤ spare', ?_, ?_⟩
        · have same : ∀ {Hx : Hp} {z10 : Option V}, Exx p H7 Hx → PenAt Hx p c (T + 300 + 2200 * (k : Nat) + 70) → ∃ (spare' : Int) (wlB : Addr) (vs' : List V) (words : List Word) (srcs' : List Word) (y10 : Option V), ([some (.ref p), some (.int many), some (.int 4), some (.int dear), some (.int (k : Nat)), some (.ref W), some (.ref bl), some (.int spare), some (.ref bs), some (.ref wlA), z10] : L2.St) = [some (.ref p), some (.int many), some (.int 4), some (.int dear), some (.int (k : Nat)), some (.ref W), some (.ref bl), some (.int spare'), some (.ref bs), some (.ref wlB), y10] ∧
              Exx p H6 Hx ∧ PenAt Hx p c (T + 300 + 2200 * (k : Nat) + 70) ∧ wlB ≠ p ∧ Hx wlB = some (.lst vs') ∧ Paired (Wd K Hx) vs' words ∧ words.length ≤ 4 ∧ words.Nodup ∧ (∀ u ∈ words, InAll u (wds.take k) ∧ ∃ s ∈ srcs', u = s.take k) ∧ (∀ s ∈ srcs, s ∈ srcs') ∧ (srcs'.length : Int) + spare' ≤ 8 ∧ 0 ≤ spare' := by
            intro Hx z10 ex hpx
            exact ⟨spare, wlA, wv, us, srcs, _, rfl, (Exx.ex e7).trans ex, hpx, nwlp, ex _ _ nwlp hwl7, Paired.imp (fun _ _ => Wd.mono (hp7.tx ex)) hwv7, by omega, und, w0, fun s h => h, hspare, spare0⟩
          refine ⟨.int (k : Nat), rfl, (k : Nat), 0, rfl, rfl, _, rfl, ?_⟩
          refine ite2 (fun _ => ?_) (fun _ => same (Exx.refl p H7) (hp7.mono (by omega)))
          refine ⟨.int spare, rfl, spare, 0, rfl, rfl, _, rfl, ?_⟩
          refine ite2 (fun hgt => ?_) (fun _ => same (Exx.refl p H7) (hp7.mono (by omega)))
          have hgt' : 0 < spare := of_decide_eq_true hgt
          refine ⟨.ref p, rfl, p, c, 4, _, rfl, hp7, by decide, by decide, by omega, fun r' H8 _ _ x8 hp8 => ?_⟩
          refine ⟨rfl, _, rfl, ?_⟩
          refine ite2 (fun _ => ?_) (fun _ => same x8 (hp8.mono (by omega)))
          -- one word more
          have hwl8 := x8 _ _ nwlp hwl7
          have hW8 : H8 W = some (.lst (wds.map V.int)) := x8 _ _ nWp (e7 _ _ hW6)
          have hwv8 : Paired (Wd K H8) wv us := Paired.imp (fun _ _ => Wd.mono (hp7.tx x8)) hwv7
          refine ⟨.ref wlA, rfl, ?_⟩
          refine tcons1 ?_
          refine tcb1 ?_
          refine lc_draws (K := K) (vs := [10]) (i := 10) (wds := wds.take k) (p := p) (c := c) (T := T + 300 + 2200 * (k : Nat) + 1) (hp8.mono (by omega)) ?_ (by omega) (fun x hx => hw1 x (List.mem_of_mem_take hx)) (by rw [List.length_take]; omega) ?_ ?_ ?_ ?_
          rotate_left
          · exact fun _ => rfl
          · exact fun _ => rfl
          · exact fun _ => rfl
          rotate_left
          · intro Q' h
            refine ⟨.ref W, rfl, .int (k : Nat), rfl, (k : Nat), rfl, W, _, rfl, .inl (.inl hW8), fun S nS => ?_⟩
            rw [cut_take, ← List.map_take]
            have e9 := Evl.Ex.new (o := .lst ((wds.take k).map V.int)) nS
            exact h S _ (Exx.ex e9) ((hp8.ex e9).mono (by omega)) (.inl (.inl upd_same)) (hp8.new1 nS)
          · intro H9 D xs x9 hp9 nD hD hin
            have hpt : (((wds.take k).length : Nat) : Int) ≤ 60 := by rw [List.length_take]; omega
            refine ⟨D, _, rfl, .inl ⟨.inl (.inl hD), fun t nt => ?_⟩⟩
            have e10 := Evl.Ex.new (o := .tup (xs.map V.int)) nt
            have gt : (upd H9 t (.tup (xs.map V.int))) t = some (.tup (xs.map V.int)) := upd_same
            generalize upd H9 t (.tup (xs.map V.int)) = H10 at e10 gt
            refine ⟨(by show 1 ≤ sizeLine; decide), fun one n1 => ?_⟩
            have e11 := Evl.Ex.new (o := .lst [.ref t]) n1
            have g1' : (upd H10 one (.lst [.ref t])) one = some (.lst [.ref t]) := upd_same
            generalize upd H10 one (.lst [.ref t]) = H11 at e11 g1'
            have x811 : Exx p H8 H11 := x9.trans (Exx.ex (e10.trans e11))
            have hwl11 := x811 _ _ nwlp hwl8
            have wvl : wv.length = us.length := Paired.len hwv8
            refine ⟨wlA, one, _, _, rfl, rfl, hwl11, g1', Nat.le_trans (by rw [List.length_singleton]; omega : wv.length + [V.ref t].length ≤ 10) (by decide), fun cat nc => ?_⟩
            have e12 := Evl.Ex.new (o := .lst (wv ++ [.ref t])) nc
            have gc : (upd H11 cat (.lst (wv ++ [.ref t]))) cat = some (.lst (wv ++ [.ref t])) := upd_same
            generalize upd H11 cat (.lst (wv ++ [.ref t])) = H12 at e12 gc
            have x812 : Exx p H8 H12 := x811.trans (Exx.ex e12)
            have hpw : Paired (Wd K H12) (wv ++ [.ref t]) (us ++ [xs]) := paired_app1 (Paired.imp (fun _ _ => Wd.mono (hp8.tx x812)) hwv8) ⟨t, rfl, (e11.trans e12) _ _ gt⟩
            have xl : xs.length = k := by
              have := hin.1
              rw [List.length_take] at this
              omega
            have wk4 : ∀ x ∈ wds.take k, 2 ≤ x ∧ x ≤ 4 := fun x hx => hw x (List.mem_of_mem_take hx)
            have sm2 : SmallW (us ++ [xs]) := fun u hu => by
              have : InAll u (wds.take k) := by
                rcases List.mem_append.mp hu with h | h
                · exact (w0 u h).1
                · rw [List.mem_singleton.mp h]; exact hin
              obtain ⟨a, b⟩ := small_in this (by rw [List.length_take]; omega) wk4
              exact ⟨a, fun x hx => by have := b x hx; omega⟩
            refine ⟨.int (k : Nat), rfl, cat, k, _, _, rfl, SqL.of gc, hpw, sm2, by rw [List.length_append, List.length_singleton]; omega, fun H13 wlB vs' words e13 nwB hwB hv' wnd hws' wl4 => ?_⟩
            refine ⟨.int spare, rfl, spare, 1, rfl, rfl, ?_⟩
            have hp13 := (hp9.ex (e10.trans (e11.trans (e12.trans e13))))
            have nwBp : wlB ≠ p := (hp9.ex (e10.trans (e11.trans e12))).new1 nwB
            refine ⟨spare - 1, wlB, vs', words, srcs ++ [xs], _, rfl, (Exx.ex e7).trans (x8.trans (x812.trans (Exx.ex e13))), hp13.mono (by omega), nwBp, hwB, hv', by rw [List.length_append, List.length_singleton] at wl4; omega, wnd, ?_, fun s h => List.mem_append_left _ h, by rw [List.length_append, List.length_singleton]; omega, by omega⟩
            intro u hu
            obtain ⟨w', hw', rfl⟩ := hws' u hu
            rcases List.mem_append.mp hw' with h | h
            · obtain ⟨h1, s', h2, h3⟩ := w0 w' h
              have lw : w'.length = k := by
                have := h1.1
                rw [List.length_take] at this
                omega
              rw [List.take_of_length_le (by omega)]
              exact ⟨h1, s', List.mem_append_left _ h2, h3⟩
            · rw [List.mem_singleton.mp h, List.take_of_length_le (by omega)]
              exact ⟨hin, xs, List.mem_append_right _ (by simp), by rw [List.take_of_length_le (by omega)]⟩
        · rintro σ' H8 ⟨spare', wlB, vs', words, srcs', z10, rfl, x8, hp8, nwBp, hwB8, hv8, wd4, wnd, hwords, hsrcs, hspare', spare0'⟩
          have hW8 : H8 W = some (.lst (wds.map V.int)) := x8 _ _ nWp hW6
          have hbl8 : H8 bl = some (.lst lvs) := x8 _ _ nblp hbl6
          obtain ⟨wd, hwd⟩ : ∃ wd, wds[k]? = some wd := ⟨wds[k], List.getElem?_eq_getElem kl⟩
          have hwd2 := hw wd (List.mem_of_getElem? hwd)
          have wk4 : ∀ x ∈ wds.take k, 2 ≤ x ∧ x ≤ 4 := fun x hx => hw x (List.mem_of_mem_take hx)
          have bd : ∀ u ∈ words, u.length = k ∧ TS.Bd 4 u := fun u hu => by
            obtain ⟨h1, _⟩ := hwords u hu
            obtain ⟨_, b⟩ := small_in h1 (by rw [List.length_take]; omega) wk4
            have := h1.1
            rw [List.length_take] at this
            exact ⟨by omega, b⟩
          refine ⟨.ref bl, rfl, .inl ⟨rfl, _, SqL.of hbl8⟩, ?_⟩
          refine ⟨.ref W, rfl, .int (k : Nat), rfl, W, _, (k : Nat), .int wd, rfl, rfl, .inl (.inl hW8), atI_nat (map_int_get hwd), ?_⟩
          refine ⟨.ref p, rfl, .ref W, rfl, .int (k : Nat), rfl, W, _, (k : Nat), .int wd, rfl, rfl, .inl (.inl hW8), atI_nat (map_int_get hwd), ?_⟩
          refine ⟨.ref wlB, rfl, .int dear, rfl, p, c, wlB, wd, dear, _, vs', words, k, rfl, hp8, by omega, hwd2.1, hwd2.2, dd1, dd2, nwBp, hwB8, hv8, by omega, wnd, by omega, bd, fun H11 ga gvs gs left x11 hp11 hga hgv hdr => ?_⟩
          refine ⟨(by show 2 ≤ sizeLine; decide), fun bt nbt => ?_⟩
          have e12 := Evl.Ex.new (o := .tup [.int wd, .ref ga]) nbt
          have hbt : (upd H11 bt (.tup [.int wd, .ref ga])) bt = some (.tup [.int wd, .ref ga]) := upd_same
          have hp12 := hp11.ex e12
          generalize upd H11 bt (.tup [.int wd, .ref ga]) = H12 at e12 hbt hp12
          have x812 : Exx p H8 H12 := x11.trans (Exx.ex e12)
          have x612 : Exx p H6 H12 := x8.trans x812
          have hbl12 : H12 bl = some (.lst lvs) := x812 _ _ nblp hbl8
          have tx612 : TX K H6 H12 := hp6.tx x612
          have lvl : lvs.length = l.length := Paired.len hlv6
          have hW12 := x612 _ _ nWp hW6
          have hbs12 := x612 _ _ nbsp hbs6
          have nWbl : W ≠ bl := fun z => nblW z.symm
          have bAt : BoltAt K H12 (.ref bt) ⟨wd, gs⟩ := ⟨bt, ga, gvs, rfl, .inl (.inl hbt), Evl.ex_t e12 hga, Paired.imp (fun _ _ => GapAt.mono (TX.ex e12)) hgv⟩
          refine ⟨bl, lvs, _, rfl, rfl, hbl12, Nat.lt_of_le_of_lt (by omega : lvs.length ≤ 60) (by decide), ?_⟩
          refine ⟨spare', lvs ++ [.ref bt], l ++ [⟨wd, gs⟩], srcs', _, _, _, rfl, (x6.trans x612).mut nbl0, (hp12.put nblp nblc).mono (by omega), by rw [upd_ne nWbl]; exact hW12, by rw [upd_ne nbsbl]; exact hbs12, ?_, upd_same, ?_, by rw [List.length_append, ll]; rfl, fun s hs => hsrcs s (hsub s hs), hspare', spare0', ?_⟩
          · exact Paired.imp (fun _ _ => Wd.mono (tx612.trans (TX.put hbl12))) hbv6
          · exact Paired.imp (fun _ _ => BoltAt.mono (TX.put hbl12)) (paired_app1 (Paired.imp (fun _ _ => BoltAt.mono tx612) hlv6) bAt)
          · intro j b hj
            by_cases hjl : j < l.length
            · rw [List.getElem?_append_left hjl] at hj
              exact (hgood j b hj).mono hsrcs
            · rw [List.getElem?_append_right (by omega)] at hj
              have : j = l.length := by
                by_cases e : j - l.length = 0
                · omega
                · rw [List.getElem?_eq_none (by simp; omega)] at hj; cases hj
              subst this
              rw [Nat.sub_self] at hj
              have eb : b = ⟨wd, gs⟩ := (Option.some.inj hj).symm
              subst eb
              rw [ll]
              exact ⟨hwd, words, left, hdr, hwords⟩
      · rintro σ H6 ⟨spare, lvs, l, srcs, y4, y9, y10, rfl, x6, hp6, hW6, hbs6, hbv6, hbl6, hlv6, ll, hsub, hspare, spare0, hgood⟩
        refine ⟨.ref bl, rfl, bl, lvs, rfl, .inl ⟨.inl (.inl hbl6), fun lt nlt => ?_⟩⟩
        have e7 := Evl.Ex.new (o := .tup lvs) nlt
        have lw : l.length = wds.length := by omega
        refine q _ (.ref lt) l (x6.trans (Exx.ex e7)) ((hp6.ex e7).mono (by omega)) ⟨lt, lvs, rfl, .inl (.inl upd_same), Paired.imp (fun _ _ => BoltAt.mono (TX.ex e7)) hlv6⟩ (lockOk_drawn lw (by omega) (by omega) hw (by omega) hgood) (by omega)
end
end Wb

set_option Elab.async false
set_option linter.all false
set_option maxRecDepth 100000
set_option maxHeartbeats 4000000
set_option pp.maxSteps 600
set_option pp.deepTerms false
namespace Wb
open PySem PySem.Spec PyProof.Rows L2
abbrev sDrawn : Stmt := topS 48
abbrev nDrawn : List Str := ["_law_pen_here", "_law_lock_here", "_law_bolt"]
theorem scDrawn : FnScope nDrawn ["_law_pen_here", "_law_lock_here"] (defScope sDrawn) := ⟨rfl, rfl, rfl, by decide +kernel, rfl, by decide +kernel, by decide +kernel⟩
def spDrawn (K : PySem.W.Frag) : Sp := fun vs H Q _ => ∃ (p c : Addr) (v : V) (l : Lock) (T : Int), vs = [.ref p, v] ∧ PenAt H p c T ∧ T ≤ 9000000 ∧ LockAt K H v l ∧ LockOk l ∧
  ∀ H' u st, Exx p H H' → PenAt H' p c (T + 60) → Wd K H' u st → InAll st (manysOf l) → Q u H'
theorem inAll_mix {xs ys ms : List Int} {j : Nat} (h : InAll xs ms) (h' : InAll ys (ms.take j)) (hj : j ≤ ms.length) : InAll (ys ++ xs.drop j) ms := by
  have yl : ys.length = j := by
    have := h'.1
    rw [List.length_take] at this
    omega
  have xl := h.1
  refine ⟨by rw [List.length_append, List.length_drop]; omega, fun i a b ha hb => ?_⟩
  by_cases hi : i < ys.length
  · rw [List.getElem?_append_left hi] at ha
    exact h'.2 i a b ha (by rw [List.getElem?_take, if_pos (by omega)]; exact hb)
  · rw [List.getElem?_append_right (by omega), List.getElem?_drop] at ha
    exact h.2 i a b (by rw [show j + (i - ys.length) = i by omega] at ha; exact ha) hb
section
variable {P : Program} {w : World} {K : PySem.W.Frag} {mg : Str → Option Value} {base : Heap}
theorem ok_drawn {f f1 : Addr} {fd fd1 : FuncData} (F : Fun K "_law_drawn" "_law_drawn" sDrawn f fd) (F1 : Fun K "_law_draw" "_law_draw" sDraw f1 fd1) (b1 : Binds K fd1 ["_law_pen_here", "_law_many"] []) (g1 : mg "_law_draw" = some (.ref f1)) (B : Bi mg) :
    FnOk P w K mg base CX0 2 f fd ["_law_pen_here", "_law_lock_here"] (spDrawn K) := by
  have G1 : FnOk P w K mg base CX0 1 f1 fd1 ["_law_pen_here", "_law_many"] spDraw := ok_draw F1 B
  refine F.ok scDrawn (fun vs H Q E h => ?_) (fun cdv A outer s H vs Q E hr h => ?_)
  · obtain ⟨p, c, v, l, T, rfl, _⟩ := h; rfl
  · obtain ⟨p, c, v, l, T, rfl, hp, T9, ⟨a, bs, rfl, ha, hbs⟩, ok, q⟩ := h
    refine ⟨_, pss_one (ps_ret (pe_callTy (r := rTupK K) call_tupK (by rfl) B.tuple PyProof.Rows.boot_tuple (pa_cons
          (pe_lc (own := [("_law_bolt", 2)]) (wi := iTup K (tVar 1)) (g := gName 2) rfl scDrawn.nd (pi_tup (pv 1)) (blkOk_by (own := [("_law_bolt", 2)]) (N := nDrawn) (sc := defScope sDrawn) (by decide +kernel))
            (fun _ _ _ _ _ => pg_name (i := 2) scDrawn.nd rfl (Or.inl rfl)) (fun _ _ _ _ _ => pts_nil)
            (fun _ _ _ _ _ => pe_call G1 hr (by rfl) g1 F1.kp b1 .nil pass0 (pa_cons (pv 0) (pa_cons (pe_ix (r := rIxT K) ix_tup (pv 2) pe_int (fun _ _ => rfl)) pa_nil)))) pa_nil))), ?_⟩
    have bl : bs.length = l.length := Paired.len hbs
    have l60 := ok.n1
    have ml : (manysOf l).length = l.length := by unfold manysOf; rw [List.length_map]
    refine ⟨.ref a, rfl, a, rfl, ⟨_, ha⟩, fun D hD => ?_⟩
    have nDp : D ≠ p := hp.new1 hD
    have nDc : D ≠ c := hp.new2 hD
    have txx : ∀ {Hx : Hp}, Exx p H Hx → TX K H Hx := fun x => hp.tx x
    refine lc_tup (K := K) (a := a) (xs := bs) (fun i H' => ∃ xs : List Int, Exx p H H' ∧ PenAt H' p c (T + (i : Nat)) ∧ H' D = some (.lst (xs.map V.int)) ∧ InAll xs ((manysOf l).take i)) ⟨[], Exx.ex (Evl.Ex.new hD), ?_, upd_same, inAll_nil⟩ ?_ ?_ ?_
    · have := hp.put (o := .lst []) nDp nDc
      simpa using this
    · rintro i H' _ ⟨_, x, _⟩
      exact (txx x).1 _ _ ha
    · rintro i x H1 hx ⟨xs, x1, hp1, hD1, hin⟩
      obtain ⟨b, hb, ⟨a1, c1, gs, rfl, h1, h2, h3⟩⟩ := Paired.get1 hbs hx
      have il : i < l.length := (List.getElem?_eq_some_iff.mp hb).1
      have BO := ok.bolts i b hb
      have m0 := BO.m0
      have m1 := BO.m1
      have xl : xs.length = i := by
        have := hin.1
        rw [List.length_take] at this
        omega
      have mm : (manysOf l)[i]? = some b.many := by
        unfold manysOf
        rw [List.getElem?_map, hb]
        rfl
      refine ⟨rfl, ?_⟩
      refine ⟨.ref p, rfl, .ref a1, rfl, a1, _, 0, .int b.many, rfl, rfl, (txx x1).1 _ _ h1, atI_nat (j := 0) rfl, p, c, b.many, _, rfl, hp1, by omega, by omega, by omega, fun r H2 r0 r1 x2 hp2 => ?_⟩
      refine ⟨_, x2 _ _ nDp hD1, Nat.lt_of_le_of_lt (by rw [List.length_map]; omega : (xs.map V.int).length ≤ 60) (by decide), xs ++ [r], (x1.trans x2).mut hD, (hp2.put nDp nDc).mono (by omega), by rw [upd_same, List.map_append]; rfl, ?_⟩
      rw [take_succ_get mm]
      exact inAll_snoc hin r0 r1
    · rintro H1 ⟨xs, x1, hp1, hD1, hin⟩
      rw [bl, ← ml, List.take_length] at hin
      refine ⟨D, _, rfl, .inl ⟨.inl (.inl hD1), fun t nt => ?_⟩⟩
      have e2 := Evl.Ex.new (o := .tup (xs.map V.int)) nt
      exact q _ (.ref t) xs (x1.trans (Exx.ex e2)) ((hp1.ex e2).mono (by omega)) ⟨t, rfl, upd_same⟩ hin
end
end Wb

set_option Elab.async false
set_option linter.all false
set_option maxRecDepth 100000
set_option maxHeartbeats 4000000
set_option pp.maxSteps 600
set_option pp.deepTerms false
namespace Wb
open PySem PySem.Spec PyProof.Rows L2
abbrev sSteps : Stmt := topS 46
abbrev nSteps : List Str := ["_law_lock_here", "_law_at", "_law_found", "_law_k", "_law_gap"]
theorem scSteps : FnScope nSteps ["_law_lock_here", "_law_at"] (defScope sSteps) := ⟨rfl, rfl, rfl, by decide +kernel, rfl, by decide +kernel, by decide +kernel⟩
def spSteps (K : PySem.W.Frag) : Sp := fun vs H Q _ => ∃ (v u : V) (l : Lock) (st : Word), vs = [v, u] ∧ LockAt K H v l ∧ LockOk l ∧ Wd K H u st ∧ InAll st (manysOf l) ∧
  ∀ H' r us, Evl.Ex H H' → H r = none → H' r = some (.lst us) → Paired (TrAt H') us (stepsL l st) → Q (.ref r) H'
theorem moves_snoc {gs : List Gap} {j : Nat} {g : Gap} (h : gs[j]? = some g) (w : Word) : movesL (gs.take (j + 1)) w = movesL (gs.take j) w ++ (if w ∈ g.ways then [trOf g] else []) := by
  unfold movesL
  rw [take_succ_get h, List.filter_append, List.map_append]
  congr 1
  by_cases hh : w ∈ g.ways
  · rw [if_pos hh, List.filter_cons, if_pos (decide_eq_true hh)]
    rfl
  · rw [if_neg hh, List.filter_cons, if_neg (by rw [decide_eq_false hh]; exact Bool.false_ne_true)]
    rfl
theorem pick_app (k : Nat) (p : Int) (xs ys : List Tr3) : pickAt k p (xs ++ ys) = pickAt k p xs ++ pickAt k p ys := by
  unfold pickAt
  rw [List.filter_append, List.map_append]
theorem TrAt.new {H H' : Hp} (e : Evl.Ex H H') {v : V} {t : Tr3} (h : TrAt H v t) : TrAt H' v t := by
  obtain ⟨a, r, q⟩ := h
  exact ⟨a, r, e _ _ q⟩
theorem TrAt.put {H : Hp} {l : Addr} {xs : List V} {o : HO} (h : H l = some (.lst xs)) {v : V} {t : Tr3} (q : TrAt H v t) : TrAt (upd H l o) v t := by
  obtain ⟨a, r, q⟩ := q
  exact ⟨a, r, by rw [upd_ne (ne_of q h (fun z => nomatch z))]; exact q⟩
section
variable {P : Program} {w : World} {K : PySem.W.Frag} {mg : Str → Option Value} {base : Heap}
theorem ok_lsteps {f : Addr} {fd : FuncData} (F : Fun K "_law_steps" "_law_steps" sSteps f fd) (B : Bi mg) : FnOk P w K mg base CX0 1 f fd ["_law_lock_here", "_law_at"] (spSteps K) := by
  refine F.ok scSteps (fun vs H Q E h => ?_) (fun cdv A outer s H vs Q E hr h => ?_)
  · obtain ⟨v, u, l, st, rfl, _⟩ := h; rfl
  · obtain ⟨v, u, l, st, rfl, ⟨a, bs, rfl, ha, hbs⟩, ok, ⟨sa, rfl, hsa⟩, hin, q⟩ := h
    have hu65 : A.units + 3 + 65 < cLine := by
      have := hr.un
      have : (A.deeper (envOfC "_law_steps" (defScope sSteps) s.heap.objs.size f cdv)).units = A.units + 3 := rfl
      omega
    refine ⟨_, pss_cons (ps_set (i := 2) scSteps.nd rfl (.inl rfl) (pe_lst pa_nil))
      (pss_cons (ps_for PassesOwn.never rfl (pi_range1 (by rfl) B.range (pa_cons (pe_callB call_len_seq (by rfl) B.len PySem.boot_len (pa_cons (pv 0) pa_nil)) pa_nil)) (pg_name (i := 3) scSteps.nd rfl (.inl rfl))
        (pss_one (ps_for PassesOwn.never rfl (pi_tup (pe_ix (r := rIxT K) ix_tup (pe_ix (r := rIxT K) ix_tup (pv 0) (pv 3) (fun _ _ => rfl)) pe_int (fun _ _ => rfl)))
            (pg_name (i := 4) scSteps.nd rfl (.inl rfl))
          (pss_one (ps_if (PW.pt (pw_and (pt_cmpR op_eq (pe_ix (r := rIxT K) ix_tup (pv 4) pe_int (fun _ _ => rfl)) (pe_ix (r := rIxT K) ix_tup (pv 1) (pv 3) (fun _ _ => rfl)) (nomark _)) (pw_and1 (pt_cmpR (op_inTD hu65) (pe_slice (r := rSlA K) sl_tupA (pv 1) po_none (po_some (pv 3))) (pe_ix (r := rIxT K) ix_tup (pv 4) pe_int (fun _ _ => rfl)) rfl))))
            (pss_one (ps_expr (pe_bm PySem.F.plainAttrs_list PySem.F.slot_list_append PySem.F.type_list_append mt_append (pv 2) (pa_cons (pe_tup (pa_cons (pv 3) (pa_cons (pe_ix (r := rIxT K) ix_tup (pv 4) pe_int (fun _ _ => rfl)) (pa_cons (pe_ix (r := rIxT K) ix_tup (pv 4) pe_int (fun _ _ => rfl)) pa_nil)))) pa_nil)))) pss_nil)))))
      (pss_one (ps_ret (pv 2)))), ?_⟩
    have bl : bs.length = l.length := Paired.len hbs
    have l60 := ok.n1
    have ml : (manysOf l).length = l.length := by unfold manysOf; rw [List.length_map]
    have stl : st.length = l.length := by rw [hin.1, ml]
    refine ⟨Nat.zero_le _, fun r0 nr0 => ?_⟩
    have e1 := Evl.Ex.new (o := .lst []) nr0
    refine ⟨.ref a, rfl, a, _, rfl, .inr (Evl.ex_t e1 ha), _, rfl, by omega, by omega, ?_⟩
    refine for_range (lo := 0) (n := ((bs.length : Nat) : Int).toNat) (fun k σ H' => ∃ (us : List V) (y3 y4 : Option V), σ = [some (.ref a), some (.ref sa), some (.ref r0), y3, y4] ∧ Evl.Ex H H' ∧ H' r0 = some (.lst us) ∧ Paired (TrAt H') us (stepsUpto l st k) ∧ us.length ≤ 16 * k)
      ⟨[], none, none, rfl, e1, upd_same, .nil, Nat.le_refl _⟩ ?_ ?_
    · rintro k σ H1 hk0 ⟨us, y3, y4, rfl, e1, hr1, hus, ul⟩
      have hk : k < l.length := by omega
      have ek : (0 : Int) + (k : Nat) = ((k : Nat) : Int) := by omega
      rw [ek]
      obtain ⟨b, hb⟩ : ∃ b, l[k]? = some b := ⟨l[k], List.getElem?_eq_getElem hk⟩
      obtain ⟨x, hx, ⟨a1, c1, gs, rfl, h1, h2, h3⟩⟩ := Paired.get2 hbs hb
      obtain ⟨pl, hpl⟩ : ∃ pl, st[k]? = some pl := ⟨st[k], List.getElem?_eq_getElem (by omega)⟩
      have g16 := gaps_16 ok hb
      have gl : gs.length = b.gaps.length := Paired.len h3
      refine ⟨.ref a, rfl, .int (k : Nat), rfl, a, bs, (k : Nat), .ref a1, rfl, rfl, Evl.ex_t e1 ha, atI_nat hx, a1, _, 1, .ref c1, rfl, rfl, Evl.ex_t e1 h1, atI_nat (j := 1) rfl, c1, rfl, ⟨_, Evl.ex_t e1 h2⟩, ?_⟩
      refine for_tup (K := K) (a := c1) (xs := gs) (fun j σ H' => ∃ (us : List V) (y4 : Option V), σ = [some (.ref a), some (.ref sa), some (.ref r0), some (.int (k : Nat)), y4] ∧ Evl.Ex H H' ∧ H' r0 = some (.lst us) ∧ Paired (TrAt H') us (stepsUpto l st k ++ pickAt k pl (movesL (b.gaps.take j) (st.take k))) ∧ us.length ≤ 16 * k + j)
        ⟨us, _, rfl, e1, hr1, by simpa [movesL, pickAt] using hus, ul⟩ ?_ ?_ ?_
      · rintro j σ H2 _ ⟨_, _, _, e2, _⟩
        exact Evl.ex_t e2 h2
      · rintro j x σ H2 hx2 ⟨us, y4, rfl, e2, hr2, hus, ul⟩
        obtain ⟨g, hg, ⟨a2, b2, ws, rfl, k1, k2, k3⟩⟩ := Paired.get1 h3 hx2
        have jl : j < b.gaps.length := (List.getElem?_eq_some_iff.mp hg).1
        have hsa2 := e2 _ _ hsa
        have stay : ∀ {Hx : Hp}, Evl.Ex H2 Hx → (¬ (g.frm = pl ∧ st.take k ∈ g.ways)) → ∃ (us : List V) (y4 : Option V), ([some (.ref a), some (.ref sa), some (.ref r0), some (.int (k : Nat)), some (.ref a2)] : L2.St) = [some (.ref a), some (.ref sa), some (.ref r0), some (.int (k : Nat)), y4] ∧ Evl.Ex H Hx ∧ Hx r0 = some (.lst us) ∧ Paired (TrAt Hx) us (stepsUpto l st k ++ pickAt k pl (movesL (b.gaps.take (j + 1)) (st.take k))) ∧ us.length ≤ 16 * k + (j + 1) := by
          intro Hx ex hno
          refine ⟨us, _, rfl, e2.trans ex, ex _ _ hr2, ?_, by omega⟩
          rw [moves_snoc hg, pick_app]
          have z : pickAt k pl (if st.take k ∈ g.ways then [trOf g] else []) = [] := by
            by_cases hw : st.take k ∈ g.ways
            · rw [if_pos hw]
              have hf : ¬ g.frm = pl := fun z => hno ⟨z, hw⟩
              unfold pickAt
              rw [List.filter_cons, if_neg (by rw [decide_eq_false (show ¬ (trOf g).frm = pl from hf)]; exact Bool.false_ne_true)]
              rfl
            · rw [if_neg hw]
              rfl
          rw [z, List.append_nil]
          exact Paired.imp (fun _ _ => TrAt.new ex) hus
        refine ⟨.ref a2, rfl, a2, _, 0, .int g.frm, rfl, rfl, Evl.ex_t e2 k1, atI_nat (j := 0) rfl, .ref sa, rfl, .int (k : Nat), rfl, sa, _, (k : Nat), .int pl, rfl, rfl, .inl (.inl hsa2), atI_nat (map_int_get hpl), rfl, _, rfl, ?_⟩
        refine ite2 (fun hc => ?_) (fun hc => ?_)
        · have hf : g.frm = pl := V.int.inj (of_decide_eq_true hc)
          refine ⟨.ref sa, rfl, .int (k : Nat), rfl, (k : Nat), rfl, sa, _, rfl, .inl (.inl hsa2), fun z => absurd (slice_whole z.2) (by rw [List.length_map]; omega), fun _ t nt => ?_⟩
          rw [cut_take, ← List.map_take]
          have e3 := Evl.Ex.new (o := .tup ((st.take k).map V.int)) nt
          have ht : (upd H2 t (.tup ((st.take k).map V.int))) t = some (.tup ((st.take k).map V.int)) := upd_same
          generalize upd H2 t (.tup ((st.take k).map V.int)) = H3 at e3 ht
          have fw : Fine (dW (st.take k)) 1 603 := by
            refine fine_W (B := 4) (n := 60) (fun x hx => ?_) (by decide) (by rw [List.length_take]; omega)
            obtain ⟨i, hi⟩ := List.mem_iff_getElem?.mp (List.mem_of_mem_take hx)
            have il : i < l.length := by
              have := (List.getElem?_eq_some_iff.mp hi).1
              omega
            have hm : (manysOf l)[i]? = some l[i].many := by
              unfold manysOf
              rw [List.getElem?_map, List.getElem?_eq_getElem il]
              rfl
            have z1 := hin.2 i x _ hi hm
            have z2 := manys_le ok (List.getElem?_eq_getElem il)
            omega
          have fws : Fine (dWs g.ways) 2 5000 := by
            have h1 : FineAll (g.ways.map dW) 1 ((g.ways.map dW).length * (603 + 2)) := FineAll.rep fun d hd => by
              obtain ⟨u, hu, rfl⟩ := List.mem_map.mp hd
              exact fine_way ok hb (List.mem_of_getElem? hg) hu
            have h2 := fine_tup h1
            have f8 := ((ok.bolts k b hb).gaps g (List.mem_of_getElem? hg)).few
            rw [List.length_map] at h2
            exact h2.mono (Nat.le_refl _) (by omega)
          refine ⟨.ref a2, rfl, a2, _, 3, .ref b2, rfl, rfl, Evl.ex_t (e2.trans e3) k1, atI_nat (j := 3) rfl, dW (st.take k), g.ways.map dW, dp_W ⟨t, rfl, ht⟩, .tup (Evl.ex_t (e2.trans e3) k2) (dp_all (F := Wd K _) (f := dW) (fun _ _ => dp_W) (Paired.imp (fun _ _ => wd_ex (e2.trans e3)) k3)), fw.shaped (by decide), fws.shaped (by decide), _, rfl, ?_⟩
          rw [any_W]
          refine ite2 (fun hc2 => ?_) (fun hc2 => ?_)
          · have hw : st.take k ∈ g.ways := of_decide_eq_true hc2
            have hr3 := e3 _ _ hr2
            refine ⟨.ref r0, rfl, .inl ⟨rfl, _, SqL.of hr3⟩, .int (k : Nat), rfl, .ref a2, rfl, a2, _, 1, .int g.to_, rfl, rfl, Evl.ex_t (e2.trans e3) k1, atI_nat (j := 1) rfl, .ref a2, rfl, a2, _, 2, .int g.price, rfl, rfl, Evl.ex_t (e2.trans e3) k1, atI_nat (j := 2) rfl, (by show 3 ≤ sizeLine; decide), fun tp ntp => ?_⟩
            have e4 := Evl.Ex.new (o := .tup [.int (k : Nat), .int g.to_, .int g.price]) ntp
            have hr4 := e4 _ _ hr3
            refine ⟨r0, us, _, rfl, rfl, hr4, Nat.lt_of_le_of_lt (by omega : us.length ≤ 16 * 60 + 16) (by decide), us ++ [.ref tp], _, rfl, (e2.trans (e3.trans e4)).mut nr0, upd_same, ?_, by rw [List.length_append]; simp; omega⟩
            rw [moves_snoc hg, pick_app, if_pos hw, ← List.append_assoc]
            have z : pickAt k pl [trOf g] = [⟨(k : Int), g.to_, g.price⟩] := by
              unfold pickAt
              rw [List.filter_cons, if_pos (decide_eq_true (show (trOf g).frm = pl from hf))]
              rfl
            rw [z]
            exact Paired.imp (fun _ _ => TrAt.put hr4) (paired_app1 (Paired.imp (fun _ _ => TrAt.new (e3.trans e4)) hus) ⟨tp, rfl, upd_same⟩)
          · exact stay e3 fun z => hc2 (decide_eq_true z.2)
        · exact stay (Evl.Ex.refl _) fun z => hc (decide_eq_true (by rw [z.1]))
      · rintro σ H2 ⟨us, y4, rfl, e2, hr2, hus, ul⟩
        refine ⟨us, _, _, rfl, e2, hr2, ?_, by omega⟩
        rw [gl, List.take_length] at hus
        rw [stepsUpto_succ]
        have z : stepsOf l st k = pickAt k pl (movesL b.gaps (st.take k)) := by
          unfold stepsOf
          rw [hb, hpl]
        rw [z]
        exact hus
    · rintro σ H1 ⟨us, y3, y4, rfl, e1, hr1, hus, ul⟩
      rw [Int.toNat_natCast, bl] at hus
      exact ⟨.ref r0, rfl, q H1 r0 us e1 nr0 hr1 hus⟩
end
end Wb

set_option Elab.async false
set_option linter.all false
set_option maxRecDepth 100000
set_option maxHeartbeats 4000000
set_option pp.maxSteps 600
set_option pp.deepTerms false
namespace Wb
open PySem PySem.Spec PyProof.Rows L2
abbrev sPrice : Stmt := topS 26
abbrev nPrice : List Str := ["moves", "places", "step", "k", "to", "here", "there", "price"]
theorem scPrice : FnScope nPrice ["moves", "places", "step"] (defScope sPrice) := ⟨rfl, rfl, rfl, by decide +kernel, rfl, by decide +kernel, by decide +kernel⟩
def stepV (l : Lock) (st : Word) (k : Nat) (to : Int) : V :=
  match (stepsOf l st k).find? (fun t => decide (t.to_ = to)) with
  | some t => .int t.price
  | none => .non
def priceV (l : Lock) (st : Word) : PyData → V
  | .tuple [.int k, .int to] => if 0 ≤ k ∧ k < (st.length : Int) then stepV l st k.toNat to else .non
  | _ => .non
def spPrice (K : PySem.W.Frag) : Sp := fun vs H Q _ => ∃ (mv pl : Addr) (v : V) (d : PyData) (ds : List Addr) (l : Lock) (st : Word), vs = [.ref mv, .ref pl, v] ∧ H mv = some (.lst (ds.map V.ref)) ∧ ds.length = l.length ∧ LockOk l ∧
  H pl = some (.tup (st.map V.int)) ∧ st.length ≤ l.length ∧ (∀ k d b, ds[k]? = some d → l[k]? = some b → ∃ ws, WordsAt l k ws ∧ MvAt H mv d b.gaps ws) ∧ Th K H v d ∧ ∀ H', Evl.Ex H H' → Q (priceV l st d) H'
section
variable {P : Program} {w : World} {K : PySem.W.Frag} {mg : Str → Option Value} {base : Heap}
theorem ok_price {f f1 f2 f3 : Addr} {fd fd1 fd2 fd3 : FuncData} (F : Fun K "price_of_step" "price_of_step" sPrice f fd) (F1 : Fun K "is_whole" "is_whole" sWhole f1 fd1) (b1 : Binds K fd1 ["thing"] []) (g1 : mg "is_whole" = some (.ref f1))
    (F2 : Fun K "is_whole_in" "is_whole_in" sWholeIn f2 fd2) (b2 : Binds K fd2 ["thing", "low", "high"] []) (g2 : mg "is_whole_in" = some (.ref f2))
    (F3 : Fun K "is_tuple_of" "is_tuple_of" sTupOf f3 fd3) (b3 : Binds K fd3 ["thing", "low", "high"] []) (g3 : mg "is_tuple_of" = some (.ref f3)) (B : Bi mg) :
    FnOk P w K mg base CX0 3 f fd ["moves", "places", "step"] (spPrice K) := by
  have G1 : FnOk P w K mg base CX0 1 f1 fd1 ["thing"] (spWholeG K) := ok_wholeG F1 B
  have G2 : FnOk P w K mg base CX0 2 f2 fd2 ["thing", "low", "high"] (spWholeInG K) := ok_wholeInG F2 F1 b1 g1 B
  have G3 : FnOk P w K mg base CX0 1 f3 fd3 ["thing", "low", "high"] (spTupG K) := ok_tupG F3 B
  refine F.ok scPrice (fun vs H Q E h => ?_) (fun cdv A outer s H vs Q E hr h => ?_)
  · obtain ⟨mv, pl, v, d, ds, l, st, rfl, _⟩ := h; rfl
  · obtain ⟨mv, pl, v, d, ds, l, st, rfl, hmv, dl, ok, hpl, sl, hds, hv, q⟩ := h
    have hu := hu_of hr
    have hr1 : Room 1 _ := hr.mono (by decide)
    refine ⟨_, pss_cons (ps_if (PW.pt (pw_or (pt_not (pt_val (pe_call G3 hr1 (by rfl) g3 F3.kp b3 .nil pass0 (pa_cons (pv 2) (pa_cons pe_int (pa_cons pe_int pa_nil))))))
          (pw_or (pt_not (pt_val (pe_call G2 hr (by rfl) g2 F2.kp b2 .nil pass0 (pa_cons (pe_ix (r := rIxT K) ix_tup (pv 2) pe_int (fun _ _ => rfl)) (pa_cons pe_int (pa_cons (pe_op op_sub (pe_callB call_len_seq (by rfl) B.len PySem.boot_len (pa_cons (pv 1) pa_nil)) pe_int) pa_nil))))))
            (pw_or1 (pt_not (pt_val (pe_call G1 hr1 (by rfl) g1 F1.kp b1 .nil pass0 (pa_cons (pe_ix (r := rIxT K) ix_tup (pv 2) pe_int (fun _ _ => rfl)) pa_nil))))))))
        (pss_one (ps_ret pe_non)) pss_nil)
      (pss_cons (ps_asg (pv 2) (pg_tup rfl (pgs_cons (pg_name (i := 3) scPrice.nd rfl (.inl rfl)) (pgs_cons (pg_name (i := 4) scPrice.nd rfl (.inl rfl)) pgs_nil))))
      (pss_cons (ps_for PassesOwn.never rfl (pi_list (pe_dget2 hu (pe_ix ix_list (pv 0) (pv 3) (fun _ _ => rfl)) (pe_callTy (r := rTupK K) call_tupK (by rfl) B.tuple PyProof.Rows.boot_tuple (pa_cons (pe_slice (r := rSlA K) sl_tupA (pv 1) po_none (po_some (pv 3))) pa_nil)) (pe_lst pa_nil) ⟨by rfl, by rfl, by rfl, by rfl⟩))
          (pg_tup rfl (pgs_cons (pg_name (i := 5) scPrice.nd rfl (.inl rfl)) (pgs_cons (pg_name (i := 6) scPrice.nd rfl (.inl rfl)) (pgs_cons (pg_name (i := 7) scPrice.nd rfl (.inl rfl)) pgs_nil))))
        (pss_one (ps_if (PW.pt (pw_and (pt_cmpR op_eq (pv 5) (pe_ix (r := rIxT K) ix_tup (pv 1) (pv 3) (fun _ _ => rfl)) (nomark _)) (pw_and1 (pt_cmpR op_eq (pv 6) (pv 4) (nomark _)))))
          (pss_one (ps_ret (pv 7))) pss_nil)))
      (pss_one (ps_ret pe_non)))), ?_⟩
    have n60 := ok.n1
    have none_ : priceV l st d = .non → Q .non H := fun z => by
      have := q H (Evl.Ex.refl H)
      rw [z] at this
      exact this
    refine ⟨v, rfl, v, d, 2, 2, rfl, hv, _, rfl, ?_⟩
    cases hb : (isTup d && (decide ((2 : Int) ≤ ((itemsD d).length : Int)) && decide (((itemsD d).length : Int) ≤ 2))) with
    | false =>
      refine iteT (iteT ?_)
      refine none_ ?_
      unfold priceV
      split
      · cases hb
      · rfl
    | true =>
      refine iteF ?_
      rw [Bool.and_eq_true, Bool.and_eq_true] at hb
      obtain ⟨ht, h1, h2⟩ := hb
      obtain ⟨es, rfl⟩ := tup_of ht
      have e2 : es.length = 2 := by
        have z1 : (2 : Int) ≤ (es.length : Int) := of_decide_eq_true h1
        have z2 : (es.length : Int) ≤ 2 := of_decide_eq_true h2
        omega
      obtain ⟨d0, d1, rfl⟩ : ∃ d0 d1, es = [d0, d1] := by
        match es, e2 with
        | [d0, d1], _ => exact ⟨d0, d1, rfl⟩
      obtain ⟨a, xs, rfl, hx, hi⟩ := hv.items
      obtain ⟨x0, x1, rfl⟩ : ∃ x0 x1, xs = [x0, x1] := by
        have := Paired.len hi
        match xs, this with
        | [x0, x1], _ => exact ⟨x0, x1, rfl⟩
      obtain ⟨d0', hd0, th0⟩ := Paired.get1 hi (i := 0) (x := x0) rfl
      obtain ⟨d1', hd1, th1⟩ := Paired.get1 hi (i := 1) (x := x1) rfl
      cases hd0
      cases hd1
      have ln : ((st.map V.int).length) = st.length := List.length_map _
      refine ⟨.ref a, rfl, a, _, 0, x0, rfl, rfl, hx, atI_nat (j := 0) rfl, .ref pl, rfl, pl, _, rfl, .inr (SqT.of hpl), ((st.map V.int).length : Nat), 1, rfl, rfl, x0, d0, 0, _, rfl, th0, _, rfl, ?_⟩
      cases hw : wholeB d0 0 (((st.map V.int).length : Nat) - 1) with
      | false =>
        refine iteT (iteT ?_)
        refine none_ ?_
        unfold priceV
        split
        · rename_i k to e
          have e0 : d0 = .int k := by
            have := PyData.tuple.inj e
            exact (List.cons.inj this).1
          subst e0
          refine if_neg fun z => ?_
          have hw' : (decide (0 ≤ k) && decide (k ≤ (((st.map V.int).length : Nat) : Int) - 1)) = false := hw
          rw [decide_eq_true z.1, decide_eq_true (by rw [ln]; omega)] at hw'
          cases hw'
        · rfl
      | true =>
        refine iteF ?_
        refine ⟨.ref a, rfl, a, _, 1, x1, rfl, rfl, hx, atI_nat (j := 1) rfl, x1, d1, rfl, th1, _, rfl, ?_⟩
        cases hp1 : plainInt d1 with
        | false =>
          refine iteT ?_
          refine none_ ?_
          unfold priceV
          split
          · rename_i k to e
            have e1 : d1 = .int to := by
              have := PyData.tuple.inj e
              exact (List.cons.inj (List.cons.inj this).2).1
            subst e1
            cases hp1
          · rfl
        | true =>
          refine iteF ?_
          have hp0 : plainInt d0 = true := by
            cases d0 <;> first
              | rfl
              | cases hw
          obtain ⟨k', rfl, rfl⟩ := plain_of th0 hp0
          obtain ⟨to, rfl, rfl⟩ := plain_of th1 hp1
          have hw' : (decide (0 ≤ k') && decide (k' ≤ (((st.map V.int).length : Nat) : Int) - 1)) = true := hw
          rw [Bool.and_eq_true] at hw'
          have k0 : 0 ≤ k' := of_decide_eq_true hw'.1
          have kn : k' ≤ (((st.map V.int).length : Nat) : Int) - 1 := of_decide_eq_true hw'.2
          rw [ln] at kn
          obtain ⟨k, rfl⟩ : ∃ n : Nat, k' = (n : Int) := ⟨k'.toNat, by omega⟩
          have kl : k < l.length := by omega
          have pv_eq : priceV l st (.tuple [.int (k : Nat), .int to]) = stepV l st k to := by
            show (if 0 ≤ ((k : Nat) : Int) ∧ ((k : Nat) : Int) < (st.length : Int) then stepV l st (((k : Nat) : Int)).toNat to else .non) = _
            rw [if_pos ⟨by omega, by omega⟩, Int.toNat_natCast]
          rw [pv_eq] at q
          obtain ⟨b, hb⟩ : ∃ b, l[k]? = some b := ⟨l[k], List.getElem?_eq_getElem kl⟩
          obtain ⟨dd, hdd⟩ : ∃ dd, ds[k]? = some dd := ⟨ds[k], List.getElem?_eq_getElem (by omega)⟩
          obtain ⟨p, hpk⟩ : ∃ p, st[k]? = some p := ⟨st[k], List.getElem?_eq_getElem (by omega)⟩
          obtain ⟨ws, hW, ps, hps, hdk, hq⟩ := hds k dd b hdd hb
          have hd' : (ds.map V.ref)[k]? = some (.ref dd) := by rw [List.getElem?_map, hdd]; rfl
          refine ⟨.ref a, rfl, a, _, rfl, hx, rfl, _, _, rfl, _, _, rfl, rfl, ?_⟩
          refine ⟨.ref mv, rfl, .int (k : Nat), rfl, mv, _, (k : Nat), .ref dd, rfl, rfl, SqL.of hmv, atI_nat hd', dd, rfl, .inr ⟨_, .inl hdk⟩, ?_⟩
          refine ⟨.ref pl, rfl, ?_⟩
          refine nopart1 ?_
          refine ⟨.int (k : Nat), rfl, (k : Nat), rfl, ?_⟩
          refine sl_own (K := K) (lo := none) (hi := some ((k : Nat) : Int)) hpl fun H1 q1 e1 g1' => ?_
          rw [cut_take, ← List.map_take] at g1'
          refine ⟨q1, _, rfl, .inr ⟨SqT.of g1', ?_⟩⟩
          refine ⟨Nat.zero_le _, fun e ne => ?_⟩
          have e3 := Evl.Ex.new (o := .lst []) ne
          have g3' : (upd H1 e (.lst [])) e = some (.lst []) := upd_same
          generalize upd H1 e (.lst []) = H3 at e3 g3'
          have e03 := e1.trans e3
          have dg : ∀ o, valV (kps ps) (keyW (st.take k)) = o → DGet H3 dd (.ref q1) o := by
            rintro o rfl
            exact DGet.t (e03 _ _ hdk) (by rw [keyW_kV]; exact e3 _ _ g1')
          have pl3 := e03 _ _ hpl
          have stepE : stepsOf l st k = pickAt k p (movesL b.gaps (st.take k)) := by
            unfold stepsOf
            rw [hb, hpk]
          by_cases hin : st.take k ∈ ws
          · have ndp : (ps.map (·.1)).Nodup := by rw [hps]; exact hW.1
            rw [← hps] at hin
            obtain ⟨qq, hqq, eqq⟩ := List.mem_map.mp hin
            obtain ⟨_, uq, h1, h2⟩ := hq qq hqq
            have hval := valV_kps ndp hqq
            rw [eqq] at hval h2
            refine ⟨_, dg _ hval, qq.2, rfl, ⟨uq, SqL.of (e03 _ _ h1)⟩, ?_⟩
            have uql := Paired.len h2
            refine for_list (K := K) (a := qq.2) (xs := uq) (fun m σ H' => ∃ (y5 y6 y7 : Option V), σ = [some (.ref mv), some (.ref pl), some (.ref a), some (.int (k : Nat)), some (.int to), y5, y6, y7] ∧ H' = H3 ∧ ∀ t ∈ (movesL b.gaps (st.take k)).take m, ¬ (t.frm = p ∧ t.to_ = to)) ⟨_, _, _, rfl, rfl, fun t ht => (by simp at ht)⟩ ?_ ?_ ?_
            · rintro m σ H' _ ⟨_, _, _, _, rfl, _⟩
              exact SqL.of (e03 _ _ h1)
            · rintro m x σ H' hm ⟨y5, y6, y7, rfl, rfl, hno⟩
              obtain ⟨t', ht', ⟨at_, rfl, hat⟩⟩ := Paired.get1 h2 hm
              have hat3 := e03 _ _ hat
              refine ⟨at_, _, rfl, .inl (.inl hat3), rfl, _, _, rfl, _, _, rfl, _, _, rfl, rfl, ?_⟩
              refine ⟨.int t'.frm, rfl, .ref pl, rfl, .int (k : Nat), rfl, pl, _, (k : Nat), .int p, rfl, rfl, SqT.of pl3, atI_nat (map_int_get hpk), rfl, _, rfl, ?_⟩
              have go : ¬ (t'.frm = p ∧ t'.to_ = to) → ∃ (y5 y6 y7 : Option V), ([some (.ref mv), some (.ref pl), some (.ref a), some (.int (k : Nat)), some (.int to), some (.int t'.frm), some (.int t'.to_), some (.int t'.price)] : L2.St) = [some (.ref mv), some (.ref pl), some (.ref a), some (.int (k : Nat)), some (.int to), y5, y6, y7] ∧ H' = H' ∧ ∀ t ∈ (movesL b.gaps (st.take k)).take (m + 1), ¬ (t.frm = p ∧ t.to_ = to) := fun z => by
                refine ⟨_, _, _, rfl, rfl, fun t ht => ?_⟩
                rw [take_succ_get ht'] at ht
                rcases List.mem_append.mp ht with h | h
                · exact hno t h
                · rw [List.mem_singleton.mp h]
                  exact z
              refine ite2 (fun hc => ?_) (fun hc => ?_)
              · have hf : t'.frm = p := V.int.inj (of_decide_eq_true hc)
                refine ⟨.int t'.to_, rfl, .int to, rfl, rfl, _, rfl, ?_⟩
                refine ite2 (fun hc2 => ?_) (fun hc2 => ?_)
                · have ht2 : t'.to_ = to := V.int.inj (of_decide_eq_true hc2)
                  have val : stepV l st k to = .int t'.price := by
                    unfold stepV
                    rw [stepE]
                    have split_ : movesL b.gaps (st.take k) = (movesL b.gaps (st.take k)).take m ++ t' :: (movesL b.gaps (st.take k)).drop (m + 1) := by
                      have := List.getElem?_eq_some_iff.mp ht'
                      obtain ⟨hl, he⟩ := this
                      conv => lhs; rw [← List.take_append_drop m (movesL b.gaps (st.take k))]
                      rw [List.drop_eq_getElem_cons hl, he]
                    rw [split_, pick_app]
                    have f0 : (pickAt k p ((movesL b.gaps (st.take k)).take m)).find? (fun t => decide (t.to_ = to)) = none := by
                      rw [List.find?_eq_none]
                      intro t ht z
                      unfold pickAt at ht
                      obtain ⟨t1, h1', rfl⟩ := List.mem_map.mp ht
                      have := List.mem_filter.mp h1'
                      exact hno t1 this.1 ⟨of_decide_eq_true this.2, of_decide_eq_true z⟩
                    rw [List.find?_append, f0]
                    have f1 : pickAt k p (t' :: (movesL b.gaps (st.take k)).drop (m + 1)) = ⟨(k : Int), t'.to_, t'.price⟩ :: pickAt k p ((movesL b.gaps (st.take k)).drop (m + 1)) := by
                      unfold pickAt
                      rw [List.filter_cons, if_pos (decide_eq_true hf), List.map_cons]
                    rw [f1, List.find?_cons_of_pos (by simpa using ht2)]
                    rfl
                  have := q H' e03
                  rw [val] at this
                  exact ⟨.int t'.price, rfl, this⟩
                · exact go fun z => hc2 (decide_eq_true (by rw [z.2]))
              · exact go fun z => hc (decide_eq_true (by rw [z.1]))
            · rintro σ H' ⟨y5, y6, y7, rfl, rfl, hno⟩
              rw [uql, List.take_length] at hno
              have val : stepV l st k to = .non := by
                unfold stepV
                have f0 : (stepsOf l st k).find? (fun t => decide (t.to_ = to)) = none := by
                  rw [stepE, List.find?_eq_none]
                  intro t ht z
                  unfold pickAt at ht
                  obtain ⟨t1, h1', rfl⟩ := List.mem_map.mp ht
                  have := List.mem_filter.mp h1'
                  exact hno t1 this.1 ⟨of_decide_eq_true this.2, of_decide_eq_true z⟩
                rw [f0]
              have := q H' e03
              rw [val] at this
              exact this
          · have hval : valV (kps ps) (keyW (st.take k)) = none := valV_kps_none (by rw [hps]; exact hin)
            refine ⟨_, dg _ hval, e, rfl, ⟨_, SqL.of g3'⟩, ?_⟩
            refine for_list (K := K) (a := e) (xs := []) (fun m σ H' => H' = H3) rfl ?_ ?_ ?_
            · rintro m σ H' _ rfl
              exact SqL.of g3'
            · rintro m x σ H' hm _
              cases hm
            · rintro σ H' rfl
              have val : stepV l st k to = .non := by
                unfold stepV
                rw [steps_none ok (fun z => hin ((hW.2 _).mpr z)) k (Nat.le_refl k)]
                rfl
              have := q H' e03
              rw [val] at this
              exact this
end
end Wb

set_option Elab.async false
set_option linter.all false
set_option maxRecDepth 100000
set_option maxHeartbeats 8000000
set_option pp.maxSteps 900
set_option pp.deepTerms false
namespace Wb
open PySem PySem.Spec PyProof.Rows L2
/-! ### books, as data -/
inductive Ent
  | step (k to : Int)
  | part (n : Int)
def EntAt (H : Hp) (v : V) : Ent → Prop
  | .step k to => ∃ a, v = .ref a ∧ H a = some (.tup [.str "step", .int k, .int to])
  | .part n => ∃ a, v = .ref a ∧ H a = some (.tup [.str "part", .int n])
structure Prt where
  b : Word
  e : Word
  es : List Ent
def PrtAt (K : PySem.W.Frag) (H : Hp) (v : V) (p : Prt) : Prop := ∃ (a c : Addr) (bv ev : V) (us : List V), v = .ref a ∧ H a = some (.tup [bv, ev, .ref c]) ∧ Wd K H bv p.b ∧ Wd K H ev p.e ∧ H c = some (.tup us) ∧ Paired (EntAt H) us p.es
/-- a part told: its two words, price and count -/
structure Tld where
  b : Word
  e : Word
  p : Int
  c : Int
def TldAt (K : PySem.W.Frag) (H : Hp) (v : V) (t : Tld) : Prop := ∃ (a : Addr) (bv ev x : V), v = .ref a ∧ H a = some (.tup [bv, ev, x]) ∧ Wd K H bv t.b ∧ Wd K H ev t.e
/-- behind an entry: the word, price and count -/
def goneE (l : Lock) (T : List Tld) (pl : Word) : Ent → Option (Word × Int × Int)
  | .step k to => if 0 ≤ k ∧ k < (pl.length : Int) then
      match (stepsOf l pl k.toNat).find? (fun t => decide (t.to_ = to)) with
      | some t => some (pl.set k.toNat to, t.price, 1)
      | none => none
    else none
  | .part n => if 0 ≤ n then
      match T[n.toNat]? with
      | some t => if pl.take t.b.length = t.b then some (t.e ++ pl.drop t.b.length, t.p, t.c) else none
      | none => none
    else none
def foldE (l : Lock) (T : List Tld) : Word → Int → Int → List Ent → Option (Word × Int × Int)
  | pl, p, c, [] => some (pl, p, c)
  | pl, p, c, x :: es => match goneE l T pl x with
    | some (u, q, d) => foldE l T u (p + q) (c + d) es
    | none => none
def mostC : Int := 10 ^ 300
def weightE (l : Lock) (T : List Tld) (x : Prt) : Option (Int × Int) :=
  match foldE l T x.b 0 0 x.es with
  | some (u, p, c) => if u = x.e ∧ c ≤ mostC then some (p, c) else none
  | none => none
/-! ### the class Reader -/
def clsBody : Stmt → List Stmt
  | .ClassDef _ _ _ b .. => b
  | _ => []
abbrev cReader : Stmt := topS 31
abbrev rS (i : Nat) : Stmt := (clsBody cReader).getD i (.Pass ⟨0, 0, 0, 0⟩)
abbrev sRdInit : Stmt := rS 0
abbrev sRdPut : Stmt := rS 1
abbrev sRdWeight : Stmt := rS 2
abbrev sRdGone : Stmt := rS 3
abbrev sRdWay : Stmt := rS 6
abbrev nRdGone : List Str := ["self", "thing", "places", "price", "_", "k", "to", "begin", "end"]
theorem scRdGone : FnScope nRdGone ["self", "thing", "places"] (defScope sRdGone) := ⟨rfl, rfl, rfl, by decide +kernel, rfl, by decide +kernel, by decide +kernel⟩
abbrev sPos : Stmt := topS 26
structure ReC (K : PySem.W.Frag) (mg : Str → Option Value) where
  C : Addr
  cl : Cls K C
  n1 : NoAttr K C "manys"
  n2 : NoAttr K C "moves"
  n3 : NoAttr K C "parts"
  n4 : NoAttr K C "prices"
  n5 : NoAttr K C "counts"
  n6 : NoAttr K C "path"
  g : mg "Reader" = some (.ref C)
  f0 : Addr
  d0 : FuncData
  F0 : Fun K "__init__" "Reader.__init__" sRdInit f0 d0
  b0 : Binds K d0 ["self", "lock"] []
  M : Mk K C f0
  f1 : Addr
  d1 : FuncData
  F1 : Fun K "put" "Reader.put" sRdPut f1 d1
  b1 : Binds K d1 ["self", "thing"] []
  m1 : Meth K C "put" f1
  f2 : Addr
  d2 : FuncData
  F2 : Fun K "weight" "Reader.weight" sRdWeight f2 d2
  b2 : Binds K d2 ["self", "begin", "end", "entries"] []
  m2 : Meth K C "weight" f2
  f3 : Addr
  d3 : FuncData
  F3 : Fun K "gone" "Reader.gone" sRdGone f3 d3
  b3 : Binds K d3 ["self", "thing", "places"] []
  m3 : Meth K C "gone" f3
  f6 : Addr
  d6 : FuncData
  F6 : Fun K "way" "Reader.way" sRdWay f6 d6
  b6 : Binds K d6 ["self"] []
  m6 : Meth K C "way" f6
  fp : Addr
  dp : FuncData
  Fp : Fun K "price_of_step" "price_of_step" sPos fp dp
  bp : Binds K dp ["moves", "places", "step"] []
  gp : mg "price_of_step" = some (.ref fp)
/-- a reader stands at rd, with what it has been told; Bs is the heap ahead of its lists -/
structure ReAt (K : PySem.W.Frag) (C : Addr) (Bs H : Hp) (rd dx : Addr) (fs : List (Str × V)) (lm mv lp lq lc : Addr) (l : Lock) (T : List Tld) (ds : List Addr) (pvs : List V) : Prop where
  eb : Evl.Ex Bs H
  obj : H rd = some (.ins C dx fs)
  a1 : fs.lookup ("manys" : Str) = some (V.ref lm)
  a2 : fs.lookup ("moves" : Str) = some (V.ref mv)
  a3 : fs.lookup ("parts" : Str) = some (V.ref lp)
  a4 : fs.lookup ("prices" : Str) = some (V.ref lq)
  a5 : fs.lookup ("counts" : Str) = some (V.ref lc)
  m1 : fs.lookup ("put" : Str) = none
  m2 : fs.lookup ("weight" : Str) = none
  m3 : fs.lookup ("gone" : Str) = none
  m6 : fs.lookup ("way" : Str) = none
  ok : LockOk l
  k1 : Bs lm = some (.lst ((manysOf l).map V.int))
  k2 : Bs mv = some (.lst (ds.map V.ref))
  dl : ds.length = l.length
  k3 : ∀ k d b, ds[k]? = some d → l[k]? = some b → ∃ ws, WordsAt l k ws ∧ MvAt Bs mv d b.gaps ws
  np : Bs lp = none
  nq : Bs lq = none
  nc : Bs lc = none
  pq : lp ≠ lq
  pc : lp ≠ lc
  qc : lq ≠ lc
  h4 : H lp = some (.lst pvs)
  pv : Paired (TldAt K H) pvs T
  h5 : H lq = some (.lst (T.map fun t => V.int t.p))
  h6 : H lc = some (.lst (T.map fun t => V.int t.c))
section
variable {K : PySem.W.Frag} {C : Addr} {Bs H : Hp} {rd dx : Addr} {fs : List (Str × V)} {lm mv lp lq lc : Addr} {l : Lock} {T : List Tld} {ds : List Addr} {pvs : List V}
theorem ReAt.h1 (h : ReAt K C Bs H rd dx fs lm mv lp lq lc l T ds pvs) : H lm = some (.lst ((manysOf l).map V.int)) := h.eb _ _ h.k1
theorem ReAt.h2 (h : ReAt K C Bs H rd dx fs lm mv lp lq lc l T ds pvs) : H mv = some (.lst (ds.map V.ref)) := h.eb _ _ h.k2
theorem ReAt.h3 (h : ReAt K C Bs H rd dx fs lm mv lp lq lc l T ds pvs) : ∀ k d b, ds[k]? = some d → l[k]? = some b → ∃ ws, WordsAt l k ws ∧ MvAt H mv d b.gaps ws := fun k d b h1 h2 => by
  obtain ⟨ws, w1, w2⟩ := h.k3 k d b h1 h2
  exact ⟨ws, w1, w2.ex h.eb⟩
theorem ReAt.ex {H' : Hp} (e : Evl.Ex H H') (h : ReAt K C Bs H rd dx fs lm mv lp lq lc l T ds pvs) : ReAt K C Bs H' rd dx fs lm mv lp lq lc l T ds pvs :=
  ⟨h.eb.trans e, e _ _ h.obj, h.a1, h.a2, h.a3, h.a4, h.a5, h.m1, h.m2, h.m3, h.m6, h.ok, h.k1, h.k2, h.dl, h.k3, h.np, h.nq, h.nc, h.pq, h.pc, h.qc, e _ _ h.h4,
    Paired.imp (fun _ _ ⟨a, bv, ev, x, r, h1, h2, h3⟩ => ⟨a, bv, ev, x, r, e _ _ h1, h2.mono (TX.ex e), h3.mono (TX.ex e)⟩) h.pv, e _ _ h.h5, e _ _ h.h6⟩
end
end Wb

set_option Elab.async false
set_option linter.all false
set_option maxRecDepth 100000
set_option maxHeartbeats 8000000
set_option pp.maxSteps 900
set_option pp.deepTerms false
namespace Wb
open PySem PySem.Spec PyProof.Rows L2
theorem cut_drop (xs : List V) {k : Nat} (h : k ≤ xs.length) : cutV xs (some (k : Int)) none = xs.drop k := by
  unfold cutV
  rw [HT.sIx_none, HT.sIx_nat]
  rw [List.take_of_length_le]
  · congr 1
    omega
  · rw [List.length_drop]
    omega
theorem after_set {st : Word} {k : Nat} {to : Int} (h : k < st.length) : st.take k ++ [to] ++ st.drop (k + 1) = st.set k to := by
  rw [List.set_eq_take_append_cons_drop, if_pos h, List.append_assoc]
  rfl
abbrev tBeh (K : PySem.W.Frag) (ai ki ti : Nat) : TE := tOp (rCatA K) (tOp (rCatA K) (tSl (rSlA K) (tVar ai) tNoPart (tPart (tVar ki))) (tTup (tCons (tVar ti) tNil))) (tSl (rSlA K) (tVar ai) (tPart (tOp (rI0 fun i j => V.int (i + j)) (tVar ki) (tC (V.int 1)))) tNoPart)
/-- stand[:k] + (to,) + stand[k + 1:] -/
theorem rd_behind {K : PySem.W.Frag} {σ : L2.St} {H : Hp} {Q : VK} {ai ki ti : Nat} {ua : Addr} {st : Word} {k : Nat} {to : Int} (hu : σ[ai]? = some (some (.ref ua))) (hk : σ[ki]? = some (some (.int (k : Nat)))) (ht : σ[ti]? = some (some (.int to))) (hua : H ua = some (.tup (st.map V.int))) (kl : k < st.length) (s60 : st.length ≤ 60)
    (q : ∀ H' z, Evl.Ex H H' → H' z = some (.tup ((st.set k to).map V.int)) → Q (.ref z) H') : tBeh K ai ki ti σ H Q := by
  refine ⟨.ref ua, hu, ?_⟩
  refine nopart1 ?_
  refine ⟨.int (k : Nat), hk, (k : Nat), rfl, ?_⟩
  refine sl_own (K := K) (lo := none) (hi := some ((k : Nat) : Int)) hua fun H3 z3 e3 q3 => ?_
  rw [cut_take, ← List.map_take] at q3
  refine ⟨.int to, ht, (by show 1 ≤ sizeLine; decide), fun y ny => ?_⟩
  have e4 := Evl.Ex.new (o := .tup [.int to]) ny
  have q4 : (upd H3 y (.tup [.int to])) y = some (.tup [.int to]) := upd_same
  generalize upd H3 y (.tup [.int to]) = H4 at e4 q4
  refine cat_own (K := K) (e4 _ _ q3) q4 (Nat.le_trans (by rw [List.length_map, List.length_take, List.length_singleton]; omega : ((st.take k).map V.int).length + [V.int to].length ≤ 101) (by decide)) fun H5 z5 e5 q5 => ?_
  have a5 := (e3.trans (e4.trans e5)) _ _ hua
  refine ⟨.ref ua, hu, .int (k : Nat), hk, (k : Nat), 1, rfl, rfl, ((k + 1 : Nat) : Int), by rw [Int.natCast_add]; rfl, ?_⟩
  refine nopart1 ?_
  refine sl_own (K := K) (lo := some ((k + 1 : Nat) : Int)) (hi := none) a5 fun H6 z6 e6 q6 => ?_
  rw [cut_drop (st.map V.int) (k := k + 1) (by rw [List.length_map]; omega), ← List.map_drop] at q6
  refine cat_own (K := K) (e6 _ _ q5) q6 (Nat.le_trans (by simp only [List.length_append, List.length_map, List.length_take, List.length_drop, List.length_singleton]; omega : ((st.take k).map V.int ++ [V.int to]).length + ((st.drop (k + 1)).map V.int).length ≤ 201) (by decide)) fun H7 z7 e7 q7 => ?_
  refine q H7 z7 (e3.trans (e4.trans (e5.trans (e6.trans e7)))) ?_
  rw [← after_set kl, List.map_append, List.map_append]
  exact q7

theorem tup_shaped (ns : List Int) : SeqAt.shaped (dW ns) = true := by
  have h := ints_shaped ns
  unfold dW
  simp only [SeqAt.shaped, PyData.canLay0, PyData.depth] at h ⊢
  exact h
theorem eqv_WW (u w : Word) : PyData.eqv (dW u) (dW w) = decide (u = w) := eqv_W u w
/-- what goneE tells, as it is given back -/
def GoneT (H : Hp) (v : V) : Option (Word × Int × Int) → Prop
  | none => v = .non
  | some (u, p, c) => ∃ a ua, v = .ref a ∧ H a = some (.tup [.ref ua, .int p, .int c]) ∧ H ua = some (.tup (u.map V.int))
theorem gone_step {l : Lock} {T : List Tld} {pl : Word} {k to : Int} : (goneE l T pl (.step k to) = none ∧ priceV l pl (.tuple [.int k, .int to]) = .non) ∨
    ∃ p, goneE l T pl (.step k to) = some (pl.set k.toNat to, p, 1) ∧ priceV l pl (.tuple [.int k, .int to]) = .int p ∧ 0 ≤ k ∧ k < (pl.length : Int) := by
  unfold goneE priceV stepV
  by_cases h : 0 ≤ k ∧ k < (pl.length : Int)
  · simp only [if_pos h]
    cases hf : (stepsOf l pl k.toNat).find? (fun t => decide (t.to_ = to)) with
    | none => exact .inl ⟨rfl, rfl⟩
    | some t => exact .inr ⟨t.price, rfl, rfl, h.1, h.2⟩
  · simp only [if_neg h]
    exact .inl ⟨trivial, trivial⟩
theorem EntAt.ex {H H' : Hp} (e : Evl.Ex H H') {v : V} {x : Ent} (h : EntAt H v x) : EntAt H' v x := by
  cases x with
  | step k to => obtain ⟨a, r, q⟩ := h; exact ⟨a, r, e _ _ q⟩
  | part n => obtain ⟨a, r, q⟩ := h; exact ⟨a, r, e _ _ q⟩
def spGone (K : PySem.W.Frag) (C : Addr) : Sp := fun vs H Q _ => ∃ (Bs : Hp) (rd dx lm mv lp lq lc pa : Addr) (v : V) (fs : List (Str × V)) (l : Lock) (T : List Tld) (ds : List Addr) (pvs : List V) (x : Ent) (pl : Word), vs = [.ref rd, v, .ref pa] ∧ ReAt K C Bs H rd dx fs lm mv lp lq lc l T ds pvs ∧ EntAt H v x ∧
  H pa = some (.tup (pl.map V.int)) ∧ pl.length ≤ l.length ∧ (∀ t ∈ T, t.b.length ≤ 60 ∧ t.e.length ≤ 60) ∧ ∀ H' r, Evl.Ex H H' → GoneT H' r (goneE l T pl x) → Q r H'
section
variable {P : Program} {w : World} {K : PySem.W.Frag} {mg : Str → Option Value} {base : Heap}
theorem ok_gone (D : Pr K mg) (R : ReC K mg) : FnOk P w K mg base CX0 4 R.f3 R.d3 ["self", "thing", "places"] (spGone K R.C) := by
  have B := D.B
  have G2 : FnOk P w K mg base CX0 2 D.f2 D.d2 ["thing", "low", "high"] spWholeIn := ok_wholeIn D.F2 D.F1 D.b1 D.g1 B
  have G3 : FnOk P w K mg base CX0 1 D.f3 D.d3 ["thing", "low", "high"] (spTupOf K) := ok_tupOf D.F3 B
  have GP : FnOk P w K mg base CX0 3 R.fp R.dp ["moves", "places", "step"] (spPrice K) := ok_price R.Fp D.F1 D.b1 D.g1 D.F2 D.b2 D.g2 D.F3 D.b3 D.g3 B
  refine R.F3.ok scRdGone (fun vs H Q E h => ?_) (fun cdv A' outer s H vs Q E hr h => ?_)
  · obtain ⟨Bs, rd, dx, lm, mv, lp, lq, lc, pa, v, fs, l, T, ds, pvs, x, pl, rfl, _⟩ := h; rfl
  · obtain ⟨Bs, rd, dx, lm, mv, lp, lq, lc, pa, v, fs, l, T, ds, pvs, x, pl, rfl, ra, hx, hpa, pll, t60, q⟩ := h
    have hr1 : Room 1 _ := hr.mono (by decide)
    have hr2 : Room 2 _ := hr.mono (by decide)
    refine ⟨_, (pss_cons (ps_if (PW.pt (pw_and (pt_val (pe_call G3 hr1 (by rfl) D.g3 D.F3.kp D.b3 .nil pass0 (pa_cons (pv 1) (pa_cons pe_int (pa_cons pe_int pa_nil))))) (pw_and1 (pt_cmpR op_eq (pe_ix (r := rIxT K) ix_tup (pv 1) pe_int (fun _ _ => rfl)) pe_str (nomark _)))))
        (pss_cons (ps_set (i := 3) scRdGone.nd rfl (.inl rfl) (pe_call GP hr (by rfl) R.gp R.Fp.kp R.bp .nil pass0 (pa_cons (pe_fld (pv 0) rfl) (pa_cons (pv 2) (pa_cons (pe_slice (r := rSlA K) sl_tupA (pv 1) (po_some pe_int) po_none) pa_nil)))))
        (pss_cons (ps_if (pt_cmpR op_isN (pv 3) pe_non (nomark _)) (pss_one (ps_ret pe_non)) pss_nil)
        (pss_cons (ps_asg (pv 1) (pg_tup rfl (pgs_cons (pg_name (i := 4) scRdGone.nd rfl (.inl rfl)) (pgs_cons (pg_name (i := 5) scRdGone.nd rfl (.inl rfl)) (pgs_cons (pg_name (i := 6) scRdGone.nd rfl (.inl rfl)) pgs_nil)))))
        (pss_one (ps_ret (te := tTup (tCons (tBeh K 2 5 6) (tCons (tVar 3) (tCons (tC (V.int 1)) tNil)))) (pe_tup (pa_cons (pe_op (r := rCatA K) op_catA (pe_op (r := rCatA K) op_catA (pe_slice (r := rSlA K) sl_tupA (pv 2) po_none (po_some (pv 5))) (pe_tup (pa_cons (pv 6) pa_nil))) (pe_slice (r := rSlA K) sl_tupA (pv 2) (po_some (pe_op op_add (pv 5) pe_int)) po_none)) (pa_cons (pv 3) (pa_cons pe_int pa_nil)))))))))
        pss_nil)
      (pss_cons (ps_if (PW.pt (pw_or (pt_not (pt_val (pe_call G3 hr1 (by rfl) D.g3 D.F3.kp D.b3 .nil pass0 (pa_cons (pv 1) (pa_cons pe_int (pa_cons pe_int pa_nil)))))) (pw_or (pt_cmpR op_ne (pe_ix (r := rIxT K) ix_tup (pv 1) pe_int (fun _ _ => rfl)) pe_str (nomark _)) (pw_or1 (pt_not (pt_val (pe_call G2 hr2 (by rfl) D.g2 D.F2.kp D.b2 .nil pass0 (pa_cons (pe_ix (r := rIxT K) ix_tup (pv 1) pe_int (fun _ _ => rfl)) (pa_cons pe_int (pa_cons (pe_op op_sub (pe_callB call_len_seq (by rfl) B.len PySem.boot_len (pa_cons (pe_fld (pv 0) rfl) pa_nil)) pe_int) pa_nil))))))))))
        (pss_one (ps_ret pe_non)) pss_nil)
      (pss_cons (ps_asg (pe_ix (r := rIxL K) ix_list (pe_fld (pv 0) rfl) (pe_ix (r := rIxT K) ix_tup (pv 1) pe_int (fun _ _ => rfl)) (fun _ _ => rfl)) (pg_tup rfl (pgs_cons (pg_name (i := 7) scRdGone.nd rfl (.inl rfl)) (pgs_cons (pg_name (i := 8) scRdGone.nd rfl (.inl rfl)) (pgs_cons (pg_name (i := 4) scRdGone.nd rfl (.inl rfl)) pgs_nil)))))
      (pss_cons (ps_if (pt_cmpR (op_neD hr.units) (pe_slice (r := rSlA K) sl_tupA (pv 2) po_none (po_some (pe_callB call_len_seq (by rfl) B.len PySem.boot_len (pa_cons (pv 7) pa_nil)))) (pv 7) (nomark _)) (pss_one (ps_ret pe_non)) pss_nil)
      (pss_one (ps_ret (pe_tup (pa_cons (pe_op (r := rCatA K) op_catA (pv 8) (pe_slice (r := rSlA K) sl_tupA (pv 2) (po_some (pe_callB call_len_seq (by rfl) B.len PySem.boot_len (pa_cons (pv 7) pa_nil))) po_none)) (pa_cons (pe_ix (r := rIxL K) ix_list (pe_fld (pv 0) rfl) (pe_ix (r := rIxT K) ix_tup (pv 1) pe_int (fun _ _ => rfl)) (fun _ _ => rfl)) (pa_cons (pe_ix (r := rIxL K) ix_list (pe_fld (pv 0) rfl) (pe_ix (r := rIxT K) ix_tup (pv 1) pe_int (fun _ _ => rfl)) (fun _ _ => rfl)) pa_nil)))))))))), ?_⟩
    cases x with
    | step k to =>
      obtain ⟨a, rfl, ha⟩ := hx
      refine ⟨.ref a, rfl, a, _, 3, 3, rfl, SqT.of ha, _, rfl, ?_⟩
      refine ite2 (fun _ => ?_) (fun hc => absurd (by simp) hc)
      refine ⟨.ref a, rfl, a, _, 0, .str "step", rfl, rfl, SqT.of ha, atI_nat (j := 0) rfl, rfl, _, rfl, ?_⟩
      refine ite2 (fun _ => ?_) (fun hc => absurd (decide_eq_true rfl) hc)
      refine ⟨.ref rd, rfl, rd, R.C, dx, fs, .ref mv, rfl, ra.obj, R.cl, R.n2, ra.a2, .ref pa, rfl, .ref a, rfl, 1, rfl, ?_⟩
      refine nopart1 ?_
      refine sl_own (K := K) (lo := some 1) (hi := none) ha fun H1 z e1 hz => ?_
      have hz' : H1 z = some (.tup [.int k, .int to]) := hz
      refine ⟨mv, pa, .ref z, .tuple [.int k, .int to], ds, l, pl, rfl, e1 _ _ ra.h2, ra.dl, ra.ok, e1 _ _ hpa, pll, (fun k d b h1 h2 => ?_), .tup (.inl hz') (.cons (.int k) (.cons (.int to) .nil)), fun H2 e2 => ?_⟩
      · obtain ⟨ws, w1, w2⟩ := ra.h3 k d b h1 h2
        exact ⟨ws, w1, w2.ex e1⟩
      have e12 := e1.trans e2
      rcases gone_step (l := l) (T := T) (pl := pl) (k := k) (to := to) with ⟨g0, p0⟩ | ⟨p, g1, p1, k0, kl⟩
      · rw [p0]
        refine ⟨.non, rfl, rfl, _, rfl, ?_⟩
        refine ite2 (fun _ => ?_) (fun hc => absurd (decide_eq_true rfl) hc)
        exact q H2 .non e12 (by rw [g0]; exact rfl)
      · rw [p1]
        refine ⟨.int p, rfl, rfl, _, rfl, ?_⟩
        refine ite2 (fun hc => absurd (of_decide_eq_true hc) (fun z => nomatch z)) (fun _ => ?_)
        obtain ⟨n, rfl⟩ : ∃ n : Nat, k = (n : Int) := ⟨k.toNat, by omega⟩
        refine ⟨.ref a, rfl, a, _, rfl, SqT.of (e12 _ _ ha), rfl, _, _, rfl, _, _, rfl, _, _, rfl, rfl, ?_⟩
        have n60 := ra.ok.n1
        refine rd_behind (k := n) (to := to) (st := pl) rfl rfl rfl (e12 _ _ hpa) (by omega) (by omega) fun H3 u e3 hu => ?_
        refine ⟨.int p, rfl, (by show 3 ≤ sizeLine; decide), fun y ny => ?_⟩
        refine q _ (.ref y) ((e12.trans e3).trans (Evl.Ex.new ny)) ?_
        rw [g1, Int.toNat_natCast]
        exact ⟨y, u, rfl, upd_same, (Evl.Ex.new ny) _ _ hu⟩
    | part n =>
      obtain ⟨a, rfl, ha⟩ := hx
      have pvl : pvs.length = T.length := Paired.len ra.pv
      have n60 := ra.ok.n1
      refine ⟨.ref a, rfl, a, _, 3, 3, rfl, SqT.of ha, _, rfl, ?_⟩
      refine ite2 (fun hc => absurd hc (by simp)) (fun _ => ?_)
      refine ⟨.ref a, rfl, a, _, 2, 2, rfl, SqT.of ha, _, rfl, ?_⟩
      refine ite2 (fun hc => absurd hc (by simp)) (fun _ => ?_)
      refine ⟨.ref a, rfl, a, _, 0, .str "part", rfl, rfl, SqT.of ha, atI_nat (j := 0) rfl, rfl, _, rfl, ?_⟩
      refine ite2 (fun hc => absurd hc (by simp)) (fun _ => ?_)
      refine ⟨.ref a, rfl, a, _, 1, .int n, rfl, rfl, SqT.of ha, atI_nat (j := 1) rfl, .ref rd, rfl, rd, R.C, dx, fs, .ref lp, rfl, ra.obj, R.cl, R.n3, ra.a3, lp, pvs, rfl, .inl (SqL.of ra.h4), (pvs.length : Nat), 1, rfl, rfl, n, 0, _, rfl, _, rfl, ?_⟩
      by_cases hn : 0 ≤ n ∧ n < (T.length : Int)
      · refine ite2 (fun hc => ?_) (fun _ => ?_)
        · rw [Bool.not_eq_true', Bool.and_eq_false_iff] at hc
          rcases hc with hc | hc
          · exact absurd hn.1 (of_decide_eq_false hc)
          · exact absurd (show n ≤ ((pvs.length : Nat) : Int) - 1 by omega) (of_decide_eq_false hc)
        obtain ⟨m, rfl⟩ : ∃ m : Nat, n = (m : Int) := ⟨n.toNat, by omega⟩
        obtain ⟨t, ht⟩ : ∃ t, T[m]? = some t := ⟨T[m]'(by omega), List.getElem?_eq_getElem (by omega)⟩
        obtain ⟨pvv, hpv, ⟨a', bv, ev, xx, rfl, ha', ⟨ba, rfl, hb⟩, ⟨ea, rfl, he⟩⟩⟩ := Paired.get2 ra.pv ht
        have tl := t60 t (List.mem_of_getElem? ht)
        refine ⟨.ref rd, rfl, rd, R.C, dx, fs, .ref lp, rfl, ra.obj, R.cl, R.n3, ra.a3, .ref a, rfl, a, _, 1, .int (m : Nat), rfl, rfl, SqT.of ha, atI_nat (j := 1) rfl, lp, pvs, (m : Nat), .ref a', rfl, rfl, SqL.of ra.h4, atI_nat hpv, ?_⟩
        refine ⟨a', _, rfl, SqT.of ha', rfl, _, _, rfl, _, _, rfl, _, _, rfl, rfl, ?_⟩
        refine ⟨.ref pa, rfl, ?_⟩
        refine nopart1 ?_
        refine ⟨.ref ba, rfl, ba, _, rfl, .inr (SqT.of hb), ((t.b.map V.int).length : Nat), rfl, ?_⟩
        refine sl_own (K := K) (lo := none) (hi := some (((t.b.map V.int).length : Nat) : Int)) hpa fun H1 z e1 hz => ?_
        rw [cut_take, ← List.map_take, List.length_map] at hz
        refine ⟨.ref ba, rfl, dW (pl.take t.b.length), dW t.b, dp_W ⟨z, rfl, hz⟩, dp_W ⟨ba, rfl, e1 _ _ hb⟩, tup_shaped _, tup_shaped _, _, rfl, ?_⟩
        rw [eqv_WW]
        have ge : goneE l T pl (.part (m : Nat)) = if pl.take t.b.length = t.b then some (t.e ++ pl.drop t.b.length, t.p, t.c) else none := by
          show (if (0 : Int) ≤ ((m : Nat) : Int) then (match T[(((m : Nat) : Int)).toNat]? with
            | some t => if pl.take t.b.length = t.b then some (t.e ++ pl.drop t.b.length, t.p, t.c) else none
            | none => none) else none) = _
          rw [if_pos (by omega), Int.toNat_natCast, ht]
        by_cases c : pl.take t.b.length = t.b
        · rw [if_pos c] at ge
          refine ite2 (fun hc => absurd hc (by rw [decide_eq_true c]; simp)) (fun _ => ?_)
          have le : t.b.length ≤ pl.length := by
            have := congrArg List.length c
            rw [List.length_take] at this
            omega
          refine ⟨.ref ea, rfl, .ref pa, rfl, .ref ba, rfl, ba, _, rfl, .inr (SqT.of (e1 _ _ hb)), ((t.b.map V.int).length : Nat), rfl, ?_⟩
          refine nopart1 ?_
          refine sl_own (K := K) (lo := some (((t.b.map V.int).length : Nat) : Int)) (hi := none) (e1 _ _ hpa) fun H2 z2 e2 hz2 => ?_
          rw [List.length_map, cut_drop _ (by rw [List.length_map]; exact le), ← List.map_drop] at hz2
          have e12 := e1.trans e2
          refine cat_own (K := K) (e12 _ _ he) hz2 (Nat.le_trans (by simp only [List.length_map, List.length_drop]; omega : (t.e.map V.int).length + ((pl.drop t.b.length).map V.int).length ≤ 200) (by decide)) fun H3 z3 e3 hz3 => ?_
          have e13 := e12.trans e3
          rw [← List.map_append] at hz3
          have hp : (T.map fun t => V.int t.p)[m]? = some (.int t.p) := by rw [List.getElem?_map, ht]; rfl
          have hc : (T.map fun t => V.int t.c)[m]? = some (.int t.c) := by rw [List.getElem?_map, ht]; rfl
          refine ⟨.ref rd, rfl, rd, R.C, dx, fs, .ref lq, rfl, e13 _ _ ra.obj, R.cl, R.n4, ra.a4, .ref a, rfl, a, _, 1, .int (m : Nat), rfl, rfl, SqT.of (e13 _ _ ha), atI_nat (j := 1) rfl, lq, _, (m : Nat), .int t.p, rfl, rfl, SqL.of (e13 _ _ ra.h5), atI_nat hp, ?_⟩
          refine ⟨.ref rd, rfl, rd, R.C, dx, fs, .ref lc, rfl, e13 _ _ ra.obj, R.cl, R.n5, ra.a5, .ref a, rfl, a, _, 1, .int (m : Nat), rfl, rfl, SqT.of (e13 _ _ ha), atI_nat (j := 1) rfl, lc, _, (m : Nat), .int t.c, rfl, rfl, SqL.of (e13 _ _ ra.h6), atI_nat hc, ?_⟩
          refine ⟨(by show 3 ≤ sizeLine; decide), fun y ny => ?_⟩
          refine q _ (.ref y) (e13.trans (Evl.Ex.new ny)) ?_
          rw [ge]
          exact ⟨y, z3, rfl, upd_same, (Evl.Ex.new ny) _ _ hz3⟩
        · rw [if_neg c] at ge
          refine ite2 (fun _ => ?_) (fun hc => absurd ?_ hc)
          · exact q H1 .non e1 (by rw [ge]; exact rfl)
          · rw [decide_eq_false c]; rfl
      · have g0 : goneE l T pl (.part n) = none := by
          unfold goneE
          by_cases h0 : 0 ≤ n
          · simp only [if_pos h0]
            rw [List.getElem?_eq_none (by omega)]
          · simp only [if_neg h0]
        refine ite2 (fun _ => ?_) (fun hc => absurd ?_ hc)
        · exact q H .non (Evl.Ex.refl H) (by rw [g0]; exact rfl)
        · rw [Bool.not_eq_true', Bool.and_eq_false_iff]
          by_cases h0 : 0 ≤ n
          · exact .inr (decide_eq_false (by omega))
          · exact .inl (decide_eq_false h0)
end
end Wb

set_option Elab.async false
set_option linter.all false
set_option maxRecDepth 100000
set_option maxHeartbeats 8000000
set_option pp.maxSteps 900
set_option pp.deepTerms false
namespace Wb
open PySem PySem.Spec PyProof.Rows L2
abbrev nRdWeight : List Str := ["self", "begin", "end", "entries", "places", "price", "count", "entry", "gone"]
theorem scRdWeight : FnScope nRdWeight ["self", "begin", "end", "entries"] (defScope sRdWeight) := ⟨rfl, rfl, rfl, by decide +kernel, rfl, by decide +kernel, by decide +kernel⟩
/-- the told parts are words of as many places at both ends -/
def EvenT (T : List Tld) : Prop := ∀ t ∈ T, t.b.length ≤ 60 ∧ t.e.length = t.b.length
theorem gone_len {l : Lock} {T : List Tld} (ev : EvenT T) {pl u : Word} {x : Ent} {p c : Int} (h : goneE l T pl x = some (u, p, c)) : u.length = pl.length := by
  cases x with
  | step k to =>
    rcases gone_step (l := l) (T := T) (pl := pl) (k := k) (to := to) with ⟨g, _⟩ | ⟨q, g, _⟩
    · rw [g] at h; cases h
    · rw [g] at h
      have := (Prod.mk.inj (Option.some.inj h)).1
      rw [← this, List.length_set]
  | part n =>
    have h' : (if (0 : Int) ≤ n then (match T[n.toNat]? with
      | some t => if pl.take t.b.length = t.b then some (t.e ++ pl.drop t.b.length, t.p, t.c) else none
      | none => none) else none) = some (u, p, c) := h
    by_cases n0 : 0 ≤ n
    · rw [if_pos n0] at h'
      cases ht : T[n.toNat]? with
      | none => rw [ht] at h'; cases h'
      | some t =>
        rw [ht] at h'
        have h2 : (if pl.take t.b.length = t.b then some (t.e ++ pl.drop t.b.length, t.p, t.c) else none) = some (u, p, c) := h'
        by_cases c : pl.take t.b.length = t.b
        · rw [if_pos c] at h2
          have z := (Prod.mk.inj (Option.some.inj h2)).1
          have e := ev t (List.mem_of_getElem? ht)
          have len := congrArg List.length c
          rw [List.length_take] at len
          rw [← z, List.length_append, List.length_drop]
          omega
        · rw [if_neg c] at h2; cases h2
    · rw [if_neg n0] at h'; cases h'
theorem fold_app (l : Lock) (T : List Tld) (xs ys : List Ent) : ∀ (pl : Word) (p c : Int), foldE l T pl p c (xs ++ ys) = (foldE l T pl p c xs).bind fun r => foldE l T r.1 r.2.1 r.2.2 ys := by
  induction xs with
  | nil => intro pl p c; rfl
  | cons x xs ih =>
    intro pl p c
    rw [List.cons_append, foldE, foldE]
    cases h : goneE l T pl x with
    | none => rfl
    | some r =>
      obtain ⟨u, q, d⟩ := r
      exact ih u (p + q) (c + d)
def WeightT (H : Hp) (v : V) : Option (Int × Int) → Prop
  | none => v = .non
  | some (p, c) => ∃ a, v = .ref a ∧ H a = some (.tup [.int p, .int c])
def spWeight (K : PySem.W.Frag) (C : Addr) : Sp := fun vs H Q _ => ∃ (Bs : Hp) (rd dx lm mv lp lq lc ba ea ca : Addr) (fs : List (Str × V)) (l : Lock) (T : List Tld) (ds : List Addr) (pvs us : List V) (x : Prt), vs = [.ref rd, .ref ba, .ref ea, .ref ca] ∧ ReAt K C Bs H rd dx fs lm mv lp lq lc l T ds pvs ∧ EvenT T ∧
  H ba = some (.tup (x.b.map V.int)) ∧ H ea = some (.tup (x.e.map V.int)) ∧ H ca = some (.tup us) ∧ Paired (EntAt H) us x.es ∧ x.b.length ≤ l.length ∧ ∀ H' r, Evl.Ex H H' → WeightT H' r (weightE l T x) → Q r H'
section
variable {P : Program} {w : World} {K : PySem.W.Frag} {mg : Str → Option Value} {base : Heap}
theorem ok_weight (D : Pr K mg) (R : ReC K mg) (ms : ∃ t, mg "MOST_STEPS" = some (.int (10 ^ 300) t)) : FnOk P w K mg base CX0 5 R.f2 R.d2 ["self", "begin", "end", "entries"] (spWeight K R.C) := by
  have B := D.B
  have GG : FnOk P w K mg base CX0 4 R.f3 R.d3 ["self", "thing", "places"] (spGone K R.C) := ok_gone D R
  obtain ⟨tm, em⟩ := ms
  refine R.F2.ok scRdWeight (fun vs H Q E h => ?_) (fun cdv A' outer s H vs Q E hr h => ?_)
  · obtain ⟨Bs, rd, dx, lm, mv, lp, lq, lc, ba, ea, ca, fs, l, T, ds, pvs, us, x, rfl, _⟩ := h; rfl
  · obtain ⟨Bs, rd, dx, lm, mv, lp, lq, lc, ba, ea, ca, fs, l, T, ds, pvs, us, x, rfl, ra, ev, hb, he, hc, hus, bl, q⟩ := h
    refine ⟨_, (Evl.pss_cut (ps_par3 (by rfl) scRdWeight.nd (i := 4) (j := 5) (l := 6) rfl rfl rfl (by decide) (by decide) (by decide) rfl rfl rfl (pa_cons (pv 1) (pa_cons pe_int (pa_cons pe_int pa_nil))) (by rfl))
      (pss_cons (ps_for PassesOwn.never rfl (pi_tup (pv 3)) (pg_name (i := 7) scRdWeight.nd rfl (.inl rfl))
        (pss_cons (ps_set (i := 8) scRdWeight.nd rfl (.inl rfl) (pe_meth (pv 0) R.cl R.m3 GG hr R.b3 .nil pass0 (pa_cons (pv 7) (pa_cons (pv 4) pa_nil))))
        (pss_cons (ps_if (pt_cmpR op_isN (pv 8) pe_non (nomark _)) (pss_one (ps_ret pe_non)) pss_nil)
        (pss_cons (ps_set (i := 4) scRdWeight.nd rfl (.inl rfl) (pe_ix (r := rIxT K) ix_tup (pv 8) pe_int (fun _ _ => rfl)))
        (pss_cons (ps_aug (i := 5) scRdWeight.nd rfl (.inl rfl) (pe_ix (r := rIxT K) ix_tup (pv 8) pe_int (fun _ _ => rfl)) iop_add)
        (pss_one (ps_aug (i := 6) scRdWeight.nd rfl (.inl rfl) (pe_ix (r := rIxT K) ix_tup (pv 8) pe_int (fun _ _ => rfl)) iop_add)))))))
      (pss_cons (ps_if (PW.pt (pw_or (pt_cmpR (op_neD hr.units) (pv 4) (pv 2) (nomark _)) (pw_or1 (pt_cmpR op_gt (pv 6) (pe_glob (v := .int (10 ^ 300)) (by rfl) em ⟨_, rfl⟩) (nomark _))))) (pss_one (ps_ret pe_non)) pss_nil)
      (pss_one (ps_ret (pe_tup (pa_cons (pv 5) (pa_cons (pv 6) pa_nil)))))))), ?_⟩
    refine ⟨fun σ H' => σ = [some (.ref rd), some (.ref ba), some (.ref ea), some (.ref ca), some (.ref ba), some (.int 0), some (.int 0), none, none] ∧ Evl.Ex H H', ?_, ?_⟩
    · refine ⟨.ref ba, rfl, ?_⟩
      exact ⟨_, _, _, rfl, rfl, Evl.Ex.refl H⟩
    rintro _ H1 ⟨rfl, e1⟩
    have ul : us.length = x.es.length := Paired.len hus
    refine ⟨.ref ca, rfl, ca, rfl, ⟨us, SqT.of (e1 _ _ hc)⟩, ?_⟩
    refine for_it (walk_tup (K := K) (a := ca) (xs := us)) (fun i σ H' => ∃ (pa : Addr) (pl : Word) (p c : Int) (y7 y8 : Option V), σ = [some (.ref rd), some (.ref ba), some (.ref ea), some (.ref ca), some (.ref pa), some (.int p), some (.int c), y7, y8] ∧ Evl.Ex H H' ∧ H' pa = some (.tup (pl.map V.int)) ∧ pl.length = x.b.length ∧ foldE l T x.b 0 0 (x.es.take i) = some (pl, p, c))
      ⟨ba, x.b, 0, 0, none, none, rfl, e1, e1 _ _ hb, rfl, rfl⟩ ?_ ?_ ?_
    · rintro i σ H' _ ⟨_, _, _, _, _, _, _, e, _⟩
      exact SqT.of (e _ _ hc)
    · rintro i v σ H2' H2 hi ⟨pa, pl, p, c, y7, y8, rfl, e2, hpa, pll, fo⟩ ⟨rfl, hx⟩
      obtain ⟨en, hen, hat⟩ := Paired.get1 hus hx
      have fs' : foldE l T x.b 0 0 (x.es.take (i + 1)) = (goneE l T pl en).bind fun r => some (r.1, p + r.2.1, c + r.2.2) := by
        rw [take_succ_get hen, fold_app, fo]
        show foldE l T pl p c [en] = _
        rw [foldE]
        cases h : goneE l T pl en with
        | none => rfl
        | some r => obtain ⟨u, q', d⟩ := r; rfl
      have ra2 := ra.ex e2
      have t60 : ∀ t ∈ T, t.b.length ≤ 60 ∧ t.e.length ≤ 60 := fun t ht => by
        have := ev t ht
        omega
      refine ⟨.ref rd, rfl, rd, dx, fs, rfl, ra2.obj, ra2.m3, v, rfl, .ref pa, rfl, Bs, rd, dx, lm, mv, lp, lq, lc, pa, v, fs, l, T, ds, pvs, en, pl, rfl, ra2, hat.ex e2, hpa, by omega, t60, fun H3 r e3 hg => ?_⟩
      have e23 := e2.trans e3
      cases hgo : goneE l T pl en with
      | none =>
        rw [hgo] at hg fs'
        have hr' : r = .non := hg
        subst hr'
        refine ⟨.non, rfl, rfl, _, rfl, ?_⟩
        refine ite2 (fun _ => ?_) (fun hc => absurd (decide_eq_true rfl) hc)
        refine q H3 .non e23 ?_
        have : foldE l T x.b 0 0 x.es = none := by
          rw [← List.take_append_drop (i + 1) x.es, fold_app, fs']
          rfl
        have z : weightE l T x = none := by unfold weightE; rw [this]
        rw [z]
        exact rfl
      | some g =>
        obtain ⟨u, gp, gc⟩ := g
        rw [hgo] at hg fs'
        obtain ⟨a, ua, rfl, hga, hgu⟩ := hg
        refine ⟨.ref a, rfl, rfl, _, rfl, ?_⟩
        refine ite2 (fun hc => absurd (of_decide_eq_true hc) (fun z => nomatch z)) (fun _ => ?_)
        refine ⟨.ref a, rfl, a, _, 0, .ref ua, rfl, rfl, SqT.of hga, atI_nat (j := 0) rfl, ?_⟩
        refine ⟨.int p, rfl, .ref a, rfl, a, _, 1, .int gp, rfl, rfl, SqT.of hga, atI_nat (j := 1) rfl, p, gp, rfl, rfl, ?_⟩
        refine ⟨.int c, rfl, .ref a, rfl, a, _, 2, .int gc, rfl, rfl, SqT.of hga, atI_nat (j := 2) rfl, c, gc, rfl, rfl, ?_⟩
        exact ⟨ua, u, p + gp, c + gc, _, _, rfl, e23, hgu, (gone_len ev hgo).trans pll, fs'⟩
    · rintro σ H2 ⟨pa, pl, p, c, y7, y8, rfl, e2, hpa, pll, fo⟩
      rw [ul, List.take_length] at fo
      refine ⟨.ref pa, rfl, .ref ea, rfl, dW pl, dW x.e, dp_W ⟨pa, rfl, hpa⟩, dp_W ⟨ea, rfl, e2 _ _ he⟩, tup_shaped _, tup_shaped _, _, rfl, ?_⟩
      rw [eqv_WW]
      have we : weightE l T x = if pl = x.e ∧ c ≤ mostC then some (p, c) else none := by unfold weightE; rw [fo]
      by_cases c1 : pl = x.e
      · refine ite2 (fun hc => absurd hc (by rw [decide_eq_true c1]; simp)) (fun _ => ?_)
        refine ⟨.int c, rfl, c, 10 ^ 300, rfl, rfl, _, rfl, ?_⟩
        refine ite2 (fun hc => ?_) (fun hc => ?_)
        · have c2 : ¬ c ≤ mostC := Int.not_le.mpr (of_decide_eq_true hc)
          rw [if_neg (fun z => c2 z.2)] at we
          exact q H2 .non e2 (by rw [we]; exact rfl)
        · have c2 : c ≤ mostC := Int.not_lt.mp fun z => hc (decide_eq_true z)
          rw [if_pos ⟨c1, c2⟩] at we
          refine ⟨.int p, rfl, .int c, rfl, (by show 2 ≤ sizeLine; decide), fun y ny => ?_⟩
          refine q _ (.ref y) (e2.trans (Evl.Ex.new ny)) ?_
          rw [we]
          exact ⟨y, rfl, upd_same⟩
      · refine ite2 (fun _ => ?_) (fun hc => absurd (by rw [decide_eq_false c1]; rfl) hc)
        rw [if_neg (fun z => c1 z.1)] at we
        exact q H2 .non e2 (by rw [we]; exact rfl)
end
end Wb

set_option Elab.async false
set_option linter.all false
set_option maxRecDepth 100000
set_option maxHeartbeats 8000000
set_option pp.maxSteps 900
set_option pp.deepTerms false
namespace Wb
open PySem PySem.Spec PyProof.Rows L2
abbrev nRdPut : List Str := ["self", "thing", "begin", "end", "entries", "manys", "weight"]
theorem scRdPut : FnScope nRdPut ["self", "thing"] (defScope sRdPut) := ⟨rfl, rfl, rfl, by decide +kernel, rfl, by decide +kernel, by decide +kernel⟩
theorem th_intsR {K : PySem.W.Frag} {H : Hp} : ∀ st : List Int, ThAll K H (st.map V.int) (st.map .int)
  | [] => .nil
  | x :: st => .cons (.int x) (th_intsR st)
theorem th_wdR {K : PySem.W.Frag} {H : Hp} {a : Addr} {st : Word} (h : H a = some (.tup (st.map V.int))) : Th K H (.ref a) (dW st) := .tup (.inl h) (th_intsR st)
/-- what a part is told to weigh; none where it is none -/
def partE (l : Lock) (T : List Tld) (x : Prt) : Option (Int × Int) :=
  if 1 ≤ x.b.length ∧ x.b.length ≤ l.length ∧ x.es.length ≤ 60 ∧ placesB (dW x.b) ((manysOf l).take x.b.length) = true ∧ placesB (dW x.e) ((manysOf l).take x.b.length) = true then weightE l T x else none
def spPut (K : PySem.W.Frag) (C : Addr) : Sp := fun vs H Q _ => ∃ (Bs : Hp) (rd dx lm mv lp lq lc : Addr) (v : V) (fs : List (Str × V)) (l : Lock) (T : List Tld) (ds : List Addr) (pvs : List V) (x : Prt), vs = [.ref rd, v] ∧ ReAt K C Bs H rd dx fs lm mv lp lq lc l T ds pvs ∧ EvenT T ∧ T.length ≤ 40000 ∧ PrtAt K H v x ∧
  (partE l T x = none → ∀ H', Evl.Ex H H' → Q (.bl false) H') ∧
  ∀ p c, partE l T x = some (p, c) → ∀ H' pvs', (∀ b o, b ≠ lp → b ≠ lq → b ≠ lc → H b = some o → H' b = some o) → ReAt K C Bs H' rd dx fs lm mv lp lq lc l (T ++ [⟨x.b, x.e, p, c⟩]) ds pvs' → Q (.bl true) H'
section
variable {P : Program} {w : World} {K : PySem.W.Frag} {mg : Str → Option Value} {base : Heap}
theorem ok_put (D : Pr K mg) (R : ReC K mg) (ms : ∃ t, mg "MOST_STEPS" = some (.int (10 ^ 300) t)) (me : ∃ t, mg "MOST_ENTRIES" = some (.int 60 t)) : FnOk P w K mg base CX0 6 R.f1 R.d1 ["self", "thing"] (spPut K R.C) := by
  have B := D.B
  have G3 : FnOk P w K mg base CX0 1 D.f3 D.d3 ["thing", "low", "high"] (spTupOf K) := ok_tupOf D.F3 B
  have G4 : FnOk P w K mg base CX0 2 D.f4 D.d4 ["thing", "manys"] (spPlacesG K) := ok_placesG D.F4 D.F3 D.b3 D.g3 B
  have GW : FnOk P w K mg base CX0 5 R.f2 R.d2 ["self", "begin", "end", "entries"] (spWeight K R.C) := ok_weight D R ms
  obtain ⟨te, ee⟩ := me
  refine R.F1.ok scRdPut (fun vs H Q E h => ?_) (fun cdv A' outer s H vs Q E hr h => ?_)
  · obtain ⟨Bs, rd, dx, lm, mv, lp, lq, lc, v, fs, l, T, ds, pvs, x, rfl, _⟩ := h; rfl
  · obtain ⟨Bs, rd, dx, lm, mv, lp, lq, lc, v, fs, l, T, ds, pvs, x, rfl, ra, ev, T4, hx, qn, qs⟩ := h
    have hr1 : Room 1 _ := hr.mono (by decide)
    have hr2 : Room 2 _ := hr.mono (by decide)
    refine ⟨_, (pss_cons (ps_if (pt_not (pt_val (pe_call G3 hr1 (by rfl) D.g3 D.F3.kp D.b3 .nil pass0 (pa_cons (pv 1) (pa_cons pe_int (pa_cons pe_int pa_nil)))))) (pss_one (ps_ret pe_bl)) pss_nil)
      (pss_cons (ps_asg (pv 1) (pg_tup rfl (pgs_cons (pg_name (i := 2) scRdPut.nd rfl (.inl rfl)) (pgs_cons (pg_name (i := 3) scRdPut.nd rfl (.inl rfl)) (pgs_cons (pg_name (i := 4) scRdPut.nd rfl (.inl rfl)) pgs_nil)))))
      (pss_cons (ps_if (PW.pt (pw_or (pt_not (pt_val (pe_call G3 hr1 (by rfl) D.g3 D.F3.kp D.b3 .nil pass0 (pa_cons (pv 2) (pa_cons pe_int (pa_cons (pe_callB call_len_seq (by rfl) B.len PySem.boot_len (pa_cons (pe_fld (pv 0) rfl) pa_nil)) pa_nil)))))) (pw_or1 (pt_not (pt_val (pe_call G3 hr1 (by rfl) D.g3 D.F3.kp D.b3 .nil pass0 (pa_cons (pv 4) (pa_cons pe_int (pa_cons (pe_glob (v := .int 60) (by rfl) ee ⟨_, rfl⟩) pa_nil))))))))) (pss_one (ps_ret pe_bl)) pss_nil)
      (pss_cons (ps_set (i := 5) scRdPut.nd rfl (.inl rfl) (pe_slice sl_list (pe_fld (pv 0) rfl) po_none (po_some (pe_callB call_len_seq (by rfl) B.len PySem.boot_len (pa_cons (pv 2) pa_nil)))))
      (pss_cons (ps_if (PW.pt (pw_or (pt_not (pt_val (pe_call G4 hr2 (by rfl) D.g4 D.F4.kp D.b4 .nil pass0 (pa_cons (pv 2) (pa_cons (pv 5) pa_nil))))) (pw_or1 (pt_not (pt_val (pe_call G4 hr2 (by rfl) D.g4 D.F4.kp D.b4 .nil pass0 (pa_cons (pv 3) (pa_cons (pv 5) pa_nil)))))))) (pss_one (ps_ret pe_bl)) pss_nil)
      (pss_cons (ps_set (i := 6) scRdPut.nd rfl (.inl rfl) (pe_meth (pv 0) R.cl R.m2 GW hr R.b2 .nil pass0 (pa_cons (pv 2) (pa_cons (pv 3) (pa_cons (pv 4) pa_nil)))))
      (pss_cons (ps_if (pt_cmpR op_isN (pv 6) pe_non (nomark _)) (pss_one (ps_ret pe_bl)) pss_nil)
      (pss_cons (ps_expr (pe_bm PySem.F.plainAttrs_list PySem.F.slot_list_append PySem.F.type_list_append mt_append (pe_fld (pv 0) rfl) (pa_cons (pe_tup (pa_cons (pe_callTy (r := rTupK K) call_tupK (by rfl) B.tuple PyProof.Rows.boot_tuple (pa_cons (pv 2) pa_nil)) (pa_cons (pe_callTy (r := rTupK K) call_tupK (by rfl) B.tuple PyProof.Rows.boot_tuple (pa_cons (pv 3) pa_nil)) (pa_cons (pv 4) pa_nil)))) pa_nil)))
      (pss_cons (ps_expr (pe_bm PySem.F.plainAttrs_list PySem.F.slot_list_append PySem.F.type_list_append mt_append (pe_fld (pv 0) rfl) (pa_cons (pe_ix (r := rIxT K) ix_tup (pv 6) pe_int (fun _ _ => rfl)) pa_nil)))
      (pss_cons (ps_expr (pe_bm PySem.F.plainAttrs_list PySem.F.slot_list_append PySem.F.type_list_append mt_append (pe_fld (pv 0) rfl) (pa_cons (pe_ix (r := rIxT K) ix_tup (pv 6) pe_int (fun _ _ => rfl)) pa_nil)))
      (pss_one (ps_ret pe_bl)))))))))))), ?_⟩
    obtain ⟨a, c, bv, ev', us, rfl, ha, ⟨ba, rfl, hb⟩, ⟨ea, rfl, he⟩, hc, hus⟩ := hx
    have ul : us.length = x.es.length := Paired.len hus
    have ml : ((manysOf l).map V.int).length = l.length := by unfold manysOf; rw [List.length_map, List.length_map]
    refine ⟨.ref a, rfl, a, _, 3, 3, rfl, SqT.of ha, _, rfl, ?_⟩
    refine ite2 (fun hc => absurd hc (by simp)) (fun _ => ?_)
    refine ⟨.ref a, rfl, a, _, rfl, SqT.of ha, rfl, _, _, rfl, _, _, rfl, _, _, rfl, rfl, ?_⟩
    refine ⟨.ref ba, rfl, .ref rd, rfl, rd, R.C, dx, fs, .ref lm, rfl, ra.obj, R.cl, R.n1, ra.a1, lm, _, rfl, .inl (SqL.of ra.h1), ba, _, 1, _, rfl, SqT.of hb, _, rfl, ?_⟩
    rw [List.length_map, ml]
    by_cases c1 : 1 ≤ x.b.length ∧ x.b.length ≤ l.length
    case neg =>
      refine ite2 (fun _ => qn (by unfold partE; rw [if_neg (fun z => c1 ⟨z.1, z.2.1⟩)]) H (Evl.Ex.refl H)) (fun hc => absurd ?_ hc)
      rw [Bool.not_eq_true', Bool.and_eq_false_iff]
      by_cases c2 : 1 ≤ x.b.length
      · exact .inr (decide_eq_false (by omega))
      · exact .inl (decide_eq_false (by omega))
    refine ite2 (fun hc => absurd hc (by rw [decide_eq_true (show (1 : Int) ≤ (x.b.length : Int) by omega), decide_eq_true (show (x.b.length : Int) ≤ (l.length : Int) by omega)]; simp)) (fun _ => ?_)
    refine ⟨.ref c, rfl, c, us, 0, 60, rfl, SqT.of hc, _, rfl, ?_⟩
    rw [ul]
    by_cases c3 : x.es.length ≤ 60
    case neg =>
      refine ite2 (fun _ => qn (by unfold partE; rw [if_neg (fun z => c3 z.2.2.1)]) H (Evl.Ex.refl H)) (fun hc => absurd ?_ hc)
      rw [Bool.not_eq_true', Bool.and_eq_false_iff]
      exact .inr (decide_eq_false (by omega))
    refine ite2 (fun hc => absurd hc (by rw [decide_eq_true (show (0 : Int) ≤ (x.es.length : Int) by omega), decide_eq_true (show (x.es.length : Int) ≤ 60 by omega)]; simp)) (fun _ => ?_)
    refine ⟨.ref rd, rfl, rd, R.C, dx, fs, .ref lm, rfl, ra.obj, R.cl, R.n1, ra.a1, .ref ba, rfl, ba, _, rfl, .inr (SqT.of hb), ((x.b.map V.int).length : Nat), rfl, lm, _, rfl, SqL.of ra.h1, fun z nz => ?_⟩
    rw [cut_take, List.length_map, ← List.map_take]
    have e1 := Evl.Ex.new (o := .lst (((manysOf l).take x.b.length).map V.int)) nz
    have gz : (upd H z (.lst (((manysOf l).take x.b.length).map V.int))) z = some (.lst (((manysOf l).take x.b.length).map V.int)) := upd_same
    generalize upd H z (.lst (((manysOf l).take x.b.length).map V.int)) = H1 at e1 gz
    have hb1 := e1 _ _ hb
    refine ⟨.ref ba, rfl, .ref z, rfl, .ref ba, dW x.b, z, true, (manysOf l).take x.b.length, rfl, th_wdR hb1, .inl (.inl gz), fun H2 e2 => ?_⟩
    refine ⟨_, rfl, ?_⟩
    have e12 := e1.trans e2
    cases c4 : placesB (dW x.b) ((manysOf l).take x.b.length) with
    | false =>
      refine iteT ?_
      exact iteT (qn (by unfold partE; rw [if_neg (fun z => Bool.false_ne_true (c4.symm.trans z.2.2.2.1))]) H2 e12)
    | true =>
    refine iteF ?_
    refine ⟨.ref ea, rfl, .ref z, rfl, .ref ea, dW x.e, z, true, (manysOf l).take x.b.length, rfl, th_wdR (e12 _ _ he), .inl (.inl (e2 _ _ gz)), fun H3 e3 => ?_⟩
    refine ⟨_, rfl, ?_⟩
    have e13 := e12.trans e3
    cases c5 : placesB (dW x.e) ((manysOf l).take x.b.length) with
    | false =>
      refine iteT ?_
      exact qn (by unfold partE; rw [if_neg (fun z => Bool.false_ne_true (c5.symm.trans z.2.2.2.2))]) H3 e13
    | true =>
    refine iteF ?_
    have pe : partE l T x = weightE l T x := by unfold partE; rw [if_pos ⟨c1.1, c1.2, c3, c4, c5⟩]
    have ra3 := ra.ex e13
    refine ⟨.ref rd, rfl, rd, dx, fs, rfl, ra3.obj, ra3.m2, .ref ba, rfl, .ref ea, rfl, .ref c, rfl, Bs, rd, dx, lm, mv, lp, lq, lc, ba, ea, c, fs, l, T, ds, pvs, us, x, rfl, ra3, ev, e13 _ _ hb, e13 _ _ he, e13 _ _ hc, Paired.imp (fun _ _ h => EntAt.ex e13 h) hus, c1.2, fun H4 r e4 hw => ?_⟩
    have e14 := e13.trans e4
    cases cw : weightE l T x with
    | none =>
      rw [cw] at hw
      have hr' : r = .non := hw
      subst hr'
      refine ⟨.non, rfl, rfl, _, rfl, ?_⟩
      refine ite2 (fun _ => ?_) (fun hc => absurd (decide_eq_true rfl) hc)
      exact qn (pe.trans cw) H4 e14
    | some g =>
      obtain ⟨gp, gc⟩ := g
      rw [cw] at hw
      obtain ⟨wa, rfl, hwa⟩ := hw
      refine ⟨.ref wa, rfl, rfl, _, rfl, ?_⟩
      refine ite2 (fun hc => absurd (of_decide_eq_true hc) (fun z => nomatch z)) (fun _ => ?_)
      have ra4 := ra3.ex e4
      have pvl : pvs.length = T.length := Paired.len ra4.pv
      refine ⟨.ref rd, rfl, rd, R.C, dx, fs, .ref lp, rfl, ra4.obj, R.cl, R.n3, ra4.a3, .inl ⟨rfl, _, SqL.of ra4.h4⟩, ?_⟩
      refine ⟨.ref ba, rfl, ba, _, rfl, .inr ⟨SqT.of (e14 _ _ hb), ?_⟩⟩
      refine ⟨.ref ea, rfl, ea, _, rfl, .inr ⟨SqT.of (e14 _ _ he), ?_⟩⟩
      refine ⟨.ref c, rfl, (by show 3 ≤ sizeLine; decide), fun y ny => ?_⟩
      have e5 := Evl.Ex.new (o := .tup [.ref ba, .ref ea, .ref c]) ny
      have gy : (upd H4 y (.tup [.ref ba, .ref ea, .ref c])) y = some (.tup [.ref ba, .ref ea, .ref c]) := upd_same
      generalize upd H4 y (.tup [.ref ba, .ref ea, .ref c]) = H5 at e5 gy
      have ra5 := ra4.ex e5
      have e15 := e14.trans e5
      refine ⟨lp, pvs, .ref y, rfl, rfl, ra5.h4, Nat.lt_of_le_of_lt (by omega : pvs.length ≤ 40000) (by decide), ?_⟩
      have ne1 : ∀ {b : Addr} {o : HO} {zs : List V}, H5 b = some o → H5 lp = some (.lst zs) → (∀ ws, o ≠ .lst ws) → b ≠ lp := fun h h2 n z => by
        rw [z, h2] at h
        exact n _ (Option.some.inj h).symm
      -- parts
      have t6 := TX.put (K := K) (o := .lst (pvs ++ [.ref y])) ra5.h4
      have o6 : ∀ b o, b ≠ lp → H5 b = some o → (upd H5 lp (.lst (pvs ++ [.ref y]))) b = some o := fun b o n h => by rw [upd_ne n]; exact h
      have g6 : (upd H5 lp (.lst (pvs ++ [.ref y]))) lp = some (.lst (pvs ++ [.ref y])) := upd_same
      generalize upd H5 lp (.lst (pvs ++ [.ref y])) = H6 at t6 o6 g6
      have hrd5 := ra5.obj
      have nrd : rd ≠ lp := fun z => by rw [z, ra5.h4] at hrd5; cases hrd5
      have nrq : rd ≠ lq := fun z => by rw [z, ra5.h5] at hrd5; cases hrd5
      have nrc : rd ≠ lc := fun z => by rw [z, ra5.h6] at hrd5; cases hrd5
      have hrd6 := o6 _ _ nrd hrd5
      have hq6 := o6 _ _ ra.pq.symm ra5.h5
      have hc6 := o6 _ _ ra.pc.symm ra5.h6
      have hwa6 := t6.2 _ _ (e5 _ _ hwa)
      refine ⟨.ref rd, rfl, rd, R.C, dx, fs, .ref lq, rfl, hrd6, R.cl, R.n4, ra.a4, .inl ⟨rfl, _, SqL.of hq6⟩, .ref wa, rfl, wa, _, 0, .int gp, rfl, rfl, SqT.of hwa6, atI_nat (j := 0) rfl, ?_⟩
      refine ⟨lq, _, .int gp, rfl, rfl, hq6, Nat.lt_of_le_of_lt (by rw [List.length_map]; omega : (T.map fun t => V.int t.p).length ≤ 40000) (by decide), ?_⟩
      have t7 := TX.put (K := K) (o := .lst ((T.map fun t => V.int t.p) ++ [.int gp])) hq6
      have o7 : ∀ b o, b ≠ lq → H6 b = some o → (upd H6 lq (.lst ((T.map fun t => V.int t.p) ++ [.int gp]))) b = some o := fun b o n h => by rw [upd_ne n]; exact h
      have g7 : (upd H6 lq (.lst ((T.map fun t => V.int t.p) ++ [.int gp]))) lq = some (.lst ((T.map fun t => V.int t.p) ++ [.int gp])) := upd_same
      generalize upd H6 lq (.lst ((T.map fun t => V.int t.p) ++ [.int gp])) = H7 at t7 o7 g7
      have hrd7 := o7 _ _ nrq hrd6
      have hc7 := o7 _ _ ra.qc.symm hc6
      have hp7 := o7 _ _ ra.pq g6
      have hwa7 := t7.2 _ _ hwa6
      refine ⟨.ref rd, rfl, rd, R.C, dx, fs, .ref lc, rfl, hrd7, R.cl, R.n5, ra.a5, .inl ⟨rfl, _, SqL.of hc7⟩, .ref wa, rfl, wa, _, 1, .int gc, rfl, rfl, SqT.of hwa7, atI_nat (j := 1) rfl, ?_⟩
      refine ⟨lc, _, .int gc, rfl, rfl, hc7, Nat.lt_of_le_of_lt (by rw [List.length_map]; omega : (T.map fun t => V.int t.c).length ≤ 40000) (by decide), ?_⟩
      have t8 := TX.put (K := K) (o := .lst ((T.map fun t => V.int t.c) ++ [.int gc])) hc7
      have o8 : ∀ b o, b ≠ lc → H7 b = some o → (upd H7 lc (.lst ((T.map fun t => V.int t.c) ++ [.int gc]))) b = some o := fun b o n h => by rw [upd_ne n]; exact h
      have g8 : (upd H7 lc (.lst ((T.map fun t => V.int t.c) ++ [.int gc]))) lc = some (.lst ((T.map fun t => V.int t.c) ++ [.int gc])) := upd_same
      generalize upd H7 lc (.lst ((T.map fun t => V.int t.c) ++ [.int gc])) = H8 at t8 o8 g8
      have tx := (t6.trans t7).trans t8
      have o58 : ∀ b o, b ≠ lp → b ≠ lq → b ≠ lc → H5 b = some o → H8 b = some o := fun b o n1 n2 n3 h => o8 _ _ n3 (o7 _ _ n2 (o6 _ _ n1 h))
      have nB : ∀ {b : Addr} {o : HO}, Bs b = some o → b ≠ lp ∧ b ≠ lq ∧ b ≠ lc := fun h => ⟨fun z => (by rw [z, ra.np] at h; cases h), fun z => (by rw [z, ra.nq] at h; cases h), fun z => (by rw [z, ra.nc] at h; cases h)⟩
      refine qs gp gc (pe.trans cw) H8 (pvs ++ [.ref y]) (fun b o n1 n2 n3 h => o58 b o n1 n2 n3 (e15 _ _ h)) ⟨fun b o h => ?_, o58 _ _ nrd nrq nrc hrd5, ra.a1, ra.a2, ra.a3, ra.a4, ra.a5, ra.m1, ra.m2, ra.m3, ra.m6, ra.ok, ra.k1, ra.k2, ra.dl, ra.k3, ra.np, ra.nq, ra.nc, ra.pq, ra.pc, ra.qc, o8 _ _ ra.pc hp7, ?_, ?_, ?_⟩
      · obtain ⟨n1, n2, n3⟩ := nB h
        exact o58 b o n1 n2 n3 (ra5.eb _ _ h)
      · refine paired_app1 (Paired.imp (fun _ _ ⟨a, bv, ev, x, r, h1, h2, h3⟩ => ⟨a, bv, ev, x, r, tx.2 _ _ h1, h2.mono tx, h3.mono tx⟩) ra5.pv) ?_
        exact ⟨y, .ref ba, .ref ea, .ref c, rfl, tx.2 _ _ gy, ⟨ba, rfl, tx.2 _ _ (e15 _ _ hb)⟩, ⟨ea, rfl, tx.2 _ _ (e15 _ _ he)⟩⟩
      · rw [List.map_append]
        exact o8 _ _ ra.qc g7
      · rw [List.map_append]
        exact g8
end
end Wb

set_option Elab.async false
set_option linter.all false
set_option maxRecDepth 100000
set_option maxHeartbeats 8000000
set_option pp.maxSteps 900
set_option pp.deepTerms false
namespace Wb
open PySem PySem.Spec PyProof.Rows L2
theorem scRdInit : FnScope ["self", "lock"] ["self", "lock"] (defScope sRdInit) := ⟨rfl, rfl, rfl, by decide +kernel, rfl, by decide +kernel, by decide +kernel⟩
/-- a heap without the object at x -/
def offR (x : Addr) (H : Hp) : Hp := fun b => if b = x then none else H b
theorem offR_ne {x b : Addr} {H : Hp} {o : HO} (h : H b = some o) (n : b ≠ x) : offR x H b = some o := by unfold offR; rw [if_neg n]; exact h
theorem offR_of {x b : Addr} {H : Hp} {o : HO} (h : offR x H b = some o) : b ≠ x ∧ H b = some o := by
  unfold offR at h
  by_cases e : b = x
  · rw [if_pos e] at h; cases h
  · rw [if_neg e] at h; exact ⟨e, h⟩
theorem offR_none {x b : Addr} {H : Hp} (h : H b = none) : offR x H b = none := by
  unfold offR
  by_cases e : b = x
  · rw [if_pos e]
  · rw [if_neg e]; exact h
theorem TX.ins {K : PySem.W.Frag} {H : Hp} {x C dx : Addr} {fs : List (Str × V)} {o : HO} (h : H x = some (.ins C dx fs)) : TX K H (upd H x o) := by
  refine Exx.tx (p := x) Exx.put fun xs z => ?_
  rcases z with z | ⟨_, z⟩
  · rw [h] at z; cases z
  · rw [h] at z; cases z
theorem MvAt.off {H : Hp} {x C dx : Addr} {fs : List (Str × V)} (hx : H x = some (.ins C dx fs)) {r0 d : Addr} {gs : List Gap} {ws : List Word} (h : MvAt H r0 d gs ws) : MvAt (offR x H) r0 d gs ws := by
  have ne : ∀ {b : Addr} {o : HO}, H b = some o → (∀ C dx fs, o ≠ .ins C dx fs) → offR x H b = some o := fun h n => offR_ne h fun z => by
    rw [z, hx] at h
    exact n _ _ _ (Option.some.inj h).symm
  obtain ⟨ps, h1, h2, h3⟩ := h
  refine ⟨ps, h1, ne h2 (fun _ _ _ z => nomatch z), fun q hq => ?_⟩
  obtain ⟨a, us, b, c⟩ := h3 q hq
  exact ⟨a, us, ne b (fun _ _ _ z => nomatch z), Paired.imp (fun _ _ ⟨t, r, z⟩ => ⟨t, r, ne z (fun _ _ _ z => nomatch z)⟩) c⟩
theorem list_field {G : Hp} {x p C dx : Addr} {fs : List (Str × V)} {u : HO} (hx : G x = some (.ins C dx fs)) (np : G p = none) :
    p ≠ x ∧ (upd G p (.lst [])) x = some (.ins C dx fs) ∧ (∀ b o, b ≠ x → G b = some o → (upd (upd G p (.lst [])) x u) b = some o) ∧ (upd (upd G p (.lst [])) x u) p = some (.lst []) ∧ (upd (upd G p (.lst [])) x u) x = some u := by
  have n : p ≠ x := fun z => by rw [z, hx] at np; cases np
  refine ⟨n, by rw [upd_ne n.symm]; exact hx, fun b o nb h => ?_, by rw [upd_ne n]; exact upd_same, upd_same⟩
  rw [upd_ne nb, upd_ne (fun z => by rw [z, np] at h; cases h)]
  exact h
def spRdInit (K : PySem.W.Frag) (C : Addr) : Sp := fun vs H Q _ => ∃ (x dx : Addr) (v : V) (l : Lock), vs = [.ref x, v] ∧ H x = some (.ins C dx []) ∧ LockAt K H v l ∧ LockOk l ∧
  ∀ H' Bs lm mv lp lq lc ds fs, (∀ b o, b ≠ x → H b = some o → H' b = some o) → (H lp = none ∧ H lq = none ∧ H lc = none) → ReAt K C Bs H' x dx fs lm mv lp lq lc l [] ds [] → Q .non H'
section
variable {P : Program} {w : World} {K : PySem.W.Frag} {mg : Str → Option Value} {base : Heap}
theorem ok_rdInit (D : Pr K mg) (R : ReC K mg) : FnOk P w K mg base CX0 3 R.f0 R.d0 ["self", "lock"] (spRdInit K R.C) := by
  have B := D.B
  have GN : FnOk P w K mg base CX0 1 D.f23 D.d23 ["lock"] (spManys K) := ok_manys D
  have GM : FnOk P w K mg base CX0 2 D.f11 D.d11 ["lock"] (spMoves K) := ok_moves D.F11 D.F10 D.b10 D.g10 B
  refine R.F0.ok scRdInit (fun vs H Q E h => ?_) (fun cdv A' outer s H vs Q E hr h => ?_)
  · obtain ⟨x, dx, v, l, rfl, _⟩ := h; rfl
  · obtain ⟨x, dx, v, l, rfl, hx, hl, ok, q⟩ := h
    have hr1 : Room 1 _ := hr.mono (by decide)
    refine ⟨_, (Evl.pss_cut (ps_fld (pv 0) (pe_call GN hr1 (by rfl) D.g23 D.F23.kp D.b23 .nil pass0 (pa_cons (pv 1) pa_nil)) rfl)
      (Evl.pss_cut (ps_fld (pv 0) (pe_call GM hr (by rfl) D.g11 D.F11.kp D.b11 .nil pass0 (pa_cons (pv 1) pa_nil)) rfl)
      (pss_cons (ps_fld (pv 0) (pe_lst pa_nil) rfl)
      (pss_cons (ps_fld (pv 0) (pe_lst pa_nil) rfl)
      (pss_cons (ps_fld (pv 0) (pe_lst pa_nil) rfl)
      (pss_one (ps_fld (pv 0) (pe_lst pa_nil) rfl))))))), ?_⟩
    have keepIns : ∀ {G : Hp} {b : Addr} {o u : HO}, b ≠ x → G b = some o → (upd G x u) b = some o := fun n h => by rw [upd_ne n]; exact h
    refine ⟨fun σ H1 => ∃ lm, σ = [some (.ref x), some v] ∧ (∀ b o, b ≠ x → H b = some o → H1 b = some o) ∧ lm ≠ x ∧ H1 lm = some (.lst ((manysOf l).map V.int)) ∧ H1 x = some (.ins R.C dx [("manys", V.ref lm)]) ∧ LockAt K H1 v l, ?_, ?_⟩
    · refine ⟨v, rfl, v, l, rfl, hl, ok.n1, fun H1 lm e1 nlm hlm => ?_⟩
      have hx1 := e1 _ _ hx
      have nx : lm ≠ x := fun z => by rw [z, hx] at nlm; cases nlm
      refine ⟨.ref x, rfl, x, R.C, dx, [], rfl, hx1, R.cl, R.n1, by decide, ?_⟩
      exact ⟨lm, rfl, fun b o n h => keepIns n (e1 _ _ h), nx, keepIns nx hlm, upd_same, (hl.mono (TX.ex e1)).mono (TX.ins hx1)⟩
    rintro _ H1 ⟨lm, rfl, k1, nlx, hlm1, hx1, hl1⟩
    refine ⟨fun σ H2 => ∃ (mv : Addr) (ds : List Addr), σ = [some (.ref x), some v] ∧ (∀ b o, b ≠ x → H b = some o → H2 b = some o) ∧ mv ≠ x ∧ H2 lm = some (.lst ((manysOf l).map V.int)) ∧ H2 mv = some (.lst (ds.map V.ref)) ∧ ds.length = l.length ∧ (∀ k d b, ds[k]? = some d → l[k]? = some b → ∃ ws, WordsAt l k ws ∧ MvAt (offR x H2) mv d b.gaps ws) ∧
      H2 x = some (.ins R.C dx [("manys", V.ref lm), ("moves", V.ref mv)]), ?_, ?_⟩
    · refine ⟨v, rfl, v, l, rfl, hl1, ok, fun H2 mv ds e2 nmv hmv dl hds => ?_⟩
      have hx2 := e2 _ _ hx1
      have nx : mv ≠ x := fun z => by rw [z, hx1] at nmv; cases nmv
      refine ⟨.ref x, rfl, x, R.C, dx, _, rfl, hx2, R.cl, R.n2, by (show 1 < 1000; decide), ?_⟩
      have eo : ∀ u : HO, offR x (upd H2 x u) = offR x H2 := fun u => by
        funext b
        unfold offR
        by_cases e : b = x
        · rw [if_pos e, if_pos e]
        · rw [if_neg e, if_neg e, upd_ne e]
      refine ⟨mv, ds, rfl, fun b o n h => keepIns n (e2 _ _ (k1 b o n h)), nx, keepIns nlx (e2 _ _ hlm1), keepIns nx hmv, dl, fun k d b h1 h2 => ?_, upd_same⟩
      obtain ⟨ws, w1, w2⟩ := hds k d b h1 h2
      exact ⟨ws, w1, by rw [eo]; exact w2.off hx2⟩
    rintro _ H2 ⟨mv, ds, rfl, k2, nmx, hlm2, hmv2, dl, hds, hx2⟩
    -- four lists, one by one
    refine ⟨Nat.zero_le _, fun lp np => ?_⟩
    obtain ⟨n3, x3, k3, g3, i3⟩ := list_field (u := .ins R.C dx [("manys", V.ref lm), ("moves", V.ref mv), ("parts", V.ref lp)]) hx2 np
    refine ⟨.ref x, rfl, x, R.C, dx, _, rfl, x3, R.cl, R.n3, by (show 2 < 1000; decide), ?_⟩
    show tSeq _ _ _ _ (upd (upd H2 lp (.lst [])) x (.ins R.C dx [("manys", V.ref lm), ("moves", V.ref mv), ("parts", V.ref lp)]))
    generalize upd (upd H2 lp (.lst [])) x (.ins R.C dx [("manys", V.ref lm), ("moves", V.ref mv), ("parts", V.ref lp)]) = H3 at k3 g3 i3
    refine ⟨Nat.zero_le _, fun lq nq => ?_⟩
    obtain ⟨n4, x4, k4, g4, i4⟩ := list_field (u := .ins R.C dx [("manys", V.ref lm), ("moves", V.ref mv), ("parts", V.ref lp), ("prices", V.ref lq)]) i3 nq
    refine ⟨.ref x, rfl, x, R.C, dx, _, rfl, x4, R.cl, R.n4, by (show 3 < 1000; decide), ?_⟩
    show tSeq _ _ _ _ (upd (upd H3 lq (.lst [])) x (.ins R.C dx [("manys", V.ref lm), ("moves", V.ref mv), ("parts", V.ref lp), ("prices", V.ref lq)]))
    generalize upd (upd H3 lq (.lst [])) x (.ins R.C dx [("manys", V.ref lm), ("moves", V.ref mv), ("parts", V.ref lp), ("prices", V.ref lq)]) = H4 at k4 g4 i4
    refine ⟨Nat.zero_le _, fun lc nc => ?_⟩
    obtain ⟨n5, x5, k5, g5, i5⟩ := list_field (u := .ins R.C dx [("manys", V.ref lm), ("moves", V.ref mv), ("parts", V.ref lp), ("prices", V.ref lq), ("counts", V.ref lc)]) i4 nc
    refine ⟨.ref x, rfl, x, R.C, dx, _, rfl, x5, R.cl, R.n5, by (show 4 < 1000; decide), ?_⟩
    refine ⟨Nat.zero_le _, fun la na => ?_⟩
    obtain ⟨n6, x6, k6, g6, i6⟩ := list_field (G := upd (upd H4 lc (.lst [])) x (.ins R.C dx [("manys", V.ref lm), ("moves", V.ref mv), ("parts", V.ref lp), ("prices", V.ref lq), ("counts", V.ref lc)])) (u := .ins R.C dx [("manys", V.ref lm), ("moves", V.ref mv), ("parts", V.ref lp), ("prices", V.ref lq), ("counts", V.ref lc), ("path", V.ref la)]) i5 na
    refine ⟨.ref x, rfl, x, R.C, dx, _, rfl, x6, R.cl, R.n6, by (show 5 < 1000; decide), ?_⟩
    show Q V.non (upd (upd (upd (upd H4 lc (.lst [])) x (.ins R.C dx [("manys", V.ref lm), ("moves", V.ref mv), ("parts", V.ref lp), ("prices", V.ref lq), ("counts", V.ref lc)])) la (.lst [])) x (.ins R.C dx [("manys", V.ref lm), ("moves", V.ref mv), ("parts", V.ref lp), ("prices", V.ref lq), ("counts", V.ref lc), ("path", V.ref la)]))
    generalize hH6 : upd (upd (upd (upd H4 lc (.lst [])) x (.ins R.C dx [("manys", V.ref lm), ("moves", V.ref mv), ("parts", V.ref lp), ("prices", V.ref lq), ("counts", V.ref lc)])) la (.lst [])) x (.ins R.C dx [("manys", V.ref lm), ("moves", V.ref mv), ("parts", V.ref lp), ("prices", V.ref lq), ("counts", V.ref lc), ("path", V.ref la)]) = H6 at k6 g6 i6
    have old : ∀ {G : Hp} {b : Addr}, b ≠ x → (∀ c o, c ≠ x → H2 c = some o → G c = some o) → G b = none → H2 b = none := fun {G b} n k z => by
      cases e : H2 b with
      | none => rfl
      | some o => rw [k b o n e] at z; cases z
    have oldH : ∀ {b : Addr}, b ≠ x → H2 b = none → H b = none := fun {b} n z => by
      cases e : H b with
      | none => rfl
      | some o => rw [k2 b o n e] at z; cases z
    have k24 : ∀ b o, b ≠ x → H2 b = some o → H4 b = some o := fun b o n h => k4 b o n (k3 b o n h)
    have k26 : ∀ b o, b ≠ x → H2 b = some o → H6 b = some o := fun b o n h => k6 b o n (k5 b o n (k24 b o n h))
    have q2 := old n4 k3 nq
    have c2 := old n5 k24 nc
    refine q H6 (offR x H2) lm mv lp lq lc ds _ (fun b o n h => k26 b o n (k2 b o n h)) ⟨oldH n3 np, oldH n4 q2, oldH n5 c2⟩ ⟨fun b o h => ?_, i6, rfl, rfl, rfl, rfl, rfl, rfl, rfl, rfl, rfl, ok, offR_ne hlm2 nlx, offR_ne hmv2 nmx, dl, hds, offR_none np, offR_none q2, offR_none c2, ?_, ?_, ?_, k6 _ _ n3 (k5 _ _ n3 (k4 _ _ n3 g3)), .nil, k6 _ _ n4 (k5 _ _ n4 g4), k6 _ _ n5 g5⟩
    · obtain ⟨n, h2⟩ := offR_of h
      exact k26 b o n h2
    · exact fun z => by rw [← z, g3] at nq; cases nq
    · exact fun z => by rw [← z, k4 _ _ n3 g3] at nc; cases nc
    · exact fun z => by rw [← z, g4] at nc; cases nc
end
end Wb

set_option Elab.async false
set_option linter.all false
set_option maxRecDepth 100000
set_option maxHeartbeats 4000000
set_option pp.maxSteps 600
set_option pp.deepTerms false
namespace Wb
open PySem PySem.Spec PyProof.Rows L2
/-! ### several clauses, each with a name for what it caught -/
/-- a clause: its class, the name's slot, its suite -/
abbrev Cls3 := Value × Nat × (Addr → Value → Option Addr → TS)
/-- a suite's ends, where the name in slot i is gone -/
def unname (i : Nat) (D : Ends) : Ends := { nx := fun τ G => D.nx (τ.set i none) G, rt := D.rt, bk := fun τ G => D.bk (τ.set i none) G, ct := fun τ G => D.ct (τ.set i none) G }
def wEach (K : PySem.W.Frag) (n : Nat) (out : WX) (D : Ends) : List Cls3 → WX
  | [] => out
  | cl :: more => fun kl dd τ G => ∃ t : Bool, PySem.W.exmOne K kl cl.1 = some t ∧ (t = true → ∀ p, G p = none → τ.length = n → cl.2.2 p kl dd (unname cl.2.1 D) (τ.set cl.2.1 (some (.ref p))) G) ∧ (t = false → wEach K n out D more kl dd τ G)
inductive Each (X : Cx) : List ExceptHandler → List Cls3 → Prop
  | nil : Each X [] []
  | cons {x n : Str} {c : Value} {i : Nat} {ts : Addr → Value → Option Addr → TS} {st0 : Stmt} {sts : List Stmt} {p1 p2 : Pos} {hs : List ExceptHandler} {cls : List Cls3} (nm : Names X x c) (at_ : X.N[i]? = some n) (kd : X.env.kindOf n = some .local)
      (go : ∀ (p : Addr) (o : Obj) (kl : Value) (dd : Option Addr) (pn : List (Addr × Obj)), Zc kl dd o → (∃ us, o.data = .fields us) → PSs (X.suite p ((p, o) :: pn)) (st0 :: sts) (ts p kl dd)) (more : Each X hs cls) :
      Each X (.ExceptHandler (some (.Name x p1)) (some n) (st0 :: sts) p2 :: hs) ((c, i, ts) :: cls)
section
variable {X : Cx} {body : List Stmt} {hd0 : ExceptHandler} {hds : List ExceptHandler} {cls : List Cls3} {pos : Pos} {tb : WX → TS} {out : WX}
theorem ps_try_each (stk : X.stack = X.env :: X.outer) (fr : X.env.frame = some X.env.locals) (nodup : X.N.Nodup) (tk : Takes X out)
    (run : ∀ (W : WX) (pn : List (Addr × Obj)) (xe : Value → Shared → Prop), Takes (X.tr pn xe) W → PassesOwn (model X.prog X.w) X.A X.env xe → PSs (X.tr pn xe) body (tb W))
    (each : Each X (hd0 :: hds) cls) : PS X (.Try body (hd0 :: hds) [] [] pos) (fun D τ G => tb (wEach X.K X.N.length out D cls) D τ G) := by
  constructor
  intro pins t0 τ G D I0 ask
  have fine := I0.ok
  have frames : X.A.frames = some (X.env :: X.outer) := by rw [fine.frames, stk]
  apply wpAny_Try_except
  have inner := (run (wEach X.K X.N.length out D cls) (X.pn ++ pins) (fun e t1 => wpAny (model X.prog X.w) X.A (noteFrame e X.env)
    (fun _ t2 => wpAny (model X.prog X.w) X.A (setFlight e none) (fun _ t3 => wpAny (model X.prog X.w) X.A (handleBy e X.env (hd0 :: hds)) (SP X pins D) X.xe t3) X.xe t2) X.xe t1) ?thrown PassesOwn.looking).run [] t0 τ G D (I0.toTry _) ask
  case thrown =>
    intro u t1 xx
    obtain ⟨p, B, tI, pins1, τ1, G1, kl, dd, rfl, J1, newb, ups, sky1, noG, eos, ages, wish⟩ := xx
    have J : Inv X pins τ1 G1 tI := J1.ofTry fine
    rw [stk] at sky1
    show wpAny (model X.prog X.w) X.A (noteFrame (.ref p) X.env) _ _ _
    apply Sky.land Zc.steady frames fr sky1
    intro hh fly up2
    obtain ⟨ob, us, obAt, obZ, obD⟩ := fly.there
    have noFrame : ∀ {h : Heap} {o : Obj} {vs : Array Value}, h.FunFrames B (X.env :: X.outer) → h.get? p = some o → o.data = .fields vs → p ∉ frs (X.env :: X.outer) := by
      intro h o vs ff e1 e2 hm
      obtain ⟨_, o2, e3, no⟩ := ff.mem hm
      rw [e1] at e3
      cases e3
      exact no _ e2
    have out1 := noFrame fly.2.2.1 obAt obD
    have neL : p ≠ X.env.locals := by
      intro z
      exact out1 (List.mem_filterMap.mpr ⟨X.env, List.mem_cons_self, by rw [fr, z]⟩)
    have neF : p ∉ X.fs := by
      intro hm
      obtain ⟨e, he, q⟩ := List.mem_filterMap.mp hm
      exact out1 (List.mem_filterMap.mpr ⟨e, List.mem_cons_of_mem _ he, q⟩)
    have Jh : Inv X pins τ1 G1 { t1 with heap := hh } := J.landed newb fly.1 (ups.trans up2) eos ages
    have Sh := Jh.suite obAt obD noG neL neF
    -- the clauses, one after the other
    have walk : ∀ {hs : List ExceptHandler} {cl : List Cls3}, Each X hs cl → wEach X.K X.N.length out D cl kl dd τ1 G1 → wpAny (model X.prog X.w) X.A (handleBy (.ref p) X.env hs) (SP X pins D) X.xe { t1 with heap := hh } := by
      intro hs cl ok
      induction ok with
      | nil =>
        intro wish1
        apply wpAny_handleBy_nil
        obtain ⟨_, _, _, o2, v2, T, _, _, q1, _, q2, q3, _⟩ := id fly
        unfold PySem.passOn
        apply wpAny_bind (wpAny_field q1 q2 q3 _)
        rw [if_neg (show ¬ ((Value.ref T == Value.none) = true) from by simp)]
        have lift : wpAny (model X.prog X.w) X.A (setFlight (.ref p) X.env.frame) (fun _ t4 => wpAny (model X.prog X.w) X.A (throw (.ref p) : Sem Flow) (SP X pins D) X.xe t4) X.xe { t1 with heap := hh } := by
          rw [fr]
          apply HandSPX.setFlight_upZ fly
          intro h4 held up4
          apply wpAny_throw
          apply tk
          exact ⟨p, B, tI, pins, τ1, G1, kl, dd, rfl, J, newb, (ups.trans up2).trans up4, .inr (.inr (by rw [stk]; exact held)), noG, eos, ages, wish1⟩
        first
          | exact wpAny_bind (wpAny_pure (wpAny_bind lift))
          | exact wpAny_bind lift
      | @cons x n c i ts st0 sts p1 p2 hs2 cl2 nm at_ kd go more ih =>
        intro wish1
        obtain ⟨t, is_, yes, no⟩ := wish1
        refine wpAny_handleBy_cons (codeAny_handlers_test ?_) (fun z => nomatch z)
        have looks := PySem.W.exm_one (M := model X.prog X.w) Jh.kIn (fun A' Q' E' t' keep q => wpAny_typeOf_ref (keep _ _ obAt) (by rw [obZ.1]; exact q)) is_
        have name : ∀ {Q' E' : Value → Shared → Prop}, Q' c { t1 with heap := hh } → wpAny (model X.prog X.w) (X.A.mark (some (.ref p))) (eval (.Name x p1) X.env) Q' E' { t1 with heap := hh } := by
          intro Q' E' q
          obtain ⟨gl, nd, own | ⟨non, blt, nn⟩⟩ := nm
          · exact ld_glob (X := X.suite p ((p, ob) :: (X.pn ++ pins))) Sh gl own q nd
          · exact ld_blt (X := X.suite p ((p, ob) :: (X.pn ++ pins))) Sh gl non blt q nn nd
        apply name
        apply looks.here
        cases t with
        | false =>
          show wpAny _ X.A (handleBy (.ref p) X.env hs2) _ _ _
          exact ih (no rfl)
        | true =>
          apply codeAny_handlers_suite_as
          apply HandSPX.lands_againZ fly
          intro h4 fly4 up4
          obtain ⟨o4, v4, q1, q2, q3⟩ := fly4.there
          have J4 : Inv X pins τ1 G1 { t1 with heap := h4 } := J.landed newb fly4.1 ((ups.trans up2).trans up4) eos ages
          have S4 := J4.suite q1 q3 noG neL neF
          refine store_ok (X := X.suite p ((p, o4) :: (X.pn ++ pins))) (v := .ref p) S4 nodup at_ (.inl kd) rfl (fun t5 S5 => ?_) (.inr kd)
          have ran := (go p o4 kl dd (X.pn ++ pins) q2 ⟨_, q3⟩).run [] t5 _ G1 _ S5 (yes rfl p noG J.len)
          apply wpAny_mono ran ?_ (fun _ _ z => False.elim z)
          intro fl t6 sp6
          have leave : ∀ {τ6 : L2.St} {G6 : Hp} {Q6 : Shared → Prop}, Inv (X.suite p ((p, o4) :: (X.pn ++ pins))) [] τ6 G6 t6 → (∀ t7, Inv X pins (τ6.set i none) G6 t7 → Q6 t7) →
              wpAny (model X.prog X.w) X.A (do bindName X.env n .none; unbindBehindTheSuite X.env n p2) (fun _ t7 => Q6 t7) X.xe t6 := by
            intro τ6 G6 Q6 S6 hq
            exact gone_ok (S6.unsuite fine) nodup at_ kd hq
          cases fl with
          | next =>
            obtain ⟨τ6, G6, S6, q6⟩ := sp6
            exact leave S6 fun t7 J7 => ⟨_, _, J7, q6⟩
          | brk =>
            obtain ⟨τ6, G6, S6, q6⟩ := sp6
            exact leave S6 fun t7 J7 => ⟨_, _, J7, q6⟩
          | cont =>
            obtain ⟨τ6, G6, S6, q6⟩ := sp6
            exact leave S6 fun t7 J7 => ⟨_, _, J7, q6⟩
          | ret u6 =>
            obtain ⟨v6, τ6, G6, S6, r6, q6⟩ := sp6
            exact leave S6 fun t7 J7 => ⟨_, _, _, J7, r6, q6⟩
    exact walk each wish
  refine wpAny_mono inner (fun fl t1 sp1 => ?_) (fun _ _ z => z)
  cases fl with
  | next =>
    obtain ⟨τ1, G1, J1, q⟩ := sp1
    exact wpAny_execs_nil ⟨τ1, G1, J1.ofTry fine, q⟩
  | brk =>
    obtain ⟨τ1, G1, J1, q⟩ := sp1
    exact ⟨τ1, G1, J1.ofTry fine, q⟩
  | cont =>
    obtain ⟨τ1, G1, J1, q⟩ := sp1
    exact ⟨τ1, G1, J1.ofTry fine, q⟩
  | ret u =>
    obtain ⟨v1, τ1, G1, J1, r1, q⟩ := sp1
    exact ⟨v1, τ1, G1, J1.ofTry fine, r1, q⟩
end
/-- isinstance(e, c), e what this clause caught, of whatever class -/
def rIsO (K : PySem.W.Frag) (kl : Value) (dd : Option Addr) (p : Addr) : List V → Hp → VK → Prop := fun xs H Q => ∃ (D : Addr) (c : V) (cv : Value) (b : Bool), kl = .ref D ∧ dd = none ∧ ExcC K D ∧ xs = [.ref p, c] ∧ (∀ u, RelV c u → u = cv) ∧ PySem.W.kitOne K (.ref D) cv = some b ∧ Q (.bl b) H
theorem call_isO {X : Cx} {p : Addr} {o : Obj} {kl : Value} {dd : Option Addr} {pn : List (Addr × Obj)} (z : Zc kl dd o) (fs : ∃ us, o.data = .fields us) : CallR (X.suite p ((p, o) :: pn)) (.builtin "isinstance") (rIsO X.K kl dd p) := by
  intro pins t τ G xs us Q I r h
  obtain ⟨D, c, cv, b, rfl, rfl, C, e, k1, k2, q⟩ := h
  exact call_isE C z fs pins t τ G xs us Q I r ⟨c, cv, b, e, k1, k2, q⟩
/-! ### raise X(), X an own class of exceptions without a call of its own -/
theorem pmk_own0 {X : Cx} {C : Addr} {bmB : List Value} {B newId initId : String} {x : Str} {p pos : Pos} (F : ExcBaseFacts B newId initId bmB) (q : PySem.W.excIn X.K C bmB newId = true) (gC : X.mg x = some (.ref C))
    (kC : PySem.W.keepIn X.K (.ref C) = true) (r : Raises X (.ref C)) (hg : Gl X x) (hdb : (x == ("__debug__" : Str)) = false := by decide) : PMk X (.Call (.Name x p) [] [] pos) (fun _ G Q => Q (.ref C) none G) := by
  intro pins t τ G Q I h
  apply wpAny_Call_Name_kw
  apply ld_glob I hg gC _ hdb
  apply PySem.W.callWith_K0 I.kIn kC
  obtain ⟨bm, N, nm, qn, bs, hdct, sn, sub, ab, col, dd, k0, k1, k2, k3, k5, mN, hC, hN, hni, T⟩ := exc_obj I.kIn q
  exact wpAny_call_exc_subT F T hC hN hni (fun h1 e hm => mk_of I hm r h (I.hok.gone hm.new)) (Nat.zero_le _)
end Wb

set_option Elab.async false
set_option linter.all false
set_option maxRecDepth 100000
set_option maxHeartbeats 8000000
set_option pp.maxSteps 900
set_option pp.deepTerms false
namespace Wb
open PySem PySem.Spec PyProof.Rows L2
abbrev sNbInit : Stmt := (clsBody (topS 9)).getD 0 (.Pass ⟨0, 0, 0, 0⟩)
theorem scNbInit : FnScope ["self", "part"] ["self", "part"] (defScope sNbInit) := ⟨rfl, rfl, rfl, by decide +kernel, rfl, by decide +kernel, by decide +kernel⟩
/-- the class of what is no book, and its __init__ -/
structure NbC (K : PySem.W.Frag) (mg : Str → Option Value) where
  C : Addr
  f : Addr
  fd : FuncData
  g : mg "NoBook" = some (.ref C)
  T : OexC K C
  i : PySem.W.findIn K (.ref C) "__init__" = some (some (.ref f))
  t : PySem.W.typeIn K (.ref f) = some (.type "function")
  no : PySem.W.findIn K (.ref C) "part" = some none
  F : Fun K "__init__" "NoBook.__init__" sNbInit f fd
  b : Binds K fd ["self", "part"] []
def spNbInit (K : PySem.W.Frag) (C : Addr) : Sp := fun vs H Q _ => ∃ (a : Addr) (v : V), vs = [.ref a, v] ∧ H a = some (exo a C none) ∧ OexC K C ∧ PySem.W.findIn K (.ref C) "part" = some none ∧
  ∀ dx, H dx = none → dx ≠ a → Q .non (upd (upd H dx (exd dx [("part", v)])) a (exo a C (some dx)))
section
variable {P : Program} {w : World} {K : PySem.W.Frag} {mg : Str → Option Value} {base : Heap}
theorem ok_nbInit (N : NbC K mg) : FnOk P w K mg base CX0 1 N.f N.fd ["self", "part"] (spNbInit K N.C) := by
  refine N.F.ok scNbInit (fun vs H Q E h => ?_) (fun cdv A outer s H vs Q E hr h => ?_)
  · obtain ⟨a, v, rfl, _⟩ := h; rfl
  · obtain ⟨a, v, rfl, ha, T, no, q⟩ := h
    refine ⟨_, pss_one (ps_ost (pv 0) (pv 1)), ?_⟩
    exact ⟨v, rfl, .ref a, rfl, a, N.C, rfl, T, no, .inl ⟨ha, fun dx nd ne => q dx nd ne⟩⟩
theorem raisedN (N : NbC K mg) {H : Hp} {v : V} {E : XK} (q : ∀ H' e, H e = none → H' e = some (.xd [("part", v)]) → Evl.Ex H H' → E (.ref N.C) (some e) H') :
    [v].length ≤ 1000 ∧ ∀ a, H a = none → spNbInit K N.C (.ref a :: ([v] ++ [])) (upd H a (exo a N.C none))
      (fun z H2 => z = .non ∧ ∃ (d : Addr) (fs : List (Str × V)), H2 a = some (exo a N.C (some d)) ∧ H2 d = some (exd d fs) ∧ H d = none ∧ E (.ref N.C) (some d) (upd (del H2 a) d (.xd fs))) (fun _ _ _ => False) := by
  refine ⟨by simp, fun a na => ⟨a, v, rfl, upd_same, N.T, N.no, fun dx nd ne => ?_⟩⟩
  have ndx : H dx = none := by
    rw [upd_ne ne] at nd
    exact nd
  refine ⟨rfl, dx, [("part", v)], upd_same, by rw [upd_ne ne, upd_same], ndx, q _ dx ndx upd_same ?_⟩
  intro b o hb
  have b1 : b ≠ a := fun z => by rw [z, na] at hb; cases hb
  have b2 : b ≠ dx := fun z => by rw [z, ndx] at hb; cases hb
  rw [upd_ne b2, del_ne b1, upd_ne b1, upd_ne b2, upd_ne b1]
  exact hb
end
end Wb

set_option Elab.async false
set_option linter.all false
set_option maxRecDepth 100000
set_option maxHeartbeats 8000000
set_option pp.maxSteps 900
set_option pp.deepTerms false
namespace Wb
open PySem PySem.Spec PyProof.Rows L2
abbrev sNeedB : Stmt := topS 32
abbrev nNeedB : List Str := ["lock", "thing", "reader", "number", "part"]
theorem scNeedB : FnScope nNeedB ["lock", "thing"] (defScope sNeedB) := ⟨rfl, rfl, rfl, by decide +kernel, rfl, by decide +kernel, by decide +kernel⟩
/-- the parts told one by one: the first that is none, or all that is told -/
def bookE (l : Lock) : List Tld → List Prt → Nat → Nat ⊕ List Tld
  | T, [], _ => .inr T
  | T, x :: xs, n => match partE l T x with
    | some (p, c) => bookE l (T ++ [⟨x.b, x.e, p, c⟩]) xs (n + 1)
    | none => .inl n
def needE (l : Lock) (B : List Prt) : Nat ⊕ List Tld :=
  if 1 ≤ B.length ∧ B.length ≤ 30000 then
    match bookE l [] B 0 with
    | .inl n => .inl n
    | .inr T => if (T.getLast?.map (fun t => t.b.length)) = some l.length then .inr T else .inl B.length
  else .inl 0
def RaiseN (C : Addr) (n : Nat) (H : Hp) (E : XK) : Prop := ∀ H' e, Evl.Ex H H' → H e = none → H' e = some (.xd [("part", .int (n : Nat))]) → E (.ref C) (some e) H'
structure NdK (K : PySem.W.Frag) (mg : Str → Option Value) where
  f1 : Addr
  d1 : FuncData
  F1 : Fun K "need_book" "need_book" sNeedB f1 d1
  b1 : Binds K d1 ["lock", "thing"] []
  g1 : mg "need_book" = some (.ref f1)
  ms : ∃ t, mg "MOST_STEPS" = some (.int (10 ^ 300) t)
  me : ∃ t, mg "MOST_ENTRIES" = some (.int 60 t)
  mp : ∃ t, mg "MOST_PARTS" = some (.int 30000 t)
def BookAt (K : PySem.W.Frag) (H : Hp) (a : Addr) (B : List Prt) : Prop := ∃ us, H a = some (.tup us) ∧ Paired (PrtAt K H) us B
theorem PrtAt.ex {K : PySem.W.Frag} {H H' : Hp} (e : Evl.Ex H H') {v : V} {x : Prt} (h : PrtAt K H v x) : PrtAt K H' v x := by
  obtain ⟨a, c, bv, ev, us, r, h1, h2, h3, h4, h5⟩ := h
  exact ⟨a, c, bv, ev, us, r, e _ _ h1, h2.mono (TX.ex e), h3.mono (TX.ex e), e _ _ h4, Paired.imp (fun _ _ z => EntAt.ex e z) h5⟩
def spNeedBk (K : PySem.W.Frag) (C CN : Addr) : Sp := fun vs H Q E => ∃ (v : V) (a : Addr) (l : Lock) (B : List Prt), vs = [v, .ref a] ∧ LockAt K H v l ∧ LockOk l ∧ BookAt K H a B ∧
  (∀ n, needE l B = .inl n → RaiseN CN n H E) ∧
  ∀ T, needE l B = .inr T → ∀ H' Bs rd dx lm mv lp lq lc ds fs pvs, Evl.Ex H H' → ReAt K C Bs H' rd dx fs lm mv lp lq lc l T ds pvs → Q (.ref rd) H'
theorem book_app (l : Lock) : ∀ (xs ys : List Prt) (T : List Tld) (n : Nat), bookE l T (xs ++ ys) n = match bookE l T xs n with
    | .inl m => .inl m
    | .inr U => bookE l U ys (n + xs.length) := by
  intro xs
  induction xs with
  | nil => intro ys T n; rfl
  | cons x xs ih =>
    intro ys T n
    rw [List.cons_append, bookE, bookE]
    cases partE l T x with
    | none => rfl
    | some g =>
      obtain ⟨p, c⟩ := g
      show bookE l _ (xs ++ ys) (n + 1) = _
      rw [ih, List.length_cons, show n + 1 + xs.length = n + (xs.length + 1) by omega]
theorem paired_snoc {α β : Type} {R : α → β → Prop} {xs : List α} {ys : List β} {y : β} (h : Paired R xs (ys ++ [y])) : ∃ xs' x, xs = xs' ++ [x] ∧ Paired R xs' ys ∧ R x y := by
  induction ys generalizing xs with
  | nil =>
    cases h with
    | cons r t =>
      cases t
      exact ⟨[], _, rfl, .nil, r⟩
  | cons z ys ih =>
    cases h with
    | cons r t =>
      obtain ⟨xs', x, rfl, h1, h2⟩ := ih t
      exact ⟨_ :: xs', x, rfl, .cons r h1, h2⟩
theorem part_conds {l : Lock} {T : List Tld} {x : Prt} {p c : Int} (h : partE l T x = some (p, c)) : x.b.length ≤ l.length ∧ x.e.length = x.b.length := by
  unfold partE at h
  by_cases z : 1 ≤ x.b.length ∧ x.b.length ≤ l.length ∧ x.es.length ≤ 60 ∧ placesB (dW x.b) ((manysOf l).take x.b.length) = true ∧ placesB (dW x.e) ((manysOf l).take x.b.length) = true
  · refine ⟨z.2.1, ?_⟩
    have h5 := z.2.2.2.2
    unfold placesB at h5
    rw [Bool.and_eq_true, Bool.and_eq_true] at h5
    have h6 := of_decide_eq_true h5.2.1
    unfold itemsD dW at h6
    simp only [List.length_map, List.length_take] at h6
    unfold manysOf at h6
    rw [List.length_map] at h6
    omega
  · rw [if_neg z] at h; cases h
section
variable {P : Program} {w : World} {K : PySem.W.Frag} {mg : Str → Option Value} {base : Heap}
theorem ok_needBk (D : Pr K mg) (R : ReC K mg) (N : NbC K mg) (S : NdK K mg) : FnOk P w K mg base (L2.CX P w) 7 S.f1 S.d1 ["lock", "thing"] (spNeedBk K R.C N.C) := by
  have B := D.B
  have G3 : FnOk P w K mg base CX0 1 D.f3 D.d3 ["thing", "low", "high"] (spTupOf K) := ok_tupOf D.F3 B
  have GI : FnOk P w K mg base CX0 3 R.f0 R.d0 ["self", "lock"] (spRdInit K R.C) := ok_rdInit D R
  have GU : FnOk P w K mg base CX0 6 R.f1 R.d1 ["self", "thing"] (spPut K R.C) := ok_put D R S.ms S.me
  have GN : FnOk P w K mg base CX0 1 N.f N.fd ["self", "part"] (spNbInit K N.C) := ok_nbInit N
  obtain ⟨tp, ep⟩ := S.mp
  refine S.F1.okX scNeedB (fun vs H Q E h => ?_) (fun cdv A' outer s H vs Q E hr h => ?_)
  · obtain ⟨v, a, l, bk, rfl, _⟩ := h; rfl
  · obtain ⟨v, a, l, bk, rfl, hl, ok, ⟨us, ha, hus⟩, qn, qs⟩ := h
    have hr1 : Room 1 _ := hr.mono (by decide)
    have hr2 : Room 2 _ := hr.mono (by decide)
    have hr4 : Room 4 _ := hr.mono (by decide)
    refine ⟨_, (pss_cons (ps_if (pt_not (pt_val (pe_call G3 hr1 (by rfl) D.g3 D.F3.kp D.b3 .nil pass0 (pa_cons (pv 1) (pa_cons pe_int (pa_cons (pe_glob (v := .int 30000) (by rfl) ep ⟨_, rfl⟩) pa_nil)))))) (pss_one (ps_raise rfl (takes_of rfl rfl rfl rfl) (pmk_oex N.T N.i N.t GN hr2 N.b .nil pass0 (by rfl) N.g (pa_cons pe_int pa_nil)))) pss_nil)
      (Evl.pss_cut (ps_set (i := 2) scNeedB.nd rfl (.inl rfl) (pe_make R.M GI hr4 (by rfl) R.g R.b0 .nil pass0 (pa_cons (pv 0) pa_nil)))
      (pss_cons (ps_for (passes_of rfl) rfl (pi_enumT (by rfl) B.enum (pa_cons (pv 1) pa_nil)) (pg_tup rfl (pgs_cons (pg_name (i := 3) scNeedB.nd rfl (.inl rfl)) (pgs_cons (pg_name (i := 4) scNeedB.nd rfl (.inl rfl)) pgs_nil)))
        (pss_one (ps_if (pt_not (pt_val (pe_meth (pv 2) R.cl R.m1 GU hr R.b1 .nil pass0 (pa_cons (pv 4) pa_nil)))) (pss_one (ps_raise rfl (takes_of rfl rfl rfl rfl) (pmk_oex N.T N.i N.t GN hr2 N.b .nil pass0 (by rfl) N.g (pa_cons (pv 3) pa_nil)))) pss_nil)))
      (pss_cons (ps_if (pt_cmpR op_ne (pe_callB call_len_seq (by rfl) B.len PySem.boot_len (pa_cons (pe_ix (r := rIxT K) ix_tup (pe_ix (r := rIxL K) ix_list (pe_fld (pv 2) rfl) (pe_un un_neg pe_int) (fun _ _ => rfl)) pe_int (fun _ _ => rfl)) pa_nil)) (pe_callB call_len_seq (by rfl) B.len PySem.boot_len (pa_cons (pv 0) pa_nil)) (nomark _)) (pss_one (ps_raise rfl (takes_of rfl rfl rfl rfl) (pmk_oex N.T N.i N.t GN hr2 N.b .nil pass0 (by rfl) N.g (pa_cons (pe_callB call_len_seq (by rfl) B.len PySem.boot_len (pa_cons (pv 1) pa_nil)) pa_nil)))) pss_nil)
      (pss_one (ps_ret (pv 2))))))), ?_⟩
    have ul : us.length = bk.length := Paired.len hus
    have n60 := ok.n1
    refine ⟨.ref a, rfl, a, us, 1, 30000, rfl, SqT.of ha, _, rfl, ?_⟩
    rw [ul]
    by_cases c0 : 1 ≤ bk.length ∧ bk.length ≤ 30000
    case neg =>
      refine ite2 (fun _ => ?_) (fun hc => absurd ?_ hc)
      · exact raisedN N fun H' e ne he ex => qn 0 (by unfold needE; rw [if_neg c0]) H' e ex ne he
      · rw [Bool.not_eq_true', Bool.and_eq_false_iff]
        by_cases c2 : 1 ≤ bk.length
        · exact .inr (decide_eq_false (by omega))
        · exact .inl (decide_eq_false (by omega))
    refine ite2 (fun hc => absurd hc (by rw [decide_eq_true (show (1 : Int) ≤ (bk.length : Int) by omega), decide_eq_true (show (bk.length : Int) ≤ 30000 by omega)]; simp)) (fun _ => ?_)
    refine ⟨fun σ H1 => ∃ (rd dx lm mv lp lq lc : Addr) (Bs : Hp) (ds : List Addr) (fs : List (Str × V)), σ = [some v, some (.ref a), some (.ref rd), none, none] ∧ Evl.Ex H H1 ∧ (H lp = none ∧ H lq = none ∧ H lc = none) ∧ ReAt K R.C Bs H1 rd dx fs lm mv lp lq lc l [] ds [], ?_, ?_⟩
    · refine ⟨v, rfl, fun x dx nx ndx ne => ?_⟩
      have e3 : Evl.Ex H (upd (upd H dx (.own x)) x (.ins R.C dx [])) := fun c y h => by
        rw [upd_ne (fun z => by rw [z, nx] at h; cases h), upd_ne (fun z => by rw [z, ndx] at h; cases h)]
        exact h
      have gx : (upd (upd H dx (.own x)) x (.ins R.C dx [])) x = some (.ins R.C dx []) := upd_same
      generalize upd (upd H dx (.own x)) x (.ins R.C dx []) = H3 at e3 gx
      refine ⟨x, dx, v, l, rfl, gx, hl.mono (TX.ex e3), ok, fun H' Bs lm mv lp lq lc ds fs keep new ra => ?_⟩
      refine ⟨rfl, x, dx, lm, mv, lp, lq, lc, Bs, ds, fs, rfl, fun b o h => keep b o (fun z => by rw [z, nx] at h; cases h) (e3 _ _ h), ⟨Evl.fresh_back e3 new.1, Evl.fresh_back e3 new.2.1, Evl.fresh_back e3 new.2.2⟩, ra⟩
    rintro _ H1 ⟨rd, dx, lm, mv, lp, lq, lc, Bs, ds, fs, rfl, e1, ⟨np, nq, nc⟩, ra1⟩
    refine ⟨.ref a, rfl, a, us, rfl, SqT.of (e1 _ _ ha), ?_⟩
    refine for_it (walk_et (K := K) (a := a) (xs := us)) (fun i σ H' => ∃ (T : List Tld) (pvs : List V) (y3 y4 : Option V), σ = [some v, some (.ref a), some (.ref rd), y3, y4] ∧ Evl.Ex H H' ∧ ReAt K R.C Bs H' rd dx fs lm mv lp lq lc l T ds pvs ∧ EvenT T ∧ T.length = i ∧ bookE l [] (bk.take i) 0 = .inr T)
      ⟨[], [], none, none, rfl, e1, ra1, (fun t ht => nomatch ht), rfl, rfl⟩ ?_ ?_ ?_
    · rintro i σ H' _ ⟨_, _, _, _, _, e, _⟩
      exact SqT.of (e _ _ ha)
    · rintro i x σ H2' H2 hi ⟨T, pvs, y3, y4, rfl, e2, ra2, ev, Tl, bo⟩ ⟨Tt, x1, x2, rfl, nT, rfl, ex1, ey1⟩
      cases ex1
      obtain ⟨pt, hpt, hpa⟩ := Paired.get1 hus ey1
      have e3 := Evl.Ex.new (o := .tup [.int (i : Nat), x2]) nT
      have gT : (upd H2' Tt (.tup [.int (i : Nat), x2])) Tt = some (.tup [.int (i : Nat), x2]) := upd_same
      generalize upd H2' Tt (.tup [.int (i : Nat), x2]) = H3 at e3 gT
      have e03 := e2.trans e3
      have ra3 := ra2.ex e3
      have il : i < bk.length := by rw [← ul]; exact hi
      have bs' : bookE l [] (bk.take (i + 1)) 0 = match partE l T pt with
          | some (p, c) => .inr (T ++ [⟨pt.b, pt.e, p, c⟩])
          | none => .inl i := by
        rw [take_succ_get hpt, book_app, bo]
        show bookE l T [pt] (0 + (bk.take i).length) = _
        rw [List.length_take, Nat.min_eq_left (by omega), Nat.zero_add, bookE]
        cases partE l T pt with
        | none => rfl
        | some g => obtain ⟨p, c⟩ := g; rfl
      refine ⟨Tt, _, rfl, SqT.of gT, rfl, _, _, rfl, _, _, rfl, rfl, ?_⟩
      refine ⟨.ref rd, rfl, rd, dx, fs, rfl, ra3.obj, ra3.m1, x2, rfl, Bs, rd, dx, lm, mv, lp, lq, lc, x2, fs, l, T, ds, pvs, pt, rfl, ra3, ev, by omega, hpa.ex e03, fun hp H4 e4 => ?_, fun p c hp H4 pvs' k4 ra4 => ?_⟩
      · refine ⟨_, rfl, ?_⟩
        refine iteT ?_
        refine ⟨.int (i : Nat), rfl, raisedN N fun H' e ne he ex => qn i ?_ H' e ((e03.trans e4).trans ex) (Evl.fresh_back (e03.trans e4) ne) he⟩
        rw [hp] at bs'
        have : bookE l [] bk 0 = .inl i := by
          rw [← List.take_append_drop (i + 1) bk, book_app, bs']
        unfold needE
        rw [if_pos c0, this]
      · refine ⟨_, rfl, ?_⟩
        refine iteF ?_
        rw [hp] at bs'
        obtain ⟨b1, b2⟩ := part_conds hp
        refine ⟨_, pvs', _, _, rfl, fun b o h => ?_, ra4, fun t ht => ?_, by rw [List.length_append, List.length_singleton, Tl], bs'⟩
        · exact k4 b o (fun z => by rw [z, np] at h; cases h) (fun z => by rw [z, nq] at h; cases h) (fun z => by rw [z, nc] at h; cases h) (e03 _ _ h)
        · rcases List.mem_append.mp ht with m | m
          · exact ev t m
          · rw [List.mem_singleton.mp m]
            exact ⟨by show pt.b.length ≤ 60; omega, b2⟩
    · rintro σ H2 ⟨T, pvs, y3, y4, rfl, e2, ra2, ev, Tl, bo⟩
      rw [ul, List.take_length] at bo
      rw [ul] at Tl
      have pvl : pvs.length = T.length := Paired.len ra2.pv
      obtain ⟨T0, t, rfl⟩ : ∃ T0 t, T = T0 ++ [t] := by
        rcases List.eq_nil_or_concat T with z | ⟨L, b, z⟩
        · rw [z] at Tl; simp at Tl; omega
        · exact ⟨L, b, by rw [z]; simp⟩
      obtain ⟨pvs0, y0, rfl, hp0, ⟨a', bv, ev', xx, rfl, ha', ⟨ba, rfl, hb⟩, _⟩⟩ := paired_snoc ra2.pv
      obtain ⟨va, vbs, rfl, hva, hvb⟩ := hl
      have vl : vbs.length = l.length := Paired.len hvb
      refine ⟨.ref rd, rfl, rd, R.C, dx, fs, .ref lp, rfl, ra2.obj, R.cl, R.n3, ra2.a3, 1, rfl, lp, _, -1, _, rfl, rfl, SqL.of ra2.h4, atI_last _ _, ?_⟩
      refine ⟨a', _, 0, .ref ba, rfl, rfl, SqT.of ha', atI_nat (j := 0) rfl, ba, _, rfl, .inr (SqT.of hb), ?_⟩
      refine ⟨.ref va, rfl, va, vbs, rfl, .inr (Evl.ex_t e2 hva), rfl, _, rfl, ?_⟩
      have ne_ : needE l bk = if ((T0 ++ [t]).getLast?.map (fun t => t.b.length)) = some l.length then .inr (T0 ++ [t]) else .inl bk.length := by
        unfold needE
        rw [if_pos c0, bo]
      rw [List.getLast?_concat, Option.map_some] at ne_
      by_cases c1 : t.b.length = l.length
      · refine ite2 (fun hc => absurd hc (by rw [List.length_map, vl, c1]; simp)) (fun _ => ?_)
        rw [if_pos (by show some t.b.length = _; rw [c1])] at ne_
        exact ⟨.ref rd, rfl, qs _ ne_ H2 Bs rd dx lm mv lp lq lc ds fs _ e2 ra2⟩
      · refine ite2 (fun _ => ?_) (fun hc => absurd ?_ hc)
        · rw [if_neg (fun z => c1 (Option.some.inj z))] at ne_
          refine ⟨.ref a, rfl, a, us, rfl, .inr (SqT.of (e2 _ _ ha)), ?_⟩
          rw [ul]
          exact raisedN N fun H' e ne he ex => qn _ ne_ H' e (e2.trans ex) (Evl.fresh_back e2 ne) he
        · have nz : ¬ (V.int ((t.b.length : Nat) : Int) = V.int ((l.length : Nat) : Int)) := fun z => c1 (by have := V.int.inj z; omega)
          rw [List.length_map, vl, decide_eq_false nz]; rfl
end
end Wb

set_option Elab.async false
set_option linter.all false
set_option maxRecDepth 100000
set_option maxHeartbeats 8000000
set_option pp.maxSteps 900
set_option pp.deepTerms false
namespace Wb
open PySem PySem.Spec PyProof.Rows L2
abbrev nRdWay : List Str := ["self", "begin", "end", "_"]
theorem scRdWay : FnScope nRdWay ["self"] (defScope sRdWay) := ⟨rfl, rfl, rfl, by decide +kernel, rfl, by decide +kernel, by decide +kernel⟩
abbrev sWgd : Stmt := topS 34
theorem scWgd : FnScope ["lock", "book"] ["lock", "book"] (defScope sWgd) := ⟨rfl, rfl, rfl, by decide +kernel, rfl, by decide +kernel, by decide +kernel⟩
structure WgK (K : PySem.W.Frag) (mg : Str → Option Value) where
  f1 : Addr
  d1 : FuncData
  F1 : Fun K "weighed" "weighed" sWgd f1 d1
  b1 : Binds K d1 ["lock", "book"] []
  g1 : mg "weighed" = some (.ref f1)
/-- a told part, as a way -/
def WayAt (K : PySem.W.Frag) (H : Hp) (v : V) (t : Tld) : Prop := ∃ (a : Addr) (bv ev : V), v = .ref a ∧ H a = some (.tup [bv, ev, .int t.p, .int t.c]) ∧ Wd K H bv t.b ∧ Wd K H ev t.e
def spWay (K : PySem.W.Frag) (C : Addr) : Sp := fun vs H Q _ => ∃ (Bs : Hp) (rd dx lm mv lp lq lc : Addr) (fs : List (Str × V)) (l : Lock) (T : List Tld) (t : Tld) (ds : List Addr) (pvs : List V), vs = [.ref rd] ∧ ReAt K C Bs H rd dx fs lm mv lp lq lc l (T ++ [t]) ds pvs ∧ ∀ H' r, Evl.Ex H H' → WayAt K H' r t → Q r H'
/-- what a book is told to weigh -/
def weighE (l : Lock) (B : List Prt) : Nat ⊕ Tld :=
  match needE l B with
  | .inl n => .inl n
  | .inr T => match T.getLast? with
    | some t => .inr t
    | none => .inl 0
def spWgd (K : PySem.W.Frag) (CN : Addr) : Sp := fun vs H Q E => ∃ (v : V) (a : Addr) (l : Lock) (B : List Prt), vs = [v, .ref a] ∧ LockAt K H v l ∧ LockOk l ∧ BookAt K H a B ∧
  (∀ n, weighE l B = .inl n → RaiseN CN n H E) ∧ ∀ t, weighE l B = .inr t → ∀ H' r, Evl.Ex H H' → WayAt K H' r t → Q r H'
theorem BookAt.ex {K : PySem.W.Frag} {H H' : Hp} (e : Evl.Ex H H') {a : Addr} {B : List Prt} (h : BookAt K H a B) : BookAt K H' a B := by
  obtain ⟨us, h1, h2⟩ := h
  exact ⟨us, e _ _ h1, Paired.imp (fun _ _ z => z.ex e) h2⟩
theorem need_ne {l : Lock} {B : List Prt} {T : List Tld} (h : needE l B = .inr T) : ∃ T0 t, T = T0 ++ [t] := by
  rcases List.eq_nil_or_concat T with z | ⟨L, b, z⟩
  · exfalso
    unfold needE at h
    by_cases c : 1 ≤ B.length ∧ B.length ≤ 30000
    · rw [if_pos c] at h
      cases e : bookE l [] B 0 with
      | inl n => rw [e] at h; cases h
      | inr U =>
        rw [e] at h
        have h' : (if (U.getLast?.map (fun t => t.b.length)) = some l.length then (.inr U : Nat ⊕ List Tld) else .inl B.length) = .inr T := h
        by_cases c2 : (U.getLast?.map (fun t => t.b.length)) = some l.length
        · rw [if_pos c2] at h'
          have : U = T := Sum.inr.inj h'
          rw [this, z] at c2
          cases c2
        · rw [if_neg c2] at h'; cases h'
    · rw [if_neg c] at h; cases h
  · exact ⟨L, b, by rw [z]; simp⟩
section
variable {P : Program} {w : World} {K : PySem.W.Frag} {mg : Str → Option Value} {base : Heap}
theorem ok_way (R : ReC K mg) : FnOk P w K mg base CX0 1 R.f6 R.d6 ["self"] (spWay K R.C) := by
  refine R.F6.ok scRdWay (fun vs H Q E h => ?_) (fun cdv A' outer s H vs Q E hr h => ?_)
  · obtain ⟨Bs, rd, dx, lm, mv, lp, lq, lc, fs, l, T, t, ds, pvs, rfl, _⟩ := h; rfl
  · obtain ⟨Bs, rd, dx, lm, mv, lp, lq, lc, fs, l, T, t, ds, pvs, rfl, ra, q⟩ := h
    refine ⟨_, (pss_cons (ps_asg (pe_ix (r := rIxL K) ix_list (pe_fld (pv 0) rfl) (pe_un un_neg pe_int) (fun _ _ => rfl)) (pg_tup rfl (pgs_cons (pg_name (i := 1) scRdWay.nd rfl (.inl rfl)) (pgs_cons (pg_name (i := 2) scRdWay.nd rfl (.inl rfl)) (pgs_cons (pg_name (i := 3) scRdWay.nd rfl (.inl rfl)) pgs_nil)))))
      (pss_one (ps_ret (pe_tup (pa_cons (pv 1) (pa_cons (pv 2) (pa_cons (pe_ix (r := rIxL K) ix_list (pe_fld (pv 0) rfl) (pe_un un_neg pe_int) (fun _ _ => rfl)) (pa_cons (pe_ix (r := rIxL K) ix_list (pe_fld (pv 0) rfl) (pe_un un_neg pe_int) (fun _ _ => rfl)) pa_nil)))))))), ?_⟩
    obtain ⟨pvs0, y0, rfl, hp0, ⟨a', bv, ev', xx, rfl, ha', hb, he⟩⟩ := paired_snoc ra.pv
    have hq := ra.h5
    have hc := ra.h6
    rw [List.map_append] at hq hc
    refine ⟨.ref rd, rfl, rd, R.C, dx, fs, .ref lp, rfl, ra.obj, R.cl, R.n3, ra.a3, 1, rfl, lp, _, -1, _, rfl, rfl, SqL.of ra.h4, atI_last _ _, ?_⟩
    refine ⟨a', _, rfl, SqT.of ha', rfl, _, _, rfl, _, _, rfl, _, _, rfl, rfl, ?_⟩
    refine ⟨_, rfl, _, rfl, .ref rd, rfl, rd, R.C, dx, fs, .ref lq, rfl, ra.obj, R.cl, R.n4, ra.a4, 1, rfl, lq, _, -1, _, rfl, rfl, SqL.of hq, atI_last _ _, ?_⟩
    refine ⟨.ref rd, rfl, rd, R.C, dx, fs, .ref lc, rfl, ra.obj, R.cl, R.n5, ra.a5, 1, rfl, lc, _, -1, _, rfl, rfl, SqL.of hc, atI_last _ _, ?_⟩
    refine ⟨(by show 4 ≤ sizeLine; decide), fun y ny => ?_⟩
    have e1 := Evl.Ex.new (o := .tup [bv, ev', .int t.p, .int t.c]) ny
    exact q _ (.ref y) e1 ⟨y, bv, ev', rfl, upd_same, hb.mono (TX.ex e1), he.mono (TX.ex e1)⟩
theorem ok_weighed (D : Pr K mg) (R : ReC K mg) (N : NbC K mg) (S : NdK K mg) (W : WgK K mg) : FnOk P w K mg base (L2.CX P w) 8 W.f1 W.d1 ["lock", "book"] (spWgd K N.C) := by
  have GL : FnOk P w K mg base CX0 7 D.f24 D.d24 ["lock"] (spFault K) := ok_needL D
  have GB : FnOk P w K mg base (L2.CX P w) 7 S.f1 S.d1 ["lock", "thing"] (spNeedBk K R.C N.C) := ok_needBk D R N S
  have GY : FnOk P w K mg base CX0 1 R.f6 R.d6 ["self"] (spWay K R.C) := ok_way R
  refine W.F1.okX scWgd (fun vs H Q E h => ?_) (fun cdv A' outer s H vs Q E hr h => ?_)
  · obtain ⟨v, a, l, bk, rfl, _⟩ := h; rfl
  · obtain ⟨v, a, l, bk, rfl, hl, ok, hbk, qn, qs⟩ := h
    have hr1 : Room 1 _ := hr.mono (by decide)
    refine ⟨_, (pss_cons (ps_expr (pe_call GL hr (by rfl) D.g24 D.F24.kp D.b24 .nil pass0 (pa_cons (pv 0) pa_nil)))
      (pss_one (ps_ret (pe_meth0 (pe_call GB hr (by rfl) S.g1 S.F1.kp S.b1 .nil (passes_call (W := fun cls dd _ G => E cls dd G) (takes_of rfl rfl rfl rfl) (fun _ _ _ _ z => z)) (pa_cons (pv 0) (pa_cons (pv 1) pa_nil))) R.cl R.m6 GY hr1 R.b6 .nil pass0)))), ?_⟩
    refine ⟨v, rfl, v, l, rfl, hl, ok, fun H1 e1 => ?_⟩
    refine ⟨v, rfl, .ref a, rfl, v, a, l, bk, rfl, hl.mono (TX.ex e1), ok, hbk.ex e1, fun n hn => ?_, fun T hT => ?_⟩
    · intro H' e ex ne he
      exact qn n (by unfold weighE; rw [hn]) H' e (e1.trans ex) (Evl.fresh_back e1 ne) he
    · obtain ⟨T0, t, rfl⟩ := need_ne hT
      have we : weighE l bk = .inr t := by unfold weighE; rw [hT]; simp
      intro H' Bs rd dx lm mv lp lq lc ds fs pvs e2 ra
      exact ⟨rd, dx, fs, rfl, ra.obj, ra.m6, Bs, rd, dx, lm, mv, lp, lq, lc, fs, l, T0, t, ds, pvs, rfl, ra, fun H3 r e3 hw => qs t we H3 r ((e1.trans e2).trans e3) hw⟩
end
end Wb

set_option Elab.async false
set_option linter.all false
set_option maxRecDepth 100000
set_option maxHeartbeats 8000000
set_option pp.maxSteps 900
set_option pp.deepTerms false
namespace Wb
open PySem PySem.Spec PyProof.Rows L2
abbrev sFrom : Stmt := topS 49
theorem scFrom : FnScope ["_law_thing", "_law_low", "_law_high"] ["_law_thing", "_law_low", "_law_high"] (defScope sFrom) := ⟨rfl, rfl, rfl, by decide +kernel, rfl, by decide +kernel, by decide +kernel⟩
abbrev sIsW : Stmt := topS 50
abbrev nIsW : List Str := ["_law_lock_here", "_law_thing", "_law_many", "_law_k"]
theorem scIsW : FnScope nIsW ["_law_lock_here", "_law_thing", "_law_many"] (defScope sIsW) := ⟨rfl, rfl, rfl, by decide +kernel, rfl, by decide +kernel, by decide +kernel⟩
def spFrom (K : PySem.W.Frag) : Sp := fun vs H Q _ => ∃ (v : V) (d : PyData) (a b : Int), vs = [v, .int a, .int b] ∧ Th K H v d ∧ Q (.bl (wholeB d a b)) H
def badW (ms w : List Int) (k : Nat) : Bool := match w[k]?, ms[k]? with
  | some x, some m => !(decide (0 ≤ x) && decide (x ≤ m - 1))
  | _, _ => true
def isWordB (l : Lock) (w : Word) (m : Nat) : Bool := decide (w.length = m) && ((List.range m).filter (badW (manysOf l) w)).isEmpty
def spIsW (K : PySem.W.Frag) : Sp := fun vs H Q _ => ∃ (v : V) (a : Addr) (l : Lock) (w : Word) (m : Nat), vs = [v, .ref a, .int (m : Nat)] ∧ LockAt K H v l ∧ l.length ≤ 60 ∧ H a = some (.tup (w.map V.int)) ∧ m ≤ l.length ∧ ∀ H', Evl.Ex H H' → Q (.bl (isWordB l w m)) H'
theorem eqv_lN (ds : List PyData) : PyData.eqv (.list ds) (.list []) = ds.isEmpty := by
  cases ds with
  | nil => simp [PyData.eqv, PyData.eqvAll]
  | cons w ws => simp [PyData.eqv, PyData.eqvAll]
theorem dp_nats {K : PySem.W.Frag} {H : Hp} : ∀ ks : List Nat, DpAll K H (ks.map fun k => V.int (k : Nat)) (ks.map fun k => PyData.int (k : Nat))
  | [] => .nil
  | x :: bk => .cons (.int _) (dp_nats bk)
theorem fine_nats {ks : List Nat} (h : ∀ k ∈ ks, k ≤ 60) : SeqAt.shaped (.list (ks.map fun k => PyData.int (k : Nat))) = true := by
  have f : FineAll (ks.map fun k => PyData.int (k : Nat)) 0 ((ks.map fun k => PyData.int (k : Nat)).length * (8 + 2)) := FineAll.rep fun d hd => by
    obtain ⟨u, hu, rfl⟩ := List.mem_map.mp hd
    have := h u hu
    exact fine_small (by omega) (by omega)
  exact (fine_lst f).shaped (by decide)
section
variable {P : Program} {w : World} {K : PySem.W.Frag} {mg : Str → Option Value} {base : Heap}
theorem ok_from {f : Addr} {fd : FuncData} (F : Fun K "_law_is_from" "_law_is_from" sFrom f fd) (B : Bi mg) : FnOk P w K mg base CX0 1 f fd ["_law_thing", "_law_low", "_law_high"] (spFrom K) := by
  refine F.ok scFrom (fun vs H Q E h => ?_) (fun cdv A outer s H vs Q E hr h => ?_)
  · obtain ⟨v, d, a, b, rfl, _⟩ := h; rfl
  · obtain ⟨v, d, a, b, rfl, hv, q⟩ := h
    refine ⟨_, (pss_one (ps_ret (pe_and (pe_callB call_isi (by rfl) B.isi boot_isinstance (pa_cons (pv 0) (pa_cons (pe_bltn (v := .ty "int") (by rfl) B.int (by decide +kernel) rfl) pa_nil))) (pe_and (pe_not (pe_callB call_isi (by rfl) B.isi boot_isinstance (pa_cons (pv 0) (pa_cons (pe_bltn (v := .ty "bool") (by rfl) B.bool (by decide +kernel) rfl) pa_nil)))) (pe_one (pe_chain op_le op_le (pv 1) (pv 0) (pv 2))))))), ?_⟩
    have isF : isInt d = true → isBool d = false → plainInt d = true := fun h1 h2 => by rw [← plain_eq, h1, h2]; rfl
    have no : plainInt d = false → wholeB d a b = false := fun h => by
      cases d <;> first
        | rfl
        | cases h
    refine ⟨v, rfl, v, .ty "int", .type (tyS d), .type "int", isInt d, rfl, .ty _, hv.ty, kit_ty (kit_int d), isInt d, rfl, ?_⟩
    cases hi : isInt d with
    | false =>
      rw [if_neg Bool.false_ne_true]
      rw [no (by rw [← plain_eq, hi]; rfl)] at q
      exact q
    | true =>
      rw [if_pos rfl]
      refine ⟨v, rfl, v, .ty "bool", .type (tyS d), .type "bool", isBool d, rfl, .ty _, hv.ty, kit_ty (kit_bool d), ?_⟩
      refine ⟨isBool d, rfl, ?_⟩
      cases hb : isBool d with
      | true =>
        rw [no (by rw [← plain_eq, hi, hb]; rfl)] at q
        refine ⟨false, rfl, ?_⟩
        rw [if_neg Bool.false_ne_true]
        exact q
      | false =>
        obtain ⟨i, rfl, rfl⟩ := plain_of hv (isF hi hb)
        have z : wholeB (.int i) a b = (decide (a ≤ i) && decide (i ≤ b)) := rfl
        rw [z] at q
        refine ⟨true, rfl, ?_⟩
        rw [if_pos rfl]
        refine ⟨.int a, rfl, .int i, rfl, a, i, rfl, rfl, decide (a ≤ i), rfl, ?_⟩
        by_cases h1 : a ≤ i
        · rw [if_pos (decide_eq_true h1)]
          refine ⟨.int b, rfl, i, b, rfl, rfl, ?_⟩
          rw [decide_eq_true h1] at q
          exact q
        · rw [if_neg (by rw [decide_eq_false h1]; exact Bool.false_ne_true)]
          rw [decide_eq_false h1] at q
          exact q
theorem ok_isW {f f1 : Addr} {fd fd1 : FuncData} (F : Fun K "_law_is_word" "_law_is_word" sIsW f fd) (F1 : Fun K "_law_is_from" "_law_is_from" sFrom f1 fd1) (b1 : Binds K fd1 ["_law_thing", "_law_low", "_law_high"] []) (g1 : mg "_law_is_from" = some (.ref f1)) (B : Bi mg) : FnOk P w K mg base CX0 2 f fd ["_law_lock_here", "_law_thing", "_law_many"] (spIsW K) := by
  have GF : FnOk P w K mg base CX0 1 f1 fd1 ["_law_thing", "_law_low", "_law_high"] (spFrom K) := ok_from F1 B
  refine F.ok scIsW (fun vs H Q E h => ?_) (fun cdv A' outer s H vs Q E hr h => ?_)
  · obtain ⟨v, a, l, u, m, rfl, _⟩ := h; rfl
  · obtain ⟨v, a, l, u, m, rfl, hl, l60, ha, ml, q⟩ := h
    refine ⟨_, (pss_cons (ps_if (PW.pt (pw_or (pt_not (pt_val (pe_callB call_isi (by rfl) B.isi boot_isinstance (pa_cons (pv 1) (pa_cons (pe_bltn (v := .ty "tuple") (by rfl) B.tuple (by decide +kernel) rfl) pa_nil))))) (pw_or1 (pt_cmpR op_ne (pe_callB call_len_seq (by rfl) B.len PySem.boot_len (pa_cons (pv 1) pa_nil)) (pv 2) (nomark _))))) (pss_one (ps_ret pe_bl)) pss_nil)
      (pss_one (ps_ret (pe_cmpR (op_eqD hr.units) (pe_lc (own := [("_law_k", 3)]) (g := gName 3) (te := tVar 3) (tt := tNot (tB (tCall (spFrom K) [] E0 (tCons (tOp (rIxT K) (tVar 1) (tVar 3)) (tCons (tC (V.int 0)) (tCons (tOp (rI0 fun i j => .int (i - j)) (tOp (rIxT K) (tOp (rIxT K) (tVar 0) (tVar 3)) (tC (V.int 0))) (tC (V.int 1))) tNil)))))) rfl scIsW.nd (pi_range1 (by rfl) B.range (pa_cons (pv 2) pa_nil)) (blkOk_by (own := [("_law_k", 3)]) (N := nIsW) (sc := defScope sIsW) (by decide +kernel))
        (fun _ _ _ _ _ => pg_name (i := 3) scIsW.nd rfl (Or.inl rfl))
        (fun _ _ _ _ _ => pts_one (pt_not (pt_val (pe_call GF hr (by rfl) g1 F1.kp b1 .nil pass0 (pa_cons (pe_ix (r := rIxT K) ix_tup (pv 1) (pv 3) (fun _ _ => rfl)) (pa_cons pe_int (pa_cons (pe_op op_sub (pe_ix (r := rIxT K) ix_tup (pe_ix (r := rIxT K) ix_tup (pv 0) (pv 3) (fun _ _ => rfl)) pe_int (fun _ _ => rfl)) pe_int) pa_nil)))))))
        (fun _ _ _ _ _ => pv 3)) (pe_lst pa_nil) (nomark _))))), ?_⟩
    obtain ⟨va, bs, rfl, hva, hbs⟩ := hl
    have bl : bs.length = l.length := Paired.len hbs
    have hx : SqT K H a (u.map V.int) := SqT.of ha
    refine ⟨.ref a, rfl, .ref a, .ty "tuple", .type "tuple", .type "tuple", true, rfl, .ty _, tyx_tup hx, kit_ty (by decide +kernel), true, rfl, ?_⟩
    refine iteF ?_
    refine ⟨.ref a, rfl, a, _, rfl, .inr hx, .int (m : Nat), rfl, rfl, _, rfl, ?_⟩
    rw [List.length_map]
    by_cases c : u.length = m
    case neg =>
      have nz : ¬ (V.int ((u.length : Nat) : Int) = V.int ((m : Nat) : Int)) := fun z => c (by have := V.int.inj z; omega)
      have wz : isWordB l u m = false := by unfold isWordB; rw [decide_eq_false c, Bool.false_and]
      rw [wz] at q
      refine ite2 (fun _ => q H (Evl.Ex.refl H)) (fun hc => absurd (by rw [decide_eq_false nz]; rfl) hc)
    refine ite2 (fun hc => absurd hc (by rw [c]; simp)) (fun _ => ?_)
    refine ⟨.int (m : Nat), rfl, _, rfl, by omega, by omega, fun D nD => ?_⟩
    refine lc_range (lo := 0) (n := (((m : Nat) : Int)).toNat) (fun i H' => Evl.Ex H H' ∧ H' D = some (.lst (((List.range i).filter (badW (manysOf l) u)).map fun k => V.int (k : Nat)))) ⟨Evl.Ex.new nD, upd_same⟩ ?_ ?_
    · rintro i H1 hi ⟨e1, hD1⟩
      have z0 : (0 : Int) + (i : Nat) = (i : Int) := by omega
      rw [z0]
      have il : i < m := by omega
      obtain ⟨x, hx'⟩ : ∃ x, u[i]? = some x := ⟨u[i]'(by omega), List.getElem?_eq_getElem (by omega)⟩
      obtain ⟨b, hb⟩ : ∃ b, l[i]? = some b := ⟨l[i]'(by omega), List.getElem?_eq_getElem (by omega)⟩
      obtain ⟨y, hy, ⟨ab, cb, gs, rfl, k1, k2, k3⟩⟩ := Paired.get2 hbs hb
      have hm : (manysOf l)[i]? = some b.many := by unfold manysOf; rw [List.getElem?_map, hb]; rfl
      have bx : badW (manysOf l) u i = !(decide (0 ≤ x) && decide (x ≤ b.many - 1)) := by unfold badW; rw [hx', hm]
      have ix1 : atI (u.map V.int) ((i : Nat) : Int) = some (V.int x) := atI_nat (by rw [List.getElem?_map, hx']; rfl)
      refine ⟨rfl, .ref a, rfl, .int (i : Nat), rfl, a, _, ((i : Nat) : Int), .int x, rfl, rfl, Evl.ex_t e1 hx, ix1, ?_⟩
      refine ⟨.ref va, rfl, .int (i : Nat), rfl, va, bs, (i : Nat), .ref ab, rfl, rfl, Evl.ex_t e1 hva, atI_nat hy, ab, _, 0, .int b.many, rfl, rfl, Evl.ex_t e1 k1, atI_nat (j := 0) rfl, b.many, 1, rfl, rfl, ?_⟩
      refine ⟨.int x, .int x, 0, b.many - 1, rfl, .int x, _, rfl, ?_⟩
      have we : wholeB (.int x) 0 (b.many - 1) = (decide (0 ≤ x) && decide (x ≤ b.many - 1)) := rfl
      rw [we]
      cases hw : (decide (0 ≤ x) && decide (x ≤ b.many - 1)) with
      | true =>
        refine iteF ?_
        refine ⟨e1, ?_⟩
        rw [List.range_succ, List.filter_append, List.filter_cons, if_neg (by rw [bx, hw]; simp), List.filter_nil, List.append_nil]
        exact hD1
      | false =>
        refine iteT ?_
        refine ⟨.int (i : Nat), rfl, _, hD1, Nat.lt_of_le_of_lt (by rw [List.length_map]; exact Nat.le_trans (List.length_filter_le _ _) (by rw [List.length_range]; omega) : (((List.range i).filter (badW (manysOf l) u)).map fun k => V.int (k : Nat)).length ≤ 60) (by decide), e1.mut nD, ?_⟩
        rw [upd_same, List.range_succ, List.filter_append, List.filter_cons, if_pos (by rw [bx, hw]; rfl), List.filter_nil, List.map_append]
        rfl
    · rintro H1 ⟨e1, hD1⟩
      rw [Int.toNat_natCast] at hD1
      refine ⟨Nat.zero_le _, fun t nt => ?_⟩
      have e2 := Evl.Ex.new (o := .lst []) nt
      have gt : (upd H1 t (.lst [])) t = some (.lst []) := upd_same
      generalize upd H1 t (.lst []) = H2 at e2 gt
      refine ⟨.list (((List.range m).filter (badW (manysOf l) u)).map fun k => PyData.int (k : Nat)), .list [], .lst (SqL.of (e2 _ _ hD1)) (dp_nats _), .lst (SqL.of gt) .nil, fine_nats (fun k hk => by
        have := List.mem_range.mp (List.mem_filter.mp hk).1
        omega), fine_nats (ks := []) (fun k hk => nomatch hk), ?_⟩
      rw [eqv_lN, List.isEmpty_map]
      have wz : isWordB l u m = ((List.range m).filter (badW (manysOf l) u)).isEmpty := by unfold isWordB; rw [decide_eq_true c, Bool.true_and]
      rw [← wz]
      exact q H2 (e1.trans e2)
end
end Wb

set_option Elab.async false
set_option linter.all false
set_option maxRecDepth 100000
set_option maxHeartbeats 8000000
set_option pp.maxSteps 900
set_option pp.deepTerms false
namespace Wb
open PySem PySem.Spec PyProof.Rows L2
abbrev sMoved : Stmt := topS 47
theorem scMoved : FnScope ["_law_at", "_law_k", "_law_there"] ["_law_at", "_law_k", "_law_there"] (defScope sMoved) := ⟨rfl, rfl, rfl, by decide +kernel, rfl, by decide +kernel, by decide +kernel⟩
def spMoved (K : PySem.W.Frag) : Sp := fun vs H Q _ => ∃ (u : V) (st : Word) (k : Nat) (to : Int), vs = [u, .int (k : Nat), .int to] ∧ Wd K H u st ∧ k < st.length ∧ st.length ≤ 100 ∧ ∀ H' z, Evl.Ex H H' → Wd K H' z (st.set k to) → Q z H'
section
variable {P : Program} {w : World} {K : PySem.W.Frag} {mg : Str → Option Value} {base : Heap}
theorem ok_moved {f : Addr} {fd : FuncData} (F : Fun K "_law_moved" "_law_moved" sMoved f fd) : FnOk P w K mg base CX0 1 f fd ["_law_at", "_law_k", "_law_there"] (spMoved K) := by
  refine F.ok scMoved (fun vs H Q E h => ?_) (fun cdv A outer s H vs Q E hr h => ?_)
  · obtain ⟨u, st, k, to, rfl, _⟩ := h; rfl
  · obtain ⟨u, st, k, to, rfl, ⟨a, rfl, ha⟩, kl, l100, q⟩ := h
    refine ⟨_, pss_one (ps_ret (pe_op op_catA (pe_op op_catA (pe_slice (r := rSlA K) sl_tupA (pv 0) po_none (po_some (pv 1))) (pe_tup (pa_cons (pv 2) pa_nil))) (pe_slice (r := rSlA K) sl_tupA (pv 0) (po_some (pe_op op_add (pv 1) pe_int)) po_none))), ?_⟩
    have ln : (st.map V.int).length = st.length := List.length_map ..
    refine ⟨.ref a, rfl, .int (k : Nat), rfl, (k : Nat), rfl, ?_⟩
    refine sl_own (K := K) (lo := none) (hi := some (k : Nat)) ha fun H1 z1 e1 s1 => ?_
    rw [cut_take, ← List.map_take] at s1
    refine ⟨.int to, rfl, (by show 1 ≤ sizeLine; decide), fun t nt => ?_⟩
    have e2 := Evl.Ex.new (o := .tup [.int to]) nt
    have s2 : (upd H1 t (.tup [.int to])) t = some (.tup [.int to]) := upd_same
    generalize upd H1 t (.tup [.int to]) = H2 at e2 s2
    refine cat_own (K := K) (e2 _ _ s1) s2 (Nat.le_trans (by rw [List.length_map, List.length_take, List.length_singleton]; omega : ((st.take k).map V.int).length + [V.int to].length ≤ 101) (by decide)) fun H3 z3 e3 s3 => ?_
    have a3 := (e1.trans (e2.trans e3)) _ _ ha
    refine ⟨.ref a, rfl, .int (k : Nat), rfl, (k : Nat), 1, rfl, rfl, ((k + 1 : Nat) : Int), by rw [Int.natCast_add]; rfl, ?_⟩
    refine nopart1 ?_
    refine sl_own (K := K) (lo := some ((k + 1 : Nat) : Int)) (hi := none) a3 fun H4 z4 e4 s4 => ?_
    rw [cut_drop (st.map V.int) (k := k + 1) (by rw [ln]; omega), ← List.map_drop] at s4
    refine cat_own (K := K) (e4 _ _ s3) s4 (Nat.le_trans (by simp only [List.length_append, List.length_map, List.length_take, List.length_drop, List.length_singleton]; omega : ((st.take k).map V.int ++ [V.int to]).length + ((st.drop (k + 1)).map V.int).length ≤ 201) (by decide)) fun H5 z5 e5 s5 => ?_
    refine q H5 (.ref z5) (e1.trans (e2.trans (e3.trans (e4.trans e5)))) ⟨z5, rfl, ?_⟩
    rw [← after_set kl, List.map_append, List.map_append]
    exact s5
end
end Wb

set_option Elab.async false
set_option linter.all false
set_option maxRecDepth 100000
set_option maxHeartbeats 8000000
set_option pp.maxSteps 900
set_option pp.deepTerms false
namespace Wb
open PySem PySem.Spec PyProof.Rows L2
abbrev sEnt : Stmt := topS 51
abbrev nEnt : List Str := ["_law_lock_here", "_law_told_here", "_law_here", "_law_entry_here", "_law_k", "_law_gap", "_law_begin", "_law_end", "_law_price_here", "_law_many"]
theorem scEnt : FnScope nEnt ["_law_lock_here", "_law_told_here", "_law_here", "_law_entry_here"] (defScope sEnt) := ⟨rfl, rfl, rfl, by decide +kernel, rfl, by decide +kernel, by decide +kernel⟩
def spEnt (K : PySem.W.Frag) : Sp := fun vs H Q _ => ∃ (v u : V) (tl pa : Addr) (l : Lock) (T : List Tld) (pl : Word) (x : Ent) (tvs : List V), vs = [v, .ref tl, .ref pa, u] ∧ LockAt K H v l ∧ LockOk l ∧ H tl = some (.lst tvs) ∧ Paired (WayAt K H) tvs T ∧ H pa = some (.tup (pl.map V.int)) ∧ pl.length ≤ l.length ∧ (∀ t ∈ T, t.b.length ≤ 60 ∧ t.e.length ≤ 60) ∧ EntAt H u x ∧
  ∀ H' r, Evl.Ex H H' → GoneT H' r (goneE l T pl x) → Q r H'
/-- stand[:k] + (entry[2],) + stand[k + 1:] -/
abbrev tBehE (K : PySem.W.Frag) (ai ki ei : Nat) : TE := tOp (rCatA K) (tOp (rCatA K) (tSl (rSlA K) (tVar ai) tNoPart (tPart (tVar ki))) (tTup (tCons (tOp (rIxT K) (tVar ei) (tC (V.int 2))) tNil))) (tSl (rSlA K) (tVar ai) (tPart (tOp (rI0 fun i j => V.int (i + j)) (tVar ki) (tC (V.int 1)))) tNoPart)
theorem rd_behE {K : PySem.W.Frag} {σ : L2.St} {H : Hp} {Q : VK} {ai ki ei : Nat} {ua ea : Addr} {st : Word} {k : Nat} {to : Int} {es : List V} (hu : σ[ai]? = some (some (.ref ua))) (hk : σ[ki]? = some (some (.int (k : Nat)))) (ht : σ[ei]? = some (some (.ref ea))) (hua : H ua = some (.tup (st.map V.int))) (hea : H ea = some (.tup es)) (h2 : es[2]? = some (.int to)) (kl : k < st.length) (s60 : st.length ≤ 60)
    (q : ∀ H' z, Evl.Ex H H' → H' z = some (.tup ((st.set k to).map V.int)) → Q (.ref z) H') : tBehE K ai ki ei σ H Q := by
  refine ⟨.ref ua, hu, ?_⟩
  refine nopart1 ?_
  refine ⟨.int (k : Nat), hk, (k : Nat), rfl, ?_⟩
  refine sl_own (K := K) (lo := none) (hi := some ((k : Nat) : Int)) hua fun H3 z3 e3 q3 => ?_
  rw [cut_take, ← List.map_take] at q3
  refine ⟨.ref ea, ht, ea, es, 2, .int to, rfl, rfl, SqT.of (e3 _ _ hea), atI_nat (j := 2) h2, (by show 1 ≤ sizeLine; decide), fun y ny => ?_⟩
  have e4 := Evl.Ex.new (o := .tup [.int to]) ny
  have q4 : (upd H3 y (.tup [.int to])) y = some (.tup [.int to]) := upd_same
  generalize upd H3 y (.tup [.int to]) = H4 at e4 q4
  refine cat_own (K := K) (e4 _ _ q3) q4 (Nat.le_trans (by rw [List.length_map, List.length_take, List.length_singleton]; omega : ((st.take k).map V.int).length + [V.int to].length ≤ 101) (by decide)) fun H5 z5 e5 q5 => ?_
  have a5 := (e3.trans (e4.trans e5)) _ _ hua
  refine ⟨.ref ua, hu, .int (k : Nat), hk, (k : Nat), 1, rfl, rfl, ((k + 1 : Nat) : Int), by rw [Int.natCast_add]; rfl, ?_⟩
  refine nopart1 ?_
  refine sl_own (K := K) (lo := some ((k + 1 : Nat) : Int)) (hi := none) a5 fun H6 z6 e6 q6 => ?_
  rw [cut_drop (st.map V.int) (k := k + 1) (by rw [List.length_map]; omega), ← List.map_drop] at q6
  refine cat_own (K := K) (e6 _ _ q5) q6 (Nat.le_trans (by simp only [List.length_append, List.length_map, List.length_take, List.length_drop, List.length_singleton]; omega : ((st.take k).map V.int ++ [V.int to]).length + ((st.drop (k + 1)).map V.int).length ≤ 201) (by decide)) fun H7 z7 e7 q7 => ?_
  refine q H7 z7 (e3.trans (e4.trans (e5.trans (e6.trans e7)))) ?_
  rw [← after_set kl, List.map_append, List.map_append]
  exact q7
def fits (p to : Int) (w : Word) (g : Gap) : Bool := decide (g.frm = p) && (decide (g.to_ = to) && decide (w ∈ g.ways))
theorem find_fits (k : Nat) (p to : Int) (w : Word) : ∀ gs : List Gap, (pickAt k p (movesL gs w)).find? (fun t => decide (t.to_ = to)) = (gs.find? (fits p to w)).map fun g => (⟨(k : Int), g.to_, g.price⟩ : Tr3)
  | [] => rfl
  | g :: gs => by
    have ih := find_fits k p to w gs
    unfold pickAt movesL at ih ⊢
    rw [List.filter_cons, List.find?_cons]
    by_cases hw : w ∈ g.ways
    · rw [if_pos (decide_eq_true hw), List.map_cons, List.filter_cons]
      by_cases hf : g.frm = p
      · rw [if_pos (decide_eq_true (show (trOf g).frm = p from hf)), List.map_cons, List.find?_cons]
        by_cases ht : g.to_ = to
        · have e1 : fits p to w g = true := by unfold fits; rw [decide_eq_true hf, decide_eq_true ht, decide_eq_true hw]; rfl
          rw [e1]
          have e2 : decide ((trOf g).to_ = to) = true := decide_eq_true ht
          simp only [e2]
          rfl
        · have e1 : fits p to w g = false := by unfold fits; rw [decide_eq_false ht, Bool.false_and, Bool.and_false]
          rw [e1]
          have e2 : decide ((trOf g).to_ = to) = false := decide_eq_false ht
          simp only [e2]
          exact ih
      · have e1 : fits p to w g = false := by unfold fits; rw [decide_eq_false hf, Bool.false_and]
        rw [if_neg (by rw [decide_eq_false (show ¬ (trOf g).frm = p from hf)]; exact Bool.false_ne_true), e1]
        exact ih
    · have e1 : fits p to w g = false := by unfold fits; rw [decide_eq_false hw, Bool.and_false, Bool.and_false]
      rw [if_neg (by rw [decide_eq_false hw]; exact Bool.false_ne_true), e1]
      exact ih
theorem gone_fits {l : Lock} {T : List Tld} {pl : Word} {n : Nat} {to p : Int} {b : Bolt} (hb : l[n]? = some b) (hp : pl[n]? = some p) : goneE l T pl (.step (n : Nat) to) = (b.gaps.find? (fits p to (pl.take n))).map fun g => (pl.set n to, g.price, 1) := by
  have nl := (List.getElem?_eq_some_iff.mp hp).1
  have se : stepsOf l pl n = pickAt n p (movesL b.gaps (pl.take n)) := by unfold stepsOf; rw [hb, hp]
  rw [goneE, if_pos ⟨by omega, by omega⟩, Int.toNat_natCast, se, find_fits]
  cases b.gaps.find? (fits p to (pl.take n)) with
  | none => rfl
  | some g => rfl
section
variable {P : Program} {w : World} {K : PySem.W.Frag} {mg : Str → Option Value} {base : Heap}
theorem ok_ent {f f1 : Addr} {fd fd1 : FuncData} (F : Fun K "_law_entry" "_law_entry" sEnt f fd) (F1 : Fun K "_law_is_from" "_law_is_from" sFrom f1 fd1) (b1 : Binds K fd1 ["_law_thing", "_law_low", "_law_high"] []) (g1 : mg "_law_is_from" = some (.ref f1)) (B : Bi mg) : FnOk P w K mg base CX0 2 f fd ["_law_lock_here", "_law_told_here", "_law_here", "_law_entry_here"] (spEnt K) := by
  have GF : FnOk P w K mg base CX0 1 f1 fd1 ["_law_thing", "_law_low", "_law_high"] (spFrom K) := ok_from F1 B
  refine F.ok scEnt (fun vs H Q E h => ?_) (fun cdv A outer s H vs Q E hr h => ?_)
  · obtain ⟨v, u, tl, pa, l, T, pl, x, tvs, rfl, _⟩ := h; rfl
  · obtain ⟨v, u, tl, pa, l, T, pl, x, tvs, rfl, hl, ok, htl, htv, hpa, pll, t60, hx, q⟩ := h
    have hu65 : A.units + 3 + 65 < cLine := by
      have := hr.un
      have : (A.deeper (envOfC "_law_entry" (defScope sEnt) s.heap.objs.size f cdv)).units = A.units + 3 := rfl
      omega
    refine ⟨_, (pss_cons (ps_if (PW.pt (pw_or (pt_not (pt_val (pe_callB call_isi (by rfl) B.isi boot_isinstance (pa_cons (pv 3) (pa_cons (pe_bltn (v := .ty "tuple") (by rfl) B.tuple (by decide +kernel) rfl) pa_nil))))) (pw_or1 (pt_cmpR (op_eqD hr.units) (pv 3) (pe_tup pa_nil) (nomark _))))) (pss_one (ps_ret pe_non)) pss_nil)
      (pss_cons (ps_if (PW.pt (pw_and (pt_cmpR op_eq (pe_ix (r := rIxT K) ix_tup (pv 3) pe_int (fun _ _ => rfl)) pe_str (nomark _)) (pw_and (pt_cmpR op_eq (pe_callB call_len_seq (by rfl) B.len PySem.boot_len (pa_cons (pv 3) pa_nil)) pe_int (nomark _)) (pw_and1 (pt_val (pe_call GF hr (by rfl) g1 F1.kp b1 .nil pass0 (pa_cons (pe_ix (r := rIxT K) ix_tup (pv 3) pe_int (fun _ _ => rfl)) (pa_cons pe_int (pa_cons (pe_op op_sub (pe_callB call_len_seq (by rfl) B.len PySem.boot_len (pa_cons (pv 2) pa_nil)) pe_int) pa_nil)))))))))
        (pss_cons (ps_set (i := 4) scEnt.nd rfl (.inl rfl) (pe_ix (r := rIxT K) ix_tup (pv 3) pe_int (fun _ _ => rfl)))
        (pss_one (ps_for PassesOwn.never rfl (pi_tup (pe_ix (r := rIxT K) ix_tup (pe_ix (r := rIxT K) ix_tup (pv 0) (pv 4) (fun _ _ => rfl)) pe_int (fun _ _ => rfl))) (pg_name (i := 5) scEnt.nd rfl (.inl rfl))
          (pss_one (ps_if (PW.pt (pw_and (pt_val (pe_call GF hr (by rfl) g1 F1.kp b1 .nil pass0 (pa_cons (pe_ix (r := rIxT K) ix_tup (pv 3) pe_int (fun _ _ => rfl)) (pa_cons pe_int (pa_cons pe_int pa_nil))))) (pw_and (pt_cmpR (op_eqD hr.units) (pe_slice (r := rSlA K) sl_tupA (pv 5) po_none (po_some pe_int)) (pe_tup (pa_cons (pe_ix (r := rIxT K) ix_tup (pv 2) (pv 4) (fun _ _ => rfl)) (pa_cons (pe_ix (r := rIxT K) ix_tup (pv 3) pe_int (fun _ _ => rfl)) pa_nil))) (nomark _)) (pw_and1 (pt_cmpR (op_inTD hu65) (pe_slice (r := rSlA K) sl_tupA (pv 2) po_none (po_some (pv 4))) (pe_ix (r := rIxT K) ix_tup (pv 5) pe_int (fun _ _ => rfl)) rfl)))))
            (pss_one (ps_ret (te := tTup (tCons (tBehE K 2 4 3) (tCons (tOp (rIxT K) (tVar 5) (tC (V.int 2))) (tCons (tC (V.int 1)) tNil)))) (pe_tup (pa_cons (pe_op (r := rCatA K) op_catA (pe_op (r := rCatA K) op_catA (pe_slice (r := rSlA K) sl_tupA (pv 2) po_none (po_some (pv 4))) (pe_tup (pa_cons (pe_ix (r := rIxT K) ix_tup (pv 3) pe_int (fun _ _ => rfl)) pa_nil))) (pe_slice (r := rSlA K) sl_tupA (pv 2) (po_some (pe_op op_add (pv 4) pe_int)) po_none)) (pa_cons (pe_ix (r := rIxT K) ix_tup (pv 5) pe_int (fun _ _ => rfl)) (pa_cons pe_int pa_nil)))))) pss_nil)))))
        pss_nil)
      (pss_cons (ps_if (PW.pt (pw_and (pt_cmpR op_eq (pe_ix (r := rIxT K) ix_tup (pv 3) pe_int (fun _ _ => rfl)) pe_str (nomark _)) (pw_and (pt_cmpR op_eq (pe_callB call_len_seq (by rfl) B.len PySem.boot_len (pa_cons (pv 3) pa_nil)) pe_int (nomark _)) (pw_and1 (pt_val (pe_call GF hr (by rfl) g1 F1.kp b1 .nil pass0 (pa_cons (pe_ix (r := rIxT K) ix_tup (pv 3) pe_int (fun _ _ => rfl)) (pa_cons pe_int (pa_cons (pe_op op_sub (pe_callB call_len_seq (by rfl) B.len PySem.boot_len (pa_cons (pv 1) pa_nil)) pe_int) pa_nil)))))))))
        (pss_cons (ps_asg (pe_ix (r := rIxL K) ix_list (pv 1) (pe_ix (r := rIxT K) ix_tup (pv 3) pe_int (fun _ _ => rfl)) (fun _ _ => rfl)) (pg_tup rfl (pgs_cons (pg_name (i := 6) scEnt.nd rfl (.inl rfl)) (pgs_cons (pg_name (i := 7) scEnt.nd rfl (.inl rfl)) (pgs_cons (pg_name (i := 8) scEnt.nd rfl (.inl rfl)) (pgs_cons (pg_name (i := 9) scEnt.nd rfl (.inl rfl)) pgs_nil))))))
        (pss_one (ps_if (pt_cmpR (op_eqD hr.units) (pe_slice (r := rSlA K) sl_tupA (pv 2) po_none (po_some (pe_callB call_len_seq (by rfl) B.len PySem.boot_len (pa_cons (pv 6) pa_nil)))) (pv 6) (nomark _))
          (pss_one (ps_ret (pe_tup (pa_cons (pe_op (r := rCatA K) op_catA (pv 7) (pe_slice (r := rSlA K) sl_tupA (pv 2) (po_some (pe_callB call_len_seq (by rfl) B.len PySem.boot_len (pa_cons (pv 6) pa_nil))) po_none)) (pa_cons (pv 8) (pa_cons (pv 9) pa_nil)))))) pss_nil)))
        pss_nil)
      (pss_one (ps_ret pe_non))))), ?_⟩
    have n60 := ok.n1
    have tvl : tvs.length = T.length := Paired.len htv
    cases x with
    | step k to =>
      obtain ⟨a, rfl, ha⟩ := hx
      have hxs : SqT K H a [.str "step", .int k, .int to] := SqT.of ha
      refine ⟨.ref a, rfl, .ref a, .ty "tuple", .type "tuple", .type "tuple", true, rfl, .ty _, tyx_tup hxs, kit_ty (by decide +kernel), true, rfl, ?_⟩
      refine iteF ?_
      refine ⟨.ref a, rfl, Nat.zero_le _, fun t nt => ?_⟩
      have e1 := Evl.Ex.new (o := .tup []) nt
      have gt : (upd H t (.tup [])) t = some (.tup []) := upd_same
      generalize upd H t (.tup []) = H1 at e1 gt
      have ha1 := e1 _ _ ha
      refine ⟨.tuple [.str "step", .int k, .int to], .tuple [], .tup (SqT.of ha1) (.cons (.str _) (.cons (.int _) (.cons (.int _) .nil))), .tup (SqT.of gt) .nil, (by simp [SeqAt.shaped, PyData.canLay0, PyData.canLayAll0, PyData.depth, PyData.depthAll]; decide +kernel), by simp [SeqAt.shaped, PyData.canLay0, PyData.canLayAll0, PyData.depth, PyData.depthAll], _, rfl, ?_⟩
      refine ite2 (fun hc => absurd hc (by simp [PyData.eqv, PyData.eqvAll])) (fun _ => ?_)
      refine ⟨.ref a, rfl, a, _, 0, .str "step", rfl, rfl, SqT.of ha1, atI_nat (j := 0) rfl, rfl, _, rfl, ?_⟩
      refine ite2 (fun _ => ?_) (fun hc => absurd (decide_eq_true rfl) hc)
      refine ⟨.ref a, rfl, a, _, rfl, .inr (SqT.of ha1), rfl, _, rfl, ?_⟩
      refine ite2 (fun _ => ?_) (fun hc => absurd (decide_eq_true rfl) hc)
      refine ⟨.ref a, rfl, a, _, 1, .int k, rfl, rfl, SqT.of ha1, atI_nat (j := 1) rfl, .ref pa, rfl, pa, _, rfl, .inr (SqT.of (e1 _ _ hpa)), ((pl.map V.int).length : Nat), 1, rfl, rfl, .int k, .int k, 0, _, rfl, .int k, _, rfl, ?_⟩
      rw [List.length_map]
      have we : wholeB (.int k) 0 (((pl.length : Nat) : Int) - 1) = (decide (0 ≤ k) && decide (k ≤ ((pl.length : Nat) : Int) - 1)) := rfl
      rw [we]
      -- what follows when the step can't be done
      by_cases hk : 0 ≤ k ∧ k < (pl.length : Int)
      · refine ite2 (fun _ => ?_) (fun hc => absurd (by rw [Bool.and_eq_true]; exact ⟨decide_eq_true hk.1, decide_eq_true (by omega)⟩) hc)
        obtain ⟨n, rfl⟩ : ∃ n : Nat, k = (n : Int) := ⟨k.toNat, by omega⟩
        obtain ⟨p, hp⟩ : ∃ p, pl[n]? = some p := ⟨pl[n]'(by omega), List.getElem?_eq_getElem (by omega)⟩
        obtain ⟨b, hb⟩ : ∃ b, l[n]? = some b := ⟨l[n]'(by omega), List.getElem?_eq_getElem (by omega)⟩
        obtain ⟨va, bs, rfl, hva, hbs⟩ := hl
        obtain ⟨y, hy, ⟨ab, cb, gs, rfl, k1, k2, k3⟩⟩ := Paired.get2 hbs hb
        have gl : gs.length = b.gaps.length := Paired.len k3
        have gf := gone_fits (T := T) (to := to) hb hp
        refine ⟨.ref a, rfl, a, _, 1, .int (n : Nat), rfl, rfl, SqT.of ha1, atI_nat (j := 1) rfl, ?_⟩
        refine ⟨.ref va, rfl, .int (n : Nat), rfl, va, bs, (n : Nat), .ref ab, rfl, rfl, Evl.ex_t e1 hva, atI_nat hy, ab, _, 1, .ref cb, rfl, rfl, Evl.ex_t e1 k1, atI_nat (j := 1) rfl, cb, rfl, ⟨_, Evl.ex_t e1 k2⟩, ?_⟩
        refine for_tup (K := K) (a := cb) (xs := gs) (fun j σ H' => ∃ y5 y6 y7 y8 y9 : Option V, σ = [some (.ref va), some (.ref tl), some (.ref pa), some (.ref a), some (.int (n : Nat)), y5, y6, y7, y8, y9] ∧ Evl.Ex H H' ∧ ∀ g ∈ b.gaps.take j, fits p to (pl.take n) g = false)
          ⟨none, none, none, none, none, rfl, e1, fun g hg => by simp at hg⟩ ?_ ?_ ?_
        · rintro j σ H2 _ ⟨_, _, _, _, _, _, e2, _⟩
          exact Evl.ex_t e2 k2
        · rintro j x σ H2 hx2 ⟨y5, y6, y7, y8, y9, rfl, e2, nof⟩
          obtain ⟨g, hg, ⟨a2, b2, ws, rfl, j1, j2, j3⟩⟩ := Paired.get1 k3 hx2
          have G := (ok.bolts n b hb).gaps g (List.mem_of_getElem? hg)
          have m4 := (ok.bolts n b hb).m1
          have ha2 := e2 _ _ ha
          have stay : ∀ {Hx : Hp}, Evl.Ex H2 Hx → fits p to (pl.take n) g = false → ∃ z5 z6 z7 z8 z9 : Option V, ([some (.ref va), some (.ref tl), some (.ref pa), some (.ref a), some (.int (n : Nat)), some (.ref a2), y6, y7, y8, y9] : L2.St) = [some (.ref va), some (.ref tl), some (.ref pa), some (.ref a), some (.int (n : Nat)), z5, z6, z7, z8, z9] ∧ Evl.Ex H Hx ∧ ∀ g ∈ b.gaps.take (j + 1), fits p to (pl.take n) g = false := fun {Hx} ex hf =>
            ⟨_, _, _, _, _, rfl, e2.trans ex, fun g' hg' => by
              rw [take_succ_get hg] at hg'
              rcases List.mem_append.mp hg' with h | h
              · exact nof g' h
              · rw [List.mem_singleton.mp h]; exact hf⟩
          refine ⟨.ref a, rfl, a, _, 2, .int to, rfl, rfl, SqT.of ha2, atI_nat (j := 2) rfl, .int to, .int to, 0, 3, rfl, .int to, _, rfl, ?_⟩
          have wt : wholeB (.int to) 0 3 = (decide (0 ≤ to) && decide (to ≤ 3)) := rfl
          rw [wt]
          refine ite2 (fun hc => ?_) (fun hc => stay (Evl.Ex.refl H2) ?_)
          · refine ⟨.ref a2, rfl, ?_⟩
            refine nopart1 ?_
            refine ⟨2, rfl, a2, _, rfl, Evl.ex_t e2 j1, fun z => absurd (slice_whole (k := 2) z.2) (by simp), fun _ t2 nt2 => ?_⟩
            have f3 := Evl.Ex.new (o := .tup [.int g.frm, .int g.to_]) nt2
            have g3 : (upd H2 t2 (.tup [.int g.frm, .int g.to_])) t2 = some (.tup [.int g.frm, .int g.to_]) := upd_same
            have ec : cutV [V.int g.frm, .int g.to_, .int g.price, .ref b2] none (some 2) = [.int g.frm, .int g.to_] := rfl
            rw [ec]
            generalize upd H2 t2 (.tup [.int g.frm, .int g.to_]) = H3 at f3 g3
            have e03 := e2.trans f3
            have ixp : atI (pl.map V.int) ((n : Nat) : Int) = some (V.int p) := atI_nat (by rw [List.getElem?_map, hp]; rfl)
            refine ⟨.ref pa, rfl, .int (n : Nat), rfl, pa, _, (n : Nat), .int p, rfl, rfl, SqT.of (e03 _ _ hpa), ixp, .ref a, rfl, a, _, 2, .int to, rfl, rfl, SqT.of (e03 _ _ ha), atI_nat (j := 2) rfl, (by show 2 ≤ sizeLine; decide), fun t3 nt3 => ?_⟩
            have f4 := Evl.Ex.new (o := .tup [.int p, .int to]) nt3
            have g4 : (upd H3 t3 (.tup [.int p, .int to])) t3 = some (.tup [.int p, .int to]) := upd_same
            generalize upd H3 t3 (.tup [.int p, .int to]) = H4 at f4 g4
            have e04 := e03.trans f4
            refine ⟨dW [g.frm, g.to_], dW [p, to], dp_W ⟨t2, rfl, f4 _ _ g3⟩, dp_W ⟨t3, rfl, g4⟩, tup_shaped _, tup_shaped _, _, rfl, ?_⟩
            rw [eqv_WW]
            refine ite2 (fun hc2 => ?_) (fun hc2 => stay (f3.trans f4) ?_)
            · have hft : [g.frm, g.to_] = [p, to] := of_decide_eq_true hc2
              have hf : g.frm = p := (List.cons.inj hft).1
              have ht : g.to_ = to := (List.cons.inj (List.cons.inj hft).2).1
              refine ⟨.ref pa, rfl, ?_⟩
              refine nopart1 ?_
              refine ⟨.int (n : Nat), rfl, (n : Nat), rfl, ?_⟩
              refine sl_own (K := K) (lo := none) (hi := some ((n : Nat) : Int)) (e04 _ _ hpa) fun H5 t5 f5 g5 => ?_
              rw [cut_take, ← List.map_take] at g5
              have e05 := e04.trans f5
              have fws : Fine (dWs g.ways) 2 5000 := by
                have h1 : FineAll (g.ways.map dW) 1 ((g.ways.map dW).length * (603 + 2)) := FineAll.rep fun d hd => by
                  obtain ⟨u, hu, rfl⟩ := List.mem_map.mp hd
                  exact fine_way ok hb (List.mem_of_getElem? hg) hu
                have h2 := fine_tup h1
                have f8 := G.few
                rw [List.length_map] at h2
                exact h2.mono (Nat.le_refl _) (by omega)
              refine ⟨.ref a2, rfl, a2, _, 3, .ref b2, rfl, rfl, Evl.ex_t e05 j1, atI_nat (j := 3) rfl, dW (pl.take n), g.ways.map dW, dp_W ⟨t5, rfl, g5⟩, .tup (Evl.ex_t e05 j2) (dp_all (F := Wd K _) (f := dW) (fun _ _ => dp_W) (Paired.imp (fun _ _ => wd_ex e05) j3)), tup_shaped _, fws.shaped (by decide), _, rfl, ?_⟩
              rw [any_W]
              refine ite2 (fun hc3 => ?_) (fun hc3 => stay ((f3.trans f4).trans f5) ?_)
              · have hw : pl.take n ∈ g.ways := of_decide_eq_true hc3
                have fg : fits p to (pl.take n) g = true := by unfold fits; rw [decide_eq_true hf, decide_eq_true ht, decide_eq_true hw]; rfl
                have fi : b.gaps.find? (fits p to (pl.take n)) = some g := by
                  rw [← List.take_append_drop (j + 1) b.gaps, take_succ_get hg, List.append_assoc, List.find?_append, List.find?_eq_none.mpr (fun g' hg' z => by rw [nof g' hg'] at z; cases z), List.singleton_append, List.find?_cons_of_pos fg]
                  rfl
                rw [fi] at gf
                refine rd_behE (k := n) (to := to) (st := pl) rfl rfl rfl (e05 _ _ hpa) (e05 _ _ ha) rfl (by omega) (by omega) fun H6 u e6 hu => ?_
                refine ⟨.ref a2, rfl, a2, _, 2, .int g.price, rfl, rfl, Evl.ex_t (e05.trans e6) j1, atI_nat (j := 2) rfl, (by show 3 ≤ sizeLine; decide), fun y ny => ?_⟩
                refine q _ (.ref y) ((e05.trans e6).trans (Evl.Ex.new ny)) ?_
                rw [gf]
                exact ⟨y, u, rfl, upd_same, (Evl.Ex.new ny) _ _ hu⟩
              · unfold fits
                rw [decide_eq_false (fun z => hc3 (decide_eq_true z)), Bool.and_false, Bool.and_false]
            · unfold fits
              by_cases hf : g.frm = p
              · have : ¬ g.to_ = to := fun z => hc2 (decide_eq_true (by rw [hf, z]))
                rw [decide_eq_false this, Bool.false_and, Bool.and_false]
              · rw [decide_eq_false hf, Bool.false_and]
          · unfold fits
            have : ¬ g.to_ = to := fun z => hc (by rw [Bool.and_eq_true]; exact ⟨decide_eq_true (by have := G.t0; omega), decide_eq_true (by have := G.t1; omega)⟩)
            rw [decide_eq_false this, Bool.false_and, Bool.and_false]
        · rintro σ H2 ⟨y5, y6, y7, y8, y9, rfl, e2, nof⟩
          rw [gl, List.take_length] at nof
          have fn : b.gaps.find? (fits p to (pl.take n)) = none := List.find?_eq_none.mpr fun g hg z => by rw [nof g hg] at z; cases z
          rw [fn] at gf
          have ha2 := e2 _ _ ha
          refine ⟨.ref a, rfl, a, _, 0, .str "step", rfl, rfl, SqT.of ha2, atI_nat (j := 0) rfl, rfl, _, rfl, ?_⟩
          refine ite2 (fun hc => absurd (of_decide_eq_true hc) (by decide +kernel)) (fun _ => ?_)
          exact q H2 .non e2 (by rw [gf]; exact rfl)
      · have g0 : goneE l T pl (.step k to) = none := by rw [goneE, if_neg hk]
        refine ite2 (fun hc => ?_) (fun _ => ?_)
        · rw [Bool.and_eq_true] at hc
          exact absurd ⟨of_decide_eq_true hc.1, by have := of_decide_eq_true hc.2; omega⟩ hk
        refine ⟨.ref a, rfl, a, _, 0, .str "step", rfl, rfl, SqT.of ha1, atI_nat (j := 0) rfl, rfl, _, rfl, ?_⟩
        refine ite2 (fun hc => absurd (of_decide_eq_true hc) (by decide +kernel)) (fun _ => ?_)
        exact q H1 .non e1 (by rw [g0]; exact rfl)
    | part n =>
      obtain ⟨a, rfl, ha⟩ := hx
      have hxs : SqT K H a [.str "part", .int n] := SqT.of ha
      refine ⟨.ref a, rfl, .ref a, .ty "tuple", .type "tuple", .type "tuple", true, rfl, .ty _, tyx_tup hxs, kit_ty (by decide +kernel), true, rfl, ?_⟩
      refine iteF ?_
      refine ⟨.ref a, rfl, Nat.zero_le _, fun t nt => ?_⟩
      have e1 := Evl.Ex.new (o := .tup []) nt
      have gt : (upd H t (.tup [])) t = some (.tup []) := upd_same
      generalize upd H t (.tup []) = H1 at e1 gt
      have ha1 := e1 _ _ ha
      refine ⟨.tuple [.str "part", .int n], .tuple [], .tup (SqT.of ha1) (.cons (.str _) (.cons (.int _) .nil)), .tup (SqT.of gt) .nil, (by simp [SeqAt.shaped, PyData.canLay0, PyData.canLayAll0, PyData.depth, PyData.depthAll]; decide +kernel), by simp [SeqAt.shaped, PyData.canLay0, PyData.canLayAll0, PyData.depth, PyData.depthAll], _, rfl, ?_⟩
      refine ite2 (fun hc => absurd hc (by simp [PyData.eqv, PyData.eqvAll])) (fun _ => ?_)
      refine ⟨.ref a, rfl, a, _, 0, .str "part", rfl, rfl, SqT.of ha1, atI_nat (j := 0) rfl, rfl, _, rfl, ?_⟩
      refine ite2 (fun hc => absurd (of_decide_eq_true hc) (by decide +kernel)) (fun _ => ?_)
      refine ⟨.ref a, rfl, a, _, 0, .str "part", rfl, rfl, SqT.of ha1, atI_nat (j := 0) rfl, rfl, _, rfl, ?_⟩
      refine ite2 (fun _ => ?_) (fun hc => absurd (decide_eq_true rfl) hc)
      refine ⟨.ref a, rfl, a, _, rfl, .inr (SqT.of ha1), rfl, _, rfl, ?_⟩
      refine ite2 (fun _ => ?_) (fun hc => absurd (decide_eq_true rfl) hc)
      refine ⟨.ref a, rfl, a, _, 1, .int n, rfl, rfl, SqT.of ha1, atI_nat (j := 1) rfl, .ref tl, rfl, tl, tvs, rfl, .inl (SqL.of (e1 _ _ htl)), (tvs.length : Nat), 1, rfl, rfl, .int n, .int n, 0, _, rfl, .int n, _, rfl, ?_⟩
      have we : wholeB (.int n) 0 (((tvs.length : Nat) : Int) - 1) = (decide (0 ≤ n) && decide (n ≤ ((tvs.length : Nat) : Int) - 1)) := rfl
      rw [we]
      by_cases hn : 0 ≤ n ∧ n < (T.length : Int)
      · refine ite2 (fun _ => ?_) (fun hc => absurd (by rw [Bool.and_eq_true]; exact ⟨decide_eq_true hn.1, decide_eq_true (by omega)⟩) hc)
        obtain ⟨m, rfl⟩ : ∃ m : Nat, n = (m : Int) := ⟨n.toNat, by omega⟩
        obtain ⟨t', ht⟩ : ∃ t, T[m]? = some t := ⟨T[m]'(by omega), List.getElem?_eq_getElem (by omega)⟩
        obtain ⟨tv, htv', ⟨a', bv, ev, rfl, ha', ⟨ba, rfl, hb⟩, ⟨ea, rfl, he⟩⟩⟩ := Paired.get2 htv ht
        have tl' := t60 t' (List.mem_of_getElem? ht)
        have ge : goneE l T pl (.part (m : Nat)) = if pl.take t'.b.length = t'.b then some (t'.e ++ pl.drop t'.b.length, t'.p, t'.c) else none := by
          show (if (0 : Int) ≤ ((m : Nat) : Int) then (match T[(((m : Nat) : Int)).toNat]? with
            | some t => if pl.take t.b.length = t.b then some (t.e ++ pl.drop t.b.length, t.p, t.c) else none
            | none => none) else none) = _
          rw [if_pos (by omega), Int.toNat_natCast, ht]
        refine ⟨.ref tl, rfl, .ref a, rfl, a, _, 1, .int (m : Nat), rfl, rfl, SqT.of ha1, atI_nat (j := 1) rfl, tl, tvs, (m : Nat), .ref a', rfl, rfl, SqL.of (e1 _ _ htl), atI_nat htv', ?_⟩
        refine ⟨a', _, rfl, SqT.of (e1 _ _ ha'), rfl, _, _, rfl, _, _, rfl, _, _, rfl, _, _, rfl, rfl, ?_⟩
        refine ⟨.ref pa, rfl, ?_⟩
        refine nopart1 ?_
        refine ⟨.ref ba, rfl, ba, _, rfl, .inr (SqT.of (e1 _ _ hb)), ((t'.b.map V.int).length : Nat), rfl, ?_⟩
        refine sl_own (K := K) (lo := none) (hi := some (((t'.b.map V.int).length : Nat) : Int)) (e1 _ _ hpa) fun H2 z e2 hz => ?_
        rw [cut_take, ← List.map_take, List.length_map] at hz
        have e12 := e1.trans e2
        refine ⟨.ref ba, rfl, dW (pl.take t'.b.length), dW t'.b, dp_W ⟨z, rfl, hz⟩, dp_W ⟨ba, rfl, e12 _ _ hb⟩, tup_shaped _, tup_shaped _, _, rfl, ?_⟩
        rw [eqv_WW]
        by_cases c : pl.take t'.b.length = t'.b
        · rw [if_pos c] at ge
          refine ite2 (fun _ => ?_) (fun hc => absurd (decide_eq_true c) hc)
          have le : t'.b.length ≤ pl.length := by
            have := congrArg List.length c
            rw [List.length_take] at this
            omega
          refine ⟨.ref ea, rfl, .ref pa, rfl, .ref ba, rfl, ba, _, rfl, .inr (SqT.of (e12 _ _ hb)), ((t'.b.map V.int).length : Nat), rfl, ?_⟩
          refine nopart1 ?_
          refine sl_own (K := K) (lo := some (((t'.b.map V.int).length : Nat) : Int)) (hi := none) (e12 _ _ hpa) fun H3 z2 e3 hz2 => ?_
          rw [List.length_map, cut_drop _ (by rw [List.length_map]; exact le), ← List.map_drop] at hz2
          have e13 := e12.trans e3
          refine cat_own (K := K) (e13 _ _ he) hz2 (Nat.le_trans (by simp only [List.length_map, List.length_drop]; omega : (t'.e.map V.int).length + ((pl.drop t'.b.length).map V.int).length ≤ 200) (by decide)) fun H4 z3 e4 hz3 => ?_
          rw [← List.map_append] at hz3
          refine ⟨.int t'.p, rfl, .int t'.c, rfl, (by show 3 ≤ sizeLine; decide), fun y ny => ?_⟩
          refine q _ (.ref y) ((e13.trans e4).trans (Evl.Ex.new ny)) ?_
          rw [ge]
          exact ⟨y, z3, rfl, upd_same, (Evl.Ex.new ny) _ _ hz3⟩
        · rw [if_neg c] at ge
          refine ite2 (fun hc => absurd (of_decide_eq_true hc) c) (fun _ => q H2 .non e12 (by rw [ge]; exact rfl))
      · have g0 : goneE l T pl (.part n) = none := by
          unfold goneE
          by_cases h0 : 0 ≤ n
          · simp only [if_pos h0]
            rw [List.getElem?_eq_none (by omega)]
          · simp only [if_neg h0]
        refine ite2 (fun hc => ?_) (fun _ => q H1 .non e1 (by rw [g0]; exact rfl))
        rw [Bool.and_eq_true] at hc
        exact absurd ⟨of_decide_eq_true hc.1, by have := of_decide_eq_true hc.2; omega⟩ hn
end
end Wb

set_option Elab.async false
set_option linter.all false
set_option maxRecDepth 100000
set_option maxHeartbeats 8000000
set_option pp.maxSteps 900
set_option pp.deepTerms false
namespace Wb
open PySem PySem.Spec PyProof.Rows L2
abbrev sPrt : Stmt := topS 52
abbrev nPrt : List Str := ["_law_lock_here", "_law_told_here", "_law_part_here", "_law_begin", "_law_end", "_law_entries_here", "_law_here", "_law_price_here", "_law_many", "_law_entry_here", "_law_done"]
theorem scPrt : FnScope nPrt ["_law_lock_here", "_law_told_here", "_law_part_here"] (defScope sPrt) := ⟨rfl, rfl, rfl, by decide +kernel, rfl, by decide +kernel, by decide +kernel⟩
theorem allP_iff {w : Word} {ms : List Int} : allP (w.map PyData.int) ms = true ↔ ∀ (i : Nat) (x m : Int), w[i]? = some x → ms[i]? = some m → 0 ≤ x ∧ x < m := by
  constructor
  · intro h i x m hx hm
    by_cases c : 0 ≤ x ∧ x < m
    · exact c
    · have hb : placeB (.int x) m = false := by
        show (decide (0 ≤ x) && decide (x < m)) = false
        rw [Bool.and_eq_false_iff]
        by_cases c2 : 0 ≤ x
        · exact .inr (decide_eq_false fun z => c ⟨c2, z⟩)
        · exact .inl (decide_eq_false c2)
      have := allP_bad (ds := w.map PyData.int) (ms := ms) (i := i) (d := .int x) (m := m) (by rw [List.getElem?_map, hx]; rfl) hm hb
      rw [this] at h; cases h
  · intro h
    refine allP_all fun i d m hd hm => ?_
    rw [List.getElem?_map] at hd
    cases hx : w[i]? with
    | none => rw [hx] at hd; cases hd
    | some x =>
      rw [hx] at hd
      cases hd
      have := h i x m hx hm
      show (decide (0 ≤ x) && decide (x < m)) = true
      rw [decide_eq_true this.1, decide_eq_true this.2]; rfl
theorem isWord_places {l : Lock} {w : Word} {m : Nat} (hm : m ≤ l.length) : isWordB l w m = placesB (dW w) ((manysOf l).take m) := by
  have ml : (manysOf l).length = l.length := by unfold manysOf; rw [List.length_map]
  rw [Bool.eq_iff_iff]
  unfold isWordB placesB
  have e1 : isTup (dW w) = true := rfl
  have e2 : itemsD (dW w) = w.map PyData.int := rfl
  rw [e1, e2, Bool.true_and, List.length_map, List.length_take, ml, Nat.min_eq_left hm, Bool.and_eq_true, Bool.and_eq_true, allP_iff, List.isEmpty_iff, List.filter_eq_nil_iff]
  refine and_congr_right fun hl => ?_
  have wl : w.length = m := of_decide_eq_true hl
  constructor
  · intro h i x m' hx hm'
    have il : i < m := by have := (List.getElem?_eq_some_iff.mp hx).1; omega
    rw [List.getElem?_take, if_pos il] at hm'
    have := h i (List.mem_range.mpr il)
    unfold badW at this
    rw [hx, hm'] at this
    by_cases c : 0 ≤ x ∧ x ≤ m' - 1
    · omega
    · exfalso
      apply this
      show (!(decide (0 ≤ x) && decide (x ≤ m' - 1))) = true
      rw [Bool.not_eq_true', Bool.and_eq_false_iff]
      by_cases c2 : 0 ≤ x
      · exact .inr (decide_eq_false fun z => c ⟨c2, z⟩)
      · exact .inl (decide_eq_false c2)
  · intro h i hi
    have il := List.mem_range.mp hi
    have hx : w[i]? = some (w[i]'(by omega)) := List.getElem?_eq_getElem (by omega)
    have hm' : (manysOf l)[i]? = some ((manysOf l)[i]'(by omega)) := List.getElem?_eq_getElem (by omega)
    have := h i _ _ hx (by rw [List.getElem?_take, if_pos il]; exact hm')
    unfold badW
    rw [hx, hm']
    show ¬ (!(decide (0 ≤ w[i]) && decide (w[i] ≤ (manysOf l)[i] - 1))) = true
    rw [decide_eq_true this.1, decide_eq_true (by omega)]
    simp
theorem op_powW {X : Cx} : OpR X (binaryOp .Pow) (rI (fun i j => 0 ≤ j ∧ (Builtin.Int.intBits i : Int) * j ≤ 2 ^ 27) fun i j => .int (i ^ j.toNat)) := opI fun _ _ _ _ _ _ _ hc q => pow_int hc.1 hc.2 q
def PartT (K : PySem.W.Frag) (H : Hp) (v : V) (x : Prt) : Option (Int × Int) → Prop
  | none => v = .non
  | some (p, c) => WayAt K H v ⟨x.b, x.e, p, c⟩
def spLPrt (K : PySem.W.Frag) : Sp := fun vs H Q _ => ∃ (v u : V) (tl : Addr) (l : Lock) (T : List Tld) (x : Prt) (tvs : List V), vs = [v, .ref tl, u] ∧ LockAt K H v l ∧ LockOk l ∧ H tl = some (.lst tvs) ∧ Paired (WayAt K H) tvs T ∧ EvenT T ∧ PrtAt K H u x ∧
  ∀ H' r, Evl.Ex H H' → PartT K H' r x (partE l T x) → Q r H'
section
variable {P : Program} {w : World} {K : PySem.W.Frag} {mg : Str → Option Value} {base : Heap}
theorem ok_lprt {f f1 fw fe : Addr} {fd fd1 fdw fde : FuncData} (F : Fun K "_law_part" "_law_part" sPrt f fd) (F1 : Fun K "_law_is_from" "_law_is_from" sFrom f1 fd1) (b1 : Binds K fd1 ["_law_thing", "_law_low", "_law_high"] []) (g1 : mg "_law_is_from" = some (.ref f1))
    (Fw : Fun K "_law_is_word" "_law_is_word" sIsW fw fdw) (bw : Binds K fdw ["_law_lock_here", "_law_thing", "_law_many"] []) (gw : mg "_law_is_word" = some (.ref fw))
    (Fe : Fun K "_law_entry" "_law_entry" sEnt fe fde) (be : Binds K fde ["_law_lock_here", "_law_told_here", "_law_here", "_law_entry_here"] []) (ge : mg "_law_entry" = some (.ref fe)) (B : Bi mg) : FnOk P w K mg base CX0 3 f fd ["_law_lock_here", "_law_told_here", "_law_part_here"] (spLPrt K) := by
  have GW : FnOk P w K mg base CX0 2 fw fdw ["_law_lock_here", "_law_thing", "_law_many"] (spIsW K) := ok_isW Fw F1 b1 g1 B
  have GE : FnOk P w K mg base CX0 2 fe fde ["_law_lock_here", "_law_told_here", "_law_here", "_law_entry_here"] (spEnt K) := ok_ent Fe F1 b1 g1 B
  refine F.ok scPrt (fun vs H Q E h => ?_) (fun cdv A outer s H vs Q E hr h => ?_)
  · obtain ⟨v, u, tl, l, T, x, tvs, rfl, _⟩ := h; rfl
  · obtain ⟨v, u, tl, l, T, x, tvs, rfl, hl, ok, htl, htv, ev, hx, q⟩ := h
    have hr2 : Room 2 _ := hr
    refine ⟨_, (pss_cons (ps_if (PW.pt (pw_or (pt_not (pt_val (pe_callB call_isi (by rfl) B.isi boot_isinstance (pa_cons (pv 2) (pa_cons (pe_bltn (v := .ty "tuple") (by rfl) B.tuple (by decide +kernel) rfl) pa_nil))))) (pw_or (pt_cmpR op_ne (pe_callB call_len_seq (by rfl) B.len PySem.boot_len (pa_cons (pv 2) pa_nil)) pe_int (nomark _)) (pw_or (pt_not (pt_val (pe_callB call_isi (by rfl) B.isi boot_isinstance (pa_cons (pe_ix (r := rIxT K) ix_tup (pv 2) pe_int (fun _ _ => rfl)) (pa_cons (pe_bltn (v := .ty "tuple") (by rfl) B.tuple (by decide +kernel) rfl) pa_nil))))) (pw_or1 (pt_cmpR (op_eqD hr.units) (pe_ix (r := rIxT K) ix_tup (pv 2) pe_int (fun _ _ => rfl)) (pe_tup pa_nil) (nomark _)))))))
 (pss_one (ps_ret pe_non))
 pss_nil)
 (pss_cons (ps_asg (pv 2) (pg_tup rfl (pgs_cons (pg_name (i := 3) scPrt.nd rfl (.inl rfl)) (pgs_cons (pg_name (i := 4) scPrt.nd rfl (.inl rfl)) (pgs_cons (pg_name (i := 5) scPrt.nd rfl (.inl rfl)) pgs_nil)))))
 (pss_cons (ps_if (PW.pt (pw_or (pt_cmpR op_gt (pe_callB call_len_seq (by rfl) B.len PySem.boot_len (pa_cons (pv 3) pa_nil)) (pe_callB call_len_seq (by rfl) B.len PySem.boot_len (pa_cons (pv 0) pa_nil)) (nomark _)) (pw_or (pt_not (pt_val (pe_call GW hr2 (by rfl) gw Fw.kp bw .nil pass0 (pa_cons (pv 0) (pa_cons (pv 3) (pa_cons (pe_callB call_len_seq (by rfl) B.len PySem.boot_len (pa_cons (pv 3) pa_nil)) pa_nil)))))) (pw_or1 (pt_not (pt_val (pe_call GW hr2 (by rfl) gw Fw.kp bw .nil pass0 (pa_cons (pv 0) (pa_cons (pv 4) (pa_cons (pe_callB call_len_seq (by rfl) B.len PySem.boot_len (pa_cons (pv 3) pa_nil)) pa_nil))))))))))
 (pss_one (ps_ret pe_non))
 pss_nil)
 (pss_cons (ps_if (PW.pt (pw_or (pt_not (pt_val (pe_callB call_isi (by rfl) B.isi boot_isinstance (pa_cons (pv 5) (pa_cons (pe_bltn (v := .ty "tuple") (by rfl) B.tuple (by decide +kernel) rfl) pa_nil))))) (pw_or1 (pt_cmpR op_gt (pe_callB call_len_seq (by rfl) B.len PySem.boot_len (pa_cons (pv 5) pa_nil)) pe_int (nomark _)))))
 (pss_one (ps_ret pe_non))
 pss_nil)
 (Evl.pss_cut (ps_par3 (by rfl) scPrt.nd (i := 6) (j := 7) (l := 8) rfl rfl rfl (by decide) (by decide) (by decide) rfl rfl rfl (pa_cons (pv 3) (pa_cons pe_int (pa_cons pe_int pa_nil))) (by rfl))
 (pss_cons (ps_for PassesOwn.never rfl (pi_tup (pv 5)) (pg_name (i := 9) scPrt.nd rfl (.inl rfl))
 (pss_cons (ps_set (i := 10) scPrt.nd rfl (.inl rfl) (pe_call GE hr2 (by rfl) ge Fe.kp be .nil pass0 (pa_cons (pv 0) (pa_cons (pv 1) (pa_cons (pv 6) (pa_cons (pv 9) pa_nil))))))
 (pss_cons (ps_if (pt_cmpR op_isN (pv 10) pe_non (nomark _))
 (pss_one (ps_ret pe_non))
 pss_nil)
 (pss_one (ps_par3 (by rfl) scPrt.nd (i := 6) (j := 7) (l := 8) rfl rfl rfl (by decide) (by decide) (by decide) rfl rfl rfl (pa_cons (pe_ix (r := rIxT K) ix_tup (pv 10) pe_int (fun _ _ => rfl)) (pa_cons (pe_op op_add (pv 7) (pe_ix (r := rIxT K) ix_tup (pv 10) pe_int (fun _ _ => rfl))) (pa_cons (pe_op op_add (pv 8) (pe_ix (r := rIxT K) ix_tup (pv 10) pe_int (fun _ _ => rfl))) pa_nil))) (by rfl))))))
 (pss_one (ps_ret (pe_ifExp (PW.pt (pw_and (pt_cmpR (op_eqD hr.units) (pv 6) (pv 4) (nomark _)) (pw_and1 (pt_cmpR op_le (pv 8) (pe_op op_powW (pe_op op_pow pe_int pe_int) pe_int) (nomark _))))) (pe_tup (pa_cons (pv 3) (pa_cons (pv 4) (pa_cons (pv 7) (pa_cons (pv 8) pa_nil))))) pe_non))))))))), ?_⟩
    obtain ⟨a, c, bv, ev', us, rfl, ha, ⟨ba, rfl, hb⟩, ⟨ea, rfl, he⟩, hc, hus⟩ := hx
    obtain ⟨va, bs, rfl, hva, hbs⟩ := hl
    have bl : bs.length = l.length := Paired.len hbs
    have n60 := ok.n1
    have ul : us.length = x.es.length := Paired.len hus
    have hxs : SqT K H a [.ref ba, .ref ea, .ref c] := SqT.of ha
    refine ⟨.ref a, rfl, .ref a, .ty "tuple", .type "tuple", .type "tuple", true, rfl, .ty _, tyx_tup hxs, kit_ty (by decide +kernel), true, rfl, ?_⟩
    refine iteF ?_
    refine ⟨.ref a, rfl, a, _, rfl, .inr hxs, rfl, _, rfl, ?_⟩
    refine ite2 (fun hc => absurd hc (by simp)) (fun _ => ?_)
    refine ⟨.ref a, rfl, a, _, 0, .ref ba, rfl, rfl, hxs, atI_nat (j := 0) rfl, .ref ba, .ty "tuple", .type "tuple", .type "tuple", true, rfl, .ty _, tyx_tup (SqT.of hb), kit_ty (by decide +kernel), true, rfl, ?_⟩
    refine iteF ?_
    refine ⟨.ref a, rfl, a, _, 0, .ref ba, rfl, rfl, hxs, atI_nat (j := 0) rfl, Nat.zero_le _, fun t nt => ?_⟩
    have e1 := Evl.Ex.new (o := .tup []) nt
    have gt : (upd H t (.tup [])) t = some (.tup (([] : Word).map V.int)) := upd_same
    generalize upd H t (.tup []) = H1 at e1 gt
    refine ⟨dW x.b, dW [], dp_W ⟨ba, rfl, e1 _ _ hb⟩, dp_W ⟨t, rfl, gt⟩, tup_shaped _, tup_shaped _, _, rfl, ?_⟩
    rw [eqv_WW]
    by_cases c0 : x.b = []
    · refine ite2 (fun _ => q H1 .non e1 ?_) (fun hc => absurd (decide_eq_true c0) hc)
      have : partE l T x = none := by unfold partE; rw [if_neg (fun z => by rw [c0] at z; exact absurd z.1 (by simp))]
      rw [this]; exact rfl
    refine ite2 (fun hc => absurd (of_decide_eq_true hc) c0) (fun _ => ?_)
    have b1' : 1 ≤ x.b.length := by
      cases hxb : x.b with
      | nil => exact absurd hxb c0
      | cons _ _ => simp
    refine ⟨.ref a, rfl, a, _, rfl, SqT.of (e1 _ _ ha), rfl, _, _, rfl, _, _, rfl, _, _, rfl, rfl, ?_⟩
    have hb1 := e1 _ _ hb
    have he1 := e1 _ _ he
    have hc1 := e1 _ _ hc
    have hl1 : LockAt K H1 (.ref va) l := ⟨va, bs, rfl, Evl.ex_t e1 hva, Paired.imp (fun _ _ h => BoltAt.mono (TX.ex e1) h) hbs⟩
    refine ⟨.ref ba, rfl, ba, _, rfl, .inr (SqT.of hb1), .ref va, rfl, va, bs, rfl, .inr (Evl.ex_t e1 hva), _, _, rfl, rfl, _, rfl, ?_⟩
    rw [List.length_map, bl]
    have bad : ∀ {Hx : Hp}, Evl.Ex H Hx → ¬ (1 ≤ x.b.length ∧ x.b.length ≤ l.length ∧ x.es.length ≤ 60 ∧ placesB (dW x.b) ((manysOf l).take x.b.length) = true ∧ placesB (dW x.e) ((manysOf l).take x.b.length) = true) → Q .non Hx := fun {Hx} ex hn => q Hx .non ex (by
      have : partE l T x = none := by unfold partE; rw [if_neg hn]
      rw [this]; exact rfl)
    by_cases c1 : x.b.length ≤ l.length
    case neg => exact ite2 (fun _ => bad e1 fun z => c1 z.2.1) (fun hc => absurd (decide_eq_true (by omega)) hc)
    refine ite2 (fun hc => absurd (of_decide_eq_true hc) (by omega)) (fun _ => ?_)
    refine ⟨.ref va, rfl, .ref ba, rfl, .ref ba, rfl, ba, _, rfl, .inr (SqT.of hb1), .ref va, ba, l, x.b, _, rfl, hl1, n60, hb1, by rw [List.length_map]; exact c1, fun H2 e2 => ?_⟩
    rw [List.length_map, isWord_places c1]
    refine ⟨_, rfl, ?_⟩
    by_cases c2 : placesB (dW x.b) ((manysOf l).take x.b.length) = true
    case neg => exact ite2 (fun _ => bad (e1.trans e2) fun z => c2 z.2.2.2.1) (fun hc => absurd (by rw [Bool.not_eq_true'] ; exact Bool.eq_false_iff.mpr c2) hc)
    refine ite2 (fun hc => absurd hc (by rw [c2]; simp)) (fun _ => ?_)
    have e02 := e1.trans e2
    refine ⟨.ref va, rfl, .ref ea, rfl, .ref ba, rfl, ba, _, rfl, .inr (SqT.of (e2 _ _ hb1)), .ref va, ea, l, x.e, _, rfl, hl1.mono (TX.ex e2), n60, e2 _ _ he1, by rw [List.length_map]; exact c1, fun H3 e3 => ?_⟩
    rw [List.length_map, isWord_places c1]
    refine ⟨_, rfl, ?_⟩
    have e03 := e02.trans e3
    by_cases c3 : placesB (dW x.e) ((manysOf l).take x.b.length) = true
    case neg => exact ite2 (fun _ => bad e03 fun z => c3 z.2.2.2.2) (fun hc => absurd (by rw [Bool.not_eq_true'] ; exact Bool.eq_false_iff.mpr c3) hc)
    refine ite2 (fun hc => absurd hc (by rw [c3]; simp)) (fun _ => ?_)
    refine ⟨.ref c, rfl, .ref c, .ty "tuple", .type "tuple", .type "tuple", true, rfl, .ty _, tyx_tup (SqT.of (e03 _ _ hc)), kit_ty (by decide +kernel), true, rfl, ?_⟩
    refine iteF ?_
    refine ⟨.ref c, rfl, c, _, rfl, .inr (SqT.of (e03 _ _ hc)), _, _, rfl, rfl, _, rfl, ?_⟩
    rw [ul]
    by_cases c4 : x.es.length ≤ 60
    case neg => exact ite2 (fun _ => bad e03 fun z => c4 z.2.2.1) (fun hc => absurd (decide_eq_true (by omega)) hc)
    refine ite2 (fun hc => absurd (of_decide_eq_true hc) (by omega)) (fun _ => ?_)
    have good : partE l T x = weightE l T x := by unfold partE; rw [if_pos ⟨b1', c1, c4, c2, c3⟩]
    refine ⟨fun σ H' => σ = [some (.ref va), some (.ref tl), some (.ref a), some (.ref ba), some (.ref ea), some (.ref c), some (.ref ba), some (.int 0), some (.int 0), none, none] ∧ Evl.Ex H H', ?_, ?_⟩
    · refine ⟨.ref ba, rfl, ?_⟩
      exact ⟨_, _, _, rfl, rfl, e03⟩
    rintro _ H4 ⟨rfl, e4⟩
    refine ⟨.ref c, rfl, c, rfl, ⟨us, SqT.of (e4 _ _ hc)⟩, ?_⟩
    refine for_tup (K := K) (a := c) (xs := us) (fun i σ H' => ∃ (pa : Addr) (pl : Word) (p n : Int) (y9 y10 : Option V), σ = [some (.ref va), some (.ref tl), some (.ref a), some (.ref ba), some (.ref ea), some (.ref c), some (.ref pa), some (.int p), some (.int n), y9, y10] ∧ Evl.Ex H H' ∧ H' pa = some (.tup (pl.map V.int)) ∧ pl.length = x.b.length ∧ foldE l T x.b 0 0 (x.es.take i) = some (pl, p, n))
      ⟨ba, x.b, 0, 0, none, none, rfl, e4, e4 _ _ hb, rfl, rfl⟩ ?_ ?_ ?_
    · rintro i σ H' _ ⟨_, _, _, _, _, _, _, e, _⟩
      exact SqT.of (e _ _ hc)
    · rintro i y σ H5 hy ⟨pa, pl, p, n, y9, y10, rfl, e5, hpa, pll, fo⟩
      obtain ⟨en, hen, hat⟩ := Paired.get1 hus hy
      have fs' : foldE l T x.b 0 0 (x.es.take (i + 1)) = (goneE l T pl en).bind fun r => some (r.1, p + r.2.1, n + r.2.2) := by
        rw [take_succ_get hen, fold_app, fo]
        show foldE l T pl p n [en] = _
        rw [foldE]
        cases h : goneE l T pl en with
        | none => rfl
        | some r => obtain ⟨u, q', d⟩ := r; rfl
      have t60 : ∀ t ∈ T, t.b.length ≤ 60 ∧ t.e.length ≤ 60 := fun t ht => by
        have := ev t ht
        omega
      refine ⟨.ref va, rfl, .ref tl, rfl, .ref pa, rfl, y, rfl, .ref va, y, tl, pa, l, T, pl, en, tvs, rfl, ⟨va, bs, rfl, Evl.ex_t e5 hva, Paired.imp (fun _ _ h => BoltAt.mono (TX.ex e5) h) hbs⟩, ok, e5 _ _ htl, Paired.imp (fun _ _ ⟨a, bv, ev, r, h1, h2, h3⟩ => ⟨a, bv, ev, r, e5 _ _ h1, h2.mono (TX.ex e5), h3.mono (TX.ex e5)⟩) htv, hpa, by omega, t60, hat.ex e5, fun H6 r e6 hg => ?_⟩
      have e56 := e5.trans e6
      cases hgo : goneE l T pl en with
      | none =>
        rw [hgo] at hg fs'
        have hr' : r = .non := hg
        subst hr'
        refine ⟨.non, rfl, rfl, _, rfl, ?_⟩
        refine ite2 (fun _ => ?_) (fun hc => absurd (decide_eq_true rfl) hc)
        refine q H6 .non e56 ?_
        have : foldE l T x.b 0 0 x.es = none := by
          rw [← List.take_append_drop (i + 1) x.es, fold_app, fs']
          rfl
        have z : partE l T x = none := by rw [good]; unfold weightE; rw [this]
        rw [z]
        exact rfl
      | some g =>
        obtain ⟨u, gp, gc⟩ := g
        rw [hgo] at hg fs'
        obtain ⟨ga, ua, rfl, hga, hgu⟩ := hg
        refine ⟨.ref ga, rfl, rfl, _, rfl, ?_⟩
        refine ite2 (fun hc => absurd (of_decide_eq_true hc) (fun z => nomatch z)) (fun _ => ?_)
        refine ⟨.ref ga, rfl, ga, _, 0, .ref ua, rfl, rfl, SqT.of hga, atI_nat (j := 0) rfl, ?_⟩
        refine ⟨.int p, rfl, .ref ga, rfl, ga, _, 1, .int gp, rfl, rfl, SqT.of hga, atI_nat (j := 1) rfl, p, gp, rfl, rfl, ?_⟩
        refine ⟨.int n, rfl, .ref ga, rfl, ga, _, 2, .int gc, rfl, rfl, SqT.of hga, atI_nat (j := 2) rfl, n, gc, rfl, rfl, ?_⟩
        exact ⟨_, _, _, rfl, ua, u, p + gp, n + gc, _, _, rfl, e56, hgu, (gone_len ev hgo).trans pll, fs'⟩
    · rintro σ H5 ⟨pa, pl, p, n, y9, y10, rfl, e5, hpa, pll, fo⟩
      rw [ul, List.take_length] at fo
      refine ⟨.ref pa, rfl, .ref ea, rfl, dW pl, dW x.e, dp_W ⟨pa, rfl, hpa⟩, dp_W ⟨ea, rfl, e5 _ _ he⟩, tup_shaped _, tup_shaped _, _, rfl, ?_⟩
      rw [eqv_WW]
      have we : partE l T x = if pl = x.e ∧ n ≤ mostC then some (p, n) else none := by rw [good]; unfold weightE; rw [fo]
      by_cases c5 : pl = x.e
      · refine ite2 (fun _ => ?_) (fun hc => absurd (decide_eq_true c5) hc)
        refine ⟨.int n, rfl, 10, 60, rfl, rfl, ⟨by decide, by decide, by decide⟩, 10 ^ 60, 5, rfl, rfl, ⟨by decide, by decide +kernel⟩, n, _, rfl, rfl, _, rfl, ?_⟩
        refine ite2 (fun hc => ?_) (fun hc => ?_)
        · have c6 : n ≤ mostC := of_decide_eq_true hc
          rw [if_pos ⟨c5, c6⟩] at we
          refine ⟨.ref ba, rfl, .ref ea, rfl, .int p, rfl, .int n, rfl, (by show 4 ≤ sizeLine; decide), fun y ny => ?_⟩
          refine q _ (.ref y) (e5.trans (Evl.Ex.new ny)) ?_
          rw [we]
          exact ⟨y, .ref ba, .ref ea, rfl, upd_same, ⟨ba, rfl, (e5.trans (Evl.Ex.new ny)) _ _ hb⟩, ⟨ea, rfl, (e5.trans (Evl.Ex.new ny)) _ _ he⟩⟩
        · have c6 : ¬ n ≤ mostC := fun z => hc (decide_eq_true z)
          rw [if_neg (fun z => c6 z.2)] at we
          exact q H5 .non e5 (by rw [we]; exact rfl)
      · rw [if_neg (fun z => c5 z.1)] at we
        refine ite2 (fun hc => absurd (of_decide_eq_true hc) c5) (fun _ => ?_)
        exact q H5 .non e5 (by rw [we]; exact rfl)
end
end Wb

set_option Elab.async false
set_option linter.all false
set_option maxRecDepth 100000
set_option maxHeartbeats 8000000
set_option pp.maxSteps 900
set_option pp.deepTerms false
namespace Wb
open PySem PySem.Spec PyProof.Rows L2
abbrev sWgL : Stmt := topS 53
abbrev nWgL : List Str := ["_law_lock_here", "_law_thing", "_law_told_here", "_law_part_here", "_law_one"]
theorem scWgL : FnScope nWgL ["_law_lock_here", "_law_thing"] (defScope sWgL) := ⟨rfl, rfl, rfl, by decide +kernel, rfl, by decide +kernel, by decide +kernel⟩
def TolT (K : PySem.W.Frag) (H : Hp) (v : V) : Nat ⊕ Tld → Prop
  | .inl n => v = .int (n : Nat)
  | .inr t => WayAt K H v t
theorem WayAt.mono {K : PySem.W.Frag} {H H' : Hp} (e : TX K H H') {v : V} {t : Tld} (h : WayAt K H v t) : WayAt K H' v t := by
  obtain ⟨a, bv, ev, r, h1, h2, h3⟩ := h
  exact ⟨a, bv, ev, r, e.2 _ _ h1, h2.mono e, h3.mono e⟩
def spWL (K : PySem.W.Frag) : Sp := fun vs H Q _ => ∃ (v : V) (a : Addr) (l : Lock) (B : List Prt), vs = [v, .ref a] ∧ LockAt K H v l ∧ LockOk l ∧ BookAt K H a B ∧ ∀ H' r, Evl.Ex H H' → TolT K H' r (weighE l B) → Q r H'
section
variable {P : Program} {w : World} {K : PySem.W.Frag} {mg : Str → Option Value} {base : Heap}
theorem ok_wl {f f1 fw fe fp : Addr} {fd fd1 fdw fde fdp : FuncData} (F : Fun K "_law_weighed" "_law_weighed" sWgL f fd) (F1 : Fun K "_law_is_from" "_law_is_from" sFrom f1 fd1) (b1 : Binds K fd1 ["_law_thing", "_law_low", "_law_high"] []) (g1 : mg "_law_is_from" = some (.ref f1))
    (Fw : Fun K "_law_is_word" "_law_is_word" sIsW fw fdw) (bw : Binds K fdw ["_law_lock_here", "_law_thing", "_law_many"] []) (gw : mg "_law_is_word" = some (.ref fw))
    (Fe : Fun K "_law_entry" "_law_entry" sEnt fe fde) (be : Binds K fde ["_law_lock_here", "_law_told_here", "_law_here", "_law_entry_here"] []) (ge : mg "_law_entry" = some (.ref fe))
    (Fp : Fun K "_law_part" "_law_part" sPrt fp fdp) (bp : Binds K fdp ["_law_lock_here", "_law_told_here", "_law_part_here"] []) (gp : mg "_law_part" = some (.ref fp)) (B : Bi mg) : FnOk P w K mg base CX0 4 f fd ["_law_lock_here", "_law_thing"] (spWL K) := by
  have GP : FnOk P w K mg base CX0 3 fp fdp ["_law_lock_here", "_law_told_here", "_law_part_here"] (spLPrt K) := ok_lprt Fp F1 b1 g1 Fw bw gw Fe be ge B
  refine F.ok scWgL (fun vs H Q E h => ?_) (fun cdv A outer s H vs Q E hr h => ?_)
  · obtain ⟨v, a, l, bk, rfl, _⟩ := h; rfl
  · obtain ⟨v, a, l, bk, rfl, hl, ok, ⟨us, ha, hus⟩, q⟩ := h
    refine ⟨_, (pss_cons (ps_if (PW.pt (pw_or (pt_not (pt_val (pe_callB call_isi (by rfl) B.isi boot_isinstance (pa_cons (pv 1) (pa_cons (pe_bltn (v := .ty "tuple") (by rfl) B.tuple (by decide +kernel) rfl) pa_nil))))) (pw_or1 (pt_not (pt_chain op_le op_le pe_int (pe_callB call_len_seq (by rfl) B.len PySem.boot_len (pa_cons (pv 1) pa_nil)) pe_int)))))
 (pss_one (ps_ret pe_int))
 pss_nil)
 (pss_cons (ps_set (i := 2) scWgL.nd rfl (.inl rfl) (pe_lst pa_nil))
 (pss_cons (ps_for PassesOwn.never rfl (pi_tup (pv 1)) (pg_name (i := 3) scWgL.nd rfl (.inl rfl))
 (pss_cons (ps_set (i := 4) scWgL.nd rfl (.inl rfl) (pe_call GP hr (by rfl) gp Fp.kp bp .nil pass0 (pa_cons (pv 0) (pa_cons (pv 2) (pa_cons (pv 3) pa_nil)))))
 (pss_cons (ps_if (pt_cmpR op_isN (pv 4) pe_non (nomark _))
 (pss_one (ps_ret (pe_callB call_len_seq (by rfl) B.len PySem.boot_len (pa_cons (pv 2) pa_nil))))
 pss_nil)
 (pss_one (ps_expr (pe_bm PySem.F.plainAttrs_list PySem.F.slot_list_append PySem.F.type_list_append mt_append (pv 2) (pa_cons (pv 4) pa_nil)))))))
 (pss_one (ps_ret (pe_ifExp (pt_cmpR op_eq (pe_callB call_len_seq (by rfl) B.len PySem.boot_len (pa_cons (pe_ix (r := rIxT K) ix_tup (pe_ix (r := rIxL K) ix_list (pv 2) (pe_un un_neg pe_int) (fun _ _ => rfl)) pe_int (fun _ _ => rfl)) pa_nil)) (pe_callB call_len_seq (by rfl) B.len PySem.boot_len (pa_cons (pv 0) pa_nil)) (nomark _)) (pe_ix (r := rIxL K) ix_list (pv 2) (pe_un un_neg pe_int) (fun _ _ => rfl)) (pe_callB call_len_seq (by rfl) B.len PySem.boot_len (pa_cons (pv 1) pa_nil)))))))), ?_⟩
    have ul : us.length = bk.length := Paired.len hus
    obtain ⟨va, vbs, rfl, hva, hvb⟩ := hl
    have vl : vbs.length = l.length := Paired.len hvb
    have hxs : SqT K H a us := SqT.of ha
    refine ⟨.ref a, rfl, .ref a, .ty "tuple", .type "tuple", .type "tuple", true, rfl, .ty _, tyx_tup hxs, kit_ty (by decide +kernel), true, rfl, ?_⟩
    refine iteF ?_
    refine ⟨.ref a, rfl, a, us, rfl, .inr hxs, 1, _, rfl, rfl, _, rfl, ?_⟩
    rw [ul]
    have out : ¬ (1 ≤ bk.length ∧ bk.length ≤ 30000) → weighE l bk = .inl 0 := fun c0 => by unfold weighE needE; rw [if_neg c0]
    by_cases c1 : (1 : Int) ≤ (bk.length : Nat)
    case neg =>
      rw [if_neg (by rw [decide_eq_false c1]; exact Bool.false_ne_true)]
      refine ⟨_, rfl, ?_⟩
      refine iteT ?_
      refine q H (.int 0) (Evl.Ex.refl H) ?_
      rw [out (fun z => c1 (by omega))]
      exact rfl
    rw [if_pos (decide_eq_true c1)]
    refine ⟨_, 30000, rfl, rfl, _, rfl, ?_⟩
    by_cases c2 : ((bk.length : Nat) : Int) ≤ 30000
    case neg =>
      refine ite2 (fun _ => ?_) (fun hc => absurd (by rw [decide_eq_false c2]; rfl) hc)
      refine q H (.int 0) (Evl.Ex.refl H) ?_
      rw [out (fun z => c2 (by omega))]
      exact rfl
    refine ite2 (fun hc => absurd hc (by rw [decide_eq_true c2]; simp)) (fun _ => ?_)
    have c0 : 1 ≤ bk.length ∧ bk.length ≤ 30000 := ⟨by omega, by omega⟩
    refine ⟨Nat.zero_le _, fun tl ntl => ?_⟩
    have e1 := Evl.Ex.new (o := .lst []) ntl
    have htl1 : (upd H tl (.lst [])) tl = some (.lst []) := upd_same
    generalize upd H tl (.lst []) = H1 at e1 htl1
    refine ⟨.ref a, rfl, a, rfl, ⟨us, SqT.of (e1 _ _ ha)⟩, ?_⟩
    refine for_tup (K := K) (a := a) (xs := us) (fun i σ H' => ∃ (T : List Tld) (tvs : List V) (y3 y4 : Option V), σ = [some (.ref va), some (.ref a), some (.ref tl), y3, y4] ∧ Evl.Ex H H' ∧ H' tl = some (.lst tvs) ∧ Paired (WayAt K H') tvs T ∧ EvenT T ∧ T.length = i ∧ bookE l [] (bk.take i) 0 = .inr T)
      ⟨[], [], none, none, rfl, e1, htl1, .nil, (fun t ht => nomatch ht), rfl, rfl⟩ ?_ ?_ ?_
    · rintro i σ H' _ ⟨_, _, _, _, _, e, _⟩
      exact SqT.of (e _ _ ha)
    · rintro i x σ H2 hx ⟨T, tvs, y3, y4, rfl, e2, htl2, htv, ev, Tl, bo⟩
      obtain ⟨pt, hpt, hpa⟩ := Paired.get1 hus hx
      have il : i < bk.length := (List.getElem?_eq_some_iff.mp hpt).1
      have bs' : bookE l [] (bk.take (i + 1)) 0 = match partE l T pt with
          | some (p, c) => .inr (T ++ [⟨pt.b, pt.e, p, c⟩])
          | none => .inl i := by
        rw [take_succ_get hpt, book_app, bo]
        show bookE l T [pt] (0 + (bk.take i).length) = _
        rw [List.length_take, Nat.min_eq_left (by omega), Nat.zero_add, bookE]
        cases partE l T pt with
        | none => rfl
        | some g => obtain ⟨p, c⟩ := g; rfl
      have tvl : tvs.length = T.length := Paired.len htv
      refine ⟨.ref va, rfl, .ref tl, rfl, x, rfl, .ref va, x, tl, l, T, pt, tvs, rfl, ⟨va, vbs, rfl, Evl.ex_t e2 hva, Paired.imp (fun _ _ h => BoltAt.mono (TX.ex e2) h) hvb⟩, ok, htl2, htv, ev, hpa.ex e2, fun H3 r e3 hr3 => ?_⟩
      have e23 := e2.trans e3
      cases hp : partE l T pt with
      | none =>
        rw [hp] at hr3 bs'
        have hr' : r = .non := hr3
        subst hr'
        refine ⟨.non, rfl, rfl, _, rfl, ?_⟩
        refine ite2 (fun _ => ?_) (fun hc => absurd (decide_eq_true rfl) hc)
        refine ⟨.ref tl, rfl, tl, tvs, rfl, .inl (SqL.of (e3 _ _ htl2)), ?_⟩
        refine q H3 _ e23 ?_
        have h1 : bookE l [] bk 0 = .inl i := by
          rw [← List.take_append_drop (i + 1) bk, book_app, bs']
        have h2 : weighE l bk = .inl i := by
          unfold weighE needE
          rw [if_pos c0, h1]
        rw [h2, tvl, Tl]
        exact rfl
      | some g =>
        obtain ⟨p, c⟩ := g
        rw [hp] at hr3 bs'
        obtain ⟨b1', b2'⟩ := part_conds hp
        have hw : WayAt K H3 r ⟨pt.b, pt.e, p, c⟩ := hr3
        obtain ⟨ra, _, _, rr, _⟩ := id hw
        subst rr
        refine ⟨.ref ra, rfl, rfl, _, rfl, ?_⟩
        refine ite2 (fun hc => absurd (of_decide_eq_true hc) (fun z => nomatch z)) (fun _ => ?_)
        have htl3 := e3 _ _ htl2
        have n60 := ok.n1
        refine ⟨.ref tl, rfl, .inl ⟨rfl, _, SqL.of htl3⟩, .ref ra, rfl, tl, tvs, _, rfl, rfl, htl3, Nat.lt_of_le_of_lt (by omega : tvs.length ≤ 30000) (by decide), ?_⟩
        refine ⟨T ++ [⟨pt.b, pt.e, p, c⟩], tvs ++ [.ref ra], _, _, rfl, e23.mut ntl, upd_same, ?_, ?_, by rw [List.length_append, List.length_singleton, Tl], bs'⟩
        · exact Paired.imp (fun _ _ h => WayAt.mono (TX.put htl3) h) (paired_app1 (Paired.imp (fun _ _ h => WayAt.mono (TX.ex e3) h) htv) hw)
        · intro t ht
          rcases List.mem_append.mp ht with m | m
          · exact ev t m
          · rw [List.mem_singleton.mp m]
            exact ⟨by show pt.b.length ≤ 60; omega, b2'⟩
    · rintro σ H2 ⟨T, tvs, y3, y4, rfl, e2, htl2, htv, ev, Tl, bo⟩
      rw [ul, List.take_length] at bo
      rw [ul] at Tl
      obtain ⟨T0, t, rfl⟩ : ∃ T0 t, T = T0 ++ [t] := by
        rcases List.eq_nil_or_concat T with z | ⟨L, b, z⟩
        · rw [z] at Tl; simp at Tl; omega
        · exact ⟨L, b, by rw [z]; simp⟩
      obtain ⟨tvs0, y0, rfl, hp0, hw⟩ := paired_snoc htv
      obtain ⟨a', bv, ev', rfl, ha', ⟨ba, rfl, hb⟩, he⟩ := id hw
      refine ⟨.ref tl, rfl, 1, rfl, tl, _, -1, _, rfl, rfl, SqL.of htl2, atI_last _ _, ?_⟩
      refine ⟨a', _, 0, .ref ba, rfl, rfl, SqT.of ha', atI_nat (j := 0) rfl, ba, _, rfl, .inr (SqT.of hb), ?_⟩
      refine ⟨.ref va, rfl, va, vbs, rfl, .inr (Evl.ex_t e2 hva), rfl, _, rfl, ?_⟩
      have ne_ : needE l bk = if ((T0 ++ [t]).getLast?.map (fun t => t.b.length)) = some l.length then .inr (T0 ++ [t]) else .inl bk.length := by
        unfold needE
        rw [if_pos c0, bo]
      rw [List.getLast?_concat, Option.map_some] at ne_
      rw [List.length_map, vl]
      by_cases c3 : t.b.length = l.length
      · refine ite2 (fun _ => ?_) (fun hc => absurd (by rw [c3]; exact decide_eq_true rfl) hc)
        rw [if_pos (by rw [c3])] at ne_
        refine ⟨.ref tl, rfl, 1, rfl, tl, _, -1, _, rfl, rfl, SqL.of htl2, atI_last _ _, ?_⟩
        refine q H2 _ e2 ?_
        have : weighE l bk = .inr t := by unfold weighE; rw [ne_]; simp
        rw [this]
        exact hw
      · refine ite2 (fun hc => absurd (of_decide_eq_true hc) fun z => c3 (by have := V.int.inj z; omega)) (fun _ => ?_)
        rw [if_neg (fun z => c3 (Option.some.inj z))] at ne_
        refine ⟨.ref a, rfl, a, us, rfl, .inr (SqT.of (e2 _ _ ha)), ?_⟩
        refine q H2 _ e2 ?_
        have : weighE l bk = .inl bk.length := by unfold weighE; rw [ne_]
        rw [this, ul]
        exact rfl
end
end Wb

set_option Elab.async false
set_option linter.all false
set_option maxRecDepth 100000
set_option maxHeartbeats 8000000
set_option pp.maxSteps 900
set_option pp.deepTerms false
namespace Wb
open PySem PySem.Spec PyProof.Rows L2
abbrev sFul : Stmt := topS 45
abbrev nFul : List Str := ["_law_pen_here", "_law_many", "_law_top", "_law_dear", "_law_k", "_law_counts", "_law_bolts", "_law_bases_here", "_law_words", "_law_gaps_here", "_law_left", "_law_here", "_law_pair", "_law_bag"]
theorem scFul : FnScope nFul ["_law_pen_here", "_law_many", "_law_top", "_law_dear"] (defScope sFul) := ⟨rfl, rfl, rfl, by decide +kernel, rfl, by decide +kernel, by decide +kernel⟩
/-! ### all but what stands at two places is kept -/
def Exy (p g : Addr) (H H' : Hp) : Prop := ∀ a o, a ≠ p → a ≠ g → H a = some o → H' a = some o
section
variable {p g : Addr} {H H1 H' : Hp}
theorem Exy.of (e : Exx p H H') : Exy p g H H' := fun a o n _ h => e a o n h
theorem Exy.ex (e : Evl.Ex H H') : Exy p g H H' := fun a o _ _ h => e a o h
theorem Exy.refl (p g : Addr) (H : Hp) : Exy p g H H := fun _ _ _ _ h => h
theorem Exy.trans (a : Exy p g H H1) (b : Exy p g H1 H') : Exy p g H H' := fun x o n m h => b x o n m (a x o n m h)
theorem Exy.put {o : HO} : Exy p g H (upd H g o) := fun a u _ n h => by rw [upd_ne n]; exact h
theorem Exy.exx (e : Exy p g H1 H') (e0 : Exx p H H1) (n : H g = none) : Exx p H H' := fun a o np h => e a o np (fun z => by rw [z, n] at h; cases h) (e0 a o np h)
theorem Exy.tx {K : PySem.W.Frag} (e : Exy p g H H') (np : ∀ xs, ¬ Rd H p (.tup xs)) (ng : ∀ xs, ¬ Rd H g (.tup xs)) : TX K H H' := by
  refine ⟨fun a xs h => ?_, fun a xs h => e a _ (fun z => np xs (.inl (z ▸ h))) (fun z => ng xs (.inl (z ▸ h))) h⟩
  rcases h with h | h
  · have na : a ≠ p := fun z => np xs (z ▸ h)
    have nb : a ≠ g := fun z => ng xs (z ▸ h)
    rcases h with h | ⟨o, h⟩
    · exact .inl (.inl (e a _ na nb h))
    · exact .inl (.inr ⟨o, e a _ na nb h⟩)
  · exact .inr h
theorem lst_no {l : Addr} {ys : List V} (h : H l = some (.lst ys)) : ∀ xs, ¬ Rd H l (.tup xs) := by
  rintro xs (z | ⟨o, z⟩) <;> (rw [h] at z; cases z)
end
/-! ### gaps to and fro -/
structure DrawnF (wide : Int) (ws : List Word) (gs : List Gap) (left : Int) : Prop where
  each : ∀ g ∈ gs, (0 ≤ g.frm ∧ g.frm < wide) ∧ (0 ≤ g.to_ ∧ g.to_ < wide) ∧ g.frm ≠ g.to_ ∧ (1 ≤ g.price ∧ g.price ≤ 1000000) ∧ g.ways.Pairwise (fun u w => HT.lexLt u w = true) ∧ ∀ w ∈ g.ways, w ∈ ws
  sum : (((gs.map (fun g => g.ways.length)).sum : Nat) : Int) + left = 8 - 2 * (wide - 1) + (gs.length : Nat)
  left0 : 0 ≤ left
def pairsAt (h : Int) : List Word := [[h, h + 1], [h + 1, h]]
def pairsUpto (n : Nat) : List Word := (List.range n).flatMap fun h => pairsAt (h : Nat)
theorem pairsUpto_succ (n : Nat) : pairsUpto (n + 1) = pairsUpto n ++ pairsAt (n : Nat) := by
  unfold pairsUpto
  rw [List.range_succ, List.flatMap_append]
  simp
theorem pairsUpto_len (n : Nat) : (pairsUpto n).length = 2 * n := by
  induction n with
  | zero => rfl
  | succ n ih => rw [pairsUpto_succ, List.length_append, ih]; show 2 * n + 2 = _; omega
theorem pairs_nodup {n : Nat} (h : n ≤ 3) : (pairsUpto n).Nodup := by
  have : n = 0 ∨ n = 1 ∨ n = 2 ∨ n = 3 := by omega
  rcases this with rfl | rfl | rfl | rfl <;> decide
def spFull (K : PySem.W.Frag) : Sp := fun vs H Q _ => ∃ (p c : Addr) (many dear T : Int), vs = [.ref p, .int many, .int 4, .int dear] ∧ PenAt H p c T ∧ T ≤ 7000000 ∧ 1 ≤ many ∧ many ≤ 60 ∧ 1 ≤ dear ∧ dear ≤ 1000000 ∧
  ∀ H' v l, Exx p H H' → PenAt H' p c (T + 160000) → LockAt K H' v l → LockOk l → (l.length : Int) = many → Q v H'
section
variable {P : Program} {w : World} {K : PySem.W.Frag} {mg : Str → Option Value} {base : Heap}
theorem ok_full {f f1 f2 f3 f4 f5 f6 : Addr} {fd fd1 fd2 fd3 fd4 fd5 fd6 : FuncData} (F : Fun K "_law_full" "_law_full" sFul f fd) (F1 : Fun K "_law_draw" "_law_draw" sDraw f1 fd1) (b1 : Binds K fd1 ["_law_pen_here", "_law_many"] []) (g1 : mg "_law_draw" = some (.ref f1))
    (F2 : Fun K "_law_pick" "_law_pick" sPick f2 fd2) (b2 : Binds K fd2 ["_law_pen_here", "_law_bag"] []) (g2 : mg "_law_pick" = some (.ref f2))
    (F3 : Fun K "_law_shuffled" "_law_shuffled" sShuf f3 fd3) (b3 : Binds K fd3 ["_law_pen_here", "_law_bag"] []) (g3 : mg "_law_shuffled" = some (.ref f3))
    (F4 : Fun K "_law_price" "_law_price" sPrc f4 fd4) (b4 : Binds K fd4 ["_law_pen_here", "_law_dear"] []) (g4 : mg "_law_price" = some (.ref f4))
    (F5 : Fun K "_law_bases" "_law_bases" sBases f5 fd5) (b5 : Binds K fd5 ["_law_pen_here", "_law_counts", "_law_most"] []) (g5 : mg "_law_bases" = some (.ref f5))
    (F6 : Fun K "_law_cuts" "_law_cuts" sCuts f6 fd6) (b6 : Binds K fd6 ["_law_words", "_law_many"] []) (g6 : mg "_law_cuts" = some (.ref f6)) (mn : mg "min" = none) (B : Bi mg) :
    FnOk P w K mg base CX0 4 f fd ["_law_pen_here", "_law_many", "_law_top", "_law_dear"] (spFull K) := by
  have G1 : FnOk P w K mg base CX0 1 f1 fd1 ["_law_pen_here", "_law_many"] spDraw := ok_draw F1 B
  have G3 : FnOk P w K mg base CX0 2 f3 fd3 ["_law_pen_here", "_law_bag"] (spShuf K) := ok_shuf F3 F1 b1 g1 B
  have G4 : FnOk P w K mg base CX0 3 f4 fd4 ["_law_pen_here", "_law_dear"] spPrc := ok_prc F4 F1 b1 g1 F2 b2 g2 B
  have G5 : FnOk P w K mg base CX0 2 f5 fd5 ["_law_pen_here", "_law_counts", "_law_most"] (spBases K) := ok_bases F5 F1 b1 g1 B
  have G6 : FnOk P w K mg base CX0 1 f6 fd6 ["_law_words", "_law_many"] (spCuts K) := ok_cuts F6
  refine F.ok scFul (fun vs H Q E h => ?_) (fun cdv A outer s H vs Q E hr h => ?_)
  · obtain ⟨p, c, many, dear, T, rfl, _⟩ := h; rfl
  · obtain ⟨p, c, many, dear, T, rfl, hp, T8, m1, m60, dd1, dd2, q⟩ := h
    have hr1 : Room 1 _ := hr.mono (by decide)
    have hr2 : Room 2 _ := hr.mono (by decide)
    refine ⟨_, (pss_cons (ps_par (by rfl) scFul.nd (i := 5) (j := 6) rfl rfl (by decide) rfl rfl (pa_cons (pe_lc (own := [("_law_k", 4)]) (g := gName 4) rfl scFul.nd (pi_range1 (by rfl) B.range (pa_cons (pv 1) pa_nil)) (blkOk_by (own := [("_law_k", 4)]) (N := nFul) (sc := defScope sFul) (by decide +kernel)) (fun _ _ _ _ _ => (pg_name (i := 4) scFul.nd rfl (.inl rfl))) (fun _ _ _ _ _ => pts_nil) (fun _ _ _ _ _ => (pe_op op_add pe_int (pe_call G1 hr1 (by rfl) g1 F1.kp b1 .nil pass0 (pa_cons (pv 0) (pa_cons (pe_op op_sub (pv 2) pe_int) pa_nil)))))) (pa_cons (pe_lst pa_nil) pa_nil)) (by rfl))
 (pss_cons (ps_set (i := 7) scFul.nd rfl (.inl rfl) (pe_call G5 hr2 (by rfl) g5 F5.kp b5 .nil pass0 (pa_cons (pv 0) (pa_cons (pv 5) (pa_cons pe_int pa_nil)))))
 (pss_cons (ps_for PassesOwn.never rfl (pi_range1 (by rfl) B.range (pa_cons (pv 1) pa_nil)) (pg_name (i := 4) scFul.nd rfl (.inl rfl))
 (pss_cons (ps_par3 (by rfl) scFul.nd (i := 8) (j := 9) (l := 10) rfl rfl rfl (by decide) (by decide) (by decide) rfl rfl rfl (pa_cons (pe_call G6 hr1 (by rfl) g6 F6.kp b6 .nil pass0 (pa_cons (pv 7) (pa_cons (pv 4) pa_nil))) (pa_cons (pe_lst pa_nil) (pa_cons (pe_op op_sub pe_int (pe_op op_mul pe_int (pe_op op_sub (pe_ix ix_list (pv 5) (pv 4) (fun _ _ => rfl)) pe_int))) pa_nil))) (by rfl))
 (pss_cons (ps_for PassesOwn.never rfl (pi_range1 (by rfl) B.range (pa_cons (pe_op op_sub (pe_ix ix_list (pv 5) (pv 4) (fun _ _ => rfl)) pe_int) pa_nil)) (pg_name (i := 11) scFul.nd rfl (.inl rfl))
 (pss_one (ps_for PassesOwn.never rfl (pi_list (pe_lst (pa_cons (pe_tup (pa_cons (pv 11) (pa_cons (pe_op op_add (pv 11) pe_int) pa_nil))) (pa_cons (pe_tup (pa_cons (pe_op op_add (pv 11) pe_int) (pa_cons (pv 11) pa_nil))) pa_nil)))) (pg_name (i := 12) scFul.nd rfl (.inl rfl))
 (pss_cons (ps_set (i := 13) scFul.nd rfl (.inl rfl) (pe_slice sl_list (pe_call G3 hr2 (by rfl) g3 F3.kp b3 .nil pass0 (pa_cons (pv 0) (pa_cons (pv 8) pa_nil))) po_none (po_some (pe_op op_add pe_int (pe_callB (call_min2 rfl) (by rfl) mn boot_min (pa_cons (pv 10) (pa_cons (pe_op op_fdiv (pe_call G1 hr1 (by rfl) g1 F1.kp b1 .nil pass0 (pa_cons (pv 0) (pa_cons pe_int pa_nil))) pe_int) pa_nil)))))))
 (pss_cons (ps_set (i := 10) scFul.nd rfl (.inl rfl) (pe_op op_add (pe_op op_sub (pv 10) (pe_callB call_len_seq (by rfl) B.len PySem.boot_len (pa_cons (pv 13) pa_nil))) pe_int))
 (pss_one (ps_expr (pe_bm PySem.F.plainAttrs_list PySem.F.slot_list_append PySem.F.type_list_append mt_append (pv 9) (pa_cons (pe_op (r := rCatA K) op_catA (pv 12) (pe_tup (pa_cons (pe_call G4 hr (by rfl) g4 F4.kp b4 .nil pass0 (pa_cons (pv 0) (pa_cons (pv 3) pa_nil))) (pa_cons (pe_callTy call_tuple_of (by rfl) B.tuple PyProof.Rows.boot_tuple (pa_cons (pe_callB cr_sortW (by rfl) B.sorted boot_sorted (pa_cons (pv 13) pa_nil)) pa_nil)) pa_nil)))) pa_nil)))))))))
 (pss_one (ps_expr (pe_bm PySem.F.plainAttrs_list PySem.F.slot_list_append PySem.F.type_list_append mt_append (pv 6) (pa_cons (pe_tup (pa_cons (pe_ix ix_list (pv 5) (pv 4) (fun _ _ => rfl)) (pa_cons (pe_callTy call_tuple_of (by rfl) B.tuple PyProof.Rows.boot_tuple (pa_cons (pe_callB cr_sortG (by rfl) B.sorted boot_sorted (pa_cons (pv 9) pa_nil)) pa_nil)) pa_nil))) pa_nil)))))))
 (pss_one (ps_ret (pe_callTy (r := rTupK K) call_tupK (by rfl) B.tuple PyProof.Rows.boot_tuple (pa_cons (pv 6) pa_nil))))))), ?_⟩
    refine ⟨.int many, rfl, many, rfl, by omega, by omega, fun W nW => ?_⟩
    have nWp : W ≠ p := hp.new1 nW
    have nWc : W ≠ c := hp.new2 nW
    refine lc_range (lo := 0) (n := many.toNat) (fun i H' => ∃ wds : List Int, Exx p H H' ∧ PenAt H' p c (T + (i : Nat)) ∧ H' W = some (.lst (wds.map V.int)) ∧ wds.length = i ∧ ∀ x ∈ wds, 2 ≤ x ∧ x ≤ 4) ⟨[], Exx.ex (Evl.Ex.new nW), ?_, upd_same, rfl, fun x hx => (by cases hx)⟩ ?_ ?_
    · have := hp.put (o := .lst []) nWp nWc
      simpa using this
    · rintro i H1 hi ⟨wds, x1, hp1, hW1, wl, hw⟩
      refine ⟨rfl, ?_⟩
      refine ⟨.ref p, rfl, .int 4, rfl, 4, 1, rfl, rfl, p, c, _, _, rfl, hp1, (by decide : (1 : Int) ≤ 4 - 1), (by decide : (4 : Int) - 1 ≤ 1000000), by omega, fun r H2 r0 r1 x2 hp2 => ?_⟩
      refine ⟨2, r, rfl, rfl, _, x2 _ _ nWp hW1, Nat.lt_of_le_of_lt (by rw [List.length_map, wl]; omega : (wds.map V.int).length ≤ 60) (by decide), wds ++ [2 + r], (x1.trans x2).mut nW, (hp2.put nWp nWc).mono (by omega), by rw [upd_same, List.map_append]; rfl, by rw [List.length_append, wl]; rfl, ?_⟩
      intro x hx
      rcases List.mem_append.mp hx with h | h
      · exact hw x h
      · have : x = 2 + r := by simpa using h
        omega
    · rintro H1 ⟨wds, x1, hp1, hW1, wl, hw⟩
      refine ⟨Nat.zero_le _, fun bl nbl => ?_⟩
      have nblp : bl ≠ p := hp1.new1 nbl
      have nblc : bl ≠ c := hp1.new2 nbl
      have nblW : bl ≠ W := fun z => by rw [z, hW1] at nbl; cases nbl
      have e2 := Evl.Ex.new (o := .lst []) nbl
      have hbl2 : (upd H1 bl (.lst [])) bl = some (.lst []) := upd_same
      generalize upd H1 bl (.lst []) = H3 at e2 hbl2
      refine ⟨.ref W, .ref bl, rfl, ?_⟩
      have hW3 : H3 W = some (.lst (wds.map V.int)) := e2 _ _ hW1
      have hp3 := hp1.ex e2
      have x3 : Exx p H H3 := x1.trans (Exx.ex e2)
      have nbl0 : H bl = none := fresh_exx x1 hp1.here nbl
      have wlen : (wds.length : Int) = many := by omega
      have wds60 : wds.length ≤ 60 := by omega
      have hw1 : ∀ x ∈ wds, 1 ≤ x ∧ x ≤ 1000000 := fun x hx => by have := hw x hx; omega
      refine ⟨.ref p, rfl, .ref W, rfl, p, c, W, 3, _, wds, rfl, hp3, by omega, hW3, nWp, by decide, by decide, wds60, (fun x hx => by have := hw x hx; omega), fun H4 bs bvs bases x4 hp4 nbs hbs hbv bl3 hb => ?_⟩
      have nbsp : bs ≠ p := hp3.new1 nbs
      have nbsbl : bs ≠ bl := fun z => by rw [z, hbl2] at nbs; cases nbs
      have nbsW : bs ≠ W := fun z => by rw [z, hW3] at nbs; cases nbs
      have hW4 := x4 _ _ nWp hW3
      have hbl4 := x4 _ _ nblp hbl2
      have smb : SmallW bases := fun u hu => by
        obtain ⟨a, b⟩ := small_in (hb u hu) wds60 hw
        exact ⟨a, fun x hx => by have := b x hx; omega⟩
      -- the bolts
      refine ⟨.int many, rfl, many, rfl, by omega, by omega, ?_⟩
      refine for_range (lo := 0) (n := many.toNat) (fun k σ H' => ∃ (lvs : List V) (l : Lock) (y4 y8 y9 y10 y11 y12 y13 : Option V), σ = [some (.ref p), some (.int many), some (.int 4), some (.int dear), y4, some (.ref W), some (.ref bl), some (.ref bs), y8, y9, y10, y11, y12, y13] ∧
          Exx p H H' ∧ PenAt H' p c (T + 300 + 1000 * (k : Nat)) ∧ H' W = some (.lst (wds.map V.int)) ∧ H' bs = some (.lst bvs) ∧ Paired (Wd K H') bvs bases ∧ H' bl = some (.lst lvs) ∧ Paired (BoltAt K H') lvs l ∧ l.length = k ∧
          ∀ j b, l[j]? = some b → BGood wds bases j b)
        ⟨[], [], _, _, _, _, _, _, _, rfl, x3.trans x4, hp4.mono (by omega), hW4, hbs, hbv, hbl4, .nil, rfl, fun j b h => by simp at h⟩ ?_ ?_
      · rintro k σ H6 hk ⟨lvs, l, y4, y8, y9, y10, y11, y12, y13, rfl, x6, hp6, hW6, hbs6, hbv6, hbl6, hlv6, ll, hgood⟩
        have ek : (0 : Int) + (k : Nat) = ((k : Nat) : Int) := by omega
        rw [ek]
        have kl : k < wds.length := by omega
        obtain ⟨wd, hwd⟩ : ∃ wd, wds[k]? = some wd := ⟨wds[k], List.getElem?_eq_getElem kl⟩
        have hwd2 := hw wd (List.mem_of_getElem? hwd)
        have wk4 : ∀ x ∈ wds.take k, 2 ≤ x ∧ x ≤ 4 := fun x hx => hw x (List.mem_of_mem_take hx)
        refine ⟨.ref bs, rfl, .int (k : Nat), rfl, bs, k, bvs, bases, rfl, SqL.of hbs6, hbv6, smb, by omega, fun H7 wlA wv us e7 nwl hwl7 hwv7 und hus ulen => ?_⟩
        have hp7 := hp6.ex e7
        have nwlp : wlA ≠ p := hp6.new1 nwl
        have w0 : ∀ u ∈ us, InAll u (wds.take k) ∧ ∃ s ∈ bases, u = s.take k := fun u hu => by
          obtain ⟨b0, hb0, rfl⟩ := hus u hu
          exact ⟨inAll_take (hb b0 hb0) k, b0, hb0, rfl⟩
        have bd : ∀ u ∈ us, u.length = k ∧ TS.Bd 4 u := fun u hu => by
          obtain ⟨h1, _⟩ := w0 u hu
          obtain ⟨_, b⟩ := small_in h1 (by rw [List.length_take]; omega) wk4
          have := h1.1
          rw [List.length_take] at this
          exact ⟨by omega, b⟩
        have smu : SmallW us := fun u hu => by
          obtain ⟨h1, h2⟩ := bd u hu
          exact ⟨by omega, fun x hx => by have := h2 x hx; omega⟩
        have wvl : wv.length = us.length := Paired.len hwv7
        refine ⟨Nat.zero_le _, fun gl ngl => ?_⟩
        have nglp : gl ≠ p := hp7.new1 ngl
        have nglc : gl ≠ c := hp7.new2 ngl
        have nglwl : wlA ≠ gl := fun z => by rw [← z, hwl7] at ngl; cases ngl
        have ngl6 : H6 gl = none := Evl.fresh_back e7 ngl
        have ngl0 : H gl = none := fresh_exx x6 hp6.here ngl6
        have e8 := Evl.Ex.new (o := .lst []) ngl
        have hgl8 : (upd H7 gl (.lst [])) gl = some (.lst []) := upd_same
        have hp8 := hp7.ex e8
        generalize upd H7 gl (.lst []) = H8 at e8 hgl8 hp8
        have e68 := e7.trans e8
        have hW8 := e68 _ _ hW6
        have nWgl : W ≠ gl := fun z => by rw [← z, hW6] at ngl6; cases ngl6
        refine ⟨.ref W, rfl, .int (k : Nat), rfl, W, _, (k : Nat), .int wd, rfl, rfl, .inl (.inl hW8), atI_nat (map_int_get hwd), wd, 1, rfl, rfl, 2, wd - 1, rfl, rfl, .inl ⟨by decide, by decide⟩, 8, _, rfl, rfl, ?_⟩
        refine ⟨.ref wlA, .ref gl, .int (8 - 2 * (wd - 1)), rfl, ?_⟩
        have hwl8 := e8 _ _ hwl7
        have hwv8 : Paired (Wd K H8) wv us := Paired.imp (fun _ _ => wd_ex e8) hwv7
        have tx8 : ∀ {Hx : Hp}, Exy p gl H8 Hx → TX K H8 Hx := fun e => e.tx hp8.no (lst_no hgl8)
        refine ⟨.ref W, rfl, .int (k : Nat), rfl, W, _, (k : Nat), .int wd, rfl, rfl, .inl (.inl hW8), atI_nat (map_int_get hwd), wd, 1, rfl, rfl, wd - 1, rfl, by omega, by omega, ?_⟩
        refine for_range (lo := 0) (n := (wd - 1).toNat) (fun i σ H' => ∃ (gvs : List V) (gs : List Gap) (left : Int) (y11 y12 y13 : Option V), σ = [some (.ref p), some (.int many), some (.int 4), some (.int dear), some (.int (k : Nat)), some (.ref W), some (.ref bl), some (.ref bs), some (.ref wlA), some (.ref gl), some (.int left), y11, y12, y13] ∧
            Exy p gl H8 H' ∧ PenAt H' p c (T + 300 + 1000 * (k : Nat) + 200 * (i : Nat)) ∧ H' gl = some (.lst gvs) ∧ Paired (GF K H') gvs gs ∧ DrawnF wd us gs left ∧ gs.map gKey = pairsUpto i)
          ⟨[], [], _, _, _, _, rfl, Exy.refl p gl H8, hp8.mono (by omega), hgl8, .nil, ⟨fun g hg => (by cases hg), by simp, by omega⟩, rfl⟩ ?_ ?_
        · rintro i σ H9 hi ⟨gvs, gs, left, y11, y12, y13, rfl, x9, hp9, hgl9, hgv9, hd9, hk9⟩
          have ei : (0 : Int) + (i : Nat) = (i : Int) := by omega
          rw [ei]
          refine ⟨.int (i : Nat), rfl, .int (i : Nat), rfl, (i : Nat), 1, rfl, rfl, (by show 2 ≤ sizeLine; decide), fun t1 nt1 => ?_⟩
          have f1 := Evl.Ex.new (o := .tup [.int (i : Nat), .int ((i : Nat) + 1)]) nt1
          have k1 : (upd H9 t1 (.tup [.int (i : Nat), .int ((i : Nat) + 1)])) t1 = some (.tup ([((i : Nat) : Int), (i : Nat) + 1].map V.int)) := upd_same
          generalize upd H9 t1 (.tup [.int (i : Nat), .int ((i : Nat) + 1)]) = Ha at f1 k1
          refine ⟨.int (i : Nat), rfl, (i : Nat), 1, rfl, rfl, .int (i : Nat), rfl, (by show 2 ≤ sizeLine; decide), fun t2 nt2 => ?_⟩
          have f2 := Evl.Ex.new (o := .tup [.int ((i : Nat) + 1), .int (i : Nat)]) nt2
          have k2 : (upd Ha t2 (.tup [.int ((i : Nat) + 1), .int (i : Nat)])) t2 = some (.tup ([((i : Nat) : Int) + 1, (i : Nat)].map V.int)) := upd_same
          generalize upd Ha t2 (.tup [.int ((i : Nat) + 1), .int (i : Nat)]) = Hb at f2 k2
          refine ⟨(by show 2 ≤ sizeLine; decide), fun L nL => ?_⟩
          have f3 := Evl.Ex.new (o := .lst [.ref t1, .ref t2]) nL
          have hL : (upd Hb L (.lst [.ref t1, .ref t2])) L = some (.lst [.ref t1, .ref t2]) := upd_same
          have f13 := f1.trans (f2.trans f3)
          have hpL := hp9.ex f13
          have nLp : L ≠ p := (hp9.ex (f1.trans f2)).new1 nL
          have nLgl : L ≠ gl := fun z => by rw [z, (f1.trans f2) _ _ hgl9] at nL; cases nL
          generalize upd Hb L (.lst [.ref t1, .ref t2]) = Hl at f3 hL f13 hpL
          have hgl10 := f13 _ _ hgl9
          have prs : Paired (Wd K Hl) [.ref t1, .ref t2] (pairsAt (i : Nat)) := .cons ⟨t1, rfl, (f2.trans f3) _ _ k1⟩ (.cons ⟨t2, rfl, f3 _ _ k2⟩ .nil)
          have x8l : Exy p gl H8 Hl := x9.trans (Exy.ex f13)
          have txl : ∀ {Hx : Hp}, Exy p gl Hl Hx → TX K Hl Hx := fun e => e.tx hpL.no (lst_no hgl10)
          refine ⟨L, rfl, ⟨_, SqL.of hL⟩, ?_⟩
          refine for_list (K := K) (a := L) (xs := [.ref t1, .ref t2]) (fun j σ H' => ∃ (gvs : List V) (gs : List Gap) (left : Int) (y12 y13 : Option V), σ = [some (.ref p), some (.int many), some (.int 4), some (.int dear), some (.int (k : Nat)), some (.ref W), some (.ref bl), some (.ref bs), some (.ref wlA), some (.ref gl), some (.int left), some (.int (i : Nat)), y12, y13] ∧
              Exy p gl Hl H' ∧ PenAt H' p c (T + 300 + 1000 * (k : Nat) + 200 * (i : Nat) + 100 * (j : Nat)) ∧ H' gl = some (.lst gvs) ∧ Paired (GF K H') gvs gs ∧ DrawnF wd us gs left ∧ gs.map gKey = pairsUpto i ++ (pairsAt (i : Nat)).take j)
            ⟨gvs, gs, left, _, _, rfl, Exy.refl p gl Hl, hpL.mono (by omega), hgl10, Paired.imp (fun _ _ => GF.mono (TX.ex f13)) hgv9, hd9, by rw [List.take_zero, List.append_nil]; exact hk9⟩ ?_ ?_ ?_
          · rintro j σ H' _ ⟨_, _, _, _, _, _, e, _⟩
            exact SqL.of (e _ _ nLp nLgl hL)
          · rintro j x σ Hc hx ⟨gvs, gs, left, y12, y13, rfl, xc, hpc, hglc, hgvc, hdc, hkc⟩
            obtain ⟨u, hu, ⟨tp, rfl, htp⟩⟩ := Paired.get1 prs hx
            have jl : j < 2 := (List.getElem?_eq_some_iff.mp hx).1
            obtain ⟨fa, fb, rfl, fa0, fa1, fb0, fb1, fne⟩ : ∃ a b : Int, u = [a, b] ∧ 0 ≤ a ∧ a < wd ∧ 0 ≤ b ∧ b < wd ∧ a ≠ b := by
              have hm := List.mem_of_getElem? hu
              unfold pairsAt at hm
              simp only [List.mem_cons, List.not_mem_nil, or_false] at hm
              rcases hm with rfl | rfl
              · exact ⟨_, _, rfl, by omega, by omega, by omega, by omega, by omega⟩
              · exact ⟨_, _, rfl, by omega, by omega, by omega, by omega, by omega⟩
            have nwpl : wlA ≠ p := nwlp
            have tx8c : TX K H8 Hc := tx8 (x8l.trans xc)
            have hwlc : Hc wlA = some (.lst wv) := (x8l.trans xc) _ _ nwlp nglwl hwl8
            have hwvc : Paired (Wd K Hc) wv us := Paired.imp (fun _ _ => Wd.mono tx8c) hwv8
            have htpc : Hc tp = some (.tup [.int fa, .int fb]) := (txl xc).2 _ _ htp
            have left0 := hdc.left0
            have gvl : gvs.length = gs.length := Paired.len hgvc
            have gsl : gs.length ≤ 2 * i + 2 := by
              have := congrArg List.length hkc
              rw [List.length_map, List.length_append, pairsUpto_len, List.length_take] at this
              omega
            refine ⟨.ref p, rfl, .ref wlA, rfl, p, c, wlA, _, wv, us, rfl, hpc, by omega, SqL.of hwlc, hwvc, smu, by omega, fun Hd z8 bv bu xd hpd nz8 hz8 hbv bpm => ?_⟩
            have nz8p : z8 ≠ p := hpc.new1 nz8
            have bvl : bv.length = bu.length := Paired.len hbv
            have bul : bu.length = us.length := bpm.length_eq
            have bnd : bu.Nodup := bpm.nodup_iff.mpr und
            refine ⟨.int left, rfl, .ref p, rfl, p, c, 3, _, rfl, hpd, by decide, by decide, by omega, fun r He r0 r1 xe hpe => ?_⟩
            refine ⟨r, 2, rfl, rfl, ⟨by decide, by decide⟩, left, r / 2, rfl, 1, _, rfl, rfl, ?_⟩
            obtain ⟨m, hm, mle⟩ : ∃ m : Nat, 1 + (if r / 2 < left then r / 2 else left) = (m : Int) ∧ (m : Int) ≤ 1 + left := by
              by_cases cc : r / 2 < left
              · rw [if_pos cc]
                exact ⟨(1 + r / 2).toNat, by omega, by omega⟩
              · rw [if_neg cc]
                exact ⟨(1 + left).toNat, by omega, by omega⟩
            have hz8e := xe _ _ nz8p hz8
            refine ⟨(m : Nat), congrArg V.int hm, z8, bv, rfl, SqL.of hz8e, fun S nS => ?_⟩
            rw [cut_take]
            have e11 := Evl.Ex.new (o := .lst (bv.take m)) nS
            have gS : (upd He S (.lst (bv.take m))) S = some (.lst (bv.take m)) := upd_same
            have hp11 := hpe.ex e11
            have nSp : S ≠ p := hpe.new1 nS
            generalize upd He S (.lst (bv.take m)) = H11 at e11 gS hp11
            have xce : Exx p Hc He := xd.trans xe
            have hbt : Paired (Wd K H11) (bv.take m) (bu.take m) := Paired.takeN m (Paired.imp (fun _ _ => wd_ex e11) (Paired.imp (fun _ _ => Wd.mono (hpd.tx xe)) hbv))
            have sbt : ∀ w ∈ bu.take m, w ∈ us := fun w hw => bpm.mem_iff.mp (List.mem_of_mem_take hw)
            have tnd : (bu.take m).Nodup := (List.take_sublist m bu).nodup bnd
            have tl : (bv.take m).length ≤ m := by rw [List.length_take]; exact Nat.min_le_left _ _
            have u3 : us.length ≤ 3 := by omega
            have tl8 : (bv.take m).length ≤ 8 := by rw [List.length_take]; omega
            refine ⟨.int left, rfl, .ref S, rfl, S, _, rfl, .inl (SqL.of gS), left, _, rfl, rfl, _, 1, rfl, rfl, ?_⟩
            have xc11 : Exx p Hc H11 := xce.trans (Exx.ex e11)
            have hgl11 := xc11 _ _ nglp hglc
            refine ⟨.ref gl, rfl, .inl ⟨rfl, _, SqL.of hgl11⟩, .ref tp, rfl, ?_⟩
            refine ⟨.ref p, rfl, .int dear, rfl, p, c, dear, _, rfl, hp11, by omega, dd1, dd2, fun pr H12 pr1 pr2 x12 hp12 => ?_⟩
            have gS12 := x12 _ _ nSp gS
            have hbt12 : Paired (Wd K H12) (bv.take m) (bu.take m) := Paired.imp (fun _ _ => Wd.mono (hp11.tx x12)) hbt
            refine ⟨.ref S, rfl, S, bv.take m, bu.take m, k, rfl, SqL.of gS12, by omega, hbt12, fun w hw => bd w (sbt w hw), tnd, fun ov ou O ol hov opm opw nO => ?_⟩
            have e13 := Evl.Ex.new (o := .lst ov) nO
            have gO : (upd H12 O (.lst ov)) O = some (.lst ov) := upd_same
            generalize upd H12 O (.lst ov) = H13 at e13 gO
            refine ⟨O, ov, rfl, .inl ⟨.inl (.inl gO), fun Wt nWt => ?_⟩⟩
            have e14 := Evl.Ex.new (o := .tup ov) nWt
            have gW : (upd H13 Wt (.tup ov)) Wt = some (.tup ov) := upd_same
            generalize upd H13 Wt (.tup ov) = H14 at e14 gW
            refine ⟨(by show 2 ≤ sizeLine; decide), fun G0 nG0 => ?_⟩
            have e15 := Evl.Ex.new (o := .tup [.int pr, .ref Wt]) nG0
            have gG0 : (upd H14 G0 (.tup [.int pr, .ref Wt])) G0 = some (.tup [.int pr, .ref Wt]) := upd_same
            generalize upd H14 G0 (.tup [.int pr, .ref Wt]) = H15 at e15 gG0
            have x1115 : Exx p H11 H15 := x12.trans (Exx.ex (e13.trans (e14.trans e15)))
            have xc15 : Exx p Hc H15 := xc11.trans x1115
            refine cat_own (K := K) ((hpc.tx (K := K) xc15).2 _ _ htpc) gG0 (by show 4 ≤ sizeLine; decide) fun H16 G e16 gG => ?_
            have xc16 : Exx p Hc H16 := xc15.trans (Exx.ex e16)
            have hgl16 := xc16 _ _ nglp hglc
            have hp16 := ((hp12.ex (e13.trans (e14.trans e15)))).ex e16
            refine ⟨gl, gvs, _, rfl, rfl, hgl16, Nat.lt_of_le_of_lt (by omega : gvs.length ≤ 16) (by decide), ?_⟩
            let g : Gap := ⟨fa, fb, pr, ou⟩
            have hov16 : Paired (Wd K H16) ov ou := Paired.imp (fun _ _ => wd_ex (e13.trans (e14.trans (e15.trans e16)))) hov
            have ovl : ov.length = ou.length := Paired.len hov16
            have oul : ou.length = (bv.take m).length := by rw [opm.length_eq, List.length_take, List.length_take, bvl]
            have gAt : GF K H16 (.ref G) g := ⟨⟨G, Wt, ov, rfl, .inl (.inl gG), .inl (.inl ((e15.trans e16) _ _ gW)), hov16⟩, G, pr, .ref Wt, rfl, gG⟩
            have txp : TX K H16 (upd H16 gl (.lst (gvs ++ [.ref G]))) := TX.put hgl16
            have hsum := hdc.sum
            refine ⟨gvs ++ [.ref G], gs ++ [g], _, _, _, rfl, (xc.trans (Exy.of xc16)).trans Exy.put, (hp16.put nglp nglc).mono (by omega), upd_same, ?_, ⟨?_, ?_, ?_⟩, ?_⟩
            · exact Paired.imp (fun _ _ => GF.mono txp) (paired_app1 (Paired.imp (fun _ _ => GF.mono (hpc.tx xc16)) hgvc) gAt)
            · intro g' hg'
              rcases List.mem_append.mp hg' with h | h
              · exact hdc.each g' h
              · rw [List.mem_singleton.mp h]
                exact ⟨⟨fa0, fa1⟩, ⟨fb0, fb1⟩, fne, ⟨pr1, pr2⟩, lex_pairwise opm tnd (fun w hw => bd w (sbt w hw)) opw, fun w hw => sbt w (opm.mem_iff.mp hw)⟩
            · rw [List.map_append, List.sum_append, List.length_append, List.length_singleton]
              simp only [List.map_cons, List.map_nil, List.sum_cons, List.sum_nil]
              show ((((gs.map (fun g => g.ways.length)).sum + (ou.length + 0) : Nat)) : Int) + (left - ((bv.take m).length : Int) + 1) = _
              rw [oul]
              omega
            · show 0 ≤ left - ((bv.take m).length : Int) + 1
              omega
            · rw [List.map_append, hkc, take_succ_get hu, List.append_assoc]
              rfl
          · rintro σ Hc ⟨gvs, gs, left, y12, y13, rfl, xc, hpc, hglc, hgvc, hdc, hkc⟩
            refine ⟨gvs, gs, left, _, _, _, rfl, x8l.trans xc, hpc.mono (by simp only [List.length_cons, List.length_nil]; omega), hglc, hgvc, hdc, ?_⟩
            rw [hkc, pairsUpto_succ]
            rfl
        · rintro σ H9 ⟨gvs, gs, left, y11, y12, y13, rfl, x9, hp9, hgl9, hgv9, hd9, hk9⟩
          have tx89 := tx8 x9
          have x69 : Exx p H6 H9 := x9.exx (Exx.ex e68) ngl6
          have hW9 := x69 _ _ nWp hW6
          have hbl9 : H9 bl = some (.lst lvs) := x69 _ _ nblp hbl6
          have gvl : gvs.length = gs.length := Paired.len hgv9
          have gkl := congrArg List.length hk9
          rw [List.length_map, pairsUpto_len] at gkl
          have gnd : (gs.map gKey).Nodup := by rw [hk9]; exact pairs_nodup (by omega)
          refine ⟨.ref bl, rfl, .inl ⟨rfl, _, SqL.of hbl9⟩, ?_⟩
          refine ⟨.ref W, rfl, .int (k : Nat), rfl, W, _, (k : Nat), .int wd, rfl, rfl, .inl (.inl hW9), atI_nat (map_int_get hwd), ?_⟩
          have kx : ∀ x ∈ gvs, ∃ g ∈ gs, GF K H9 x g ∧ kH H9 x = (g.frm, g.to_) := fun x hx => by
            obtain ⟨i, hi⟩ := List.mem_iff_getElem?.mp hx
            obtain ⟨g, hg, hgf⟩ := Paired.get1 hgv9 hi
            exact ⟨g, List.mem_of_getElem? hg, hgf, kH_of hgf.2⟩
          refine ⟨.ref gl, rfl, gl, gvs, kH H9, rfl, SqL.of hgl9, by omega, fun x hx => ?_, fun x hx y hy e => ?_, fun ys O pmy pw nO => ?_⟩
          · obtain ⟨g, hg, ⟨_, t, q0, y0, rfl, ht⟩, hk⟩ := kx x hx
            obtain ⟨⟨a1, a2⟩, ⟨a3, a4⟩, _⟩ := hd9.each g hg
            refine ⟨t, q0, y0, rfl, ?_, ?_⟩
            · rw [hk]
              exact .inl (.inl ht)
            · rw [hk]
              exact ⟨a1, by show g.frm < 4; omega, a3, by show g.to_ < 4; omega⟩
          · obtain ⟨i, hi⟩ := List.mem_iff_getElem?.mp hx
            obtain ⟨j, hj⟩ := List.mem_iff_getElem?.mp hy
            obtain ⟨g, hg, hgf⟩ := Paired.get1 hgv9 hi
            obtain ⟨g', hg', hgf'⟩ := Paired.get1 hgv9 hj
            rw [kH_of hgf.2, kH_of hgf'.2] at e
            have ek : gKey g = gKey g' := by
              have q1 : g.frm = g'.frm := congrArg Prod.fst e
              have q2 : g.to_ = g'.to_ := congrArg Prod.snd e
              unfold gKey
              rw [q1, q2]
            have e1 : (gs.map gKey)[i]? = some (gKey g) := by rw [List.getElem?_map, hg]; rfl
            have e2 : (gs.map gKey)[j]? = some (gKey g) := by rw [List.getElem?_map, hg', ek]; rfl
            have il := (List.getElem?_eq_some_iff.mp e1).1
            have ij : i = j := (List.getElem?_inj il gnd).mp (e1.trans e2.symm)
            subst ij
            rw [hi] at hj
            exact Option.some.inj hj
          · obtain ⟨gs2, gpm, hgy⟩ := paired_perm pmy hgv9
            have e10 := Evl.Ex.new (o := .lst ys) nO
            have gO : (upd H9 O (.lst ys)) O = some (.lst ys) := upd_same
            have hp10 := hp9.ex e10
            generalize upd H9 O (.lst ys) = H10 at e10 gO hp10
            refine ⟨O, ys, rfl, .inl ⟨.inl (.inl gO), fun ga nt => ?_⟩⟩
            have e11 := Evl.Ex.new (o := .tup ys) nt
            have gt : (upd H10 ga (.tup ys)) ga = some (.tup ys) := upd_same
            have hp11 := hp10.ex e11
            generalize upd H10 ga (.tup ys) = H11 at e11 gt hp11
            refine ⟨(by show 2 ≤ sizeLine; decide), fun bt nbt => ?_⟩
            have e12 := Evl.Ex.new (o := .tup [.int wd, .ref ga]) nbt
            have hbt : (upd H11 bt (.tup [.int wd, .ref ga])) bt = some (.tup [.int wd, .ref ga]) := upd_same
            have hp12 := hp11.ex e12
            generalize upd H11 bt (.tup [.int wd, .ref ga]) = H12 at e12 hbt hp12
            have e912 := e10.trans (e11.trans e12)
            have x612 : Exx p H6 H12 := x69.trans (Exx.ex e912)
            have hbl12 : H12 bl = some (.lst lvs) := x612 _ _ nblp hbl6
            have tx612 : TX K H6 H12 := hp6.tx x612
            have lvl : lvs.length = l.length := Paired.len hlv6
            have hW12 := x612 _ _ nWp hW6
            have hbs12 := x612 _ _ nbsp hbs6
            have nWbl : W ≠ bl := fun z => nblW z.symm
            have hgy12 : Paired (GapAt K H12) ys gs2 := Paired.imp (fun _ _ h => GapAt.mono (TX.ex e912) h.1) hgy
            have bAt : BoltAt K H12 (.ref bt) ⟨wd, gs2⟩ := ⟨bt, ga, ys, rfl, .inl (.inl hbt), .inl (.inl (e12 _ _ gt)), hgy12⟩
            have hdr : Drawn wd us gs2 left := by
              refine ⟨⟨fun g hg => hd9.each g (gpm.mem_iff.mp hg), ?_, hd9.left0⟩, ?_⟩
              · rw [(gpm.map (fun g => g.ways.length)).sum_nat]
                have := hd9.sum
                rw [gkl] at this
                omega
              · have nd2 : (gs2.map gKey).Nodup := (gpm.map gKey).nodup_iff.mpr gnd
                rw [List.pairwise_iff_getElem]
                intro i j hi hj hij
                have ysl : ys.length = gs2.length := Paired.len hgy
                obtain ⟨gi, hgi, fi⟩ := Paired.get1 hgy (List.getElem?_eq_getElem (show i < ys.length by omega))
                obtain ⟨gj, hgj, fj⟩ := Paired.get1 hgy (List.getElem?_eq_getElem (show j < ys.length by omega))
                have c := List.pairwise_iff_getElem.mp pw i j (by omega) (by omega) hij
                rw [kH_of fi.2, kH_of fj.2] at c
                have ei : gs2[i] = gi := by rw [List.getElem?_eq_getElem hi] at hgi; exact Option.some.inj hgi
                have ej : gs2[j] = gj := by rw [List.getElem?_eq_getElem hj] at hgj; exact Option.some.inj hgj
                have ne := List.pairwise_iff_getElem.mp nd2 i j (by rw [List.length_map]; exact hi) (by rw [List.length_map]; exact hj) hij
                rw [List.getElem_map, List.getElem_map, ei, ej] at ne
                rw [ei, ej]
                obtain ⟨⟨a1, a2⟩, ⟨a3, a4⟩, _⟩ := hd9.each gi (gpm.mem_iff.mp (by rw [← ei]; exact List.getElem_mem hi))
                obtain ⟨⟨b1, b2⟩, ⟨b3, b4⟩, _⟩ := hd9.each gj (gpm.mem_iff.mp (by rw [← ej]; exact List.getElem_mem hj))
                unfold TS.rk4 at c
                have c' : 4 * gi.frm + gi.to_ ≤ 4 * gj.frm + gj.to_ := c
                unfold gKey at ne
                have ne' : ¬ (gi.frm = gj.frm ∧ gi.to_ = gj.to_) := fun z => ne (by rw [z.1, z.2])
                unfold lexLt2
                omega
            refine ⟨bl, lvs, _, rfl, rfl, hbl12, Nat.lt_of_le_of_lt (by omega : lvs.length ≤ 60) (by decide), ?_⟩
            refine ⟨lvs ++ [.ref bt], l ++ [⟨wd, gs2⟩], _, _, _, _, _, _, _, rfl, (x6.trans x612).mut nbl0, (hp12.put nblp nblc).mono (by omega), by rw [upd_ne nWbl]; exact hW12, by rw [upd_ne nbsbl]; exact hbs12, ?_, upd_same, ?_, by rw [List.length_append, ll]; rfl, ?_⟩
            · exact Paired.imp (fun _ _ => Wd.mono (tx612.trans (TX.put hbl12))) hbv6
            · exact Paired.imp (fun _ _ => BoltAt.mono (TX.put hbl12)) (paired_app1 (Paired.imp (fun _ _ => BoltAt.mono tx612) hlv6) bAt)
            · intro j b hj
              by_cases hjl : j < l.length
              · rw [List.getElem?_append_left hjl] at hj
                exact hgood j b hj
              · rw [List.getElem?_append_right (by omega)] at hj
                have : j = l.length := by
                  by_cases e : j - l.length = 0
                  · omega
                  · rw [List.getElem?_eq_none (by simp; omega)] at hj; cases hj
                subst this
                rw [Nat.sub_self] at hj
                have eb : b = ⟨wd, gs2⟩ := (Option.some.inj hj).symm
                subst eb
                rw [ll]
                exact ⟨hwd, us, left, hdr, w0⟩
      · rintro σ H6 ⟨lvs, l, y4, y8, y9, y10, y11, y12, y13, rfl, x6, hp6, hW6, hbs6, hbv6, hbl6, hlv6, ll, hgood⟩
        refine ⟨.ref bl, rfl, bl, lvs, rfl, .inl ⟨.inl (.inl hbl6), fun lt nlt => ?_⟩⟩
        have e7 := Evl.Ex.new (o := .tup lvs) nlt
        have lw : l.length = wds.length := by omega
        refine q _ (.ref lt) l (x6.trans (Exx.ex e7)) ((hp6.ex e7).mono (by omega)) ⟨lt, lvs, rfl, .inl (.inl upd_same), Paired.imp (fun _ _ => BoltAt.mono (TX.ex e7)) hlv6⟩ (lockOk_drawn lw (by omega) (by omega) hw (by omega) hgood) (by omega)
end
end Wb

set_option Elab.async false
set_option linter.all false
set_option maxRecDepth 100000
set_option maxHeartbeats 8000000
set_option pp.maxSteps 900
set_option pp.deepTerms false
namespace Wb
open PySem PySem.Spec PyProof.Rows L2
theorem cut_dropG (xs : List V) (k : Nat) : cutV xs (some (k : Int)) none = xs.drop k := by
  by_cases h : k ≤ xs.length
  · exact cut_drop xs h
  · unfold cutV
    rw [HT.sIx_none, HT.sIx_nat, List.drop_eq_nil_of_le (by omega : xs.length ≤ k), List.drop_eq_nil_of_le (by omega), List.take_nil]
theorem sl_lockT {K : PySem.W.Frag} {H : Hp} {Q : VK} {a : Addr} {xs : List V} {lo hi : Option Int} (ha : SqT K H a xs) (q : ∀ H' z, Evl.Ex H H' → SqT K H' z (cutV xs lo hi) → Q (.ref z) H') : rSlA K (.ref a) lo hi H Q := by
  refine ⟨a, xs, rfl, ha, fun h => ?_, fun _ t nt => ?_⟩
  · exact q H a (Evl.Ex.refl H) (by rw [cutV_whole h]; exact ha)
  · exact q _ t (Evl.Ex.new nt) (SqT.of upd_same)
theorem LockOk.takeN {l : Lock} (ok : LockOk l) {m : Nat} (h1 : 1 ≤ m) (h2 : m ≤ l.length) : LockOk (l.take m) := by
  have ml : (l.take m).length = m := by rw [List.length_take]; omega
  refine ⟨by omega, by have := ok.n1; omega, fun k b hk => ?_, fun k ws hk nd hc => ?_⟩
  · have km : k < m := by have := (List.getElem?_eq_some_iff.mp hk).1; omega
    rw [List.getElem?_take, if_pos km] at hk
    rw [List.take_take, Nat.min_eq_left (by omega)]
    exact ok.bolts k b hk
  · refine ok.words k ws (by omega) nd fun w hw => ?_
    obtain ⟨j, b, g, u, hj, hb, hg, hu, e⟩ := hc w hw
    have jm : j < m := by have := (List.getElem?_eq_some_iff.mp hb).1; omega
    rw [List.getElem?_take, if_pos jm] at hb
    exact ⟨j, b, g, u, hj, hb, hg, hu, e⟩
theorem manys_take (l : Lock) (m : Nat) : manysOf (l.take m) = (manysOf l).take m := by unfold manysOf; rw [List.map_take]
theorem LockAt.takeN {K : PySem.W.Frag} {H : Hp} {z : Addr} {bs : List V} {l : Lock} (hz : SqT K H z (bs.take m)) (hb : Paired (BoltAt K H) bs l) : LockAt K H (.ref z) (l.take m) := ⟨z, bs.take m, rfl, hz, Paired.takeN m hb⟩
theorem mem_stepsUpto {l : Lock} {st : Word} {t : Tr3} : ∀ {n : Nat}, t ∈ stepsUpto l st n → ∃ k b p, k < n ∧ t.frm = (k : Nat) ∧ l[k]? = some b ∧ st[k]? = some p ∧ ∃ g ∈ b.gaps, t.to_ = g.to_
  | 0, h => by unfold stepsUpto at h; simp at h
  | n + 1, h => by
    rw [stepsUpto_succ] at h
    rcases List.mem_append.mp h with h | h
    · obtain ⟨k, b, p, hk, r⟩ := mem_stepsUpto h
      exact ⟨k, b, p, by omega, r⟩
    · unfold stepsOf at h
      cases hb : l[n]? with
      | none => rw [hb] at h; cases h
      | some b =>
        cases hp : st[n]? with
        | none => rw [hb, hp] at h; cases h
        | some p =>
          rw [hb, hp] at h
          have h' : t ∈ pickAt n p (movesL b.gaps (st.take n)) := h
          unfold pickAt at h'
          obtain ⟨s, hs, rfl⟩ := List.mem_map.mp h'
          unfold movesL at hs
          obtain ⟨g, hg, rfl⟩ := List.mem_map.mp (List.mem_filter.mp hs).1
          exact ⟨n, b, p, Nat.lt_succ_self n, rfl, hb, hp, g, (List.mem_filter.mp hg).1, rfl⟩
theorem stepsUpto_len {l : Lock} (ok : LockOk l) (st : Word) : ∀ n, (stepsUpto l st n).length ≤ 8 * n
  | 0 => by unfold stepsUpto; simp
  | n + 1 => by
    rw [stepsUpto_succ, List.length_append]
    have ih := stepsUpto_len ok st n
    have : (stepsOf l st n).length ≤ 8 := by
      unfold stepsOf
      cases hb : l[n]? with
      | none => simp
      | some b =>
        cases hp : st[n]? with
        | none => simp
        | some p =>
          have h1 := pickAt_len n p (movesL b.gaps (st.take n))
          have h2 := movesL_len b.gaps (st.take n)
          have h3 := (ok.bolts n b hb).few
          show (pickAt n p (movesL b.gaps (st.take n))).length ≤ 8
          omega
    omega
theorem inAll_set {xs ms : List Int} {n : Nat} {x m : Int} (h : InAll xs ms) (hm : ms[n]? = some m) (h0 : 0 ≤ x) (h1 : x < m) : InAll (xs.set n x) ms := by
  refine ⟨by rw [List.length_set]; exact h.1, fun i a b ha hb => ?_⟩
  rw [List.getElem?_set] at ha
  by_cases e : n = i
  · subst e
    rw [if_pos rfl] at ha
    have nl : n < xs.length := by rw [h.1]; exact (List.getElem?_eq_some_iff.mp hm).1
    rw [if_pos nl] at ha
    cases ha
    rw [hm] at hb
    cases hb
    exact ⟨h0, h1⟩
  · rw [if_neg e] at ha
    exact h.2 i a b ha hb
theorem inAll_cat {o b ms : List Int} {mo m : Nat} (ho : InAll o (ms.take mo)) (hb : InAll b (ms.take m)) (hmo : mo ≤ ms.length) (hm : m ≤ ms.length) : InAll ((o ++ b.drop mo).take m) (ms.take m) := by
  have ol : o.length = mo := by have := ho.1; rw [List.length_take] at this; omega
  have bl : b.length = m := by have := hb.1; rw [List.length_take] at this; omega
  refine ⟨by rw [List.length_take, List.length_append, List.length_drop, List.length_take]; omega, fun i x y hx hy => ?_⟩
  rw [List.getElem?_take] at hx hy
  by_cases im : i < m
  · rw [if_pos im] at hx hy
    by_cases io : i < o.length
    · rw [List.getElem?_append_left io] at hx
      exact ho.2 i x y hx (by rw [List.getElem?_take, if_pos (by omega)]; exact hy)
    · rw [List.getElem?_append_right (by omega), List.getElem?_drop] at hx
      exact hb.2 i x y (by rw [show mo + (i - o.length) = i by omega] at hx; exact hx) (by rw [List.getElem?_take, if_pos im]; exact hy)
  · rw [if_neg im] at hx; cases hx
/-! ### shapes -/
def Lay (n : Nat) (d : PyData) : Prop := d.canLay0 = true ∧ d.depth ≤ n
theorem layAll {n : Nat} : ∀ {ds : List PyData}, (∀ d ∈ ds, Lay n d) → PyData.canLayAll0 ds = true ∧ PyData.depthAll ds ≤ n
  | [], _ => ⟨rfl, by simp [PyData.depthAll]⟩
  | d :: ds, h => by
    have h1 := h d List.mem_cons_self
    have h2 := layAll fun d' hd => h d' (List.mem_cons_of_mem _ hd)
    exact ⟨by simp [PyData.canLayAll0, h1.1, h2.1], by simp only [PyData.depthAll]; have := h1.2; omega⟩
theorem lay_tup {n : Nat} {ds : List PyData} (h : ∀ d ∈ ds, Lay n d) : Lay (n + 1) (.tuple ds) := by
  have := layAll h
  exact ⟨by simpa only [PyData.canLay0] using this.1, by simp only [PyData.depth]; omega⟩
theorem lay_lst {n : Nat} {ds : List PyData} (h : ∀ d ∈ ds, Lay n d) : Lay (n + 1) (.list ds) := by
  have := layAll h
  exact ⟨by simpa only [PyData.canLay0] using this.1, by simp only [PyData.depth]; omega⟩
theorem Lay.mono {n m : Nat} {d : PyData} (h : Lay n d) (l : n ≤ m) : Lay m d := ⟨h.1, Nat.le_trans h.2 l⟩
theorem lay_int (i : Int) : Lay 0 (.int i) := ⟨by simp only [PyData.canLay0], by simp [PyData.depth]⟩
theorem Lay.shaped {n : Nat} {d : PyData} (h : Lay n d) (l : n ≤ 64) : SeqAt.shaped d = true := by
  unfold SeqAt.shaped
  rw [h.1, Bool.true_and]
  exact decide_eq_true (Nat.le_trans h.2 l)
theorem lay_W (u : Word) : Lay 1 (dW u) := lay_tup fun d hd => by
  obtain ⟨x, _, rfl⟩ := List.mem_map.mp hd
  exact lay_int x
def dE : Ent → PyData
  | .step k to => .tuple [.str "step", .int k, .int to]
  | .part n => .tuple [.str "part", .int n]
def dP (x : Prt) : PyData := .tuple [dW x.b, dW x.e, .tuple (x.es.map dE)]
theorem lay_str (s : Str) (h : PyData.canLay0 (.str s) = true) : Lay 0 (.str s) := ⟨h, by simp [PyData.depth]⟩
theorem lay_E (x : Ent) : Lay 1 (dE x) := by
  cases x with
  | step k to =>
    exact lay_tup (n := 0) fun d hd => by
      simp only [List.mem_cons, List.not_mem_nil, or_false] at hd
      rcases hd with rfl | rfl | rfl
      · exact lay_str _ (by decide +kernel)
      · exact lay_int _
      · exact lay_int _
  | part n =>
    exact lay_tup (n := 0) fun d hd => by
      simp only [List.mem_cons, List.not_mem_nil, or_false] at hd
      rcases hd with rfl | rfl
      · exact lay_str _ (by decide +kernel)
      · exact lay_int _
theorem lay_P (x : Prt) : Lay 3 (dP x) := lay_tup (n := 2) fun d hd => by
  simp only [List.mem_cons, List.not_mem_nil, or_false] at hd
  rcases hd with rfl | rfl | rfl
  · exact (lay_W _).mono (by decide)
  · exact (lay_W _).mono (by decide)
  · exact lay_tup fun d hd => by
      obtain ⟨y, _, rfl⟩ := List.mem_map.mp hd
      exact lay_E y
theorem dp_E {K : PySem.W.Frag} {H : Hp} {v : V} {x : Ent} (h : EntAt H v x) : Dp K H v (dE x) := by
  cases x with
  | step k to =>
    obtain ⟨a, rfl, ha⟩ := h
    exact .tup (SqT.of ha) (.cons (.str _) (.cons (.int _) (.cons (.int _) .nil)))
  | part n =>
    obtain ⟨a, rfl, ha⟩ := h
    exact .tup (SqT.of ha) (.cons (.str _) (.cons (.int _) .nil))
theorem dp_P {K : PySem.W.Frag} {H : Hp} {v : V} {x : Prt} (h : PrtAt K H v x) : Dp K H v (dP x) := by
  obtain ⟨a, c, bv, ev, us, rfl, ha, hb, he, hc, hus⟩ := h
  exact .tup (SqT.of ha) (.cons (dp_W hb) (.cons (dp_W he) (.cons (.tup (SqT.of hc) (dp_all (F := EntAt H) (f := dE) (fun _ _ => dp_E) hus)) .nil)))
/-! ### where an entry leads -/
def ledE (Ps : List Prt) (st : Word) : Ent → Word
  | .step k to => st.set k.toNat to
  | .part n => match Ps[n.toNat]? with
    | some p => p.e ++ st.drop p.e.length
    | none => st
def LedOk (Ps : List Prt) (st : Word) : Ent → Prop
  | .step k _ => ∃ n : Nat, k = (n : Nat) ∧ n < st.length
  | .part n => ∃ (m : Nat) (p : Prt), n = (m : Nat) ∧ Ps[m]? = some p ∧ p.e.length ≤ st.length
abbrev sLed : Stmt := topS 54
abbrev nLed : List Str := ["_law_lock_here", "_law_pages", "_law_here", "_law_entry_here"]
theorem scLed : FnScope nLed ["_law_lock_here", "_law_pages", "_law_here", "_law_entry_here"] (defScope sLed) := ⟨rfl, rfl, rfl, by decide +kernel, rfl, by decide +kernel, by decide +kernel⟩
def spLed (K : PySem.W.Frag) : Sp := fun vs H Q _ => ∃ (v u x : V) (pg : Addr) (pvs : List V) (Ps : List Prt) (st : Word) (en : Ent), vs = [v, .ref pg, u, x] ∧ H pg = some (.lst pvs) ∧ Paired (PrtAt K H) pvs Ps ∧ Wd K H u st ∧ EntAt H x en ∧ st.length ≤ 60 ∧ LedOk Ps st en ∧
  ∀ H' r, Evl.Ex H H' → Wd K H' r (ledE Ps st en) → Q r H'
section
variable {P : Program} {w : World} {K : PySem.W.Frag} {mg : Str → Option Value} {base : Heap}
theorem ok_led {f fm : Addr} {fd fdm : FuncData} (F : Fun K "_law_led" "_law_led" sLed f fd) (Fm : Fun K "_law_moved" "_law_moved" sMoved fm fdm) (bm : Binds K fdm ["_law_at", "_law_k", "_law_there"] []) (gm : mg "_law_moved" = some (.ref fm)) (B : Bi mg) : FnOk P w K mg base CX0 2 f fd ["_law_lock_here", "_law_pages", "_law_here", "_law_entry_here"] (spLed K) := by
  have GM : FnOk P w K mg base CX0 1 fm fdm ["_law_at", "_law_k", "_law_there"] (spMoved K) := ok_moved Fm
  refine F.ok scLed (fun vs H Q E h => ?_) (fun cdv A outer s H vs Q E hr h => ?_)
  · obtain ⟨v, u, x, pg, pvs, Ps, st, en, rfl, _⟩ := h; rfl
  · obtain ⟨v, u, x, pg, pvs, Ps, st, en, rfl, hpg, hpv, ⟨ua, rfl, hu⟩, hx, s60, lo, q⟩ := h
    refine ⟨_, (pss_cons (ps_if (pt_cmpR op_eq (pe_ix (r := rIxT K) ix_tup (pv 3) pe_int (fun _ _ => rfl)) pe_str (nomark _))
 (pss_one (ps_ret (pe_call GM hr (by rfl) gm Fm.kp bm .nil pass0 (pa_cons (pv 2) (pa_cons (pe_ix (r := rIxT K) ix_tup (pv 3) pe_int (fun _ _ => rfl)) (pa_cons (pe_ix (r := rIxT K) ix_tup (pv 3) pe_int (fun _ _ => rfl)) pa_nil))))))
 pss_nil)
 (pss_one (ps_ret (pe_op (r := rCatA K) op_catA (pe_ix (r := rIxT K) ix_tup (pe_ix (r := rIxL K) ix_list (pv 1) (pe_ix (r := rIxT K) ix_tup (pv 3) pe_int (fun _ _ => rfl)) (fun _ _ => rfl)) pe_int (fun _ _ => rfl)) (pe_slice (r := rSlA K) sl_tupA (pv 2) (po_some (pe_callB call_len_seq (by rfl) B.len PySem.boot_len (pa_cons (pe_ix (r := rIxT K) ix_tup (pe_ix (r := rIxL K) ix_list (pv 1) (pe_ix (r := rIxT K) ix_tup (pv 3) pe_int (fun _ _ => rfl)) (fun _ _ => rfl)) pe_int (fun _ _ => rfl)) pa_nil))) po_none))))), ?_⟩
    cases en with
    | step k to =>
      obtain ⟨a, rfl, ha⟩ := hx
      obtain ⟨n, rfl, nl⟩ := lo
      refine ⟨.ref a, rfl, a, _, 0, .str "step", rfl, rfl, SqT.of ha, atI_nat (j := 0) rfl, rfl, _, rfl, ?_⟩
      refine ite2 (fun _ => ?_) (fun hc => absurd (decide_eq_true rfl) hc)
      refine ⟨.ref ua, rfl, .ref a, rfl, a, _, 1, .int (n : Nat), rfl, rfl, SqT.of ha, atI_nat (j := 1) rfl, .ref a, rfl, a, _, 2, .int to, rfl, rfl, SqT.of ha, atI_nat (j := 2) rfl, .ref ua, st, n, to, rfl, ⟨ua, rfl, hu⟩, nl, by omega, fun H' z e hz => ?_⟩
      refine q H' z e ?_
      show Wd K H' z (st.set (((n : Nat) : Int)).toNat to)
      rw [Int.toNat_natCast]
      exact hz
    | part n =>
      obtain ⟨a, rfl, ha⟩ := hx
      obtain ⟨m, p, rfl, hm, pl⟩ := lo
      obtain ⟨pv', hpv', ⟨ap, c, bv, ev, us, rfl, hap, _, ⟨ea, rfl, he⟩, _⟩⟩ := Paired.get2 hpv hm
      refine ⟨.ref a, rfl, a, _, 0, .str "part", rfl, rfl, SqT.of ha, atI_nat (j := 0) rfl, rfl, _, rfl, ?_⟩
      refine ite2 (fun hc => absurd (of_decide_eq_true hc) (by decide +kernel)) (fun _ => ?_)
      refine ⟨.ref pg, rfl, .ref a, rfl, a, _, 1, .int (m : Nat), rfl, rfl, SqT.of ha, atI_nat (j := 1) rfl, pg, pvs, (m : Nat), .ref ap, rfl, rfl, SqL.of hpg, atI_nat hpv', ap, _, 1, .ref ea, rfl, rfl, SqT.of hap, atI_nat (j := 1) rfl, ?_⟩
      refine ⟨.ref ua, rfl, ?_⟩
      refine ⟨.ref pg, rfl, .ref a, rfl, a, _, 1, .int (m : Nat), rfl, rfl, SqT.of ha, atI_nat (j := 1) rfl, pg, pvs, (m : Nat), .ref ap, rfl, rfl, SqL.of hpg, atI_nat hpv', ap, _, 1, .ref ea, rfl, rfl, SqT.of hap, atI_nat (j := 1) rfl, ea, _, rfl, .inr (SqT.of he), ((p.e.map V.int).length : Nat), rfl, ?_⟩
      refine nopart1 ?_
      refine sl_own (K := K) (lo := some (((p.e.map V.int).length : Nat) : Int)) (hi := none) hu fun H3 z2 e3 hz2 => ?_
      rw [List.length_map, cut_dropG, ← List.map_drop] at hz2
      refine cat_own (K := K) (e3 _ _ he) hz2 (Nat.le_trans (by simp only [List.length_map, List.length_drop]; omega : (p.e.map V.int).length + ((st.drop p.e.length).map V.int).length ≤ 200) (by decide)) fun H4 z3 e4 hz3 => ?_
      rw [← List.map_append] at hz3
      refine q H4 (.ref z3) (e3.trans e4) ⟨z3, rfl, ?_⟩
      show H4 z3 = some (.tup ((match Ps[(((m : Nat) : Int)).toNat]? with
        | some p => p.e ++ st.drop p.e.length
        | none => st).map V.int))
      rw [Int.toNat_natCast, hm]
      exact hz3
end
end Wb

set_option Elab.async false
set_option linter.all false
set_option maxRecDepth 100000
set_option maxHeartbeats 8000000
set_option pp.maxSteps 900
set_option pp.deepTerms false
namespace Wb
open PySem PySem.Spec PyProof.Rows L2
abbrev sEns : Stmt := topS 55
abbrev nEns : List Str := ["_law_pen_here", "_law_lock_here", "_law_pages", "_law_begin", "_law_here", "_law_found", "_law_k", "_law_bag", "_law_nth", "_law_one"]
theorem scEns : FnScope nEns ["_law_pen_here", "_law_lock_here", "_law_pages", "_law_begin"] (defScope sEns) := ⟨rfl, rfl, rfl, by decide +kernel, rfl, by decide +kernel, by decide +kernel⟩
/-- a part that is drawn well -/
structure PGood (l : Lock) (x : Prt) : Prop where
  b1 : 1 ≤ x.b.length
  b2 : x.b.length ≤ l.length
  el : x.e.length = x.b.length
  ib : InAll x.b ((manysOf l).take x.b.length)
  ie : InAll x.e ((manysOf l).take x.b.length)
def stepE (t : Tr3) : Ent := .step t.frm t.to_
def BagOk (l : Lock) (Ps : List Prt) (m : Nat) (st : Word) (x : Ent) : Prop := LedOk Ps st x ∧ InAll (ledE Ps st x) ((manysOf l).take m)
theorem EntAt.put {H : Hp} {l : Addr} {xs : List V} {o : HO} (h : H l = some (.lst xs)) {v : V} {x : Ent} (q : EntAt H v x) : EntAt (upd H l o) v x := by
  cases x with
  | step k to =>
    obtain ⟨a, r, q⟩ := q
    exact ⟨a, r, by rw [upd_ne (ne_of q h (fun z => nomatch z))]; exact q⟩
  | part n =>
    obtain ⟨a, r, q⟩ := q
    exact ⟨a, r, by rw [upd_ne (ne_of q h (fun z => nomatch z))]; exact q⟩
theorem EntAt.exx {p : Addr} {H H' : Hp} (e : Exx p H H') (np : ∀ xs, H p ≠ some (.tup xs)) {v : V} {x : Ent} (q : EntAt H v x) : EntAt H' v x := by
  cases x with
  | step k to =>
    obtain ⟨a, r, q⟩ := q
    exact ⟨a, r, e _ _ (fun z => np _ (z ▸ q)) q⟩
  | part n =>
    obtain ⟨a, r, q⟩ := q
    exact ⟨a, r, e _ _ (fun z => np _ (z ▸ q)) q⟩
theorem PenAt.noT {H : Hp} {p c : Addr} {T : Int} (h : PenAt H p c T) : ∀ xs, H p ≠ some (.tup xs) := fun xs z => h.no xs (.inl z)
theorem PrtAt.tx {K : PySem.W.Frag} {H H' : Hp} (e : TX K H H') {v : V} {x : Prt} (h : PrtAt K H v x) : PrtAt K H' v x := by
  obtain ⟨a, c, bv, ev, us, r, h1, h2, h3, h4, h5⟩ := h
  refine ⟨a, c, bv, ev, us, r, e.2 _ _ h1, h2.mono e, h3.mono e, e.2 _ _ h4, Paired.imp (fun _ y z => ?_) h5⟩
  cases y with
  | step k to =>
    obtain ⟨a, r, q⟩ := z
    exact ⟨a, r, e.2 _ _ q⟩
  | part n =>
    obtain ⟨a, r, q⟩ := z
    exact ⟨a, r, e.2 _ _ q⟩
theorem EntAt.tx {K : PySem.W.Frag} {H H' : Hp} (e : TX K H H') {v : V} {x : Ent} (z : EntAt H v x) : EntAt H' v x := by
  cases x with
  | step k to =>
    obtain ⟨a, r, q⟩ := z
    exact ⟨a, r, e.2 _ _ q⟩
  | part n =>
    obtain ⟨a, r, q⟩ := z
    exact ⟨a, r, e.2 _ _ q⟩
def spEns (K : PySem.W.Frag) : Sp := fun vs H Q _ => ∃ (p c pg : Addr) (v u : V) (T : Int) (l : Lock) (pvs : List V) (Ps : List Prt) (st : Word), vs = [.ref p, v, .ref pg, u] ∧ PenAt H p c T ∧ T ≤ 9000000 ∧ LockAt K H v l ∧ LockOk l ∧ pg ≠ p ∧ H pg = some (.lst pvs) ∧ Paired (PrtAt K H) pvs Ps ∧ (∀ x ∈ Ps, PGood l x) ∧ Ps.length ≤ 20 ∧
  Wd K H u st ∧ 1 ≤ st.length ∧ st.length ≤ l.length ∧ InAll st ((manysOf l).take st.length) ∧
  ∀ H' r (et : Addr) (hv : V) (us : List V) (es : List Ent) (st' : Word), Exx p H H' → PenAt H' p c (T + 20) → H' r = some (.tup [.ref et, hv]) → H' et = some (.tup us) → Paired (EntAt H') us es → Wd K H' hv st' → st'.length = st.length → InAll st' ((manysOf l).take st.length) → Q (.ref r) H'
section
variable {P : Program} {w : World} {K : PySem.W.Frag} {mg : Str → Option Value} {base : Heap}
theorem ok_ens {f f1 f2 fs fm fl : Addr} {fd fd1 fd2 fds fdm fdl : FuncData} (F : Fun K "_law_entries" "_law_entries" sEns f fd) (F1 : Fun K "_law_draw" "_law_draw" sDraw f1 fd1) (b1 : Binds K fd1 ["_law_pen_here", "_law_many"] []) (g1 : mg "_law_draw" = some (.ref f1))
    (F2 : Fun K "_law_pick" "_law_pick" sPick f2 fd2) (b2 : Binds K fd2 ["_law_pen_here", "_law_bag"] []) (g2 : mg "_law_pick" = some (.ref f2))
    (Fs : Fun K "_law_steps" "_law_steps" sSteps fs fds) (bs : Binds K fds ["_law_lock_here", "_law_at"] []) (gs : mg "_law_steps" = some (.ref fs))
    (Fm : Fun K "_law_moved" "_law_moved" sMoved fm fdm) (bm : Binds K fdm ["_law_at", "_law_k", "_law_there"] []) (gm : mg "_law_moved" = some (.ref fm))
    (Fl : Fun K "_law_led" "_law_led" sLed fl fdl) (bl : Binds K fdl ["_law_lock_here", "_law_pages", "_law_here", "_law_entry_here"] []) (gl : mg "_law_led" = some (.ref fl)) (B : Bi mg) :
    FnOk P w K mg base CX0 3 f fd ["_law_pen_here", "_law_lock_here", "_law_pages", "_law_begin"] (spEns K) := by
  have G1 : FnOk P w K mg base CX0 1 f1 fd1 ["_law_pen_here", "_law_many"] spDraw := ok_draw F1 B
  have G2 : FnOk P w K mg base CX0 2 f2 fd2 ["_law_pen_here", "_law_bag"] (spPick K) := ok_pick F2 F1 b1 g1 B
  have GS : FnOk P w K mg base CX0 1 fs fds ["_law_lock_here", "_law_at"] (spSteps K) := ok_lsteps Fs B
  have GL : FnOk P w K mg base CX0 2 fl fdl ["_law_lock_here", "_law_pages", "_law_here", "_law_entry_here"] (spLed K) := ok_led Fl Fm bm gm B
  refine F.ok scEns (fun vs H Q E h => ?_) (fun cdv A outer s H vs Q E hr h => ?_)
  · obtain ⟨p, c, pg, v, u, T, l, pvs, Ps, st, rfl, _⟩ := h; rfl
  · obtain ⟨p, c, pg, v, u, T, l, pvs, Ps, st, rfl, hp, T9, hl, ok, npg, hpg, hpv, hPs, P20, hu, s1, s2, hin, q⟩ := h
    have hr1 : Room 1 _ := hr.mono (by decide)
    have hr2 : Room 2 _ := hr
    refine ⟨_, (pss_cons (ps_par (by rfl) scEns.nd (i := 4) (j := 5) rfl rfl (by decide) rfl rfl (pa_cons (pv 3) (pa_cons (pe_lst pa_nil) pa_nil)) (by rfl))
 (pss_cons (ps_for PassesOwn.never rfl (pi_range1 (by rfl) B.range (pa_cons (pe_call G1 hr1 (by rfl) g1 F1.kp b1 .nil pass0 (pa_cons (pv 0) (pa_cons pe_int pa_nil))) pa_nil)) (pg_name (i := 6) scEns.nd rfl (.inl rfl))
 (pss_cons (ps_setLc (i := 7) (own := [("_law_one", 9)]) (g := gName 9) rfl scEns.nd rfl rfl (sw_true rfl rfl rfl (by decide +kernel)) (pi_list (pe_call GS hr1 (by rfl) gs Fs.kp bs .nil pass0 (pa_cons (pe_slice (r := rSlA K) sl_tupA (pv 1) po_none (po_some (pe_callB call_len_seq (by rfl) B.len PySem.boot_len (pa_cons (pv 3) pa_nil)))) (pa_cons (pv 4) pa_nil)))) (blkOk_by (own := [("_law_one", 9)]) (N := nEns) (sc := defScope sEns) (by decide +kernel)) (fun _ _ _ _ _ => (pg_name (i := 9) scEns.nd rfl (.inl rfl))) (fun _ _ _ _ _ => pts_nil) (fun _ _ _ _ _ => (pe_tup (pa_cons pe_str (pa_cons (pe_ix (r := rIxT K) ix_tup (pv 9) pe_int (fun _ _ => rfl)) (pa_cons (pe_ix (r := rIxT K) ix_tup (pv 9) pe_int (fun _ _ => rfl)) pa_nil))))))
 (pss_cons (ps_for PassesOwn.never rfl (pi_range1 (by rfl) B.range (pa_cons (pe_callB call_len_seq (by rfl) B.len PySem.boot_len (pa_cons (pv 2) pa_nil)) pa_nil)) (pg_name (i := 8) scEns.nd rfl (.inl rfl))
 (pss_one (ps_if (PW.pt (pw_and (pt_cmpR op_le (pe_callB call_len_seq (by rfl) B.len PySem.boot_len (pa_cons (pe_ix (r := rIxT K) ix_tup (pe_ix (r := rIxL K) ix_list (pv 2) (pv 8) (fun _ _ => rfl)) pe_int (fun _ _ => rfl)) pa_nil)) (pe_callB call_len_seq (by rfl) B.len PySem.boot_len (pa_cons (pv 3) pa_nil)) (nomark _)) (pw_and1 (pt_cmpR (op_eqD hr.units) (pe_slice (r := rSlA K) sl_tupA (pv 4) po_none (po_some (pe_callB call_len_seq (by rfl) B.len PySem.boot_len (pa_cons (pe_ix (r := rIxT K) ix_tup (pe_ix (r := rIxL K) ix_list (pv 2) (pv 8) (fun _ _ => rfl)) pe_int (fun _ _ => rfl)) pa_nil)))) (pe_ix (r := rIxT K) ix_tup (pe_ix (r := rIxL K) ix_list (pv 2) (pv 8) (fun _ _ => rfl)) pe_int (fun _ _ => rfl)) (nomark _)))))
 (pss_one (ps_expr (pe_bm PySem.F.plainAttrs_list PySem.F.slot_list_append PySem.F.type_list_append mt_append (pv 7) (pa_cons (pe_tup (pa_cons pe_str (pa_cons (pv 8) pa_nil))) pa_nil))))
 pss_nil)))
 (pss_one (ps_if (pt_cmpR (op_neD hr.units) (pv 7) (pe_lst pa_nil) (nomark _))
 (pss_cons (ps_expr (pe_bm PySem.F.plainAttrs_list PySem.F.slot_list_append PySem.F.type_list_append mt_append (pv 5) (pa_cons (pe_call G2 hr2 (by rfl) g2 F2.kp b2 .nil pass0 (pa_cons (pv 0) (pa_cons (pv 7) pa_nil))) pa_nil)))
 (pss_one (ps_set (i := 4) scEns.nd rfl (.inl rfl) (pe_call GL hr2 (by rfl) gl Fl.kp bl .nil pass0 (pa_cons (pv 1) (pa_cons (pv 2) (pa_cons (pv 4) (pa_cons (pe_ix (r := rIxL K) ix_list (pv 5) (pe_un un_neg pe_int) (fun _ _ => rfl)) pa_nil))))))))
 pss_nil)))))
 (pss_one (ps_ret (pe_tup (pa_cons (pe_callTy (r := rTupK K) call_tupK (by rfl) B.tuple PyProof.Rows.boot_tuple (pa_cons (pv 5) pa_nil)) (pa_cons (pv 4) pa_nil))))))), ?_⟩
    obtain ⟨va, lbs, rfl, hva, hlb⟩ := hl
    obtain ⟨ua, rfl, hua⟩ := hu
    have n60 := ok.n1
    have ml : (manysOf l).length = l.length := by unfold manysOf; rw [List.length_map]
    have pvl : pvs.length = Ps.length := Paired.len hpv
    refine ⟨.ref ua, rfl, Nat.zero_le _, fun fl0 nfl => ?_⟩
    have e1 := Evl.Ex.new (o := .lst []) nfl
    have hfl1 : (upd H fl0 (.lst [])) fl0 = some (.lst []) := upd_same
    have nflp : fl0 ≠ p := hp.new1 nfl
    have nflc : fl0 ≠ c := hp.new2 nfl
    have nflpg : pg ≠ fl0 := fun z => by rw [← z, hpg] at nfl; cases nfl
    have hp1 := hp.ex e1
    generalize upd H fl0 (.lst []) = H1 at e1 hfl1 hp1
    refine ⟨.ref ua, .ref fl0, rfl, ?_⟩
    refine ⟨.ref p, rfl, p, c, 10, T, rfl, hp1, by decide, by decide, by omega, fun n H2 n0 n1 x2 hp2 => ⟨n, rfl, by omega, by omega, ?_⟩⟩
    refine for_range (lo := 0) (n := n.toNat) (fun i σ H' => ∃ (ha : Addr) (st' : Word) (fvs : List V) (es : List Ent) (y6 y7 y8 y9 : Option V), σ = [some (.ref p), some (.ref va), some (.ref pg), some (.ref ua), some (.ref ha), some (.ref fl0), y6, y7, y8, y9] ∧ Exx p H H' ∧ PenAt H' p c (T + 1 + (i : Nat)) ∧ H' ha = some (.tup (st'.map V.int)) ∧ st'.length = st.length ∧ InAll st' ((manysOf l).take st.length) ∧ H' fl0 = some (.lst fvs) ∧ Paired (EntAt H') fvs es ∧ es.length ≤ i)
      ⟨ua, st, [], [], none, none, none, none, rfl, (Exx.ex e1).trans x2, by simpa using hp2, x2 _ _ (fun z => hp1.noT _ (z ▸ e1 _ _ hua)) (e1 _ _ hua), rfl, hin, x2 _ _ nflp hfl1, .nil, Nat.le_refl _⟩ ?_ ?_
    · rintro i σ H3 hi ⟨ha, st', fvs, es, y6, y7, y8, y9, rfl, x3, hp3, hha, sl', hin', hfl3, hfv3, el3⟩
      have ei : (0 : Int) + (i : Nat) = (i : Int) := by omega
      rw [ei]
      have tx3 : TX K H H3 := hp.tx x3
      have hva3 := tx3.1 _ _ hva
      have hlb3 : Paired (BoltAt K H3) lbs l := Paired.imp (fun _ _ => BoltAt.mono tx3) hlb
      have hua3 := tx3.2 _ _ hua
      have hpg3 := x3 _ _ npg hpg
      have hpv3 : Paired (PrtAt K H3) pvs Ps := Paired.imp (fun _ _ => PrtAt.tx tx3) hpv
      have lbl : lbs.length = l.length := Paired.len hlb
      -- the steps
      refine ⟨.ref va, rfl, ?_⟩
      refine nopart1 ?_
      refine ⟨.ref ua, rfl, ua, _, rfl, .inr (SqT.of hua3), ((st.map V.int).length : Nat), rfl, ?_⟩
      refine sl_lockT (K := K) (lo := none) (hi := some (((st.map V.int).length : Nat) : Int)) hva3 fun H4 z4 e4 hz4 => ?_
      rw [cut_take, List.length_map] at hz4
      refine ⟨.ref ha, rfl, .ref z4, .ref ha, l.take st.length, st', rfl, LockAt.takeN hz4 (Paired.imp (fun _ _ => BoltAt.mono (TX.ex e4)) hlb3), ok.takeN s1 s2, ⟨ha, rfl, e4 _ _ hha⟩, by rw [manys_take]; exact hin', fun H5 r tus e5 nr hr5 htus => ?_⟩
      have tl480 : tus.length ≤ 480 := by
        rw [Paired.len htus]
        have := stepsUpto_len (ok.takeN s1 s2) st' (l.take st.length).length
        have l2 : (l.take st.length).length ≤ 60 := by rw [List.length_take]; omega
        show (stepsUpto (l.take st.length) st' (l.take st.length).length).length ≤ 480
        omega
      refine ⟨r, rfl, ⟨tus, SqL.of hr5⟩, fun D nD => ?_⟩
      have e35 := e4.trans e5
      have nD3 : H3 D = none := Evl.fresh_back e35 nD
      refine lc_list (K := K) (a := r) (xs := tus) (fun j H' => ∃ bvs : List V, Evl.Ex H3 H' ∧ Evl.Ex H5 H' ∧ H' D = some (.lst bvs) ∧ Paired (EntAt H') bvs (((stepsL (l.take st.length) st').take j).map stepE)) ⟨[], e35.trans (Evl.Ex.new nD), Evl.Ex.new nD, upd_same, .nil⟩ ?_ ?_ ?_
      · rintro j H' _ ⟨_, _, e, _⟩
        exact SqL.of (e _ _ hr5)
      · rintro j x H6 hx ⟨bvs, e6, e56, hD6, hbv6⟩
        obtain ⟨t, ht, ⟨ta, rfl, hta⟩⟩ := Paired.get1 htus hx
        have hta6 := e56 _ _ hta
        have bl6 : bvs.length ≤ 480 := by
          rw [Paired.len hbv6, List.length_map, List.length_take]
          have := Paired.len htus
          omega
        refine ⟨rfl, ?_⟩
        refine ⟨.ref ta, rfl, ta, _, 0, .int t.frm, rfl, rfl, SqT.of hta6, atI_nat (j := 0) rfl, .ref ta, rfl, ta, _, 1, .int t.to_, rfl, rfl, SqT.of hta6, atI_nat (j := 1) rfl, (by show 3 ≤ sizeLine; decide), fun y ny => ?_⟩
        have e7 := Evl.Ex.new (o := .tup [.str "step", .int t.frm, .int t.to_]) ny
        have gy : (upd H6 y (.tup [.str "step", .int t.frm, .int t.to_])) y = some (.tup [.str "step", .int t.frm, .int t.to_]) := upd_same
        generalize upd H6 y (.tup [.str "step", .int t.frm, .int t.to_]) = H7 at e7 gy
        have hD7 := e7 _ _ hD6
        refine ⟨_, hD7, Nat.lt_of_le_of_lt bl6 (by decide), bvs ++ [.ref y], (e6.trans e7).mut nD3, (e56.trans e7).mut nD, upd_same, ?_⟩
        rw [take_succ_get ht, List.map_append]
        exact Paired.imp (fun _ _ => EntAt.put hD7) (paired_app1 (Paired.imp (fun _ _ => EntAt.ex e7) hbv6) ⟨y, rfl, gy⟩)
      · rintro H6 ⟨bvs, e6, e56, hD6, hbv6⟩
        rw [Paired.len htus, List.take_length] at hbv6
        have bl6 : bvs.length ≤ 480 := by
          rw [Paired.len hbv6, List.length_map, ← Paired.len htus]
          exact tl480
        have stepOk : ∀ x ∈ (stepsL (l.take st.length) st').map stepE, BagOk l Ps st.length st' x := fun x hx => by
          obtain ⟨t, ht, rfl⟩ := List.mem_map.mp hx
          obtain ⟨k, b, pp, hk, hf, hb, hpp, g, hg, hto⟩ := mem_stepsUpto ht
          have kl : k < st'.length := (List.getElem?_eq_some_iff.mp hpp).1
          have BO := ((ok.takeN s1 s2).bolts k b hb).gaps g hg
          have hm : ((manysOf l).take st.length)[k]? = some b.many := by
            rw [← manys_take]
            unfold manysOf
            rw [List.getElem?_map, hb]
            rfl
          refine ⟨⟨k, hf, kl⟩, ?_⟩
          show InAll (st'.set t.frm.toNat t.to_) _
          rw [hf, Int.toNat_natCast, hto]
          exact inAll_set hin' hm BO.t0 BO.t1
        have hpg6 := e6 _ _ hpg3
        have hua6 := e6 _ _ hua3
        have hha6 := e6 _ _ hha
        have hfl6 := e6 _ _ hfl3
        have nDfl : fl0 ≠ D := fun z => by rw [← z, hfl3] at nD3; cases nD3
        have nDpg : pg ≠ D := fun z => by rw [← z, hpg3] at nD3; cases nD3
        -- the parts
        refine ⟨.ref pg, rfl, pg, pvs, rfl, .inl (SqL.of hpg6), ((pvs.length : Nat) : Int), rfl, by omega, by omega, ?_⟩
        refine for_range (lo := 0) (n := (((pvs.length : Nat) : Int)).toNat) (fun j σ H' => ∃ (bvs : List V) (bes : List Ent) (y8 y9 : Option V), σ = [some (.ref p), some (.ref va), some (.ref pg), some (.ref ua), some (.ref ha), some (.ref fl0), some (.int (i : Nat)), some (.ref D), y8, y9] ∧ Evl.Ex H3 H' ∧ H' D = some (.lst bvs) ∧ Paired (EntAt H') bvs bes ∧ bes.length ≤ 480 + j ∧ ∀ x ∈ bes, BagOk l Ps st.length st' x)
          ⟨bvs, _, _, _, rfl, e6, hD6, hbv6, by rw [← Paired.len hbv6]; omega, stepOk⟩ ?_ ?_
        · rintro j σ H7 hj ⟨bvs, bes, y8, y9, rfl, e7, hD7, hbv7, bl7, hbok⟩
          have ej : (0 : Int) + (j : Nat) = (j : Int) := by omega
          rw [ej]
          have jl : j < pvs.length := by omega
          have hpj : pvs[j]? = some pvs[j] := List.getElem?_eq_getElem jl
          obtain ⟨x, hx, hxp⟩ := Paired.get1 hpv3 hpj
          obtain ⟨ap, cp, bv, ev, pus, rr, hap, ⟨ba, rfl, hba⟩, ⟨ea, rfl, hea⟩, hcp, hpus⟩ := hxp
          have gx := hPs x (List.mem_of_getElem? hx)
          have ix : atI pvs ((j : Nat) : Int) = some (.ref ap) := atI_nat (by rw [hpj, rr])
          have hpg7 := e7 _ _ hpg3
          have hap7 := e7 _ _ hap
          have hba7 := e7 _ _ hba
          have hua7 := e7 _ _ hua3
          refine ⟨.ref pg, rfl, .int (j : Nat), rfl, pg, pvs, (j : Nat), .ref ap, rfl, rfl, SqL.of hpg7, ix, ap, _, 0, .ref ba, rfl, rfl, SqT.of hap7, atI_nat (j := 0) rfl, ba, _, rfl, .inr (SqT.of hba7), ?_⟩
          refine ⟨.ref ua, rfl, ua, _, rfl, .inr (SqT.of hua7), _, _, rfl, rfl, _, rfl, ?_⟩
          rw [List.length_map, List.length_map]
          refine ite2 (fun hc => ?_) (fun hc => ⟨bvs, bes, _, _, rfl, e7, hD7, hbv7, by omega, hbok⟩)
          have c1 : x.b.length ≤ st.length := by have := of_decide_eq_true hc; omega
          refine ⟨.ref ha, rfl, ?_⟩
          refine nopart1 ?_
          refine ⟨.ref pg, rfl, .int (j : Nat), rfl, pg, pvs, (j : Nat), .ref ap, rfl, rfl, SqL.of hpg7, ix, ap, _, 0, .ref ba, rfl, rfl, SqT.of hap7, atI_nat (j := 0) rfl, ba, _, rfl, .inr (SqT.of hba7), ((x.b.map V.int).length : Nat), rfl, ?_⟩
          refine sl_own (K := K) (lo := none) (hi := some (((x.b.map V.int).length : Nat) : Int)) (e7 _ _ hha) fun H8 z8 e8 hz8 => ?_
          rw [cut_take, ← List.map_take, List.length_map] at hz8
          have e38 := e7.trans e8
          refine ⟨.ref pg, rfl, .int (j : Nat), rfl, pg, pvs, (j : Nat), .ref ap, rfl, rfl, SqL.of (e38 _ _ hpg3), ix, ap, _, 0, .ref ba, rfl, rfl, SqT.of (e38 _ _ hap), atI_nat (j := 0) rfl, ?_⟩
          refine ⟨dW (st'.take x.b.length), dW x.b, dp_W ⟨z8, rfl, hz8⟩, dp_W ⟨ba, rfl, e38 _ _ hba⟩, tup_shaped _, tup_shaped _, _, rfl, ?_⟩
          have hbv8 : Paired (EntAt H8) bvs bes := Paired.imp (fun _ _ => EntAt.ex e8) hbv7
          refine ite2 (fun _ => ?_) (fun hc => ⟨bvs, bes, _, _, rfl, e38, e8 _ _ hD7, hbv8, by omega, hbok⟩)
          have hD8 := e8 _ _ hD7
          refine ⟨.ref D, rfl, .inl ⟨rfl, _, SqL.of hD8⟩, .int (j : Nat), rfl, (by show 2 ≤ sizeLine; decide), fun y ny => ?_⟩
          have e9 := Evl.Ex.new (o := .tup [.str "part", .int (j : Nat)]) ny
          have gy : (upd H8 y (.tup [.str "part", .int (j : Nat)])) y = some (.tup [.str "part", .int (j : Nat)]) := upd_same
          generalize upd H8 y (.tup [.str "part", .int (j : Nat)]) = H9 at e9 gy
          have hD9 := e9 _ _ hD8
          have bvl : bvs.length = bes.length := Paired.len hbv8
          refine ⟨D, bvs, _, rfl, rfl, hD9, Nat.lt_of_le_of_lt (by omega : bvs.length ≤ 600) (by decide), ?_⟩
          refine ⟨bvs ++ [.ref y], bes ++ [.part (j : Nat)], _, _, rfl, (e38.trans e9).mut nD3, upd_same, Paired.imp (fun _ _ => EntAt.put hD9) (paired_app1 (y := .part (j : Nat)) (Paired.imp (fun _ _ => EntAt.ex e9) hbv8) (show EntAt H9 (.ref y) (.part (j : Nat)) from ⟨y, rfl, gy⟩)), by rw [List.length_append, List.length_singleton]; omega, fun en hen => ?_⟩
          rcases List.mem_append.mp hen with h | h
          · exact hbok en h
          · rw [List.mem_singleton.mp h]
            have el := gx.el
            refine ⟨⟨j, x, rfl, hx, by omega⟩, ?_⟩
            show InAll (match Ps[(((j : Nat) : Int)).toNat]? with
              | some p => p.e ++ st'.drop p.e.length
              | none => st') _
            rw [Int.toNat_natCast, hx]
            show InAll (x.e ++ st'.drop x.e.length) _
            rw [el]
            refine inAll_mix hin' (ys := x.e) (j := x.b.length) ?_ (by rw [List.length_take]; omega)
            rw [List.take_take, Nat.min_eq_left c1]
            exact gx.ie
        · rintro σ H7 ⟨bvs, bes, y8, y9, rfl, e7, hD7, hbv7, bl7, hbok⟩
          refine ⟨.ref D, rfl, Nat.zero_le _, fun q0 nq0 => ?_⟩
          have e8 := Evl.Ex.new (o := .lst []) nq0
          have gq : (upd H7 q0 (.lst [])) q0 = some (.lst []) := upd_same
          generalize upd H7 q0 (.lst []) = H8 at e8 gq
          have e38 := e7.trans e8
          have hD8 := e8 _ _ hD7
          have hbv8 : Paired (EntAt H8) bvs bes := Paired.imp (fun _ _ => EntAt.ex e8) hbv7
          have hp8 := hp3.ex e38
          refine ⟨.list (bes.map dE), .list [], .lst (SqL.of hD8) (dp_all (F := EntAt H8) (f := dE) (fun _ _ => dp_E) hbv8), .lst (SqL.of gq) .nil, (lay_lst fun d hd => by
            obtain ⟨y, _, rfl⟩ := List.mem_map.mp hd
            exact lay_E y).shaped (by decide), (by decide), _, rfl, ?_⟩
          rw [eqv_lN, List.isEmpty_map]
          cases bes with
          | nil =>
            refine iteF ?_
            refine ⟨ha, st', fvs, es, _, _, _, _, rfl, x3.trans (Exx.ex e38), hp8.mono (by omega), e38 _ _ hha, sl', hin', e38 _ _ hfl3, Paired.imp (fun _ _ => EntAt.ex e38) hfv3, by omega⟩
          | cons b0 bes0 =>
            refine iteT ?_
            have hfl8 := e38 _ _ hfl3
            have nDp : D ≠ p := hp3.new1 nD3
            have bne : bvs ≠ [] := fun z => by rw [z] at hbv8; cases hbv8
            have bvl : bvs.length = (b0 :: bes0).length := Paired.len hbv8
            refine ⟨.ref fl0, rfl, .inl ⟨rfl, _, SqL.of hfl8⟩, .ref p, rfl, .ref D, rfl, p, c, D, _, bvs, rfl, hp8, by omega, SqL.of hD8, nDp, bne, by omega, fun xv H9 hxv x9 hp9 => ?_⟩
            obtain ⟨ix, hix⟩ := List.mem_iff_getElem?.mp hxv
            obtain ⟨en, hen, hat⟩ := Paired.get1 hbv8 hix
            obtain ⟨lo, hin2⟩ := hbok en (List.mem_of_getElem? hen)
            have hat9 : EntAt H9 xv en := hat.tx (hp8.tx (K := K) x9)
            have hfl9 := x9 _ _ nflp hfl8
            have fvl : fvs.length = es.length := Paired.len hfv3
            have x39 : Exx p H3 H9 := (Exx.ex e38).trans x9
            have tx39 : TX K H3 H9 := hp3.tx x39
            refine ⟨fl0, fvs, _, rfl, rfl, hfl9, Nat.lt_of_le_of_lt (by omega : fvs.length ≤ 10) (by decide), ?_⟩
            have h10 : (upd H9 fl0 (.lst (fvs ++ [xv]))) fl0 = some (.lst (fvs ++ [xv])) := upd_same
            have tx10 : TX K H9 (upd H9 fl0 (.lst (fvs ++ [xv]))) := TX.put hfl9
            have x10 : Exx p H (upd H9 fl0 (.lst (fvs ++ [xv]))) := (x3.trans x39).mut nfl
            have hp10 := hp9.put (o := .lst (fvs ++ [xv])) nflp nflc
            have hpg10 : (upd H9 fl0 (.lst (fvs ++ [xv]))) pg = some (.lst pvs) := by rw [upd_ne nflpg]; exact x39 _ _ npg hpg3
            generalize upd H9 fl0 (.lst (fvs ++ [xv])) = H10 at h10 tx10 x10 hp10 hpg10
            have tx310 := tx39.trans tx10
            have fv10 : Paired (EntAt H10) (fvs ++ [xv]) (es ++ [en]) := paired_app1 (Paired.imp (fun _ _ => EntAt.tx tx310) hfv3) (hat9.tx tx10)
            refine ⟨.ref va, rfl, .ref pg, rfl, .ref ha, rfl, .ref fl0, rfl, 1, rfl, fl0, _, -1, xv, rfl, rfl, SqL.of h10, atI_last _ _, ?_⟩
            refine ⟨.ref va, .ref ha, xv, pg, pvs, Ps, st', en, rfl, hpg10, Paired.imp (fun _ _ => PrtAt.tx tx310) hpv3, ⟨ha, rfl, tx310.2 _ _ hha⟩, hat9.tx tx10, by omega, lo, fun H11 rv e11 hrv => ?_⟩
            obtain ⟨ra, rfl, hra⟩ := hrv
            refine ⟨ra, ledE Ps st' en, fvs ++ [xv], es ++ [en], _, _, _, _, rfl, x10.trans (Exx.ex e11), (hp10.ex e11).mono (by omega), hra, ?_, hin2, e11 _ _ h10, Paired.imp (fun _ _ => EntAt.ex e11) fv10, by rw [List.length_append, List.length_singleton]; omega⟩
            rw [hin2.1, List.length_take]
            omega
    · rintro σ H3 ⟨ha, st', fvs, es, y6, y7, y8, y9, rfl, x3, hp3, hha, sl', hin', hfl3, hfv3, el3⟩
      refine ⟨.ref fl0, rfl, fl0, fvs, rfl, .inl ⟨.inl (.inl hfl3), fun t nt => ?_⟩⟩
      have e4 := Evl.Ex.new (o := .tup fvs) nt
      have gt : (upd H3 t (.tup fvs)) t = some (.tup fvs) := upd_same
      generalize upd H3 t (.tup fvs) = H4 at e4 gt
      refine ⟨.ref ha, rfl, (by show 2 ≤ sizeLine; decide), fun y ny => ?_⟩
      have e5 := Evl.Ex.new (o := .tup [.ref t, .ref ha]) ny
      have e35 := e4.trans e5
      exact q _ y t (.ref ha) fvs es st' (x3.trans (Exx.ex e35)) ((hp3.ex e35).mono (by omega)) upd_same (e5 _ _ gt) (Paired.imp (fun _ _ => EntAt.ex e35) hfv3) ⟨ha, rfl, e35 _ _ hha⟩ sl' hin'
end
end Wb

set_option Elab.async false
set_option linter.all false
set_option maxRecDepth 100000
set_option maxHeartbeats 8000000
set_option pp.maxSteps 900
set_option pp.deepTerms false
namespace Wb
open PySem PySem.Spec PyProof.Rows L2
abbrev sPts : Stmt := topS 56
abbrev nPts : List Str := ["_law_pen_here", "_law_lock_here", "_law_found", "_law_nth", "_law_begin", "_law_old", "_law_entries_here", "_law_end"]
theorem scPts : FnScope nPts ["_law_pen_here", "_law_lock_here"] (defScope sPts) := ⟨rfl, rfl, rfl, by decide +kernel, rfl, by decide +kernel, by decide +kernel⟩
def spPts (K : PySem.W.Frag) : Sp := fun vs H Q _ => ∃ (p c : Addr) (v : V) (T : Int) (l : Lock), vs = [.ref p, v] ∧ PenAt H p c T ∧ T ≤ 8000000 ∧ LockAt K H v l ∧ LockOk l ∧
  ∀ H' r (pvs : List V) (Ps : List Prt), Exx p H H' → PenAt H' p c (T + 2000) → H r = none → H' r = some (.lst pvs) → Paired (PrtAt K H') pvs Ps → Q (.ref r) H'
section
variable {P : Program} {w : World} {K : PySem.W.Frag} {mg : Str → Option Value} {base : Heap}
theorem ok_pts {f f1 f2 fs fm fl fD fe : Addr} {fd fd1 fd2 fds fdm fdl fdD fde : FuncData} (F : Fun K "_law_parts" "_law_parts" sPts f fd) (F1 : Fun K "_law_draw" "_law_draw" sDraw f1 fd1) (b1 : Binds K fd1 ["_law_pen_here", "_law_many"] []) (g1 : mg "_law_draw" = some (.ref f1))
    (F2 : Fun K "_law_pick" "_law_pick" sPick f2 fd2) (b2 : Binds K fd2 ["_law_pen_here", "_law_bag"] []) (g2 : mg "_law_pick" = some (.ref f2))
    (Fs : Fun K "_law_steps" "_law_steps" sSteps fs fds) (bs : Binds K fds ["_law_lock_here", "_law_at"] []) (gs : mg "_law_steps" = some (.ref fs))
    (Fm : Fun K "_law_moved" "_law_moved" sMoved fm fdm) (bm : Binds K fdm ["_law_at", "_law_k", "_law_there"] []) (gm : mg "_law_moved" = some (.ref fm))
    (Fl : Fun K "_law_led" "_law_led" sLed fl fdl) (bl : Binds K fdl ["_law_lock_here", "_law_pages", "_law_here", "_law_entry_here"] []) (gl : mg "_law_led" = some (.ref fl))
    (Fd : Fun K "_law_drawn" "_law_drawn" sDrawn fD fdD) (bd : Binds K fdD ["_law_pen_here", "_law_lock_here"] []) (gd : mg "_law_drawn" = some (.ref fD))
    (Fe : Fun K "_law_entries" "_law_entries" sEns fe fde) (be : Binds K fde ["_law_pen_here", "_law_lock_here", "_law_pages", "_law_begin"] []) (ge : mg "_law_entries" = some (.ref fe)) (B : Bi mg) :
    FnOk P w K mg base CX0 4 f fd ["_law_pen_here", "_law_lock_here"] (spPts K) := by
  have G1 : FnOk P w K mg base CX0 1 f1 fd1 ["_law_pen_here", "_law_many"] spDraw := ok_draw F1 B
  have G2 : FnOk P w K mg base CX0 2 f2 fd2 ["_law_pen_here", "_law_bag"] (spPick K) := ok_pick F2 F1 b1 g1 B
  have GD : FnOk P w K mg base CX0 2 fD fdD ["_law_pen_here", "_law_lock_here"] (spDrawn K) := ok_drawn Fd F1 b1 g1 B
  have GE : FnOk P w K mg base CX0 3 fe fde ["_law_pen_here", "_law_lock_here", "_law_pages", "_law_begin"] (spEns K) := ok_ens Fe F1 b1 g1 F2 b2 g2 Fs bs gs Fm bm gm Fl bl gl B
  refine F.ok scPts (fun vs H Q E h => ?_) (fun cdv A outer s H vs Q E hr h => ?_)
  · obtain ⟨p, c, v, T, l, rfl, _⟩ := h; rfl
  · obtain ⟨p, c, v, T, l, rfl, hp, T8, hl, ok, q⟩ := h
    have hr1 : Room 1 _ := hr.mono (by decide)
    have hr2 : Room 2 _ := hr.mono (by decide)
    refine ⟨_, (pss_cons (ps_set (i := 2) scPts.nd rfl (.inl rfl) (pe_lst pa_nil))
 (pss_cons (ps_for PassesOwn.never rfl (pi_range1 (by rfl) B.range (pa_cons (pe_op op_add pe_int (pe_call G1 hr1 (by rfl) g1 F1.kp b1 .nil pass0 (pa_cons (pv 0) (pa_cons pe_int pa_nil)))) pa_nil)) (pg_name (i := 3) scPts.nd rfl (.inl rfl))
 (pss_cons (ps_set (i := 4) scPts.nd rfl (.inl rfl) (pe_slice (r := rSlA K) sl_tupA (pe_call GD hr2 (by rfl) gd Fd.kp bd .nil pass0 (pa_cons (pv 0) (pa_cons (pv 1) pa_nil))) po_none (po_some (pe_call G2 hr2 (by rfl) g2 F2.kp b2 .nil pass0 (pa_cons (pv 0) (pa_cons (pe_lst (pa_cons (pe_callB call_len_seq (by rfl) B.len PySem.boot_len (pa_cons (pv 1) pa_nil)) (pa_cons (pe_callB call_len_seq (by rfl) B.len PySem.boot_len (pa_cons (pv 1) pa_nil)) (pa_cons (pe_op op_add pe_int (pe_call G1 hr1 (by rfl) g1 F1.kp b1 .nil pass0 (pa_cons (pv 0) (pa_cons (pe_callB call_len_seq (by rfl) B.len PySem.boot_len (pa_cons (pv 1) pa_nil)) pa_nil)))) pa_nil)))) pa_nil))))))
 (Evl.pss_cut (ps_if (PW.pt (pw_and (pt_cmpR (op_neD hr.units) (pv 2) (pe_lst pa_nil) (nomark _)) (pw_and1 (pt_cmpR op_gt (pe_call G1 hr1 (by rfl) g1 F1.kp b1 .nil pass0 (pa_cons (pv 0) (pa_cons pe_int pa_nil))) pe_int (nomark _)))))
 (pss_cons (ps_set (i := 5) scPts.nd rfl (.inl rfl) (pe_ix (r := rIxT K) ix_tup (pe_call G2 hr2 (by rfl) g2 F2.kp b2 .nil pass0 (pa_cons (pv 0) (pa_cons (pv 2) pa_nil))) (pe_call G1 hr1 (by rfl) g1 F1.kp b1 .nil pass0 (pa_cons (pv 0) (pa_cons pe_int pa_nil))) (fun _ _ => rfl)))
 (pss_one (ps_set (i := 4) scPts.nd rfl (.inl rfl) (pe_slice (r := rSlA K) sl_tupA (pe_op (r := rCatA K) op_catA (pv 5) (pe_slice (r := rSlA K) sl_tupA (pv 4) (po_some (pe_callB call_len_seq (by rfl) B.len PySem.boot_len (pa_cons (pv 5) pa_nil))) po_none)) po_none (po_some (pe_callB call_len_seq (by rfl) B.len PySem.boot_len (pa_cons (pv 4) pa_nil)))))))
 pss_nil)
 (pss_cons (ps_asg (pe_call GE hr (by rfl) ge Fe.kp be .nil pass0 (pa_cons (pv 0) (pa_cons (pv 1) (pa_cons (pv 2) (pa_cons (pv 4) pa_nil))))) (pg_tup rfl (pgs_cons (pg_name (i := 6) scPts.nd rfl (.inl rfl)) (pgs_cons (pg_name (i := 7) scPts.nd rfl (.inl rfl)) pgs_nil))))
 (pss_one (ps_expr (pe_bm PySem.F.plainAttrs_list PySem.F.slot_list_append PySem.F.type_list_append mt_append (pv 2) (pa_cons (pe_tup (pa_cons (pv 4) (pa_cons (pv 7) (pa_cons (pv 6) pa_nil)))) pa_nil))))))))
 (pss_one (ps_ret (pv 2))))), ?_⟩
    obtain ⟨va, lbs, rfl, hva, hlb⟩ := hl
    have n60 := ok.n1
    have n0' := ok.n0
    have ml : (manysOf l).length = l.length := by unfold manysOf; rw [List.length_map]
    have lbl : lbs.length = l.length := Paired.len hlb
    refine ⟨Nat.zero_le _, fun fl0 nfl => ?_⟩
    have e1 := Evl.Ex.new (o := .lst []) nfl
    have hfl1 : (upd H fl0 (.lst [])) fl0 = some (.lst []) := upd_same
    have nflp : fl0 ≠ p := hp.new1 nfl
    have nflc : fl0 ≠ c := hp.new2 nfl
    have hp1 := hp.ex e1
    generalize upd H fl0 (.lst []) = H1 at e1 hfl1 hp1
    refine ⟨.ref p, rfl, p, c, 9, T, rfl, hp1, by decide, by decide, by omega, fun n H2 n0 n1 x2 hp2 => ⟨1, n, rfl, rfl, _, rfl, by omega, by omega, ?_⟩⟩
    refine for_range (lo := 0) (n := (1 + n).toNat) (fun i σ H' => ∃ (pvs : List V) (Ps : List Prt) (y3 y4 y5 y6 y7 : Option V), σ = [some (.ref p), some (.ref va), some (.ref fl0), y3, y4, y5, y6, y7] ∧ Exx p H H' ∧ PenAt H' p c (T + 1 + 100 * (i : Nat)) ∧ H' fl0 = some (.lst pvs) ∧ Paired (PrtAt K H') pvs Ps ∧ Ps.length ≤ i ∧ ∀ x ∈ Ps, PGood l x)
      ⟨[], [], none, none, none, none, none, rfl, (Exx.ex e1).trans x2, by simpa using hp2, x2 _ _ nflp hfl1, .nil, Nat.le_refl _, fun x hx => nomatch hx⟩ ?_ ?_
    · rintro i σ H3 hi ⟨pvs, Ps, y3, y4, y5, y6, y7, rfl, x3, hp3, hfl3, hpv3, pl, hPs⟩
      have ei : (0 : Int) + (i : Nat) = (i : Int) := by omega
      rw [ei]
      have tx3 : TX K H H3 := hp.tx x3
      have hva3 := tx3.1 _ _ hva
      have hlb3 : Paired (BoltAt K H3) lbs l := Paired.imp (fun _ _ => BoltAt.mono tx3) hlb
      refine ⟨.ref p, rfl, .ref va, rfl, p, c, .ref va, l, _, rfl, hp3, by omega, ⟨va, lbs, rfl, hva3, hlb3⟩, ok, fun H4 u st x4 hp4 hu hst => ?_⟩
      obtain ⟨ua, rfl, hua⟩ := hu
      refine nopart1 ?_
      have hva4 := (hp3.tx (K := K) x4).1 _ _ hva3
      refine ⟨.ref p, rfl, .ref va, rfl, va, lbs, rfl, .inr hva4, .ref va, rfl, va, lbs, rfl, .inr hva4, .ref p, rfl, .ref va, rfl, va, lbs, rfl, .inr hva4, p, c, ((lbs.length : Nat) : Int), _, rfl, hp4, by omega, by omega, by omega, fun r H5 r0 r1 x5 hp5 => ⟨1, r, rfl, rfl, (by show 3 ≤ sizeLine; decide), fun L nL => ?_⟩⟩
      have e6 := Evl.Ex.new (o := .lst [.int ((lbs.length : Nat) : Int), .int ((lbs.length : Nat) : Int), .int (1 + r)]) nL
      have hL : (upd H5 L (.lst [.int ((lbs.length : Nat) : Int), .int ((lbs.length : Nat) : Int), .int (1 + r)])) L = some (.lst [.int ((lbs.length : Nat) : Int), .int ((lbs.length : Nat) : Int), .int (1 + r)]) := upd_same
      have nLp : L ≠ p := hp5.new1 nL
      have hp6 := hp5.ex e6
      generalize upd H5 L (.lst [.int ((lbs.length : Nat) : Int), .int ((lbs.length : Nat) : Int), .int (1 + r)]) = H6 at e6 hL hp6
      refine ⟨p, c, L, _, _, rfl, hp6, by omega, SqL.of hL, nLp, (by simp), (by show 3 ≤ 1000000; decide), fun mv H7 hmv x7 hp7 => ?_⟩
      obtain ⟨m, rfl, m1, m2⟩ : ∃ m : Nat, mv = .int (m : Nat) ∧ 1 ≤ m ∧ m ≤ l.length := by
        simp only [List.mem_cons, List.not_mem_nil, or_false] at hmv
        rcases hmv with rfl | rfl | rfl
        · exact ⟨lbs.length, rfl, by omega, by omega⟩
        · exact ⟨lbs.length, rfl, by omega, by omega⟩
        · exact ⟨(1 + r).toNat, congrArg V.int (by omega), by omega, by omega⟩
      have x47 : Exx p H4 H7 := x5.trans ((Exx.ex e6).trans x7)
      have hua7 := (hp4.tx (K := K) x47).2 _ _ hua
      refine ⟨(m : Nat), rfl, ?_⟩
      refine sl_own (K := K) (lo := none) (hi := some ((m : Nat) : Int)) hua7 fun H8 ba e8 hba => ?_
      rw [cut_take, ← List.map_take] at hba
      have stl : st.length = l.length := by rw [hst.1, ml]
      have x38 : Exx p H3 H8 := x4.trans (x47.trans (Exx.ex e8))
      have tx38 : TX K H3 H8 := hp3.tx x38
      have hp8 := hp7.ex e8
      have hfl8 := x38 _ _ nflp hfl3
      have hpv8 : Paired (PrtAt K H8) pvs Ps := Paired.imp (fun _ _ => PrtAt.tx tx38) hpv3
      have pvl : pvs.length = Ps.length := Paired.len hpv3
      refine ⟨fun σ H' => ∃ (ba : Addr) (bw : Word) (y5 : Option V), σ = [some (.ref p), some (.ref va), some (.ref fl0), some (.int (i : Nat)), some (.ref ba), y5, y6, y7] ∧ Exx p H8 H' ∧ PenAt H' p c (T + 1 + 100 * (i : Nat) + 70) ∧ H' ba = some (.tup (bw.map V.int)) ∧ bw.length = m ∧ InAll bw ((manysOf l).take m), ?_, ?_⟩
      · have hin0 : InAll (st.take m) ((manysOf l).take m) := inAll_take hst m
        have l0 : (st.take m).length = m := by rw [List.length_take]; omega
        refine ⟨.ref fl0, rfl, Nat.zero_le _, fun q0 nq0 => ?_⟩
        have e9 := Evl.Ex.new (o := .lst []) nq0
        have gq : (upd H8 q0 (.lst [])) q0 = some (.lst []) := upd_same
        generalize upd H8 q0 (.lst []) = H9 at e9 gq
        have hfl9 := e9 _ _ hfl8
        have hp9 := hp8.ex e9
        have hba9 := e9 _ _ hba
        have hpv9 : Paired (PrtAt K H9) pvs Ps := Paired.imp (fun _ _ => PrtAt.ex e9) hpv8
        refine ⟨.list (Ps.map dP), .list [], .lst (SqL.of hfl9) (dp_all (F := PrtAt K H9) (f := dP) (fun _ _ => dp_P) hpv9), .lst (SqL.of gq) .nil, (lay_lst fun d hd => by
            obtain ⟨y, _, rfl⟩ := List.mem_map.mp hd
            exact lay_P y).shaped (by decide), (by decide), _, rfl, ?_⟩
        rw [eqv_lN, List.isEmpty_map]
        by_cases ce : Ps = []
        · subst ce
          refine iteF ?_
          exact ⟨ba, st.take m, _, rfl, Exx.ex e9, hp9.mono (by omega), hba9, l0, hin0⟩
        have cf : Ps.isEmpty = false := by
          cases hP : Ps with
          | nil => exact absurd hP ce
          | cons _ _ => rfl
        rw [cf]
        refine iteT ?_
        refine ⟨.ref p, rfl, p, c, 3, _, rfl, hp9, by decide, by decide, by omega, fun r3 H10 _ _ x10 hp10 => ?_⟩
        have hba10 := (hp9.tx (K := K) x10).2 _ _ hba9
        refine ⟨r3, 0, rfl, rfl, _, rfl, ?_⟩
        refine ite2 (fun _ => ?_) (fun _ => ⟨ba, st.take m, _, rfl, (Exx.ex e9).trans x10, hp10.mono (by omega), hba10, l0, hin0⟩)
        have hfl10 := x10 _ _ nflp hfl9
        have bne : pvs ≠ [] := fun z => by
          rw [z] at pvl
          exact ce (List.eq_nil_of_length_eq_zero pvl.symm)
        refine ⟨.ref p, rfl, .ref fl0, rfl, p, c, fl0, _, pvs, rfl, hp10, by omega, SqL.of hfl10, nflp, bne, by omega, fun xv H11 hxv x11 hp11 => ?_⟩
        obtain ⟨ix, hix⟩ := List.mem_iff_getElem?.mp hxv
        have hpv10 : Paired (PrtAt K H11) pvs Ps := Paired.imp (fun _ _ => PrtAt.tx ((hp9.tx x10).trans (hp10.tx x11))) hpv9
        obtain ⟨x, hx, ⟨ap, cp, bv, ev, pus, rfl, hap, ⟨ba0, rfl, hba0⟩, ⟨ea0, rfl, hea0⟩, _⟩⟩ := Paired.get1 hpv10 hix
        have gx := hPs x (List.mem_of_getElem? hx)
        refine ⟨.ref p, rfl, p, c, 2, _, rfl, hp11, by decide, by decide, by omega, fun i2 H12 i20 i21 x12 hp12 => ?_⟩
        have tx12 : TX K H11 H12 := hp11.tx x12
        obtain ⟨o, ow, hat, ho, owl, hoin⟩ : ∃ (o : Addr) (ow : Word), atI [V.ref ba0, .ref ea0, .ref cp] i2 = some (.ref o) ∧ H12 o = some (.tup (ow.map V.int)) ∧ ow.length ≤ l.length ∧ InAll ow ((manysOf l).take ow.length) := by
          have : i2 = 0 ∨ i2 = 1 := by omega
          rcases this with rfl | rfl
          · exact ⟨ba0, x.b, atI_nat (j := 0) rfl, tx12.2 _ _ hba0, gx.b2, gx.ib⟩
          · exact ⟨ea0, x.e, atI_nat (j := 1) rfl, tx12.2 _ _ hea0, by rw [gx.el]; exact gx.b2, by rw [gx.el]; exact gx.ie⟩
        refine ⟨ap, _, i2, .ref o, rfl, rfl, SqT.of (tx12.2 _ _ hap), hat, ?_⟩
        have hba12 := ((hp10.tx (K := K) x11).trans tx12).2 _ _ hba10
        refine ⟨.ref o, rfl, .ref ba, rfl, .ref o, rfl, o, _, rfl, .inr (SqT.of ho), ((ow.map V.int).length : Nat), rfl, ?_⟩
        refine nopart1 ?_
        refine sl_own (K := K) (lo := some (((ow.map V.int).length : Nat) : Int)) (hi := none) hba12 fun H13 z13 e13 hz13 => ?_
        rw [List.length_map, cut_dropG, ← List.map_drop] at hz13
        refine cat_own (K := K) (e13 _ _ ho) hz13 (Nat.le_trans (by simp only [List.length_map, List.length_drop]; omega : (ow.map V.int).length + (((st.take m).drop ow.length).map V.int).length ≤ 200) (by decide)) fun H14 z14 e14 hz14 => ?_
        rw [← List.map_append] at hz14
        refine nopart1 ?_
        have e124 := e13.trans e14
        refine ⟨.ref ba, rfl, ba, _, rfl, .inr (SqT.of (e124 _ _ hba12)), (((st.take m).map V.int).length : Nat), rfl, ?_⟩
        refine sl_own (K := K) (lo := none) (hi := some ((((st.take m).map V.int).length : Nat) : Int)) hz14 fun H15 z15 e15 hz15 => ?_
        rw [cut_take, ← List.map_take, List.length_map, l0] at hz15
        have xe : Exx p H8 H15 := (Exx.ex e9).trans (x10.trans (x11.trans (x12.trans (Exx.ex (e124.trans e15)))))
        have hc := inAll_cat hoin hin0 (by omega) (by omega)
        have hcl := hc.1
        rw [List.length_take] at hcl
        refine ⟨z15, _, _, rfl, xe, (hp12.ex (e124.trans e15)).mono (by omega), hz15, by rw [hc.1, List.length_take]; omega, hc⟩
      · rintro _ H9 ⟨ba', bw, y5, rfl, x9, hp9, hba9, bwl, hbin⟩
        have x39 : Exx p H3 H9 := x38.trans x9
        have tx39 : TX K H3 H9 := hp3.tx x39
        have hfl9 := x39 _ _ nflp hfl3
        have hpv9 : Paired (PrtAt K H9) pvs Ps := Paired.imp (fun _ _ => PrtAt.tx tx39) hpv3
        refine ⟨.ref p, rfl, .ref va, rfl, .ref fl0, rfl, .ref ba', rfl, p, c, fl0, .ref va, .ref ba', _, l, pvs, Ps, bw, rfl, hp9, by omega, ⟨va, lbs, rfl, tx39.1 _ _ hva3, Paired.imp (fun _ _ => BoltAt.mono tx39) hlb3⟩, ok, nflp, hfl9, hpv9, hPs, by omega, ⟨ba', rfl, hba9⟩, by omega, by omega, by rw [bwl]; exact hbin, fun H10 r et hv us es st' x10 hp10 hr10 het hus hhv sl' hin' => ?_⟩
        refine ⟨r, _, rfl, SqT.of hr10, rfl, _, _, rfl, _, _, rfl, rfl, ?_⟩
        have hfl10 := x10 _ _ nflp hfl9
        refine ⟨.ref fl0, rfl, .inl ⟨rfl, _, SqL.of hfl10⟩, .ref ba', rfl, hv, rfl, .ref et, rfl, (by show 3 ≤ sizeLine; decide), fun y ny => ?_⟩
        have e11 := Evl.Ex.new (o := .tup [.ref ba', hv, .ref et]) ny
        have gy : (upd H10 y (.tup [.ref ba', hv, .ref et])) y = some (.tup [.ref ba', hv, .ref et]) := upd_same
        have hp11 := hp10.ex e11
        generalize upd H10 y (.tup [.ref ba', hv, .ref et]) = H11 at e11 gy hp11
        have hfl11 := e11 _ _ hfl10
        have tx911 : TX K H9 H11 := (hp9.tx x10).trans (TX.ex e11)
        have nw : PrtAt K H11 (.ref y) ⟨bw, st', es⟩ := ⟨y, et, .ref ba', hv, us, rfl, gy, ⟨ba', rfl, tx911.2 _ _ hba9⟩, hhv.mono (TX.ex e11), e11 _ _ het, Paired.imp (fun _ _ => EntAt.ex e11) hus⟩
        refine ⟨fl0, pvs, _, rfl, rfl, hfl11, Nat.lt_of_le_of_lt (by omega : pvs.length ≤ 20) (by decide), ?_⟩
        refine ⟨pvs ++ [.ref y], Ps ++ [⟨bw, st', es⟩], _, _, _, _, _, rfl, (x3.trans (x39.trans (x10.trans (Exx.ex e11)))).mut nfl, (hp11.put nflp nflc).mono (by omega), upd_same, Paired.imp (fun _ _ => PrtAt.tx (TX.put hfl11)) (paired_app1 (Paired.imp (fun _ _ => PrtAt.tx tx911) hpv9) nw), by rw [List.length_append, List.length_singleton]; omega, fun x hx => ?_⟩
        rcases List.mem_append.mp hx with h | h
        · exact hPs x h
        · rw [List.mem_singleton.mp h]
          rw [bwl] at hin' sl'
          refine ⟨by show 1 ≤ bw.length; omega, by show bw.length ≤ _; omega, by show st'.length = bw.length; omega, by show InAll bw ((manysOf l).take bw.length); rw [bwl]; exact hbin, by show InAll st' ((manysOf l).take bw.length); rw [bwl]; exact hin'⟩
    · rintro σ H3 ⟨pvs, Ps, y3, y4, y5, y6, y7, rfl, x3, hp3, hfl3, hpv3, pl, hPs⟩
      exact ⟨.ref fl0, rfl, q H3 fl0 pvs Ps x3 (hp3.mono (by omega)) nfl hfl3 hpv3⟩
end
end Wb

set_option Elab.async false
set_option linter.all false
set_option maxRecDepth 100000
set_option maxHeartbeats 8000000
set_option pp.maxSteps 900
set_option pp.deepTerms false
namespace Wb
open PySem PySem.Spec PyProof.Rows L2
abbrev sLpd : Stmt := topS 57
abbrev nLpd : List Str := ["_law_pen_here", "_law_lock_here", "_law_here", "_law_loop", "_law_found", "_law_some", "_law_often", "_law_deep", "_law_k", "_law_begin", "_law_end"]
theorem scLpd : FnScope nLpd ["_law_pen_here", "_law_lock_here"] (defScope sLpd) := ⟨rfl, rfl, rfl, by decide +kernel, rfl, by decide +kernel, by decide +kernel⟩
theorem paired_rep {α β : Type} {R : α → β → Prop} {x : α} {y : β} (h : R x y) : ∀ k : Nat, Paired R (List.replicate k [x]).flatten (List.replicate k y)
  | 0 => .nil
  | k + 1 => by
    rw [List.replicate_succ, List.flatten_cons, List.replicate_succ]
    exact .cons h (paired_rep h k)
/-- the parts made so far, each with one place behind -/
def FoundS (K : PySem.W.Frag) (H0 : Hp) (p c fl : Addr) (T : Int) (n : Nat) (H' : Hp) : Prop := ∃ (pvs : List V) (Ps : List Prt), Exx p H0 H' ∧ PenAt H' p c T ∧ H' fl = some (.lst pvs) ∧ Paired (PrtAt K H') pvs Ps ∧ Ps.length ≤ n ∧ 1 ≤ Ps.length ∧ ∀ x ∈ Ps, x.e.length = 1
theorem FoundS.add {K : PySem.W.Frag} {H0 H' H2 : Hp} {p c fl : Addr} {T : Int} {n : Nat} {pvs : List V} {Ps : List Prt} (nfl : H0 fl = none) (nflp : fl ≠ p) (nflc : fl ≠ c)
    (hx : Exx p H0 H') (hp : PenAt H' p c T) (hf : H' fl = some (.lst pvs)) (hpv : Paired (PrtAt K H') pvs Ps) (hl : Ps.length ≤ n) (h1 : ∀ x ∈ Ps, x.e.length = 1)
    (e : Evl.Ex H' H2) {y : V} {x : Prt} (hy : PrtAt K H2 y x) (x1 : x.e.length = 1) : FoundS K H0 p c fl T (n + 1) (upd H2 fl (.lst (pvs ++ [y]))) := by
  have hf2 := e _ _ hf
  refine ⟨pvs ++ [y], Ps ++ [x], (hx.trans (Exx.ex e)).mut nfl, (hp.ex e).put nflp nflc, upd_same, Paired.imp (fun _ _ => PrtAt.tx (TX.put hf2)) (paired_app1 (Paired.imp (fun _ _ => PrtAt.ex e) hpv) hy), by rw [List.length_append, List.length_singleton]; omega, by rw [List.length_append, List.length_singleton]; omega, fun z hz => ?_⟩
  rcases List.mem_append.mp hz with h | h
  · exact h1 z h
  · rw [List.mem_singleton.mp h]; exact x1
def spLpd (K : PySem.W.Frag) : Sp := fun vs H Q _ => ∃ (p c : Addr) (v : V) (T : Int) (l : Lock), vs = [.ref p, v] ∧ PenAt H p c T ∧ T ≤ 8000000 ∧ LockAt K H v l ∧ LockOk l ∧
  ∀ H' r (pvs : List V) (Ps : List Prt), Exx p H H' → PenAt H' p c (T + 100) → H r = none → H' r = some (.lst pvs) → Paired (PrtAt K H') pvs Ps → Q (.ref r) H'
section
variable {P : Program} {w : World} {K : PySem.W.Frag} {mg : Str → Option Value} {base : Heap}
theorem ok_lpd {f f1 f2 fD : Addr} {fd fd1 fd2 fdD : FuncData} (F : Fun K "_law_looped" "_law_looped" sLpd f fd) (F1 : Fun K "_law_draw" "_law_draw" sDraw f1 fd1) (b1 : Binds K fd1 ["_law_pen_here", "_law_many"] []) (g1 : mg "_law_draw" = some (.ref f1))
    (F2 : Fun K "_law_pick" "_law_pick" sPick f2 fd2) (b2 : Binds K fd2 ["_law_pen_here", "_law_bag"] []) (g2 : mg "_law_pick" = some (.ref f2))
    (Fd : Fun K "_law_drawn" "_law_drawn" sDrawn fD fdD) (bd : Binds K fdD ["_law_pen_here", "_law_lock_here"] []) (gd : mg "_law_drawn" = some (.ref fD)) (B : Bi mg) :
    FnOk P w K mg base CX0 3 f fd ["_law_pen_here", "_law_lock_here"] (spLpd K) := by
  have G1 : FnOk P w K mg base CX0 1 f1 fd1 ["_law_pen_here", "_law_many"] spDraw := ok_draw F1 B
  have G2 : FnOk P w K mg base CX0 2 f2 fd2 ["_law_pen_here", "_law_bag"] (spPick K) := ok_pick F2 F1 b1 g1 B
  have GD : FnOk P w K mg base CX0 2 fD fdD ["_law_pen_here", "_law_lock_here"] (spDrawn K) := ok_drawn Fd F1 b1 g1 B
  refine F.ok scLpd (fun vs H Q E h => ?_) (fun cdv A outer s H vs Q E hr h => ?_)
  · obtain ⟨p, c, v, T, l, rfl, _⟩ := h; rfl
  · obtain ⟨p, c, v, T, l, rfl, hp, T8, hl, ok, q⟩ := h
    have hr1 : Room 1 _ := hr.mono (by decide)
    have hr2 : Room 2 _ := hr
    refine ⟨_, (pss_cons (ps_par (by rfl) scLpd.nd (i := 2) (j := 3) rfl rfl (by decide) rfl rfl (pa_cons (pe_call GD hr2 (by rfl) gd Fd.kp bd .nil pass0 (pa_cons (pv 0) (pa_cons (pv 1) pa_nil))) (pa_cons (pe_lst (pa_cons (pe_tup (pa_cons pe_str (pa_cons pe_int (pa_cons pe_int pa_nil)))) (pa_cons (pe_tup (pa_cons pe_str (pa_cons pe_int (pa_cons pe_int pa_nil)))) pa_nil))) pa_nil)) (by rfl))
 (pss_cons (ps_set (i := 4) scLpd.nd rfl (.inl rfl) (pe_lst (pa_cons (pe_tup (pa_cons (pe_tup (pa_cons pe_int pa_nil)) (pa_cons (pe_tup (pa_cons pe_int pa_nil)) (pa_cons (pe_callTy (r := rTupK K) call_tupK (by rfl) B.tuple PyProof.Rows.boot_tuple (pa_cons (pv 3) pa_nil)) pa_nil)))) pa_nil)))
 (pss_cons (ps_set (i := 5) scLpd.nd rfl (.inl rfl) (pe_lst (pa_cons (pe_tup (pa_cons pe_int (pa_cons pe_int pa_nil))) (pa_cons (pe_tup (pa_cons pe_int (pa_cons pe_int pa_nil))) (pa_cons (pe_tup (pa_cons pe_int (pa_cons pe_int pa_nil))) (pa_cons (pe_tup (pa_cons pe_int (pa_cons pe_int pa_nil))) (pa_cons (pe_tup (pa_cons pe_int (pa_cons pe_int pa_nil))) (pa_cons (pe_tup (pa_cons pe_int (pa_cons pe_int pa_nil))) (pa_cons (pe_tup (pa_cons pe_int (pa_cons pe_int pa_nil))) (pa_cons (pe_tup (pa_cons pe_int (pa_cons pe_int pa_nil))) pa_nil))))))))))
 (Evl.pss_cut (ps_asg (pe_call G2 hr2 (by rfl) g2 F2.kp b2 .nil pass0 (pa_cons (pv 0) (pa_cons (pv 5) pa_nil))) (pg_tup rfl (pgs_cons (pg_name (i := 6) scLpd.nd rfl (.inl rfl)) (pgs_cons (pg_name (i := 7) scLpd.nd rfl (.inl rfl)) pgs_nil))))
 (Evl.pss_cut (ps_if (pt_cmpR op_eq (pv 6) pe_int (nomark _))
 (pss_one (ps_expr (pe_bm PySem.F.plainAttrs_list PySem.F.slot_list_append PySem.F.type_list_append mt_append (pv 4) (pa_cons (pe_tup (pa_cons (pe_tup (pa_cons pe_int pa_nil)) (pa_cons (pe_tup (pa_cons pe_int pa_nil)) (pa_cons (pe_op (r := rRepT K) op_repT (pe_tup (pa_cons (pe_tup (pa_cons pe_str (pa_cons pe_int pa_nil))) pa_nil)) pe_int) pa_nil)))) pa_nil))))
 pss_nil)
 (pss_cons (ps_for PassesOwn.never rfl (pi_range1 (by rfl) B.range (pa_cons (pv 7) pa_nil)) (pg_name (i := 8) scLpd.nd rfl (.inl rfl))
 (pss_one (ps_expr (pe_bm PySem.F.plainAttrs_list PySem.F.slot_list_append PySem.F.type_list_append mt_append (pv 4) (pa_cons (pe_tup (pa_cons (pe_tup (pa_cons pe_int pa_nil)) (pa_cons (pe_tup (pa_cons pe_int pa_nil)) (pa_cons (pe_op (r := rRepT K) op_repT (pe_tup (pa_cons (pe_tup (pa_cons pe_str (pa_cons (pe_op op_sub (pe_callB call_len_seq (by rfl) B.len PySem.boot_len (pa_cons (pv 4) pa_nil)) pe_int) pa_nil))) pa_nil)) (pv 6)) pa_nil)))) pa_nil)))))
 (Evl.pss_cut (ps_if (PW.pt (pw_and (pt_cmpR op_eq (pv 6) pe_int (nomark _)) (pw_and1 (pt_cmpR op_eq (pe_call G1 hr1 (by rfl) g1 F1.kp b1 .nil pass0 (pa_cons (pv 0) (pa_cons pe_int pa_nil))) pe_int (nomark _)))))
 (pss_one (ps_expr (pe_bm PySem.F.plainAttrs_list PySem.F.slot_list_append PySem.F.type_list_append mt_append (pv 4) (pa_cons (pe_tup (pa_cons (pe_tup (pa_cons pe_int pa_nil)) (pa_cons (pe_tup (pa_cons pe_int pa_nil)) (pa_cons (pe_tup (pa_cons (pe_tup (pa_cons pe_str (pa_cons (pe_op op_sub (pe_callB call_len_seq (by rfl) B.len PySem.boot_len (pa_cons (pv 4) pa_nil)) pe_int) pa_nil))) (pa_cons (pe_tup (pa_cons pe_str (pa_cons pe_int (pa_cons pe_int pa_nil)))) pa_nil))) pa_nil)))) pa_nil))))
 pss_nil)
 (pss_cons (ps_par (by rfl) scLpd.nd (i := 9) (j := 10) rfl rfl (by decide) rfl rfl (pa_cons (pe_op (r := rCatA K) op_catA (pe_tup (pa_cons pe_int pa_nil)) (pe_slice (r := rSlA K) sl_tupA (pv 2) (po_some pe_int) po_none)) (pa_cons (pe_op (r := rCatA K) op_catA (pe_ix (r := rIxT K) ix_tup (pe_ix (r := rIxL K) ix_list (pv 4) (pe_un un_neg pe_int) (fun _ _ => rfl)) pe_int (fun _ _ => rfl)) (pe_slice (r := rSlA K) sl_tupA (pv 2) (po_some pe_int) po_none)) pa_nil)) (by rfl))
 (pss_one (ps_ret (pe_op op_cat (pv 4) (pe_lst (pa_cons (pe_tup (pa_cons (pv 9) (pa_cons (pv 10) (pa_cons (pe_tup (pa_cons (pe_tup (pa_cons pe_str (pa_cons (pe_op op_sub (pe_callB call_len_seq (by rfl) B.len PySem.boot_len (pa_cons (pv 4) pa_nil)) pe_int) pa_nil))) pa_nil)) pa_nil)))) pa_nil))))))))))))), ?_⟩
    obtain ⟨va, lbs, rfl, hva, hlb⟩ := hl
    have n60 := ok.n1
    have ml : (manysOf l).length = l.length := by unfold manysOf; rw [List.length_map]
    refine ⟨.ref p, rfl, .ref va, rfl, p, c, .ref va, l, T, rfl, hp, by omega, ⟨va, lbs, rfl, hva, hlb⟩, ok, fun H1 u st x1 hp1 hu hst => ?_⟩
    obtain ⟨ua, rfl, hua⟩ := hu
    have stl : st.length = l.length := by rw [hst.1, ml]
    refine ⟨(by show 3 ≤ sizeLine; decide), fun a1 na1 => ?_⟩
    have f1 := Evl.Ex.new (o := .tup [.str "step", .int 0, .int 1]) na1
    have k1 : (upd H1 a1 (.tup [.str "step", .int 0, .int 1])) a1 = some (.tup [.str "step", .int 0, .int 1]) := upd_same
    generalize upd H1 a1 (.tup [.str "step", .int 0, .int 1]) = Ha at f1 k1
    refine ⟨(by show 3 ≤ sizeLine; decide), fun a2 na2 => ?_⟩
    have f2 := Evl.Ex.new (o := .tup [.str "step", .int 0, .int 0]) na2
    have k2 : (upd Ha a2 (.tup [.str "step", .int 0, .int 0])) a2 = some (.tup [.str "step", .int 0, .int 0]) := upd_same
    generalize upd Ha a2 (.tup [.str "step", .int 0, .int 0]) = Hb at f2 k2
    refine ⟨(by show 2 ≤ sizeLine; decide), fun lp nlp => ?_⟩
    have f3 := Evl.Ex.new (o := .lst [.ref a1, .ref a2]) nlp
    have k3 : (upd Hb lp (.lst [.ref a1, .ref a2])) lp = some (.lst [.ref a1, .ref a2]) := upd_same
    generalize upd Hb lp (.lst [.ref a1, .ref a2]) = Hc at f3 k3
    refine ⟨.ref ua, .ref lp, rfl, ?_⟩
    -- the first part
    refine ⟨(by show 1 ≤ sizeLine; decide), fun b0 nb0 => ?_⟩
    have f4 := Evl.Ex.new (o := .tup [.int 0]) nb0
    have k4 : (upd Hc b0 (.tup [.int 0])) b0 = some (.tup (([0] : Word).map V.int)) := upd_same
    generalize upd Hc b0 (.tup [.int 0]) = Hd at f4 k4
    refine ⟨(by show 1 ≤ sizeLine; decide), fun e0 ne0 => ?_⟩
    have f5 := Evl.Ex.new (o := .tup [.int 0]) ne0
    have k5 : (upd Hd e0 (.tup [.int 0])) e0 = some (.tup (([0] : Word).map V.int)) := upd_same
    generalize upd Hd e0 (.tup [.int 0]) = He at f5 k5
    refine ⟨.ref lp, rfl, lp, _, rfl, .inl ⟨.inl (.inl ((f4.trans f5) _ _ k3)), fun tl ntl => ?_⟩⟩
    have f6 := Evl.Ex.new (o := .tup [.ref a1, .ref a2]) ntl
    have k6 : (upd He tl (.tup [.ref a1, .ref a2])) tl = some (.tup [.ref a1, .ref a2]) := upd_same
    generalize upd He tl (.tup [.ref a1, .ref a2]) = Hf at f6 k6
    refine ⟨(by show 3 ≤ sizeLine; decide), fun y0 ny0 => ?_⟩
    have f7 := Evl.Ex.new (o := .tup [.ref b0, .ref e0, .ref tl]) ny0
    have k7 : (upd Hf y0 (.tup [.ref b0, .ref e0, .ref tl])) y0 = some (.tup [.ref b0, .ref e0, .ref tl]) := upd_same
    generalize upd Hf y0 (.tup [.ref b0, .ref e0, .ref tl]) = Hg at f7 k7
    refine ⟨(by show 1 ≤ sizeLine; decide), fun fl nfl => ?_⟩
    have f8 := Evl.Ex.new (o := .lst [.ref y0]) nfl
    have k8 : (upd Hg fl (.lst [.ref y0])) fl = some (.lst [.ref y0]) := upd_same
    have e1g : Evl.Ex H1 Hg := f1.trans (f2.trans (f3.trans (f4.trans (f5.trans (f6.trans f7)))))
    have nflp : fl ≠ p := (hp1.ex e1g).new1 nfl
    have nflc : fl ≠ c := (hp1.ex e1g).new2 nfl
    have nfl0 : H fl = none := fresh_exx x1 hp1.here (Evl.fresh_back e1g nfl)
    generalize upd Hg fl (.lst [.ref y0]) = H4 at f8 k8
    have e14 := e1g.trans f8
    have first : PrtAt K H4 (.ref y0) ⟨[0], [0], [.step 0 1, .step 0 0]⟩ := ⟨y0, tl, .ref b0, .ref e0, [.ref a1, .ref a2], rfl, f8 _ _ k7, ⟨b0, rfl, (f5.trans (f6.trans (f7.trans f8))) _ _ k4⟩, ⟨e0, rfl, (f6.trans (f7.trans f8)) _ _ k5⟩, (f7.trans f8) _ _ k6,
      .cons (show EntAt H4 (.ref a1) (.step 0 1) from ⟨a1, rfl, (f2.trans (f3.trans (f4.trans (f5.trans (f6.trans (f7.trans f8)))))) _ _ k1⟩) (.cons (show EntAt H4 (.ref a2) (.step 0 0) from ⟨a2, rfl, (f3.trans (f4.trans (f5.trans (f6.trans (f7.trans f8))))) _ _ k2⟩) .nil)⟩
    -- how often, how deep
    refine ⟨(by show 2 ≤ sizeLine; decide), fun t0 nt0 => ?_⟩
    have es0 := Evl.Ex.new (o := .tup [.int 60, .int 3]) nt0
    have ks0 : (upd H4 t0 (.tup [.int 60, .int 3])) t0 = some (.tup [.int 60, .int 3]) := upd_same
    generalize upd H4 t0 (.tup [.int 60, .int 3]) = Hs0 at es0 ks0
    refine ⟨(by show 2 ≤ sizeLine; decide), fun t1 nt1 => ?_⟩
    have es1 := Evl.Ex.new (o := .tup [.int 60, .int 167]) nt1
    have ks1 : (upd Hs0 t1 (.tup [.int 60, .int 167])) t1 = some (.tup [.int 60, .int 167]) := upd_same
    generalize upd Hs0 t1 (.tup [.int 60, .int 167]) = Hs1 at es1 ks1
    refine ⟨(by show 2 ≤ sizeLine; decide), fun t2 nt2 => ?_⟩
    have es2 := Evl.Ex.new (o := .tup [.int 60, .int 168]) nt2
    have ks2 : (upd Hs1 t2 (.tup [.int 60, .int 168])) t2 = some (.tup [.int 60, .int 168]) := upd_same
    generalize upd Hs1 t2 (.tup [.int 60, .int 168]) = Hs2 at es2 ks2
    refine ⟨(by show 2 ≤ sizeLine; decide), fun t3 nt3 => ?_⟩
    have es3 := Evl.Ex.new (o := .tup [.int 60, .int 169]) nt3
    have ks3 : (upd Hs2 t3 (.tup [.int 60, .int 169])) t3 = some (.tup [.int 60, .int 169]) := upd_same
    generalize upd Hs2 t3 (.tup [.int 60, .int 169]) = Hs3 at es3 ks3
    refine ⟨(by show 2 ≤ sizeLine; decide), fun t4 nt4 => ?_⟩
    have es4 := Evl.Ex.new (o := .tup [.int 60, .int 170]) nt4
    have ks4 : (upd Hs3 t4 (.tup [.int 60, .int 170])) t4 = some (.tup [.int 60, .int 170]) := upd_same
    generalize upd Hs3 t4 (.tup [.int 60, .int 170]) = Hs4 at es4 ks4
    refine ⟨(by show 2 ≤ sizeLine; decide), fun t5 nt5 => ?_⟩
    have es5 := Evl.Ex.new (o := .tup [.int 10, .int 299]) nt5
    have ks5 : (upd Hs4 t5 (.tup [.int 10, .int 299])) t5 = some (.tup [.int 10, .int 299]) := upd_same
    generalize upd Hs4 t5 (.tup [.int 10, .int 299]) = Hs5 at es5 ks5
    refine ⟨(by show 2 ≤ sizeLine; decide), fun t6 nt6 => ?_⟩
    have es6 := Evl.Ex.new (o := .tup [.int 10, .int 299]) nt6
    have ks6 : (upd Hs5 t6 (.tup [.int 10, .int 299])) t6 = some (.tup [.int 10, .int 299]) := upd_same
    generalize upd Hs5 t6 (.tup [.int 10, .int 299]) = Hs6 at es6 ks6
    refine ⟨(by show 2 ≤ sizeLine; decide), fun t7 nt7 => ?_⟩
    have es7 := Evl.Ex.new (o := .tup [.int 10, .int 299]) nt7
    have ks7 : (upd Hs6 t7 (.tup [.int 10, .int 299])) t7 = some (.tup [.int 10, .int 299]) := upd_same
    generalize upd Hs6 t7 (.tup [.int 10, .int 299]) = Hs7 at es7 ks7
    refine ⟨(by show 8 ≤ sizeLine; decide), fun so nso => ?_⟩
    have eL := Evl.Ex.new (o := .lst [.ref t0, .ref t1, .ref t2, .ref t3, .ref t4, .ref t5, .ref t6, .ref t7]) nso
    have hso : (upd Hs7 so (.lst [.ref t0, .ref t1, .ref t2, .ref t3, .ref t4, .ref t5, .ref t6, .ref t7])) so = some (.lst [.ref t0, .ref t1, .ref t2, .ref t3, .ref t4, .ref t5, .ref t6, .ref t7]) := upd_same
    have e47 : Evl.Ex H4 Hs7 := (es0.trans (es1.trans (es2.trans (es3.trans (es4.trans (es5.trans (es6.trans es7)))))))
    have hpS := hp1.ex (e14.trans e47)
    have nsop : so ≠ p := hpS.new1 nso
    have hp5 := hpS.ex eL
    generalize upd Hs7 so (.lst [.ref t0, .ref t1, .ref t2, .ref t3, .ref t4, .ref t5, .ref t6, .ref t7]) = H5 at eL hso hp5
    have e45 := e47.trans eL
    refine ⟨fun σ H' => ∃ a b : Nat, σ = [some (.ref p), some (.ref va), some (.ref ua), some (.ref lp), some (.ref fl), some (.ref so), some (.int (a : Nat)), some (.int (b : Nat)), none, none, none] ∧ 2 ≤ a ∧ a ≤ 60 ∧ b ≤ 300 ∧ FoundS K H p c fl (T + 61) 1 H' ∧ H' ua = some (.tup (st.map V.int)), ?_, ?_⟩
    · refine ⟨.ref p, rfl, .ref so, rfl, p, c, so, _, _, rfl, hp5, by omega, SqL.of hso, nsop, by simp, (by show 8 ≤ 1000000; decide), fun xv H6 hxv x6 hp6 => ?_⟩
      obtain ⟨t, a, b, rfl, ht, ha2, ha60, hb⟩ : ∃ (t : Addr) (a b : Nat), xv = .ref t ∧ H5 t = some (.tup [.int (a : Nat), .int (b : Nat)]) ∧ 2 ≤ a ∧ a ≤ 60 ∧ b ≤ 300 := by
        simp only [List.mem_cons, List.not_mem_nil, or_false] at hxv
        rcases hxv with rfl | rfl | rfl | rfl | rfl | rfl | rfl | rfl
        · exact ⟨t0, 60, 3, rfl, (es1.trans (es2.trans (es3.trans (es4.trans (es5.trans (es6.trans (es7.trans eL))))))) _ _ ks0, by decide, by decide, by decide⟩
        · exact ⟨t1, 60, 167, rfl, (es2.trans (es3.trans (es4.trans (es5.trans (es6.trans (es7.trans eL)))))) _ _ ks1, by decide, by decide, by decide⟩
        · exact ⟨t2, 60, 168, rfl, (es3.trans (es4.trans (es5.trans (es6.trans (es7.trans eL))))) _ _ ks2, by decide, by decide, by decide⟩
        · exact ⟨t3, 60, 169, rfl, (es4.trans (es5.trans (es6.trans (es7.trans eL)))) _ _ ks3, by decide, by decide, by decide⟩
        · exact ⟨t4, 60, 170, rfl, (es5.trans (es6.trans (es7.trans eL))) _ _ ks4, by decide, by decide, by decide⟩
        · exact ⟨t5, 10, 299, rfl, (es6.trans (es7.trans eL)) _ _ ks5, by decide, by decide, by decide⟩
        · exact ⟨t6, 10, 299, rfl, (es7.trans eL) _ _ ks6, by decide, by decide, by decide⟩
        · exact ⟨t7, 10, 299, rfl, eL _ _ ks7, by decide, by decide, by decide⟩
      have x46 : Exx p H4 H6 := (Exx.ex e45).trans x6
      have hp4 := hp1.ex e14
      have tx46 : TX K H4 H6 := hp4.tx x46
      have x06 : Exx p H H6 := x1.trans ((Exx.ex e14).trans x46)
      refine ⟨t, _, rfl, SqT.of ((hp5.tx (K := K) x6).2 _ _ ht), rfl, _, _, rfl, _, _, rfl, rfl, ?_⟩
      refine ⟨a, b, rfl, ha2, ha60, hb, ⟨[.ref y0], [_], x06, hp6.mono (by omega), x46 _ _ nflp k8, .cons (first.tx tx46) .nil, by simp, by simp, fun x hx => by rw [List.mem_singleton.mp hx]; rfl⟩, tx46.2 _ _ (e14 _ _ hua)⟩
    rintro _ H6 ⟨a, b, rfl, ha2, ha60, hb, fs6, hua6⟩
    refine ⟨fun σ H' => σ = [some (.ref p), some (.ref va), some (.ref ua), some (.ref lp), some (.ref fl), some (.ref so), some (.int (a : Nat)), some (.int (b : Nat)), none, none, none] ∧ FoundS K H p c fl (T + 61) 2 H' ∧ H' ua = some (.tup (st.map V.int)), ?_, ?_⟩
    · refine ⟨.int (a : Nat), rfl, rfl, _, rfl, ?_⟩
      obtain ⟨pvs, Ps, fx, fp, ff, fpv, fl', f1', fe⟩ := fs6
      refine ite2 (fun _ => ?_) (fun _ => ⟨rfl, ⟨pvs, Ps, fx, fp, ff, fpv, by omega, f1', fe⟩, hua6⟩)
      refine ⟨.ref fl, rfl, .inl ⟨rfl, _, SqL.of ff⟩, (by show 1 ≤ sizeLine; decide), fun b1 nb1 => ?_⟩
      have g4 := Evl.Ex.new (o := .tup [.int 0]) nb1
      have j4 : (upd H6 b1 (.tup [.int 0])) b1 = some (.tup (([0] : Word).map V.int)) := upd_same
      generalize upd H6 b1 (.tup [.int 0]) = Hi at g4 j4
      refine ⟨(by show 1 ≤ sizeLine; decide), fun e1 ne1 => ?_⟩
      have g5 := Evl.Ex.new (o := .tup [.int 0]) ne1
      have j5 : (upd Hi e1 (.tup [.int 0])) e1 = some (.tup (([0] : Word).map V.int)) := upd_same
      generalize upd Hi e1 (.tup [.int 0]) = Hj at g5 j5
      refine ⟨(by show 2 ≤ sizeLine; decide), fun w1 nw1 => ?_⟩
      have g6 := Evl.Ex.new (o := .tup [.str "part", .int 0]) nw1
      have j6 : (upd Hj w1 (.tup [.str "part", .int 0])) w1 = some (.tup [.str "part", .int 0]) := upd_same
      generalize upd Hj w1 (.tup [.str "part", .int 0]) = Hk at g6 j6
      refine ⟨(by show 1 ≤ sizeLine; decide), fun w2 nw2 => ?_⟩
      have g7 := Evl.Ex.new (o := .tup [.ref w1]) nw2
      have j7 : (upd Hk w2 (.tup [.ref w1])) w2 = some (.tup [.ref w1]) := upd_same
      generalize upd Hk w2 (.tup [.ref w1]) = Hl at g7 j7
      refine ⟨w2, 5, _, rfl, rfl, SqT.of j7, by simp, by decide, by decide, (by show 1 ≤ 1000; decide), fun w3 nw3 => ?_⟩
      have g8 := Evl.Ex.new (o := .tup (List.replicate (5 : Int).toNat [V.ref w1]).flatten) nw3
      have j8 : (upd Hl w3 (.tup (List.replicate (5 : Int).toNat [V.ref w1]).flatten)) w3 = some (.tup (List.replicate 5 [V.ref w1]).flatten) := upd_same
      generalize upd Hl w3 (.tup (List.replicate (5 : Int).toNat [V.ref w1]).flatten) = Hm at g8 j8
      refine ⟨(by show 3 ≤ sizeLine; decide), fun y1 ny1 => ?_⟩
      have g9 := Evl.Ex.new (o := .tup [.ref b1, .ref e1, .ref w3]) ny1
      have j9 : (upd Hm y1 (.tup [.ref b1, .ref e1, .ref w3])) y1 = some (.tup [.ref b1, .ref e1, .ref w3]) := upd_same
      generalize upd Hm y1 (.tup [.ref b1, .ref e1, .ref w3]) = Hn at g9 j9
      have e6n : Evl.Ex H6 Hn := g4.trans (g5.trans (g6.trans (g7.trans (g8.trans g9))))
      have pl := Paired.len fpv
      refine ⟨fl, pvs, _, rfl, rfl, e6n _ _ ff, Nat.lt_of_le_of_lt (by omega : pvs.length ≤ 20) (by decide), rfl, ?_, ?_⟩
      · exact FoundS.add nfl0 nflp nflc fx fp ff fpv fl' fe e6n (x := ⟨[0], [0], List.replicate 5 (.part 0)⟩) ⟨y1, w3, .ref b1, .ref e1, _, rfl, j9, ⟨b1, rfl, (g5.trans (g6.trans (g7.trans (g8.trans g9)))) _ _ j4⟩, ⟨e1, rfl, (g6.trans (g7.trans (g8.trans g9))) _ _ j5⟩, g9 _ _ j8, paired_rep (show EntAt Hn (.ref w1) (.part 0) from ⟨w1, rfl, (g7.trans (g8.trans g9)) _ _ j6⟩) 5⟩ rfl
      · exact (TX.put (K := K) (e6n _ _ ff)).2 _ _ (e6n _ _ hua6)
    rintro _ H7 ⟨rfl, fs7, hua7⟩
    refine ⟨.int (b : Nat), rfl, (b : Nat), rfl, by omega, by omega, ?_⟩
    refine for_range (lo := 0) (n := (((b : Nat) : Int)).toNat) (fun i σ H' => ∃ y8 : Option V, σ = [some (.ref p), some (.ref va), some (.ref ua), some (.ref lp), some (.ref fl), some (.ref so), some (.int (a : Nat)), some (.int (b : Nat)), y8, none, none] ∧ FoundS K H p c fl (T + 61) (2 + i) H' ∧ H' ua = some (.tup (st.map V.int)))
      ⟨none, rfl, fs7, hua7⟩ ?_ ?_
    · rintro i σ H8 hi ⟨y8, rfl, ⟨pvs, Ps, fx, fp, ff, fpv, fl', f1', fe⟩, hua8⟩
      have pl := Paired.len fpv
      refine ⟨.ref fl, rfl, .inl ⟨rfl, _, SqL.of ff⟩, (by show 1 ≤ sizeLine; decide), fun b1 nb1 => ?_⟩
      have g4 := Evl.Ex.new (o := .tup [.int 0]) nb1
      have j4 : (upd H8 b1 (.tup [.int 0])) b1 = some (.tup (([0] : Word).map V.int)) := upd_same
      generalize upd H8 b1 (.tup [.int 0]) = Hi at g4 j4
      refine ⟨(by show 1 ≤ sizeLine; decide), fun e1 ne1 => ?_⟩
      have g5 := Evl.Ex.new (o := .tup [.int 0]) ne1
      have j5 : (upd Hi e1 (.tup [.int 0])) e1 = some (.tup (([0] : Word).map V.int)) := upd_same
      generalize upd Hi e1 (.tup [.int 0]) = Hj at g5 j5
      refine ⟨.ref fl, rfl, fl, pvs, rfl, .inl (SqL.of ((g4.trans g5) _ _ ff)), _, 1, rfl, rfl, (by show 2 ≤ sizeLine; decide), fun w1 nw1 => ?_⟩
      have g6 := Evl.Ex.new (o := .tup [.str "part", .int (((pvs.length : Nat) : Int) - 1)]) nw1
      have j6 : (upd Hj w1 (.tup [.str "part", .int (((pvs.length : Nat) : Int) - 1)])) w1 = some (.tup [.str "part", .int (((pvs.length : Nat) : Int) - 1)]) := upd_same
      generalize upd Hj w1 (.tup [.str "part", .int (((pvs.length : Nat) : Int) - 1)]) = Hk at g6 j6
      refine ⟨(by show 1 ≤ sizeLine; decide), fun w2 nw2 => ?_⟩
      have g7 := Evl.Ex.new (o := .tup [.ref w1]) nw2
      have j7 : (upd Hk w2 (.tup [.ref w1])) w2 = some (.tup [.ref w1]) := upd_same
      generalize upd Hk w2 (.tup [.ref w1]) = Hl at g7 j7
      refine ⟨.int (a : Nat), rfl, w2, (a : Nat), _, rfl, rfl, SqT.of j7, by simp, by omega, by omega, (by show 1 ≤ 1000; decide), fun w3 nw3 => ?_⟩
      have g8 := Evl.Ex.new (o := .tup (List.replicate (((a : Nat) : Int)).toNat [V.ref w1]).flatten) nw3
      have j8 : (upd Hl w3 (.tup (List.replicate (((a : Nat) : Int)).toNat [V.ref w1]).flatten)) w3 = some (.tup (List.replicate a [V.ref w1]).flatten) := by rw [upd_same, Int.toNat_natCast]
      generalize upd Hl w3 (.tup (List.replicate (((a : Nat) : Int)).toNat [V.ref w1]).flatten) = Hm at g8 j8
      refine ⟨(by show 3 ≤ sizeLine; decide), fun y1 ny1 => ?_⟩
      have g9 := Evl.Ex.new (o := .tup [.ref b1, .ref e1, .ref w3]) ny1
      have j9 : (upd Hm y1 (.tup [.ref b1, .ref e1, .ref w3])) y1 = some (.tup [.ref b1, .ref e1, .ref w3]) := upd_same
      generalize upd Hm y1 (.tup [.ref b1, .ref e1, .ref w3]) = Hn at g9 j9
      have e6n : Evl.Ex H8 Hn := g4.trans (g5.trans (g6.trans (g7.trans (g8.trans g9))))
      refine ⟨fl, pvs, _, rfl, rfl, e6n _ _ ff, Nat.lt_of_le_of_lt (by omega : pvs.length ≤ 400) (by decide), _, rfl, ?_, ?_⟩
      · exact FoundS.add nfl0 nflp nflc fx fp ff fpv fl' fe e6n (x := ⟨[0], [0], List.replicate a (.part (((pvs.length : Nat) : Int) - 1))⟩) ⟨y1, w3, .ref b1, .ref e1, _, rfl, j9, ⟨b1, rfl, (g5.trans (g6.trans (g7.trans (g8.trans g9)))) _ _ j4⟩, ⟨e1, rfl, (g6.trans (g7.trans (g8.trans g9))) _ _ j5⟩, g9 _ _ j8, paired_rep (show EntAt Hn (.ref w1) (.part (((pvs.length : Nat) : Int) - 1)) from ⟨w1, rfl, (g7.trans (g8.trans g9)) _ _ j6⟩) a⟩ rfl
      · exact (TX.put (K := K) (e6n _ _ ff)).2 _ _ (e6n _ _ hua8)
    rintro σ H8 ⟨y8, rfl, fs8, hua8⟩
    refine ⟨fun σ H' => σ = [some (.ref p), some (.ref va), some (.ref ua), some (.ref lp), some (.ref fl), some (.ref so), some (.int (a : Nat)), some (.int (b : Nat)), y8, none, none] ∧ FoundS K H p c fl (T + 62) 400 H' ∧ H' ua = some (.tup (st.map V.int)), ?_, ?_⟩
    · refine ⟨.int (a : Nat), rfl, rfl, _, rfl, ?_⟩
      obtain ⟨pvs, Ps, fx, fp, ff, fpv, fl', f1', fe⟩ := fs8
      have pl := Paired.len fpv
      refine ite2 (fun _ => ?_) (fun _ => ⟨rfl, ⟨pvs, Ps, fx, fp.mono (by omega), ff, fpv, by omega, f1', fe⟩, hua8⟩)
      refine ⟨.ref p, rfl, p, c, 2, _, rfl, fp, by decide, by decide, by omega, fun r H9 _ _ x9 hp9 => ?_⟩
      have ff9 := x9 _ _ nflp ff
      have tx9 : TX K H8 H9 := fp.tx x9
      have fpv9 : Paired (PrtAt K H9) pvs Ps := Paired.imp (fun _ _ => PrtAt.tx tx9) fpv
      have hua9 := tx9.2 _ _ hua8
      refine ⟨rfl, _, rfl, ?_⟩
      refine ite2 (fun _ => ?_) (fun _ => ⟨rfl, ⟨pvs, Ps, fx.trans x9, hp9.mono (by omega), ff9, fpv9, by omega, f1', fe⟩, hua9⟩)
      refine ⟨.ref fl, rfl, .inl ⟨rfl, _, SqL.of ff9⟩, (by show 1 ≤ sizeLine; decide), fun b1 nb1 => ?_⟩
      have g4 := Evl.Ex.new (o := .tup [.int 0]) nb1
      have j4 : (upd H9 b1 (.tup [.int 0])) b1 = some (.tup (([0] : Word).map V.int)) := upd_same
      generalize upd H9 b1 (.tup [.int 0]) = Hi at g4 j4
      refine ⟨(by show 1 ≤ sizeLine; decide), fun e1 ne1 => ?_⟩
      have g5 := Evl.Ex.new (o := .tup [.int 1]) ne1
      have j5 : (upd Hi e1 (.tup [.int 1])) e1 = some (.tup (([1] : Word).map V.int)) := upd_same
      generalize upd Hi e1 (.tup [.int 1]) = Hj at g5 j5
      refine ⟨.ref fl, rfl, fl, pvs, rfl, .inl (SqL.of ((g4.trans g5) _ _ ff9)), _, 1, rfl, rfl, (by show 2 ≤ sizeLine; decide), fun w1 nw1 => ?_⟩
      have g6 := Evl.Ex.new (o := .tup [.str "part", .int (((pvs.length : Nat) : Int) - 1)]) nw1
      have j6 : (upd Hj w1 (.tup [.str "part", .int (((pvs.length : Nat) : Int) - 1)])) w1 = some (.tup [.str "part", .int (((pvs.length : Nat) : Int) - 1)]) := upd_same
      generalize upd Hj w1 (.tup [.str "part", .int (((pvs.length : Nat) : Int) - 1)]) = Hk at g6 j6
      refine ⟨(by show 3 ≤ sizeLine; decide), fun w2 nw2 => ?_⟩
      have g7 := Evl.Ex.new (o := .tup [.str "step", .int 0, .int 1]) nw2
      have j7 : (upd Hk w2 (.tup [.str "step", .int 0, .int 1])) w2 = some (.tup [.str "step", .int 0, .int 1]) := upd_same
      generalize upd Hk w2 (.tup [.str "step", .int 0, .int 1]) = Hl at g7 j7
      refine ⟨(by show 2 ≤ sizeLine; decide), fun w3 nw3 => ?_⟩
      have g8 := Evl.Ex.new (o := .tup [.ref w1, .ref w2]) nw3
      have j8 : (upd Hl w3 (.tup [.ref w1, .ref w2])) w3 = some (.tup [.ref w1, .ref w2]) := upd_same
      generalize upd Hl w3 (.tup [.ref w1, .ref w2]) = Hm at g8 j8
      refine ⟨(by show 3 ≤ sizeLine; decide), fun y1 ny1 => ?_⟩
      have g9 := Evl.Ex.new (o := .tup [.ref b1, .ref e1, .ref w3]) ny1
      have j9 : (upd Hm y1 (.tup [.ref b1, .ref e1, .ref w3])) y1 = some (.tup [.ref b1, .ref e1, .ref w3]) := upd_same
      generalize upd Hm y1 (.tup [.ref b1, .ref e1, .ref w3]) = Hn at g9 j9
      have e6n : Evl.Ex H9 Hn := g4.trans (g5.trans (g6.trans (g7.trans (g8.trans g9))))
      refine ⟨fl, pvs, _, rfl, rfl, e6n _ _ ff9, Nat.lt_of_le_of_lt (by omega : pvs.length ≤ 400) (by decide), rfl, ?_, ?_⟩
      · obtain ⟨q1, q2, z1, z2, z3, z4, z5, z6, z7⟩ := FoundS.add nfl0 nflp nflc (fx.trans x9) hp9 ff9 fpv9 fl' fe e6n (x := ⟨[0], [1], [.part (((pvs.length : Nat) : Int) - 1), .step 0 1]⟩) ⟨y1, w3, .ref b1, .ref e1, _, rfl, j9, ⟨b1, rfl, (g5.trans (g6.trans (g7.trans (g8.trans g9)))) _ _ j4⟩, ⟨e1, rfl, (g6.trans (g7.trans (g8.trans g9))) _ _ j5⟩, g9 _ _ j8,
          .cons (show EntAt Hn (.ref w1) (.part (((pvs.length : Nat) : Int) - 1)) from ⟨w1, rfl, (g7.trans (g8.trans g9)) _ _ j6⟩) (.cons (show EntAt Hn (.ref w2) (.step 0 1) from ⟨w2, rfl, (g8.trans g9) _ _ j7⟩) .nil)⟩ rfl
        exact ⟨q1, q2, z1, z2.mono (by omega), z3, z4, by omega, z6, z7⟩
      · exact (TX.put (K := K) (e6n _ _ ff9)).2 _ _ (e6n _ _ hua9)
    rintro _ H9 ⟨rfl, ⟨pvs, Ps, fx, fp, ff, fpv, fl', f1', fe⟩, hua9⟩
    have pl := Paired.len fpv
    obtain ⟨P0, t, rfl⟩ : ∃ P0 t, Ps = P0 ++ [t] := by
      rcases List.eq_nil_or_concat Ps with z | ⟨L, b, z⟩
      · rw [z] at f1'; simp at f1'
      · exact ⟨L, b, by rw [z]; simp⟩
    obtain ⟨pvs0, y0', rfl, hp0, ⟨ap, cp, bv, ev, pus, rfl, hap, _, ⟨ea0, rfl, hea0⟩, _⟩⟩ := paired_snoc fpv
    have te1 : t.e.length = 1 := fe t (by simp)
    refine ⟨(by show 1 ≤ sizeLine; decide), fun z1 nz1 => ?_⟩
    have g1' := Evl.Ex.new (o := .tup [.int 0]) nz1
    have j1 : (upd H9 z1 (.tup [.int 0])) z1 = some (.tup (([0] : Word).map V.int)) := upd_same
    generalize upd H9 z1 (.tup [.int 0]) = Hi at g1' j1
    refine ⟨.ref ua, rfl, ((1 : Nat) : Int), rfl, ?_⟩
    refine nopart1 ?_
    refine sl_own (K := K) (lo := some ((1 : Nat) : Int)) (hi := none) (g1' _ _ hua9) fun Hj z2 g2' hz2 => ?_
    rw [cut_dropG, ← List.map_drop] at hz2
    refine cat_own (K := K) (g2' _ _ j1) hz2 (Nat.le_trans (by simp only [List.length_map, List.length_drop, List.length_singleton]; omega : (([0] : Word).map V.int).length + ((st.drop 1).map V.int).length ≤ 100) (by decide)) fun Hk z3 g3' hz3 => ?_
    rw [← List.map_append] at hz3
    have e9k := g1'.trans (g2'.trans g3')
    refine ⟨.ref fl, rfl, 1, rfl, fl, _, -1, _, rfl, rfl, SqL.of (e9k _ _ ff), atI_last _ _, ap, _, 1, .ref ea0, rfl, rfl, SqT.of (e9k _ _ hap), atI_nat (j := 1) rfl, ?_⟩
    refine ⟨.ref ua, rfl, ((1 : Nat) : Int), rfl, ?_⟩
    refine nopart1 ?_
    refine sl_own (K := K) (lo := some ((1 : Nat) : Int)) (hi := none) (e9k _ _ hua9) fun Hl z4 g4' hz4 => ?_
    rw [cut_dropG, ← List.map_drop] at hz4
    refine cat_own (K := K) ((e9k.trans g4') _ _ hea0) hz4 (Nat.le_trans (by simp only [List.length_map, List.length_drop]; omega : (t.e.map V.int).length + ((st.drop 1).map V.int).length ≤ 100) (by decide)) fun Hm z5 g5' hz5 => ?_
    rw [← List.map_append] at hz5
    have e9m := e9k.trans (g4'.trans g5')
    refine ⟨.ref z3, .ref z5, rfl, ?_⟩
    refine ⟨.ref fl, rfl, .ref z3, rfl, .ref z5, rfl, .ref fl, rfl, fl, _, rfl, .inl (SqL.of (e9m _ _ ff)), _, 1, rfl, rfl, (by show 2 ≤ sizeLine; decide), fun w1 nw1 => ?_⟩
    have g6 := Evl.Ex.new (o := .tup [.str "part", .int ((((pvs0 ++ [V.ref ap]).length : Nat) : Int) - 1)]) nw1
    have j6 : (upd Hm w1 (.tup [.str "part", .int ((((pvs0 ++ [V.ref ap]).length : Nat) : Int) - 1)])) w1 = some (.tup [.str "part", .int ((((pvs0 ++ [V.ref ap]).length : Nat) : Int) - 1)]) := upd_same
    generalize upd Hm w1 (.tup [.str "part", .int ((((pvs0 ++ [V.ref ap]).length : Nat) : Int) - 1)]) = Hn at g6 j6
    refine ⟨(by show 1 ≤ sizeLine; decide), fun w2 nw2 => ?_⟩
    have g7 := Evl.Ex.new (o := .tup [.ref w1]) nw2
    have j7 : (upd Hn w2 (.tup [.ref w1])) w2 = some (.tup [.ref w1]) := upd_same
    generalize upd Hn w2 (.tup [.ref w1]) = Ho at g7 j7
    refine ⟨(by show 3 ≤ sizeLine; decide), fun y1 ny1 => ?_⟩
    have g8 := Evl.Ex.new (o := .tup [.ref z3, .ref z5, .ref w2]) ny1
    have j8 : (upd Ho y1 (.tup [.ref z3, .ref z5, .ref w2])) y1 = some (.tup [.ref z3, .ref z5, .ref w2]) := upd_same
    generalize upd Ho y1 (.tup [.ref z3, .ref z5, .ref w2]) = Hq at g8 j8
    refine ⟨(by show 1 ≤ sizeLine; decide), fun l1 nl1 => ?_⟩
    have g9 := Evl.Ex.new (o := .lst [.ref y1]) nl1
    have j9 : (upd Hq l1 (.lst [.ref y1])) l1 = some (.lst [.ref y1]) := upd_same
    generalize upd Hq l1 (.lst [.ref y1]) = Hr at g9 j9
    have e9r : Evl.Ex H9 Hr := e9m.trans (g6.trans (g7.trans (g8.trans g9)))
    refine ⟨fl, l1, _, _, rfl, rfl, e9r _ _ ff, j9, Nat.le_trans (by rw [pl, List.length_singleton]; omega : (pvs0 ++ [V.ref ap]).length + [V.ref y1].length ≤ 500) (by decide), fun r nr => ?_⟩
    have g10 := Evl.Ex.new (o := .lst ((pvs0 ++ [V.ref ap]) ++ [.ref y1])) nr
    have e9z := e9r.trans g10
    have nw : PrtAt K (upd Hr r (.lst ((pvs0 ++ [V.ref ap]) ++ [.ref y1]))) (.ref y1) ⟨[0] ++ st.drop 1, t.e ++ st.drop 1, [.part ((((pvs0 ++ [V.ref ap]).length : Nat) : Int) - 1)]⟩ :=
      PrtAt.ex g10 ⟨y1, w2, .ref z3, .ref z5, [.ref w1], rfl, g9 _ _ j8, ⟨z3, rfl, ((g4'.trans g5').trans (g6.trans (g7.trans (g8.trans g9)))) _ _ hz3⟩, ⟨z5, rfl, (g6.trans (g7.trans (g8.trans g9))) _ _ hz5⟩, (g8.trans g9) _ _ j7, .cons (show EntAt Hr (.ref w1) (.part ((((pvs0 ++ [V.ref ap]).length : Nat) : Int) - 1)) from ⟨w1, rfl, (g7.trans (g8.trans g9)) _ _ j6⟩) .nil⟩
    exact q _ r _ _ (fx.trans (Exx.ex e9z)) ((fp.ex e9z).mono (by omega)) (fresh_exx fx fp.here (Evl.fresh_back e9r nr)) upd_same (paired_app1 (Paired.imp (fun _ _ => PrtAt.ex e9z) fpv) nw)
end
end Wb

set_option Elab.async false
set_option linter.all false
set_option maxRecDepth 100000
set_option maxHeartbeats 8000000
set_option pp.maxSteps 900
set_option pp.deepTerms false
namespace Wb
open PySem PySem.Spec PyProof.Rows L2
abbrev sFup : Stmt := topS 58
abbrev nFup : List Str := ["_law_pen_here", "_law_lock_here", "_law_here", "_law_many", "_law_entries_here", "_law_one", "_law_k"]
theorem scFup : FnScope nFup ["_law_pen_here", "_law_lock_here"] (defScope sFup) := ⟨rfl, rfl, rfl, by decide +kernel, rfl, by decide +kernel, by decide +kernel⟩
section
variable {P : Program} {w : World} {K : PySem.W.Frag} {mg : Str → Option Value} {base : Heap}
theorem ok_fup {f f1 fD : Addr} {fd fd1 fdD : FuncData} (F : Fun K "_law_full_part" "_law_full_part" sFup f fd) (F1 : Fun K "_law_draw" "_law_draw" sDraw f1 fd1) (b1 : Binds K fd1 ["_law_pen_here", "_law_many"] []) (g1 : mg "_law_draw" = some (.ref f1))
    (Fd : Fun K "_law_drawn" "_law_drawn" sDrawn fD fdD) (bd : Binds K fdD ["_law_pen_here", "_law_lock_here"] []) (gd : mg "_law_drawn" = some (.ref fD)) (B : Bi mg) :
    FnOk P w K mg base CX0 3 f fd ["_law_pen_here", "_law_lock_here"] (spLpd K) := by
  have G1 : FnOk P w K mg base CX0 1 f1 fd1 ["_law_pen_here", "_law_many"] spDraw := ok_draw F1 B
  have GD : FnOk P w K mg base CX0 2 fD fdD ["_law_pen_here", "_law_lock_here"] (spDrawn K) := ok_drawn Fd F1 b1 g1 B
  refine F.ok scFup (fun vs H Q E h => ?_) (fun cdv A outer s H vs Q E hr h => ?_)
  · obtain ⟨p, c, v, T, l, rfl, _⟩ := h; rfl
  · obtain ⟨p, c, v, T, l, rfl, hp, T8, hl, ok, q⟩ := h
    have hr1 : Room 1 _ := hr.mono (by decide)
    have hr2 : Room 2 _ := hr
    refine ⟨_, (pss_cons (ps_par (by rfl) scFup.nd (i := 2) (j := 3) rfl rfl (by decide) rfl rfl (pa_cons (pe_call GD hr2 (by rfl) gd Fd.kp bd .nil pass0 (pa_cons (pv 0) (pa_cons (pv 1) pa_nil))) (pa_cons (pe_op op_add pe_int (pe_call G1 hr1 (by rfl) g1 F1.kp b1 .nil pass0 (pa_cons (pv 0) (pa_cons pe_int pa_nil)))) pa_nil)) (by rfl))
 (pss_cons (ps_set (i := 4) scFup.nd rfl (.inl rfl) (pe_callTy (r := rTupK K) call_tupK (by rfl) B.tuple PyProof.Rows.boot_tuple (pa_cons (pe_lc (own := [("_law_k", 6)]) (g := gName 6) rfl scFup.nd (pi_range1 (by rfl) B.range (pa_cons (pv 3) pa_nil)) (blkOk_by (own := [("_law_k", 6)]) (N := nFup) (sc := defScope sFup) (by decide +kernel)) (fun _ _ _ _ _ => (pg_name (i := 6) scFup.nd rfl (.inl rfl))) (fun _ _ _ _ _ => pts_nil) (fun _ _ _ _ _ => (pe_tup (pa_cons pe_str (pa_cons pe_int (pa_cons (pe_op op_sub pe_int (pe_op op_mod (pv 6) pe_int)) pa_nil)))))) pa_nil)))
 (pss_cons (ps_set (i := 5) scFup.nd rfl (.inl rfl) (pe_tup (pa_cons (pe_tup (pa_cons pe_int pa_nil)) (pa_cons (pe_tup (pa_cons (pe_op op_mod (pv 3) pe_int) pa_nil)) (pa_cons (pv 4) pa_nil)))))
 (pss_one (ps_ret (pe_lst (pa_cons (pv 5) (pa_cons (pe_tup (pa_cons (pe_op (r := rCatA K) op_catA (pe_tup (pa_cons pe_int pa_nil)) (pe_slice (r := rSlA K) sl_tupA (pv 2) (po_some pe_int) po_none)) (pa_cons (pe_op (r := rCatA K) op_catA (pe_tup (pa_cons (pe_op op_mod (pv 3) pe_int) pa_nil)) (pe_slice (r := rSlA K) sl_tupA (pv 2) (po_some pe_int) po_none)) (pa_cons (pe_tup (pa_cons (pe_tup (pa_cons pe_str (pa_cons pe_int pa_nil))) pa_nil)) pa_nil)))) pa_nil)))))))), ?_⟩
    have n60 := ok.n1
    have ml : (manysOf l).length = l.length := by unfold manysOf; rw [List.length_map]
    refine ⟨.ref p, rfl, v, rfl, p, c, v, l, T, rfl, hp, by omega, hl, ok, fun H1 u st x1 hp1 hu hst => ?_⟩
    obtain ⟨ua, rfl, hua⟩ := hu
    have stl : st.length = l.length := by rw [hst.1, ml]
    refine ⟨.ref p, rfl, p, c, 2, _, rfl, hp1, by decide, by decide, by omega, fun r H2 r0 r1 x2 hp2 => ⟨60, r, rfl, rfl, .ref ua, .int (60 + r), rfl, ?_⟩⟩
    have hua2 := (hp1.tx (K := K) x2).2 _ _ hua
    have x02 : Exx p H H2 := x1.trans x2
    refine ⟨.int (60 + r), rfl, (60 + r), rfl, by omega, by omega, fun D nD => ?_⟩
    refine lc_range (lo := 0) (n := (60 + r).toNat) (fun i H' => ∃ (bvs : List V) (bes : List Ent), Evl.Ex H2 H' ∧ H' D = some (.lst bvs) ∧ Paired (EntAt H') bvs bes ∧ bes.length ≤ i) ⟨[], [], Evl.Ex.new nD, upd_same, .nil, Nat.le_refl _⟩ ?_ ?_
    · rintro i H3 hi ⟨bvs, bes, e3, hD3, hbv, bl⟩
      refine ⟨rfl, ?_⟩
      refine ⟨.int (0 + (i : Nat)), rfl, _, 2, rfl, rfl, (by show (0 : Int) < 2; decide), 1, _, rfl, rfl, (by show 3 ≤ sizeLine; decide), fun y ny => ?_⟩
      have e4 := Evl.Ex.new (o := .tup [.str "step", .int 0, .int (1 - (0 + (i : Nat) : Int) % 2)]) ny
      have gy : (upd H3 y (.tup [.str "step", .int 0, .int (1 - (0 + (i : Nat) : Int) % 2)])) y = some (.tup [.str "step", .int 0, .int (1 - (0 + (i : Nat) : Int) % 2)]) := upd_same
      generalize upd H3 y (.tup [.str "step", .int 0, .int (1 - (0 + (i : Nat) : Int) % 2)]) = H4 at e4 gy
      have hD4 := e4 _ _ hD3
      have bvl := Paired.len hbv
      refine ⟨_, hD4, Nat.lt_of_le_of_lt (by omega : bvs.length ≤ 100) (by decide), bvs ++ [.ref y], bes ++ [.step 0 (1 - (0 + (i : Nat) : Int) % 2)], (e3.trans e4).mut nD, upd_same, ?_, by rw [List.length_append, List.length_singleton]; omega⟩
      exact Paired.imp (fun _ _ => EntAt.put hD4) (paired_app1 (Paired.imp (fun _ _ => EntAt.ex e4) hbv) (show EntAt H4 (.ref y) (.step 0 (1 - (0 + (i : Nat) : Int) % 2)) from ⟨y, rfl, gy⟩))
    rintro H3 ⟨bvs, bes, e3, hD3, hbv, bl⟩
    refine ⟨D, bvs, rfl, .inl ⟨.inl (.inl hD3), fun en nen => ?_⟩⟩
    have e4 := Evl.Ex.new (o := .tup bvs) nen
    have gen : (upd H3 en (.tup bvs)) en = some (.tup bvs) := upd_same
    generalize upd H3 en (.tup bvs) = H4 at e4 gen
    refine ⟨(by show 1 ≤ sizeLine; decide), fun b0 nb0 => ?_⟩
    have f1 := Evl.Ex.new (o := .tup [.int 0]) nb0
    have k1 : (upd H4 b0 (.tup [.int 0])) b0 = some (.tup (([0] : Word).map V.int)) := upd_same
    generalize upd H4 b0 (.tup [.int 0]) = Ha at f1 k1
    refine ⟨.int (60 + r), rfl, _, 2, rfl, rfl, (by show (0 : Int) < 2; decide), (by show 1 ≤ sizeLine; decide), fun e0 ne0 => ?_⟩
    have f2 := Evl.Ex.new (o := .tup [.int ((60 + r) % 2)]) ne0
    have k2 : (upd Ha e0 (.tup [.int ((60 + r) % 2)])) e0 = some (.tup (([(60 + r) % 2] : Word).map V.int)) := upd_same
    generalize upd Ha e0 (.tup [.int ((60 + r) % 2)]) = Hb at f2 k2
    refine ⟨.ref en, rfl, (by show 3 ≤ sizeLine; decide), fun y0 ny0 => ?_⟩
    have f3 := Evl.Ex.new (o := .tup [.ref b0, .ref e0, .ref en]) ny0
    have k3 : (upd Hb y0 (.tup [.ref b0, .ref e0, .ref en])) y0 = some (.tup [.ref b0, .ref e0, .ref en]) := upd_same
    generalize upd Hb y0 (.tup [.ref b0, .ref e0, .ref en]) = Hc at f3 k3
    have e2c : Evl.Ex H2 Hc := e3.trans (e4.trans (f1.trans (f2.trans f3)))
    have one : PrtAt K Hc (.ref y0) ⟨[0], [(60 + r) % 2], bes⟩ := ⟨y0, en, .ref b0, .ref e0, bvs, rfl, k3, ⟨b0, rfl, (f2.trans f3) _ _ k1⟩, ⟨e0, rfl, f3 _ _ k2⟩, (f1.trans (f2.trans f3)) _ _ gen, Paired.imp (fun _ _ => EntAt.ex (e4.trans (f1.trans (f2.trans f3)))) hbv⟩
    refine ⟨.ref y0, rfl, (by show 1 ≤ sizeLine; decide), fun z1 nz1 => ?_⟩
    have g1' := Evl.Ex.new (o := .tup [.int 0]) nz1
    have j1 : (upd Hc z1 (.tup [.int 0])) z1 = some (.tup (([0] : Word).map V.int)) := upd_same
    generalize upd Hc z1 (.tup [.int 0]) = Hi at g1' j1
    refine ⟨.ref ua, rfl, ((1 : Nat) : Int), rfl, ?_⟩
    refine nopart1 ?_
    refine sl_own (K := K) (lo := some ((1 : Nat) : Int)) (hi := none) ((e2c.trans g1') _ _ hua2) fun Hj z2 g2' hz2 => ?_
    rw [cut_dropG, ← List.map_drop] at hz2
    refine cat_own (K := K) (g2' _ _ j1) hz2 (Nat.le_trans (by simp only [List.length_map, List.length_drop, List.length_singleton]; omega : (([0] : Word).map V.int).length + ((st.drop 1).map V.int).length ≤ 100) (by decide)) fun Hk z3 g3' hz3 => ?_
    rw [← List.map_append] at hz3
    have eck := g1'.trans (g2'.trans g3')
    refine ⟨.int (60 + r), rfl, _, 2, rfl, rfl, (by show (0 : Int) < 2; decide), (by show 1 ≤ sizeLine; decide), fun z0 nz0 => ?_⟩
    have g0' := Evl.Ex.new (o := .tup [.int ((60 + r) % 2)]) nz0
    have j0 : (upd Hk z0 (.tup [.int ((60 + r) % 2)])) z0 = some (.tup (([(60 + r) % 2] : Word).map V.int)) := upd_same
    generalize upd Hk z0 (.tup [.int ((60 + r) % 2)]) = Hkk at g0' j0
    refine ⟨.ref ua, rfl, ((1 : Nat) : Int), rfl, ?_⟩
    refine nopart1 ?_
    refine sl_own (K := K) (lo := some ((1 : Nat) : Int)) (hi := none) ((e2c.trans (eck.trans g0')) _ _ hua2) fun Hl z4 g4' hz4 => ?_
    rw [cut_dropG, ← List.map_drop] at hz4
    refine cat_own (K := K) (g4' _ _ j0) hz4 (Nat.le_trans (by simp only [List.length_map, List.length_drop, List.length_singleton]; omega : (([(60 + r) % 2] : Word).map V.int).length + ((st.drop 1).map V.int).length ≤ 100) (by decide)) fun Hm z5 g5' hz5 => ?_
    rw [← List.map_append] at hz5
    have ekm := g0'.trans (g4'.trans g5')
    refine ⟨(by show 2 ≤ sizeLine; decide), fun w1 nw1 => ?_⟩
    have g6 := Evl.Ex.new (o := .tup [.str "part", .int 0]) nw1
    have j6 : (upd Hm w1 (.tup [.str "part", .int 0])) w1 = some (.tup [.str "part", .int 0]) := upd_same
    generalize upd Hm w1 (.tup [.str "part", .int 0]) = Hn at g6 j6
    refine ⟨(by show 1 ≤ sizeLine; decide), fun w2 nw2 => ?_⟩
    have g7 := Evl.Ex.new (o := .tup [.ref w1]) nw2
    have j7 : (upd Hn w2 (.tup [.ref w1])) w2 = some (.tup [.ref w1]) := upd_same
    generalize upd Hn w2 (.tup [.ref w1]) = Ho at g7 j7
    refine ⟨(by show 3 ≤ sizeLine; decide), fun y1 ny1 => ?_⟩
    have g8 := Evl.Ex.new (o := .tup [.ref z3, .ref z5, .ref w2]) ny1
    have j8 : (upd Ho y1 (.tup [.ref z3, .ref z5, .ref w2])) y1 = some (.tup [.ref z3, .ref z5, .ref w2]) := upd_same
    generalize upd Ho y1 (.tup [.ref z3, .ref z5, .ref w2]) = Hq at g8 j8
    refine ⟨(by show 2 ≤ sizeLine; decide), fun l1 nl1 => ?_⟩
    have g9 := Evl.Ex.new (o := .lst [.ref y0, .ref y1]) nl1
    have ecq : Evl.Ex Hc Hq := eck.trans (ekm.trans (g6.trans (g7.trans g8)))
    have e2q := e2c.trans ecq
    have nw : PrtAt K Hq (.ref y1) ⟨[0] ++ st.drop 1, [(60 + r) % 2] ++ st.drop 1, [.part 0]⟩ :=
      ⟨y1, w2, .ref z3, .ref z5, [.ref w1], rfl, j8, ⟨z3, rfl, (ekm.trans (g6.trans (g7.trans g8))) _ _ hz3⟩, ⟨z5, rfl, (g6.trans (g7.trans g8)) _ _ hz5⟩, g8 _ _ j7, .cons (show EntAt Hq (.ref w1) (.part 0) from ⟨w1, rfl, (g7.trans g8) _ _ j6⟩) .nil⟩
    exact q _ l1 _ _ (x02.trans (Exx.ex (e2q.trans g9))) ((hp2.ex (e2q.trans g9)).mono (by omega)) (fresh_exx x02 hp2.here (Evl.fresh_back e2q nl1)) upd_same (.cons (one.ex (ecq.trans g9)) (.cons (nw.ex g9) .nil))
end
end Wb

set_option Elab.async false
set_option linter.all false
set_option maxRecDepth 100000
set_option maxHeartbeats 4000000
set_option pp.maxSteps 600
set_option pp.deepTerms false
namespace Wb
open PySem PySem.Spec PyProof.Rows L2
/-! ### a caught exception that is kept behind its suite -/
/-- a caught exception object at a, of the class cls, its dict d -/
def ExV (cls : Value) (d : Option Addr) (a : Addr) : HO := .ext fun h => ∃ (oe : Obj) (vs : Array Value), h.get? a = some oe ∧ Zc cls d oe ∧ oe.data = .fields vs
theorem exV_ok {P : Program} {w : World} {H : Hp} {h : Heap} {a : Addr} {cls : Value} {d : Option Addr} {oe : Obj} {vs : Array Value} (e : h.get? a = some oe) (z : Zc cls d oe) (hd : oe.data = .fields vs) : ObjOk P w H h a (ExV cls d a) :=
  ⟨⟨oe, vs, e, z, hd⟩, ⟨oe, e⟩, fun _ _ ⟨o, v, q, r⟩ k => ⟨o, v, k o q, r⟩⟩
def wAsT (K : PySem.W.Frag) (c : Value) (i : Nat) (ts : Addr → Value → Option Addr → TS) (Wout : WX) (D : Ends) : WX := fun cls d σ H =>
  ∃ b, PySem.W.exmOne K cls c = some b ∧ (b = true → ∀ a, H a = none → ts a cls d { nx := fun σ' H' => H' a = none → D.nx (σ'.set i none) (upd H' a (ExV cls d a)), rt := D.rt, bk := fun σ' H' => D.bk (σ'.set i none) H', ct := fun σ' H' => D.ct (σ'.set i none) H' } (σ.set i (some (.ref a))) H) ∧
    (b = false → Wout cls d σ H)
section
variable {X : Cx} {pins : List (Addr × Obj)} {σ : L2.St} {H : Hp} {s : Shared}
/-- an object that stood not at the entry may be tracked from now on -/
theorem Inv.track {a : Addr} {o : HO} {oe : Obj} (I : Inv X pins σ H s) (n0 : X.s_0.heap.get? a = none) (na : H a = none) (ha : s.heap.get? a = some oe) (nL : a ≠ X.env.locals) (nC : ∀ v, oe.data ≠ .cell v)
    (nP : ∀ p ∈ X.pn ++ pins, p.1 ≠ a) (new : ObjOk X.prog X.w (upd H a o) s.heap a o) : Inv X pins σ (upd H a o) s := by
  have neN : ∀ b u, H b = some u → b ≠ a := fun b u e z => by rw [z, na] at e; cases e
  refine ⟨I.ok, I.os, I.bare, ⟨I.base.keep, I.base.slot, fun b u q n hx => ?_, I.base.there, fun b xs q => ?_, fun b u v q => ?_, fun b ps q => ?_⟩, I.loc, I.cell, ?_, fun x c e => ?_, fun p hp => ?_, I.hok.laidN (fun _ _ e => e) na new, I.len⟩
  · have hb : b ≠ a := fun z => by rw [z, n0] at q; cases q
    rw [upd_ne hb]
    exact I.base.free b u q n hx
  · have q' := I.base.tups b xs q
    rw [upd_ne (neN b _ q')]
    exact q'
  · have q' := I.base.frzs b u v q
    rw [upd_ne (neN b _ q')]
    exact q'
  · obtain ⟨m, q'⟩ := I.base.tbls b ps q
    exact ⟨m, by rw [upd_ne (neN b _ q')]; exact q'⟩
  · rw [upd_ne (Ne.symm nL)]
    exact I.free
  · have hc : c ≠ a := fun z => by
      obtain ⟨v, oc, ho, hd⟩ := I.cell x c e
      rw [z, ha] at ho
      cases ho
      exact nC _ hd
    rw [upd_ne hc]
    exact I.freeC x c e
  · obtain ⟨e, n, r⟩ := I.pin p hp
    exact ⟨e, by rw [upd_ne (nP p hp)]; exact n, r⟩
end
section
variable {X : Cx} {x n : Str} {c : Value} {i : Nat} {body suite : List Stmt} {b₀ : Stmt} {np pos pos' : Pos} {tb : WX → TS} {ts : Addr → Value → Option Addr → TS} {Wout : WX}
theorem ps_try_asT (hs : X.stack = X.env :: X.outer) (hf : X.env.frame = some X.env.locals) (hex : X.ex = []) (hN : X.N.Nodup) (hi : X.N[i]? = some n) (hln : X.env.kindOf n = some .local) (hc : Names X x c) (tk : Takes X Wout)
    (hb : ∀ (W : WX) (pn : List (Addr × Obj)) (xe : Value → Shared → Prop), Takes (X.tr pn xe) W → PassesOwn (model X.prog X.w) X.A X.env xe → PSs (X.tr pn xe) body (tb W))
    (hsu : ∀ (a : Addr) (oe : Obj) (cls : Value) (d : Option Addr) (pn : List (Addr × Obj)), Zc cls d oe → (∃ vs, oe.data = .fields vs) → PSs (X.suite a ((a, oe) :: pn)) (b₀ :: suite) (ts a cls d)) :
    PS X (.Try body [.ExceptHandler (some (.Name x np)) (some n) (b₀ :: suite) pos'] [] [] pos) (fun D σ H => tb (wAsT X.K c i ts Wout D) D σ H) := by
  refine ⟨fun pins s σ H D I h => ?_⟩
  have ok := I.ok
  have hfr : X.A.frames = some (X.env :: X.outer) := by rw [ok.frames, hs]
  have hloc : Loc X.env.scope n := .inl hln
  refine wpAny_Try_except ?_
  refine wpAny_mono ((hb (wAsT X.K c i ts Wout D) (X.pn ++ pins) (fun e s₁ => wpAny (model X.prog X.w) X.A (noteFrame e X.env) (fun _ s₂ => wpAny (model X.prog X.w) X.A (setFlight e none) (fun _ s₃ =>
    wpAny (model X.prog X.w) X.A (handleBy e X.env [.ExceptHandler (some (.Name x np)) (some n) (b₀ :: suite) pos']) (SP X pins D) X.xe s₃) X.xe s₂) X.xe s₁) (fun u s' xx => ?_) PassesOwn.looking).run [] s σ H D (I.toTry _) h) (fun f s1 hsp => ?_) (fun e s1 he => he)
  · obtain ⟨a, B, sI, pins', σ', H', cls, d, rfl, J', nb, up, sky, na, os, ag, b, hb1, hyes, hno⟩ := xx
    have J : Inv X pins σ' H' sI := J'.ofTry ok
    have sky' : Sky B (X.env :: X.outer) a (Zc cls d) X.env.locals s'.heap := by rw [← hs]; exact sky
    show wpAny (model X.prog X.w) X.A (noteFrame (.ref a) X.env) _ _ _
    refine Sky.land Zc.steady hfr hf sky' fun h3 fl3 up3 => ?_
    have J3 : Inv X pins σ' H' { s' with heap := h3 } := J.landed nb fl3.1 (up.trans up3) os ag
    obtain ⟨oe3, vs3, he3, hz3, hd3⟩ := fl3.there
    have notFr : ∀ {h : Heap} {o : Obj} {vs : Array Value}, h.FunFrames B (X.env :: X.outer) → h.get? a = some o → o.data = .fields vs → a ∉ frs (X.env :: X.outer) := fun {h o vs} ff e dd hm => by
      obtain ⟨_, o', e', hnf⟩ := ff.mem hm
      rw [e] at e'; cases e'
      exact hnf _ dd
    have nfr := notFr fl3.2.2.1 he3 hd3
    have nL : a ≠ X.env.locals := fun z => nfr (List.mem_filterMap.mpr ⟨X.env, List.mem_cons_self, by rw [hf, z]⟩)
    have nF : a ∉ X.fs := fun hm => by
      obtain ⟨e, he, q⟩ := List.mem_filterMap.mp hm
      exact nfr (List.mem_filterMap.mpr ⟨e, List.mem_cons_of_mem _ he, q⟩)
    have nI : sI.heap.get? a = none := by
      cases e : sI.heap.get? a with
      | none => rfl
      | some o =>
        have z := nb a o e (by rw [hs]; exact nfr)
        rw [fl3.2.1] at z
        cases z
    have n0 : X.s_0.heap.get? a = none := by
      cases e : X.s_0.heap.get? a with
      | none => rfl
      | some o =>
        obtain ⟨o', z⟩ := J.base.there a o e (by rw [hex]; exact List.not_mem_nil)
        rw [nI] at z
        cases z
    have nP : ∀ p ∈ X.pn ++ pins, p.1 ≠ a := fun p hp z => by
      obtain ⟨e, _⟩ := J.pin p hp
      rw [z, nI] at e
      cases e
    have S3 := J3.suite he3 hd3 na nL nF
    refine wpAny_handleBy_cons (codeAny_handlers_test ?_) (by intro q; cases q)
    have LT : PySem.W.Looks (model X.prog X.w) h3 (typeOf (.ref a)) cls := fun A Q E s k q => wpAny_typeOf_ref (k _ _ he3) (by rw [hz3.1]; exact q)
    have LM := PySem.W.exm_one (M := model X.prog X.w) (J3.kIn) LT hb1
    have test : ∀ {Q : Value → Shared → Prop} {E : Value → Shared → Prop}, Q c { s' with heap := h3 } → wpAny (model X.prog X.w) (X.A.mark (some (.ref a))) (eval (.Name x np) X.env) Q E { s' with heap := h3 } := fun {Q E} q => by
      obtain ⟨hg, hdbg, hm | ⟨hm, hv, hnn⟩⟩ := hc
      · exact ld_glob (X := X.suite a ((a, oe3) :: (X.pn ++ pins))) S3 hg hm q hdbg
      · exact ld_blt (X := X.suite a ((a, oe3) :: (X.pn ++ pins))) S3 hg hm hv q hnn hdbg
    refine test (LM.here ?_)
    cases b with
    | true =>
      refine codeAny_handlers_suite_as ?_
      refine HandSPX.lands_againZ fl3 fun h4 fl4 up4 => ?_
      have J4 : Inv X pins σ' H' { s' with heap := h4 } := J.landed nb fl4.1 ((up.trans up3).trans up4) os ag
      obtain ⟨oe4, vs4, he4, hz4, hd4⟩ := fl4.there
      have S4 := J4.suite he4 hd4 na nL nF
      refine store_ok (X := X.suite a ((a, oe4) :: (X.pn ++ pins))) (v := .ref a) S4 hN hi hloc rfl (fun s5 S5 => ?_) (.inr hln)
      refine wpAny_mono ((hsu a oe4 cls d (X.pn ++ pins) hz4 ⟨_, hd4⟩).run [] s5 _ H' _ S5 (hyes rfl a na)) (fun f s6 hsp => ?_) (fun _ _ z => False.elim z)
      have end_ : ∀ {σ6 : L2.St} {H6 : Hp} {Q : Shared → Prop}, Inv X pins σ6 H6 s6 → (∀ s7, Inv X pins (σ6.set i none) H6 s7 → Q s7) →
          wpAny (model X.prog X.w) X.A (do bindName X.env n .none; unbindBehindTheSuite X.env n pos') (fun _ s7 => Q s7) X.xe s6 := fun {σ6 H6 Q} S6 hq => gone_ok S6 hN hi hln hq
      cases f with
      | next =>
        obtain ⟨σ6, H6, S6, q6⟩ := hsp
        obtain ⟨e6, n6, _, _, _⟩ := S6.pin (a, oe4) (List.mem_append_left _ List.mem_cons_self)
        have T6 : Inv X pins σ6 (upd H6 a (ExV cls d a)) s6 := Inv.track (S6.unsuite ok) n0 n6 e6 nL (fun v z => by rw [hd4] at z; cases z) nP (exV_ok e6 hz4 hd4)
        exact end_ T6 fun s7 J7 => ⟨_, _, J7, q6 n6⟩
      | brk =>
        obtain ⟨σ6, H6, S6, q6⟩ := hsp
        exact end_ (S6.unsuite ok) fun s7 J7 => ⟨_, _, J7, q6⟩
      | cont =>
        obtain ⟨σ6, H6, S6, q6⟩ := hsp
        exact end_ (S6.unsuite ok) fun s7 J7 => ⟨_, _, J7, q6⟩
      | ret u =>
        obtain ⟨v6, σ6, H6, S6, r6, q6⟩ := hsp
        exact end_ (S6.unsuite ok) fun s7 J7 => ⟨_, _, _, J7, r6, q6⟩
    | false =>
      show wpAny _ X.A (handleBy (.ref a) X.env []) _ _ _
      refine wpAny_handleBy_nil ?_
      obtain ⟨k1, k2, k3, oe, vs, T, oT, ts', he, hz, hd, h1, hr⟩ := id fl3
      unfold PySem.passOn
      refine wpAny_bind (wpAny_field he hd h1 ?_)
      rw [if_neg (show ¬ ((Value.ref T == Value.none) = true) from by simp)]
      have fin : wpAny (model X.prog X.w) X.A (setFlight (.ref a) X.env.frame) (fun _ s4 => wpAny (model X.prog X.w) X.A (throw (.ref a) : Sem Flow) (SP X pins D) X.xe s4) X.xe { s' with heap := h3 } := by
        rw [hf]
        refine HandSPX.setFlight_upZ fl3 fun h4 hh4 up4 => wpAny_throw (tk _ _ ?_)
        exact ⟨a, B, sI, pins, σ', H', cls, d, rfl, J, nb, (up.trans up3).trans up4, .inr (.inr (by rw [hs]; exact hh4)), na, os, ag, hno rfl⟩
      first
        | exact wpAny_bind (wpAny_pure (wpAny_bind fin))
        | exact wpAny_bind fin
  · cases f with
    | next =>
      obtain ⟨σ', H', J', q⟩ := hsp
      exact wpAny_execs_nil ⟨σ', H', J'.ofTry ok, q⟩
    | brk =>
      obtain ⟨σ', H', J', q⟩ := hsp
      exact ⟨σ', H', J'.ofTry ok, q⟩
    | cont =>
      obtain ⟨σ', H', J', q⟩ := hsp
      exact ⟨σ', H', J'.ofTry ok, q⟩
    | ret u =>
      obtain ⟨v, σ', H', J', r, q⟩ := hsp
      exact ⟨v, σ', H', J'.ofTry ok, r, q⟩
end
section
open PySem.W PySem.Calls
variable {prog : Program} {w : World} {A : Around} {E : Value → Shared → Prop} {s : Shared} {K : Frag} {x D : Addr} {ox : Obj} {od : Option Obj}
theorem findObj_dataD {C : Addr} {name : Str} {a g : Value} (hc : (clsIn K C).isSome = true) (ha : findIn K (.ref C) name = some (some a)) (hg : specialIn K a "__get__" = some (some g)) (ht : takesIn K a = some true) : findObj K C od name = some (.bind g a) := by
  obtain ⟨cd, hc⟩ := Option.isSome_iff_exists.mp hc
  unfold findObj
  rw [hc, Option.bind_some, ha, Option.bind_some]
  simp [hg, ht]
theorem kin_classD {Q : Option Value → Shared → Prop} (C : ExcC K D)
    (X : K.In s.heap) (I : InstAt s.heap x ox D od) (h : Q (some (.ref D)) { s with toks := s.toks + 1 }) : wpAny (model prog w) A (getAttr? (.ref x) "__class__") Q E s := by
  obtain ⟨hga, hgt, hsub, hdct, ha, hn, htk, hm⟩ := C
  have hf : findObj K D od "__class__" = some (.bind (.builtin "getset_descriptor.__get__") (.builtin "object.__class__")) := findObj_dataD (by obtain ⟨cd, hc, _⟩ := any_some hdct; rw [hc]; rfl) ha hn htk
  obtain ⟨hp, g, d, t, os⟩ := s
  have L0 := I.type (M := model prog w)
  have L1 := looks_findIn (M := model prog w) X hga
  have L2 := looks_findIn (M := model prog w) X hgt
  have L3 := looks_find (M := model prog w) X I hf
  have sub : Looks (model prog w) hp (isInstance (.ref x) (.type "BaseException")) true := L0.andThen (looks_subIn X hsub)
  have hx0 : (false && onTheHeap (Value.builtin "BaseException.__getattribute__")) = false := rfl
  have hx2 : (Value.builtin "BaseException.__getattribute__" == Value.builtin "object.__getattribute__") = false := by decide +kernel
  have hx1 : (onTheHeap (Value.ref D) && Value.builtin "BaseException.__getattribute__" == Value.builtin "object.__getattribute__") = false := by rw [hx2]; rfl
  unfold getAttr? getAttrBy? getAttrBy
  refine wpAny_bind (wpAny_mkText (wpAny_bind (wpAny_attempt (wpAny_holding (wpAny_bind (L0.at (wpAny_bind (L1.at ?_))))))))
  show wpAny _ _ (if (onTheHeap (Value.ref D) && Value.builtin "BaseException.__getattribute__" == Value.builtin "object.__getattribute__") = true then _ else _) _ _ _
  rw [hx1, if_neg Bool.false_ne_true]
  unfold getAttrByItsOwn hookBefore
  refine wpAny_bind ?_
  rw [if_pos (show onTheHeap (Value.ref D) = true from rfl)]
  refine L2.at ?_
  refine wpAny_bind (wpAny_attempt (wpAny_holding ?_))
  unfold callGetattribute
  rw [hx0, if_neg Bool.false_ne_true]
  unfold boundAndCalled
  rw [PySem.F.excAttr_ValueError.ga.bind (.ref x)]
  refine wpAny_bind (wpAny_pure ?_)
  show wpAny _ _ (call (.builtin "BaseException.__getattribute__") [.ref x, .str "__class__" t]) _ _ _
  refine wpAny_call (codeAny_call_builtin PySem.F.excAttr_ValueError.ga.plain PySem.F.entry_bexc_ga ?_)
  refine @check_slot (model prog w) _ _ ⟨hp, g, d, t + 1, os⟩ "BaseException.__getattribute__" "BaseException" "__getattribute__" (.ref x) [.str "__class__" t] [] _ (by decide +kernel) (by decide +kernel) sub (PySem.F.args_bexc_ga (.ref x) (.str "__class__" t)) ?_
  unfold Builtin.«object.__getattribute__»
  refine wpAny_bind (wpAny_of_eq (a := ((Value.ref x : Value), [Value.str "__class__" t])) (by first | rfl | (simp only [slotArgs]; rfl)) ?_)
  refine wpAny_bind (wpAny_pure (wpAny_bind (L0.at (wpAny_bind (L3.at ?_)))))
  show wpAny _ _ (holding [Value.builtin "object.__class__"] (call (.builtin "getset_descriptor.__get__") [.builtin "object.__class__", .ref x, .ref D]) >>= ret) _ _ _
  refine wpAny_bind (wpAny_holding (wpAny_call (class_get (s := ⟨hp, g, d, t + 1, os⟩) (ox := ox) (od := od) X I hm ?_)))
  refine wpAny_pure ?_
  show wpAny _ _ (handedOut (.ref D)) _ _ _
  rw [handedOut_of (v := .ref D) rfl]
  first
    | exact wpAny_pure (wpAny_pure h)
    | exact wpAny_pure h
    | exact wpAny_pure (wpAny_bind (wpAny_pure (wpAny_pure h)))
theorem kitx_excD (C : ExcC K D) : KitX K (.ref x) (.ref D) (fun h => InstAt h x ox D od) where
  ty := fun _ _ _ I => I.type
  it := fun M h X _ => by
    obtain ⟨cdD, hcD, _⟩ := any_some C.hd
    unfold clsIn at hcD
    split at hcD
    · rename_i c' d' cd' sl' ho
      intro A' Q' E' s' k q
      unfold isType loadHead
      exact wpAny_bind (wpAny_loadPart (k _ _ (X _ _ ho)) (wpAny_pure q))
    · cases hcD
  ne := (handS_kitx_exc (x := x) (ox := ox) C.hg C.hk C.hs C.hd C.ha C.hn C.ht C.hm).ne
  ca := fun X I k => kin_classD C X I k
end
section
variable {X : Cx}
/-- such an exception's object and dict -/
theorem instV {P : Program} {w : World} {H : Hp} {h : Heap} {a D : Addr} {d : Option Addr} (ok : HOk P w H h) (ha : H a = some (ExV (.ref D) d a)) (hd : ∀ dd, d = some dd → ∃ fs, H dd = some (.xd fs)) :
    ∃ ox od, PySem.W.InstAt h a ox D od := by
  obtain ⟨⟨oe, vs, e, z, hv⟩, _⟩ := ok a _ ha
  cases d with
  | none =>
    obtain ⟨oc, od, oda, osl⟩ := oe
    obtain ⟨h1, h2⟩ := z
    dsimp only at h1 h2 hv
    subst h1 h2 hv
    exact ⟨_, none, e, rfl, rfl, trivial⟩
  | some dd =>
    obtain ⟨fs, hdd⟩ := hd dd rfl
    obtain ⟨mA, hns, hr⟩ := (show ObjOk P w H h dd (.xd fs) from ok dd _ hdd)
    obtain ⟨od, ho, hl⟩ := lookIn_ns hns
    exact ⟨oe, some od, e, z.1, by unfold PySem.W.notCls; rw [hv] <;> rfl, by rw [z.2]; exact ho⟩
/-- isinstance(e, c), e a kept exception -/
def rIsX (K : PySem.W.Frag) : List V → Hp → VK → Prop := fun xs H Q => ∃ (a D : Addr) (d : Option Addr) (c : V) (cv : Value) (b : Bool), xs = [.ref a, c] ∧ H a = some (ExV (.ref D) d a) ∧ (∀ dd, d = some dd → ∃ fs, H dd = some (.xd fs)) ∧ ExcC K D ∧ ClsV c cv ∧ PySem.W.kitOne K (.ref D) cv = some b ∧ Q (.bl b) H
theorem call_isX : CallR X (.builtin "isinstance") (rIsX X.K) := by
  intro pins s σ H xs us Q I r h
  obtain ⟨a, D, d, c, cv, b, rfl, ha, hd, C, k, e, q⟩ := h
  obtain ⟨u1, u2, rfl, r1, r2⟩ := vals2 r
  have e2 := k.eq r2
  subst e2
  cases r1
  obtain ⟨ox, od, J⟩ := instV I.hok ha hd
  exact PySem.W.kia_one (kitx_excD C) I.kIn J e (fun z => nomatch z) fun tk => ⟨.bl b, H, I.tok tk, rfl, q⟩
def rIsXT (K : PySem.W.Frag) : List V → Hp → VK → Prop := fun xs H Q => ∃ (a D : Addr) (d : Option Addr) (tp : Addr) (cs : List V) (us : List Value) (b : Bool), xs = [.ref a, .ref tp] ∧ H tp = some (.tup cs) ∧ Paired ClsV cs us ∧ H a = some (ExV (.ref D) d a) ∧ (∀ dd, d = some dd → ∃ fs, H dd = some (.xd fs)) ∧ ExcC K D ∧ PySem.W.kitAny K (.ref D) us = some b ∧ Q (.bl b) H
theorem call_isXT : CallR X (.builtin "isinstance") (rIsXT X.K) := by
  intro pins s σ H xs us Q I r h
  obtain ⟨a, D, d, tp, cs, ws, b, rfl, hT, k, ha, hd, C, e, q⟩ := h
  obtain ⟨u1, u2, rfl, r1, r2⟩ := vals2 r
  cases (show u2 = Value.ref tp from r2)
  cases r1
  obtain ⟨ox, od, J⟩ := instV I.hok ha hd
  obtain ⟨_, its, rv, o, h1, h2, n, h3⟩ := (show ObjOk X.prog X.w H s.heap tp (.tup cs) from I.hok tp _ hT)
  have e3 := ClsV.all k rv
  subst e3
  obtain ⟨oc, od, dt, sl⟩ := o
  simp only at h2 h3
  subst h2 h3
  exact PySem.W.kia_tup (kitx_excD C) I.kIn J h1 e (fun z => nomatch z) fun tk => ⟨.bl b, H, I.tok tk, rfl, q⟩
/-- e.f, e a kept exception -/
def tXfV (K : PySem.W.Frag) (f : Str) (te : TE) : TE := fun σ H Q => te σ H fun x H1 => ∃ (a C : Addr) (dd : Addr) (fs : List (Str × V)) (v : V), x = .ref a ∧ H1 a = some (ExV (.ref C) (some dd) a) ∧ XfC K C ∧ PySem.W.findIn K (.ref C) f = some none ∧ H1 dd = some (.xd fs) ∧ fs.lookup f = some v ∧ Q v H1
theorem pe_xfV {e : Expr} {te : TE} {pos : Pos} {n : Str} (he : PE X e te) (hb : attributeBase e n X.env (eval e X.env) = eval e X.env := by rfl) :
    PE X (.Attribute e n pos) (tXfV X.K n te) := by
  refine ⟨fun pins s σ H Q I h => ?_⟩
  refine attr_of hb (thn (he.run pins s σ H _ I h) fun u s1 hh => ?_)
  obtain ⟨x, H1, I1, rx, a, C, dd, fs, v, ex, ha, T, hno, ea, l, q⟩ := hh
  subst ex
  obtain rfl : u = Value.ref a := rx
  obtain ⟨⟨oe, vs, e, hz, hd⟩, _⟩ := I1.hok a _ ha
  have hx : ObjOk X.prog X.w H1 s1.heap dd (.xd fs) := I1.hok dd _ ea
  obtain ⟨mA, hns, hr⟩ := hx
  obtain ⟨od, ho, hl⟩ := lookIn_ns hns
  obtain ⟨u, hu, ru⟩ := RelO.some_of (v := v) (o := mA n) (by rw [← l]; exact hr n)
  have J : PySem.W.InstAt s1.heap a oe C (some od) := ⟨e, hz.1, by unfold PySem.W.notCls; rw [hd] <;> rfl, by rw [hz.2]; exact ho⟩
  exact HandSPX.exc_get I1.kIn J T.ga T.gg T.exC (PySem.W.findObj_own T.hdC hno rfl (by rw [hl, hu])) (handed_of ru) ⟨v, H1, I1.tok _, ru, q⟩
end
end Wb

set_option Elab.async false
set_option linter.all false
set_option maxRecDepth 100000
set_option maxHeartbeats 8000000
set_option pp.maxSteps 900
set_option pp.deepTerms false
namespace Wb
open PySem PySem.Spec PyProof.Rows L2
abbrev sTol : Stmt := topS 59
abbrev nTol : List Str := ["_law_lock_here", "_law_book", "_law_kept", "_law_found", "e"]
theorem scTol : FnScope nTol ["_law_lock_here", "_law_book"] (defScope sTol) := ⟨rfl, rfl, rfl, by decide +kernel, rfl, by decide +kernel, by decide +kernel⟩
/-- the caught class, and what the law holds the refusal against -/
structure NxC (K : PySem.W.Frag) (mg : Str → Option Value) (N : NbC K mg) where
  ec : ExcC K N.C
  xf : XfC K N.C
  cb : Addr
  gb : mg "BoltError" = some (.ref cb)
  ex : PySem.W.exmOne K (.ref N.C) (.ref cb) = some true
  kn : PySem.W.kitOne K (.ref N.C) (.ref N.C) = some true
section
variable {P : Program} {w : World} {K : PySem.W.Frag} {mg : Str → Option Value} {base : Heap}
theorem ok_told (D : Pr K mg) (R : ReC K mg) (N : NbC K mg) (S : NdK K mg) (W : WgK K mg) (NX : NxC K mg N) {f : Addr} {fd : FuncData} (F : Fun K "_law_told" "_law_told" sTol f fd) : FnOk P w K mg base CX0 9 f fd ["_law_lock_here", "_law_book"] (spWL K) := by
  have B := D.B
  have GW : FnOk P w K mg base (L2.CX P w) 8 W.f1 W.d1 ["lock", "book"] (spWgd K N.C) := ok_weighed D R N S W
  refine F.ok scTol (fun vs H Q E h => ?_) (fun cdv A outer s H vs Q E hr h => ?_)
  · obtain ⟨v, a, l, bk, rfl, _⟩ := h; rfl
  · obtain ⟨v, a, l, bk, rfl, hl, ok, hbk, q⟩ := h
    refine ⟨_, (Evl.pss_cut (ps_asg (pe_tup (pa_cons pe_non (pa_cons pe_non pa_nil))) (pg_tup rfl (pgs_cons (pg_name (i := 2) scTol.nd rfl (.inl rfl)) (pgs_cons (pg_name (i := 3) scTol.nd rfl (.inl rfl)) pgs_nil))))
      (pss_cons (ps_try_asT (i := 4) (tb := fun Wx => tAsg (tCallS (spWgd K N.C) (WE Wx) (tCons (tVar 0) (tCons (tVar 1) tNil))) (gName 3)) (ts := fun _ _ _ => tAsg (tVar 4) (gName 2)) (Wout := fun _ _ _ _ => False) rfl rfl rfl scTol.nd rfl rfl ⟨rfl, by decide, Or.inl NX.gb⟩ takes0
          (fun Wx pn xe tk _ => pss_one (ps_set (i := 3) scTol.nd rfl (.inl rfl) (by exact (pe_callS GW hr rfl W.g1 W.F1.kp W.b1 (fun σ => passAt tk σ) (by exact (pa_cons (pv 0) (pa_cons (pv 1) pa_nil)))))))
          (fun a oe cls d pn hz hf => pss_one (ps_set (i := 2) scTol.nd rfl (.inl rfl) (by exact (pv 4)))))
      (pss_cons (ps_if (pt_cmpR op_isN (pv 2) pe_non (nomark _)) (pss_one (ps_ret (pv 3))) pss_nil)
      (pss_one (ps_ret (pe_ifExp (pt_val (pe_callB call_isX (by rfl) B.isi boot_isinstance (pa_cons (pv 2) (pa_cons (pe_glob (v := .ref N.C) (by rfl) N.g rfl) pa_nil)))) (pe_xfV (pv 2)) pe_str)))))), ?_⟩
    refine ⟨fun σ H' => σ = [some v, some (.ref a), some .non, some .non, none] ∧ Evl.Ex H H', ?_, ?_⟩
    · refine ⟨(by show 2 ≤ sizeLine; decide), fun t nt => ?_⟩
      refine ⟨t, _, rfl, SqT.of upd_same, rfl, _, _, rfl, _, _, rfl, rfl, ?_⟩
      exact ⟨rfl, Evl.Ex.new nt⟩
    rintro _ H0 ⟨rfl, e0⟩
    refine ⟨v, rfl, .ref a, rfl, v, a, l, bk, rfl, hl.mono (TX.ex e0), ok, hbk.ex e0, fun n hn => ?_, fun t ht => ?_⟩
    · intro H' e ex ne he
      refine ⟨true, NX.ex, fun _ a' na => ?_, fun z => by cases z⟩
      refine ⟨.ref a', rfl, fun na' => ?_⟩
      have eA := Evl.Ex.new (o := ExV (.ref N.C) (some e) a') na'
      have gA : (upd H' a' (ExV (.ref N.C) (some e) a')) a' = some (ExV (.ref N.C) (some e) a') := upd_same
      generalize upd H' a' (ExV (.ref N.C) (some e) a') = H1 at eA gA
      have he1 := eA _ _ he
      refine ⟨.ref a', rfl, rfl, _, rfl, ?_⟩
      refine iteF ?_
      have hd : ∀ dd, some e = some dd → ∃ fs, H1 dd = some (.xd fs) := fun dd z => by
        cases z
        exact ⟨_, he1⟩
      refine ⟨.ref a', rfl, a', N.C, some e, .ref N.C, .ref N.C, true, rfl, gA, hd, NX.ec, .own _, NX.kn, true, rfl, ?_⟩
      refine iteT ?_
      refine ⟨.ref a', rfl, a', N.C, e, _, .int (n : Nat), rfl, gA, NX.xf, N.no, he1, rfl, ?_⟩
      refine q H1 _ (e0.trans (ex.trans eA)) ?_
      rw [hn]
      exact rfl
    · intro H' r ex hw
      obtain ⟨ra, _, _, rr, _⟩ := id hw
      subst rr
      refine ⟨.non, rfl, rfl, _, rfl, ?_⟩
      refine iteT ?_
      refine ⟨.ref ra, rfl, q H' (.ref ra) (e0.trans ex) ?_⟩
      rw [ht]
      exact hw
end
end Wb

set_option Elab.async false
set_option linter.all false
set_option maxRecDepth 100000
set_option maxHeartbeats 4000000
namespace L2
open PySem PySem.Spec PyProof.Rows
/-! ### tuple * int, for none and one too -/
theorem tuple_mul1 (l : Addr) (items : Array Value) (n : Nat) (dd : Option Addr) (sl : Array (Option Value)) (u : Tok) :
    Meets (Builtin.«tuple.__mul__» ⟨[.ref l, .int 1 u], []⟩) (fun _ R s => s.heap.get? l = some { cls := .type "tuple", dict := dd, data := .seq items n, slots := sl } ∧ R (.ok (.ret (Value.ref l))) s) :=
  .of_wp fun prog w A R s h => by
    obtain ⟨hp, g, d, tk, os⟩ := s
    obtain ⟨hl, h⟩ := h
    have f1 := AutoSeq1.idx_int
    have c1 : (items.isEmpty || (1 : Int) == 1) = true := by rw [Bool.or_eq_true]; exact .inr rfl
    wp_walk using wpAny_loadPart' hl
    repeat (first
      | (refine wpAny_ite_true (decide_eq_true c1) ?_; wp_walk using wpAny_loadPart' hl)
      | (refine wpAny_ite_false (decide_eq_false (by decide)) ?_; wp_walk using wpAny_loadPart' hl))
    exact ⟨_, rfl, h⟩
theorem tuple_mul0 (l : Addr) (items : Array Value) (n : Nat) (dd : Option Addr) (sl : Array (Option Value)) (u : Tok) (c1 : (items.isEmpty || (0 : Int) == 1) = false) :
    Meets (Builtin.«tuple.__mul__» ⟨[.ref l, .int 0 u], []⟩) (fun _ R s => s.heap.get? l = some { cls := .type "tuple", dict := dd, data := .seq items n, slots := sl } ∧
      R (.ok (.ret (Value.ref s.heap.objs.size))) { s with heap := s.heap.push { cls := Value.type "tuple", data := Data.seq #[] }, toks := s.toks }) :=
  .of_wp fun prog w A R s h => by
    obtain ⟨hp, g, d, tk, os⟩ := s
    obtain ⟨hl, h⟩ := h
    have f1 := AutoSeq1.idx_int
    have c2 : (decide ((0 : Int) ≤ 0) || items.isEmpty) = true := by rw [Bool.or_eq_true]; exact .inl (by decide)
    have c3 : (#[] : Array Value).size ≤ sizeLine := Nat.zero_le _
    wp_walk using wpAny_loadPart' hl
    repeat (first
      | (refine wpAny_ite_false (decide_eq_false (by decide)) ?_; wp_walk using wpAny_loadPart' hl)
      | (refine wpAny_ite_false (decide_eq_false (by rw [c1]; exact Bool.false_ne_true)) ?_; wp_walk using wpAny_loadPart' hl)
      | (refine wpAny_ite_true (decide_eq_true c2) ?_; wp_walk using wpAny_loadPart' hl)
      | (refine wpAny_ite_false (decide_eq_false (Nat.not_lt.mpr c3)) ?_; wp_walk using wpAny_loadPart' hl))
    exact ⟨_, rfl, h⟩
def rRepN (K : PySem.W.Frag) : R2 := fun x y H Q => ∃ l k xs, x = .ref l ∧ y = .int k ∧ SqT K H l xs ∧ xs ≠ [] ∧ 0 ≤ k ∧ k ≤ 1000 ∧ xs.length ≤ 1000 ∧ (k = 1 → Q (.ref l) H) ∧ (k ≠ 1 → ∀ p, H p = none → Q (.ref p) (upd H p (.tup (List.replicate k.toNat xs).flatten)))
section
variable {X : Cx}
theorem op_repN : OpR X (binaryOp .Mult) (rRepN X.K) := by
  intro pins s σ H x y v u Q I rx ry h
  obtain ⟨l, k, xs, rfl, rfl, hT, hne, h1, h2, hz, q1, q⟩ := h
  by_cases k2 : 2 ≤ k
  · exact op_repT pins s σ H _ _ v u Q I rx ry ⟨l, k, xs, rfl, rfl, hT, hne, k2, h2, hz, q (by omega)⟩
  cases rx
  obtain ⟨t, rfl⟩ := ry
  obtain ⟨its, r, ⟨⟨cls, dd, data, sl⟩, ho, hc, n, hd⟩, hs⟩ := I.tuple hT
  simp only at hc hd
  subst hc hd
  have hle : its.length = xs.length := r.length.symm
  have hn : its ≠ [] := fun e => hne (by
    rw [e] at hle
    exact List.eq_nil_of_length_eq_zero hle.symm)
  have hi : its.toArray.isEmpty = false := by
    cases its with
    | nil => exact absurd rfl hn
    | cons a b => rfl
  by_cases k1 : k = 1
  · subst k1
    refine wpAny_binaryOp_repeat_ref (T := "tuple") (U := "int") (by decide) ⟨_, ho, rfl⟩ (fun s' => typeIs_int s' 1 t) noFill_tuple_mul F.fills_int_mul F.slot_int_rmul repeat_tuple F.slot_int_index.lookup
      (call_meets F.slot_int_rmul (typeIs_int s 1 t) F.entry_int_rmul (F.args_int_rmul_2 _ _) (int_rmul_tuple 1 t l its.toArray n dd sl)
        ⟨ho, rfl, ⟨_, ho, rfl⟩, call_meets F.slot_tuple_mul ⟨_, ho, rfl⟩ F.entry_tuple_mul (F.args_tuple_mul_2 _ _) (tuple_mul1 l its.toArray n dd sl t) ⟨ho, ?_⟩⟩)
    exact ⟨.ref l, H, I, rfl, q1 rfl⟩
  · have k0 : k = 0 := by omega
    subst k0
    refine wpAny_binaryOp_repeat_ref (T := "tuple") (U := "int") (by decide) ⟨_, ho, rfl⟩ (fun s' => typeIs_int s' 0 t) noFill_tuple_mul F.fills_int_mul F.slot_int_rmul repeat_tuple F.slot_int_index.lookup
      (call_meets F.slot_int_rmul (typeIs_int s 0 t) F.entry_int_rmul (F.args_int_rmul_2 _ _) (int_rmul_tuple 0 t l its.toArray n dd sl)
        ⟨ho, rfl, ⟨_, ho, rfl⟩, call_meets F.slot_tuple_mul ⟨_, ho, rfl⟩ F.entry_tuple_mul (F.args_tuple_mul_2 _ _) (tuple_mul0 l its.toArray n dd sl t (by rw [hi]; rfl)) ⟨ho, ?_⟩⟩)
    refine ⟨.ref s.heap.objs.size, _, I.laid (t' := s.toks) (o := .tup (List.replicate (0 : Int).toNat xs).flatten) (fun b ob q => Heap.get?_push_of_some _ q) (Nat.le_refl _) ?_, rfl, q (by decide) _ (I.hok.fresh (Nat.le_refl _))⟩
    exact ⟨Nat.zero_le _, [], .nil, IsTup.new _ _⟩
end
end L2

set_option Elab.async false
set_option linter.all false
set_option maxRecDepth 100000
set_option maxHeartbeats 8000000
set_option pp.maxSteps 900
set_option pp.deepTerms false
namespace Wb
open PySem PySem.Spec PyProof.Rows L2
/-! ### how great told prices and counts are -/
def Big (p c : Int) : Prop := 0 ≤ c ∧ 0 ≤ p ∧ p ≤ 1000000 * c
structure TldOk (t : Tld) : Prop where
  bl : t.b.length ≤ 60
  el : t.e.length ≤ 60
  bx : ∀ x ∈ t.b, 0 ≤ x ∧ x < 4
  ex : ∀ x ∈ t.e, 0 ≤ x ∧ x < 4
  c1 : t.c ≤ mostC
  big : Big t.p t.c
theorem gone_big {l : Lock} (ok : LockOk l) {T : List Tld} (hT : ∀ t ∈ T, TldOk t) {pl u : Word} {x : Ent} {p c : Int} (h : goneE l T pl x = some (u, p, c)) : Big p c := by
  cases x with
  | step k to =>
    have h' : (if 0 ≤ k ∧ k < (pl.length : Int) then (match (stepsOf l pl k.toNat).find? (fun t => decide (t.to_ = to)) with
      | some t => some (pl.set k.toNat to, t.price, (1 : Int))
      | none => none) else none) = some (u, p, c) := h
    by_cases hk : 0 ≤ k ∧ k < (pl.length : Int)
    · rw [if_pos hk] at h'
      cases hf : (stepsOf l pl k.toNat).find? (fun t => decide (t.to_ = to)) with
      | none => rw [hf] at h'; cases h'
      | some t =>
        rw [hf] at h'
        have z := Option.some.inj h'
        have z1 : t.price = p := congrArg (fun q => q.2.1) z
        have z2 : (1 : Int) = c := congrArg (fun q => q.2.2) z
        have hm := List.mem_of_find?_eq_some hf
        unfold stepsOf at hm
        cases hb : l[k.toNat]? with
        | none => rw [hb] at hm; cases hm
        | some b =>
          cases hp : pl[k.toNat]? with
          | none => rw [hb, hp] at hm; cases hm
          | some q =>
            rw [hb, hp] at hm
            have hm' : t ∈ pickAt k.toNat q (movesL b.gaps (pl.take k.toNat)) := hm
            unfold pickAt at hm'
            obtain ⟨s, hs, rfl⟩ := List.mem_map.mp hm'
            unfold movesL at hs
            obtain ⟨g, hg, rfl⟩ := List.mem_map.mp (List.mem_filter.mp hs).1
            have G := (ok.bolts _ b hb).gaps g (List.mem_filter.mp hg).1
            have z1' : g.price = p := z1
            have := G.p0
            have := G.p1
            exact ⟨by omega, by omega, by omega⟩
    · rw [if_neg hk] at h'; cases h'
  | part n =>
    have h' : (if (0 : Int) ≤ n then (match T[n.toNat]? with
      | some t => if pl.take t.b.length = t.b then some (t.e ++ pl.drop t.b.length, t.p, t.c) else none
      | none => none) else none) = some (u, p, c) := h
    by_cases n0 : 0 ≤ n
    · rw [if_pos n0] at h'
      cases ht : T[n.toNat]? with
      | none => rw [ht] at h'; cases h'
      | some t =>
        rw [ht] at h'
        have h2 : (if pl.take t.b.length = t.b then some (t.e ++ pl.drop t.b.length, t.p, t.c) else none) = some (u, p, c) := h'
        by_cases e : pl.take t.b.length = t.b
        · rw [if_pos e] at h2
          have z := Option.some.inj h2
          have z1 : t.p = p := congrArg (fun q => q.2.1) z
          have z2 : t.c = c := congrArg (fun q => q.2.2) z
          rw [← z1, ← z2]
          exact (hT t (List.mem_of_getElem? ht)).big
        · rw [if_neg e] at h2; cases h2
    · rw [if_neg n0] at h'; cases h'
theorem fold_big {l : Lock} (ok : LockOk l) {T : List Tld} (hT : ∀ t ∈ T, TldOk t) : ∀ (es : List Ent) (pl : Word) (p c : Int) {u : Word} {p' c' : Int}, Big p c → foldE l T pl p c es = some (u, p', c') → Big p' c'
  | [], pl, p, c, u, p', c', hb, h => by
    have z := Option.some.inj (show some (pl, p, c) = some (u, p', c') from h)
    have z1 : p = p' := congrArg (fun q => q.2.1) z
    have z2 : c = c' := congrArg (fun q => q.2.2) z
    rw [← z1, ← z2]; exact hb
  | x :: es, pl, p, c, u, p', c', hb, h => by
    rw [foldE] at h
    cases hg : goneE l T pl x with
    | none => rw [hg] at h; cases h
    | some r =>
      obtain ⟨v, q, d⟩ := r
      rw [hg] at h
      obtain ⟨b1, b2, b3⟩ := gone_big ok hT hg
      obtain ⟨a1, a2, a3⟩ := hb
      exact fold_big ok hT es v (p + q) (c + d) ⟨by omega, by omega, by omega⟩ h
theorem places_small {l : Lock} (ok : LockOk l) {w : Word} {m : Nat} (h : placesB (dW w) ((manysOf l).take m) = true) : ∀ x ∈ w, 0 ≤ x ∧ x < 4 := by
  unfold placesB at h
  rw [Bool.and_eq_true, Bool.and_eq_true] at h
  have hl := of_decide_eq_true h.2.1
  have e2 : itemsD (dW w) = w.map PyData.int := rfl
  rw [e2, List.length_map] at hl
  have ha := allP_iff.mp (show allP (w.map PyData.int) ((manysOf l).take m) = true from h.2.2)
  intro x hx
  obtain ⟨i, hi⟩ := List.mem_iff_getElem?.mp hx
  have il : i < ((manysOf l).take m).length := by rw [← hl]; exact (List.getElem?_eq_some_iff.mp hi).1
  have hm := List.getElem?_eq_getElem il
  have := ha i x _ hi hm
  have h4' : ∀ y ∈ manysOf l, y ≤ 4 := fun y hy => by
    unfold manysOf at hy
    obtain ⟨b, hb, rfl⟩ := List.mem_map.mp hy
    obtain ⟨k, hk⟩ := List.mem_iff_getElem?.mp hb
    exact manys_le ok hk
  have h4 := h4' _ (List.mem_of_mem_take (List.getElem_mem il))
  omega
theorem part_ok {l : Lock} (ok : LockOk l) {T : List Tld} (hT : ∀ t ∈ T, TldOk t) {x : Prt} {p c : Int} (h : partE l T x = some (p, c)) : TldOk ⟨x.b, x.e, p, c⟩ := by
  obtain ⟨h1, h2⟩ := part_conds h
  have n60 := ok.n1
  unfold partE at h
  by_cases z : 1 ≤ x.b.length ∧ x.b.length ≤ l.length ∧ x.es.length ≤ 60 ∧ placesB (dW x.b) ((manysOf l).take x.b.length) = true ∧ placesB (dW x.e) ((manysOf l).take x.b.length) = true
  · rw [if_pos z] at h
    unfold weightE at h
    cases hf : foldE l T x.b 0 0 x.es with
    | none => rw [hf] at h; cases h
    | some r =>
      obtain ⟨u, q, d⟩ := r
      rw [hf] at h
      have h' : (if u = x.e ∧ d ≤ mostC then some (q, d) else none) = some (p, c) := h
      by_cases y : u = x.e ∧ d ≤ mostC
      · rw [if_pos y] at h'
        have e := Option.some.inj h'
        have e1 : q = p := congrArg Prod.fst e
        have e2 : d = c := congrArg Prod.snd e
        subst e1 e2
        exact ⟨by show x.b.length ≤ 60; omega, by show x.e.length ≤ 60; omega, places_small ok z.2.2.2.1, places_small ok z.2.2.2.2, y.2, fold_big ok hT _ _ _ _ ⟨by omega, by omega, by omega⟩ hf⟩
      · rw [if_neg y] at h'; cases h'
  · rw [if_neg z] at h; cases h
theorem book_ok {l : Lock} (ok : LockOk l) : ∀ (B : List Prt) (T U : List Tld) (n : Nat), (∀ t ∈ T, TldOk t) → bookE l T B n = .inr U → ∀ t ∈ U, TldOk t
  | [], T, U, n, hT, h => by
    have : T = U := Sum.inr.inj (show (.inr T : Nat ⊕ List Tld) = .inr U from h)
    rw [← this]; exact hT
  | x :: xs, T, U, n, hT, h => by
    rw [bookE] at h
    cases hp : partE l T x with
    | none => rw [hp] at h; cases h
    | some g =>
      obtain ⟨p, c⟩ := g
      rw [hp] at h
      refine book_ok ok xs _ U (n + 1) (fun t ht => ?_) h
      rcases List.mem_append.mp ht with m | m
      · exact hT t m
      · rw [List.mem_singleton.mp m]; exact part_ok ok hT hp
theorem book_inl {l : Lock} : ∀ (B : List Prt) (T : List Tld) (n m : Nat), bookE l T B n = .inl m → m ≤ n + B.length
  | [], T, n, m, h => by cases h
  | x :: xs, T, n, m, h => by
    rw [bookE] at h
    cases hp : partE l T x with
    | none =>
      rw [hp] at h
      have : n = m := Sum.inl.inj (show (.inl n : Nat ⊕ List Tld) = .inl m from h)
      omega
    | some g =>
      obtain ⟨p, c⟩ := g
      rw [hp] at h
      have := book_inl xs _ (n + 1) m h
      rw [List.length_cons]; omega
theorem weigh_inr {l : Lock} (ok : LockOk l) {B : List Prt} {t : Tld} (h : weighE l B = .inr t) : TldOk t := by
  unfold weighE at h
  cases hn : needE l B with
  | inl n => rw [hn] at h; cases h
  | inr T =>
    rw [hn] at h
    have h' : (match T.getLast? with
      | some t => (.inr t : Nat ⊕ Tld)
      | none => .inl 0) = .inr t := h
    cases hg : T.getLast? with
    | none => rw [hg] at h'; cases h'
    | some t' =>
      rw [hg] at h'
      have e : t' = t := Sum.inr.inj h'
      subst e
      unfold needE at hn
      by_cases c : 1 ≤ B.length ∧ B.length ≤ 30000
      · rw [if_pos c] at hn
        cases eb : bookE l [] B 0 with
        | inl n => rw [eb] at hn; cases hn
        | inr U =>
          rw [eb] at hn
          have hn' : (if (U.getLast?.map (fun t => t.b.length)) = some l.length then (.inr U : Nat ⊕ List Tld) else .inl B.length) = .inr T := hn
          by_cases c2 : (U.getLast?.map (fun t => t.b.length)) = some l.length
          · rw [if_pos c2] at hn'
            have : U = T := Sum.inr.inj hn'
            subst this
            exact book_ok ok B [] U 0 (fun t ht => nomatch ht) eb t' (List.mem_of_getLast? hg)
          · rw [if_neg c2] at hn'; cases hn'
      · rw [if_neg c] at hn; cases hn
theorem weigh_inl {l : Lock} {B : List Prt} {n : Nat} (h : weighE l B = .inl n) : n ≤ 30000 := by
  unfold weighE at h
  cases hn : needE l B with
  | inl m =>
    rw [hn] at h
    have e : m = n := Sum.inl.inj (show (.inl m : Nat ⊕ Tld) = .inl n from h)
    subst e
    unfold needE at hn
    by_cases c : 1 ≤ B.length ∧ B.length ≤ 30000
    · rw [if_pos c] at hn
      cases eb : bookE l [] B 0 with
      | inl k =>
        rw [eb] at hn
        have e : k = m := Sum.inl.inj (show (.inl k : Nat ⊕ List Tld) = .inl m from hn)
        have := book_inl B [] 0 k eb
        omega
      | inr U =>
        rw [eb] at hn
        have hn' : (if (U.getLast?.map (fun t => t.b.length)) = some l.length then (.inr U : Nat ⊕ List Tld) else .inl B.length) = .inl m := hn
        by_cases c2 : (U.getLast?.map (fun t => t.b.length)) = some l.length
        · rw [if_pos c2] at hn'; cases hn'
        · rw [if_neg c2] at hn'
          have : B.length = m := Sum.inl.inj hn'
          omega
    · rw [if_neg c] at hn
      have : 0 = m := Sum.inl.inj hn
      omega
  | inr T =>
    rw [hn] at h
    have h' : (match T.getLast? with
      | some t => (.inr t : Nat ⊕ Tld)
      | none => .inl 0) = .inl n := h
    cases hg : T.getLast? with
    | none =>
      rw [hg] at h'
      have : 0 = n := Sum.inl.inj h'
      omega
    | some t' => rw [hg] at h'; cases h'
/-! ### what is told, as data -/
def dTol : Nat ⊕ Tld → PyData
  | .inl n => .int (n : Nat)
  | .inr t => .tuple [dW t.b, dW t.e, .int t.p, .int t.c]
theorem dp_tol {K : PySem.W.Frag} {H : Hp} {v : V} {o : Nat ⊕ Tld} (h : TolT K H v o) : Dp K H v (dTol o) := by
  cases o with
  | inl n => obtain rfl : v = .int (n : Nat) := h; exact .int _
  | inr t =>
    obtain ⟨a, bv, ev, rfl, ha, hb, he⟩ := h
    exact .tup (SqT.of ha) (.cons (dp_W hb) (.cons (dp_W he) (.cons (.int _) (.cons (.int _) .nil))))
theorem fine_big {i : Int} (h : i.natAbs < 10 ^ 310) : Fine (.int i) 0 311 := by
  refine ⟨by simp only [PyData.canLay0], ?_, by simp only [PyData.depth]; omega, ?_⟩
  · simp only [PyData.showable]
    refine decide_eq_true ?_
    by_cases z : i.natAbs = 0
    · rw [z]; decide
    · exact (Nat.log2_lt z).mpr (Nat.lt_of_lt_of_le h (by decide +kernel))
  · simp only [PyData.shown]
    rw [PySem.ofString_length]
    exact int_text_length_le10 (k := 310) (by decide) h
theorem fine_tol {l : Lock} (ok : LockOk l) {B : List Prt} : Fine (dTol (weighE l B)) 2 3000 := by
  cases h : weighE l B with
  | inl n =>
    have := weigh_inl h
    exact (fine_small (x := (n : Nat)) (by omega) (by omega)).mono (by decide) (by decide)
  | inr t =>
    have T := weigh_inr ok h
    obtain ⟨c0, p0, pc⟩ := T.big
    have c1 := T.c1
    have h300 : mostC * 1000000 < 10 ^ 310 := by decide +kernel
    have hc : t.c.natAbs < 10 ^ 310 := by omega
    have hp : t.p.natAbs < 10 ^ 310 := by omega
    have f1 := fine_W (B := 4) (n := 60) T.bx (by decide) T.bl
    have f2 := fine_W (B := 4) (n := 60) T.ex (by decide) T.el
    exact (fine_tup (FineAll.cons f1 (FineAll.cons f2 (FineAll.cons ((fine_big hp).mono (Nat.zero_le 1) (Nat.le_refl _)) (FineAll.cons ((fine_big hc).mono (Nat.zero_le 1) (Nat.le_refl _)) FineAll.nil))))).mono (Nat.le_refl _) (by decide)
end Wb

set_option Elab.async false
set_option linter.all false
set_option maxRecDepth 100000
set_option maxHeartbeats 8000000
set_option pp.maxSteps 900
set_option pp.deepTerms false
namespace L2
open PySem PySem.Spec PyProof.Rows
/-- a tuple of few, some ten thousand times -/
def rRepB (K : PySem.W.Frag) : R2 := fun x y H Q => ∃ (l : Addr) (k : Int) (xs : List V), x = .ref l ∧ y = .int k ∧ SqT K H l xs ∧ xs ≠ [] ∧ 2 ≤ k ∧ k ≤ 50000 ∧ xs.length ≤ 10 ∧ ∀ p, H p = none → Q (.ref p) (upd H p (.tup (List.replicate k.toNat xs).flatten))
theorem rep_len {α : Type} {k : Int} {xs : List α} (h : k ≤ 50000) (hx : xs.length ≤ 10) : (List.replicate k.toNat xs).flatten.length ≤ 500000 := by
  rw [PyProof.Rows.lm_len_rep_flat]
  exact Nat.mul_le_mul (by omega : k.toNat ≤ 50000) hx
theorem op_repB {X : Cx} : OpR X (binaryOp .Mult) (rRepB X.K) := by
  intro pins s σ H x y v u Q I rx ry h
  obtain ⟨l, k, xs, rfl, rfl, hT, hne, k2, kB, hx, q⟩ := h
  cases rx
  obtain ⟨t, rfl⟩ := ry
  obtain ⟨its, r, ⟨⟨cls, dd, data, sl⟩, ho, hc, n, hd⟩, _⟩ := I.tuple hT
  dsimp only at hc hd
  cases hc
  cases hd
  have len : its.length = xs.length := r.length.symm
  have ne : its.toArray.isEmpty = false := by
    cases hi : its with
    | nil => rw [hi] at len; exact absurd (List.eq_nil_of_length_eq_zero len.symm) hne
    | cons _ _ => rfl
  have sz : its.toArray.size = xs.length := by rw [List.size_toArray, len]
  have few : ((its.toArray.size : Nat) : Int) * k ≤ 500000 := by
    rw [sz]
    exact Int.le_trans (Int.mul_le_mul_of_nonneg_right (by omega : ((xs.length : Nat) : Int) ≤ 10) (by omega)) (by omega)
  have fits : (List.replicate k.toNat its).flatten.length ≤ sizeLine := Nat.le_trans (rep_len kB (by rw [len]; exact hx)) (by rw [sizeLine_eq]; decide)
  have M := tuple_mulW l its.toArray n dd sl k t (by rw [decide_eq_false (by omega), decide_eq_false (by omega)]; rfl) (by rw [ne, Bool.false_or]; exact beq_eq_false_iff_ne.mpr (by omega)) (by rw [ne, Bool.or_false]; exact decide_eq_false (by omega)) (by omega)
    (by unfold Builtin.Tuple.tupleTooMany; rw [sizeLine_eq]; exact decide_eq_false (by omega)) (by rw [size_rep, List.size_toArray]; exact fits)
  refine wpAny_binaryOp_repeat_ref (T := "tuple") (U := "int") (by decide) ⟨_, ho, rfl⟩ (fun s' => typeIs_int s' k t) noFill_tuple_mul F.fills_int_mul F.slot_int_rmul repeat_tuple F.slot_int_index.lookup ?_
  refine call_meets F.slot_int_rmul (typeIs_int s k t) F.entry_int_rmul (F.args_int_rmul_2 _ _) (int_rmul_tuple k t l its.toArray n dd sl) ⟨ho, rfl, ⟨_, ho, rfl⟩, ?_⟩
  refine call_meets F.slot_tuple_mul ⟨_, ho, rfl⟩ F.entry_tuple_mul (F.args_tuple_mul_2 _ _) M ⟨ho, ?_⟩
  rw [size_rep]
  refine ⟨.ref s.heap.objs.size, _, I.laid (t' := s.toks) (o := .tup (List.replicate k.toNat xs).flatten) (fun b ob z => Heap.get?_push_of_some _ z) (Nat.le_refl _) ?_, rfl, q _ (I.hok.fresh (Nat.le_refl _))⟩
  exact ⟨Nat.le_trans (rep_len kB hx) (by rw [sizeLine_eq]; decide), _, r.rep k.toNat, IsTup.new _ _⟩
end L2
namespace Wb
open PySem PySem.Spec PyProof.Rows L2
/-- repr of an int or of a tuple -/
def rReprA (K : PySem.W.Frag) : List V → Hp → VK → Prop := fun xs H Q => ∃ (v : V) (d : PyData), xs = [v] ∧ Dp K H v d ∧ ((∃ i : Int, i.natAbs.log2 < 1920 ∧ v = .int i) ∨ ∃ a, v = .ref a) ∧ d.showable = true ∧ d.hasDict = false ∧ d.depth ≤ 20 ∧ d.shown.length ≤ sizeLine ∧ Q (.str d.shown) H
theorem call_reprA {X : Cx} (hu : X.A.units + 64 < cLine) (hg : X.A.guards = some []) : CallR X (.builtin "repr") (rReprA X.K) := by
  intro pins s σ H xs us Q I r h
  obtain ⟨v, d, rfl, hd, hv, h1, h2, h3, h4, q⟩ := h
  rcases hv with ⟨i, hi, rfl⟩ | ⟨a, rfl⟩
  · cases hd
    refine SkE.call_repr_int pins s σ H _ us Q I r ⟨i, rfl, hi, ?_⟩
    have e : (PyData.int i).shown = (toString i : String) := by simp only [PyData.shown]
    rw [e] at q
    exact q
  · exact call_repr_data hu hg pins s σ H _ us Q I r ⟨a, d, rfl, hd, h1, h2, h3, h4, q⟩
theorem tol_kind {K : PySem.W.Frag} {H : Hp} {v : V} {l : Lock} {B : List Prt} (h : TolT K H v (weighE l B)) : (∃ i : Int, i.natAbs.log2 < 1920 ∧ v = .int i) ∨ ∃ a, v = .ref a := by
  cases e : weighE l B with
  | inl n =>
    rw [e] at h
    obtain rfl : v = .int (n : Nat) := h
    have := weigh_inl e
    refine .inl ⟨_, ?_, rfl⟩
    by_cases z : (((n : Nat) : Int)).natAbs = 0
    · rw [z]; decide
    · exact (Nat.log2_lt z).mpr (Nat.lt_of_lt_of_le (by omega : (((n : Nat) : Int)).natAbs < 2 ^ 20) (Nat.pow_le_pow_right (by decide) (by decide)))
  | inr t =>
    rw [e] at h
    obtain ⟨a, _, _, r, _⟩ := h
    exact .inr ⟨a, r⟩
/-- repr of what is told -/
theorem rd_repr {K : PySem.W.Frag} {H : Hp} {Q : VK} {v : V} {l : Lock} (ok : LockOk l) {B : List Prt} (h : TolT K H v (weighE l B)) (q : Q (.str (dTol (weighE l B)).shown) H) : rReprA K [v] H Q := by
  have f := fine_tol ok (B := B)
  exact ⟨v, _, rfl, dp_tol h, tol_kind h, f.sho, PyData.hasDict_of_canLay _ f.lay, Nat.le_trans f.dep (by decide), Nat.le_trans f.len (by decide), q⟩
end Wb

set_option Elab.async false
set_option linter.all false
set_option maxRecDepth 100000
set_option maxHeartbeats 16000000
set_option pp.maxSteps 900
set_option pp.deepTerms false
namespace Wb
open PySem PySem.Spec PyProof.Rows L2
abbrev sLaw : Stmt := topS 60
abbrev nLaw : List Str := ["_law_script", "_law_pen_here", "_law_bout", "_law_lock_here", "_law_book", "_law_again", "_law_empty", "_law_many", "_law_number"]
theorem scLaw : FnScope nLaw ["_law_script"] (defScope sLaw) := ⟨rfl, rfl, rfl, by decide +kernel, rfl, by decide +kernel, by decide +kernel⟩

theorem tnil1 {σ : L2.St} {H : Hp} {F : List V → Hp → Prop} (h : F [] H) : tNil σ H F := h
theorem rd_zero {K : PySem.W.Frag} {H : Hp} {Q : VK} {z : Addr} {n : Nat} (hz : H z = some (.tup [.int 0])) (h1 : 1 ≤ n) (h2 : n ≤ 1000) (q : ∀ H' r, Evl.Ex H H' → H' r = some (.tup ((List.replicate n (0 : Int)).map V.int)) → Q (.ref r) H') : rRepN K (.ref z) (.int (n : Nat)) H Q := by
  refine ⟨z, (n : Nat), [.int 0], rfl, rfl, SqT.of hz, by simp, by omega, by omega, (by show 1 ≤ 1000; decide), fun e => ?_, fun _ p np => ?_⟩
  · have : n = 1 := by omega
    subst this
    exact q H z (Evl.Ex.refl H) hz
  · refine q _ p (Evl.Ex.new np) ?_
    rw [upd_same, Int.toNat_natCast, List.map_replicate, List.flatten_replicate_singleton]
structure Ld (K : PySem.W.Frag) (mg : Str → Option Value) where
  f36 : Addr
  d36 : FuncData
  F36 : Fun K "_law_pen" "_law_pen" sPen f36 d36
  b36 : Binds K d36 ["_law_script"] []
  g36 : mg "_law_pen" = some (.ref f36)
  f37 : Addr
  d37 : FuncData
  F37 : Fun K "_law_draw" "_law_draw" sDraw f37 d37
  b37 : Binds K d37 ["_law_pen_here", "_law_many"] []
  g37 : mg "_law_draw" = some (.ref f37)
  f38 : Addr
  d38 : FuncData
  F38 : Fun K "_law_pick" "_law_pick" sPick f38 d38
  b38 : Binds K d38 ["_law_pen_here", "_law_bag"] []
  g38 : mg "_law_pick" = some (.ref f38)
  f39 : Addr
  d39 : FuncData
  F39 : Fun K "_law_shuffled" "_law_shuffled" sShuf f39 d39
  b39 : Binds K d39 ["_law_pen_here", "_law_bag"] []
  g39 : mg "_law_shuffled" = some (.ref f39)
  f40 : Addr
  d40 : FuncData
  F40 : Fun K "_law_price" "_law_price" sPrc f40 d40
  b40 : Binds K d40 ["_law_pen_here", "_law_dear"] []
  g40 : mg "_law_price" = some (.ref f40)
  f41 : Addr
  d41 : FuncData
  F41 : Fun K "_law_bases" "_law_bases" sBases f41 d41
  b41 : Binds K d41 ["_law_pen_here", "_law_counts", "_law_most"] []
  g41 : mg "_law_bases" = some (.ref f41)
  f42 : Addr
  d42 : FuncData
  F42 : Fun K "_law_cuts" "_law_cuts" sCuts f42 d42
  b42 : Binds K d42 ["_law_words", "_law_many"] []
  g42 : mg "_law_cuts" = some (.ref f42)
  f43 : Addr
  d43 : FuncData
  F43 : Fun K "_law_gaps" "_law_gaps" sGaps f43 d43
  b43 : Binds K d43 ["_law_pen_here", "_law_count", "_law_words", "_law_dear"] []
  g43 : mg "_law_gaps" = some (.ref f43)
  f44 : Addr
  d44 : FuncData
  F44 : Fun K "_law_lock" "_law_lock" sLock f44 d44
  b44 : Binds K d44 ["_law_pen_here", "_law_many", "_law_top", "_law_dear"] []
  g44 : mg "_law_lock" = some (.ref f44)
  f45 : Addr
  d45 : FuncData
  F45 : Fun K "_law_full" "_law_full" sFul f45 d45
  b45 : Binds K d45 ["_law_pen_here", "_law_many", "_law_top", "_law_dear"] []
  g45 : mg "_law_full" = some (.ref f45)
  f46 : Addr
  d46 : FuncData
  F46 : Fun K "_law_steps" "_law_steps" sSteps f46 d46
  b46 : Binds K d46 ["_law_lock_here", "_law_at"] []
  g46 : mg "_law_steps" = some (.ref f46)
  f47 : Addr
  d47 : FuncData
  F47 : Fun K "_law_moved" "_law_moved" sMoved f47 d47
  b47 : Binds K d47 ["_law_at", "_law_k", "_law_there"] []
  g47 : mg "_law_moved" = some (.ref f47)
  f48 : Addr
  d48 : FuncData
  F48 : Fun K "_law_drawn" "_law_drawn" sDrawn f48 d48
  b48 : Binds K d48 ["_law_pen_here", "_law_lock_here"] []
  g48 : mg "_law_drawn" = some (.ref f48)
  f49 : Addr
  d49 : FuncData
  F49 : Fun K "_law_is_from" "_law_is_from" sFrom f49 d49
  b49 : Binds K d49 ["_law_thing", "_law_low", "_law_high"] []
  g49 : mg "_law_is_from" = some (.ref f49)
  f50 : Addr
  d50 : FuncData
  F50 : Fun K "_law_is_word" "_law_is_word" sIsW f50 d50
  b50 : Binds K d50 ["_law_lock_here", "_law_thing", "_law_many"] []
  g50 : mg "_law_is_word" = some (.ref f50)
  f51 : Addr
  d51 : FuncData
  F51 : Fun K "_law_entry" "_law_entry" sEnt f51 d51
  b51 : Binds K d51 ["_law_lock_here", "_law_told_here", "_law_here", "_law_entry_here"] []
  g51 : mg "_law_entry" = some (.ref f51)
  f52 : Addr
  d52 : FuncData
  F52 : Fun K "_law_part" "_law_part" sPrt f52 d52
  b52 : Binds K d52 ["_law_lock_here", "_law_told_here", "_law_part_here"] []
  g52 : mg "_law_part" = some (.ref f52)
  f53 : Addr
  d53 : FuncData
  F53 : Fun K "_law_weighed" "_law_weighed" sWgL f53 d53
  b53 : Binds K d53 ["_law_lock_here", "_law_thing"] []
  g53 : mg "_law_weighed" = some (.ref f53)
  f54 : Addr
  d54 : FuncData
  F54 : Fun K "_law_led" "_law_led" sLed f54 d54
  b54 : Binds K d54 ["_law_lock_here", "_law_pages", "_law_here", "_law_entry_here"] []
  g54 : mg "_law_led" = some (.ref f54)
  f55 : Addr
  d55 : FuncData
  F55 : Fun K "_law_entries" "_law_entries" sEns f55 d55
  b55 : Binds K d55 ["_law_pen_here", "_law_lock_here", "_law_pages", "_law_begin"] []
  g55 : mg "_law_entries" = some (.ref f55)
  f56 : Addr
  d56 : FuncData
  F56 : Fun K "_law_parts" "_law_parts" sPts f56 d56
  b56 : Binds K d56 ["_law_pen_here", "_law_lock_here"] []
  g56 : mg "_law_parts" = some (.ref f56)
  f57 : Addr
  d57 : FuncData
  F57 : Fun K "_law_looped" "_law_looped" sLpd f57 d57
  b57 : Binds K d57 ["_law_pen_here", "_law_lock_here"] []
  g57 : mg "_law_looped" = some (.ref f57)
  f58 : Addr
  d58 : FuncData
  F58 : Fun K "_law_full_part" "_law_full_part" sFup f58 d58
  b58 : Binds K d58 ["_law_pen_here", "_law_lock_here"] []
  g58 : mg "_law_full_part" = some (.ref f58)
  f59 : Addr
  d59 : FuncData
  F59 : Fun K "_law_told" "_law_told" sTol f59 d59
  b59 : Binds K d59 ["_law_lock_here", "_law_book"] []
  g59 : mg "_law_told" = some (.ref f59)
  mn : mg "min" = none
def spLaw (K : PySem.W.Frag) : Sp := fun vs H Q _ => ∃ (a : Addr) (ns : List Int), vs = [.ref a] ∧ SqL K H a (ns.map V.int) ∧ ∀ H', Q (.bl true) H'
section
variable {P : Program} {w : World} {K : PySem.W.Frag} {mg : Str → Option Value} {base : Heap}
theorem ok_law {f : Addr} {fd : FuncData} (F : Fun K "law" "law" sLaw f fd) (D : Pr K mg) (R : ReC K mg) (N : NbC K mg) (S : NdK K mg) (W : WgK K mg) (NX : NxC K mg N) (L : Ld K mg) : FnG P w K mg base 10 f fd ["_law_script"] (spLaw K) := by
  have B := D.B
  have GP : FnOk P w K mg base CX0 1 L.f36 L.d36 ["_law_script"] (spPen K) := ok_pen L.F36 B
  have G1 : FnOk P w K mg base CX0 1 L.f37 L.d37 ["_law_pen_here", "_law_many"] spDraw := ok_draw L.F37 B
  have G2 : FnOk P w K mg base CX0 2 L.f38 L.d38 ["_law_pen_here", "_law_bag"] (spPick K) := ok_pick L.F38 L.F37 L.b37 L.g37 B
  have GK : FnOk P w K mg base CX0 5 L.f44 L.d44 ["_law_pen_here", "_law_many", "_law_top", "_law_dear"] (spLock K) := ok_lock L.F44 L.F37 L.b37 L.g37 L.F38 L.b38 L.g38 L.F39 L.b39 L.g39 L.F40 L.b40 L.g40 L.F41 L.b41 L.g41 L.F42 L.b42 L.g42 L.F43 L.b43 L.g43 B
  have GF : FnOk P w K mg base CX0 4 L.f45 L.d45 ["_law_pen_here", "_law_many", "_law_top", "_law_dear"] (spFull K) := ok_full L.F45 L.F37 L.b37 L.g37 L.F38 L.b38 L.g38 L.F39 L.b39 L.g39 L.F40 L.b40 L.g40 L.F41 L.b41 L.g41 L.F42 L.b42 L.g42 L.mn B
  have GS : FnOk P w K mg base CX0 4 L.f56 L.d56 ["_law_pen_here", "_law_lock_here"] (spPts K) := ok_pts L.F56 L.F37 L.b37 L.g37 L.F38 L.b38 L.g38 L.F46 L.b46 L.g46 L.F47 L.b47 L.g47 L.F54 L.b54 L.g54 L.F48 L.b48 L.g48 L.F55 L.b55 L.g55 B
  have GL : FnOk P w K mg base CX0 3 L.f57 L.d57 ["_law_pen_here", "_law_lock_here"] (spLpd K) := ok_lpd L.F57 L.F37 L.b37 L.g37 L.F38 L.b38 L.g38 L.F48 L.b48 L.g48 B
  have GU : FnOk P w K mg base CX0 3 L.f58 L.d58 ["_law_pen_here", "_law_lock_here"] (spLpd K) := ok_fup L.F58 L.F37 L.b37 L.g37 L.F48 L.b48 L.g48 B
  have GW : FnOk P w K mg base CX0 4 L.f53 L.d53 ["_law_lock_here", "_law_thing"] (spWL K) := ok_wl L.F53 L.F49 L.b49 L.g49 L.F50 L.b50 L.g50 L.F51 L.b51 L.g51 L.F52 L.b52 L.g52 B
  have GT : FnOk P w K mg base CX0 9 L.f59 L.d59 ["_law_lock_here", "_law_book"] (spWL K) := ok_told D R N S W NX L.F59
  refine fnG_ok F scLaw (fun vs H Q E h => ?_) (fun cdv A outer s H vs Q E hgd hr h => ?_)
  · obtain ⟨a, ns, rfl, _⟩ := h; rfl
  · obtain ⟨a, ns, rfl, hS, q⟩ := h
    have hg' : (A.deeper (envOfC "law" (defScope sLaw) s.heap.objs.size f cdv)).guards = some [] := hgd
    have hr1 : Room 1 _ := hr.mono (by decide)
    have hr2 : Room 2 _ := hr.mono (by decide)
    have hr3 : Room 3 _ := hr.mono (by decide)
    have hr4 : Room 4 _ := hr.mono (by decide)
    have hr5 : Room 5 _ := hr.mono (by decide)
    refine ⟨_, (pss_cons (ps_set (i := 1) scLaw.nd rfl (.inl rfl) (pe_call GP hr1 (by rfl) L.g36 L.F36.kp L.b36 .nil pass0 (pa_cons (pv 0) pa_nil)))
 (pss_cons (ps_for PassesOwn.never rfl (pi_range1 (by rfl) B.range (pa_cons pe_int pa_nil)) (pg_name (i := 2) scLaw.nd rfl (.inl rfl))
 (Evl.pss_cut (ps_set (i := 3) scLaw.nd rfl (.inl rfl) (pe_call G2 hr2 (by rfl) L.g38 L.F38.kp L.b38 .nil pass0 (pa_cons (pv 1) (pa_cons (pe_lst (pa_cons (pe_call GK hr5 (by rfl) L.g44 L.F44.kp L.b44 .nil pass0 (pa_cons (pv 1) (pa_cons (pe_op op_add pe_int (pe_call G1 hr1 (by rfl) L.g37 L.F37.kp L.b37 .nil pass0 (pa_cons (pv 1) (pa_cons pe_int pa_nil)))) (pa_cons pe_int (pa_cons (pe_op op_pow pe_int pe_int) pa_nil))))) (pa_cons (pe_call GF hr4 (by rfl) L.g45 L.F45.kp L.b45 .nil pass0 (pa_cons (pv 1) (pa_cons pe_int (pa_cons pe_int (pa_cons pe_int pa_nil))))) pa_nil))) pa_nil))))
 (Evl.pss_cut (ps_if (pt_cmpR op_eq (pe_call G1 hr1 (by rfl) L.g37 L.F37.kp L.b37 .nil pass0 (pa_cons (pv 1) (pa_cons pe_int pa_nil))) pe_int (nomark _))
 (pss_one (ps_set (i := 3) scLaw.nd rfl (.inl rfl) (pe_call GF hr4 (by rfl) L.g45 L.F45.kp L.b45 .nil pass0 (pa_cons (pv 1) (pa_cons (pe_op op_add pe_int (pe_call G1 hr1 (by rfl) L.g37 L.F37.kp L.b37 .nil pass0 (pa_cons (pv 1) (pa_cons pe_int pa_nil)))) (pa_cons pe_int (pa_cons (pe_op op_pow pe_int pe_int) pa_nil)))))))
 pss_nil)
 (Evl.pss_cut (ps_set (i := 4) scLaw.nd rfl (.inl rfl) (pe_callTy (r := rTupK K) call_tupK (by rfl) B.tuple PyProof.Rows.boot_tuple (pa_cons (pe_call GS hr4 (by rfl) L.g56 L.F56.kp L.b56 .nil pass0 (pa_cons (pv 1) (pa_cons (pv 3) pa_nil))) pa_nil)))
 (Evl.pss_cut (ps_if (PW.pt (pw_and (pt_cmpR op_eq (pv 2) pe_int (nomark _)) (pw_and1 (pt_cmpR op_eq (pe_call G1 hr1 (by rfl) L.g37 L.F37.kp L.b37 .nil pass0 (pa_cons (pv 1) (pa_cons pe_int pa_nil))) pe_int (nomark _)))))
 (pss_cons (ps_set (i := 3) scLaw.nd rfl (.inl rfl) (pe_call GF hr4 (by rfl) L.g45 L.F45.kp L.b45 .nil pass0 (pa_cons (pv 1) (pa_cons (pe_op op_add pe_int (pe_call G1 hr1 (by rfl) L.g37 L.F37.kp L.b37 .nil pass0 (pa_cons (pv 1) (pa_cons pe_int pa_nil)))) (pa_cons pe_int (pa_cons (pe_op op_pow pe_int pe_int) pa_nil))))))
 (pss_one (ps_set (i := 4) scLaw.nd rfl (.inl rfl) (pe_callTy (r := rTupK K) call_tupK (by rfl) B.tuple PyProof.Rows.boot_tuple (pa_cons (pe_call G2 hr2 (by rfl) L.g38 L.F38.kp L.b38 .nil pass0 (pa_cons (pv 1) (pa_cons (pe_lst (pa_cons (pe_call GL hr3 (by rfl) L.g57 L.F57.kp L.b57 .nil pass0 (pa_cons (pv 1) (pa_cons (pv 3) pa_nil))) (pa_cons (pe_call GU hr3 (by rfl) L.g58 L.F58.kp L.b58 .nil pass0 (pa_cons (pv 1) (pa_cons (pv 3) pa_nil))) pa_nil))) pa_nil))) pa_nil)))))
 pss_nil)
 (pss_one (ps_for PassesOwn.never rfl (pi_range1 (by rfl) B.range (pa_cons pe_int pa_nil)) (pg_name (i := 5) scLaw.nd rfl (.inl rfl))
 (pss_one (ps_if (pt_cmpR op_ne (pe_callB (r := rReprA K) (call_reprA hr.units hg') (by rfl) B.repr boot_repr (pa_cons (pe_call GT hr (by rfl) L.g59 L.F59.kp L.b59 .nil pass0 (pa_cons (pv 3) (pa_cons (pv 4) pa_nil))) pa_nil)) (pe_callB (r := rReprA K) (call_reprA hr.units hg') (by rfl) B.repr boot_repr (pa_cons (pe_call GW hr4 (by rfl) L.g53 L.F53.kp L.b53 .nil pass0 (pa_cons (pv 3) (pa_cons (pv 4) pa_nil))) pa_nil)) (nomark _))
 (pss_one (ps_ret pe_bl))
 pss_nil)))))))))
 (pss_cons (ps_if (pt_cmpR op_eq (pe_call G1 hr1 (by rfl) L.g37 L.F37.kp L.b37 .nil pass0 (pa_cons (pv 1) (pa_cons pe_int pa_nil))) pe_int (nomark _))
 (Evl.pss_cut (ps_set (i := 3) scLaw.nd rfl (.inl rfl) (pe_slice (r := rSlA K) sl_tupA (pv 3) po_none (po_some pe_int)))
 (Evl.pss_cut (ps_set (i := 6) scLaw.nd rfl (.inr rfl) (pe_tup (pa_cons (pe_op (r := rRepN K) op_repN (pe_tup (pa_cons pe_int pa_nil)) (pe_callB call_len_seq (by rfl) B.len PySem.boot_len (pa_cons (pv 3) pa_nil))) (pa_cons (pe_op (r := rRepN K) op_repN (pe_tup (pa_cons pe_int pa_nil)) (pe_callB call_len_seq (by rfl) B.len PySem.boot_len (pa_cons (pv 3) pa_nil))) (pa_cons (pe_tup pa_nil) pa_nil)))))
 (Evl.pss_cut (ps_set (i := 7) scLaw.nd rfl (.inl rfl) (pe_op op_add pe_int (pe_call G1 hr1 (by rfl) L.g37 L.F37.kp L.b37 .nil pass0 (pa_cons (pv 1) (pa_cons pe_int pa_nil)))))
 (Evl.pss_cut (ps_set (i := 4) scLaw.nd rfl (.inl rfl) (pe_op (r := rRepB K) op_repB (pe_tup (pa_cons (pv 6) pa_nil)) (pv 7)))
 (Evl.pss_cut (ps_if (pt_cmpR op_eq (pe_call G1 hr1 (by rfl) L.g37 L.F37.kp L.b37 .nil pass0 (pa_cons (pv 1) (pa_cons pe_int pa_nil))) pe_int (nomark _))
 (pss_one (ps_set (i := 4) scLaw.nd rfl (.inl rfl) (pe_op (r := rCatA K) op_catA (pe_tup (pa_cons (pv 6) pa_nil)) (pe_callTy (r := rTupK K) call_tupK (by rfl) B.tuple PyProof.Rows.boot_tuple (pa_cons (pe_lc (own := [("_law_number", 8)]) (g := gName 8) rfl scLaw.nd (pi_range1 (by rfl) B.range (pa_cons (pe_op op_sub (pv 7) pe_int) pa_nil)) (blkOk_by (own := [("_law_number", 8)]) (N := nLaw) (sc := defScope sLaw) (by decide +kernel)) (fun _ _ _ _ _ => (pg_name (i := 8) scLaw.nd rfl (.inl rfl))) (fun _ _ _ _ _ => pts_nil) (fun _ _ _ _ _ => (pe_op (r := rCatA K) op_catA (pe_slice (r := rSlA K) sl_tupA (pv 6) po_none (po_some pe_int)) (pe_tup (pa_cons (pe_tup (pa_cons (pe_tup (pa_cons pe_str (pa_cons (pv 8) pa_nil))) pa_nil)) pa_nil))))) pa_nil)))))
 pss_nil)
 (pss_one (ps_ret (pe_cmpR op_eq (pe_callB (r := rReprA K) (call_reprA hr.units hg') (by rfl) B.repr boot_repr (pa_cons (pe_call GT hr (by rfl) L.g59 L.F59.kp L.b59 .nil pass0 (pa_cons (pv 3) (pa_cons (pv 4) pa_nil))) pa_nil)) (pe_callB (r := rReprA K) (call_reprA hr.units hg') (by rfl) B.repr boot_repr (pa_cons (pe_call GW hr4 (by rfl) L.g53 L.F53.kp L.b53 .nil pass0 (pa_cons (pv 3) (pa_cons (pv 4) pa_nil))) pa_nil)) (nomark _)))))))))
 pss_nil)
 (pss_one (ps_ret pe_bl))))), ?_⟩
    refine ⟨.ref a, rfl, a, ns, rfl, hS, fun H1 p e1 np hpc => ?_⟩
    obtain ⟨c, hp1⟩ := hpc
    refine ⟨3, rfl, by decide, by decide, ?_⟩
    refine for_range (lo := 0) (n := 3) (fun t σ H' => ∃ y2 y3 y4 y5 y6 y7 y8 : Option V, σ = [some (.ref a), some (.ref p), y2, y3, y4, y5, y6, y7, y8] ∧ PenAt H' p c (1000000 * (t : Nat)) ∧ (1 ≤ t → ∃ (v : V) (l : Lock), y3 = some v ∧ LockAt K H' v l ∧ LockOk l))
      ⟨none, none, none, none, none, none, none, rfl, by simpa using hp1, fun h => absurd h (by decide)⟩ ?_ ?_
    · rintro t σ H2 ht ⟨y2, y3, y4, y5, y6, y7, y8, rfl, hp2, _⟩
      refine ⟨fun σ' H' => ∃ (v : V) (l : Lock), σ' = [some (.ref a), some (.ref p), some (.int (0 + (t : Nat))), some v, y4, y5, y6, y7, y8] ∧ PenAt H' p c (1000000 * (t : Nat) + 330000) ∧ LockAt K H' v l ∧ LockOk l, ?_, ?_⟩
      · refine ⟨.ref p, rfl, .ref p, rfl, .ref p, rfl, p, c, 6, _, rfl, hp2, by decide, by decide, by omega, fun r H3 r0 r1 x3 hp3 => ⟨1, r, rfl, rfl, 10, 6, rfl, rfl, ⟨by decide, by decide, by decide⟩, ?_⟩⟩
        refine ⟨p, c, 1 + r, 1000000, _, rfl, hp3, by omega, by omega, by omega, by decide, by decide, fun H4 v l x4 hp4 hl ok el => ?_⟩
        refine ⟨.ref p, rfl, p, c, 2, 99, _, rfl, hp4, by omega, by decide, by decide, by decide, by decide, fun H5 v' l' x5 hp5 hl' ok' el' => ?_⟩
        refine ⟨(by show 2 ≤ sizeLine; decide), fun Lb nL => ?_⟩
        have e6 := Evl.Ex.new (o := .lst [v, v']) nL
        have gL : (upd H5 Lb (.lst [v, v'])) Lb = some (.lst [v, v']) := upd_same
        have nLp : Lb ≠ p := hp5.new1 nL
        have hp6 := hp5.ex e6
        have hl6 : LockAt K (upd H5 Lb (.lst [v, v'])) v l := hl.mono ((hp4.tx x5).trans (TX.ex e6))
        have hl6' : LockAt K (upd H5 Lb (.lst [v, v'])) v' l' := hl'.mono (TX.ex e6)
        generalize upd H5 Lb (.lst [v, v']) = H6 at e6 gL hp6 hl6 hl6'
        refine ⟨p, c, Lb, _, _, rfl, hp6, by omega, SqL.of gL, nLp, by simp, (by show 2 ≤ 1000000; decide), fun xv H7 hxv x7 hp7 => ?_⟩
        have tx7 : TX K H6 H7 := hp6.tx x7
        simp only [List.mem_cons, List.not_mem_nil, or_false] at hxv
        rcases hxv with rfl | rfl
        · exact ⟨_, l, rfl, hp7.mono (by omega), hl6.mono tx7, ok⟩
        · exact ⟨_, l', rfl, hp7.mono (by omega), hl6'.mono tx7, ok'⟩
      rintro _ H3 ⟨v, l, rfl, hp3, hl3, ok3⟩
      refine ⟨fun σ' H' => ∃ (v : V) (l : Lock), σ' = [some (.ref a), some (.ref p), some (.int (0 + (t : Nat))), some v, y4, y5, y6, y7, y8] ∧ PenAt H' p c (1000000 * (t : Nat) + 500000) ∧ LockAt K H' v l ∧ LockOk l, ?_, ?_⟩
      · refine ⟨.ref p, rfl, p, c, 8, _, rfl, hp3, by decide, by decide, by omega, fun r H4 r0 r1 x4 hp4 => ?_⟩
        refine ⟨rfl, _, rfl, ?_⟩
        refine ite2 (fun _ => ?_) (fun _ => ⟨v, l, rfl, hp4.mono (by omega), hl3.mono (hp3.tx x4), ok3⟩)
        refine ⟨.ref p, rfl, .ref p, rfl, p, c, 60, _, rfl, hp4, by decide, by decide, by omega, fun r' H5 r0' r1' x5 hp5 => ⟨1, r', rfl, rfl, 10, 6, rfl, rfl, ⟨by decide, by decide, by decide⟩, ?_⟩⟩
        refine ⟨p, c, 1 + r', 1000000, _, rfl, hp5, by omega, by omega, by omega, by decide, by decide, fun H6 v' l' x6 hp6 hl' ok' el' => ?_⟩
        exact ⟨v', l', rfl, hp6.mono (by omega), hl', ok'⟩
      rintro _ H4 ⟨v, l, rfl, hp4, hl4, ok4⟩
      refine ⟨fun σ' H' => ∃ (bk : Addr) (Bk : List Prt), σ' = [some (.ref a), some (.ref p), some (.int (0 + (t : Nat))), some v, some (.ref bk), y5, y6, y7, y8] ∧ PenAt H' p c (1000000 * (t : Nat) + 510000) ∧ LockAt K H' v l ∧ BookAt K H' bk Bk, ?_, ?_⟩
      · refine ⟨.ref p, rfl, v, rfl, p, c, v, _, l, rfl, hp4, by omega, hl4, ok4, fun H5 r pvs Ps x5 hp5 nr hr5 hpv => ?_⟩
        refine ⟨r, pvs, rfl, .inl ⟨.inl (.inl hr5), fun bk nbk => ?_⟩⟩
        have e6 := Evl.Ex.new (o := .tup pvs) nbk
        exact ⟨bk, Ps, rfl, (hp5.ex e6).mono (by omega), hl4.mono ((hp4.tx x5).trans (TX.ex e6)), pvs, upd_same, Paired.imp (fun _ _ => PrtAt.ex e6) hpv⟩
      rintro _ H5 ⟨bk, Bk, rfl, hp5, hl5, hb5⟩
      refine ⟨fun σ' H' => ∃ (v : V) (l : Lock) (bk : Addr) (Bk : List Prt), σ' = [some (.ref a), some (.ref p), some (.int (0 + (t : Nat))), some v, some (.ref bk), y5, y6, y7, y8] ∧ PenAt H' p c (1000000 * (t : Nat) + 700000) ∧ LockAt K H' v l ∧ LockOk l ∧ BookAt K H' bk Bk, ?_, ?_⟩
      · refine ⟨.int (0 + (t : Nat)), rfl, rfl, _, rfl, ?_⟩
        refine ite2 (fun _ => ?_) (fun _ => ⟨v, l, bk, Bk, rfl, hp5.mono (by omega), hl5, ok4, hb5⟩)
        refine ⟨.ref p, rfl, p, c, 3, _, rfl, hp5, by decide, by decide, by omega, fun r H6 r0 r1 x6 hp6 => ?_⟩
        refine ⟨rfl, _, rfl, ?_⟩
        have tx6 : TX K H5 H6 := hp5.tx x6
        refine ite2 (fun _ => ?_) (fun _ => ⟨v, l, bk, Bk, rfl, hp6.mono (by omega), hl5.mono tx6, ok4, by
          obtain ⟨us, h1, h2⟩ := hb5
          exact ⟨us, tx6.2 _ _ h1, Paired.imp (fun _ _ => PrtAt.tx tx6) h2⟩⟩)
        refine ⟨.ref p, rfl, .ref p, rfl, p, c, 4, _, rfl, hp6, by decide, by decide, by omega, fun r' H7 r0' r1' x7 hp7 => ⟨1, r', rfl, rfl, 10, 6, rfl, rfl, ⟨by decide, by decide, by decide⟩, ?_⟩⟩
        refine ⟨p, c, 1 + r', 1000000, _, rfl, hp7, by omega, by omega, by omega, by decide, by decide, fun H8 v' l' x8 hp8 hl8 ok' el' => ?_⟩
        refine ⟨.ref p, rfl, .ref p, rfl, v', rfl, p, c, v', _, l', rfl, hp8, by omega, hl8, ok', fun H9 r1 pvs1 Ps1 x9 hp9 nr1 hr9 hpv1 => ?_⟩
        have nr1p : r1 ≠ p := hp8.new1 nr1
        have hl9 := hl8.mono (hp8.tx (K := K) x9)
        refine ⟨.ref p, rfl, v', rfl, p, c, v', _, l', rfl, hp9, by omega, hl9, ok', fun H10 r2 pvs2 Ps2 x10 hp10 nr2 hr10 hpv2 => ?_⟩
        have tx10 : TX K H9 H10 := hp9.tx x10
        have hr1' := x10 _ _ nr1p hr9
        have hpv1' : Paired (PrtAt K H10) pvs1 Ps1 := Paired.imp (fun _ _ => PrtAt.tx tx10) hpv1
        have nr2p : r2 ≠ p := hp9.new1 nr2
        refine ⟨(by show 2 ≤ sizeLine; decide), fun Lb nL => ?_⟩
        have e11 := Evl.Ex.new (o := .lst [.ref r1, .ref r2]) nL
        have gL : (upd H10 Lb (.lst [.ref r1, .ref r2])) Lb = some (.lst [.ref r1, .ref r2]) := upd_same
        have nLp : Lb ≠ p := hp10.new1 nL
        have hp11 := hp10.ex e11
        generalize upd H10 Lb (.lst [.ref r1, .ref r2]) = H11 at e11 gL hp11
        refine ⟨p, c, Lb, _, _, rfl, hp11, by omega, SqL.of gL, nLp, by simp, (by show 2 ≤ 1000000; decide), fun xv H12 hxv x12 hp12 => ?_⟩
        have tx12 : TX K H10 H12 := (TX.ex e11).trans (hp11.tx x12)
        obtain ⟨rr, pvs, Ps, rfl, hrr, hpv⟩ : ∃ (rr : Addr) (pvs : List V) (Ps : List Prt), xv = .ref rr ∧ H12 rr = some (.lst pvs) ∧ Paired (PrtAt K H12) pvs Ps := by
          simp only [List.mem_cons, List.not_mem_nil, or_false] at hxv
          rcases hxv with rfl | rfl
          · exact ⟨r1, pvs1, Ps1, rfl, x12 _ _ nr1p (e11 _ _ hr1'), Paired.imp (fun _ _ => PrtAt.tx tx12) hpv1'⟩
          · exact ⟨r2, pvs2, Ps2, rfl, x12 _ _ nr2p (e11 _ _ hr10), Paired.imp (fun _ _ => PrtAt.tx tx12) hpv2⟩
        refine ⟨rr, pvs, rfl, .inl ⟨.inl (.inl hrr), fun bk' nbk => ?_⟩⟩
        have e13 := Evl.Ex.new (o := .tup pvs) nbk
        exact ⟨v', l', bk', Ps, rfl, (hp12.ex e13).mono (by omega), hl9.mono (tx10.trans (tx12.trans (TX.ex e13))), ok', pvs, upd_same, Paired.imp (fun _ _ => PrtAt.ex e13) hpv⟩
      rintro _ H6 ⟨v, l, bk, Bk, rfl, hp6, hl6, ok6, hb6⟩
      refine ⟨2, rfl, by decide, by decide, ?_⟩
      refine for_range (lo := 0) (n := 2) (fun i σ H' => ∃ y5 : Option V, σ = [some (.ref a), some (.ref p), some (.int (0 + (t : Nat))), some v, some (.ref bk), y5, y6, y7, y8] ∧ Evl.Ex H6 H')
        ⟨y5, rfl, Evl.Ex.refl H6⟩ ?_ ?_
      · rintro i σ H7 hi ⟨y5, rfl, e7⟩
        refine ⟨v, rfl, .ref bk, rfl, v, bk, l, Bk, rfl, hl6.mono (TX.ex e7), ok6, hb6.ex e7, fun H8 r1 e8 ht1 => ?_⟩
        refine tnil1 (rd_repr ok6 ht1 ?_)
        have e78 := e7.trans e8
        refine ⟨v, rfl, .ref bk, rfl, v, bk, l, Bk, rfl, hl6.mono (TX.ex e78), ok6, hb6.ex e78, fun H9 r2 e9 ht2 => ?_⟩
        refine tnil1 (rd_repr ok6 ht2 ?_)
        refine ⟨rfl, _, rfl, ?_⟩
        refine ite2 (fun hc => absurd hc (by simp)) (fun _ => ?_)
        exact ⟨_, rfl, e78.trans e9⟩
      · rintro σ H7 ⟨y5, rfl, e7⟩
        exact ⟨_, _, _, _, _, _, _, rfl, (hp6.ex e7).mono (by omega), fun _ => ⟨v, l, rfl, hl6.mono (TX.ex e7), ok6⟩⟩
    · rintro σ H2 ⟨y2, y3, y4, y5, y6, y7, y8, rfl, hp2, h3⟩
      obtain ⟨v, l, rfl, hl2, ok2⟩ := h3 (by decide)
      refine ⟨.ref p, rfl, p, c, 16, _, rfl, hp2, by decide, by decide, by omega, fun r H3 r0 r1 x3 hp3 => ?_⟩
      refine ⟨rfl, _, rfl, ?_⟩
      refine ite2 (fun _ => ?_) (fun _ => q _)
      have hl3 : LockAt K H3 v l := hl2.mono (hp2.tx x3)
      refine ⟨fun σ' H' => ∃ (va : Addr) (lbs : List V) (l : Lock), σ' = [some (.ref a), some (.ref p), y2, some (.ref va), y4, y5, y6, y7, y8] ∧ PenAt H' p c 4000000 ∧ SqT K H' va lbs ∧ Paired (BoltAt K H') lbs l ∧ LockOk l ∧ l.length ≤ 2, ?_, ?_⟩
      · obtain ⟨va, lbs, rfl, hva, hlb⟩ := hl3
        have lbl : lbs.length = l.length := Paired.len hlb
        refine ⟨.ref va, rfl, ?_⟩
        refine nopart1 ?_
        refine ⟨((2 : Nat) : Int), rfl, ?_⟩
        refine sl_lockT (K := K) (lo := none) (hi := some ((2 : Nat) : Int)) hva fun H4 z4 e4 hz4 => ?_
        rw [cut_take] at hz4
        have hlb4 : Paired (BoltAt K H4) lbs l := Paired.imp (fun _ _ => BoltAt.mono (TX.ex e4)) hlb
        refine ⟨z4, lbs.take 2, l.take 2, rfl, (hp3.ex e4).mono (by omega), hz4, Paired.takeN 2 hlb4, ?_, by rw [List.length_take]; omega⟩
        by_cases l2 : 2 ≤ l.length
        · exact ok2.takeN (by decide) l2
        · rw [List.take_of_length_le (by omega)]; exact ok2
      rintro _ H4 ⟨va, lbs, l, rfl, hp4, hva4, hlb4, ok4, l2⟩
      have lbl : lbs.length = l.length := Paired.len hlb4
      have l1 := ok4.n0
      refine ⟨fun σ' H' => ∃ (em ba ea ca : Addr) (bw ew : Word), σ' = [some (.ref a), some (.ref p), y2, some (.ref va), y4, y5, some (.ref em), y7, y8] ∧ Evl.Ex H4 H' ∧ H' em = some (.tup [.ref ba, .ref ea, .ref ca]) ∧ H' ba = some (.tup (bw.map V.int)) ∧ H' ea = some (.tup (ew.map V.int)) ∧ H' ca = some (.tup []), ?_, ?_⟩
      · refine ⟨(by show 1 ≤ sizeLine; decide), fun z1 nz1 => ?_⟩
        have g1 := Evl.Ex.new (o := .tup [.int 0]) nz1
        have j1 : (upd H4 z1 (.tup [.int 0])) z1 = some (.tup [.int 0]) := upd_same
        generalize upd H4 z1 (.tup [.int 0]) = Ha at g1 j1
        refine ⟨.ref va, rfl, va, lbs, rfl, .inr (Evl.ex_t g1 hva4), ?_⟩
        refine rd_zero (K := K) j1 (by omega) (by omega) fun Hb ba g2 hba => ?_
        refine ⟨(by show 1 ≤ sizeLine; decide), fun z2 nz2 => ?_⟩
        have g3 := Evl.Ex.new (o := .tup [.int 0]) nz2
        have j3 : (upd Hb z2 (.tup [.int 0])) z2 = some (.tup [.int 0]) := upd_same
        generalize upd Hb z2 (.tup [.int 0]) = Hc at g3 j3
        have e13 := g1.trans (g2.trans g3)
        refine ⟨.ref va, rfl, va, lbs, rfl, .inr (Evl.ex_t e13 hva4), ?_⟩
        refine rd_zero (K := K) j3 (by omega) (by omega) fun Hd ea g4 hea => ?_
        refine ⟨Nat.zero_le _, fun ca nca => ?_⟩
        have g5 := Evl.Ex.new (o := .tup []) nca
        have j5 : (upd Hd ca (.tup [])) ca = some (.tup []) := upd_same
        generalize upd Hd ca (.tup []) = He at g5 j5
        refine ⟨(by show 3 ≤ sizeLine; decide), fun em nem => ?_⟩
        have g6 := Evl.Ex.new (o := .tup [.ref ba, .ref ea, .ref ca]) nem
        exact ⟨em, ba, ea, ca, _, _, rfl, e13.trans (g4.trans (g5.trans g6)), upd_same, (g3.trans (g4.trans (g5.trans g6))) _ _ hba, (g5.trans g6) _ _ hea, g6 _ _ j5⟩
      rintro _ H5 ⟨em, ba, ea, ca, bw, ew, rfl, e5, hem, hba, hea, hca⟩
      have one : PrtAt K H5 (.ref em) ⟨bw, ew, []⟩ := ⟨em, ca, .ref ba, .ref ea, [], rfl, hem, ⟨ba, rfl, hba⟩, ⟨ea, rfl, hea⟩, hca, .nil⟩
      have hp5 := hp4.ex e5
      have hl5 : LockAt K H5 (.ref va) l := ⟨va, lbs, rfl, Evl.ex_t e5 hva4, Paired.imp (fun _ _ => BoltAt.mono (TX.ex e5)) hlb4⟩
      refine ⟨fun σ' H' => ∃ m : Nat, σ' = [some (.ref a), some (.ref p), y2, some (.ref va), y4, y5, some (.ref em), some (.int (m : Nat)), y8] ∧ 2 ≤ m ∧ m ≤ 40000 ∧ Exx p H5 H' ∧ PenAt H' p c 4000001, ?_, ?_⟩
      · refine ⟨.ref p, rfl, p, c, 2, _, rfl, hp5, by decide, by decide, by omega, fun r' H6 r0' r1' x6 hp6 => ⟨30000, r', rfl, rfl, ?_⟩⟩
        refine ⟨(30000 + r').toNat, ?_, by omega, by omega, x6, hp6⟩
        rw [Int.toNat_of_nonneg (by omega)]
        rfl
      rintro _ H6 ⟨m, rfl, m2, m4, x6, hp6⟩
      have tx6 : TX K H5 H6 := hp5.tx x6
      refine ⟨fun σ' H' => ∃ (bk : Addr) (Bk : List Prt), σ' = [some (.ref a), some (.ref p), y2, some (.ref va), some (.ref bk), y5, some (.ref em), some (.int (m : Nat)), y8] ∧ Evl.Ex H6 H' ∧ BookAt K H' bk Bk, ?_, ?_⟩
      · refine ⟨.ref em, rfl, (by show 1 ≤ sizeLine; decide), fun z1 nz1 => ?_⟩
        have g1 := Evl.Ex.new (o := .tup [.ref em]) nz1
        have j1 : (upd H6 z1 (.tup [.ref em])) z1 = some (.tup [.ref em]) := upd_same
        generalize upd H6 z1 (.tup [.ref em]) = Ha at g1 j1
        refine ⟨.int (m : Nat), rfl, z1, (m : Nat), _, rfl, rfl, SqT.of j1, by simp, by omega, by omega, (by show 1 ≤ 10; decide), fun bk nbk => ?_⟩
        have g2 := Evl.Ex.new (o := .tup (List.replicate (((m : Nat) : Int)).toNat [V.ref em]).flatten) nbk
        exact ⟨bk, List.replicate (((m : Nat) : Int)).toNat ⟨bw, ew, []⟩, rfl, g1.trans g2, _, upd_same, paired_rep ((one.tx tx6).ex (g1.trans g2)) _⟩
      rintro _ H7 ⟨bk, Bk, rfl, e7, hb7⟩
      have hp7 := hp6.ex e7
      have tx7 : TX K H5 H7 := tx6.trans (TX.ex e7)
      refine ⟨fun σ' H' => ∃ (bk : Addr) (Bk : List Prt) (y8 : Option V), σ' = [some (.ref a), some (.ref p), y2, some (.ref va), some (.ref bk), y5, some (.ref em), some (.int (m : Nat)), y8] ∧ Exx p H7 H' ∧ BookAt K H' bk Bk, ?_, ?_⟩
      · refine ⟨.ref p, rfl, p, c, 2, _, rfl, hp7, by decide, by decide, by omega, fun r' H8 r0' r1' x8 hp8 => ?_⟩
        refine ⟨rfl, _, rfl, ?_⟩
        have tx8 : TX K H7 H8 := hp7.tx x8
        refine ite2 (fun _ => ?_) (fun _ => ⟨bk, Bk, _, rfl, x8, by
          obtain ⟨us, h1, h2⟩ := hb7
          exact ⟨us, tx8.2 _ _ h1, Paired.imp (fun _ _ => PrtAt.tx tx8) h2⟩⟩)
        have tx58 := tx7.trans tx8
        have hem8 := tx58.2 _ _ hem
        refine ⟨.ref em, rfl, (by show 1 ≤ sizeLine; decide), fun z1 nz1 => ?_⟩
        have g1 := Evl.Ex.new (o := .tup [.ref em]) nz1
        have j1 : (upd H8 z1 (.tup [.ref em])) z1 = some (.tup [.ref em]) := upd_same
        generalize upd H8 z1 (.tup [.ref em]) = Ha at g1 j1
        refine ⟨.int (m : Nat), rfl, (m : Nat), 1, rfl, rfl, ((m : Nat) : Int) - 1, rfl, by omega, by omega, fun Dl nD => ?_⟩
        refine lc_range (lo := 0) (n := (((m : Nat) : Int) - 1).toNat) (fun i H' => ∃ (pvs : List V) (Ps : List Prt), Evl.Ex Ha H' ∧ H' Dl = some (.lst pvs) ∧ Paired (PrtAt K H') pvs Ps ∧ Ps.length = i) ⟨[], [], Evl.Ex.new nD, upd_same, .nil, rfl⟩ ?_ ?_
        · rintro i Hb hi ⟨pvs, Ps, eb, hD, hpv, pl⟩
          have pvl := Paired.len hpv
          have em_b := (g1.trans eb) _ _ hem8
          refine ⟨rfl, ?_⟩
          refine ⟨.ref em, rfl, ?_⟩
          refine nopart1 ?_
          refine ⟨((2 : Nat) : Int), rfl, ?_⟩
          refine sl_own (K := K) (lo := none) (hi := some ((2 : Nat) : Int)) em_b fun Hc zc ec hzc => ?_
          rw [cut_take] at hzc
          refine ⟨.int (0 + (i : Nat)), rfl, (by show 2 ≤ sizeLine; decide), fun w1 nw1 => ?_⟩
          have k1 := Evl.Ex.new (o := .tup [.str "part", .int (0 + (i : Nat))]) nw1
          have q1 : (upd Hc w1 (.tup [.str "part", .int (0 + (i : Nat))])) w1 = some (.tup [.str "part", .int (0 + (i : Nat))]) := upd_same
          generalize upd Hc w1 (.tup [.str "part", .int (0 + (i : Nat))]) = Hd at k1 q1
          refine ⟨(by show 1 ≤ sizeLine; decide), fun w2 nw2 => ?_⟩
          have k2 := Evl.Ex.new (o := .tup [.ref w1]) nw2
          have q2 : (upd Hd w2 (.tup [.ref w1])) w2 = some (.tup [.ref w1]) := upd_same
          generalize upd Hd w2 (.tup [.ref w1]) = He at k2 q2
          refine ⟨(by show 1 ≤ sizeLine; decide), fun w3 nw3 => ?_⟩
          have k3 := Evl.Ex.new (o := .tup [.ref w2]) nw3
          have q3 : (upd He w3 (.tup [.ref w2])) w3 = some (.tup [.ref w2]) := upd_same
          generalize upd He w3 (.tup [.ref w2]) = Hf at k3 q3
          have ecf := k1.trans (k2.trans k3)
          refine cat_own (K := K) (ecf _ _ hzc) q3 (by show 3 ≤ sizeLine; decide) fun Hg y kg hy => ?_
          have ebg := ec.trans (ecf.trans kg)
          have hDg := ebg _ _ hD
          have t5 : TX K H5 Hg := tx58.trans (TX.ex (g1.trans (eb.trans ebg)))
          have nw : PrtAt K Hg (.ref y) ⟨bw, ew, [.part (0 + (i : Nat))]⟩ := ⟨y, w2, .ref ba, .ref ea, [.ref w1], rfl, hy, ⟨ba, rfl, t5.2 _ _ hba⟩, ⟨ea, rfl, t5.2 _ _ hea⟩, (k3.trans kg) _ _ q2, .cons (show EntAt Hg (.ref w1) (.part (0 + (i : Nat))) from ⟨w1, rfl, (k2.trans (k3.trans kg)) _ _ q1⟩) .nil⟩
          refine ⟨_, hDg, Nat.lt_of_le_of_lt (by omega : pvs.length ≤ 40000) (by rw [sizeLine_eq]; decide), pvs ++ [.ref y], Ps ++ [⟨bw, ew, [.part (0 + (i : Nat))]⟩], (eb.trans ebg).mut nD, upd_same, ?_, by rw [List.length_append, List.length_singleton, pl]⟩
          exact Paired.imp (fun _ _ => PrtAt.tx (TX.put hDg)) (paired_app1 (Paired.imp (fun _ _ => PrtAt.ex ebg) hpv) nw)
        · rintro Hb ⟨pvs, Ps, eb, hD, hpv, pl⟩
          have pvl := Paired.len hpv
          refine ⟨Dl, pvs, rfl, .inl ⟨.inl (.inl hD), fun tt ntt => ?_⟩⟩
          have k1 := Evl.Ex.new (o := .tup pvs) ntt
          have q1 : (upd Hb tt (.tup pvs)) tt = some (.tup pvs) := upd_same
          generalize upd Hb tt (.tup pvs) = Hc at k1 q1
          refine cat_own (K := K) ((eb.trans k1) _ _ j1) q1 (Nat.le_trans (by rw [List.length_singleton]; omega : [V.ref em].length + pvs.length ≤ 50000) (by rw [sizeLine_eq]; decide)) fun Hd bk' kd hbk => ?_
          have e8d := g1.trans (eb.trans (k1.trans kd))
          exact ⟨bk', _, _, rfl, x8.trans (Exx.ex e8d), _, hbk, .cons ((one.tx tx58).ex e8d) (Paired.imp (fun _ _ => PrtAt.ex (k1.trans kd)) hpv)⟩
      rintro _ H8 ⟨bk', Bk', y8', rfl, x8, hb8⟩
      have tx8 : TX K H5 H8 := tx7.trans (hp7.tx x8)
      have hl8 := hl5.mono tx8
      refine ⟨.ref va, rfl, .ref bk', rfl, .ref va, bk', l, Bk', rfl, hl8, ok4, hb8, fun H9 r1 e9 ht1 => ?_⟩
      refine tnil1 (rd_repr ok4 ht1 ?_)
      refine ⟨.ref va, rfl, .ref bk', rfl, .ref va, bk', l, Bk', rfl, hl8.mono (TX.ex e9), ok4, hb8.ex e9, fun H10 r2 e10 ht2 => ?_⟩
      refine tnil1 (rd_repr ok4 ht2 ?_)
      refine ⟨rfl, ?_⟩
      rw [decide_eq_true rfl]
      exact q _

end
end Wb

set_option Elab.async false
set_option linter.all false
set_option maxRecDepth 100000
set_option maxHeartbeats 4000000
set_option pp.maxSteps 600
set_option pp.deepTerms false
namespace Wb
open PySem PySem.Spec PyProof.Rows L2
structure PoS (K : PySem.W.Frag) (mg : Str → Option Value) where
  f : Addr
  d : FuncData
  F : Fun K "price_of_step" "price_of_step" sPos f d
  b : Binds K d ["moves", "places", "step"] []
  g : mg "price_of_step" = some (.ref f)
section
variable {P : Program} {w : World} {K : PySem.W.Frag} {mg mb : Str → Option Value} {k : Nat} {fa a : Addr} {fd : FuncData} {x : Str} {sp : Sp} {t : Shared} {vs : List Value} {ns : List Int}
/-- from a heap that tracks at most the script -/
theorem top_core (kin : K.In t.heap) (mns : t.heap.Ns mainGlobals mg) (bns : t.heap.Ns builtinsNs mb)
    (bok : ∀ y : Str, y ≠ "__name__" → mb y = bootBuiltins y) (nol : t.heap.NoLimit) (gen0 : t.gens = #[])
    (oa : t.heap.get? a = some { cls := .type "list", data := .seq vs.toArray }) (rv : Vals (ns.map V.int) vs) (room : Room k callerA) (gu : callerA.guards = some [])
    (prom : ∀ bs : Heap, K.In bs → bs.Ns mainGlobals mg → FnG P w K mg bs k fa fd [x] sp) (bnd : ∀ (t' : Shared) (u : Value), BindsTo t' fd ⟨[u], []⟩ [(x, u)])
    (I : Hp) (only : Only I) (due : sp [.ref a] I (fun v _ => v = .bl true) fun _ _ _ => False) (iok : HOk P w I t.heap) (at_a : ∀ b, I b ≠ none → b = a) (free_a : I a ≠ none → K.lookup a = none) :
    codeAny (model P w) callerA (.call (.ref fa) ⟨[.ref a], []⟩) (fun r t' => r = .ok (.ret (.bool true)) ∧ OldK t.heap t'.heap ∧ t'.os = t.os ∧ AllBare t'.gens) t := by
  have keep : ∀ {b : Addr} {o : Obj}, I b = none → t.heap.get? b = some o → (hidT t.heap I).get? b = some o := fun n e => hidT_get e n
  have isA : ∀ {b : Addr}, I b ≠ none → t.heap.get? b = some { cls := .type "list", data := .seq vs.toArray } := fun {b} n => by
    rw [at_a b n]
    exact oa
  have nsI : ∀ {b : Addr} {m : Str → Option Value}, t.heap.Ns b m → (hidT t.heap I).Ns b m := by
    intro b m h
    obtain ⟨o, es, ep, e1, e2, e3⟩ := h
    refine ⟨o, es, ep, keep ?_ e1, e2, e3⟩
    refine Classical.byContradiction fun n => ?_
    have z := isA n
    rw [e1] at z
    cases z
    have z2 : Data.seq vs.toArray _ = Data.dict es ep := e2
    cases z2
  have kinI : K.In (hidT t.heap I) := by
    intro b o e
    refine keep (Classical.byContradiction fun n => ?_) (kin b o e)
    have z := free_a (by rw [← at_a b n]; exact n)
    rw [← at_a b n, e] at z
    cases z
  have nolI : (hidT t.heap I).NoLimit := by
    obtain ⟨mc, h1, h2⟩ := nol
    exact ⟨mc, nsI h1, h2⟩
  have mod : Mod K mg (hidT t.heap I) := ⟨kinI, nsI mns, ⟨mb, nsI bns, bok⟩, nolI⟩
  have env : Env0 P w K mg (hidT t.heap I) callerA [] t I :=
    ⟨rfl, mod, fun b o e => of_hidT e, Nat.le_of_eq (hidT_size _ _), trivial, (fun b hb => absurd hb (List.not_mem_nil)), iok, .of_eq gen0⟩
  refine codeAny_mono ((prom _ kinI (nsI mns)).go callerA [] t I ⟨[.ref a], []⟩ [.ref a] [.ref a] _ _ gu room env (bnd t (.ref a)) (.cons rfl .nil) due) ?_
  intro r t' h
  cases r with
  | error e => exact False.elim h
  | ok fl =>
    cases fl with
    | next => exact False.elim h
    | brk => exact False.elim h
    | cont => exact False.elim h
    | ret u =>
      obtain ⟨v, I', eos, bare, un, iok', rr, hv⟩ := h
      have hv' : v = .bl true := hv
      rw [hv'] at rr
      have hu : u = Value.bool true := rr
      rw [hu]
      refine ⟨rfl, OldK.of_keep fun b o e => ?_, eos, bare⟩
      rcases only b with z | ⟨ob, xs, z⟩
      · exact un.keep b o e z (by intro h; exact absurd h List.not_mem_nil) (by simp)
      · obtain ⟨e1, _⟩ := iok b _ z
        obtain ⟨e2, _⟩ := iok' b _ (un.frzs b ob _ z)
        rw [e] at e1
        cases e1
        exact e2
theorem call_top (kin : K.In t.heap) (mns : t.heap.Ns mainGlobals mg) (bns : t.heap.Ns builtinsNs mb)
    (bok : ∀ y : Str, y ≠ "__name__" → mb y = bootBuiltins y) (nol : t.heap.NoLimit) (gen0 : t.gens = #[])
    (oa : t.heap.get? a = some { cls := .type "list", data := .seq vs.toArray }) (iv : IntsAre vs ns) (len : ns.length ≤ sizeLine) (room : Room k callerA) (gu : callerA.guards = some [])
    (prom : ∀ bs : Heap, K.In bs → bs.Ns mainGlobals mg → FnG P w K mg bs k fa fd [x] sp) (bnd : ∀ (t' : Shared) (u : Value), BindsTo t' fd ⟨[u], []⟩ [(x, u)])
    (due : ∀ I : Hp, SqL K I a (ns.map V.int) → sp [.ref a] I (fun v _ => v = .bl true) fun _ _ _ => False) :
    codeAny (model P w) callerA (.call (.ref fa) ⟨[.ref a], []⟩) (fun r t' => r = .ok (.ret (.bool true)) ∧ OldK t.heap t'.heap ∧ t'.os = t.os ∧ AllBare t'.gens) t := by
  have rv := vals_ints iv
  have lv := iv.length
  cases hk : K.lookup a with
  | some o =>
    have e := kin a o hk
    rw [oa] at e
    cases e
    have hS : SqL K (fun _ => none) a (ns.map V.int) := .inr ⟨_, vs.toArray, _, hk, rfl, rfl, rfl, (by rw [List.size_toArray, lv]; exact len), (by simpa using rv)⟩
    exact top_core kin mns bns bok nol gen0 oa rv room gu prom bnd (fun _ => none) (fun _ => .inl rfl) (due _ hS) (fun b u z => (by cases z)) (fun b z => absurd rfl z) (fun z => absurd rfl z)
  | none =>
    have one : ∀ b, b ≠ a → (fun b => if b = a then some (HO.frz { cls := .type "list", data := .seq vs.toArray } (.lst (ns.map V.int))) else none : Hp) b = none := fun b n => if_neg n
    have two : (fun b => if b = a then some (HO.frz { cls := .type "list", data := .seq vs.toArray } (.lst (ns.map V.int))) else none : Hp) a = some (HO.frz { cls := .type "list", data := .seq vs.toArray } (.lst (ns.map V.int))) := if_pos rfl
    generalize (fun b => if b = a then some (HO.frz { cls := .type "list", data := .seq vs.toArray } (.lst (ns.map V.int))) else none : Hp) = I at one two
    have hS : SqL K I a (ns.map V.int) := .inl (.inr ⟨_, two⟩)
    have at_a : ∀ b, I b ≠ none → b = a := fun b n => Classical.byContradiction fun z => n (one b z)
    refine top_core kin mns bns bok nol gen0 oa rv room gu prom bnd I ?_ (due I hS) ?_ at_a (fun _ => hk)
    · intro b
      by_cases z : b = a
      · rw [z]
        exact .inr ⟨_, _, two⟩
      · exact .inl (one b z)
    · intro b u z
      have e := at_a b (by rw [z]; exact fun y => nomatch y)
      subst e
      rw [two] at z
      cases z
      exact ⟨oa, (by rw [List.length_map]; exact len), vs, _, rv, oa⟩
end
theorem walk_top {l : PySem.W.OpenLaw} {n k : Nat} {q : Program} {loose : List Str} {XP : (Str → Option Value) → Heap → Prop} {YP : World → Heap → Prop} {d : DefRec} {K : Params → PySem.W.Frag} {sp : World → Sp} {x : Str}
    (hn : l.most = some n) (hn2 : n ≤ sizeLine) (hd : d.params.defaults = []) (room : Room k callerA) (gu : callerA.guards = some [])
    (hY : ∀ (w : World) (h : Heap), YP w h → (K w.params).In h)
    (F : ∀ (w : World) (mg : Str → Option Value) (fa : Addr) (h : Heap), (K w.params).In h → h.Ns mainGlobals mg → mg d.name = some (.ref fa) → ∃ fd : FuncData,
      (∀ (t : Shared) (u : Value), BindsTo t fd ⟨[u], []⟩ [(x, u)]) ∧ ∀ bs : Heap, (K w.params).In bs → bs.Ns mainGlobals mg → FnG l.prog w (K w.params) mg bs k fa fd [x] (sp w))
    (due : ∀ (w : World) (I : Hp) (a : Addr) (ns : List Int), SqL (K w.params) I a (ns.map V.int) → sp w [.ref a] I (fun v _ => v = .bl true) fun _ _ _ => False) :
    PySem.W.WalkO q loose XP YP l.row.toRowW d [] (fun f vs => PySem.call f vs) := by
  refine Att.attach_call hn hd ?_
  intro w t0 t mg mb fa o pm cd doc a vs ns G Y ho hdt hcd hmg oa iv hl gen0
  obtain ⟨fd, hb, hF⟩ := F w mg fa _ (hY w _ Y) G.T.g hmg
  exact call_top (hY w _ Y) G.T.g G.T.b G.T.builtins G.T.nolimit gen0 oa iv (Nat.le_trans hl hn2) room gu hF hb fun I hS => due w I a ns hS
end Wb

set_option Elab.async false
set_option linter.all false
set_option maxRecDepth 100000
set_option maxHeartbeats 4000000
namespace Wb
open PySem PySem.Spec PyProof.Rows L2
theorem all_facts {pr : Program} {w : World} {K : PySem.W.Frag} {h : Heap} {mg : Str → Option Value} {fa : Addr} (X : K.In h) (G : h.Ns mainGlobals mg) (hfa : mg "law" = some (.ref fa))
    {f2 : Addr} {oc2 kV2 dc2 pm2 cd2 ct2 : Value} {od2 an2 : Option Addr} {sl2 : Array (Option Value)}
    (a2 : PySem.W.nsIn K mainGlobals "is_whole" = some (some (.ref f2)))
    (l2 : K.lookup f2 = some ⟨oc2, od2, .func (PySem.W.fnOf "is_whole" "is_whole" (defArgs sWhole) (defBody sWhole) (defScope sWhole) .none kV2 dc2 pm2 an2 cd2 ct2), sl2⟩)
    (c2 : PySem.W.codeIn K cd2 "is_whole" = true) (k2 : PySem.W.keepIn K (.ref f2) = true)
    {f3 : Addr} {oc3 kV3 dc3 pm3 cd3 ct3 : Value} {od3 an3 : Option Addr} {sl3 : Array (Option Value)}
    (a3 : PySem.W.nsIn K mainGlobals "is_whole_in" = some (some (.ref f3)))
    (l3 : K.lookup f3 = some ⟨oc3, od3, .func (PySem.W.fnOf "is_whole_in" "is_whole_in" (defArgs sWholeIn) (defBody sWholeIn) (defScope sWholeIn) .none kV3 dc3 pm3 an3 cd3 ct3), sl3⟩)
    (c3 : PySem.W.codeIn K cd3 "is_whole_in" = true) (k3 : PySem.W.keepIn K (.ref f3) = true)
    {f4 : Addr} {oc4 kV4 dc4 pm4 cd4 ct4 : Value} {od4 an4 : Option Addr} {sl4 : Array (Option Value)}
    (a4 : PySem.W.nsIn K mainGlobals "is_tuple_of" = some (some (.ref f4)))
    (l4 : K.lookup f4 = some ⟨oc4, od4, .func (PySem.W.fnOf "is_tuple_of" "is_tuple_of" (defArgs sTupOf) (defBody sTupOf) (defScope sTupOf) .none kV4 dc4 pm4 an4 cd4 ct4), sl4⟩)
    (c4 : PySem.W.codeIn K cd4 "is_tuple_of" = true) (k4 : PySem.W.keepIn K (.ref f4) = true)
    {f5 : Addr} {oc5 kV5 dc5 pm5 cd5 ct5 : Value} {od5 an5 : Option Addr} {sl5 : Array (Option Value)}
    (a5 : PySem.W.nsIn K mainGlobals "are_places" = some (some (.ref f5)))
    (l5 : K.lookup f5 = some ⟨oc5, od5, .func (PySem.W.fnOf "are_places" "are_places" (defArgs sPlaces) (defBody sPlaces) (defScope sPlaces) .none kV5 dc5 pm5 an5 cd5 ct5), sl5⟩)
    (c5 : PySem.W.codeIn K cd5 "are_places" = true) (k5 : PySem.W.keepIn K (.ref f5) = true)
    {f11 : Addr} {oc11 kV11 dc11 pm11 cd11 ct11 : Value} {od11 an11 : Option Addr} {sl11 : Array (Option Value)}
    (a11 : PySem.W.nsIn K mainGlobals "words_of" = some (some (.ref f11)))
    (l11 : K.lookup f11 = some ⟨oc11, od11, .func (PySem.W.fnOf "words_of" "words_of" (defArgs sWords) (defBody sWords) (defScope sWords) .none kV11 dc11 pm11 an11 cd11 ct11), sl11⟩)
    (c11 : PySem.W.codeIn K cd11 "words_of" = true) (k11 : PySem.W.keepIn K (.ref f11) = true)
    {f12 : Addr} {oc12 kV12 dc12 pm12 cd12 ct12 : Value} {od12 an12 : Option Addr} {sl12 : Array (Option Value)}
    (a12 : PySem.W.nsIn K mainGlobals "moves_by_word" = some (some (.ref f12)))
    (l12 : K.lookup f12 = some ⟨oc12, od12, .func (PySem.W.fnOf "moves_by_word" "moves_by_word" (defArgs sMoves) (defBody sMoves) (defScope sMoves) .none kV12 dc12 pm12 an12 cd12 ct12), sl12⟩)
    (c12 : PySem.W.codeIn K cd12 "moves_by_word" = true) (k12 : PySem.W.keepIn K (.ref f12) = true)
    {f20 : Addr} {oc20 kV20 dc20 pm20 cd20 ct20 : Value} {od20 an20 : Option Addr} {sl20 : Array (Option Value)}
    (a20 : PySem.W.nsIn K mainGlobals "fault_of" = some (some (.ref f20)))
    (l20 : K.lookup f20 = some ⟨oc20, od20, .func (PySem.W.fnOf "fault_of" "fault_of" (defArgs sFault) (defBody sFault) (defScope sFault) .none kV20 dc20 pm20 an20 cd20 ct20), sl20⟩)
    (c20 : PySem.W.codeIn K cd20 "fault_of" = true) (k20 : PySem.W.keepIn K (.ref f20) = true)
    {f21 : Addr} {oc21 kV21 dc21 pm21 cd21 ct21 : Value} {od21 an21 : Option Addr} {sl21 : Array (Option Value)}
    (a21 : PySem.W.nsIn K mainGlobals "is_bolt" = some (some (.ref f21)))
    (l21 : K.lookup f21 = some ⟨oc21, od21, .func (PySem.W.fnOf "is_bolt" "is_bolt" (defArgs sBolt) (defBody sBolt) (defScope sBolt) .none kV21 dc21 pm21 an21 cd21 ct21), sl21⟩)
    (c21 : PySem.W.codeIn K cd21 "is_bolt" = true) (k21 : PySem.W.keepIn K (.ref f21) = true)
    {f22 : Addr} {oc22 kV22 dc22 pm22 cd22 ct22 : Value} {od22 an22 : Option Addr} {sl22 : Array (Option Value)}
    (a22 : PySem.W.nsIn K mainGlobals "is_gap" = some (some (.ref f22)))
    (l22 : K.lookup f22 = some ⟨oc22, od22, .func (PySem.W.fnOf "is_gap" "is_gap" (defArgs sGap) (defBody sGap) (defScope sGap) .none kV22 dc22 pm22 an22 cd22 ct22), sl22⟩)
    (c22 : PySem.W.codeIn K cd22 "is_gap" = true) (k22 : PySem.W.keepIn K (.ref f22) = true)
    {f23 : Addr} {oc23 kV23 dc23 pm23 cd23 ct23 : Value} {od23 an23 : Option Addr} {sl23 : Array (Option Value)}
    (a23 : PySem.W.nsIn K mainGlobals "are_ways" = some (some (.ref f23)))
    (l23 : K.lookup f23 = some ⟨oc23, od23, .func (PySem.W.fnOf "are_ways" "are_ways" (defArgs sWays) (defBody sWays) (defScope sWays) .none kV23 dc23 pm23 an23 cd23 ct23), sl23⟩)
    (c23 : PySem.W.codeIn K cd23 "are_ways" = true) (k23 : PySem.W.keepIn K (.ref f23) = true)
    {f24 : Addr} {oc24 kV24 dc24 pm24 cd24 ct24 : Value} {od24 an24 : Option Addr} {sl24 : Array (Option Value)}
    (a24 : PySem.W.nsIn K mainGlobals "manys_of" = some (some (.ref f24)))
    (l24 : K.lookup f24 = some ⟨oc24, od24, .func (PySem.W.fnOf "manys_of" "manys_of" (defArgs sManys) (defBody sManys) (defScope sManys) .none kV24 dc24 pm24 an24 cd24 ct24), sl24⟩)
    (c24 : PySem.W.codeIn K cd24 "manys_of" = true) (k24 : PySem.W.keepIn K (.ref f24) = true)
    {f25 : Addr} {oc25 kV25 dc25 pm25 cd25 ct25 : Value} {od25 an25 : Option Addr} {sl25 : Array (Option Value)}
    (a25 : PySem.W.nsIn K mainGlobals "need_lock" = some (some (.ref f25)))
    (l25 : K.lookup f25 = some ⟨oc25, od25, .func (PySem.W.fnOf "need_lock" "need_lock" (defArgs sNeedL) (defBody sNeedL) (defScope sNeedL) .none kV25 dc25 pm25 an25 cd25 ct25), sl25⟩)
    (c25 : PySem.W.codeIn K cd25 "need_lock" = true) (k25 : PySem.W.keepIn K (.ref f25) = true)
    {f26 : Addr} {oc26 kV26 dc26 pm26 cd26 ct26 : Value} {od26 an26 : Option Addr} {sl26 : Array (Option Value)}
    (a26 : PySem.W.nsIn K mainGlobals "price_of_step" = some (some (.ref f26)))
    (l26 : K.lookup f26 = some ⟨oc26, od26, .func (PySem.W.fnOf "price_of_step" "price_of_step" (defArgs sPos) (defBody sPos) (defScope sPos) .none kV26 dc26 pm26 an26 cd26 ct26), sl26⟩)
    (c26 : PySem.W.codeIn K cd26 "price_of_step" = true) (k26 : PySem.W.keepIn K (.ref f26) = true)
    {f32 : Addr} {oc32 kV32 dc32 pm32 cd32 ct32 : Value} {od32 an32 : Option Addr} {sl32 : Array (Option Value)}
    (a32 : PySem.W.nsIn K mainGlobals "need_book" = some (some (.ref f32)))
    (l32 : K.lookup f32 = some ⟨oc32, od32, .func (PySem.W.fnOf "need_book" "need_book" (defArgs sNeedB) (defBody sNeedB) (defScope sNeedB) .none kV32 dc32 pm32 an32 cd32 ct32), sl32⟩)
    (c32 : PySem.W.codeIn K cd32 "need_book" = true) (k32 : PySem.W.keepIn K (.ref f32) = true)
    {f34 : Addr} {oc34 kV34 dc34 pm34 cd34 ct34 : Value} {od34 an34 : Option Addr} {sl34 : Array (Option Value)}
    (a34 : PySem.W.nsIn K mainGlobals "weighed" = some (some (.ref f34)))
    (l34 : K.lookup f34 = some ⟨oc34, od34, .func (PySem.W.fnOf "weighed" "weighed" (defArgs sWgd) (defBody sWgd) (defScope sWgd) .none kV34 dc34 pm34 an34 cd34 ct34), sl34⟩)
    (c34 : PySem.W.codeIn K cd34 "weighed" = true) (k34 : PySem.W.keepIn K (.ref f34) = true)
    {f36 : Addr} {oc36 kV36 dc36 pm36 cd36 ct36 : Value} {od36 an36 : Option Addr} {sl36 : Array (Option Value)}
    (a36 : PySem.W.nsIn K mainGlobals "_law_pen" = some (some (.ref f36)))
    (l36 : K.lookup f36 = some ⟨oc36, od36, .func (PySem.W.fnOf "_law_pen" "_law_pen" (defArgs sPen) (defBody sPen) (defScope sPen) .none kV36 dc36 pm36 an36 cd36 ct36), sl36⟩)
    (c36 : PySem.W.codeIn K cd36 "_law_pen" = true) (k36 : PySem.W.keepIn K (.ref f36) = true)
    {f37 : Addr} {oc37 kV37 dc37 pm37 cd37 ct37 : Value} {od37 an37 : Option Addr} {sl37 : Array (Option Value)}
    (a37 : PySem.W.nsIn K mainGlobals "_law_draw" = some (some (.ref f37)))
    (l37 : K.lookup f37 = some ⟨oc37, od37, .func (PySem.W.fnOf "_law_draw" "_law_draw" (defArgs sDraw) (defBody sDraw) (defScope sDraw) .none kV37 dc37 pm37 an37 cd37 ct37), sl37⟩)
    (c37 : PySem.W.codeIn K cd37 "_law_draw" = true) (k37 : PySem.W.keepIn K (.ref f37) = true)
    {f38 : Addr} {oc38 kV38 dc38 pm38 cd38 ct38 : Value} {od38 an38 : Option Addr} {sl38 : Array (Option Value)}
    (a38 : PySem.W.nsIn K mainGlobals "_law_pick" = some (some (.ref f38)))
    (l38 : K.lookup f38 = some ⟨oc38, od38, .func (PySem.W.fnOf "_law_pick" "_law_pick" (defArgs sPick) (defBody sPick) (defScope sPick) .none kV38 dc38 pm38 an38 cd38 ct38), sl38⟩)
    (c38 : PySem.W.codeIn K cd38 "_law_pick" = true) (k38 : PySem.W.keepIn K (.ref f38) = true)
    {f39 : Addr} {oc39 kV39 dc39 pm39 cd39 ct39 : Value} {od39 an39 : Option Addr} {sl39 : Array (Option Value)}
    (a39 : PySem.W.nsIn K mainGlobals "_law_shuffled" = some (some (.ref f39)))
    (l39 : K.lookup f39 = some ⟨oc39, od39, .func (PySem.W.fnOf "_law_shuffled" "_law_shuffled" (defArgs sShuf) (defBody sShuf) (defScope sShuf) .none kV39 dc39 pm39 an39 cd39 ct39), sl39⟩)
    (c39 : PySem.W.codeIn K cd39 "_law_shuffled" = true) (k39 : PySem.W.keepIn K (.ref f39) = true)
    {f40 : Addr} {oc40 kV40 dc40 pm40 cd40 ct40 : Value} {od40 an40 : Option Addr} {sl40 : Array (Option Value)}
    (a40 : PySem.W.nsIn K mainGlobals "_law_price" = some (some (.ref f40)))
    (l40 : K.lookup f40 = some ⟨oc40, od40, .func (PySem.W.fnOf "_law_price" "_law_price" (defArgs sPrc) (defBody sPrc) (defScope sPrc) .none kV40 dc40 pm40 an40 cd40 ct40), sl40⟩)
    (c40 : PySem.W.codeIn K cd40 "_law_price" = true) (k40 : PySem.W.keepIn K (.ref f40) = true)
    {f41 : Addr} {oc41 kV41 dc41 pm41 cd41 ct41 : Value} {od41 an41 : Option Addr} {sl41 : Array (Option Value)}
    (a41 : PySem.W.nsIn K mainGlobals "_law_bases" = some (some (.ref f41)))
    (l41 : K.lookup f41 = some ⟨oc41, od41, .func (PySem.W.fnOf "_law_bases" "_law_bases" (defArgs sBases) (defBody sBases) (defScope sBases) .none kV41 dc41 pm41 an41 cd41 ct41), sl41⟩)
    (c41 : PySem.W.codeIn K cd41 "_law_bases" = true) (k41 : PySem.W.keepIn K (.ref f41) = true)
    {f42 : Addr} {oc42 kV42 dc42 pm42 cd42 ct42 : Value} {od42 an42 : Option Addr} {sl42 : Array (Option Value)}
    (a42 : PySem.W.nsIn K mainGlobals "_law_cuts" = some (some (.ref f42)))
    (l42 : K.lookup f42 = some ⟨oc42, od42, .func (PySem.W.fnOf "_law_cuts" "_law_cuts" (defArgs sCuts) (defBody sCuts) (defScope sCuts) .none kV42 dc42 pm42 an42 cd42 ct42), sl42⟩)
    (c42 : PySem.W.codeIn K cd42 "_law_cuts" = true) (k42 : PySem.W.keepIn K (.ref f42) = true)
    {f43 : Addr} {oc43 kV43 dc43 pm43 cd43 ct43 : Value} {od43 an43 : Option Addr} {sl43 : Array (Option Value)}
    (a43 : PySem.W.nsIn K mainGlobals "_law_gaps" = some (some (.ref f43)))
    (l43 : K.lookup f43 = some ⟨oc43, od43, .func (PySem.W.fnOf "_law_gaps" "_law_gaps" (defArgs sGaps) (defBody sGaps) (defScope sGaps) .none kV43 dc43 pm43 an43 cd43 ct43), sl43⟩)
    (c43 : PySem.W.codeIn K cd43 "_law_gaps" = true) (k43 : PySem.W.keepIn K (.ref f43) = true)
    {f44 : Addr} {oc44 kV44 dc44 pm44 cd44 ct44 : Value} {od44 an44 : Option Addr} {sl44 : Array (Option Value)}
    (a44 : PySem.W.nsIn K mainGlobals "_law_lock" = some (some (.ref f44)))
    (l44 : K.lookup f44 = some ⟨oc44, od44, .func (PySem.W.fnOf "_law_lock" "_law_lock" (defArgs sLock) (defBody sLock) (defScope sLock) .none kV44 dc44 pm44 an44 cd44 ct44), sl44⟩)
    (c44 : PySem.W.codeIn K cd44 "_law_lock" = true) (k44 : PySem.W.keepIn K (.ref f44) = true)
    {f45 : Addr} {oc45 kV45 dc45 pm45 cd45 ct45 : Value} {od45 an45 : Option Addr} {sl45 : Array (Option Value)}
    (a45 : PySem.W.nsIn K mainGlobals "_law_full" = some (some (.ref f45)))
    (l45 : K.lookup f45 = some ⟨oc45, od45, .func (PySem.W.fnOf "_law_full" "_law_full" (defArgs sFul) (defBody sFul) (defScope sFul) .none kV45 dc45 pm45 an45 cd45 ct45), sl45⟩)
    (c45 : PySem.W.codeIn K cd45 "_law_full" = true) (k45 : PySem.W.keepIn K (.ref f45) = true)
    {f46 : Addr} {oc46 kV46 dc46 pm46 cd46 ct46 : Value} {od46 an46 : Option Addr} {sl46 : Array (Option Value)}
    (a46 : PySem.W.nsIn K mainGlobals "_law_steps" = some (some (.ref f46)))
    (l46 : K.lookup f46 = some ⟨oc46, od46, .func (PySem.W.fnOf "_law_steps" "_law_steps" (defArgs sSteps) (defBody sSteps) (defScope sSteps) .none kV46 dc46 pm46 an46 cd46 ct46), sl46⟩)
    (c46 : PySem.W.codeIn K cd46 "_law_steps" = true) (k46 : PySem.W.keepIn K (.ref f46) = true)
    {f47 : Addr} {oc47 kV47 dc47 pm47 cd47 ct47 : Value} {od47 an47 : Option Addr} {sl47 : Array (Option Value)}
    (a47 : PySem.W.nsIn K mainGlobals "_law_moved" = some (some (.ref f47)))
    (l47 : K.lookup f47 = some ⟨oc47, od47, .func (PySem.W.fnOf "_law_moved" "_law_moved" (defArgs sMoved) (defBody sMoved) (defScope sMoved) .none kV47 dc47 pm47 an47 cd47 ct47), sl47⟩)
    (c47 : PySem.W.codeIn K cd47 "_law_moved" = true) (k47 : PySem.W.keepIn K (.ref f47) = true)
    {f48 : Addr} {oc48 kV48 dc48 pm48 cd48 ct48 : Value} {od48 an48 : Option Addr} {sl48 : Array (Option Value)}
    (a48 : PySem.W.nsIn K mainGlobals "_law_drawn" = some (some (.ref f48)))
    (l48 : K.lookup f48 = some ⟨oc48, od48, .func (PySem.W.fnOf "_law_drawn" "_law_drawn" (defArgs sDrawn) (defBody sDrawn) (defScope sDrawn) .none kV48 dc48 pm48 an48 cd48 ct48), sl48⟩)
    (c48 : PySem.W.codeIn K cd48 "_law_drawn" = true) (k48 : PySem.W.keepIn K (.ref f48) = true)
    {f49 : Addr} {oc49 kV49 dc49 pm49 cd49 ct49 : Value} {od49 an49 : Option Addr} {sl49 : Array (Option Value)}
    (a49 : PySem.W.nsIn K mainGlobals "_law_is_from" = some (some (.ref f49)))
    (l49 : K.lookup f49 = some ⟨oc49, od49, .func (PySem.W.fnOf "_law_is_from" "_law_is_from" (defArgs sFrom) (defBody sFrom) (defScope sFrom) .none kV49 dc49 pm49 an49 cd49 ct49), sl49⟩)
    (c49 : PySem.W.codeIn K cd49 "_law_is_from" = true) (k49 : PySem.W.keepIn K (.ref f49) = true)
    {f50 : Addr} {oc50 kV50 dc50 pm50 cd50 ct50 : Value} {od50 an50 : Option Addr} {sl50 : Array (Option Value)}
    (a50 : PySem.W.nsIn K mainGlobals "_law_is_word" = some (some (.ref f50)))
    (l50 : K.lookup f50 = some ⟨oc50, od50, .func (PySem.W.fnOf "_law_is_word" "_law_is_word" (defArgs sIsW) (defBody sIsW) (defScope sIsW) .none kV50 dc50 pm50 an50 cd50 ct50), sl50⟩)
    (c50 : PySem.W.codeIn K cd50 "_law_is_word" = true) (k50 : PySem.W.keepIn K (.ref f50) = true)
    {f51 : Addr} {oc51 kV51 dc51 pm51 cd51 ct51 : Value} {od51 an51 : Option Addr} {sl51 : Array (Option Value)}
    (a51 : PySem.W.nsIn K mainGlobals "_law_entry" = some (some (.ref f51)))
    (l51 : K.lookup f51 = some ⟨oc51, od51, .func (PySem.W.fnOf "_law_entry" "_law_entry" (defArgs sEnt) (defBody sEnt) (defScope sEnt) .none kV51 dc51 pm51 an51 cd51 ct51), sl51⟩)
    (c51 : PySem.W.codeIn K cd51 "_law_entry" = true) (k51 : PySem.W.keepIn K (.ref f51) = true)
    {f52 : Addr} {oc52 kV52 dc52 pm52 cd52 ct52 : Value} {od52 an52 : Option Addr} {sl52 : Array (Option Value)}
    (a52 : PySem.W.nsIn K mainGlobals "_law_part" = some (some (.ref f52)))
    (l52 : K.lookup f52 = some ⟨oc52, od52, .func (PySem.W.fnOf "_law_part" "_law_part" (defArgs sPrt) (defBody sPrt) (defScope sPrt) .none kV52 dc52 pm52 an52 cd52 ct52), sl52⟩)
    (c52 : PySem.W.codeIn K cd52 "_law_part" = true) (k52 : PySem.W.keepIn K (.ref f52) = true)
    {f53 : Addr} {oc53 kV53 dc53 pm53 cd53 ct53 : Value} {od53 an53 : Option Addr} {sl53 : Array (Option Value)}
    (a53 : PySem.W.nsIn K mainGlobals "_law_weighed" = some (some (.ref f53)))
    (l53 : K.lookup f53 = some ⟨oc53, od53, .func (PySem.W.fnOf "_law_weighed" "_law_weighed" (defArgs sWgL) (defBody sWgL) (defScope sWgL) .none kV53 dc53 pm53 an53 cd53 ct53), sl53⟩)
    (c53 : PySem.W.codeIn K cd53 "_law_weighed" = true) (k53 : PySem.W.keepIn K (.ref f53) = true)
    {f54 : Addr} {oc54 kV54 dc54 pm54 cd54 ct54 : Value} {od54 an54 : Option Addr} {sl54 : Array (Option Value)}
    (a54 : PySem.W.nsIn K mainGlobals "_law_led" = some (some (.ref f54)))
    (l54 : K.lookup f54 = some ⟨oc54, od54, .func (PySem.W.fnOf "_law_led" "_law_led" (defArgs sLed) (defBody sLed) (defScope sLed) .none kV54 dc54 pm54 an54 cd54 ct54), sl54⟩)
    (c54 : PySem.W.codeIn K cd54 "_law_led" = true) (k54 : PySem.W.keepIn K (.ref f54) = true)
    {f55 : Addr} {oc55 kV55 dc55 pm55 cd55 ct55 : Value} {od55 an55 : Option Addr} {sl55 : Array (Option Value)}
    (a55 : PySem.W.nsIn K mainGlobals "_law_entries" = some (some (.ref f55)))
    (l55 : K.lookup f55 = some ⟨oc55, od55, .func (PySem.W.fnOf "_law_entries" "_law_entries" (defArgs sEns) (defBody sEns) (defScope sEns) .none kV55 dc55 pm55 an55 cd55 ct55), sl55⟩)
    (c55 : PySem.W.codeIn K cd55 "_law_entries" = true) (k55 : PySem.W.keepIn K (.ref f55) = true)
    {f56 : Addr} {oc56 kV56 dc56 pm56 cd56 ct56 : Value} {od56 an56 : Option Addr} {sl56 : Array (Option Value)}
    (a56 : PySem.W.nsIn K mainGlobals "_law_parts" = some (some (.ref f56)))
    (l56 : K.lookup f56 = some ⟨oc56, od56, .func (PySem.W.fnOf "_law_parts" "_law_parts" (defArgs sPts) (defBody sPts) (defScope sPts) .none kV56 dc56 pm56 an56 cd56 ct56), sl56⟩)
    (c56 : PySem.W.codeIn K cd56 "_law_parts" = true) (k56 : PySem.W.keepIn K (.ref f56) = true)
    {f57 : Addr} {oc57 kV57 dc57 pm57 cd57 ct57 : Value} {od57 an57 : Option Addr} {sl57 : Array (Option Value)}
    (a57 : PySem.W.nsIn K mainGlobals "_law_looped" = some (some (.ref f57)))
    (l57 : K.lookup f57 = some ⟨oc57, od57, .func (PySem.W.fnOf "_law_looped" "_law_looped" (defArgs sLpd) (defBody sLpd) (defScope sLpd) .none kV57 dc57 pm57 an57 cd57 ct57), sl57⟩)
    (c57 : PySem.W.codeIn K cd57 "_law_looped" = true) (k57 : PySem.W.keepIn K (.ref f57) = true)
    {f58 : Addr} {oc58 kV58 dc58 pm58 cd58 ct58 : Value} {od58 an58 : Option Addr} {sl58 : Array (Option Value)}
    (a58 : PySem.W.nsIn K mainGlobals "_law_full_part" = some (some (.ref f58)))
    (l58 : K.lookup f58 = some ⟨oc58, od58, .func (PySem.W.fnOf "_law_full_part" "_law_full_part" (defArgs sFup) (defBody sFup) (defScope sFup) .none kV58 dc58 pm58 an58 cd58 ct58), sl58⟩)
    (c58 : PySem.W.codeIn K cd58 "_law_full_part" = true) (k58 : PySem.W.keepIn K (.ref f58) = true)
    {f59 : Addr} {oc59 kV59 dc59 pm59 cd59 ct59 : Value} {od59 an59 : Option Addr} {sl59 : Array (Option Value)}
    (a59 : PySem.W.nsIn K mainGlobals "_law_told" = some (some (.ref f59)))
    (l59 : K.lookup f59 = some ⟨oc59, od59, .func (PySem.W.fnOf "_law_told" "_law_told" (defArgs sTol) (defBody sTol) (defScope sTol) .none kV59 dc59 pm59 an59 cd59 ct59), sl59⟩)
    (c59 : PySem.W.codeIn K cd59 "_law_told" = true) (k59 : PySem.W.keepIn K (.ref f59) = true)
    {f60 : Addr} {oc60 kV60 dc60 pm60 cd60 ct60 : Value} {od60 an60 : Option Addr} {sl60 : Array (Option Value)}
    (a60 : PySem.W.nsIn K mainGlobals "law" = some (some (.ref f60)))
    (l60 : K.lookup f60 = some ⟨oc60, od60, .func (PySem.W.fnOf "law" "law" (defArgs sLaw) (defBody sLaw) (defScope sLaw) .none kV60 dc60 pm60 an60 cd60 ct60), sl60⟩)
    (c60 : PySem.W.codeIn K cd60 "law" = true) (k60 : PySem.W.keepIn K (.ref f60) = true)
    {t0 : Tok} (n0 : PySem.W.nsIn K mainGlobals "MOST_BOLTS" = some (some (.int 60 t0)))
    {t1 : Tok} (n1 : PySem.W.nsIn K mainGlobals "FEWEST_PLACES" = some (some (.int 2 t1)))
    {t2 : Tok} (n2 : PySem.W.nsIn K mainGlobals "MOST_PLACES" = some (some (.int 4 t2)))
    {t3 : Tok} (n3 : PySem.W.nsIn K mainGlobals "MOST_WAYS" = some (some (.int 8 t3)))
    {t4 : Tok} (n4 : PySem.W.nsIn K mainGlobals "MOST_WORDS" = some (some (.int 8 t4)))
    {t5 : Tok} (n5 : PySem.W.nsIn K mainGlobals "MOST_PRICE" = some (some (.int 1000000 t5)))
    (z0 : PySem.W.nsIn K mainGlobals "isinstance" = some none)
    (z1 : PySem.W.nsIn K mainGlobals "int" = some none)
    (z2 : PySem.W.nsIn K mainGlobals "bool" = some none)
    (z3 : PySem.W.nsIn K mainGlobals "tuple" = some none)
    (z4 : PySem.W.nsIn K mainGlobals "list" = some none)
    (z5 : PySem.W.nsIn K mainGlobals "len" = some none)
    (z6 : PySem.W.nsIn K mainGlobals "zip" = some none)
    (z7 : PySem.W.nsIn K mainGlobals "all" = some none)
    (z8 : PySem.W.nsIn K mainGlobals "range" = some none)
    (z9 : PySem.W.nsIn K mainGlobals "reversed" = some none)
    (z10 : PySem.W.nsIn K mainGlobals "enumerate" = some none)
    (z11 : PySem.W.nsIn K mainGlobals "sorted" = some none)
    (z12 : PySem.W.nsIn K mainGlobals "set" = some none)
    (z13 : PySem.W.nsIn K mainGlobals "abs" = some none)
    (z14 : PySem.W.nsIn K mainGlobals "repr" = some none)
    (z15 : PySem.W.nsIn K mainGlobals "min" = some none)
    {CB : Addr} (xBa : PySem.W.nsIn K mainGlobals "BoltError" = some (some (.ref CB)))
    {CV : Addr} (qVa : PySem.W.nsIn K mainGlobals "Reader" = some (some (.ref CV))) (qVp : PySem.W.plainGet K CV Str.empty = true) (qVh : PySem.W.hasDictIn K CV = true) (qVo : PySem.W.plainOver K CV = true)
    (qVs : PySem.W.findIn K (.ref CV) "__setattr__" = some (some (.builtin "object.__setattr__"))) (qVm : PySem.W.makesIn K CV = true) (qVk : PySem.W.keepIn K (.ref CV) = true)
    (qVn0 : PySem.W.findIn K (.ref CV) "manys" = some none)
    (qVn1 : PySem.W.findIn K (.ref CV) "moves" = some none)
    (qVn2 : PySem.W.findIn K (.ref CV) "parts" = some none)
    (qVn3 : PySem.W.findIn K (.ref CV) "prices" = some none)
    (qVn4 : PySem.W.findIn K (.ref CV) "counts" = some none)
    (qVn5 : PySem.W.findIn K (.ref CV) "path" = some none)
    {vV0 : Addr} {ocV0 kVV0 dcV0 pmV0 cdV0 ctV0 : Value} {odV0 anV0 : Option Addr} {slV0 : Array (Option Value)}
    (iV0 : PySem.W.findIn K (.ref CV) "__init__" = some (some (.ref vV0))) (jV0 : PySem.W.isFn K (.ref vV0) = true)
    (lV0 : K.lookup vV0 = some ⟨ocV0, odV0, .func (PySem.W.fnOf "__init__" "Reader.__init__" (defArgs sRdInit) (defBody sRdInit) (defScope sRdInit) .none kVV0 dcV0 pmV0 anV0 cdV0 ctV0), slV0⟩)
    (cV0 : PySem.W.codeIn K cdV0 "Reader.__init__" = true) (kpV0 : PySem.W.keepIn K (.ref vV0) = true)
    {vV1 : Addr} {ocV1 kVV1 dcV1 pmV1 cdV1 ctV1 : Value} {odV1 anV1 : Option Addr} {slV1 : Array (Option Value)}
    (iV1 : PySem.W.findIn K (.ref CV) "put" = some (some (.ref vV1))) (jV1 : PySem.W.isFn K (.ref vV1) = true)
    (lV1 : K.lookup vV1 = some ⟨ocV1, odV1, .func (PySem.W.fnOf "put" "Reader.put" (defArgs sRdPut) (defBody sRdPut) (defScope sRdPut) .none kVV1 dcV1 pmV1 anV1 cdV1 ctV1), slV1⟩)
    (cV1 : PySem.W.codeIn K cdV1 "Reader.put" = true) (kpV1 : PySem.W.keepIn K (.ref vV1) = true)
    {vV2 : Addr} {ocV2 kVV2 dcV2 pmV2 cdV2 ctV2 : Value} {odV2 anV2 : Option Addr} {slV2 : Array (Option Value)}
    (iV2 : PySem.W.findIn K (.ref CV) "weight" = some (some (.ref vV2))) (jV2 : PySem.W.isFn K (.ref vV2) = true)
    (lV2 : K.lookup vV2 = some ⟨ocV2, odV2, .func (PySem.W.fnOf "weight" "Reader.weight" (defArgs sRdWeight) (defBody sRdWeight) (defScope sRdWeight) .none kVV2 dcV2 pmV2 anV2 cdV2 ctV2), slV2⟩)
    (cV2 : PySem.W.codeIn K cdV2 "Reader.weight" = true) (kpV2 : PySem.W.keepIn K (.ref vV2) = true)
    {vV3 : Addr} {ocV3 kVV3 dcV3 pmV3 cdV3 ctV3 : Value} {odV3 anV3 : Option Addr} {slV3 : Array (Option Value)}
    (iV3 : PySem.W.findIn K (.ref CV) "gone" = some (some (.ref vV3))) (jV3 : PySem.W.isFn K (.ref vV3) = true)
    (lV3 : K.lookup vV3 = some ⟨ocV3, odV3, .func (PySem.W.fnOf "gone" "Reader.gone" (defArgs sRdGone) (defBody sRdGone) (defScope sRdGone) .none kVV3 dcV3 pmV3 anV3 cdV3 ctV3), slV3⟩)
    (cV3 : PySem.W.codeIn K cdV3 "Reader.gone" = true) (kpV3 : PySem.W.keepIn K (.ref vV3) = true)
    {vV6 : Addr} {ocV6 kVV6 dcV6 pmV6 cdV6 ctV6 : Value} {odV6 anV6 : Option Addr} {slV6 : Array (Option Value)}
    (iV6 : PySem.W.findIn K (.ref CV) "way" = some (some (.ref vV6))) (jV6 : PySem.W.isFn K (.ref vV6) = true)
    (lV6 : K.lookup vV6 = some ⟨ocV6, odV6, .func (PySem.W.fnOf "way" "Reader.way" (defArgs sRdWay) (defBody sRdWay) (defScope sRdWay) .none kVV6 dcV6 pmV6 anV6 cdV6 ctV6), slV6⟩)
    (cV6 : PySem.W.codeIn K cdV6 "Reader.way" = true) (kpV6 : PySem.W.keepIn K (.ref vV6) = true)
    {CL BO : Addr} {nm q : Str} {NN : Addr} {bs : List Value} {sn : List Str} {sub : List Value} {ab : Bool} {col : Option Bool} {dd : Option Addr} {m0 m1 m2 m3 m5 : Option Value}
    (xLa : PySem.W.nsIn K mainGlobals "NoBook" = some (some (.ref CL)))
    (xLl : K.lookup CL = some (excClassObj nm q CL NN bs [.ref BO, .type "ValueError", .type "Exception", .type "BaseException", .type "object"] true sn sub ab col dd m0 m1 m2 m3 m5 "ValueError.__new__"))
    (xL0 : PySem.W.findIn K (.ref CL) "__setattr__" = some (some (.builtin "object.__setattr__"))) (xL1 : PySem.W.findIn K (.ref CL) "__getattribute__" = some (some (.builtin "BaseException.__getattribute__"))) (xL2 : PySem.W.findIn K (.ref CL) "__getattr__" = some none) (xLn : PySem.W.findIn K (.ref CL) "part" = some none)
    (xLk : PySem.W.keepIn K (.ref CL) = true) (xLs : PySem.W.subIn K (.ref CL) (.type "BaseException") = some true) (xLt : PySem.W.typeIn K (.ref CL) = some (.type "type")) (xL3 : PySem.W.hasDictIn K CL = true)
    (xL4 : PySem.W.findIn K (.ref CL) "__class__" = some (some (.builtin "object.__class__"))) (xL5 : PySem.W.specialIn K (.builtin "object.__class__") "__get__" = some (some (.builtin "getset_descriptor.__get__"))) (xL6 : PySem.W.takesIn K (.builtin "object.__class__") = some true) (xL7 : PySem.W.mroIn K CL (.type "object") = some true)
    {fm : Addr} {ocm kVm dcm pmm cdm ctm : Value} {odm anm : Option Addr} {slm : Array (Option Value)}
    (xLi : PySem.W.findIn K (.ref CL) "__init__" = some (some (.ref fm))) (xLf : PySem.W.typeIn K (.ref fm) = some (.type "function"))
    (lm : K.lookup fm = some ⟨ocm, odm, .func (PySem.W.fnOf "__init__" "NoBook.__init__" (defArgs sNbInit) (defBody sNbInit) (defScope sNbInit) .none kVm dcm pmm anm cdm ctm), slm⟩) (cm : PySem.W.codeIn K cdm "NoBook.__init__" = true) (km : PySem.W.keepIn K (.ref fm) = true)
    (y3 : PySem.W.exmOne K (.ref CL) (.ref CB) = some true) (y4 : PySem.W.kitOne K (.ref CL) (.ref CL) = some true)
    {tkS tkE tkP : Tok} (y5 : PySem.W.nsIn K mainGlobals "MOST_STEPS" = some (some (.int (10 ^ 300) tkS))) (y6 : PySem.W.nsIn K mainGlobals "MOST_ENTRIES" = some (some (.int 60 tkE))) (y7 : PySem.W.nsIn K mainGlobals "MOST_PARTS" = some (some (.int 30000 tkP))) :
    ∃ fd : FuncData, (∀ (t : Shared) (u : Value), BindsTo t fd ⟨[u], []⟩ [("_law_script", u)]) ∧ ∀ bs : Heap, K.In bs → bs.Ns mainGlobals mg → FnG pr w K mg bs 10 fa fd ["_law_script"] (spLaw K) := by
  have e := hfa.symm.trans (PySem.W.mg_of X G a60)
  cases e
  have F2 := fun_mk (st := sWhole) l2 c2 k2
  have F3 := fun_mk (st := sWholeIn) l3 c3 k3
  have F4 := fun_mk (st := sTupOf) l4 c4 k4
  have F5 := fun_mk (st := sPlaces) l5 c5 k5
  have F11 := fun_mk (st := sWords) l11 c11 k11
  have F12 := fun_mk (st := sMoves) l12 c12 k12
  have F20 := fun_mk (st := sFault) l20 c20 k20
  have F21 := fun_mk (st := sBolt) l21 c21 k21
  have F22 := fun_mk (st := sGap) l22 c22 k22
  have F23 := fun_mk (st := sWays) l23 c23 k23
  have F24 := fun_mk (st := sManys) l24 c24 k24
  have F25 := fun_mk (st := sNeedL) l25 c25 k25
  have F26 := fun_mk (st := sPos) l26 c26 k26
  have F32 := fun_mk (st := sNeedB) l32 c32 k32
  have F34 := fun_mk (st := sWgd) l34 c34 k34
  have F36 := fun_mk (st := sPen) l36 c36 k36
  have F37 := fun_mk (st := sDraw) l37 c37 k37
  have F38 := fun_mk (st := sPick) l38 c38 k38
  have F39 := fun_mk (st := sShuf) l39 c39 k39
  have F40 := fun_mk (st := sPrc) l40 c40 k40
  have F41 := fun_mk (st := sBases) l41 c41 k41
  have F42 := fun_mk (st := sCuts) l42 c42 k42
  have F43 := fun_mk (st := sGaps) l43 c43 k43
  have F44 := fun_mk (st := sLock) l44 c44 k44
  have F45 := fun_mk (st := sFul) l45 c45 k45
  have F46 := fun_mk (st := sSteps) l46 c46 k46
  have F47 := fun_mk (st := sMoved) l47 c47 k47
  have F48 := fun_mk (st := sDrawn) l48 c48 k48
  have F49 := fun_mk (st := sFrom) l49 c49 k49
  have F50 := fun_mk (st := sIsW) l50 c50 k50
  have F51 := fun_mk (st := sEnt) l51 c51 k51
  have F52 := fun_mk (st := sPrt) l52 c52 k52
  have F53 := fun_mk (st := sWgL) l53 c53 k53
  have F54 := fun_mk (st := sLed) l54 c54 k54
  have F55 := fun_mk (st := sEns) l55 c55 k55
  have F56 := fun_mk (st := sPts) l56 c56 k56
  have F57 := fun_mk (st := sLpd) l57 c57 k57
  have F58 := fun_mk (st := sFup) l58 c58 k58
  have F59 := fun_mk (st := sTol) l59 c59 k59
  have F60 := fun_mk (st := sLaw) l60 c60 k60
  have b2 := F2.binds (ps := ["thing"]) fun _ _ _ _ _ _ us hl => match us, hl with | [_], _ => rfl
  have b3 := F3.binds (ps := ["thing", "low", "high"]) fun _ _ _ _ _ _ us hl => match us, hl with | [_, _, _], _ => rfl
  have b4 := F4.binds (ps := ["thing", "low", "high"]) fun _ _ _ _ _ _ us hl => match us, hl with | [_, _, _], _ => rfl
  have b5 := F5.binds (ps := ["thing", "manys"]) fun _ _ _ _ _ _ us hl => match us, hl with | [_, _], _ => rfl
  have b11 := F11.binds (ps := ["lock"]) fun _ _ _ _ _ _ us hl => match us, hl with | [_], _ => rfl
  have b12 := F12.binds (ps := ["lock"]) fun _ _ _ _ _ _ us hl => match us, hl with | [_], _ => rfl
  have b20 := F20.binds (ps := ["thing"]) fun _ _ _ _ _ _ us hl => match us, hl with | [_], _ => rfl
  have b21 := F21.binds (ps := ["thing", "below"]) fun _ _ _ _ _ _ us hl => match us, hl with | [_, _], _ => rfl
  have b22 := F22.binds (ps := ["thing", "many", "below"]) fun _ _ _ _ _ _ us hl => match us, hl with | [_, _, _], _ => rfl
  have b23 := F23.binds (ps := ["thing", "below"]) fun _ _ _ _ _ _ us hl => match us, hl with | [_, _], _ => rfl
  have b24 := F24.binds (ps := ["lock"]) fun _ _ _ _ _ _ us hl => match us, hl with | [_], _ => rfl
  have b25 := F25.binds (ps := ["lock"]) fun _ _ _ _ _ _ us hl => match us, hl with | [_], _ => rfl
  have b26 := F26.binds (ps := ["moves", "places", "step"]) fun _ _ _ _ _ _ us hl => match us, hl with | [_, _, _], _ => rfl
  have b32 := F32.binds (ps := ["lock", "thing"]) fun _ _ _ _ _ _ us hl => match us, hl with | [_, _], _ => rfl
  have b34 := F34.binds (ps := ["lock", "book"]) fun _ _ _ _ _ _ us hl => match us, hl with | [_, _], _ => rfl
  have b36 := F36.binds (ps := ["_law_script"]) fun _ _ _ _ _ _ us hl => match us, hl with | [_], _ => rfl
  have b37 := F37.binds (ps := ["_law_pen_here", "_law_many"]) fun _ _ _ _ _ _ us hl => match us, hl with | [_, _], _ => rfl
  have b38 := F38.binds (ps := ["_law_pen_here", "_law_bag"]) fun _ _ _ _ _ _ us hl => match us, hl with | [_, _], _ => rfl
  have b39 := F39.binds (ps := ["_law_pen_here", "_law_bag"]) fun _ _ _ _ _ _ us hl => match us, hl with | [_, _], _ => rfl
  have b40 := F40.binds (ps := ["_law_pen_here", "_law_dear"]) fun _ _ _ _ _ _ us hl => match us, hl with | [_, _], _ => rfl
  have b41 := F41.binds (ps := ["_law_pen_here", "_law_counts", "_law_most"]) fun _ _ _ _ _ _ us hl => match us, hl with | [_, _, _], _ => rfl
  have b42 := F42.binds (ps := ["_law_words", "_law_many"]) fun _ _ _ _ _ _ us hl => match us, hl with | [_, _], _ => rfl
  have b43 := F43.binds (ps := ["_law_pen_here", "_law_count", "_law_words", "_law_dear"]) fun _ _ _ _ _ _ us hl => match us, hl with | [_, _, _, _], _ => rfl
  have b44 := F44.binds (ps := ["_law_pen_here", "_law_many", "_law_top", "_law_dear"]) fun _ _ _ _ _ _ us hl => match us, hl with | [_, _, _, _], _ => rfl
  have b45 := F45.binds (ps := ["_law_pen_here", "_law_many", "_law_top", "_law_dear"]) fun _ _ _ _ _ _ us hl => match us, hl with | [_, _, _, _], _ => rfl
  have b46 := F46.binds (ps := ["_law_lock_here", "_law_at"]) fun _ _ _ _ _ _ us hl => match us, hl with | [_, _], _ => rfl
  have b47 := F47.binds (ps := ["_law_at", "_law_k", "_law_there"]) fun _ _ _ _ _ _ us hl => match us, hl with | [_, _, _], _ => rfl
  have b48 := F48.binds (ps := ["_law_pen_here", "_law_lock_here"]) fun _ _ _ _ _ _ us hl => match us, hl with | [_, _], _ => rfl
  have b49 := F49.binds (ps := ["_law_thing", "_law_low", "_law_high"]) fun _ _ _ _ _ _ us hl => match us, hl with | [_, _, _], _ => rfl
  have b50 := F50.binds (ps := ["_law_lock_here", "_law_thing", "_law_many"]) fun _ _ _ _ _ _ us hl => match us, hl with | [_, _, _], _ => rfl
  have b51 := F51.binds (ps := ["_law_lock_here", "_law_told_here", "_law_here", "_law_entry_here"]) fun _ _ _ _ _ _ us hl => match us, hl with | [_, _, _, _], _ => rfl
  have b52 := F52.binds (ps := ["_law_lock_here", "_law_told_here", "_law_part_here"]) fun _ _ _ _ _ _ us hl => match us, hl with | [_, _, _], _ => rfl
  have b53 := F53.binds (ps := ["_law_lock_here", "_law_thing"]) fun _ _ _ _ _ _ us hl => match us, hl with | [_, _], _ => rfl
  have b54 := F54.binds (ps := ["_law_lock_here", "_law_pages", "_law_here", "_law_entry_here"]) fun _ _ _ _ _ _ us hl => match us, hl with | [_, _, _, _], _ => rfl
  have b55 := F55.binds (ps := ["_law_pen_here", "_law_lock_here", "_law_pages", "_law_begin"]) fun _ _ _ _ _ _ us hl => match us, hl with | [_, _, _, _], _ => rfl
  have b56 := F56.binds (ps := ["_law_pen_here", "_law_lock_here"]) fun _ _ _ _ _ _ us hl => match us, hl with | [_, _], _ => rfl
  have b57 := F57.binds (ps := ["_law_pen_here", "_law_lock_here"]) fun _ _ _ _ _ _ us hl => match us, hl with | [_, _], _ => rfl
  have b58 := F58.binds (ps := ["_law_pen_here", "_law_lock_here"]) fun _ _ _ _ _ _ us hl => match us, hl with | [_, _], _ => rfl
  have b59 := F59.binds (ps := ["_law_lock_here", "_law_book"]) fun _ _ _ _ _ _ us hl => match us, hl with | [_, _], _ => rfl
  have B : Bi mg := ⟨PySem.W.mg_none_of X G z0, PySem.W.mg_none_of X G z1, PySem.W.mg_none_of X G z2, PySem.W.mg_none_of X G z3, PySem.W.mg_none_of X G z4, PySem.W.mg_none_of X G z5, PySem.W.mg_none_of X G z6, PySem.W.mg_none_of X G z7, PySem.W.mg_none_of X G z8, PySem.W.mg_none_of X G z9, PySem.W.mg_none_of X G z10, PySem.W.mg_none_of X G z11, PySem.W.mg_none_of X G z12, PySem.W.mg_none_of X G z13, PySem.W.mg_none_of X G z14⟩
  have Nm : Nu mg := ⟨⟨_, PySem.W.mg_of X G n0⟩, ⟨_, PySem.W.mg_of X G n1⟩, ⟨_, PySem.W.mg_of X G n2⟩, ⟨_, PySem.W.mg_of X G n3⟩, ⟨_, PySem.W.mg_of X G n4⟩, ⟨_, PySem.W.mg_of X G n5⟩⟩
  have D : Pr K mg := ⟨_, _, F2, b2, PySem.W.mg_of X G a2, _, _, F3, b3, PySem.W.mg_of X G a3, _, _, F4, b4, PySem.W.mg_of X G a4, _, _, F5, b5, PySem.W.mg_of X G a5, _, _, F11, b11, PySem.W.mg_of X G a11, _, _, F12, b12, PySem.W.mg_of X G a12, _, _, F20, b20, PySem.W.mg_of X G a20, _, _, F21, b21, PySem.W.mg_of X G a21, _, _, F22, b22, PySem.W.mg_of X G a22, _, _, F23, b23, PySem.W.mg_of X G a23, _, _, F24, b24, PySem.W.mg_of X G a24, _, _, F25, b25, PySem.W.mg_of X G a25, B, Nm⟩
  have zn0 := PySem.W.mg_none_of X G z15
  let PS : PoS K mg := ⟨_, _, F26, b26, PySem.W.mg_of X G a26⟩
  let S : NdK K mg := ⟨_, _, F32, b32, PySem.W.mg_of X G a32, ⟨_, PySem.W.mg_of X G y5⟩, ⟨_, PySem.W.mg_of X G y6⟩, ⟨_, PySem.W.mg_of X G y7⟩⟩
  let Wg : WgK K mg := ⟨_, _, F34, b34, PySem.W.mg_of X G a34⟩
  let L : Ld K mg := ⟨_, _, F36, b36, PySem.W.mg_of X G a36, _, _, F37, b37, PySem.W.mg_of X G a37, _, _, F38, b38, PySem.W.mg_of X G a38, _, _, F39, b39, PySem.W.mg_of X G a39, _, _, F40, b40, PySem.W.mg_of X G a40, _, _, F41, b41, PySem.W.mg_of X G a41, _, _, F42, b42, PySem.W.mg_of X G a42, _, _, F43, b43, PySem.W.mg_of X G a43, _, _, F44, b44, PySem.W.mg_of X G a44, _, _, F45, b45, PySem.W.mg_of X G a45, _, _, F46, b46, PySem.W.mg_of X G a46, _, _, F47, b47, PySem.W.mg_of X G a47, _, _, F48, b48, PySem.W.mg_of X G a48, _, _, F49, b49, PySem.W.mg_of X G a49, _, _, F50, b50, PySem.W.mg_of X G a50, _, _, F51, b51, PySem.W.mg_of X G a51, _, _, F52, b52, PySem.W.mg_of X G a52, _, _, F53, b53, PySem.W.mg_of X G a53, _, _, F54, b54, PySem.W.mg_of X G a54, _, _, F55, b55, PySem.W.mg_of X G a55, _, _, F56, b56, PySem.W.mg_of X G a56, _, _, F57, b57, PySem.W.mg_of X G a57, _, _, F58, b58, PySem.W.mg_of X G a58, _, _, F59, b59, PySem.W.mg_of X G a59, zn0⟩
  have gxBa := PySem.W.mg_of X G xBa
  have GV0 := fun_mk (st := sRdInit) lV0 cV0 kpV0
  have eV0 := GV0.binds (ps := ["self", "lock"]) fun _ _ _ _ _ _ us hl => match us, hl with | [_, _], _ => rfl
  have GV1 := fun_mk (st := sRdPut) lV1 cV1 kpV1
  have eV1 := GV1.binds (ps := ["self", "thing"]) fun _ _ _ _ _ _ us hl => match us, hl with | [_, _], _ => rfl
  have GV2 := fun_mk (st := sRdWeight) lV2 cV2 kpV2
  have eV2 := GV2.binds (ps := ["self", "begin", "end", "entries"]) fun _ _ _ _ _ _ us hl => match us, hl with | [_, _, _, _], _ => rfl
  have GV3 := fun_mk (st := sRdGone) lV3 cV3 kpV3
  have eV3 := GV3.binds (ps := ["self", "thing", "places"]) fun _ _ _ _ _ _ us hl => match us, hl with | [_, _, _], _ => rfl
  have GV6 := fun_mk (st := sRdWay) lV6 cV6 kpV6
  have eV6 := GV6.binds (ps := ["self"]) fun _ _ _ _ _ _ us hl => match us, hl with | [_], _ => rfl
  let RR : ReC K mg := ⟨CV, ⟨qVp, qVh, qVo, qVs⟩, qVn0, qVn1, qVn2, qVn3, qVn4, qVn5, PySem.W.mg_of X G qVa, vV0, _, GV0, eV0, ⟨qVm, iV0, jV0, qVk⟩, vV1, _, GV1, eV1, ⟨iV1, jV1, kpV1⟩, vV2, _, GV2, eV2, ⟨iV2, jV2, kpV2⟩, vV3, _, GV3, eV3, ⟨iV3, jV3, kpV3⟩, vV6, _, GV6, eV6, ⟨iV6, jV6, kpV6⟩, _, _, F26, b26, PySem.W.mg_of X G a26⟩
  have Fm := fun_mk (st := sNbInit) lm cm km
  have bm := Fm.binds (ps := ["self", "part"]) fun _ _ _ _ _ _ us hl => match us, hl with | [_, _], _ => rfl
  have TT : OexC K CL := ⟨⟨nm, q, NN, bs, _, sn, sub, ab, col, dd, m0, m1, m2, m3, m5, xLl, by rfl⟩, xL0, xLs, xLt, xLk⟩
  let N : NbC K mg := ⟨CL, fm, _, PySem.W.mg_of X G xLa, TT, xLi, xLf, xLn, Fm, bm⟩
  let NX : NxC K mg N := ⟨⟨xL1, xL2, xLs, xL3, xL4, xL5, xL6, xL7⟩, ⟨xL1, xL2, xLs, xL3⟩, CB, gxBa, y3, y4⟩
  exact ⟨_, fun t u => .of_eq rfl, fun bs _ _ => ok_law F60 D RR N S Wg NX L⟩
end Wb

set_option Elab.async false
set_option linter.all false
set_option maxRecDepth 100000
open PySem PySem.W PyProof.Rows
set_option maxHeartbeats 0 in
theorem PySem.Challenge.cw_waitbolts_k17_books_weighed_holds : PySem.Challenge.rw_waitbolts_k17_books_weighed.Holds := by
  w_on; o_law; k_head; (case hw => w_witness2)
  k_fill
  refine Wb.walk_top (l := PySem.Challenge.rw_waitbolts_k17_books_weighed) (n := 63) (k := 10) (x := "_law_script") (sp := fun w => Wb.spLaw _) rfl (by decide) rfl ⟨rfl, by decide, by decide⟩ rfl (fun w h Y => PySem.W.kIn_of Y) ?F (fun w I a ns hS => ⟨a, ns, rfl, hS, fun _ => rfl⟩)
  case F =>
    intro w mg fa h KX G hmg
    refine' Wb.all_facts KX G hmg ?a2 ?l2 ?c2 ?k2 ?a3 ?l3 ?c3 ?k3 ?a4 ?l4 ?c4 ?k4 ?a5 ?l5 ?c5 ?k5 ?a11 ?l11 ?c11 ?k11 ?a12 ?l12 ?c12 ?k12 ?a20 ?l20 ?c20 ?k20 ?a21 ?l21 ?c21 ?k21 ?a22 ?l22 ?c22 ?k22 ?a23 ?l23 ?c23 ?k23 ?a24 ?l24 ?c24 ?k24 ?a25 ?l25 ?c25 ?k25 ?a26 ?l26 ?c26 ?k26 ?a32 ?l32 ?c32 ?k32 ?a34 ?l34 ?c34 ?k34 ?a36 ?l36 ?c36 ?k36 ?a37 ?l37 ?c37 ?k37 ?a38 ?l38 ?c38 ?k38 ?a39 ?l39 ?c39 ?k39 ?a40 ?l40 ?c40 ?k40 ?a41 ?l41 ?c41 ?k41 ?a42 ?l42 ?c42 ?k42 ?a43 ?l43 ?c43 ?k43 ?a44 ?l44 ?c44 ?k44 ?a45 ?l45 ?c45 ?k45 ?a46 ?l46 ?c46 ?k46 ?a47 ?l47 ?c47 ?k47 ?a48 ?l48 ?c48 ?k48 ?a49 ?l49 ?c49 ?k49 ?a50 ?l50 ?c50 ?k50 ?a51 ?l51 ?c51 ?k51 ?a52 ?l52 ?c52 ?k52 ?a53 ?l53 ?c53 ?k53 ?a54 ?l54 ?c54 ?k54 ?a55 ?l55 ?c55 ?k55 ?a56 ?l56 ?c56 ?k56 ?a57 ?l57 ?c57 ?k57 ?a58 ?l58 ?c58 ?k58 ?a59 ?l59 ?c59 ?k59 ?a60 ?l60 ?c60 ?k60 ?n0 ?n1 ?n2 ?n3 ?n4 ?n5 ?z0 ?z1 ?z2 ?z3 ?z4 ?z5 ?z6 ?z7 ?z8 ?z9 ?z10 ?z11 ?z12 ?z13 ?z14 ?z15 ?xBa ?qVa ?qVp ?qVh ?qVo ?qVs ?qVm ?qVk ?qVn0 ?qVn1 ?qVn2 ?qVn3 ?qVn4 ?qVn5 ?iV0 ?jV0 ?lV0 ?cV0 ?kpV0 ?iV1 ?jV1 ?lV1 ?cV1 ?kpV1 ?iV2 ?jV2 ?lV2 ?cV2 ?kpV2 ?iV3 ?jV3 ?lV3 ?cV3 ?kpV3 ?iV6 ?jV6 ?lV6 ?cV6 ?kpV6 ?xLa ?xLl ?xL0 ?xL1 ?xL2 ?xLn ?xLk ?xLs ?xLt ?xL3 ?xL4 ?xL5 ?xL6 ?xL7 ?xLi ?xLf ?lm ?cm ?km ?y3 ?y4 ?y5 ?y6 ?y7
    (case a2 => first | k_is | rfl | kernel_rfl)
    (case l2 => first | k_is | rfl | kernel_rfl)
    (case c2 => first | k_is | rfl | kernel_rfl)
    (case k2 => first | k_is | rfl | kernel_rfl)
    (case a3 => first | k_is | rfl | kernel_rfl)
    (case l3 => first | k_is | rfl | kernel_rfl)
    (case c3 => first | k_is | rfl | kernel_rfl)
    (case k3 => first | k_is | rfl | kernel_rfl)
    (case a4 => first | k_is | rfl | kernel_rfl)
    (case l4 => first | k_is | rfl | kernel_rfl)
    (case c4 => first | k_is | rfl | kernel_rfl)
    (case k4 => first | k_is | rfl | kernel_rfl)
    (case a5 => first | k_is | rfl | kernel_rfl)
    (case l5 => first | k_is | rfl | kernel_rfl)
    (case c5 => first | k_is | rfl | kernel_rfl)
    (case k5 => first | k_is | rfl | kernel_rfl)
    (case a11 => first | k_is | rfl | kernel_rfl)
    (case l11 => first | k_is | rfl | kernel_rfl)
    (case c11 => first | k_is | rfl | kernel_rfl)
    (case k11 => first | k_is | rfl | kernel_rfl)
    (case a12 => first | k_is | rfl | kernel_rfl)
    (case l12 => first | k_is | rfl | kernel_rfl)
    (case c12 => first | k_is | rfl | kernel_rfl)
    (case k12 => first | k_is | rfl | kernel_rfl)
    (case a20 => first | k_is | rfl | kernel_rfl)
    (case l20 => first | k_is | rfl | kernel_rfl)
    (case c20 => first | k_is | rfl | kernel_rfl)
    (case k20 => first | k_is | rfl | kernel_rfl)
    (case a21 => first | k_is | rfl | kernel_rfl)
    (case l21 => first | k_is | rfl | kernel_rfl)
    (case c21 => first | k_is | rfl | kernel_rfl)
    (case k21 => first | k_is | rfl | kernel_rfl)
    (case a22 => first | k_is | rfl | kernel_rfl)
    (case l22 => first | k_is | rfl | kernel_rfl)
    (case c22 => first | k_is | rfl | kernel_rfl)
    (case k22 => first | k_is | rfl | kernel_rfl)
    (case a23 => first | k_is | rfl | kernel_rfl)
    (case l23 => first | k_is | rfl | kernel_rfl)
    (case c23 => first | k_is | rfl | kernel_rfl)
    (case k23 => first | k_is | rfl | kernel_rfl)
    (case a24 => first | k_is | rfl | kernel_rfl)
    (case l24 => first | k_is | rfl | kernel_rfl)
    (case c24 => first | k_is | rfl | kernel_rfl)
    (case k24 => first | k_is | rfl | kernel_rfl)
    (case a25 => first | k_is | rfl | kernel_rfl)
    (case l25 => first | k_is | rfl | kernel_rfl)
    (case c25 => first | k_is | rfl | kernel_rfl)
    (case k25 => first | k_is | rfl | kernel_rfl)
    (case a26 => first | k_is | rfl | kernel_rfl)
    (case l26 => first | k_is | rfl | kernel_rfl)
    (case c26 => first | k_is | rfl | kernel_rfl)
    (case k26 => first | k_is | rfl | kernel_rfl)
    (case a32 => first | k_is | rfl | kernel_rfl)
    (case l32 => first | k_is | rfl | kernel_rfl)
    (case c32 => first | k_is | rfl | kernel_rfl)
    (case k32 => first | k_is | rfl | kernel_rfl)
    (case a34 => first | k_is | rfl | kernel_rfl)
    (case l34 => first | k_is | rfl | kernel_rfl)
    (case c34 => first | k_is | rfl | kernel_rfl)
    (case k34 => first | k_is | rfl | kernel_rfl)
    (case a36 => first | k_is | rfl | kernel_rfl)
    (case l36 => first | k_is | rfl | kernel_rfl)
    (case c36 => first | k_is | rfl | kernel_rfl)
    (case k36 => first | k_is | rfl | kernel_rfl)
    (case a37 => first | k_is | rfl | kernel_rfl)
    (case l37 => first | k_is | rfl | kernel_rfl)
    (case c37 => first | k_is | rfl | kernel_rfl)
    (case k37 => first | k_is | rfl | kernel_rfl)
    (case a38 => first | k_is | rfl | kernel_rfl)
    (case l38 => first | k_is | rfl | kernel_rfl)
    (case c38 => first | k_is | rfl | kernel_rfl)
    (case k38 => first | k_is | rfl | kernel_rfl)
    (case a39 => first | k_is | rfl | kernel_rfl)
    (case l39 => first | k_is | rfl | kernel_rfl)
    (case c39 => first | k_is | rfl | kernel_rfl)
    (case k39 => first | k_is | rfl | kernel_rfl)
    (case a40 => first | k_is | rfl | kernel_rfl)
    (case l40 => first | k_is | rfl | kernel_rfl)
    (case c40 => first | k_is | rfl | kernel_rfl)
    (case k40 => first | k_is | rfl | kernel_rfl)
    (case a41 => first | k_is | rfl | kernel_rfl)
    (case l41 => first | k_is | rfl | kernel_rfl)
    (case c41 => first | k_is | rfl | kernel_rfl)
    (case k41 => first | k_is | rfl | kernel_rfl)
    (case a42 => first | k_is | rfl | kernel_rfl)
    (case l42 => first | k_is | rfl | kernel_rfl)
    (case c42 => first | k_is | rfl | kernel_rfl)
    (case k42 => first | k_is | rfl | kernel_rfl)
    (case a43 => first | k_is | rfl | kernel_rfl)
    (case l43 => first | k_is | rfl | kernel_rfl)
    (case c43 => first | k_is | rfl | kernel_rfl)
    (case k43 => first | k_is | rfl | kernel_rfl)
    (case a44 => first | k_is | rfl | kernel_rfl)
    (case l44 => first | k_is | rfl | kernel_rfl)
    (case c44 => first | k_is | rfl | kernel_rfl)
    (case k44 => first | k_is | rfl | kernel_rfl)
    (case a45 => first | k_is | rfl | kernel_rfl)
    (case l45 => first | k_is | rfl | kernel_rfl)
    (case c45 => first | k_is | rfl | kernel_rfl)
    (case k45 => first | k_is | rfl | kernel_rfl)
    (case a46 => first | k_is | rfl | kernel_rfl)
    (case l46 => first | k_is | rfl | kernel_rfl)
    (case c46 => first | k_is | rfl | kernel_rfl)
    (case k46 => first | k_is | rfl | kernel_rfl)
    (case a47 => first | k_is | rfl | kernel_rfl)
    (case l47 => first | k_is | rfl | kernel_rfl)
    (case c47 => first | k_is | rfl | kernel_rfl)
    (case k47 => first | k_is | rfl | kernel_rfl)
    (case a48 => first | k_is | rfl | kernel_rfl)
    (case l48 => first | k_is | rfl | kernel_rfl)
    (case c48 => first | k_is | rfl | kernel_rfl)
    (case k48 => first | k_is | rfl | kernel_rfl)
    (case a49 => first | k_is | rfl | kernel_rfl)
    (case l49 => first | k_is | rfl | kernel_rfl)
    (case c49 => first | k_is | rfl | kernel_rfl)
    (case k49 => first | k_is | rfl | kernel_rfl)
    (case a50 => first | k_is | rfl | kernel_rfl)
    (case l50 => first | k_is | rfl | kernel_rfl)
    (case c50 => first | k_is | rfl | kernel_rfl)
    (case k50 => first | k_is | rfl | kernel_rfl)
    (case a51 => first | k_is | rfl | kernel_rfl)
    (case l51 => first | k_is | rfl | kernel_rfl)
    (case c51 => first | k_is | rfl | kernel_rfl)
    (case k51 => first | k_is | rfl | kernel_rfl)
    (case a52 => first | k_is | rfl | kernel_rfl)
    (case l52 => first | k_is | rfl | kernel_rfl)
    (case c52 => first | k_is | rfl | kernel_rfl)
    (case k52 => first | k_is | rfl | kernel_rfl)
    (case a53 => first | k_is | rfl | kernel_rfl)
    (case l53 => first | k_is | rfl | kernel_rfl)
    (case c53 => first | k_is | rfl | kernel_rfl)
    (case k53 => first | k_is | rfl | kernel_rfl)
    (case a54 => first | k_is | rfl | kernel_rfl)
    (case l54 => first | k_is | rfl | kernel_rfl)
    (case c54 => first | k_is | rfl | kernel_rfl)
    (case k54 => first | k_is | rfl | kernel_rfl)
    (case a55 => first | k_is | rfl | kernel_rfl)
    (case l55 => first | k_is | rfl | kernel_rfl)
    (case c55 => first | k_is | rfl | kernel_rfl)
    (case k55 => first | k_is | rfl | kernel_rfl)
    (case a56 => first | k_is | rfl | kernel_rfl)
    (case l56 => first | k_is | rfl | kernel_rfl)
    (case c56 => first | k_is | rfl | kernel_rfl)
    (case k56 => first | k_is | rfl | kernel_rfl)
    (case a57 => first | k_is | rfl | kernel_rfl)
    (case l57 => first | k_is | rfl | kernel_rfl)
    (case c57 => first | k_is | rfl | kernel_rfl)
    (case k57 => first | k_is | rfl | kernel_rfl)
    (case a58 => first | k_is | rfl | kernel_rfl)
    (case l58 => first | k_is | rfl | kernel_rfl)
    (case c58 => first | k_is | rfl | kernel_rfl)
    (case k58 => first | k_is | rfl | kernel_rfl)
    (case a59 => first | k_is | rfl | kernel_rfl)
    (case l59 => first | k_is | rfl | kernel_rfl)
    (case c59 => first | k_is | rfl | kernel_rfl)
    (case k59 => first | k_is | rfl | kernel_rfl)
    (case a60 => first | k_is | rfl | kernel_rfl)
    (case l60 => first | k_is | rfl | kernel_rfl)
    (case c60 => first | k_is | rfl | kernel_rfl)
    (case k60 => first | k_is | rfl | kernel_rfl)
    (case n0 => first | k_is | rfl | kernel_rfl)
    (case n1 => first | k_is | rfl | kernel_rfl)
    (case n2 => first | k_is | rfl | kernel_rfl)
    (case n3 => first | k_is | rfl | kernel_rfl)
    (case n4 => first | k_is | rfl | kernel_rfl)
    (case n5 => first | k_is | rfl | kernel_rfl)
    (case z0 => first | k_is | rfl | kernel_rfl)
    (case z1 => first | k_is | rfl | kernel_rfl)
    (case z2 => first | k_is | rfl | kernel_rfl)
    (case z3 => first | k_is | rfl | kernel_rfl)
    (case z4 => first | k_is | rfl | kernel_rfl)
    (case z5 => first | k_is | rfl | kernel_rfl)
    (case z6 => first | k_is | rfl | kernel_rfl)
    (case z7 => first | k_is | rfl | kernel_rfl)
    (case z8 => first | k_is | rfl | kernel_rfl)
    (case z9 => first | k_is | rfl | kernel_rfl)
    (case z10 => first | k_is | rfl | kernel_rfl)
    (case z11 => first | k_is | rfl | kernel_rfl)
    (case z12 => first | k_is | rfl | kernel_rfl)
    (case z13 => first | k_is | rfl | kernel_rfl)
    (case z14 => first | k_is | rfl | kernel_rfl)
    (case z15 => first | k_is | rfl | kernel_rfl)
    (case xBa => first | k_is | rfl | kernel_rfl)
    (case qVa => first | k_is | rfl | kernel_rfl)
    (case qVp => first | k_is | rfl | kernel_rfl)
    (case qVh => first | k_is | rfl | kernel_rfl)
    (case qVo => first | k_is | rfl | kernel_rfl)
    (case qVs => first | k_is | rfl | kernel_rfl)
    (case qVm => first | k_is | rfl | kernel_rfl)
    (case qVk => first | k_is | rfl | kernel_rfl)
    (case qVn0 => first | k_is | rfl | kernel_rfl)
    (case qVn1 => first | k_is | rfl | kernel_rfl)
    (case qVn2 => first | k_is | rfl | kernel_rfl)
    (case qVn3 => first | k_is | rfl | kernel_rfl)
    (case qVn4 => first | k_is | rfl | kernel_rfl)
    (case qVn5 => first | k_is | rfl | kernel_rfl)
    (case iV0 => first | k_is | rfl | kernel_rfl)
    (case jV0 => first | k_is | rfl | kernel_rfl)
    (case lV0 => first | k_is | rfl | kernel_rfl)
    (case cV0 => first | k_is | rfl | kernel_rfl)
    (case kpV0 => first | k_is | rfl | kernel_rfl)
    (case iV1 => first | k_is | rfl | kernel_rfl)
    (case jV1 => first | k_is | rfl | kernel_rfl)
    (case lV1 => first | k_is | rfl | kernel_rfl)
    (case cV1 => first | k_is | rfl | kernel_rfl)
    (case kpV1 => first | k_is | rfl | kernel_rfl)
    (case iV2 => first | k_is | rfl | kernel_rfl)
    (case jV2 => first | k_is | rfl | kernel_rfl)
    (case lV2 => first | k_is | rfl | kernel_rfl)
    (case cV2 => first | k_is | rfl | kernel_rfl)
    (case kpV2 => first | k_is | rfl | kernel_rfl)
    (case iV3 => first | k_is | rfl | kernel_rfl)
    (case jV3 => first | k_is | rfl | kernel_rfl)
    (case lV3 => first | k_is | rfl | kernel_rfl)
    (case cV3 => first | k_is | rfl | kernel_rfl)
    (case kpV3 => first | k_is | rfl | kernel_rfl)
    (case iV6 => first | k_is | rfl | kernel_rfl)
    (case jV6 => first | k_is | rfl | kernel_rfl)
    (case lV6 => first | k_is | rfl | kernel_rfl)
    (case cV6 => first | k_is | rfl | kernel_rfl)
    (case kpV6 => first | k_is | rfl | kernel_rfl)
    (case xLa => first | k_is | rfl | kernel_rfl)
    (case xLl => first | k_is | rfl | kernel_rfl)
    (case xL0 => first | k_is | rfl | kernel_rfl)
    (case xL1 => first | k_is | rfl | kernel_rfl)
    (case xL2 => first | k_is | rfl | kernel_rfl)
    (case xLn => first | k_is | rfl | kernel_rfl)
    (case xLk => first | k_is | rfl | kernel_rfl)
    (case xLs => first | k_is | rfl | kernel_rfl)
    (case xLt => first | k_is | rfl | kernel_rfl)
    (case xL3 => first | k_is | rfl | kernel_rfl)
    (case xL4 => first | k_is | rfl | kernel_rfl)
    (case xL5 => first | k_is | rfl | kernel_rfl)
    (case xL6 => first | k_is | rfl | kernel_rfl)
    (case xL7 => first | k_is | rfl | kernel_rfl)
    (case xLi => first | k_is | rfl | kernel_rfl)
    (case xLf => first | k_is | rfl | kernel_rfl)
    (case lm => first | k_is | rfl | kernel_rfl)
    (case cm => first | k_is | rfl | kernel_rfl)
    (case km => first | k_is | rfl | kernel_rfl)
    (case y3 => first | k_is | rfl | kernel_rfl)
    (case y4 => first | k_is | rfl | kernel_rfl)
    (case y5 => first | k_is | rfl | kernel_rfl)
    (case y6 => first | k_is | rfl | kernel_rfl)
    (case y7 => first | k_is | rfl | kernel_rfl)

