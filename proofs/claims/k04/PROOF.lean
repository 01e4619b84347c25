import PyProof.Rows.All
import Wide.All
import OpenK.AllK
import Wide.FinOn
import PySem.Challenge.RW_waitbolts_k04_walked
import HandS.Evl
import HandS.Ends
import HandS.Words
import HandS.TupSets
import PyProof.ReprRoads
import PyProof.P3In
import KE.GoesEnum
import HandS.Walk
import HandS.Zip
import KE.GoesMore
import PyProof.EnumMake
import HandS.TupLe
import HandS.TupAny
import HandS.Deep
import HandS.DictComp
import HandS.IsInst
import HandS.RevRange
import HandS.Conv
import HandS.Style
import HandS.Wide
import HandS.WideMore
import HandS.Dict
import HandS.Comp
import HandS.Flow
import HandS.WordsList
import HandS.WordsDict
import HandS.Exc
import HandS.ExcOwn
import PyProof.DictFindH
import HandS.ExcInit
import HandS.WordsExc
import HandS.ExcField
import HandS.ExcIs
import HandS.ExcValue
import HandS.ExcBuiltin
set_option Elab.async false
set_option linter.all false
set_option maxRecDepth 100000
set_option maxHeartbeats 2000000
namespace Wb
open PySem PySem.Spec PyProof.Rows L2

/-! ### promises that know that no repr runs around them -/
structure FnG (P : Program) (w : World) (K : PySem.W.Frag) (mg : Str → Option Value) (base : Heap) (k : Nat) (f : Addr) (fd : FuncData) (ps : List Str) (sp : Sp) : Prop where
  len : ∀ vs H Q E, sp vs H Q E → vs.length = ps.length
  go : ∀ (A : Around) (outer : List Env) (s : Shared) (H : Hp) (args : Args) (us : List Value) (vs : List V) (Q : VK) (E : XK),
    A.guards = some [] → Room k A → Env0 P w K mg base A outer s H → BindsTo s fd args (ps.zip us) → Vals vs us → sp vs H Q E →
    codeAny (model P w) A (.call (.ref f) args) (CR CX0 outer P w H s Q E) s

section
variable {P : Program} {w : World} {K : PySem.W.Frag} {mg : Str → Option Value} {base : Heap}
theorem fnG_ok {x qual : Str} {st : Stmt} {f : Addr} {fd : FuncData} {N ps : List Str} {k : Nat} {sp : Sp} (F : Fun K x qual st f fd)
    (S : FnScope N ps (defScope st)) (len : ∀ vs H Q E, sp vs H Q E → vs.length = ps.length)
    (hbody : ∀ (cdv : Value) (A : Around) (outer : List Env) (s : Shared) (H : Hp) (vs : List V) (Q : VK) (E : XK), A.guards = some [] →
      Room k (A.deeper (envOfC qual (defScope st) s.heap.objs.size f cdv)) → sp vs H Q E →
      ∃ t, PSs (cxOf CX0 P w K mg base N qual (defScope st) f cdv A outer s H E).nox (defBody st) t ∧
        t { nx := fun _ H' => Q .non H', rt := Q } (start N vs) H) : FnG P w K mg base (k + 1) f fd ps sp := by
  obtain ⟨oc, od, kV, doc, pm, an, cdv, ct, osl, rfl, lk, hcd⟩ := F.ex
  refine ⟨len, ?_⟩
  intro A outer s H args us vs Q E hgd hr e0 hb r hsp
  have e1 : K.In s.heap := e0.mod.kin.keeps (fun b o e => (e0.bs b o e).1)
  have e2 : s.heap.NoLimit := e0.mod.nolimit.keeps (fun b o e => (e0.bs b o e).1)
  have kinds : ∀ y ∈ ps.zip us, (defScope st).names.lookup y.1 = some .local ∨
      ((defScope st).names.lookup y.1 = some .cell ∧ ((cellsFrom (s.heap.objs.size + 1) (defScope st).names []).lookup y.1).isSome = true) := by
    rintro ⟨n, v⟩ hy
    cases S.par n (List.of_mem_zip hy).1 with
    | inl q => exact .inl q
    | inr q => exact .inr ⟨q, PySem.W.cellsFrom_some _ _ _ (.inl q)⟩
  apply codeAny_call_function hr.depth (e1 _ _ lk) rfl S.co S.gen rfl (PySem.W.codeRec_of e1 hcd)
  apply hb
  apply wpAny_newFunctionEnv_cells S.kind kinds
  intro env he s1 x
  subst he
  refine ⟨e2.keeps x.toInCall.keep, codeAny_func ?_⟩
  obtain ⟨t, ht, hq⟩ := hbody cdv A outer s H vs Q E hgd (hr.deeper _) hsp
  have I := inv_start (CX := CX0) (P := P) (w := w) (qual := qual) (E := E) S hr.hd e0 (len _ _ _ _ hsp) r x
  apply wpAny_mono (ht.nox.run [] s1 (start N vs) H _ I hq)
  · intro fl s' hs
    cases fl
    case next =>
      obtain ⟨σ', H', J, q⟩ := hs
      exact ⟨V.non, H', J.os, J.bare, J.base, J.hok, rfl, q⟩
    case brk => obtain ⟨_, _, _, q⟩ := hs; exact q.elim
    case cont => obtain ⟨_, _, _, q⟩ := hs; exact q.elim
    case ret u =>
      obtain ⟨v, σ', H', J, rv, q⟩ := hs
      exact ⟨v, H', J.os, J.bare, J.base, J.hok, rv, q⟩
  · intro e s' hs
    exact hs
end

section
variable {X : Cx}
/-! ### repr of data -/
def rRepr (K : PySem.W.Frag) : List V → Hp → VK → Prop := fun xs H Q => ∃ (a : Addr) (d : PyData), xs = [.ref a] ∧ Dp K H (.ref a) d ∧ d.showable = true ∧ d.hasDict = false ∧ d.depth ≤ 20 ∧ d.shown.length ≤ sizeLine ∧ Q (.str d.shown) H
theorem call_repr_data (hu : X.A.units + 64 < cLine) (hg : X.A.guards = some []) : CallR X (.builtin "repr") (rRepr X.K) := by
  intro pins s σ H xs us Q I r h
  obtain ⟨a, d, rfl, hd, h1, h2, h3, h4, q⟩ := h
  cases r with
  | cons r1 r2 =>
    cases r2
    obtain ⟨as, rd⟩ := Dp.reads I d _ _ hd r1
    cases r1
    refine repr_of_reads' rd h1 (fun z => by rw [h2] at z; cases z) hg (by omega) (fun _ _ e => e) (fun h' u tk hk => ?_) h4
    exact ⟨.str d.shown, H, I.kept (t' := tk) hk, ⟨u, rfl⟩, q⟩
/-! ### x in a tuple of data -/
def rInTD (K : PySem.W.Frag) : R2 := fun x y H Q => ∃ d ds, Dp K H x d ∧ Dp K H y (.tuple ds) ∧ SeqAt.shaped d = true ∧ SeqAt.shaped (.tuple ds) = true ∧ Q (.bl (ds.any fun z => PyData.eqv z d)) H
theorem op_inTD (hu : X.A.units + 65 < cLine) : OpR X (compareOp .In) (rInTD X.K) := by
  intro pins s σ H x y v u Q I rx ry h
  obtain ⟨d, ds, hd, he, sd, se, q⟩ := h
  obtain ⟨as, r1⟩ := Dp.reads I d x v hd rx
  obtain ⟨bs, r2⟩ := Dp.reads I (.tuple ds) y u he ry
  have hdp := SeqAt.depth_of_shaped sd
  have hcl : PyData.canLayAll0 ds = true := by
    have z := SeqAt.canLay_of_shaped se
    simpa [PyData.canLay0] using z
  refine SeqAt.in_tuple_reads r2 r1 hcl (SeqAt.canLay_of_shaped sd) (by show X.A.units + 1 + min _ _ < cLine; omega) ⟨.bl _, H, I, rfl, q⟩
end
end Wb

set_option Elab.async false
set_option linter.all false
set_option maxRecDepth 100000
set_option maxHeartbeats 2000000
namespace Wb
open PySem PySem.Spec PyProof.Rows L2

/-! ### a list or a tuple that is read: l tells which -/
def SqX (K : PySem.W.Frag) (l : Bool) (H : Hp) (a : Addr) (xs : List V) : Prop := if l = true then SqL K H a xs else SqT K H a xs
def ItAt (l : Bool) (h : Heap) (it a : Addr) (i : Nat) : Prop := if l = true then h.IsListIter it a i else h.IsTupleIter it a i
def SqAt (l : Bool) (h : Heap) (a : Addr) (us : Array Value) : Prop := if l = true then h.IsList a us else h.IsTuple a us
def itObj (l : Bool) (a : Addr) : Obj := if l = true then { cls := .type "list_iterator", data := .fields #[.ref a, .int 0 0] } else { cls := .type "tuple_iterator", data := .fields #[.ref a, .int 0 0] }

theorem itObj_at (l : Bool) {h : Heap} {it a : Addr} (e : h.get? it = some (itObj l a)) : ItAt l h it a 0 := by
  cases l
  · exact ⟨_, e, rfl, rfl⟩
  · exact ⟨_, e, rfl, rfl⟩
theorem ItAt.obj {l : Bool} {h : Heap} {it a : Addr} {i : Nat} (x : ItAt l h it a i) : ∃ o, h.get? it = some o ∧ ∀ v, o.data ≠ .cell v := by
  cases l
  · obtain ⟨o, e, _, d⟩ := x
    exact ⟨o, e, fun v q => by rw [d] at q; cases q⟩
  · obtain ⟨o, e, _, d⟩ := x
    exact ⟨o, e, fun v q => by rw [d] at q; cases q⟩
theorem ItAt.keep {l : Bool} {h h' : Heap} {it a : Addr} {i : Nat} (x : ItAt l h it a i) (k : ∀ o, h.get? it = some o → h'.get? it = some o) : ItAt l h' it a i := by
  cases l
  · exact Heap.IsTupleIter.at x k
  · exact Heap.IsListIter.at x k
theorem draws_at {prog : Program} {w : World} {A : Around} (hh : A.handled = none) (l : Bool) (it a : Addr) (hne : a ≠ it) (us : Array Value) :
    Draws prog w A it [it, a] us.size (fun i v => us[i]? = some v) (fun i h => ItAt l h it a i ∧ SqAt l h a us) := by
  cases l
  · exact Draws.tuple hh it a hne us
  · exact Draws.list hh it a hne us
theorem begins_at (l : Bool) (a : Addr) (us : Array Value) : Begins (.ref a) (itObj l a) (fun h => SqAt l h a us) := by
  cases l
  · exact begins_tuple a us
  · exact begins_list a us
section
variable {X : Cx} {pins : List (Addr × Obj)} {σ : L2.St} {H : Hp} {s : Shared}
theorem sqx_vals (I : Inv X pins σ H s) {l : Bool} {a : Addr} {xs : List V} (h : SqX X.K l H a xs) : ∃ us : List Value, Vals xs us ∧ SqAt l s.heap a us.toArray ∧ a < s.heap.objs.size := by
  cases l
  · obtain ⟨us, r, p, _⟩ := I.tuple (a := a) (xs := xs) h
    have p' : s.heap.IsTuple a us.toArray := p
    obtain ⟨o, e, _⟩ := p
    exact ⟨us, r, p', Heap.lt_size e⟩
  · obtain ⟨us, r, p, _⟩ := I.list (a := a) (xs := xs) h
    exact ⟨us, r, p.isList, p.lt⟩
theorem sqx_one (I : Inv X pins σ H s) {l : Bool} {a : Addr} {xs ys : List V} (h : SqX X.K l H a xs) (h' : SqX X.K l H a ys) : xs = ys := by
  cases l
  · exact I.tuple_inj (a := a) h h'
  · exact I.list_inj (a := a) h h'
end

/-! ### zip over any two of them -/
def Itzx (K : PySem.W.Frag) (l m : Bool) (a b : Addr) : It :=
  ⟨fun i H => ∃ (xs ys : List V) (x y : V), SqX K l H a xs ∧ SqX K m H b ys ∧ xs[i]? = some x ∧ ys[i]? = some y,
   fun i H v H' => ∃ T x y, v = .ref T ∧ H T = none ∧ H' = upd H T (.tup [x, y]) ∧ (∀ xs, SqX K l H a xs → xs[i]? = some x) ∧ ∀ ys, SqX K m H b ys → ys[i]? = some y,
   fun i H => ∃ xs ys : List V, SqX K l H a xs ∧ SqX K m H b ys ∧ (i = xs.length ∧ i ≤ ys.length ∨ i = ys.length ∧ i ≤ xs.length)⟩
structure Apart5 (z TI TO i1 i2 a b : Addr) : Prop where
  sep : ZipSep2 z TI TO i1 i2 [i1, a] [i2, b]
  n1 : a ≠ i1
  n2 : b ≠ i2
theorem turn_zx {P : Program} {w : World} {K : PySem.W.Frag} {elts : List Expr} {kk : Nat} {tpos : Pos} {a b z TI TO i1 i2 : Addr} {l m : Bool} (D : Apart5 z TI TO i1 i2 a b) :
    Turn P w K (.Tuple elts kk tpos) (Itzx K l m a b) [z, TI, TO, i1, i2] z
      (fun i h => IsZip h z TI TO .none ∧ IsTupOf2 h TI (.ref i1) (.ref i2) ∧ (∃ x y, IsTupOf2 h TO x y) ∧ ItAt l h i1 a i ∧ ItAt m h i2 b i) where
  mem := by simp
  obj := by
    rintro i h ⟨q1, q2, ⟨x, y, q3⟩, q4, q5⟩ c hc
    simp only [List.mem_cons, List.not_mem_nil, or_false] at hc
    rcases hc with rfl | rfl | rfl | rfl | rfl
    · exact ⟨_, q1, fun v q => nomatch q⟩
    · exact ⟨_, q2, fun v q => nomatch q⟩
    · exact ⟨_, q3, fun v q => nomatch q⟩
    · exact q4.obj
    · exact q5.obj
  keep := by
    rintro i h h' ⟨q1, q2, ⟨x, y, q3⟩, q4, q5⟩ k
    exact ⟨k _ (by simp) _ q1, k _ (by simp) _ q2, ⟨x, y, k _ (by simp) _ q3⟩, q4.keep (k i1 (by simp)), q5.keep (k i2 (by simp))⟩
  item := by
    intro X hP hw hK hc i pins s σ H E I hf st hg
    subst hP hw hK
    obtain ⟨q1, q2, ⟨x0, y0, q3⟩, q4, q5⟩ := st
    obtain ⟨xs, ys, x, y, hx, hy, ex, ey⟩ := hg
    obtain ⟨us, r1, p1, lt1⟩ := sqx_vals I hx
    obtain ⟨vs, r2, p2, lt2⟩ := sqx_vals I hy
    obtain ⟨u, hu, ru⟩ := r1.get ex
    obtain ⟨v, hv, rv⟩ := r2.get ey
    have hh : X.A.in1.handled = none := I.ok.hd hc
    have g1 := draws_at (prog := X.prog) (w := X.w) hh l i1 a D.n1 us.toArray
    have g2 := draws_at (prog := X.prog) (w := X.w) hh m i2 b D.n2 vs.toArray
    have b1 : i < us.toArray.size := by
      have := (List.getElem?_eq_some_iff.mp hu).1
      simpa using this
    have b2 : i < vs.toArray.size := by
      have := (List.getElem?_eq_some_iff.mp hv).1
      simpa using this
    have zl : z < s.heap.objs.size := Heap.lt_size q1
    refine wpAny_pyNext_zipD2_item D.sep g1 g2 q1 q2 q3 ⟨q4, p1⟩ ⟨q5, p2⟩ b1 b2 ?_
    intro u' v' h' tk eu ev z' TO' t1 t2 hT hsz hk
    have eu' : u' = u := by
      have e : us[i]? = some u' := by simpa using eu
      exact Option.some.inj (e.symm.trans hu)
    have ev' : v' = v := by
      have e : vs[i]? = some v' := by simpa using ev
      exact Option.some.inj (e.symm.trans hv)
    subst eu'
    subst ev'
    refine ⟨_, rfl, wpAny_letOwnedTupleGo_zip (s := { s with heap := h', toks := tk }) z' ?_⟩
    intro h2 z2 sb
    have keepT : h2.get? s.heap.objs.size = some { cls := .type "tuple", data := .seq #[u', v'] } := (sb.2 _ (Nat.ne_of_gt zl)).trans hT
    have all : ∀ c o, c ∉ [z, TI, TO, i1, i2] → s.heap.get? c = some o → h2.get? c = some o := by
      intro c o hc e
      simp only [List.mem_cons, List.not_mem_nil, or_false, not_or] at hc
      exact (sb.2 c hc.1).trans (hk c o hc.1 hc.2.2.1 hc.2.2.2.1 hc.2.2.2.2 e)
    have new : ObjOk X.prog X.w (upd H s.heap.objs.size (.tup [x, y])) h2 s.heap.objs.size (.tup [x, y]) :=
      ⟨(by decide : 2 ≤ sizeLine), [u', v'], Paired.cons ru (Paired.cons rv Paired.nil), ⟨_, keepT, rfl, _, rfl⟩⟩
    have J := I.turnedNew (t' := tk) all hf (Nat.le_refl _) new
    refine ⟨.ref s.heap.objs.size, _, J, rfl, ⟨_, x, y, rfl, I.hok.fresh (Nat.le_refl _), rfl, fun xs' h1 => ?_, fun ys' h1 => ?_⟩, ⟨z2, ?_, ⟨u', v', ?_⟩, ?_, ?_⟩, fun c hc => ?_⟩
    · rw [sqx_one I h1 hx]; exact ex
    · rw [sqx_one I h1 hy]; exact ey
    · exact (sb.2 _ D.sep.TIz).trans (hk _ _ D.sep.TIz D.sep.TITO D.sep.TIi1 D.sep.TIi2 q2)
    · exact (sb.2 _ D.sep.TOz).trans TO'
    · exact t1.1.keep fun o e => (sb.2 _ (Ne.symm D.sep.zi1)).trans e
    · exact t2.1.keep fun o e => (sb.2 _ (Ne.symm D.sep.zi2)).trans e
    · have hlt : c < s.heap.objs.size := by
        simp only [List.mem_cons, List.not_mem_nil, or_false] at hc
        rcases hc with rfl | rfl | rfl | rfl | rfl
        · exact zl
        · exact Heap.lt_size q2
        · exact Heap.lt_size q3
        · obtain ⟨o, e, _⟩ := q4.obj; exact Heap.lt_size e
        · obtain ⟨o, e, _⟩ := q5.obj; exact Heap.lt_size e
      rw [upd_ne (Nat.ne_of_lt hlt)]
      exact (hf c hc).1
  done := by
    intro X hP hw hK hc i pins s σ H E I hf st hg
    subst hP hw hK
    obtain ⟨q1, q2, ⟨x0, y0, q3⟩, q4, q5⟩ := st
    obtain ⟨xs, ys, hx, hy, he⟩ := hg
    obtain ⟨us, r1, p1, lt1⟩ := sqx_vals I hx
    obtain ⟨vs, r2, p2, lt2⟩ := sqx_vals I hy
    have hh : X.A.in1.handled = none := I.ok.hd hc
    have g1 := draws_at (prog := X.prog) (w := X.w) hh l i1 a D.n1 us.toArray
    have g2 := draws_at (prog := X.prog) (w := X.w) hh m i2 b D.n2 vs.toArray
    have e1 : us.toArray.size = xs.length := by rw [List.size_toArray, r1.length]
    have e2 : vs.toArray.size = ys.length := by rw [List.size_toArray, r2.length]
    refine wpAny_pyNext_zipD2_end D.sep g1 g2 q1 q2 q3 ⟨q4, p1⟩ ⟨q5, p2⟩ (by omega) (by omega) (by omega) ?_
    intro h' tk hk
    refine ⟨rfl, I.turnedL (t' := tk) (ch := [z, TI, TO, i1, i2]) (fun c o hc e => ?_) hf⟩
    simp only [List.mem_cons, List.not_mem_nil, or_false, not_or] at hc
    exact hk c o hc.1 hc.2.2.1 hc.2.2.2.1 hc.2.2.2.2 e
  self := fun A i s Q E st h => wpAny_pyIter_zip st.1 h

def iZipX (K : PySem.W.Frag) (ta : TA) : TI := fun σ H R => ta σ H fun vs H1 => ∃ l m a b xs ys, vs = [.ref a, .ref b] ∧ SqX K l H1 a xs ∧ SqX K m H1 b ys ∧ R (Itzx K l m a b) H1
theorem pi_zipX {X : Cx} {e e2 : Expr} {ta : TA} {p pos tpos : Pos} {elts : List Expr} {kk : Nat} (hg : Gl X "zip") (hm : X.mg "zip" = none) (ha : PA X [e, e2] ta)
    (hs : starEach [e, e2] X.env = (false, eval e X.env) :: starEach [e2] X.env := by rfl) (hpl : (backTo pos (starEach [e2] X.env)).any (·.1) = false := by rfl) :
    PI X (.Tuple elts kk tpos) (.Call (.Name "zip" p) [e, e2] [] pos) (iZipX X.K ta) := by
  constructor
  intro pins s σ H R I h
  refine Call_ (ld_blt I hg hm PyProof.Rows.boot_zip (PyProof.Rows.callWith_type1 (thn (ha.run pos pins s σ H _ I h) ?_) hs hpl))
  rintro us s1 ⟨vs, H1, I1, r1, l, m, a, b, xs, ys, rfl, hx, hy, q⟩
  obtain ⟨us1, w1, p1, lt1⟩ := sqx_vals I1 hx
  obtain ⟨us2, w2, p2, lt2⟩ := sqx_vals I1 hy
  rcases r1 with _ | ⟨ra, r1⟩
  rcases r1 with _ | ⟨rb, r1⟩
  cases r1
  cases ra
  cases rb
  refine zip_begins2 (begins_at l a us1.toArray) (begins_at m b us2.toArray) p1 p2 ?_
  intro h' hz hTI hTO h1 h2 hsz hk
  refine wpAny_pyIter_zip hz ?_
  have I2 : Inv X pins σ H1 { s1 with heap := h' } := I1.kept (t' := s1.toks) hk
  have D : Apart5 (s1.heap.objs.size + 4) (s1.heap.objs.size + 2) (s1.heap.objs.size + 3) s1.heap.objs.size (s1.heap.objs.size + 1) a b :=
    ⟨zip_sep2 (N := s1.heap.objs.size) (fp1 := [a]) (fp2 := [b]) (by simpa using lt1) (by simpa using lt2), Nat.ne_of_lt lt1, Nat.ne_of_lt (Nat.lt_succ_of_lt lt2)⟩
  refine ⟨s1.heap.objs.size + 4, [s1.heap.objs.size + 4, s1.heap.objs.size + 2, s1.heap.objs.size + 3, s1.heap.objs.size, s1.heap.objs.size + 1], _, _, H1, rfl, I2, turn_zx D, ⟨hz, hTI, ⟨_, _, hTO⟩, itObj_at l h1, itObj_at m h2⟩, ?_, q⟩
  intro c hc
  have hle : s1.heap.objs.size ≤ c := by
    simp only [List.mem_cons, List.not_mem_nil, or_false] at hc
    rcases hc with rfl | rfl | rfl | rfl | rfl
    · exact Nat.le_add_right _ _
    · exact Nat.le_add_right _ _
    · exact Nat.le_add_right _ _
    · exact Nat.le_refl _
    · exact Nat.le_add_right _ _
  exact I1.fpOk hle (I1.hok.fresh hle)
theorem walk_zx {K : PySem.W.Frag} {l m : Bool} {a b : Addr} {xs ys : List V} (hl : xs.length = ys.length) :
    Walk (Itzx K l m a b) xs.length (fun H => SqX K l H a xs ∧ SqX K m H b ys) (YPair (fun i => xs[i]?) (fun i => ys[i]?)) := by
  refine ⟨fun i H hi q => ?_, fun H q => ⟨xs, ys, q.1, q.2, .inl ⟨rfl, by omega⟩⟩, fun i H v H' hi q y => ?_⟩
  · have h2 : i < ys.length := by omega
    exact ⟨xs, ys, xs[i], ys[i], q.1, q.2, by simp [hi], by simp [h2]⟩
  · obtain ⟨T, x, z, h1, h2, h3, h4, h5⟩ := y
    exact ⟨T, x, z, h1, h2, h3, h4 xs q.1, h5 ys q.2⟩

/-! ### enumerate over either -/
def Itex (K : PySem.W.Frag) (l : Bool) (a : Addr) : It :=
  ⟨fun i H => ∃ (xs : List V) (x : V), SqX K l H a xs ∧ xs[i]? = some x,
   fun i H v H' => ∃ T x, v = .ref T ∧ H T = none ∧ H' = upd H T (.tup [.int (i : Nat), x]) ∧ ∀ xs, SqX K l H a xs → xs[i]? = some x,
   fun i H => ∃ xs : List V, SqX K l H a xs ∧ i = xs.length⟩
end Wb

set_option Elab.async false
set_option linter.all false
set_option maxRecDepth 100000
set_option maxHeartbeats 2000000
namespace Wb
open PySem PySem.Spec PyProof.Rows L2
open AutoSeq1 (wpAny_loadPart')

theorem meets_enumT (a : Addr) (us : Array Value) (n : Nat) (dct : Option Addr) (sl : Array (Option Value)) :
    Meets (Builtin.«enumerate.__new__» ⟨[.type "enumerate", .ref a], []⟩) (fun _ R s => s.heap.get? a = some { cls := .type "tuple", dict := dct, data := .seq us n, slots := sl } ∧
      R (.ok (.ret (.ref (s.heap.push (itObj false a)).objs.size)))
        { s with heap := (s.heap.push (itObj false a)).push { cls := .type "enumerate", data := .fields #[.none, .bool false, .ref s.heap.objs.size, rawInt 0, .none, .none] } }) := by
  apply Meets.of_wp
  intro prog w A R s h
  obtain ⟨hp, g, d, tk, os⟩ := s
  obtain ⟨hl, h⟩ := h
  have hsub := sub_enumerate
  have hT : Heap.IsTuple (Shared.heap ⟨hp, g, d, tk, os⟩) a us := ⟨_, hl, rfl, n, rfl⟩
  wp_walk using wpAny_loadPart' hl
  apply wpAny_stack_any
  intro st
  apply wpAny_pure
  split
  · rename_i c _ _ _ _ _
    cases (c == Value.type "enumerate") <;> wp_walk using wpAny_loadPart' hl, wpAny_pyIter_tuple hT
    · exact ⟨_, rfl, h⟩
    · exact ⟨_, rfl, h⟩
  · wp_walk using wpAny_loadPart' hl, wpAny_pyIter_tuple hT
    exact ⟨_, rfl, h⟩
theorem call_enumT {prog : Program} {w : World} {A : Around} {E : Value → Shared → Prop} {s : Shared} {a : Addr} {us : Array Value} {Q : Value → Shared → Prop} (hT : s.heap.IsTuple a us)
    (h : ∀ h', IsEnum h' (s.heap.objs.size + 1) s.heap.objs.size 0 .none → ItAt false h' s.heap.objs.size a 0 → (∀ b o, s.heap.get? b = some o → h'.get? b = some o) → Q (.ref (s.heap.objs.size + 1)) { s with heap := h' }) :
    wpAny (model prog w) A (call (.type "enumerate") [.ref a]) Q E s := by
  obtain ⟨⟨c, dct, dt, sl⟩, hl, hc, n, hd⟩ := hT
  have hc' : c = .type "tuple" := hc
  have hd' : dt = .seq us n := hd
  subst hc' hd'
  refine callType_new F.called_enumerate (by decide) (F.typeCall_enumerate_1 _) (F.newCall_enumerate_1 _) (fun obj => F.args_object_init_2 obj _) F.entry_enumerate_new (meets_enumT a us n dct sl) ⟨hl, ?_⟩
  have sz : (s.heap.push (itObj false a)).objs.size = s.heap.objs.size + 1 := Heap.size_push ..
  have e0 := Heap.get?_push_size (s.heap.push (itObj false a)) (o := { cls := .type "enumerate", data := .fields #[.none, .bool false, .ref s.heap.objs.size, rawInt 0, .none, .none] }) rfl
  rw [sz] at e0
  show _ ∧ _
  rw [sz]
  exact ⟨⟨_, e0, rfl⟩, h _ e0 (itObj_at false (Heap.get?_push_of_some _ (Heap.get?_push_size _ rfl))) fun b o x => Heap.get?_push_of_some _ (Heap.get?_push_of_some _ x)⟩

/-- the tuple at a, item by item, each in a new pair with its number -/
def Itet (K : PySem.W.Frag) (a : Addr) : It :=
  ⟨fun i H => ∃ (xs : List V) (x : V), SqT K H a xs ∧ xs[i]? = some x,
   fun i H v H' => ∃ T x, v = .ref T ∧ H T = none ∧ H' = upd H T (.tup [.int (i : Nat), x]) ∧ ∀ xs, SqT K H a xs → xs[i]? = some x,
   fun i H => ∃ xs : List V, SqT K H a xs ∧ i = xs.length⟩
theorem turn_et {P : Program} {w : World} {K : PySem.W.Frag} {elts : List Expr} {kk : Nat} {tpos : Pos} (a e it : Addr) (hne : e ≠ it) (hea : e ≠ a) (hia : a ≠ it) :
    Turn P w K (.Tuple elts kk tpos) (Itet K a) [e, it] e (fun i h => (∃ old, IsEnum h e it ((i : Nat) : Int) old) ∧ ItAt false h it a i) where
  mem := by simp
  obj := by
    rintro i h ⟨⟨old, q1⟩, q2⟩ b hb
    simp only [List.mem_cons, List.not_mem_nil, or_false] at hb
    rcases hb with rfl | rfl
    · exact ⟨_, q1, fun v q => nomatch q⟩
    · exact q2.obj
  keep := by
    rintro i h h' ⟨⟨old, q1⟩, q2⟩ k
    exact ⟨⟨old, k _ (by simp) _ q1⟩, q2.keep (k it (by simp))⟩
  item := by
    intro X hP hw hK hc i pins s σ H E I hf st hg
    subst hP hw hK
    obtain ⟨⟨old, q1⟩, q2⟩ := st
    obtain ⟨xs, x, hx, ex⟩ := hg
    obtain ⟨us, r1, p1, lt1⟩ := sqx_vals (l := false) I hx
    obtain ⟨u, hu, ru⟩ := r1.get ex
    have hh : X.A.in1.handled = none := I.ok.hd hc
    have g1 := draws_at (prog := X.prog) (w := X.w) hh false it a hia us.toArray
    have b1 : i < us.toArray.size := by
      have := (List.getElem?_eq_some_iff.mp hu).1
      simpa using this
    have el : e < s.heap.objs.size := Heap.lt_size q1
    have il : it < s.heap.objs.size := by obtain ⟨o, z, _⟩ := q2.obj; exact Heap.lt_size z
    refine wpAny_pyNext_enum_itemC g1 q1 ⟨q2, p1⟩ b1 hne (by simp [hne, hea]) ?_
    intro u' h' tk eu ho t1 hT hsz hk
    have eu' : u' = u := by
      have z : us[i]? = some u' := by simpa using eu
      exact Option.some.inj (z.symm.trans hu)
    subst eu'
    refine ⟨_, rfl, wpAny_letOwnedTupleGo_enum (s := { s with heap := h', toks := tk + 1 }) ho ?_⟩
    intro h2 he' sb
    have keepT := (sb.2 _ (Nat.ne_of_gt el)).trans hT
    have all : ∀ c o, c ∉ [e, it] → s.heap.get? c = some o → h2.get? c = some o := by
      intro c o hc z
      simp only [List.mem_cons, List.not_mem_nil, or_false, not_or] at hc
      exact (sb.2 c hc.1).trans (hk c o hc.1 hc.2 z)
    have new : ObjOk X.prog X.w (upd H s.heap.objs.size (.tup [.int (i : Nat), x])) h2 s.heap.objs.size (.tup [.int (i : Nat), x]) :=
      ⟨(by decide : 2 ≤ sizeLine), [.int i tk, u'], Paired.cons ⟨_, rfl⟩ (Paired.cons ru Paired.nil), ⟨_, keepT, rfl, _, rfl⟩⟩
    have J := I.turnedNew (t' := tk + 1) all hf (Nat.le_refl _) new
    refine ⟨.ref s.heap.objs.size, _, J, rfl, ⟨_, x, rfl, I.hok.fresh (Nat.le_refl _), rfl, fun xs' h1 => ?_⟩, ⟨⟨u', ?_⟩, ?_⟩, fun c hc => ?_⟩
    · rw [sqx_one (l := false) I h1 hx]; exact ex
    · have z : ((i + 1 : Nat) : Int) = (i : Int) + 1 := by omega
      rw [z]
      exact he'
    · exact t1.1.keep fun o z => (sb.2 _ (Ne.symm hne)).trans z
    · have hlt : c < s.heap.objs.size := by
        simp only [List.mem_cons, List.not_mem_nil, or_false] at hc
        rcases hc with rfl | rfl
        · exact el
        · exact il
      rw [upd_ne (Nat.ne_of_lt hlt)]
      exact (hf c hc).1
  done := by
    intro X hP hw hK hc i pins s σ H E I hf st hg
    subst hP hw hK
    obtain ⟨⟨old, q1⟩, q2⟩ := st
    obtain ⟨xs, hx, he⟩ := hg
    obtain ⟨us, r1, p1, lt1⟩ := sqx_vals (l := false) I hx
    have hh : X.A.in1.handled = none := I.ok.hd hc
    have g1 := draws_at (prog := X.prog) (w := X.w) hh false it a hia us.toArray
    have e1 : us.toArray.size = i := by rw [List.size_toArray, ← r1.length, he]
    refine wpAny_pyNext_enum_endD g1 q1 (by rw [e1]; exact ⟨q2, p1⟩) ?_
    intro h' eb
    obtain ⟨f0, f1, f2, f3, f4, f5⟩ := hf it (by simp)
    exact ⟨rfl, I.turned (t' := s.toks) (fun b o hb q => eb b o hb q) f0 f1 f3 f4 f5⟩
  self := by
    rintro A i s Q E ⟨⟨old, q1⟩, _⟩ h
    exact wpAny_pyIter_enum q1 h
def iEnumT (K : PySem.W.Frag) (ta : TA) : TI := fun σ H R => ta σ H fun vs H1 => ∃ a xs, vs = [.ref a] ∧ SqT K H1 a xs ∧ R (Itet K a) H1
theorem pi_enumT {X : Cx} {e : Expr} {ta : TA} {p pos tpos : Pos} {elts : List Expr} {kk : Nat} (hg : Gl X "enumerate") (hm : X.mg "enumerate" = none) (ha : PA X [e] ta)
    (hs : starEach [e] X.env = [(false, eval e X.env)] := by rfl) : PI X (.Tuple elts kk tpos) (.Call (.Name "enumerate" p) [e] [] pos) (iEnumT X.K ta) := by
  constructor
  intro pins s σ H R I h
  refine Call_ (ld_blt I hg hm boot_enumerate (PyProof.Rows.callWith_type1 (thn (ha.run pos pins s σ H _ I h) ?_) hs rfl))
  rintro us s1 ⟨vs, H1, I1, r1, a, xs, rfl, hx, q⟩
  obtain ⟨us1, w1, p1, lt1⟩ := sqx_vals (l := false) I1 hx
  rcases r1 with _ | ⟨ra, r1⟩
  cases r1
  cases ra
  refine call_enumT p1 ?_
  intro h' he hit hk
  refine wpAny_pyIter_enum he ?_
  have I2 : Inv X pins σ H1 { s1 with heap := h' } := I1.kept (t' := s1.toks) hk
  refine ⟨s1.heap.objs.size + 1, [s1.heap.objs.size + 1, s1.heap.objs.size], _, _, H1, rfl, I2, turn_et a _ _ (Nat.succ_ne_self _) (Nat.ne_of_gt (Nat.lt_succ_of_lt lt1)) (Nat.ne_of_lt lt1), ⟨⟨.none, he⟩, hit⟩, ?_, q⟩
  intro c hc
  have hle : s1.heap.objs.size ≤ c := by
    simp only [List.mem_cons, List.not_mem_nil, or_false] at hc
    rcases hc with rfl | rfl
    · exact Nat.le_add_right _ _
    · exact Nat.le_refl _
  exact I1.fpOk hle (I1.hok.fresh hle)
theorem walk_et {K : PySem.W.Frag} {a : Addr} {xs : List V} : Walk (Itet K a) xs.length (fun H => SqT K H a xs) (YPair (fun i => some (.int (i : Nat))) (fun i => xs[i]?)) := by
  refine ⟨fun i H hi q => ⟨xs, xs[i], q, by simp [hi]⟩, fun H q => ⟨xs, q, rfl⟩, fun i H v H' hi q y => ?_⟩
  obtain ⟨T, x, h1, h2, h3, h4⟩ := y
  exact ⟨T, .int (i : Nat), x, h1, h2, h3, rfl, h4 xs q⟩
end Wb

set_option Elab.async false
set_option linter.all false
set_option maxRecDepth 100000
set_option maxHeartbeats 2000000
namespace L2
open PySem PySem.Spec PyProof.Rows
section
variable {P : Program} {w : World} {A : Around} {E : Value → Shared → Prop} {s : Shared}
/-- sorted of a set of one tuple, whatever its length -/
theorem sorted_lone {a : Addr} {q : Addr × List Int} {es : Array (Int × Value)} {ep : Nat} {t : SetTable} {Q : Value → Shared → Prop} (R : SetTR P w s.heap a [q] es ep t) (hh : A.handled = none)
    (hQ : ∀ (s' : Shared) (p : Addr) (c : Nat), (∀ b o, s.heap.get? b = some o → s'.heap.get? b = some o) → s'.gens = s.gens → s'.os = s.os → s.heap.objs.size ≤ p →
      s'.heap.get? p = some (seqObj "list" #[.ref q.1] c) → Q (.ref p) s') : wpAny (model P w) A (call (.builtin "sorted") [.ref a]) Q E s := by
  obtain ⟨o, ho, hex, hd⟩ := R.ob
  have sz1 := R.size
  apply Calls.call_function_entry kind_sorted plain_sorted entry_sorted (args_sorted1 _)
  unfold Builtin.«sorted»
  apply wpAny_bind (m := checkCount "sorted" 1 1 _)
  apply wpAny_pure
  apply wpAny_bind
  apply collect_set (A := A.in1) hh ⟨o, ho, hex.1, hd⟩ R.fits (by unfold scanBound; simp at sz1; omega) R.tab.ris R.led
  intro s1 vs k1 hz g1 o1 pm
  have rows1 : es.toList.map (·.2) = [Value.ref q.1] := by
    rw [R.rows]
    rfl
  rw [rows1] at pm
  have evs : vs = [Value.ref q.1] := List.perm_singleton.mp pm
  subst evs
  apply wpAny_bind
  refine wpAny_newList ?_ (show 1 ≤ sizeLine by decide)
  have hoL : (s1.heap.push (seqObj "list" #[Value.ref q.1] 0)).get? s1.heap.objs.size = some (seqObj "list" [Value.ref q.1].toArray 0) := Heap.get?_push_size _ rfl
  apply wpAny_bind
  apply wpAny_holding
  refine wpAny_call_entry (s := { s1 with heap := s1.heap.push (seqObj "list" #[Value.ref q.1] 0) }) slot_list_sort (self := .ref s1.heap.objs.size) ⟨_, hoL, rfl⟩ entry_list_sort ?_ (args_list_sort _)
  refine SK.plain_sort (r := fun _ => 0) hoL (show 1 < 64 by decide) (fun h2 => absurd (show 2 ≤ 1 from h2) (by decide)) ?_
  intro ps out h1 h2 h3
  have eout : out.toList = [Value.ref q.1] := by
    rw [h1]
    have z := h2.map Prod.snd
    exact List.perm_singleton.mp z
  obtain ⟨c, hc⟩ := sortedHeap_at (vs := [Value.ref q.1]) (out := out) hoL
  have eo2 : out = #[Value.ref q.1] := by
    have z := congrArg List.toArray eout
    simpa using z
  subst eo2
  refine ⟨_, rfl, wpAny_pure ⟨_, rfl, hQ _ s1.heap.objs.size c (fun b u e => ?_) g1 o1 hz hc⟩⟩
  have e1 := k1 b u e
  have lt1 := Heap.lt_size e1
  show (sortedHeap (s1.heap.push (seqObj "list" #[Value.ref q.1] 0)) s1.heap.objs.size [Value.ref q.1] #[Value.ref q.1]).get? b = some u
  rw [sortedHeap_old (Nat.ne_of_lt lt1) (by rw [size_push']; exact Nat.lt_succ_of_lt lt1)]
  exact Heap.get?_push_of_some _ e1
end
section
variable {X : Cx}
/-- sorted(set) of tuples of as many ints each -/
def rSortedW (K : PySem.W.Frag) (P : Program) (w : World) : List V → Hp → VK → Prop := fun vs H Q => ∃ (a : Addr) (L : List (Addr × List Int)) (d : Nat) (B : Int), vs = [V.ref a] ∧ H a = some (SetTO P w a L) ∧
  (∀ p ∈ L, SqT K H p.1 (p.2.map V.int)) ∧ (∀ p ∈ L, p.2.length = d ∧ TS.Bd B p.2) ∧ L ≠ [] ∧
  ∀ (L' : List (Addr × List Int)) (p : Addr), L'.Perm L → (L'.map (·.2)).Nodup → L'.length < 64 → L'.Pairwise (fun q r => TS.code B q.2 ≤ TS.code B r.2) → H p = none → Q (.ref p) (upd H p (.lst (L'.map fun q => V.ref q.1)))
theorem cr_sortedW (hc : X.calm = true) : CallR X (.builtin "sorted") (rSortedW X.K X.prog X.w) := by
  intro pins s σ H vs us Q I r h
  obtain ⟨a, L, d, B, e1, ha, hk, hB, hne, q⟩ := h
  by_cases hd : 1 ≤ d
  · exact cr_sortedT hc pins s σ H vs us Q I r ⟨a, L, d, B, e1, ha, hk, hd, hB, q⟩
  · subst e1
    have R0 : SetT0 X.prog X.w s.heap a L := (I.hok a _ ha).1
    obtain ⟨es, ep, t, R⟩ := R0.full fun p hp => I.isT (hk p hp)
    have emp : ∀ p ∈ L, p.2 = [] := fun p hp => List.eq_nil_of_length_eq_zero (by have := (hB p hp).1; omega)
    obtain ⟨p0, rfl⟩ : ∃ p0, L = [p0] := by
      cases L with
      | nil => exact absurd rfl hne
      | cons p0 L1 =>
        cases L1 with
        | nil => exact ⟨p0, rfl⟩
        | cons p1 L2 =>
          exfalso
          have nd := R.nd
          have z0 := emp p0 (by simp)
          have z1 := emp p1 (by simp)
          simp [z0, z1] at nd
    rw [Vals.ref1 r]
    refine sorted_lone R (I.ok.hd hc) ?_
    intro s' p c k g o hp hg
    have hn : H p = none := I.hok.fresh hp
    have J : Inv X pins σ (upd H p (.lst [V.ref p0.1])) { s with heap := s'.heap, gens := s'.gens, drawn := s'.drawn, toks := s'.toks } :=
      I.call (ch := []) (Un.laid k hp hn) (I.hok.laid k hp ⟨(by show 1 ≤ sizeLine; decide), [Value.ref p0.1], c, Paired.cons rfl Paired.nil, hg⟩) (by rw [g]; exact I.bare) (fun _ z => nomatch z)
    have e : s' = { s with heap := s'.heap, gens := s'.gens, drawn := s'.drawn, toks := s'.toks } := by
      cases s'; cases s; cases o; rfl
    rw [e]
    exact ⟨.ref p, _, J, rfl, q [p0] p (List.Perm.refl _) (by simp) (show 1 < 64 by decide) (by simp) hn⟩
end
end L2

set_option Elab.async false
set_option linter.all false
set_option maxRecDepth 100000
set_option maxHeartbeats 2000000
namespace Wb
open PySem PySem.Spec PyProof.Rows L2

/-! ### data -/
abbrev Word := List Int
structure Gap where
  frm : Int
  to_ : Int
  price : Int
  ways : List Word
structure Bolt where
  many : Int
  gaps : List Gap
abbrev Lock := List Bolt

/-- tuples that are read stay -/
def TX (K : PySem.W.Frag) (H H' : Hp) : Prop := (∀ a xs, SqT K H a xs → SqT K H' a xs) ∧ ∀ a xs, H a = some (.tup xs) → H' a = some (.tup xs)
theorem TX.refl (K : PySem.W.Frag) (H : Hp) : TX K H H := ⟨fun _ _ h => h, fun _ _ h => h⟩
theorem TX.trans {K : PySem.W.Frag} {H H1 H2 : Hp} (a : TX K H H1) (b : TX K H1 H2) : TX K H H2 := ⟨fun x o h => b.1 x o (a.1 x o h), fun x o h => b.2 x o (a.2 x o h)⟩
theorem TX.ex {K : PySem.W.Frag} {H H' : Hp} (e : Evl.Ex H H') : TX K H H' := ⟨fun _ _ h => Evl.ex_t e h, fun _ _ h => e _ _ h⟩
/-- all but what stands at p is kept -/
def Exx (p : Addr) (H H' : Hp) : Prop := ∀ a o, a ≠ p → H a = some o → H' a = some o
theorem Exx.refl (p : Addr) (H : Hp) : Exx p H H := fun _ _ _ h => h
theorem Exx.trans {p : Addr} {H H1 H2 : Hp} (a : Exx p H H1) (b : Exx p H1 H2) : Exx p H H2 := fun x o n h => b x o n (a x o n h)
theorem Exx.ex {p : Addr} {H H' : Hp} (e : Evl.Ex H H') : Exx p H H' := fun a o _ h => e a o h
theorem Exx.put {p : Addr} {H : Hp} {o : HO} : Exx p H (upd H p o) := fun a u n h => by rw [upd_ne n]; exact h
theorem Exx.new {p q : Addr} {H : Hp} {o : HO} (h : H q = none) : Exx p H (upd H q o) := Exx.ex (Evl.Ex.new h)
/-- .. where p is no tuple -/
theorem Exx.tx {K : PySem.W.Frag} {p : Addr} {H H' : Hp} (e : Exx p H H') (np : ∀ xs, ¬ Rd H p (.tup xs)) : TX K H H' := by
  refine ⟨fun a xs h => ?_, fun a xs h => e a _ (fun z => np xs (.inl (z ▸ h))) h⟩
  rcases h with h | h
  · have na : a ≠ p := fun z => np xs (z ▸ h)
    rcases h with h | ⟨o, h⟩
    · exact .inl (.inl (e a _ na h))
    · exact .inl (.inr ⟨o, e a _ na h⟩)
  · exact .inr h
theorem Exx.l {K : PySem.W.Frag} {p a : Addr} {H H' : Hp} {xs : List V} (e : Exx p H H') (na : a ≠ p) (h : SqL K H a xs) : SqL K H' a xs := by
  rcases h with (h | ⟨o, h⟩) | h
  · exact .inl (.inl (e a _ na h))
  · exact .inl (.inr ⟨o, e a _ na h⟩)
  · exact .inr h

def Wd (K : PySem.W.Frag) (H : Hp) (v : V) (ns : Word) : Prop := ∃ a, v = .ref a ∧ H a = some (.tup (ns.map V.int))
def GapAt (K : PySem.W.Frag) (H : Hp) (v : V) (g : Gap) : Prop :=
  ∃ a b ws, v = .ref a ∧ SqT K H a [.int g.frm, .int g.to_, .int g.price, .ref b] ∧ SqT K H b ws ∧ Paired (Wd K H) ws g.ways
def BoltAt (K : PySem.W.Frag) (H : Hp) (v : V) (b : Bolt) : Prop := ∃ a c gs, v = .ref a ∧ SqT K H a [.int b.many, .ref c] ∧ SqT K H c gs ∧ Paired (GapAt K H) gs b.gaps
def LockAt (K : PySem.W.Frag) (H : Hp) (v : V) (l : Lock) : Prop := ∃ a bs, v = .ref a ∧ SqT K H a bs ∧ Paired (BoltAt K H) bs l

theorem Paired.imp {α β : Type} {F G : α → β → Prop} (f : ∀ a b, F a b → G a b) : ∀ {l₁ : List α} {l₂ : List β}, Paired F l₁ l₂ → Paired G l₁ l₂
  | _, _, .nil => .nil
  | _, _, .cons r t => .cons (f _ _ r) (Paired.imp f t)
section
variable {K : PySem.W.Frag} {H H' : Hp} {v : V}
theorem Wd.mono (e : TX K H H') {ns : Word} (h : Wd K H v ns) : Wd K H' v ns := by
  obtain ⟨a, r, q⟩ := h
  exact ⟨a, r, e.2 _ _ q⟩
theorem GapAt.mono (e : TX K H H') {g : Gap} (h : GapAt K H v g) : GapAt K H' v g := by
  obtain ⟨a, b, ws, r, q1, q2, q3⟩ := h
  exact ⟨a, b, ws, r, e.1 _ _ q1, e.1 _ _ q2, Paired.imp (fun _ _ => Wd.mono e) q3⟩
theorem BoltAt.mono (e : TX K H H') {b : Bolt} (h : BoltAt K H v b) : BoltAt K H' v b := by
  obtain ⟨a, c, gs, r, q1, q2, q3⟩ := h
  exact ⟨a, c, gs, r, e.1 _ _ q1, e.1 _ _ q2, Paired.imp (fun _ _ => GapAt.mono e) q3⟩
theorem LockAt.mono (e : TX K H H') {l : Lock} (h : LockAt K H v l) : LockAt K H' v l := by
  obtain ⟨a, bs, r, q1, q2⟩ := h
  exact ⟨a, bs, r, e.1 _ _ q1, Paired.imp (fun _ _ => BoltAt.mono e) q2⟩
end
section
variable {α β : Type} {R : α → β → Prop}
theorem Paired.get1 : ∀ {xs : List α} {ys : List β} {i : Nat} {x : α}, Paired R xs ys → xs[i]? = some x → ∃ y, ys[i]? = some y ∧ R x y
  | _, _, _, _, .nil, e => by simp at e
  | _, _, 0, _, .cons r _, e => by simp at e; subst e; exact ⟨_, rfl, r⟩
  | _, _, i + 1, x, .cons _ t, e => by
    obtain ⟨u, h1, h2⟩ := Paired.get1 (i := i) (x := x) t (by simpa using e)
    exact ⟨u, by simpa using h1, h2⟩
theorem Paired.get2 : ∀ {xs : List α} {ys : List β} {i : Nat} {y : β}, Paired R xs ys → ys[i]? = some y → ∃ x, xs[i]? = some x ∧ R x y
  | _, _, _, _, .nil, e => by simp at e
  | _, _, 0, _, .cons r _, e => by simp at e; subst e; exact ⟨_, rfl, r⟩
  | _, _, i + 1, y, .cons _ t, e => by
    obtain ⟨u, h1, h2⟩ := Paired.get2 (i := i) (y := y) t (by simpa using e)
    exact ⟨u, by simpa using h1, h2⟩
theorem Paired.len {xs : List α} {ys : List β} (h : Paired R xs ys) : xs.length = ys.length := Paired.length h
theorem Paired.app : ∀ {xs : List α} {ys : List β} {xs' : List α} {ys' : List β}, Paired R xs ys → Paired R xs' ys' → Paired R (xs ++ xs') (ys ++ ys')
  | _, _, _, _, .nil, s => s
  | _, _, _, _, .cons r t, s => .cons r (Paired.app t s)
theorem Paired.takeN : ∀ {xs : List α} {ys : List β} (n : Nat), Paired R xs ys → Paired R (xs.take n) (ys.take n)
  | _, _, 0, _ => .nil
  | _, _, _ + 1, .nil => .nil
  | _, _, n + 1, .cons r t => .cons r (Paired.takeN n t)
end
theorem take_succ_get {α : Type} {xs : List α} {i : Nat} {x : α} (h : xs[i]? = some x) : xs.take (i + 1) = xs.take i ++ [x] := by
  rw [List.take_add_one, h]
  rfl
theorem get_map_int {ns : List Int} {i : Nat} {x : V} (h : (ns.map V.int)[i]? = some x) : ∃ n, ns[i]? = some n ∧ x = .int n := by
  rw [List.getElem?_map] at h
  cases e : ns[i]? with
  | none => rw [e] at h; cases h
  | some n => rw [e] at h; exact ⟨n, rfl, (Option.some.inj h).symm⟩
theorem map_int_get {ns : List Int} {i : Nat} {n : Int} (h : ns[i]? = some n) : (ns.map V.int)[i]? = some (.int n) := by
  rw [List.getElem?_map, h]
  rfl

/-! ### what a lock must be -/
def lexLt2 (a b c d : Int) : Prop := a < c ∨ (a = c ∧ b < d)
structure GapOk (manys : List Int) (many : Int) (g : Gap) : Prop where
  f0 : 0 ≤ g.frm
  f1 : g.frm < many
  t0 : 0 ≤ g.to_
  t1 : g.to_ < many
  ne : g.frm ≠ g.to_
  p0 : 1 ≤ g.price
  p1 : g.price ≤ 1000000
  few : g.ways.length ≤ 8
  words : ∀ w ∈ g.ways, w.length = manys.length ∧ ∀ (i : Nat) (x m : Int), w[i]? = some x → manys[i]? = some m → 0 ≤ x ∧ x < m
  rise : g.ways.Pairwise (fun u w => HT.lexLt u w = true)
structure BoltOk (manys : List Int) (b : Bolt) : Prop where
  m0 : 2 ≤ b.many
  m1 : b.many ≤ 4
  gaps : ∀ g ∈ b.gaps, GapOk manys b.many g
  rise : b.gaps.Pairwise (fun g h => lexLt2 g.frm g.to_ h.frm h.to_)
  few : (b.gaps.map (fun g => g.ways.length)).sum ≤ 8
def manysOf (l : Lock) : List Int := l.map (·.many)
/-- the ways of the bolts numbered k and more, cut to k places -/
def cutsFrom (l : Lock) (k : Nat) (w : Word) : Prop := ∃ (j : Nat) (b : Bolt) (g : Gap) (u : Word), k ≤ j ∧ l[j]? = some b ∧ g ∈ b.gaps ∧ u ∈ g.ways ∧ w = u.take k
structure LockOk (l : Lock) : Prop where
  n0 : 1 ≤ l.length
  n1 : l.length ≤ 60
  bolts : ∀ (k : Nat) (b : Bolt), l[k]? = some b → BoltOk (manysOf (l.take k)) b
  words : ∀ (k : Nat) (ws : List Word), k < l.length → ws.Nodup → (∀ w ∈ ws, cutsFrom l k w) → ws.length ≤ 8
end Wb

set_option Elab.async false
set_option linter.all false
set_option maxRecDepth 100000
set_option maxHeartbeats 4000000
set_option pp.maxSteps 600
set_option pp.deepTerms false
namespace Wb
open PySem PySem.Spec PyProof.Rows L2
def topS (i : Nat) : Stmt := PySem.Challenge.pw_waitbolts_k04_walked.main.body.getD i (.Pass ⟨0, 0, 0, 0⟩)
abbrev sWhole : Stmt := topS 1
abbrev sWholeIn : Stmt := topS 2
abbrev sTupOf : Stmt := topS 3
abbrev sPlaces : Stmt := topS 4
theorem scWhole : FnScope ["thing"] ["thing"] (defScope sWhole) := ⟨rfl, rfl, rfl, by decide +kernel, rfl, by decide +kernel, by decide +kernel⟩
theorem scWholeIn : FnScope ["thing", "low", "high"] ["thing", "low", "high"] (defScope sWholeIn) := ⟨rfl, rfl, rfl, by decide +kernel, rfl, by decide +kernel, by decide +kernel⟩
theorem scTupOf : FnScope ["thing", "low", "high"] ["thing", "low", "high"] (defScope sTupOf) := ⟨rfl, rfl, rfl, by decide +kernel, rfl, by decide +kernel, by decide +kernel⟩
theorem scPlaces : FnScope ["thing", "manys", "place", "many"] ["thing", "manys"] (defScope sPlaces) := ⟨rfl, rfl, rfl, by decide +kernel, rfl, by decide +kernel, by decide +kernel⟩

/-- the built-in names are the built-in ones -/
structure Bi (mg : Str → Option Value) : Prop where
  isi : mg "isinstance" = none
  int : mg "int" = none
  bool : mg "bool" = none
  tuple : mg "tuple" = none
  list : mg "list" = none
  len : mg "len" = none
  zip : mg "zip" = none
  all : mg "all" = none
  range : mg "range" = none
  rev : mg "reversed" = none
  enum : mg "enumerate" = none
  sorted : mg "sorted" = none
  set : mg "set" = none
  abs : mg "abs" = none
  repr : mg "repr" = none

theorem tyx_tup {K : PySem.W.Frag} {H : Hp} {a : Addr} {xs : List V} (h : SqT K H a xs) : TyX K H (.ref a) (.type "tuple") := by
  rcases h with (h | ⟨o, h⟩) | ⟨o, its, n, h, c, _⟩
  · exact .base (.tup h)
  · exact .fTuple h
  · exact .kTuple h c
theorem tyx_int {K : PySem.W.Frag} {H : Hp} (i : Int) : TyX K H (.int i) (.type "int") := .base (.int i)

/-! ### promises -/
def spWhole : Sp := fun vs H Q _ => ∃ i : Int, vs = [.int i] ∧ Q (.bl true) H
def spWholeIn : Sp := fun vs H Q _ => ∃ i l h : Int, vs = [.int i, .int l, .int h] ∧ Q (.bl (decide (l ≤ i) && decide (i ≤ h))) H
def spTupOf (K : PySem.W.Frag) : Sp := fun vs H Q _ => ∃ (a : Addr) (xs : List V) (l h : Int), vs = [.ref a, .int l, .int h] ∧ SqT K H a xs ∧ Q (.bl (decide (l ≤ (xs.length : Int)) && decide ((xs.length : Int) ≤ h))) H
/-- as many places as bolts, each of them one of its bolt's -/
def InAll (ns ms : List Int) : Prop := ns.length = ms.length ∧ ∀ (i : Nat) (n m : Int), ns[i]? = some n → ms[i]? = some m → 0 ≤ n ∧ n < m
def spPlaces (K : PySem.W.Frag) : Sp := fun vs H Q _ => ∃ (a b : Addr) (m : Bool) (ns ms : List Int), vs = [.ref a, .ref b] ∧ SqT K H a (ns.map V.int) ∧ SqX K m H b (ms.map V.int) ∧ InAll ns ms ∧ ∀ H', Evl.Ex H H' → Q (.bl true) H'

section
variable {P : Program} {w : World} {K : PySem.W.Frag} {mg : Str → Option Value} {base : Heap}
theorem ok_whole {f : Addr} {fd : FuncData} (F : Fun K "is_whole" "is_whole" sWhole f fd) (B : Bi mg) : FnOk P w K mg base CX0 1 f fd ["thing"] spWhole := by
  refine F.ok scWhole (fun vs H Q E h => ?_) (fun cdv A outer s H vs Q E hr h => ?_)
  · obtain ⟨i, rfl, _⟩ := h; rfl
  · obtain ⟨i, rfl, q⟩ := h
    refine ⟨_, pss_one (ps_ret (pe_and (pe_callB call_isi (by rfl) B.isi boot_isinstance (pa_cons (pv 0) (pa_cons (pe_bltn (v := .ty "int") (by rfl) B.int (by decide +kernel) rfl) pa_nil)))
      (pe_one (pe_not (pe_callB call_isi (by rfl) B.isi boot_isinstance (pa_cons (pv 0) (pa_cons (pe_bltn (v := .ty "bool") (by rfl) B.bool (by decide +kernel) rfl) pa_nil))))))), ?_⟩
    refine ⟨.int i, rfl, .int i, .ty "int", .type "int", .type "int", true, rfl, .ty _, tyx_int i, kit_ty (by decide +kernel), true, rfl, ?_⟩
    rw [if_pos rfl]
    refine ⟨.int i, rfl, .int i, .ty "bool", .type "int", .type "bool", false, rfl, .ty _, tyx_int i, kit_ty (by decide +kernel), false, rfl, q⟩
theorem ok_wholeIn {f f1 : Addr} {fd fd1 : FuncData} (F : Fun K "is_whole_in" "is_whole_in" sWholeIn f fd) (F1 : Fun K "is_whole" "is_whole" sWhole f1 fd1) (b1 : Binds K fd1 ["thing"] []) (g1 : mg "is_whole" = some (.ref f1)) (B : Bi mg) :
    FnOk P w K mg base CX0 2 f fd ["thing", "low", "high"] spWholeIn := by
  have G1 : FnOk P w K mg base CX0 1 f1 fd1 ["thing"] spWhole := ok_whole F1 B
  refine F.ok scWholeIn (fun vs H Q E h => ?_) (fun cdv A outer s H vs Q E hr h => ?_)
  · obtain ⟨i, l, m, rfl, _⟩ := h; rfl
  · obtain ⟨i, l, m, rfl, q⟩ := h
    refine ⟨_, pss_one (ps_ret (pe_and (pe_call G1 hr (by rfl) g1 F1.kp b1 .nil pass0 (pa_cons (pv 0) pa_nil)) (pe_one (pe_chain op_le op_le (pv 1) (pv 0) (pv 2))))), ?_⟩
    refine ⟨.int i, rfl, i, rfl, true, rfl, ?_⟩
    rw [if_pos rfl]
    refine ⟨.int l, rfl, .int i, rfl, l, i, rfl, rfl, decide (l ≤ i), rfl, ?_⟩
    by_cases h1 : l ≤ i
    · rw [if_pos (decide_eq_true h1)]
      refine ⟨.int m, rfl, i, m, rfl, rfl, ?_⟩
      rw [decide_eq_true h1] at q
      exact q
    · rw [if_neg (by rw [decide_eq_false h1]; exact Bool.false_ne_true)]
      rw [decide_eq_false h1] at q
      exact q
theorem ok_tupOf {f : Addr} {fd : FuncData} (F : Fun K "is_tuple_of" "is_tuple_of" sTupOf f fd) (B : Bi mg) : FnOk P w K mg base CX0 1 f fd ["thing", "low", "high"] (spTupOf K) := by
  refine F.ok scTupOf (fun vs H Q E h => ?_) (fun cdv A outer s H vs Q E hr h => ?_)
  · obtain ⟨a, xs, l, m, rfl, _⟩ := h; rfl
  · obtain ⟨a, xs, l, m, rfl, hx, q⟩ := h
    refine ⟨_, pss_one (ps_ret (pe_and (pe_callB call_isi (by rfl) B.isi boot_isinstance (pa_cons (pv 0) (pa_cons (pe_bltn (v := .ty "tuple") (by rfl) B.tuple (by decide +kernel) rfl) pa_nil)))
      (pe_one (pe_chain op_le op_le (pv 1) (pe_callB call_len_seq (by rfl) B.len PySem.boot_len (pa_cons (pv 0) pa_nil)) (pv 2))))), ?_⟩
    refine ⟨.ref a, rfl, .ref a, .ty "tuple", .type "tuple", .type "tuple", true, rfl, .ty _, tyx_tup hx, kit_ty (by decide +kernel), true, rfl, ?_⟩
    rw [if_pos rfl]
    refine ⟨.int l, rfl, .ref a, rfl, a, xs, rfl, .inr hx, l, xs.length, rfl, rfl, decide (l ≤ (xs.length : Int)), rfl, ?_⟩
    by_cases h1 : l ≤ (xs.length : Int)
    · rw [if_pos (decide_eq_true h1)]
      refine ⟨.int m, rfl, xs.length, m, rfl, rfl, ?_⟩
      rw [decide_eq_true h1] at q
      exact q
    · rw [if_neg (by rw [decide_eq_false h1]; exact Bool.false_ne_true)]
      rw [decide_eq_false h1] at q
      exact q
theorem sqx_ex {l : Bool} {H H' : Hp} {a : Addr} {xs : List V} (e : Evl.Ex H H') (h : SqX K l H a xs) : SqX K l H' a xs := by
  cases l
  · exact Evl.ex_t e h
  · exact Evl.ex_l e h
theorem sqx_seq {l : Bool} {H : Hp} {a : Addr} {xs : List V} (h : SqX K l H a xs) : SqL K H a xs ∨ SqT K H a xs := by
  cases l
  · exact .inr h
  · exact .inl h
theorem ok_places {f f1 : Addr} {fd fd1 : FuncData} (F : Fun K "are_places" "are_places" sPlaces f fd) (F1 : Fun K "is_tuple_of" "is_tuple_of" sTupOf f1 fd1) (b1 : Binds K fd1 ["thing", "low", "high"] []) (g1 : mg "is_tuple_of" = some (.ref f1)) (B : Bi mg) :
    FnOk P w K mg base CX0 2 f fd ["thing", "manys"] (spPlaces K) := by
  have G1 : FnOk P w K mg base CX0 1 f1 fd1 ["thing", "low", "high"] (spTupOf K) := ok_tupOf F1 B
  refine F.ok scPlaces (fun vs H Q E h => ?_) (fun cdv A outer s H vs Q E hr h => ?_)
  · obtain ⟨a, b, m, ns, ms, rfl, _⟩ := h; rfl
  · obtain ⟨a, b, m, ns, ms, rfl, hx, hy, ⟨hl, hin⟩, q⟩ := h
    have isI : ∀ (X : Cx) (T : String) (hT : X.mg T = none) (i : Nat), True := fun _ _ _ _ => trivial
    refine ⟨_, pss_cons (ps_if (pt_not (pt_val (pe_call G1 hr (by rfl) g1 F1.kp b1 .nil pass0 (pa_cons (pv 0) (pa_cons (pe_callB call_len_seq (by rfl) B.len PySem.boot_len (pa_cons (pv 1) pa_nil)) (pa_cons (pe_callB call_len_seq (by rfl) B.len PySem.boot_len (pa_cons (pv 1) pa_nil)) pa_nil))))))
        (pss_one (ps_ret pe_bl)) pss_nil)
      (pss_cons (ps_for PassesOwn.never rfl (pi_zipX (by rfl) B.zip (pa_cons (pv 0) (pa_cons (pv 1) pa_nil))) (pg_tup rfl (pgs_cons (pg_name (i := 2) scPlaces.nd rfl (.inl rfl)) (pgs_cons (pg_name (i := 3) scPlaces.nd rfl (.inl rfl)) pgs_nil)))
        (pss_one (ps_if (PW.pt (pw_or (pt_val (pe_callB call_isi (by rfl) B.isi boot_isinstance (pa_cons (pv 2) (pa_cons (pe_bltn (v := .ty "bool") (by rfl) B.bool (by decide +kernel) rfl) pa_nil))))
            (pw_or (pt_not (pt_val (pe_callB call_isi (by rfl) B.isi boot_isinstance (pa_cons (pv 2) (pa_cons (pe_bltn (v := .ty "int") (by rfl) B.int (by decide +kernel) rfl) pa_nil)))))
              (pw_or1 (pt_not (pt_chain op_le op_lt pe_int (pv 2) (pv 3)))))))
          (pss_one (ps_ret pe_bl)) pss_nil)))
      (pss_one (ps_ret pe_bl))), ?_⟩
    refine ⟨.ref a, rfl, .ref b, rfl, b, _, rfl, sqx_seq hy, .ref b, rfl, b, _, rfl, sqx_seq hy, a, _, _, _, rfl, hx, _, rfl, ?_⟩
    have e1 : (decide (((ms.map V.int).length : Int) ≤ ((ns.map V.int).length : Int)) && decide (((ns.map V.int).length : Int) ≤ ((ms.map V.int).length : Int))) = true := by
      rw [List.length_map, List.length_map, hl]
      simp
    rw [e1]
    refine iteF ?_
    refine ⟨.ref a, rfl, .ref b, rfl, false, m, a, b, ns.map V.int, ms.map V.int, rfl, hx, hy, ?_⟩
    refine for_it (walk_zx (l := false) (m := m) (xs := ns.map V.int) (ys := ms.map V.int) (by rw [List.length_map, List.length_map, hl])) (fun i σ H' => ∃ y2 y3, σ = [some (.ref a), some (.ref b), y2, y3] ∧ Evl.Ex H H') ⟨none, none, rfl, Evl.Ex.refl H⟩ ?_ ?_ ?_
    · rintro i σ H' _ ⟨_, _, _, e⟩
      exact ⟨Evl.ex_t e hx, sqx_ex e hy⟩
    · rintro i v σ H1 H2 hi ⟨y2, y3, rfl, e⟩ ⟨T, x, y, rfl, nT, rfl, ex, ey⟩
      obtain ⟨n, hn, rfl⟩ := get_map_int ex
      obtain ⟨k, hk, rfl⟩ := get_map_int ey
      obtain ⟨h0, h1⟩ := hin i n k hn hk
      refine ⟨T, [.int n, .int k], rfl, .inl (.inl upd_same), rfl, .int n, [.int k], rfl, .int k, [], rfl, rfl, ?_⟩
      refine ⟨.int n, rfl, .int n, .ty "bool", .type "int", .type "bool", false, rfl, .ty _, tyx_int n, kit_ty (by decide +kernel), false, rfl, ?_⟩
      refine iteF ?_
      refine ⟨.int n, rfl, .int n, .ty "int", .type "int", .type "int", true, rfl, .ty _, tyx_int n, kit_ty (by decide +kernel), true, rfl, ?_⟩
      refine iteF ?_
      refine ⟨.int n, rfl, 0, n, rfl, rfl, decide ((0:Int) ≤ n), rfl, ?_⟩
      rw [if_pos (decide_eq_true h0)]
      refine ⟨.int k, rfl, n, k, rfl, rfl, decide (n < k), rfl, ?_⟩
      rw [decide_eq_true h1]
      refine iteF ?_
      exact ⟨_, _, rfl, e.trans (Evl.Ex.new nT)⟩
    · rintro σ H' ⟨y2, y3, rfl, e⟩
      exact q H' e
end
end Wb

set_option Elab.async false
set_option linter.all false
set_option maxRecDepth 100000
set_option maxHeartbeats 4000000
set_option pp.maxSteps 600
set_option pp.deepTerms false
namespace Wb
open PySem PySem.Spec PyProof.Rows L2
abbrev sWays : Stmt := topS 26
abbrev sGap : Stmt := topS 25
abbrev sBolt : Stmt := topS 24
theorem scWays : FnScope ["thing", "below", "way", "n"] ["thing", "below"] (defScope sWays) := ⟨rfl, rfl, rfl, by decide +kernel, rfl, by decide +kernel, by decide +kernel⟩
theorem scGap : FnScope ["thing", "many", "below", "here", "there", "price", "ways"] ["thing", "many", "below"] (defScope sGap) := ⟨rfl, rfl, rfl, by decide +kernel, rfl, by decide +kernel, by decide +kernel⟩
theorem scBolt : FnScope ["thing", "below", "many", "gaps", "count", "last", "gap"] ["thing", "below"] (defScope sBolt) := ⟨rfl, rfl, rfl, by decide +kernel, rfl, by decide +kernel, by decide +kernel⟩

/-- the module's numbers -/
structure Nu (mg : Str → Option Value) : Prop where
  bolts : ∃ t, mg "MOST_BOLTS" = some (.int 60 t)
  fewest : ∃ t, mg "FEWEST_PLACES" = some (.int 2 t)
  places : ∃ t, mg "MOST_PLACES" = some (.int 4 t)
  ways : ∃ t, mg "MOST_WAYS" = some (.int 8 t)
  words : ∃ t, mg "MOST_WORDS" = some (.int 8 t)
  price : ∃ t, mg "MOST_PRICE" = some (.int 1000000 t)

/-- ways of a gap: words below, rising -/
structure WaysOk (ms : List Int) (ws : List Word) : Prop where
  few : ws.length ≤ 8
  words : ∀ w ∈ ws, InAll w ms
  rise : ws.Pairwise (fun u w => HT.lexLt u w = true)
def spWays (K : PySem.W.Frag) : Sp := fun vs H Q _ => ∃ (a b : Addr) (us : List V) (ws : List Word) (ms : List Int), vs = [.ref a, .ref b] ∧ SqT K H a us ∧ Paired (Wd K H) us ws ∧ SqL K H b (ms.map V.int) ∧ WaysOk ms ws ∧ ∀ H', Evl.Ex H H' → Q (.bl true) H'

theorem wd_ex {K : PySem.W.Frag} {H H' : Hp} (e : Evl.Ex H H') {v : V} {ns : Word} (h : Wd K H v ns) : Wd K H' v ns := h.mono (TX.ex e)
theorem all_true (n : Nat) : ((List.replicate n true).all id) = true := by simp

section
variable {P : Program} {w : World} {K : PySem.W.Frag} {mg : Str → Option Value} {base : Heap}
theorem ok_ways {f f1 f2 : Addr} {fd fd1 fd2 : FuncData} (F : Fun K "are_ways" "are_ways" sWays f fd) (F1 : Fun K "is_tuple_of" "is_tuple_of" sTupOf f1 fd1) (b1 : Binds K fd1 ["thing", "low", "high"] []) (g1 : mg "is_tuple_of" = some (.ref f1))
    (F2 : Fun K "are_places" "are_places" sPlaces f2 fd2) (b2 : Binds K fd2 ["thing", "manys"] []) (g2 : mg "are_places" = some (.ref f2)) (B : Bi mg) (N : Nu mg) :
    FnOk P w K mg base CX0 3 f fd ["thing", "below"] (spWays K) := by
  have G1 : FnOk P w K mg base CX0 1 f1 fd1 ["thing", "low", "high"] (spTupOf K) := ok_tupOf F1 B
  have G2 : FnOk P w K mg base CX0 2 f2 fd2 ["thing", "manys"] (spPlaces K) := ok_places F2 F1 b1 g1 B
  obtain ⟨tw, ew⟩ := N.ways
  refine F.ok scWays (fun vs H Q E h => ?_) (fun cdv A outer s H vs Q E hr h => ?_)
  · obtain ⟨a, b, us, ws, ms, rfl, _⟩ := h; rfl
  · obtain ⟨a, b, us, ws, ms, rfl, hx, hp, hy, ok, q⟩ := h
    have hr1 : Room 1 _ := hr.mono (by decide)
    refine ⟨_, pss_cons (ps_if (pt_not (pt_val (pe_call G1 hr1 (by rfl) g1 F1.kp b1 .nil pass0 (pa_cons (pv 0) (pa_cons pe_int (pa_cons (pe_glob (v := .int 8) (by rfl) ew ⟨_, rfl⟩) pa_nil)))))) (pss_one (ps_ret pe_bl)) pss_nil)
      (pss_cons (ps_if (pt_not (pt_val (pe_callB (cr_all rfl) (by rfl) B.all boot_all (pa_cons
          (pe_lc (own := [("way", 2)]) (g := gName 2) rfl scWays.nd (pi_tup (pv 0)) (blkOk_by (own := [("way", 2)]) (N := ["thing", "below", "way", "n"]) (sc := defScope sWays) (by decide +kernel))
            (fun _ _ _ _ _ => pg_name (i := 2) scWays.nd rfl (Or.inl rfl)) (fun _ _ _ _ _ => pts_nil)
            (fun _ _ _ _ _ => pe_call G2 hr (by rfl) g2 F2.kp b2 .nil pass0 (pa_cons (pv 2) (pa_cons (pv 1) pa_nil)))) pa_nil)))) (pss_one (ps_ret pe_bl)) pss_nil)
      (pss_one (ps_ret (pe_callB (cr_all rfl) (by rfl) B.all boot_all (pa_cons
          (pe_lc (own := [("n", 3)]) (g := gName 3) rfl scWays.nd (pi_range1 rfl B.range (pa_cons (pe_op op_sub (pe_callB call_len_seq (by rfl) B.len PySem.boot_len (pa_cons (pv 0) pa_nil)) pe_int) pa_nil)) (blkOk_by (own := [("n", 3)]) (N := ["thing", "below", "way", "n"]) (sc := defScope sWays) (by decide +kernel))
            (fun _ _ _ _ _ => pg_name (i := 3) scWays.nd rfl (Or.inl rfl)) (fun _ _ _ _ _ => pts_nil)
            (fun _ _ _ _ _ => pe_cmpR (r := rLtT K) (op_ltT hr.units0) (pe_ix (r := rIxT K) ix_tup (pv 0) (pv 3) (fun _ _ => rfl)) (pe_ix (r := rIxT K) ix_tup (pv 0) (pe_op op_add (pv 3) pe_int) (fun _ _ => rfl)) (nomark _))) pa_nil))))), ?_⟩
    have ul : us.length = ws.length := Paired.len hp
    have few := ok.few
    refine ⟨.ref a, rfl, a, us, 0, 8, rfl, hx, _, rfl, ?_⟩
    have e1 : (decide ((0 : Int) ≤ (us.length : Int)) && decide ((us.length : Int) ≤ 8)) = true := by
      rw [ul]
      simp
      omega
    rw [e1]
    refine iteF ?_
    refine ⟨.ref a, rfl, a, rfl, ⟨_, hx⟩, fun D hD => lc_tup (K := K) (a := a) (xs := us) (fun i H' => Evl.Ex H H' ∧ H' D = some (.lst ((List.replicate i true).map V.bl))) ⟨Evl.Ex.new hD, upd_same⟩ ?_ ?_ ?_⟩
    · rintro i H' _ ⟨e, _⟩
      exact Evl.ex_t e hx
    · rintro i x H' hi ⟨e, eD⟩
      obtain ⟨wd, hw, ⟨ax, rfl, hax⟩⟩ := Paired.get1 hp hi
      have hin := ok.words wd (List.mem_of_getElem? hw)
      refine ⟨rfl, .ref ax, rfl, .ref b, rfl, ax, b, true, wd, ms, rfl, Evl.ex_t e (SqT.of hax), Evl.ex_l e hy, hin, ?_⟩
      intro H2 e2
      have l9 : i < 9 := by
        have := (List.getElem?_eq_some_iff.mp hi).1
        omega
      refine ⟨_, e2 _ _ eD, ?_, (e.trans e2).mut hD, ?_⟩
      · rw [List.length_map, List.length_replicate]
        exact Nat.lt_of_lt_of_le l9 (by decide)
      · rw [upd_same, List.replicate_succ', List.map_append]
        rfl
    · rintro H1 ⟨e, eD⟩
      refine ⟨D, _, rfl, .inl (.inl eD), true, ?_, ?_⟩
      · rw [all_true]
      · refine iteF ?_
        refine ⟨.ref a, rfl, a, us, rfl, .inr (Evl.ex_t e hx), _, _, rfl, rfl, (us.length : Int) - 1, rfl, by omega, by omega, fun D2 hD2 =>
          lc_range (lo := 0) (n := ((us.length : Int) - 1).toNat) (fun i H' => Evl.Ex H1 H' ∧ H' D2 = some (.lst ((List.replicate i true).map V.bl))) ⟨Evl.Ex.new hD2, upd_same⟩ ?_ ?_⟩
        · rintro i H' hi ⟨e2, eD2⟩
          have h1 : i < us.length := by omega
          have h2 : i + 1 < us.length := by omega
          obtain ⟨u1, hu1, ⟨a1, ea1, ha1⟩⟩ := Paired.get1 hp (List.getElem?_eq_getElem h1)
          obtain ⟨u2, hu2, ⟨a2, ea2, ha2⟩⟩ := Paired.get1 hp (List.getElem?_eq_getElem h2)
          have rise : HT.lexLt u1 u2 = true := by
            obtain ⟨l1, q1⟩ := List.getElem?_eq_some_iff.mp hu1
            obtain ⟨l2, q2⟩ := List.getElem?_eq_some_iff.mp hu2
            have := List.pairwise_iff_getElem.mp ok.rise i (i + 1) l1 l2 (Nat.lt_succ_self i)
            rw [q1, q2] at this
            exact this
          refine ⟨rfl, ?_⟩
          have e3 := e.trans e2
          refine ⟨.ref a, rfl, .int ((0 : Int) + (i : Nat)), rfl, a, us, (0 : Int) + (i : Nat), .ref a1, rfl, rfl, Evl.ex_t e3 hx, ?_, .ref a, rfl, .int ((0 : Int) + (i : Nat)), rfl, _, _, rfl, rfl, a, us, (0 : Int) + (i : Nat) + 1, .ref a2, rfl, rfl, Evl.ex_t e3 hx, ?_, a1, a2, u1, u2, rfl, rfl, Evl.ex_t e3 (SqT.of ha1), Evl.ex_t e3 (SqT.of ha2), ?_⟩
          · have z : (0 : Int) + (i : Nat) = ((i : Nat) : Int) := by omega
            rw [z, ← ea1]
            exact atI_nat (List.getElem?_eq_getElem h1)
          · have z : (0 : Int) + (i : Nat) + 1 = ((i + 1 : Nat) : Int) := by omega
            rw [z, ← ea2]
            exact atI_nat (List.getElem?_eq_getElem h2)
          · refine ⟨_, eD2, ?_, e2.mut hD2, ?_⟩
            · rw [List.length_map, List.length_replicate]
              exact Nat.lt_of_lt_of_le (show i < 9 by omega) (by decide)
            · rw [upd_same, List.replicate_succ', List.map_append, rise]
              rfl
        · rintro H2 ⟨e2, eD2⟩
          refine ⟨D2, _, rfl, .inl (.inl eD2), ?_⟩
          rw [all_true]
          exact q H2 (e.trans e2)
end
end Wb

set_option Elab.async false
set_option linter.all false
set_option maxRecDepth 100000
set_option maxHeartbeats 4000000
set_option pp.maxSteps 600
set_option pp.deepTerms false
namespace Wb
open PySem PySem.Spec PyProof.Rows L2
def spGap (K : PySem.W.Frag) : Sp := fun vs H Q _ => ∃ (v : V) (b : Addr) (g : Gap) (many : Int) (ms : List Int), vs = [v, .int many, .ref b] ∧ GapAt K H v g ∧ SqL K H b (ms.map V.int) ∧ GapOk ms many g ∧ ∀ H', Evl.Ex H H' → Q (.bl true) H'
def spBolt (K : PySem.W.Frag) : Sp := fun vs H Q _ => ∃ (v : V) (b : Addr) (bo : Bolt) (ms : List Int), vs = [v, .ref b] ∧ BoltAt K H v bo ∧ SqL K H b (ms.map V.int) ∧ BoltOk ms bo ∧ ∀ H', Evl.Ex H H' → Q (.bl true) H'

theorem inAll_two {a b m : Int} (h1 : 0 ≤ a) (h2 : a < m) (h3 : 0 ≤ b) (h4 : b < m) : InAll [a, b] [m, m] := by
  refine ⟨rfl, fun i n k hn hk => ?_⟩
  match i, hn, hk with
  | 0, hn, hk =>
    cases hn; cases hk; exact ⟨h1, h2⟩
  | 1, hn, hk =>
    cases hn; cases hk; exact ⟨h3, h4⟩
  | i + 2, hn, hk => simp at hn
theorem GapOk.ways_ok {ms : List Int} {many : Int} {g : Gap} (h : GapOk ms many g) : WaysOk ms g.ways :=
  ⟨h.few, fun w hw => ⟨(h.words w hw).1, (h.words w hw).2⟩, h.rise⟩
theorem lex2 {a b c d : Int} (h : lexLt2 c d a b) : Ob.lexAt (fun j => decide (([a, b] : List Int).getD j 0 = ([c, d] : List Int).getD j 0)) (fun j => decide (([a, b] : List Int).getD j 0 ≤ ([c, d] : List Int).getD j 0)) (decide (([a, b] : List Int).length ≤ ([c, d] : List Int).length)) 0 (min ([a, b] : List Int).length ([c, d] : List Int).length) = false := by
  show (if decide (a = c) = true then (if decide (b = d) = true then (decide (2 ≤ 2)) else decide (b ≤ d)) else decide (a ≤ c)) = false
  rcases h with h | ⟨h, h'⟩
  · rw [if_neg (by simp; omega)]
    simp; omega
  · rw [if_pos (by simp; omega), if_neg (by simp; omega)]
    simp; omega
theorem cut2 {a b c d : V} : cutV [a, b, c, d] none (some 2) = [a, b] := by
  unfold cutV
  rw [HT.sIx_none]
  rw [show HT.sIx [a, b, c, d].length [a, b, c, d].length (some 2) = 2 from HT.sIx_nat 4 4 2]
  rfl

section
variable {P : Program} {w : World} {K : PySem.W.Frag} {mg : Str → Option Value} {base : Heap}
theorem ok_gap {f f1 f2 f3 f4 f5 : Addr} {fd fd1 fd2 fd3 fd4 fd5 : FuncData} (F : Fun K "is_gap" "is_gap" sGap f fd) (F1 : Fun K "is_tuple_of" "is_tuple_of" sTupOf f1 fd1) (b1 : Binds K fd1 ["thing", "low", "high"] []) (g1 : mg "is_tuple_of" = some (.ref f1))
    (F2 : Fun K "are_places" "are_places" sPlaces f2 fd2) (b2 : Binds K fd2 ["thing", "manys"] []) (g2 : mg "are_places" = some (.ref f2))
    (F3 : Fun K "is_whole_in" "is_whole_in" sWholeIn f3 fd3) (b3 : Binds K fd3 ["thing", "low", "high"] []) (g3 : mg "is_whole_in" = some (.ref f3))
    (F4 : Fun K "are_ways" "are_ways" sWays f4 fd4) (b4 : Binds K fd4 ["thing", "below"] []) (g4 : mg "are_ways" = some (.ref f4))
    (F5 : Fun K "is_whole" "is_whole" sWhole f5 fd5) (b5 : Binds K fd5 ["thing"] []) (g5 : mg "is_whole" = some (.ref f5)) (B : Bi mg) (N : Nu mg) :
    FnOk P w K mg base CX0 4 f fd ["thing", "many", "below"] (spGap K) := by
  have G1 : FnOk P w K mg base CX0 1 f1 fd1 ["thing", "low", "high"] (spTupOf K) := ok_tupOf F1 B
  have G2 : FnOk P w K mg base CX0 2 f2 fd2 ["thing", "manys"] (spPlaces K) := ok_places F2 F1 b1 g1 B
  have G3 : FnOk P w K mg base CX0 2 f3 fd3 ["thing", "low", "high"] spWholeIn := ok_wholeIn F3 F5 b5 g5 B
  have G4 : FnOk P w K mg base CX0 3 f4 fd4 ["thing", "below"] (spWays K) := ok_ways F4 F1 b1 g1 F2 b2 g2 B N
  obtain ⟨tp, ep⟩ := N.price
  refine F.ok scGap (fun vs H Q E h => ?_) (fun cdv A outer s H vs Q E hr h => ?_)
  · obtain ⟨v, b, g, m, ms, rfl, _⟩ := h; rfl
  · obtain ⟨v, b, g, m, ms, rfl, ⟨a, c, ws, rfl, hx, hw, hp⟩, hy, ok, q⟩ := h
    have hr1 : Room 1 _ := hr.mono (by decide)
    have hr2 : Room 2 _ := hr.mono (by decide)
    refine ⟨_, pss_cons (ps_if (pt_not (pt_val (pe_call G1 hr1 (by rfl) g1 F1.kp b1 .nil pass0 (pa_cons (pv 0) (pa_cons pe_int (pa_cons pe_int pa_nil)))))) (pss_one (ps_ret pe_bl)) pss_nil)
      (pss_cons (ps_asg (pv 0) (pg_tup rfl (pgs_cons (pg_name (i := 3) scGap.nd rfl (.inl rfl)) (pgs_cons (pg_name (i := 4) scGap.nd rfl (.inl rfl)) (pgs_cons (pg_name (i := 5) scGap.nd rfl (.inl rfl)) (pgs_cons (pg_name (i := 6) scGap.nd rfl (.inl rfl)) pgs_nil))))))
      (pss_cons (ps_if (PW.pt (pw_or (pt_not (pt_val (pe_call G2 hr2 (by rfl) g2 F2.kp b2 .nil pass0 (pa_cons (pe_tup (pa_cons (pv 3) (pa_cons (pv 4) pa_nil))) (pa_cons (pe_tup (pa_cons (pv 1) (pa_cons (pv 1) pa_nil))) pa_nil)))))
          (pw_or1 (pt_cmpR op_eq (pv 3) (pv 4) (nomark _))))) (pss_one (ps_ret pe_bl)) pss_nil)
      (pss_one (ps_ret (pe_and (pe_call G3 hr2 (by rfl) g3 F3.kp b3 .nil pass0 (pa_cons (pv 5) (pa_cons pe_int (pa_cons (pe_glob (v := .int 1000000) (by rfl) ep ⟨_, rfl⟩) pa_nil))))
        (pe_one (pe_call G4 hr (by rfl) g4 F4.kp b4 .nil pass0 (pa_cons (pv 6) (pa_cons (pv 2) pa_nil))))))))), ?_⟩
    refine ⟨.ref a, rfl, a, _, 4, 4, rfl, hx, true, rfl, ?_⟩
    refine iteF ?_
    refine ⟨.ref a, rfl, a, _, rfl, hx, rfl, _, _, rfl, _, _, rfl, _, _, rfl, _, _, rfl, rfl, ?_⟩
    refine ⟨.int g.frm, rfl, .int g.to_, rfl, (by show 2 ≤ sizeLine; decide), fun p1 n1 => ?_⟩
    refine ⟨.int m, rfl, .int m, rfl, (by show 2 ≤ sizeLine; decide), fun p2 n2 => ?_⟩
    have x1 : Evl.Ex H (upd H p1 (.tup [.int g.frm, .int g.to_])) := Evl.Ex.new n1
    have x2 := Evl.Ex.new (o := .tup [.int m, .int m]) n2
    refine ⟨p1, p2, false, [g.frm, g.to_], [m, m], rfl, .inl (.inl (x2 _ _ upd_same)), (Or.inl (Or.inl upd_same)), inAll_two ok.f0 ok.f1 ok.t0 ok.t1, fun H' x3 => ?_⟩
    refine ⟨true, rfl, ?_⟩
    refine iteF ?_
    refine ⟨.int g.frm, rfl, .int g.to_, rfl, rfl, decide (V.int g.frm = V.int g.to_), rfl, ?_⟩
    have ne : decide (V.int g.frm = V.int g.to_) = false := decide_eq_false fun z => ok.ne (V.int.inj z)
    rw [ne]
    refine iteF ?_
    refine ⟨.int g.price, rfl, g.price, 1, 1000000, rfl, true, ?_, ?_⟩
    · have z1 := ok.p0
      have z2 := ok.p1
      rw [decide_eq_true z1, decide_eq_true z2]
      rfl
    · refine iteT ?_
      have x : Evl.Ex H H' := (x1.trans x2).trans x3
      refine ⟨.ref c, rfl, .ref b, rfl, c, b, ws, g.ways, ms, rfl, Evl.ex_t x hw, Paired.imp (fun _ _ => wd_ex x) hp, Evl.ex_l x hy, ok.ways_ok, fun H2 y => q H2 (x.trans y)⟩
theorem ok_bolt {f f1 f2 f3 f4 f5 f6 : Addr} {fd fd1 fd2 fd3 fd4 fd5 fd6 : FuncData} (F : Fun K "is_bolt" "is_bolt" sBolt f fd) (F1 : Fun K "is_tuple_of" "is_tuple_of" sTupOf f1 fd1) (b1 : Binds K fd1 ["thing", "low", "high"] []) (g1 : mg "is_tuple_of" = some (.ref f1))
    (F2 : Fun K "are_places" "are_places" sPlaces f2 fd2) (b2 : Binds K fd2 ["thing", "manys"] []) (g2 : mg "are_places" = some (.ref f2))
    (F3 : Fun K "is_whole_in" "is_whole_in" sWholeIn f3 fd3) (b3 : Binds K fd3 ["thing", "low", "high"] []) (g3 : mg "is_whole_in" = some (.ref f3))
    (F4 : Fun K "are_ways" "are_ways" sWays f4 fd4) (b4 : Binds K fd4 ["thing", "below"] []) (g4 : mg "are_ways" = some (.ref f4))
    (F5 : Fun K "is_whole" "is_whole" sWhole f5 fd5) (b5 : Binds K fd5 ["thing"] []) (g5 : mg "is_whole" = some (.ref f5))
    (F6 : Fun K "is_gap" "is_gap" sGap f6 fd6) (b6 : Binds K fd6 ["thing", "many", "below"] []) (g6 : mg "is_gap" = some (.ref f6)) (B : Bi mg) (N : Nu mg) :
    FnOk P w K mg base CX0 5 f fd ["thing", "below"] (spBolt K) := by
  have G1 : FnOk P w K mg base CX0 1 f1 fd1 ["thing", "low", "high"] (spTupOf K) := ok_tupOf F1 B
  have G3 : FnOk P w K mg base CX0 2 f3 fd3 ["thing", "low", "high"] spWholeIn := ok_wholeIn F3 F5 b5 g5 B
  have G6 : FnOk P w K mg base CX0 4 f6 fd6 ["thing", "many", "below"] (spGap K) := ok_gap F6 F1 b1 g1 F2 b2 g2 F3 b3 g3 F4 b4 g4 F5 b5 g5 B N
  obtain ⟨tf, ef⟩ := N.fewest
  obtain ⟨tl, el⟩ := N.places
  obtain ⟨tw, ew⟩ := N.ways
  refine F.ok scBolt (fun vs H Q E h => ?_) (fun cdv A outer s H vs Q E hr h => ?_)
  · obtain ⟨v, b, bo, ms, rfl, _⟩ := h; rfl
  · obtain ⟨v, b, bo, ms, rfl, ⟨a, c, gs, rfl, hx, hg, hp⟩, hy, ok, q⟩ := h
    have hr1 : Room 1 _ := hr.mono (by decide)
    have hr2 : Room 2 _ := hr.mono (by decide)
    refine ⟨_, pss_cons (ps_if (pt_not (pt_val (pe_call G1 hr1 (by rfl) g1 F1.kp b1 .nil pass0 (pa_cons (pv 0) (pa_cons pe_int (pa_cons pe_int pa_nil)))))) (pss_one (ps_ret pe_bl)) pss_nil)
      (pss_cons (ps_asg (pv 0) (pg_tup rfl (pgs_cons (pg_name (i := 2) scBolt.nd rfl (.inl rfl)) (pgs_cons (pg_name (i := 3) scBolt.nd rfl (.inl rfl)) pgs_nil))))
      (pss_cons (ps_if (PW.pt (pw_or (pt_not (pt_val (pe_call G3 hr2 (by rfl) g3 F3.kp b3 .nil pass0 (pa_cons (pv 2) (pa_cons (pe_glob (v := .int 2) (by rfl) ef ⟨_, rfl⟩) (pa_cons (pe_glob (v := .int 4) (by rfl) el ⟨_, rfl⟩) pa_nil))))))
          (pw_or1 (pt_not (pt_val (pe_callB call_isi (by rfl) B.isi boot_isinstance (pa_cons (pv 3) (pa_cons (pe_bltn (v := .ty "tuple") (by rfl) B.tuple (by decide +kernel) rfl) pa_nil)))))))) (pss_one (ps_ret pe_bl)) pss_nil)
      (pss_cons (ps_set (i := 4) scBolt.nd rfl (.inl rfl) pe_int)
      (pss_cons (ps_set (i := 5) scBolt.nd rfl (.inl rfl) (pe_tup (pa_cons (pe_un un_neg pe_int) (pa_cons (pe_un un_neg pe_int) pa_nil))))
      (pss_cons (ps_for PassesOwn.never rfl (pi_tup (pv 3)) (pg_name (i := 6) scBolt.nd rfl (.inl rfl))
        (pss_cons (ps_if (PW.pt (pw_or (pt_not (pt_val (pe_call G6 hr (by rfl) g6 F6.kp b6 .nil pass0 (pa_cons (pv 6) (pa_cons (pv 2) (pa_cons (pv 1) pa_nil))))))
            (pw_or1 (pt_cmpR (op_leT hr.units0) (pe_slice sl_tupA (pv 6) po_none (po_some pe_int)) (pv 5) (nomark _))))) (pss_one (ps_ret pe_bl)) pss_nil)
        (pss_cons (ps_set (i := 5) scBolt.nd rfl (.inl rfl) (pe_slice sl_tupA (pv 6) po_none (po_some pe_int)))
        (pss_one (ps_aug (i := 4) scBolt.nd rfl (.inl rfl) (pe_callB call_len_seq (by rfl) B.len PySem.boot_len (pa_cons (pe_ix ix_tup (pv 6) pe_int (fun _ _ => rfl)) pa_nil)) ip_add)))))
      (pss_one (ps_ret (pe_cmpR op_le (pv 4) (pe_glob (v := .int 8) (by rfl) ew ⟨_, rfl⟩) (nomark _))))))))), ?_⟩
    refine ⟨.ref a, rfl, a, _, 2, 2, rfl, hx, true, rfl, ?_⟩
    refine iteF ?_
    refine ⟨.ref a, rfl, a, _, rfl, hx, rfl, _, _, rfl, _, _, rfl, rfl, ?_⟩
    refine ⟨.int bo.many, rfl, bo.many, 2, 4, rfl, true, ?_, ?_⟩
    · rw [decide_eq_true ok.m0, decide_eq_true ok.m1]
      rfl
    refine iteF ?_
    refine ⟨.ref c, rfl, .ref c, .ty "tuple", .type "tuple", .type "tuple", true, rfl, .ty _, tyx_tup hg, kit_ty (by decide +kernel), true, rfl, ?_⟩
    refine iteF ?_
    refine ⟨1, rfl, 1, rfl, (by show 2 ≤ sizeLine; decide), fun p0 n0 => ?_⟩
    have gl : gs.length = bo.gaps.length := Paired.len hp
    refine ⟨.ref c, rfl, c, rfl, ⟨_, (Evl.ex_t (Evl.Ex.new n0) hg)⟩, for_tup (K := K) (a := c) (xs := gs)
      (fun i σ H' => ∃ (pl : Addr) (lf lt : Int) (y6 : Option V), σ = [some (.ref a), some (.ref b), some (.int bo.many), some (.ref c), some (.int (((bo.gaps.take i).map (fun g => ((g.ways.length : Nat) : Int))).sum)), some (.ref pl), y6] ∧
        Evl.Ex H H' ∧ SqT K H' pl ([lf, lt].map V.int) ∧ (∀ g, bo.gaps[i]? = some g → lexLt2 lf lt g.frm g.to_)) ⟨p0, -1, -1, none, rfl, Evl.Ex.new n0, .inl (.inl upd_same), ?_⟩ ?_ ?_ ?_⟩
    · intro g hgi
      have := (ok.gaps g (List.mem_of_getElem? hgi)).f0
      exact .inl (by omega)
    · rintro i σ H' _ ⟨_, _, _, _, _, e, _⟩
      exact Evl.ex_t e hg
    · rintro i x σ H' hi ⟨pl, lf, lt, y6, rfl, e, hpl, hlex⟩
      obtain ⟨g, hgi, hga⟩ := Paired.get1 hp hi
      have hga' : GapAt K H' x g := hga.mono (TX.ex e)
      obtain ⟨ag, bg, ws, rfl, h1, h2, h3⟩ := hga'
      have gok := ok.gaps g (List.mem_of_getElem? hgi)
      refine ⟨.ref ag, rfl, .int bo.many, rfl, .ref b, rfl, .ref ag, b, g, bo.many, ms, rfl, ⟨ag, bg, ws, rfl, h1, h2, h3⟩, Evl.ex_l e hy, gok, fun H2 e2 => ?_⟩
      refine ⟨true, rfl, iteF ?_⟩
      have ex2 := e.trans e2
      refine ⟨.ref ag, rfl, 2, rfl, ag, _, rfl, Evl.ex_t e2 h1, fun z => absurd (show HT.sIx 4 4 (some 2) = 4 from z.2) (by decide), fun _ p np => ?_⟩
      rw [cut2]
      have e3 := Evl.Ex.new (o := .tup [V.int g.frm, V.int g.to_]) np
      refine ⟨.ref pl, rfl, p, pl, [g.frm, g.to_], [lf, lt], rfl, rfl, .inl (.inl upd_same), Evl.ex_t (e2.trans e3) hpl, _, rfl, ?_⟩
      rw [lex2 (hlex g hgi)]
      refine iteF ?_
      refine ⟨.ref ag, rfl, 2, rfl, ag, _, rfl, Evl.ex_t (e2.trans e3) h1, fun z => absurd (show HT.sIx 4 4 (some 2) = 4 from z.2) (by decide), fun _ p' np' => ?_⟩
      rw [cut2]
      have e4 := Evl.Ex.new (o := .tup [V.int g.frm, V.int g.to_]) np'
      refine ⟨_, rfl, .ref ag, rfl, ag, _, 3, .ref bg, rfl, rfl, Evl.ex_t ((e2.trans e3).trans e4) h1, atI_nat (j := 3) rfl, bg, ws, rfl, .inr (Evl.ex_t ((e2.trans e3).trans e4) h2), _, _, rfl, rfl, ?_⟩
      refine ⟨p', g.frm, g.to_, some (.ref ag), ?_, (ex2.trans e3).trans e4, .inl (.inl upd_same), fun g' hg' => ?_⟩
      · have wl : ws.length = g.ways.length := Paired.len h3
        rw [take_succ_get hgi, List.map_append, List.sum_append, wl]
        simp
      · obtain ⟨l1, q1⟩ := List.getElem?_eq_some_iff.mp hgi
        obtain ⟨l2, q2⟩ := List.getElem?_eq_some_iff.mp hg'
        have := List.pairwise_iff_getElem.mp ok.rise i (i + 1) l1 l2 (Nat.lt_succ_self i)
        rw [q1, q2] at this
        exact this
    · rintro σ H' ⟨pl, lf, lt, y6, rfl, e, hpl, hlex⟩
      refine ⟨_, rfl, _, 8, rfl, rfl, ?_⟩
      have s8 : decide ((((bo.gaps.take gs.length).map (fun g => ((g.ways.length : Nat) : Int))).sum) ≤ 8) = true := by
        have h := ok.few
        rw [gl, List.take_length]
        have z : ∀ l : List Gap, (l.map (fun g => ((g.ways.length : Nat) : Int))).sum = (((l.map (fun g => g.ways.length)).sum : Nat) : Int) := by
          intro l
          induction l with
          | nil => rfl
          | cons g l ih => simp [ih]
        rw [z]
        simp
        omega
      show Q (.bl (decide (_ ≤ 8))) H'
      rw [s8]
      exact q H' e
end
end Wb

set_option Elab.async false
set_option linter.all false
set_option maxRecDepth 100000
set_option maxHeartbeats 4000000
set_option pp.maxSteps 600
set_option pp.deepTerms false
namespace Wb
open PySem PySem.Spec PyProof.Rows L2
abbrev sWords : Stmt := topS 14
theorem scWords : FnScope ["lock", "rows", "above", "k", "found", "word", "gap", "way"] ["lock"] (defScope sWords) := ⟨rfl, rfl, rfl, by decide +kernel, rfl, by decide +kernel, by decide +kernel⟩

/-! ### words as keys -/
def keyW (w : Word) : List Key := w.map Sum.inl
theorem keyW_kV (w : Word) : (keyW w).map kV = w.map V.int := by
  unfold keyW
  rw [List.map_map]
  rfl
theorem keyW_inj {u w : Word} (h : keyW u = keyW w) : u = w := by
  unfold keyW at h
  exact (List.map_inj_right (fun _ _ e => Sum.inl.inj e)).mp h
def kws (ws : List Word) (v : Word → V) : List (List Key × V) := ws.map fun w => (keyW w, v w)
def addW (ws : List Word) (w : Word) : List Word := if w ∈ ws then ws else ws ++ [w]
theorem kws_any (ws : List Word) (v : Word → V) (w : Word) : ((kws ws v).any fun kv => decide (kv.1 = keyW w)) = decide (w ∈ ws) := by
  unfold kws
  rw [List.any_map]
  rw [Bool.eq_iff_iff]
  simp only [List.any_eq_true, Function.comp, decide_eq_true_eq]
  constructor
  · rintro ⟨u, hu, e⟩
    rw [← keyW_inj e]
    exact hu
  · intro h
    exact ⟨w, h, rfl⟩
theorem put_kws (ws : List Word) (w : Word) : putK (kws ws fun _ => .bl true) (keyW w) (.bl true) = kws (addW ws w) fun _ => .bl true := by
  unfold putK addW
  rw [kws_any]
  by_cases h : w ∈ ws
  · rw [if_pos (decide_eq_true h), if_pos h]
    unfold kws
    rw [List.map_map]
    apply List.map_congr_left
    intro u _
    show (if keyW u = keyW w then (keyW u, V.bl true) else (keyW u, V.bl true)) = (keyW u, V.bl true)
    split <;> rfl
  · rw [if_neg (by rw [decide_eq_false h]; exact Bool.false_ne_true), if_neg h]
    unfold kws
    rw [List.map_append]
    rfl
theorem mem_addW {ws : List Word} {w u : Word} : u ∈ addW ws w ↔ u ∈ ws ∨ u = w := by
  unfold addW
  split
  · rename_i h
    exact ⟨.inl, fun z => z.elim id fun e => e ▸ h⟩
  · simp
theorem nodup_addW {ws : List Word} {w : Word} (h : ws.Nodup) : (addW ws w).Nodup := by
  unfold addW
  split
  · exact h
  · rename_i hn
    rw [List.nodup_append]
    refine ⟨h, by simp, ?_⟩
    intro a ha b hb
    simp at hb
    subst hb
    intro e
    exact hn (e ▸ ha)
theorem valV_kws (ws : List Word) (v : Word → V) (w : Word) : valV (kws ws v) (keyW w) = if w ∈ ws then some (v w) else none := by
  induction ws with
  | nil => rfl
  | cons u ws ih =>
    by_cases e : u = w
    · subst e
      rw [if_pos (by simp)]
      exact valV_pos rfl
    · have z : valV (kws (u :: ws) v) (keyW w) = valV (kws ws v) (keyW w) := valV_neg (fun q => e (keyW_inj q))
      rw [z, ih]
      have m : w ∈ u :: ws ↔ w ∈ ws := by
        simp only [List.mem_cons]
        exact ⟨fun q => q.elim (fun q => absurd q.symm e) id, .inr⟩
      by_cases h : w ∈ ws
      · rw [if_pos h, if_pos (m.mpr h)]
      · rw [if_neg h, if_neg (fun q => h (m.mp q))]

/-! ### the words at a bolt -/
def WordsAt (l : Lock) (k : Nat) (ws : List Word) : Prop := ws.Nodup ∧ ∀ w, w ∈ ws ↔ cutsFrom l k w
/-- a list of words at r -/
def RowAt (K : PySem.W.Frag) (H : Hp) (r : Addr) (ws : List Word) : Prop := ∃ us, H r = some (.lst us) ∧ Paired (Wd K H) us ws
theorem RowAt.ex {K : PySem.W.Frag} {H H' : Hp} (e : Evl.Ex H H') {r : Addr} {ws : List Word} (h : RowAt K H r ws) : RowAt K H' r ws := by
  obtain ⟨us, a, b⟩ := h
  exact ⟨us, e _ _ a, Paired.imp (fun _ _ => wd_ex e) b⟩
theorem cutsFrom_len {l : Lock} (ok : LockOk l) {k : Nat} {w : Word} (hk : k ≤ l.length) (h : cutsFrom l k w) : w.length = k := by
  obtain ⟨j, b, g, u, hj, hb, hg, hu, rfl⟩ := h
  have lu := (((ok.bolts j b hb).gaps g hg).words u hu).1
  have lj : j < l.length := (List.getElem?_eq_some_iff.mp hb).1
  unfold manysOf at lu
  rw [List.length_map, List.length_take] at lu
  rw [List.length_take]
  omega
/-- the words at k: those at k + 1 cut, and the bolt's own -/
theorem cuts_step {l : Lock} (ok : LockOk l) {k : Nat} {b : Bolt} (hb : l[k]? = some b) (w : Word) :
    cutsFrom l k w ↔ (∃ u, cutsFrom l (k + 1) u ∧ w = u.take k) ∨ ∃ g ∈ b.gaps, w ∈ g.ways := by
  constructor
  · rintro ⟨j, b', g, u, hj, hb', hg, hu, rfl⟩
    by_cases e : j = k
    · subst e
      rw [hb] at hb'
      cases hb'
      have lu := (((ok.bolts j b hb).gaps g hg).words u hu).1
      have lj : j < l.length := (List.getElem?_eq_some_iff.mp hb).1
      unfold manysOf at lu
      rw [List.length_map, List.length_take] at lu
      refine .inr ⟨g, hg, ?_⟩
      rw [List.take_of_length_le (by omega)]
      exact hu
    · refine .inl ⟨u.take (k + 1), ⟨j, b', g, u, by omega, hb', hg, hu, rfl⟩, ?_⟩
      rw [List.take_take, Nat.min_eq_left (Nat.le_succ k)]
  · rintro (⟨u, ⟨j, b', g, u', hj, hb', hg, hu, rfl⟩, rfl⟩ | ⟨g, hg, hw⟩)
    · refine ⟨j, b', g, u', by omega, hb', hg, hu, ?_⟩
      rw [List.take_take, Nat.min_eq_left (Nat.le_succ k)]
    · have lu := (((ok.bolts k b hb).gaps g hg).words w hw).1
      have lj : k < l.length := (List.getElem?_eq_some_iff.mp hb).1
      unfold manysOf at lu
      rw [List.length_map, List.length_take] at lu
      refine ⟨k, b, g, w, Nat.le_refl _, hb, hg, hw, ?_⟩
      rw [List.take_of_length_le (by omega)]
theorem isKeys_rows {K : PySem.W.Frag} {H : Hp} : ∀ {ws : List Word} {bs : List Addr}, IsKeys H (kws ws fun _ => V.bl true) bs → Paired (Wd K H) (bs.map V.ref) ws
  | [], _, h => by
    cases h
    exact .nil
  | w :: ws, _, h => by
    cases h with
    | cons r t =>
      refine .cons ⟨_, rfl, ?_⟩ (isKeys_rows t)
      have r' : _ = some (HO.tup ((keyW w).map kV)) := r
      rw [keyW_kV] at r'
      exact r'
def spWords (K : PySem.W.Frag) : Sp := fun vs H Q _ => ∃ (v : V) (l : Lock), vs = [v] ∧ LockAt K H v l ∧ LockOk l ∧
  ∀ H' p (rs : List Addr), Evl.Ex H H' → H p = none → H' p = some (.lst (rs.map V.ref)) → rs.length = l.length →
    (∀ k r, rs[k]? = some r → H r = none ∧ ∃ ws, RowAt K H' r ws ∧ WordsAt l k ws) → Q (.ref p) H'

/-- a word of a tuple of words, cut -/
theorem cut_take (xs : List V) (k : Nat) : cutV xs none (some (k : Int)) = xs.take k := by
  unfold cutV
  rw [HT.sIx_none, HT.sIx_nat]
  rw [List.drop_zero, Nat.sub_zero]
  by_cases h : k ≤ xs.length
  · rw [Nat.min_eq_left h]
  · rw [Nat.min_eq_right (by omega), List.take_length, List.take_of_length_le (by omega)]
theorem slice_whole {n k : Nat} (h : HT.sIx n n (some (k : Int)) = n) : n ≤ k := by
  rw [HT.sIx_nat] at h
  omega
end Wb

set_option Elab.async false
set_option linter.all false
set_option maxRecDepth 100000
set_option maxHeartbeats 4000000
set_option pp.maxSteps 600
set_option pp.deepTerms false
namespace Wb
open PySem PySem.Spec PyProof.Rows L2
section
variable {P : Program} {w : World} {K : PySem.W.Frag} {mg : Str → Option Value} {base : Heap}
theorem few_cuts {l : Lock} (ok : LockOk l) {k : Nat} (hk : k < l.length) {cur : List Word} (h1 : cur.Nodup) (h2 : ∀ u ∈ cur, cutsFrom l k u) : cur.length < sizeLine :=
  Nat.lt_of_le_of_lt (ok.words k cur hk h1 h2) (by decide)
theorem kws_len (ws : List Word) (v : Word → V) : (kws ws v).length = ws.length := List.length_map ..
theorem ok_words {f : Addr} {fd : FuncData} (F : Fun K "words_of" "words_of" sWords f fd) (B : Bi mg) : FnOk P w K mg base CX0 1 f fd ["lock"] (spWords K) := by
  refine F.ok scWords (fun vs H Q E h => ?_) (fun cdv A outer s H vs Q E hr h => ?_)
  · obtain ⟨v, l, rfl, _⟩ := h; rfl
  · obtain ⟨v, l, rfl, ⟨a, bs, rfl, hx, hp⟩, ok, q⟩ := h
    have hu := hu_of hr
    refine ⟨_, pss_cons (ps_set (i := 1) scWords.nd rfl (.inl rfl) (pe_lst pa_nil))
      (pss_cons (ps_set (i := 2) scWords.nd rfl (.inl rfl) (pe_lst pa_nil))
      (pss_cons (ps_for PassesOwn.never rfl (pi_revR (by rfl) B.rev (prg_1 (by rfl) B.range (pe_callB call_len_seq (by rfl) B.len PySem.boot_len (pa_cons (pv 0) pa_nil)))) (pg_name (i := 3) scWords.nd rfl (.inl rfl))
        (pss_cons (ps_set (i := 4) scWords.nd rfl (.inl rfl) pe_dnewT)
        (pss_cons (ps_for PassesOwn.never rfl (pi_list (pv 2)) (pg_name (i := 5) scWords.nd rfl (.inl rfl))
          (pss_one (ps_dput hu (pv 4) (pe_slice sl_tupA (pv 5) po_none (po_some (pv 3))) pe_bl rfl)))
        (pss_cons (ps_for PassesOwn.never rfl (pi_tup (pe_ix ix_tup (pe_ix ix_tup (pv 0) (pv 3) (fun _ _ => rfl)) pe_int (fun _ _ => rfl))) (pg_name (i := 6) scWords.nd rfl (.inl rfl))
          (pss_one (ps_for PassesOwn.never rfl (pi_tup (pe_ix ix_tup (pv 6) pe_int (fun _ _ => rfl))) (pg_name (i := 7) scWords.nd rfl (.inl rfl))
            (pss_one (ps_dput hu (pv 4) (pv 7) pe_bl rfl)))))
        (pss_cons (ps_set (i := 2) scWords.nd rfl (.inl rfl) (pe_callTy (call_list_dT rfl) (by rfl) B.list (PyProof.Rows.boot_list) (pa_cons (pv 4) pa_nil)))
        (pss_one (ps_expr (pe_bm PySem.F.plainAttrs_list PySem.F.slot_list_append PySem.F.type_list_append mt_append (pv 1) (pa_cons (pv 2) pa_nil)))))))))
      (pss_one (ps_ret (pe_revL (pv 1)))))), ?_⟩
    have bl : bs.length = l.length := Paired.len hp
    have n60 := ok.n1
    refine ⟨Nat.zero_le _, fun r0 nr0 => ?_⟩
    refine ⟨Nat.zero_le _, fun a0 na0 => ?_⟩
    have x1 : Evl.Ex H (upd H r0 (.lst [])) := Evl.Ex.new nr0
    have na0' : H a0 = none := Evl.fresh_back x1 na0
    have nar : r0 ≠ a0 := fun z => by rw [← z, upd_same] at na0; cases na0
    refine ⟨.ref a, rfl, a, bs, rfl, .inr (Evl.ex_t (x1.trans (Evl.Ex.new na0)) hx), _, rfl, by omega, by omega, by omega, by omega, ?_⟩
    refine for_rangeC (lo := _) (c := -1) (n := _) (fun i σ H' => ∃ (aA : Addr) (rs : List Addr) (ws : List Word) (y3 y4 y5 y6 y7 : Option V), σ = [some (.ref a), some (.ref r0), some (.ref aA), y3, y4, y5, y6, y7] ∧
        Evl.Ex H H' ∧ RowAt K H' aA ws ∧ WordsAt l (l.length - i) ws ∧ H' r0 = some (.lst (rs.map V.ref)) ∧ rs.length = i ∧
        ∀ j r, rs[j]? = some r → r ≠ r0 ∧ H r = none ∧ ∃ ws', RowAt K H' r ws' ∧ WordsAt l (l.length - 1 - j) ws')
      ⟨a0, [], [], none, none, none, none, none, rfl, x1.trans (Evl.Ex.new na0), ⟨[], upd_same, .nil⟩, ⟨List.nodup_nil, fun w => ?_⟩, by rw [upd_ne nar, upd_same]; rfl, rfl, fun j r e => by simp at e⟩ ?_ ?_
    · constructor
      · intro z; cases z
      · rintro ⟨j, b, g, u, hj, hb, _⟩
        have := (List.getElem?_eq_some_iff.mp hb).1
        omega
    · rintro i σ H1 hi ⟨aA, rs, ws, y3, y4, y5, y6, y7, rfl, e1, hA, hW, hR, hl, hrs⟩
      have hi' : i < l.length := by omega
      -- the bolt's number
      have ek : (0 : Int) + (((((bs.length : Nat) : Int) - 0).toNat : Nat) : Int) - 1 + (i : Nat) * (-1) = ((l.length - 1 - i : Nat) : Int) := by rw [bl]; omega
      rw [ek]
      generalize hk : l.length - 1 - i = k at *
      have hkl : k < l.length := by omega
      have hk1 : l.length - i = k + 1 := by omega
      rw [hk1] at hW
      obtain ⟨b, hb⟩ : ∃ b, l[k]? = some b := ⟨l[k], List.getElem?_eq_getElem hkl⟩
      obtain ⟨vb, hvb, hba⟩ := Paired.get2 hp hb
      obtain ⟨us, hAu, hAp⟩ := hA
      have ul : us.length = ws.length := Paired.len hAp
      intro d nd
      have nd0 : H d = none := Evl.fresh_back e1 nd
      have ndr : d ≠ r0 := fun z => by rw [z, hR] at nd; cases nd
      have e2 : Evl.Ex H1 (upd H1 d (.dT [])) := Evl.Ex.new nd
      -- the words above, cut
      refine ⟨.ref aA, rfl, aA, rfl, ⟨us, .inl (.inl (e2 _ _ hAu))⟩, for_list (K := K) (a := aA) (xs := us) (fun j σ H' => ∃ (cur : List Word) (y5 : Option V), σ = [some (.ref a), some (.ref r0), some (.ref aA), some (.int (k : Nat)), some (.ref d), y5, y6, y7] ∧
          Evl.Ex H1 H' ∧ H' d = some (.dT (kws cur fun _ => .bl true)) ∧ cur.Nodup ∧ ∀ u, u ∈ cur ↔ ∃ t ∈ ws.take j, u = t.take k) ⟨[], y5, rfl, e2, upd_same, List.nodup_nil, fun u => by simp⟩ ?_ ?_ ?_⟩
      · rintro j σ H' _ ⟨cur, z5, _, e, _⟩
        exact .inl (.inl (e _ _ hAu))
      · rintro j x σ H' hj ⟨cur, z5, rfl, e3, hd, nc, hc⟩
        obtain ⟨t, ht, ⟨ax, rfl, hax⟩⟩ := Paired.get1 hAp hj
        have htw : t ∈ ws := List.mem_of_getElem? ht
        have hcut : cutsFrom l (k + 1) t := (hW.2 t).mp htw
        have lt1 : t.length = k + 1 := cutsFrom_len ok (by omega) hcut
        have hcur : ∀ u ∈ cur, cutsFrom l k u := by
          intro u hu
          obtain ⟨t', ht', rfl⟩ := (hc u).mp hu
          exact (cuts_step ok hb _).mpr (.inl ⟨t', (hW.2 t').mp (List.mem_of_mem_take ht'), rfl⟩)
        have lc := few_cuts ok hkl nc hcur
        refine ⟨.ref d, rfl, .ref ax, rfl, .int (k : Nat), rfl, (k : Nat), rfl, ax, _, rfl, .inl (.inl (e3 _ _ hax)), fun z => absurd (slice_whole z.2) (by rw [List.length_map]; omega), fun _ p np => ?_⟩
        rw [cut_take, ← List.map_take]
        have npd : p ≠ d := fun z => by rw [z, hd] at np; cases np
        have e4 := Evl.Ex.new (o := .tup ((t.take k).map V.int)) np
        refine ⟨d, _, rfl, DPut.t (k := keyW (t.take k)) (e4 _ _ hd) (by rw [keyW_kV]; exact upd_same) (by rw [kws_len]; exact lc), ?_⟩
        refine ⟨addW cur (t.take k), _, rfl, (e3.trans e4).mut nd, by rw [upd_same, put_kws], nodup_addW nc, fun u => ?_⟩
        rw [mem_addW, hc u, take_succ_get ht]
        constructor
        · rintro (⟨t', h1, h2⟩ | rfl)
          · exact ⟨t', List.mem_append_left _ h1, h2⟩
          · exact ⟨t, by simp, rfl⟩
        · rintro ⟨t', h1, h2⟩
          rcases List.mem_append.mp h1 with h1 | h1
          · exact .inl ⟨t', h1, h2⟩
          · have : t' = t := by simpa using h1
            subst this
            exact .inr h2
      · rintro σ H2 ⟨cur0, z5, rfl, e3, hd, nc0, hc0⟩
        rw [ul, List.take_length] at hc0
        obtain ⟨ab, cg, gs, rfl, hb1, hb2, hb3⟩ := hba
        have e13 := e1.trans e3
        have gl : gs.length = b.gaps.length := Paired.len hb3
        -- the bolt's own ways
        refine ⟨.ref a, rfl, .int (k : Nat), rfl, a, bs, (k : Nat), .ref ab, rfl, rfl, Evl.ex_t e13 hx, atI_nat hvb, ab, _, 1, .ref cg, rfl, rfl, Evl.ex_t e13 hb1, atI_nat (j := 1) rfl, cg, rfl, ⟨gs, Evl.ex_t e13 hb2⟩,
          for_tup (K := K) (a := cg) (xs := gs) (fun j σ H' => ∃ (cur : List Word) (y6 y7 : Option V), σ = [some (.ref a), some (.ref r0), some (.ref aA), some (.int (k : Nat)), some (.ref d), z5, y6, y7] ∧
            Evl.Ex H1 H' ∧ H' d = some (.dT (kws cur fun _ => .bl true)) ∧ cur.Nodup ∧ ∀ u, u ∈ cur ↔ (∃ t ∈ ws, u = t.take k) ∨ ∃ g ∈ b.gaps.take j, u ∈ g.ways) ⟨cur0, y6, y7, rfl, e3, hd, nc0, fun u => by rw [hc0]; simp⟩ ?_ ?_ ?_⟩
        · rintro j σ H' _ ⟨cur, _, _, _, e, _⟩
          exact Evl.ex_t (e1.trans e) hb2
        · rintro j x σ H' hj ⟨cur, z6, z7, rfl, e4, hd4, nc, hc⟩
          obtain ⟨g, hgj, ⟨ag, bg, wv, rfl, hg1, hg2, hg3⟩⟩ := Paired.get1 hb3 hj
          have hgm : g ∈ b.gaps := List.mem_of_getElem? hgj
          have e14 := e1.trans e4
          have wl : wv.length = g.ways.length := Paired.len hg3
          refine ⟨.ref ag, rfl, ag, _, 3, .ref bg, rfl, rfl, Evl.ex_t e14 hg1, atI_nat (j := 3) rfl, bg, rfl, ⟨wv, Evl.ex_t e14 hg2⟩,
            for_tup (K := K) (a := bg) (xs := wv) (fun m σ H' => ∃ (cur : List Word) (y7 : Option V), σ = [some (.ref a), some (.ref r0), some (.ref aA), some (.int (k : Nat)), some (.ref d), z5, some (.ref ag), y7] ∧
              Evl.Ex H1 H' ∧ H' d = some (.dT (kws cur fun _ => .bl true)) ∧ cur.Nodup ∧ ∀ u, u ∈ cur ↔ ((∃ t ∈ ws, u = t.take k) ∨ ∃ g ∈ b.gaps.take j, u ∈ g.ways) ∨ u ∈ g.ways.take m) ⟨cur, z7, rfl, e4, hd4, nc, fun u => by rw [hc]; simp⟩ ?_ ?_ ?_⟩
          · rintro m σ H' _ ⟨_, _, _, e, _⟩
            exact Evl.ex_t (e1.trans e) hg2
          · rintro m x σ H3 hm ⟨cur, z7, rfl, e5, hd5, nc, hc⟩
            obtain ⟨t, ht, ⟨ax, rfl, hax⟩⟩ := Paired.get1 hg3 hm
            have hcur : ∀ u ∈ cur, cutsFrom l k u := by
              intro u hu
              rcases (hc u).mp hu with (⟨t', ht', rfl⟩ | ⟨g', hg', hu'⟩) | hu'
              · exact (cuts_step ok hb _).mpr (.inl ⟨t', (hW.2 t').mp ht', rfl⟩)
              · exact (cuts_step ok hb _).mpr (.inr ⟨g', List.mem_of_mem_take hg', hu'⟩)
              · exact (cuts_step ok hb _).mpr (.inr ⟨g, hgm, List.mem_of_mem_take hu'⟩)
            have lc := few_cuts ok hkl nc hcur
            refine ⟨.ref d, rfl, .ref ax, rfl, d, _, rfl, DPut.t (k := keyW t) hd5 (by rw [keyW_kV]; exact (e1.trans e5) _ _ hax) (by rw [kws_len]; exact lc), ?_⟩
            refine ⟨addW cur t, _, rfl, e5.mut nd, by rw [upd_same, put_kws], nodup_addW nc, fun u => ?_⟩
            rw [mem_addW, hc u, take_succ_get ht, List.mem_append, or_assoc]
            simp
          · rintro σ H3 ⟨cur, z7, rfl, e5, hd5, nc, hc⟩
            refine ⟨cur, _, _, rfl, e5, hd5, nc, fun u => ?_⟩
            rw [hc u, wl, List.take_length, take_succ_get hgj, or_assoc]
            simp only [List.mem_append, List.mem_singleton]
            constructor
            · rintro (h | ⟨g', h1, h2⟩ | h)
              · exact .inl h
              · exact .inr ⟨g', .inl h1, h2⟩
              · exact .inr ⟨g, .inr rfl, h⟩
            · rintro (h | ⟨g', h1 | h1, h2⟩)
              · exact .inl h
              · exact .inr (.inl ⟨g', h1, h2⟩)
              · exact .inr (.inr (h1 ▸ h2))
        · rintro σ H2 ⟨cur, z6, z7, rfl, e4, hd4, nc, hc⟩
          rw [gl, List.take_length] at hc
          have hcur : ∀ u, u ∈ cur ↔ cutsFrom l k u := by
            intro u
            rw [hc u, cuts_step ok hb u]
            constructor
            · rintro (⟨t, h1, h2⟩ | h)
              · exact .inl ⟨t, (hW.2 t).mp h1, h2⟩
              · exact .inr h
            · rintro (⟨t, h1, h2⟩ | h)
              · exact .inl ⟨t, (hW.2 t).mpr h1, h2⟩
              · exact .inr h
          refine ⟨.ref d, rfl, d, _, rfl, .inl hd4, fun p qs np hk' => ?_⟩
          have hrows := isKeys_rows (K := K) hk'
          have e5 := Evl.Ex.new (o := .lst (qs.map V.ref)) np
          have npr : p ≠ r0 := fun z => by rw [z, e4 _ _ hR] at np; cases np
          have hR5 : (upd H2 p (.lst (qs.map V.ref))) r0 = some (.lst (rs.map V.ref)) := e5 _ _ (e4 _ _ hR)
          refine ⟨.ref r0, rfl, .inl ⟨rfl, _, SqL.of hR5⟩, .ref p, rfl, r0, _, _, rfl, rfl, hR5, ?_, ?_⟩
          · rw [List.length_map, hl]
            exact Nat.lt_of_lt_of_le (show i < 61 by omega) (by decide)
          · have e15 : Evl.Ex H1 (upd H2 p (.lst (qs.map V.ref))) := e4.trans e5
            have keep : ∀ {r : Addr} {ws' : List Word} {Hx : Hp}, r ≠ r0 → RowAt K Hx r ws' → Hx r0 ≠ none → (∀ xs, Hx r0 ≠ some (.tup xs)) → ∀ o, RowAt K (upd Hx r0 o) r ws' := by
              rintro r ws' Hx hne ⟨us', h1, h2⟩ _ ht o
              refine ⟨us', by rw [upd_ne hne]; exact h1, Paired.imp (fun v w' h => ?_) h2⟩
              obtain ⟨ax, rfl, hax⟩ := h
              exact ⟨ax, rfl, by rw [upd_ne (fun z => ht _ (z ▸ hax))]; exact hax⟩
            have nn : (upd H2 p (.lst (qs.map V.ref))) r0 ≠ none := by rw [hR5]; exact fun z => nomatch z
            have nt : ∀ xs, (upd H2 p (.lst (qs.map V.ref))) r0 ≠ some (.tup xs) := fun xs z => by rw [hR5] at z; cases z
            have hP : RowAt K (upd H2 p (.lst (qs.map V.ref))) p cur := ⟨qs.map V.ref, upd_same, Paired.imp (fun _ _ => wd_ex e5) hrows⟩
            have hWk : WordsAt l k cur := ⟨nc, hcur⟩
            refine ⟨p, rs ++ [p], cur, _, _, _, _, _, rfl, (e1.trans e15).mut nr0, keep npr hP nn nt _, ?_, by rw [upd_same, List.map_append]; rfl, by simp [hl], ?_⟩
            · rw [show l.length - (i + 1) = k by omega]
              exact hWk
            · intro j r hj
              by_cases hjl : j < rs.length
              · rw [List.getElem?_append_left hjl] at hj
                obtain ⟨h1, h0, ws', h2, h3⟩ := hrs j r hj
                exact ⟨h1, h0, ws', keep h1 (h2.ex e15) nn nt _, h3⟩
              · rw [List.getElem?_append_right (by omega)] at hj
                have : j = rs.length := by
                  by_cases e : j - rs.length = 0
                  · omega
                  · rw [List.getElem?_eq_none (by simp; omega)] at hj; cases hj
                subst this
                rw [Nat.sub_self] at hj
                have er : r = p := (Option.some.inj hj).symm
                subst er
                exact ⟨npr, Evl.fresh_back (e1.trans e4) np, cur, keep npr hP nn nt _, by rw [hl, hk]; exact hWk⟩
    · rintro σ H1 ⟨aA, rs, ws, y3, y4, y5, y6, y7, rfl, e1, hA, hW, hR, hl, hrs⟩
      have hl' : rs.length = l.length := by rw [hl, bl]; omega
      refine ⟨.ref r0, rfl, r0, _, rfl, .inl (.inl hR), fun p np => ?_⟩
      rw [← List.map_reverse]
      have e2 := Evl.Ex.new (o := .lst (rs.reverse.map V.ref)) np
      refine q _ p rs.reverse (e1.trans e2) (Evl.fresh_back e1 np) upd_same (by rw [List.length_reverse, hl']) ?_
      intro k r hk
      have hk2 : k < rs.reverse.length := (List.getElem?_eq_some_iff.mp hk).1
      rw [List.length_reverse] at hk2
      rw [List.getElem?_reverse hk2] at hk
      obtain ⟨_, h0, ws', h2, h3⟩ := hrs _ r hk
      refine ⟨h0, ws', h2.ex e2, ?_⟩
      rw [show l.length - 1 - (rs.length - 1 - k) = k by omega] at h3
      exact h3
end
end Wb

set_option Elab.async false
set_option linter.all false
set_option maxRecDepth 100000
set_option maxHeartbeats 4000000
set_option pp.maxSteps 600
set_option pp.deepTerms false
namespace L2
open PySem PySem.Spec PyProof.Rows
/-! ### {k: v for .. in ..}, keys that are tuples -/
theorem dT_set {X : Cx} {pins : List (Addr × Obj)} {σ : L2.St} {H : Hp} {s : Shared} {E : Value → Shared → Prop} {D q : Addr} {kvs : List (List Key × V)} {k : List Key} {v : V} {r : Value} {Q : Unit → Shared → Prop} (hu : X.A.units + 1 < cLine)
    (I : Inv X pins σ H s) (hD : H D = some (.dT kvs)) (hz : kvs.length < sizeLine) (hq : H q = some (.tup (k.map kV))) (rv : RelV v r)
    (go : ∀ s', Inv X pins σ (upd H D (.dT (putK kvs k v))) s' → Q () s') : wpAny (model X.prog X.w) X.A (dictSet D (.ref q) r) Q E s := by
  obtain ⟨z, hd, xs, rel, dd⟩ := dt_of I.hok hD
  have n1 : xs.length ≤ sizeLine := by rw [← Paired.length rel]; exact z
  have n2 : (putK kvs k v).length ≤ sizeLine := by have := length_putK kvs k v; omega
  apply wpAny_dictSet_heap (hsz := n1) (show (tupleKind (mixKind X.prog X.w)).room X.A from Nat.lt_trans (Nat.lt_succ_self _) hu) (key_of I.hok hq) dd
  intro h' dd' hs
  apply go
  obtain ⟨o, es, ep, e1, e2, e3, e4, _, e5⟩ := dd'
  apply d_write I (by rw [hD]; exact True.intro) hs ⟨o, e1⟩
  refine ⟨n2, hd, _, (rel.put k hq rv).keeps ?_, o, es, ep, e1, e2, e3, e4, e5⟩
  intro c ys ec
  rw [upd_ne (ne_of ec hD (fun z => nomatch z))]
  exact ec
section
variable {X : Cx}
def tDcT (wi : TI) (g : TG) (tt : TT) (tk tv : TE) (vs : List Nat) : TE := fun σ H Q => wi σ H fun J H1 => ∀ D, H1 D = none → ∃ W : Nat → Nat → Hp → Prop, (∃ m, W 0 m (upd H1 D (.dT []))) ∧ ∀ i m H, W i m H →
  (J.stop i H ∧ Q (.ref D) H) ∨ (J.go i H ∧ ∃ Nx : Hp → Prop, (∀ H', Nx H' → ∃ m', m' < m ∧ W (i + 1) m' H') ∧ ∀ x H', J.yld i H x H' → g x (wipe σ vs) H' fun σ2 H2 => wipe σ2 vs = wipe σ vs ∧ tt σ2 H2 fun b H3 =>
    if b = true then tk σ2 H3 fun y H4 => tv σ2 H4 fun z H5 => ∃ kvs k q, y = .ref q ∧ H5 q = some (.tup (k.map kV)) ∧ H5 D = some (.dT kvs) ∧ kvs.length < sizeLine ∧ Nx (upd H5 D (.dT (putK kvs k z))) else Nx H3)
theorem dct_core {pins : List (Addr × Obj)} {s : Shared} {σ : L2.St} {H : Hp} {Q : VK} {kx vx tg iter : Expr} {ifs : List Expr} {sc : Scope} {own : List (Str × Nat)} {pos pos' : Pos} {wi : TI} {g : TG} {tt : TT} {tk tv : TE}
    {use : Option (Value → Sem Unit)} {Qf : Value → Shared → Prop} (hu : X.A.units + 1 < cLine) (hc : X.calm = true) (hN : X.N.Nodup) (I : Inv X pins σ H s) (hi : PI X tg iter wi) (ok : BlkOk X.N X.env.scope sc own)
    (pgs : ∀ (s : Shared) (H : Hp) (C : Addr) (cl : List (Str × Addr)) (fp : List Addr), PG (X.blk s H sc (compEnvC sc cl C X.env) fp) tg g)
    (pts : ∀ (s : Shared) (H : Hp) (C : Addr) (cl : List (Str × Addr)) (fp : List Addr), PTs (X.blk s H sc (compEnvC sc cl C X.env) fp) ifs tt)
    (pks : ∀ (s : Shared) (H : Hp) (C : Addr) (cl : List (Str × Addr)) (fp : List Addr), PE (X.blk s H sc (compEnvC sc cl C X.env) fp) kx tk)
    (pes : ∀ (s : Shared) (H : Hp) (C : Addr) (cl : List (Str × Addr)) (fp : List Addr), PE (X.blk s H sc (compEnvC sc cl C X.env) fp) vx tv)
    (hs : ∀ x, foldedSetIterable iter X.env x = pure x) (h : tDcT wi g tt tk tv (own.map (·.2)) σ H Q)
    (fin0 : ∀ D C s' m H', Inv X pins σ H' s' → Q (.ref D) H' → s'.heap.Ns C m → FpOk X pins H' C → compPost (model X.prog X.w) X.A X.xe use Qf (.ref D) C (.ok .next) s') :
    wpAny (model X.prog X.w) X.A (comprehension (.DictComp kx vx [⟨tg, iter, ifs, 0⟩] sc pos) sc X.env pos' newDict false (eval iter X.env) use) Qf X.xe s := by
  have frees : ∀ y ∈ sc.names, y.2 = .free → ∃ c, X.env.cells.lookup y.1 = some c := by
    intro y hy e
    cases ok.free y hy e with
    | inl k => exact I.ok.has _ (.inl k)
    | inr k => exact I.ok.has _ (.inr k)
  apply wpAny_comprehension_free (use := use) rfl hs (closure_ok frees) ok.kind (fun y hy e => by rw [ok.uniq y hy, e])
  refine thn (hi.run pins s σ H _ I h) ?_
  intro xv s1 hx
  refine thn hx ?_
  rintro itv s2 ⟨it, fp, tn, J, H2, rfl, I2, T, st2, f2, q⟩
  refine wpAny_newObj_type (newEnv_comp ?_)
  obtain ⟨D, hD⟩ : ∃ D, s2.heap.objs.size = D := ⟨_, rfl⟩
  have hDn : H2 D = none := I2.hok.fresh (Nat.le_of_eq hD)
  obtain ⟨W, ⟨m0, w0⟩, turn⟩ := q D hDn
  obtain ⟨s3, hs3⟩ : ∃ s3 : Shared, ({ s2 with heap := s2.heap.push { cls := .type "dict", data := .dict #[] } } : Shared) = s3 := ⟨_, rfl⟩
  rw [hD, hs3]
  have h3 : s3.heap = s2.heap.push { cls := .type "dict", data := .dict #[] } := by rw [← hs3]
  have I3 : Inv X pins σ (upd H2 D (.dT [])) s3 := by
    subst hs3
    apply I2.laid (t' := s2.toks) (fun b o e => Heap.get?_push_of_some _ e) (Nat.le_of_eq hD)
    subst hD
    exact dt_empty s2.heap I2.big
  have below : ∀ b ∈ fp, b < s2.heap.objs.size := by
    intro b hb
    obtain ⟨o, e, _⟩ := T.obj _ _ st2 b hb
    exact Heap.lt_size e
  have f3 : ∀ b ∈ fp, FpOk X pins (upd H2 D (.dT [])) b ∧ b < s3.heap.objs.size := by
    intro b hb
    have lt := below b hb
    refine ⟨⟨?_, (f2 b hb).2⟩, by rw [h3, Heap.size_push]; exact Nat.lt_succ_of_lt lt⟩
    rw [upd_ne (by subst hD; exact Nat.ne_of_lt lt)]
    exact (f2 b hb).1
  have st3 : tn 0 s3.heap := by
    apply T.keep _ _ _ st2
    intro b _ o e
    rw [h3]
    exact Heap.get?_push_of_some _ e
  have I4 := block_start I3 ok hN f3
  have pg := pgs s3 (upd H2 D (.dT [])) s3.heap.objs.size (cellsFrom (s3.heap.objs.size + 1) sc.names (cloFrom X.env.cells sc.names [])) fp
  have pt := pts s3 (upd H2 D (.dT [])) s3.heap.objs.size (cellsFrom (s3.heap.objs.size + 1) sc.names (cloFrom X.env.cells sc.names [])) fp
  have pk := pks s3 (upd H2 D (.dT [])) s3.heap.objs.size (cellsFrom (s3.heap.objs.size + 1) sc.names (cloFrom X.env.cells sc.names [])) fp
  have pe := pes s3 (upd H2 D (.dT [])) s3.heap.objs.size (cellsFrom (s3.heap.objs.size + 1) sc.names (cloFrom X.env.cells sc.names [])) fp
  show codeAny _ _ (.compStart (.DictComp kx vx [⟨tg, iter, ifs, 0⟩] sc pos) 0 (.ref it) (.ref D) (compEnvC sc (cellsFrom (s3.heap.objs.size + 1) sc.names (cloFrom X.env.cells sc.names [])) s3.heap.objs.size X.env)) _ { s3 with heap := pushCells (s3.heap.push { cls := .type "dict", data := .dict #[] }) sc.names }
  have none3 : ∀ b ∈ fp, (upd H2 D (.dT [])) b = none := fun b hb => (f3 b hb).1.1
  generalize hce : compEnvC sc (cellsFrom (s3.heap.objs.size + 1) sc.names (cloFrom X.env.cells sc.names [])) s3.heap.objs.size X.env = ce at I4 pg pt pk pe ⊢
  have cL : ce.locals = s3.heap.objs.size := by rw [← hce]; rfl
  generalize hH3 : upd H2 D (.dT []) = H3 at I3 I4 pg pt pk pe w0 none3 f3
  generalize hs4 : ({ s3 with heap := pushCells (s3.heap.push { cls := .type "dict", data := .dict #[] }) sc.names } : Shared) = s4 at I4 ⊢
  have st4 : tn 0 s4.heap := by
    apply T.keep _ _ _ st3
    intro b _ o e
    rw [← hs4]
    exact pushCells_keeps _ _ _ _ (Heap.get?_push_of_some _ e)
  have stat : ∀ {σ' : L2.St} {H' : Hp} {s' : Shared}, Inv (X.blk s3 H3 sc ce fp) [] σ' H' s' → (∀ b ∈ fp, H' b = none) → ∀ b ∈ fp, FpOk (X.blk s3 H3 sc ce fp) [] H' b := by
    intro σ' H' s' I' hn b hb
    refine ⟨hn b hb, (I'.ok.exf b hb).1, I'.ok.exfs b hb, .inl hb, fun x c e => (I'.ok.exf b hb).2 x c e, ?_⟩
    intro p hp
    exact absurd (show p ∈ ([] : List (Addr × Obj)) ++ [] from hp) (by simp)
  refine (fun loop => codeAny_compStart_dict loop (T.self X.A 0 _ _ _ st4 loop)) ?_
  apply compLoop_anyD (fun n s' => ∃ i H', Inv (X.blk s3 H3 sc ce fp) [] (wipe σ (own.map (·.2))) H' s' ∧ tn i s'.heap ∧ (∀ b ∈ fp, H' b = none) ∧ W i n H') _ m0 ⟨0, H3, I4, st4, none3, w0⟩
  rintro n s5 ⟨i, H5, I5, st5, n5, w5⟩
  rcases turn i n H5 w5 with ⟨stop, qq⟩ | ⟨go, Nx, hNx, step⟩
  · refine thnF (T.done (X.blk s3 H3 sc ce fp) rfl rfl rfl hc i [] s5 _ H5 (fun _ _ => False) I5 (stat I5 n5) st5 stop) ?_
    rintro r s6 ⟨rfl, I6⟩
    have I7 : Inv X pins σ H5 s6 := I3.call' (ch := fp) I6.os I6.base I6.hok I6.bare (fun b hb => by
      have z := (f3 b hb).1
      exact ⟨z.2.2.2.1, z.2.1, z.2.2.2.2.1, z.2.2.2.2.2⟩)
    have nC : H5 s3.heap.objs.size = none := by
      rw [← cL]
      exact I6.free
    obtain ⟨m, hn, _⟩ := I6.loc
    have hn' : s6.heap.Ns s3.heap.objs.size m := by
      rw [← cL]
      exact hn
    exact fin0 D s3.heap.objs.size s6 m H5 I7 qq hn' (I3.fpOk (b := s3.heap.objs.size) (Nat.le_refl _) nC)
  · refine thnF (T.item (X.blk s3 H3 sc ce fp) rfl rfl rfl hc i [] s5 _ H5 (fun _ _ => False) I5 (stat I5 n5) st5 go) ?_
    rintro r s6 ⟨u, rfl, h6⟩
    refine thnF h6 ?_
    rintro _ s7 ⟨x, H7, I7, r7, y7, st7, n7⟩
    have I7p := I7.pinned (stat I7 n7) (T.obj _ _ st7)
    refine thnF (pg.run _ s7 _ H7 x u _ I7p r7 (step x H7 y7)) ?_
    rintro _ s8 ⟨σ8, H8, I8, hw8, q8⟩
    refine thnF (pt.run _ s8 σ8 H8 _ I8 q8) ?_
    rintro b s9 ⟨H9, I9, q9⟩
    have fin : ∀ {s' : Shared} {H' : Hp}, Inv (X.blk s3 H3 sc ce fp) ([] ++ pinsAt fp s7.heap) σ8 H' s' → Nx H' →
        ∃ m, m < n ∧ ∃ i H', Inv (X.blk s3 H3 sc ce fp) [] (wipe σ (own.map (·.2))) H' s' ∧ tn i s'.heap ∧ (∀ b ∈ fp, H' b = none) ∧ W i m H' := by
      intro s' H' I' nx
      obtain ⟨m', hm, w'⟩ := hNx H' nx
      have stay : ∀ b ∈ fp, ∀ o, s7.heap.get? b = some o → s'.heap.get? b = some o ∧ H' b = none := by
        intro b hb o e
        have z := I'.pin (b, o) (List.mem_append_right _ (List.mem_append_right _ (mem_pinsAt hb e)))
        exact ⟨z.1, z.2.1⟩
      refine ⟨m', hm, i + 1, H', (I'.unpinned (pins := [])).weak (by rw [← hw8, wipe_length]) ?_, T.keep _ _ _ st7 (fun b hb o e => (stay b hb o e).1), ?_, w'⟩
      · intro j v e
        rw [← hw8] at e
        exact (wipe_some e).1
      · intro b hb
        obtain ⟨o, e, _⟩ := T.obj _ _ st7 b hb
        exact (stay b hb o e).2
    cases b
    · simp only [Bool.false_eq_true, if_false] at q9 ⊢
      exact fin I9 q9
    · simp only [if_true] at q9 ⊢
      refine thnF (pk.run _ s9 σ8 H9 _ I9 q9) ?_
      rintro z s10 ⟨yk, H10, I10, r10, q10⟩
      refine thnF (pe.run _ s10 σ8 H10 _ I10 q10) ?_
      rintro z2 s11 ⟨yv, H11, I11, r11, kvs, k, kq, rfl, hkq, hD11, hz11, nx⟩
      cases r10
      exact dT_set (X := X.blk s3 H3 sc ce fp) hu I11 hD11 hz11 hkq r11 (fun s12 I12 => fin I12 nx)
theorem pe_dcT {kx vx tg iter : Expr} {ifs : List Expr} {sc : Scope} {own : List (Str × Nat)} {pos : Pos} {wi : TI} {g : TG} {tt : TT} {tk tv : TE} (hu : X.A.units + 1 < cLine) (hc : X.calm = true) (hN : X.N.Nodup) (hi : PI X tg iter wi) (ok : BlkOk X.N X.env.scope sc own)
    (pgs : ∀ (s : Shared) (H : Hp) (C : Addr) (cl : List (Str × Addr)) (fp : List Addr), PG (X.blk s H sc (compEnvC sc cl C X.env) fp) tg g)
    (pts : ∀ (s : Shared) (H : Hp) (C : Addr) (cl : List (Str × Addr)) (fp : List Addr), PTs (X.blk s H sc (compEnvC sc cl C X.env) fp) ifs tt)
    (pks : ∀ (s : Shared) (H : Hp) (C : Addr) (cl : List (Str × Addr)) (fp : List Addr), PE (X.blk s H sc (compEnvC sc cl C X.env) fp) kx tk)
    (pes : ∀ (s : Shared) (H : Hp) (C : Addr) (cl : List (Str × Addr)) (fp : List Addr), PE (X.blk s H sc (compEnvC sc cl C X.env) fp) vx tv)
    (hs : ∀ x, foldedSetIterable iter X.env x = pure x := by intro _; rfl) : PE X (.DictComp kx vx [⟨tg, iter, ifs, 0⟩] sc pos) (tDcT wi g tt tk tv (own.map (·.2))) := by
  constructor
  intro pins s σ H Q I h
  rw [arm_eval_DictComp]
  apply dct_core hu hc hN I hi ok pgs pts pks pes hs h
  intro D C s' m H' I' q hn f
  refine ⟨m, hn, ?_⟩
  intro h'' sb
  obtain ⟨g0, g1, g2, g3, g4, g5⟩ := f
  exact ⟨.ref D, H', I'.turned (t' := s'.toks) (fun b o hb e => (sb.2 b hb).trans e) g0 g1 g3 g4 g5, rfl, q⟩
/-- name = {..} on one line, the name a local -/
theorem ps_setDcT {i : Nat} {y : Str} {py : Pos} {kx vx tg iter : Expr} {ifs : List Expr} {sc : Scope} {own : List (Str × Nat)} {pos spos : Pos} {wi : TI} {g : TG} {tt : TT} {tk tv : TE} (hu : X.A.units + 1 < cLine) (hc : X.calm = true) (hN : X.N.Nodup)
    (hy : X.N[i]? = some y) (hyl : X.env.scope.names.lookup y = some .local) (hsw : swapsWith (.DictComp kx vx [⟨tg, iter, ifs, 0⟩] sc pos) (some (.Name y py)) spos.line X.env = pure true) (hi : PI X tg iter wi) (ok : BlkOk X.N X.env.scope sc own)
    (pgs : ∀ (s : Shared) (H : Hp) (C : Addr) (cl : List (Str × Addr)) (fp : List Addr), PG (X.blk s H sc (compEnvC sc cl C X.env) fp) tg g)
    (pts : ∀ (s : Shared) (H : Hp) (C : Addr) (cl : List (Str × Addr)) (fp : List Addr), PTs (X.blk s H sc (compEnvC sc cl C X.env) fp) ifs tt)
    (pks : ∀ (s : Shared) (H : Hp) (C : Addr) (cl : List (Str × Addr)) (fp : List Addr), PE (X.blk s H sc (compEnvC sc cl C X.env) fp) kx tk)
    (pes : ∀ (s : Shared) (H : Hp) (C : Addr) (cl : List (Str × Addr)) (fp : List Addr), PE (X.blk s H sc (compEnvC sc cl C X.env) fp) vx tv)
    (hs : ∀ x, foldedSetIterable iter X.env x = pure x := by intro _; rfl) :
    PS X (.Assign [.Name y py] (.DictComp kx vx [⟨tg, iter, ifs, 0⟩] sc pos) spos) (tAsg (tDcT wi g tt tk tv (own.map (·.2))) (gName i)) := by
  constructor
  intro pins s σ H D I h
  rw [exec_Assign_Name_used _ _ _ _ hsw]
  apply wpAny_bind
  apply wpAny_standAt
  apply wpAny_bind
  show wpAny _ X.A (do let _ ← comprehension (.DictComp kx vx [⟨tg, iter, ifs, 0⟩] sc pos) sc X.env (firstIterPos [⟨tg, iter, ifs, 0⟩] pos) newDict false (eval iter X.env) (some (assign (.Name y py) X.env))) _ _ s
  have h' : tDcT wi g tt tk tv (own.map (·.2)) σ H (fun x H1 => gName i x σ H1 D.nx) := h
  apply wpAny_bind
  refine thn (dct_core (Qf := fun _ s' => SP X pins D .next s') hu hc hN I hi ok pgs pts pks pes hs h' ?_) (fun _ s' hq => wpAny_pure (wpAny_pure hq))
  intro L C s' m H' I' q hn f
  show wpAny _ _ (assign (.Name y py) X.env (.ref L)) _ _ _
  apply wpAny_assign_Name
  refine store_ok2 (v := V.ref L) I' hN hy (.inl hyl) rfl ?_ (.inr hyl)
  rintro s2 I2 ⟨a, sb, ha⟩
  obtain ⟨g0, g1, g2, g3, g4, g5⟩ := f
  have apart : C ≠ a := by
    cases ha with
    | inl z => rw [z]; exact g1
    | inr z => exact fun e => g4 y a z e.symm
  refine ⟨m, hn.sameBut sb apart, ?_⟩
  intro h3 sb3
  exact ⟨_, H', I2.turned (t' := s2.toks) (fun b o hb e => (sb3.2 b hb).trans e) g0 g1 g3 g4 g5, q⟩
end
end L2

set_option Elab.async false
set_option linter.all false
set_option maxRecDepth 100000
set_option maxHeartbeats 4000000
set_option pp.maxSteps 600
set_option pp.deepTerms false
namespace Wb
open PySem PySem.Spec PyProof.Rows L2
abbrev sMoves : Stmt := topS 15
theorem scMoves : FnScope ["lock", "rows", "words", "bolt", "moves", "here", "there", "price", "ways", "way", "word"] ["lock"] (defScope sMoves) := ⟨rfl, rfl, rfl, by decide +kernel, rfl, by decide +kernel, by decide +kernel⟩

/-- a dict comprehension over any walk -/
theorem dct_it {J : It} {n : Nat} {G : Hp → Prop} {Y : Nat → Hp → V → Hp → Prop} (w : Walk J n G Y) {g : TG} {tt : TT} {tk tv : TE} {vs : List Nat} {σ : L2.St} {H1 : Hp} {D : Addr} {Qd : Hp → Prop} (Pv : Nat → Hp → Prop)
    (h0 : Pv 0 (upd H1 D (.dT []))) (hG : ∀ i H, i ≤ n → Pv i H → G H)
    (hs : ∀ i x H H', i < n → Pv i H → Y i H x H' → g x (wipe σ vs) H' fun σ2 H2 => wipe σ2 vs = wipe σ vs ∧ tt σ2 H2 fun b H3 =>
      if b = true then tk σ2 H3 fun y H4 => tv σ2 H4 fun z H5 => ∃ kvs k q, y = .ref q ∧ H5 q = some (.tup (k.map kV)) ∧ H5 D = some (.dT kvs) ∧ kvs.length < sizeLine ∧ Pv (i + 1) (upd H5 D (.dT (putK kvs k z))) else Pv (i + 1) H3)
    (hd : ∀ H, Pv n H → Qd H) :
    ∃ W : Nat → Nat → Hp → Prop, (∃ m, W 0 m (upd H1 D (.dT []))) ∧ ∀ i m H, W i m H →
      (J.stop i H ∧ Qd H) ∨ (J.go i H ∧ ∃ Nx : Hp → Prop, (∀ H', Nx H' → ∃ m', m' < m ∧ W (i + 1) m' H') ∧ ∀ x H', J.yld i H x H' → g x (wipe σ vs) H' fun σ2 H2 => wipe σ2 vs = wipe σ vs ∧ tt σ2 H2 fun b H3 =>
        if b = true then tk σ2 H3 fun y H4 => tv σ2 H4 fun z H5 => ∃ kvs k q, y = .ref q ∧ H5 q = some (.tup (k.map kV)) ∧ H5 D = some (.dT kvs) ∧ kvs.length < sizeLine ∧ Nx (upd H5 D (.dT (putK kvs k z))) else Nx H3) := by
  refine ⟨fun i m H => (m = n - i ∧ i ≤ n) ∧ Pv i H, ⟨n, ⟨rfl, Nat.zero_le _⟩, h0⟩, ?_⟩
  rintro i m H ⟨⟨rfl, hi⟩, p⟩
  have gg := hG i H hi p
  rcases Nat.lt_or_eq_of_le hi with lt | rfl
  · refine .inr ⟨w.goes i H lt gg, Pv (i + 1), ?_, ?_⟩
    · intro H' p'
      exact ⟨n - (i + 1), by omega, ⟨rfl, lt⟩, p'⟩
    · intro x H' y
      exact hs i x H H' lt p (w.yields i H x H' lt gg y)
  · exact .inl ⟨w.stops H gg, hd H p⟩

/-! ### moves by word -/
structure Tr3 where
  frm : Int
  to_ : Int
  price : Int
def TrAt (H : Hp) (v : V) (t : Tr3) : Prop := ∃ a, v = .ref a ∧ H a = some (.tup [.int t.frm, .int t.to_, .int t.price])
def trOf (g : Gap) : Tr3 := ⟨g.frm, g.to_, g.price⟩
def movesL (gs : List Gap) (w : Word) : List Tr3 := (gs.filter fun g => decide (w ∈ g.ways)).map trOf
def kps (ps : List (Word × Addr)) : List (List Key × V) := ps.map fun q => (keyW q.1, .ref q.2)
theorem kps_any (ps : List (Word × Addr)) (w : Word) : ((kps ps).any fun kv => decide (kv.1 = keyW w)) = decide (w ∈ ps.map (·.1)) := by
  unfold kps
  rw [List.any_map, Bool.eq_iff_iff]
  simp only [List.any_eq_true, Function.comp, decide_eq_true_eq, List.mem_map]
  constructor
  · rintro ⟨q, hq, e⟩
    exact ⟨q, hq, keyW_inj e⟩
  · rintro ⟨q, hq, e⟩
    exact ⟨q, hq, by rw [e]⟩
theorem put_kps {ps : List (Word × Addr)} {w : Word} (h : w ∉ ps.map (·.1)) (a : Addr) : putK (kps ps) (keyW w) (.ref a) = kps (ps ++ [(w, a)]) := by
  unfold putK
  rw [kps_any, if_neg (by rw [decide_eq_false h]; exact Bool.false_ne_true)]
  unfold kps
  rw [List.map_append]
  rfl
theorem valV_kps_none {ps : List (Word × Addr)} {w : Word} (h : w ∉ ps.map (·.1)) : valV (kps ps) (keyW w) = none := by
  have z := valV_any (keyW w) (kps ps)
  rw [kps_any, decide_eq_false h] at z
  cases e : valV (kps ps) (keyW w) with
  | none => rfl
  | some v => rw [e] at z; cases z
theorem valV_kps {ps : List (Word × Addr)} {q : Word × Addr} (hn : (ps.map (·.1)).Nodup) (h : q ∈ ps) : valV (kps ps) (keyW q.1) = some (.ref q.2) := by
  induction ps with
  | nil => cases h
  | cons p ps ih =>
    rw [List.map_cons, List.nodup_cons] at hn
    rcases List.mem_cons.mp h with rfl | h
    · exact valV_pos rfl
    · have ne : ¬ keyW p.1 = keyW q.1 := fun e => hn.1 (by rw [keyW_inj e]; exact List.mem_map.mpr ⟨q, h, rfl⟩)
      have z : valV (kps (p :: ps)) (keyW q.1) = valV (kps ps) (keyW q.1) := valV_neg ne
      rw [z]
      exact ih hn.2 h
/-- the dict of bolt b's moves, by words, its lists apart from r0 -/
def MvAt (H : Hp) (r0 d : Addr) (gs : List Gap) (ws : List Word) : Prop :=
  ∃ ps : List (Word × Addr), ps.map (·.1) = ws ∧ H d = some (.dT (kps ps)) ∧ ∀ q ∈ ps, q.2 ≠ r0 ∧ ∃ us, H q.2 = some (.lst us) ∧ Paired (TrAt H) us (movesL gs q.1)
theorem TrAt.ex {H H' : Hp} (e : Evl.Ex H H') {v : V} {t : Tr3} (h : TrAt H v t) : TrAt H' v t := by
  obtain ⟨a, r, q⟩ := h
  exact ⟨a, r, e _ _ q⟩
theorem MvAt.ex {H H' : Hp} (e : Evl.Ex H H') {r0 d : Addr} {gs : List Gap} {ws : List Word} (h : MvAt H r0 d gs ws) : MvAt H' r0 d gs ws := by
  obtain ⟨ps, h1, h2, h3⟩ := h
  refine ⟨ps, h1, e _ _ h2, fun q hq => ?_⟩
  obtain ⟨a, us, b, c⟩ := h3 q hq
  exact ⟨a, us, e _ _ b, Paired.imp (fun _ _ => TrAt.ex e) c⟩
theorem MvAt.put {H : Hp} {r0 d : Addr} {xs ys : List V} (hr : H r0 = some (.lst xs)) {gs : List Gap} {ws : List Word} (h : MvAt H r0 d gs ws) : MvAt (upd H r0 (.lst ys)) r0 d gs ws := by
  obtain ⟨ps, h1, h2, h3⟩ := h
  refine ⟨ps, h1, by rw [upd_ne (ne_of h2 hr (fun z => nomatch z))]; exact h2, fun q hq => ?_⟩
  obtain ⟨a, us, b, c⟩ := h3 q hq
  refine ⟨a, us, by rw [upd_ne a]; exact b, Paired.imp (fun v t => ?_) c⟩
  rintro ⟨x, rfl, hx⟩
  exact ⟨x, rfl, by rw [upd_ne (ne_of hx hr (fun z => nomatch z))]; exact hx⟩
def spMoves (K : PySem.W.Frag) : Sp := fun vs H Q _ => ∃ (v : V) (l : Lock), vs = [v] ∧ LockAt K H v l ∧ LockOk l ∧
  ∀ H' p (ds : List Addr), Evl.Ex H H' → H p = none → H' p = some (.lst (ds.map V.ref)) → ds.length = l.length →
    (∀ k d b, ds[k]? = some d → l[k]? = some b → ∃ ws, WordsAt l k ws ∧ MvAt H' p d b.gaps ws) → Q (.ref p) H'

section
variable {P : Program} {w : World} {K : PySem.W.Frag} {mg : Str → Option Value} {base : Heap}
theorem paired_app1 {α β : Type} {R : α → β → Prop} {xs : List α} {ys : List β} {x : α} {y : β} (h : Paired R xs ys) (r : R x y) : Paired R (xs ++ [x]) (ys ++ [y]) := Paired.app h (.cons r .nil)
theorem ok_moves {f f1 : Addr} {fd fd1 : FuncData} (F : Fun K "moves_by_word" "moves_by_word" sMoves f fd) (F1 : Fun K "words_of" "words_of" sWords f1 fd1) (b1 : Binds K fd1 ["lock"] []) (g1 : mg "words_of" = some (.ref f1)) (B : Bi mg) :
    FnOk P w K mg base CX0 2 f fd ["lock"] (spMoves K) := by
  have G1 : FnOk P w K mg base CX0 1 f1 fd1 ["lock"] (spWords K) := ok_words F1 B
  refine F.ok scMoves (fun vs H Q E h => ?_) (fun cdv A outer s H vs Q E hr h => ?_)
  · obtain ⟨v, l, rfl, _⟩ := h; rfl
  · obtain ⟨v, l, rfl, ⟨a, bs, rfl, hx, hp⟩, ok, q⟩ := h
    have hu := hu_of hr
    refine ⟨_, pss_cons (ps_set (i := 1) scMoves.nd rfl (.inl rfl) (pe_lst pa_nil))
      (pss_cons (ps_for PassesOwn.never rfl (pi_zipX (by rfl) B.zip (pa_cons (pe_call G1 hr (by rfl) g1 F1.kp b1 .nil pass0 (pa_cons (pv 0) pa_nil)) (pa_cons (pv 0) pa_nil))) (pg_tup rfl (pgs_cons (pg_name (i := 2) scMoves.nd rfl (.inl rfl)) (pgs_cons (pg_name (i := 3) scMoves.nd rfl (.inl rfl)) pgs_nil)))
        (pss_cons (ps_setDcT (i := 4) (own := [("word", 10)]) (g := gName 10) hu rfl scMoves.nd rfl rfl rfl (pi_list (pv 2)) (blkOk_by (own := [("word", 10)]) (N := ["lock", "rows", "words", "bolt", "moves", "here", "there", "price", "ways", "way", "word"]) (sc := defScope sMoves) (by decide +kernel))
            (fun _ _ _ _ _ => pg_name (i := 10) scMoves.nd rfl (Or.inl rfl)) (fun _ _ _ _ _ => pts_nil) (fun _ _ _ _ _ => pv 10) (fun _ _ _ _ _ => pe_lst pa_nil))
        (pss_cons (ps_for PassesOwn.never rfl (pi_tup (pe_ix ix_tup (pv 3) pe_int (fun _ _ => rfl))) (pg_tup rfl (pgs_cons (pg_name (i := 5) scMoves.nd rfl (.inl rfl)) (pgs_cons (pg_name (i := 6) scMoves.nd rfl (.inl rfl)) (pgs_cons (pg_name (i := 7) scMoves.nd rfl (.inl rfl)) (pgs_cons (pg_name (i := 8) scMoves.nd rfl (.inl rfl)) pgs_nil)))))
          (pss_one (ps_for PassesOwn.never rfl (pi_tup (pv 8)) (pg_name (i := 9) scMoves.nd rfl (.inl rfl))
            (pss_one (ps_expr (pe_bm PySem.F.plainAttrs_list PySem.F.slot_list_append PySem.F.type_list_append mt_append (pe_dget hu (pv 4) (pv 9) (fun _ _ => rfl)) (pa_cons (pe_tup (pa_cons (pv 5) (pa_cons (pv 6) (pa_cons (pv 7) pa_nil)))) pa_nil)))))))
        (pss_one (ps_expr (pe_bm PySem.F.plainAttrs_list PySem.F.slot_list_append PySem.F.type_list_append mt_append (pv 1) (pa_cons (pv 4) pa_nil)))))))
      (pss_one (ps_ret (pv 1)))), ?_⟩
    have bl : bs.length = l.length := Paired.len hp
    have n60 := ok.n1
    refine ⟨Nat.zero_le _, fun r0 nr0 => ?_⟩
    have x1 : Evl.Ex H (upd H r0 (.lst [])) := Evl.Ex.new nr0
    refine ⟨.ref a, rfl, .ref a, l, rfl, ⟨a, bs, rfl, Evl.ex_t x1 hx, Paired.imp (fun _ _ => BoltAt.mono (TX.ex x1)) hp⟩, ok, fun H0 pw rs x2 npw hpw rl hrs => ?_⟩
    have x3 := x1.trans x2
    have hR0 : H0 r0 = some (.lst []) := x2 _ _ upd_same
    have nrpw : pw ≠ r0 := fun z => by rw [z, upd_same] at npw; cases npw
    refine ⟨.ref a, rfl, true, false, pw, a, rs.map V.ref, bs, rfl, .inl (.inl hpw), Evl.ex_t x3 hx, ?_⟩
    refine for_it (walk_zx (l := true) (m := false) (xs := rs.map V.ref) (ys := bs) (by rw [List.length_map, rl, bl])) (fun i σ H' => ∃ (ds : List Addr) (y2 y3 y4 y5 y6 y7 y8 y9 y10 : Option V), σ = [some (.ref a), some (.ref r0), y2, y3, y4, y5, y6, y7, y8, y9, y10] ∧
        Evl.Ex H H' ∧ (∀ b o, b ≠ r0 → H0 b = some o → H' b = some o) ∧ H' r0 = some (.lst (ds.map V.ref)) ∧ ds.length = i ∧ ∀ k d b, ds[k]? = some d → l[k]? = some b → ∃ ws, WordsAt l k ws ∧ MvAt H' r0 d b.gaps ws)
      ⟨[], none, none, none, none, none, none, none, none, none, rfl, x3, fun b o _ h => h, hR0, rfl, fun k d b h => by simp at h⟩ ?_ ?_ ?_
    · rintro i σ H' _ ⟨_, _, _, _, _, _, _, _, _, _, _, e, k0, _⟩
      exact ⟨.inl (.inl (k0 _ _ nrpw hpw)), Evl.ex_t e hx⟩
    · rintro i v σ H1 H2 hi ⟨ds, y2, y3, y4, y5, y6, y7, y8, y9, y10, rfl, e1, k0, hR, dl, hds⟩ ⟨T, x, y, rfl, nT, rfl, ex, ey⟩
      rw [List.length_map, rl] at hi
      obtain ⟨b, hb⟩ : ∃ b, l[i]? = some b := ⟨l[i], List.getElem?_eq_getElem hi⟩
      obtain ⟨vb, hvb, hba⟩ := Paired.get2 hp hb
      have ey' : bs[i]? = some y := ey
      rw [hvb] at ey'
      cases ey'
      obtain ⟨r, hr1, rfl⟩ : ∃ r, rs[i]? = some r ∧ x = .ref r := by
        have ex' : (rs.map V.ref)[i]? = some x := ex
        rw [List.getElem?_map] at ex'
        cases e : rs[i]? with
        | none => rw [e] at ex'; cases ex'
        | some r => rw [e] at ex'; exact ⟨r, rfl, (Option.some.inj ex').symm⟩
      obtain ⟨nr, ws, ⟨us, hus, hup⟩, hW⟩ := hrs i r hr1
      have nrr : r ≠ r0 := fun z => by rw [z, upd_same] at nr; cases nr
      have e2 := Evl.Ex.new (o := .tup [.ref r, y]) nT
      generalize hH2 : upd H1 T (.tup [.ref r, y]) = H2 at e2
      have hT2 : H2 T = some (.tup [.ref r, y]) := by rw [← hH2]; exact upd_same
      have hus2 : H2 r = some (.lst us) := e2 _ _ (k0 _ _ nrr hus)
      have hR2 : H2 r0 = some (.lst (ds.map V.ref)) := e2 _ _ hR
      have tx2 : ∀ {v w'}, Wd K H0 v w' → Wd K H2 v w' := by
        rintro v w' ⟨ax, rfl, hax⟩
        exact ⟨ax, rfl, e2 _ _ (k0 _ _ (ne_of hax hR0 (fun z => nomatch z)) hax)⟩
      have hup2 : Paired (Wd K H2) us ws := Paired.imp (fun _ _ => tx2) hup
      have ul : us.length = ws.length := Paired.len hup
      have w8 : ws.length ≤ 8 := ok.words i ws hi hW.1 (fun u hu' => (hW.2 u).mp hu')
      obtain ⟨ab, cg, gs, rfl, hb1, hb2, hb3⟩ := hba
      have bok := ok.bolts i b hb
      have e12 := e1.trans e2
      refine ⟨T, _, rfl, .inl (.inl hT2), rfl, _, _, rfl, _, _, rfl, rfl, ?_⟩
      refine ⟨.ref r, rfl, r, rfl, ⟨us, .inl (.inl hus2)⟩, fun D hD => ?_⟩
      refine dct_it (walk_list (K := K) (a := r) (xs := us)) (fun m H' => ∃ ps : List (Word × Addr), ps.map (·.1) = ws.take m ∧ Evl.Ex H2 H' ∧ H' D = some (.dT (kps ps)) ∧ (ps.map (·.2)).Nodup ∧ ∀ q ∈ ps, H2 q.2 = none ∧ q.2 ≠ D ∧ H' q.2 = some (.lst []))
        ⟨[], rfl, Evl.Ex.new hD, upd_same, List.nodup_nil, fun q hq => nomatch hq⟩ ?_ ?_ ?_
      · rintro m H' _ ⟨ps, _, e3, _⟩
        exact .inl (.inl (e3 _ _ hus2))
      · rintro m x H3 H4 hm ⟨ps, hps, e3, hd3, nd3, hq3⟩ ⟨rfl, hx3⟩
        obtain ⟨t, ht, ⟨ax, rfl, hax⟩⟩ := Paired.get1 hup2 hx3
        have tn : t ∉ ps.map (·.1) := by
          rw [hps]
          intro hmem
          obtain ⟨j, hj, ej⟩ := List.getElem_of_mem hmem
          rw [List.length_take] at hj
          rw [List.getElem_take] at ej
          obtain ⟨l1, q1⟩ := List.getElem?_eq_some_iff.mp ht
          have := (List.getElem_inj hW.1).mp (ej.trans q1.symm)
          omega
        refine ⟨rfl, .ref ax, rfl, Nat.zero_le _, fun p np => ?_⟩
        have e4 := Evl.Ex.new (o := .lst []) np
        have np2 : H2 p = none := Evl.fresh_back e3 np
        have npD : p ≠ D := fun z => by rw [z, hd3] at np; cases np
        have nDp : D ≠ p := fun z => npD z.symm
        refine ⟨kps ps, keyW t, ax, rfl, ?_, e4 _ _ hd3, ?_, ps ++ [(t, p)], ?_, (e3.trans e4).mut hD, ?_, ?_, ?_⟩
        · rw [keyW_kV]
          exact (e3.trans e4) _ _ hax
        · have z : ps.length ≤ 8 := by
            have := congrArg List.length hps
            rw [List.length_map, List.length_take] at this
            omega
          unfold kps
          rw [List.length_map]
          exact Nat.lt_of_le_of_lt z (by decide)
        · rw [List.map_append, hps, take_succ_get ht]
          rfl
        · rw [upd_same, put_kps tn]
        · rw [List.map_append, List.nodup_append]
          refine ⟨nd3, by simp, ?_⟩
          intro x hx' y hy'
          simp at hy'
          subst hy'
          obtain ⟨q, hq, rfl⟩ := List.mem_map.mp hx'
          intro z
          have := (hq3 q hq).2.2
          rw [z] at this
          rw [this] at np
          cases np
        · intro q hq
          rcases List.mem_append.mp hq with hq | hq
          · obtain ⟨a1, a2, a3⟩ := hq3 q hq
            refine ⟨a1, a2, ?_⟩
            rw [upd_ne a2]
            exact e4 _ _ a3
          · have : q = (t, p) := by simpa using hq
            subst this
            exact ⟨np2, npD, by rw [upd_ne npD, upd_same]⟩
      · rintro H3 ⟨ps, hps, e3, hd3, nd3, hq3⟩
        rw [ul, List.take_length] at hps
        have ndp : (ps.map (·.1)).Nodup := by rw [hps]; exact hW.1
        have one : ∀ q ∈ ps, ∀ q' ∈ ps, q'.2 = q.2 → q' = q := by
          intro q hq q' hq' e
          obtain ⟨j, hj, rfl⟩ := List.getElem_of_mem hq
          obtain ⟨j', hj', rfl⟩ := List.getElem_of_mem hq'
          have z : (ps.map (·.2))[j']'(by rw [List.length_map]; exact hj') = (ps.map (·.2))[j]'(by rw [List.length_map]; exact hj) := by
            rw [List.getElem_map, List.getElem_map]
            exact e
          have := (List.getElem_inj nd3).mp z
          subst this
          rfl
        have one1 : ∀ q ∈ ps, ∀ q' ∈ ps, q'.1 = q.1 → q' = q := by
          intro q hq q' hq' e
          obtain ⟨j, hj, rfl⟩ := List.getElem_of_mem hq
          obtain ⟨j', hj', rfl⟩ := List.getElem_of_mem hq'
          have z : (ps.map (·.1))[j']'(by rw [List.length_map]; exact hj') = (ps.map (·.1))[j]'(by rw [List.length_map]; exact hj) := by
            rw [List.getElem_map, List.getElem_map]
            exact e
          have := (List.getElem_inj ndp).mp z
          subst this
          rfl
        have gl : gs.length = b.gaps.length := Paired.len hb3
        refine ⟨.ref ab, rfl, ab, _, 1, .ref cg, rfl, rfl, Evl.ex_t (e12.trans e3) hb1, atI_nat (j := 1) rfl, cg, rfl, ⟨gs, Evl.ex_t (e12.trans e3) hb2⟩, ?_⟩
        refine for_tup (K := K) (a := cg) (xs := gs) (fun j σ H' => ∃ (y5 y6 y7 y8 y9 y10 : Option V), σ = [some (.ref a), some (.ref r0), some (.ref r), some (.ref ab), some (.ref D), y5, y6, y7, y8, y9, y10] ∧ Evl.Ex H2 H' ∧ H' D = some (.dT (kps ps)) ∧
            ∀ q ∈ ps, ∃ us, H' q.2 = some (.lst us) ∧ Paired (TrAt H') us (movesL (b.gaps.take j) q.1)) ⟨_, _, _, _, _, _, rfl, e3, hd3, fun q hq => ⟨[], (hq3 q hq).2.2, .nil⟩⟩ ?_ ?_ ?_
        · rintro j σ H' _ ⟨_, _, _, _, _, _, _, e4, _⟩
          exact Evl.ex_t (e12.trans e4) hb2
        · rintro j x σ H4 hj ⟨z5, z6, z7, z8, z9, z10, rfl, e4, hd4, hq4⟩
          obtain ⟨g, hgj, ⟨ag, bg, wv, rfl, hg1, hg2, hg3⟩⟩ := Paired.get1 hb3 hj
          have hgm : g ∈ b.gaps := List.mem_of_getElem? hgj
          have gok := bok.gaps g hgm
          have wl : wv.length = g.ways.length := Paired.len hg3
          have nodupW : g.ways.Nodup := by
            refine List.Pairwise.imp ?_ gok.rise
            intro u w' h e
            subst e
            have irr : ∀ u : List Int, HT.lexLt u u = false := by
              intro u
              induction u with
              | nil => rfl
              | cons x u ih => rw [HT.lexLt_cons, if_pos rfl]; exact ih
            rw [irr] at h
            cases h
          have few1 : ∀ (gs : List Gap) (w' : Word), (movesL gs w').length ≤ (gs.map (fun g => g.ways.length)).sum := by
            intro gs w'
            unfold movesL
            rw [List.length_map]
            induction gs with
            | nil => simp
            | cons g gs ih =>
              rw [List.filter_cons, List.map_cons, List.sum_cons]
              split
              · rename_i hm
                have : 1 ≤ g.ways.length := List.length_pos_of_mem (of_decide_eq_true hm)
                rw [List.length_cons]
                omega
              · omega
          have few2 : ∀ w', (movesL (b.gaps.take j) w').length ≤ 8 := by
            intro w'
            have h1 := few1 (b.gaps.take j) w'
            have h2 := bok.few
            have h3 : (b.gaps.map (fun g => g.ways.length)).sum = ((b.gaps.take j).map (fun g => g.ways.length)).sum + ((b.gaps.drop j).map (fun g => g.ways.length)).sum := by
              rw [← List.sum_append, ← List.map_append, List.take_append_drop]
            omega
          have e14 := e12.trans e4
          refine ⟨ag, _, rfl, Evl.ex_t e14 hg1, rfl, _, _, rfl, _, _, rfl, _, _, rfl, _, _, rfl, rfl, ?_⟩
          refine ⟨.ref bg, rfl, bg, rfl, ⟨wv, Evl.ex_t e14 hg2⟩, ?_⟩
          refine for_tup (K := K) (a := bg) (xs := wv) (fun m σ H' => ∃ (y9 y10 : Option V), σ = [some (.ref a), some (.ref r0), some (.ref r), some (.ref ab), some (.ref D), some (.int g.frm), some (.int g.to_), some (.int g.price), some (.ref bg), y9, y10] ∧ Evl.Ex H2 H' ∧ H' D = some (.dT (kps ps)) ∧
              ∀ q ∈ ps, ∃ us, H' q.2 = some (.lst us) ∧ Paired (TrAt H') us (movesL (b.gaps.take j) q.1 ++ if q.1 ∈ g.ways.take m then [trOf g] else [])) ⟨_, _, rfl, e4, hd4, fun q hq => ?_⟩ ?_ ?_ ?_
          · obtain ⟨us, h1, h2⟩ := hq4 q hq
            exact ⟨us, h1, by simpa using h2⟩
          · rintro m σ H' _ ⟨_, _, _, e5, _⟩
            exact Evl.ex_t (e12.trans e5) hg2
          · rintro m x σ H5 hm ⟨z9, z10, rfl, e5, hd5, hq5⟩
            obtain ⟨t, ht, ⟨ax, rfl, hax⟩⟩ := Paired.get1 hg3 hm
            have htw : t ∈ ws := (hW.2 t).mpr ((cuts_step ok hb t).mpr (.inr ⟨g, hgm, List.mem_of_getElem? ht⟩))
            rw [← hps] at htw
            obtain ⟨q, hq, rfl⟩ := List.mem_map.mp htw
            obtain ⟨uq, h1, h2⟩ := hq5 q hq
            have e15 := e12.trans e5
            have tnot : q.1 ∉ g.ways.take m := by
              intro hmem
              obtain ⟨k, hk, ek⟩ := List.getElem_of_mem hmem
              rw [List.length_take] at hk
              rw [List.getElem_take] at ek
              obtain ⟨l1, q1⟩ := List.getElem?_eq_some_iff.mp ht
              have := (List.getElem_inj nodupW).mp (ek.trans q1.symm)
              omega
            rw [if_neg tnot, List.append_nil] at h2
            have ulen : uq.length = (movesL (b.gaps.take j) q.1).length := Paired.len h2
            refine ⟨.ref D, rfl, .ref ax, rfl, D, .ref q.2, rfl, ?_, .inl ⟨rfl, _, SqL.of h1⟩, .int g.frm, rfl, .int g.to_, rfl, .int g.price, rfl, (by show 3 ≤ sizeLine; decide), fun p np => ?_⟩
            · rw [← valV_kps ndp hq]
              exact DGet.t hd5 (by rw [keyW_kV]; exact e15 _ _ hax)
            · have e6 := Evl.Ex.new (o := .tup [.int g.frm, .int g.to_, .int g.price]) np
              have nqp : q.2 ≠ p := fun z => by rw [← z, h1] at np; cases np
              have nDq : D ≠ q.2 := fun z => (hq3 q hq).2.1 z.symm
              refine ⟨q.2, uq, _, rfl, rfl, e6 _ _ h1, ?_, _, _, rfl, (e5.trans e6).mut (hq3 q hq).1, ?_, ?_⟩
              · have := few2 q.1
                exact Nat.lt_of_le_of_lt (by omega : uq.length ≤ 8) (by decide)
              · rw [upd_ne nDq]
                exact e6 _ _ hd5
              · intro q' hq'
                have tr : ∀ {v : V} {t3 : Tr3}, TrAt H5 v t3 → TrAt (upd (upd H5 p (.tup [.int g.frm, .int g.to_, .int g.price])) q.2 (.lst (uq ++ [.ref p]))) v t3 := by
                  rintro v t3 ⟨c, rfl, hc⟩
                  exact ⟨c, rfl, by rw [upd_ne (ne_of hc h1 (fun z => nomatch z))]; exact e6 _ _ hc⟩
                by_cases eq : q'.2 = q.2
                · have := one q hq q' hq' eq
                  subst this
                  refine ⟨uq ++ [.ref p], upd_same, ?_⟩
                  rw [take_succ_get ht, if_pos (by simp)]
                  refine paired_app1 (Paired.imp (fun _ _ => tr) h2) ⟨p, rfl, ?_⟩
                  rw [upd_ne nqp.symm, upd_same]
                  rfl
                · obtain ⟨u', h3, h4⟩ := hq5 q' hq'
                  refine ⟨u', by rw [upd_ne eq]; exact e6 _ _ h3, ?_⟩
                  have ne1 : q'.1 ≠ q.1 := fun z => eq (by rw [one1 q hq q' hq' z])
                  have mm : (q'.1 ∈ g.ways.take (m + 1)) ↔ (q'.1 ∈ g.ways.take m) := by
                    rw [take_succ_get ht]
                    simp [ne1]
                  have h5 := Paired.imp (fun _ _ => tr) h4
                  by_cases hh : q'.1 ∈ g.ways.take m
                  · rw [if_pos hh] at h5
                    rw [if_pos (mm.mpr hh)]
                    exact h5
                  · rw [if_neg hh] at h5
                    rw [if_neg (fun z => hh (mm.mp z))]
                    exact h5
          · rintro σ H5 ⟨z9, z10, rfl, e5, hd5, hq5⟩
            refine ⟨_, _, _, _, _, _, rfl, e5, hd5, fun q hq => ?_⟩
            obtain ⟨uq, h1, h2⟩ := hq5 q hq
            refine ⟨uq, h1, ?_⟩
            rw [wl, List.take_length] at h2
            have z : movesL (b.gaps.take (j + 1)) q.1 = movesL (b.gaps.take j) q.1 ++ if q.1 ∈ g.ways then [trOf g] else [] := by
              unfold movesL
              rw [take_succ_get hgj, List.filter_append, List.map_append]
              congr 1
              by_cases hh : q.1 ∈ g.ways
              · rw [if_pos hh, List.filter_cons, if_pos (decide_eq_true hh)]
                rfl
              · rw [if_neg hh, List.filter_cons, if_neg (by rw [decide_eq_false hh]; exact Bool.false_ne_true)]
                rfl
            rw [z]
            exact h2
        · rintro σ H4 ⟨z5, z6, z7, z8, z9, z10, rfl, e4, hd4, hq4⟩
          rw [gl, List.take_length] at hq4
          have hR4 : H4 r0 = some (.lst (ds.map V.ref)) := e4 _ _ hR2
          have mv : MvAt H4 r0 D b.gaps ws := ⟨ps, hps, hd4, fun q hq => ⟨(fun z => by have h0 := (hq3 q hq).1; rw [z, hR2] at h0; cases h0), hq4 q hq⟩⟩
          refine ⟨.ref r0, rfl, .inl ⟨rfl, _, SqL.of hR4⟩, .ref D, rfl, r0, _, _, rfl, rfl, hR4, ?_, ?_⟩
          · rw [List.length_map, dl]
            exact Nat.lt_of_lt_of_le (show i < 61 by omega) (by decide)
          · refine ⟨ds ++ [D], _, _, _, _, _, _, _, _, _, rfl, (e12.trans e4).mut nr0, ?_, by rw [upd_same, List.map_append]; rfl, by simp [dl], ?_⟩
            · intro b' o nb h0
              rw [upd_ne nb]
              exact e4 _ _ (e2 _ _ (k0 b' o nb h0))
            · intro k d b' hk hb'
              by_cases hkl : k < ds.length
              · rw [List.getElem?_append_left hkl] at hk
                obtain ⟨ws', h1, h2⟩ := hds k d b' hk hb'
                exact ⟨ws', h1, (h2.ex (e2.trans e4)).put hR4⟩
              · rw [List.getElem?_append_right (by omega)] at hk
                have : k = ds.length := by
                  by_cases e : k - ds.length = 0
                  · omega
                  · rw [List.getElem?_eq_none (by simp; omega)] at hk; cases hk
                subst this
                rw [Nat.sub_self] at hk
                have er : d = D := (Option.some.inj hk).symm
                subst er
                rw [dl, hb] at hb'
                cases hb'
                rw [dl]
                exact ⟨ws, hW, mv.put hR4⟩
    · rintro σ H1 ⟨ds, y2, y3, y4, y5, y6, y7, y8, y9, y10, rfl, e1, k0, hR, dl, hds⟩
      refine ⟨.ref r0, rfl, q H1 r0 ds e1 nr0 hR ?_ hds⟩
      rw [dl, List.length_map, rl]
end
end Wb

set_option Elab.async false
set_option linter.all false
set_option maxRecDepth 100000
set_option maxHeartbeats 4000000
set_option pp.maxSteps 600
set_option pp.deepTerms false
namespace Wb
open PySem PySem.Spec PyProof.Rows L2
abbrev sFault : Stmt := topS 23
abbrev sManys : Stmt := topS 27
abbrev sNeedL : Stmt := topS 28
abbrev sNeedS : Stmt := topS 29
theorem scFault : FnScope ["thing", "manys", "k", "bolt", "words"] ["thing"] (defScope sFault) := ⟨rfl, rfl, rfl, by decide +kernel, rfl, by decide +kernel, by decide +kernel⟩
theorem scManys : FnScope ["lock", "bolt"] ["lock"] (defScope sManys) := ⟨rfl, rfl, rfl, by decide +kernel, rfl, by decide +kernel, by decide +kernel⟩
theorem scNeedL : FnScope ["lock", "fault"] ["lock"] (defScope sNeedL) := ⟨rfl, rfl, rfl, by decide +kernel, rfl, by decide +kernel, by decide +kernel⟩
theorem scNeedS : FnScope ["lock", "thing"] ["lock", "thing"] (defScope sNeedS) := ⟨rfl, rfl, rfl, by decide +kernel, rfl, by decide +kernel, by decide +kernel⟩

/-- all defs of the checks, as they stand -/
structure Pr (K : PySem.W.Frag) (mg : Str → Option Value) where
  f1 : Addr
  d1 : FuncData
  F1 : Fun K "is_whole" "is_whole" sWhole f1 d1
  b1 : Binds K d1 ["thing"] []
  g1 : mg "is_whole" = some (.ref f1)
  f2 : Addr
  d2 : FuncData
  F2 : Fun K "is_whole_in" "is_whole_in" sWholeIn f2 d2
  b2 : Binds K d2 ["thing", "low", "high"] []
  g2 : mg "is_whole_in" = some (.ref f2)
  f3 : Addr
  d3 : FuncData
  F3 : Fun K "is_tuple_of" "is_tuple_of" sTupOf f3 d3
  b3 : Binds K d3 ["thing", "low", "high"] []
  g3 : mg "is_tuple_of" = some (.ref f3)
  f4 : Addr
  d4 : FuncData
  F4 : Fun K "are_places" "are_places" sPlaces f4 d4
  b4 : Binds K d4 ["thing", "manys"] []
  g4 : mg "are_places" = some (.ref f4)
  f10 : Addr
  d10 : FuncData
  F10 : Fun K "words_of" "words_of" sWords f10 d10
  b10 : Binds K d10 ["lock"] []
  g10 : mg "words_of" = some (.ref f10)
  f11 : Addr
  d11 : FuncData
  F11 : Fun K "moves_by_word" "moves_by_word" sMoves f11 d11
  b11 : Binds K d11 ["lock"] []
  g11 : mg "moves_by_word" = some (.ref f11)
  f19 : Addr
  d19 : FuncData
  F19 : Fun K "fault_of" "fault_of" sFault f19 d19
  b19 : Binds K d19 ["thing"] []
  g19 : mg "fault_of" = some (.ref f19)
  f20 : Addr
  d20 : FuncData
  F20 : Fun K "is_bolt" "is_bolt" sBolt f20 d20
  b20 : Binds K d20 ["thing", "below"] []
  g20 : mg "is_bolt" = some (.ref f20)
  f21 : Addr
  d21 : FuncData
  F21 : Fun K "is_gap" "is_gap" sGap f21 d21
  b21 : Binds K d21 ["thing", "many", "below"] []
  g21 : mg "is_gap" = some (.ref f21)
  f22 : Addr
  d22 : FuncData
  F22 : Fun K "are_ways" "are_ways" sWays f22 d22
  b22 : Binds K d22 ["thing", "below"] []
  g22 : mg "are_ways" = some (.ref f22)
  f23 : Addr
  d23 : FuncData
  F23 : Fun K "manys_of" "manys_of" sManys f23 d23
  b23 : Binds K d23 ["lock"] []
  g23 : mg "manys_of" = some (.ref f23)
  f24 : Addr
  d24 : FuncData
  F24 : Fun K "need_lock" "need_lock" sNeedL f24 d24
  b24 : Binds K d24 ["lock"] []
  g24 : mg "need_lock" = some (.ref f24)
  f25 : Addr
  d25 : FuncData
  F25 : Fun K "need_stand" "need_stand" sNeedS f25 d25
  b25 : Binds K d25 ["lock", "thing"] []
  g25 : mg "need_stand" = some (.ref f25)
  B : Bi mg
  N : Nu mg

def spFault (K : PySem.W.Frag) : Sp := fun vs H Q _ => ∃ (v : V) (l : Lock), vs = [v] ∧ LockAt K H v l ∧ LockOk l ∧ ∀ H', Evl.Ex H H' → Q .non H'
def spManys (K : PySem.W.Frag) : Sp := fun vs H Q _ => ∃ (v : V) (l : Lock), vs = [v] ∧ LockAt K H v l ∧ l.length ≤ 60 ∧ ∀ H' p, Evl.Ex H H' → H p = none → H' p = some (.lst ((manysOf l).map V.int)) → Q (.ref p) H'
def spNeedS (K : PySem.W.Frag) : Sp := fun vs H Q _ => ∃ (v u : V) (l : Lock) (st : Word), vs = [v, u] ∧ LockAt K H v l ∧ LockOk l ∧ Wd K H u st ∧ InAll st (manysOf l) ∧ ∀ H', Evl.Ex H H' → Q .non H'
section
variable {P : Program} {w : World} {K : PySem.W.Frag} {mg : Str → Option Value} {base : Heap}
theorem manysOf_take (l : Lock) (i : Nat) : manysOf (l.take i) = (manysOf l).take i := by
  unfold manysOf
  rw [List.map_take]
theorem ok_fault (D : Pr K mg) : FnOk P w K mg base CX0 6 D.f19 D.d19 ["thing"] (spFault K) := by
  have G3 : FnOk P w K mg base CX0 1 D.f3 D.d3 ["thing", "low", "high"] (spTupOf K) := ok_tupOf D.F3 D.B
  have G20 : FnOk P w K mg base CX0 5 D.f20 D.d20 ["thing", "below"] (spBolt K) := ok_bolt D.F20 D.F3 D.b3 D.g3 D.F4 D.b4 D.g4 D.F2 D.b2 D.g2 D.F22 D.b22 D.g22 D.F1 D.b1 D.g1 D.F21 D.b21 D.g21 D.B D.N
  have G10 : FnOk P w K mg base CX0 1 D.f10 D.d10 ["lock"] (spWords K) := ok_words D.F10 D.B
  obtain ⟨tb, eb⟩ := D.N.bolts
  obtain ⟨tw, ew⟩ := D.N.words
  refine D.F19.ok scFault (fun vs H Q E h => ?_) (fun cdv A outer s H vs Q E hr h => ?_)
  · obtain ⟨v, l, rfl, _⟩ := h; rfl
  · obtain ⟨v, l, rfl, ⟨a, bs, rfl, hx, hp⟩, ok, q⟩ := h
    have hr1 : Room 1 _ := hr.mono (by decide)
    refine ⟨_, pss_cons (ps_if (pt_not (pt_val (pe_call G3 hr1 (by rfl) D.g3 D.F3.kp D.b3 .nil pass0 (pa_cons (pv 0) (pa_cons pe_int (pa_cons (pe_glob (v := .int 60) (by rfl) eb ⟨_, rfl⟩) pa_nil)))))) pss_never pss_nil)
      (pss_cons (ps_set (i := 1) scFault.nd rfl (.inl rfl) (pe_lst pa_nil))
      (pss_cons (ps_for PassesOwn.never rfl (pi_enumT (by rfl) D.B.enum (pa_cons (pv 0) pa_nil)) (pg_tup rfl (pgs_cons (pg_name (i := 2) scFault.nd rfl (.inl rfl)) (pgs_cons (pg_name (i := 3) scFault.nd rfl (.inl rfl)) pgs_nil)))
        (pss_cons (ps_if (pt_not (pt_val (pe_call G20 hr (by rfl) D.g20 D.F20.kp D.b20 .nil pass0 (pa_cons (pv 3) (pa_cons (pv 1) pa_nil))))) pss_never pss_nil)
        (pss_one (ps_expr (pe_bm PySem.F.plainAttrs_list PySem.F.slot_list_append PySem.F.type_list_append mt_append (pv 1) (pa_cons (pe_ix ix_tup (pv 3) pe_int (fun _ _ => rfl)) pa_nil))))))
      (pss_cons (ps_for PassesOwn.never rfl (pi_enum (by rfl) D.B.enum (pa_cons (pe_call G10 hr1 (by rfl) D.g10 D.F10.kp D.b10 .nil pass0 (pa_cons (pv 0) pa_nil)) pa_nil)) (pg_tup rfl (pgs_cons (pg_name (i := 2) scFault.nd rfl (.inl rfl)) (pgs_cons (pg_name (i := 4) scFault.nd rfl (.inl rfl)) pgs_nil)))
        (pss_one (ps_if (pt_cmpR op_gt (pe_callB call_len_seq (by rfl) D.B.len PySem.boot_len (pa_cons (pv 4) pa_nil)) (pe_glob (v := .int 8) (by rfl) ew ⟨_, rfl⟩) (nomark _)) pss_never pss_nil)))
      (pss_one (ps_ret pe_non))))), ?_⟩
    have bl : bs.length = l.length := Paired.len hp
    have n0 := ok.n0
    have n60 := ok.n1
    refine ⟨.ref a, rfl, a, bs, 1, 60, rfl, hx, true, ?_, ?_⟩
    · have z1 : decide ((1 : Int) ≤ (bs.length : Int)) = true := decide_eq_true (by omega)
      have z2 : decide ((bs.length : Int) ≤ 60) = true := decide_eq_true (by omega)
      rw [z1, z2]
      rfl
    refine iteF ?_
    refine ⟨Nat.zero_le _, fun r0 nr0 => ?_⟩
    have x1 : Evl.Ex H (upd H r0 (.lst [])) := Evl.Ex.new nr0
    refine ⟨.ref a, rfl, a, bs, rfl, Evl.ex_t x1 hx, ?_⟩
    refine for_it (walk_et (xs := bs)) (fun i σ H' => ∃ (y2 y3 y4 : Option V), σ = [some (.ref a), some (.ref r0), y2, y3, y4] ∧ Evl.Ex H H' ∧ H' r0 = some (.lst (((manysOf l).take i).map V.int))) ⟨none, none, none, rfl, x1, upd_same⟩ ?_ ?_ ?_
    · rintro i σ H' _ ⟨_, _, _, _, e, _⟩
      exact Evl.ex_t e hx
    · rintro i v σ H1 H2 hi ⟨y2, y3, y4, rfl, e1, hR⟩ ⟨T, x, y, rfl, nT, rfl, ex, ey⟩
      cases ex
      have ey' : bs[i]? = some y := ey
      obtain ⟨b, hb, hba⟩ := Paired.get1 hp ey'
      have e2 := Evl.Ex.new (o := .tup [.int (i : Nat), y]) nT
      generalize hH2 : upd H1 T (.tup [.int (i : Nat), y]) = H2 at e2
      have hT2 : H2 T = some (.tup [.int (i : Nat), y]) := by rw [← hH2]; exact upd_same
      have e12 := e1.trans e2
      have hR2 := e2 _ _ hR
      have bok := ok.bolts i b hb
      refine ⟨T, _, rfl, .inl (.inl hT2), rfl, _, _, rfl, _, _, rfl, rfl, ?_⟩
      refine ⟨y, rfl, .ref r0, rfl, y, r0, b, manysOf (l.take i), rfl, hba.mono (TX.ex e12), ?_, bok, fun H3 e3 => ?_⟩
      · rw [manysOf_take]
        exact .inl (.inl hR2)
      refine ⟨true, rfl, iteF ?_⟩
      obtain ⟨ab, cg, gs, rfl, hb1, hb2, hb3⟩ := hba
      have hR3 := e3 _ _ hR2
      refine ⟨.ref r0, rfl, .inl ⟨rfl, _, SqL.of hR3⟩, .ref ab, rfl, ab, _, 0, .int b.many, rfl, rfl, Evl.ex_t (e12.trans e3) hb1, atI_nat (j := 0) rfl, r0, _, _, rfl, rfl, hR3, ?_, ?_⟩
      · rw [List.length_map, List.length_take]
        have : i < 61 := by rw [bl] at hi; omega
        exact Nat.lt_of_le_of_lt (Nat.min_le_left _ _) (Nat.lt_of_lt_of_le this (by decide))
      · have mm : (manysOf l)[i]? = some b.many := by
          unfold manysOf
          rw [List.getElem?_map, hb]
          rfl
        refine ⟨_, _, _, rfl, (e12.trans e3).mut nr0, ?_⟩
        rw [upd_same, take_succ_get mm, List.map_append]
        rfl
    · rintro σ H1 ⟨y2, y3, y4, rfl, e1, hR⟩
      refine ⟨.ref a, rfl, .ref a, l, rfl, ⟨a, bs, rfl, Evl.ex_t e1 hx, Paired.imp (fun _ _ => BoltAt.mono (TX.ex e1)) hp⟩, ok, fun H2 pw rs e2 npw hpw rl hrs => ?_⟩
      refine ⟨pw, rs.map V.ref, rfl, .inl (.inl hpw), ?_⟩
      refine for_it (walk_enum (xs := rs.map V.ref)) (fun i σ H' => ∃ (y2 y3 y4 : Option V), σ = [some (.ref a), some (.ref r0), y2, y3, y4] ∧ Evl.Ex H2 H') ⟨_, _, _, rfl, Evl.Ex.refl _⟩ ?_ ?_ ?_
      · rintro i σ H' _ ⟨_, _, _, _, e⟩
        exact .inl (.inl (e _ _ hpw))
      · rintro i v σ H3 H4 hi ⟨z2, z3, z4, rfl, e3⟩ ⟨T, x, y, rfl, nT, rfl, ex, ey⟩
        cases ex
        rw [List.length_map, rl] at hi
        obtain ⟨r, hr1', rfl⟩ : ∃ r, rs[i]? = some r ∧ y = .ref r := by
          have ey' : (rs.map V.ref)[i]? = some y := ey
          rw [List.getElem?_map] at ey'
          cases e : rs[i]? with
          | none => rw [e] at ey'; cases ey'
          | some r => rw [e] at ey'; exact ⟨r, rfl, (Option.some.inj ey').symm⟩
        obtain ⟨_, ws, ⟨us, hus, hup⟩, hW⟩ := hrs i r hr1'
        have w8 : ws.length ≤ 8 := ok.words i ws hi hW.1 (fun u hu' => (hW.2 u).mp hu')
        have ul : us.length = ws.length := Paired.len hup
        have e4 := Evl.Ex.new (o := .tup [.int (i : Nat), .ref r]) nT
        refine ⟨T, _, rfl, .inl (.inl upd_same), rfl, _, _, rfl, _, _, rfl, rfl, ?_⟩
        refine ⟨.ref r, rfl, r, us, rfl, .inl (.inl (.inl ((e3.trans e4) _ _ hus))), _, 8, rfl, rfl, false, ?_, ?_⟩
        · have z : decide ((8 : Int) < (us.length : Int)) = false := decide_eq_false (by omega)
          show V.bl (decide ((8 : Int) < (us.length : Int))) = V.bl false
          rw [z]
        · exact iteF ⟨_, _, _, rfl, e3.trans e4⟩
      · rintro σ H3 ⟨z2, z3, z4, rfl, e3⟩
        exact q H3 ((e1.trans e2).trans e3)
theorem ok_needL (D : Pr K mg) : FnOk P w K mg base CX0 7 D.f24 D.d24 ["lock"] (spFault K) := by
  have G19 : FnOk P w K mg base CX0 6 D.f19 D.d19 ["thing"] (spFault K) := ok_fault D
  refine D.F24.ok scNeedL (fun vs H Q E h => ?_) (fun cdv A outer s H vs Q E hr h => ?_)
  · obtain ⟨v, l, rfl, _⟩ := h; rfl
  · obtain ⟨v, l, rfl, hv, ok, q⟩ := h
    refine ⟨_, pss_cons (ps_set (i := 1) scNeedL.nd rfl (.inl rfl) (pe_call G19 hr (by rfl) D.g19 D.F19.kp D.b19 .nil pass0 (pa_cons (pv 0) pa_nil)))
      (pss_one (ps_if (pt_cmpR op_notN (pv 1) pe_non (nomark _)) pss_never pss_nil)), ?_⟩
    refine ⟨v, rfl, v, l, rfl, hv, ok, fun H' e => ?_⟩
    refine ⟨.non, rfl, rfl, false, rfl, iteF ?_⟩
    exact q H' e
theorem ok_manys (D : Pr K mg) : FnOk P w K mg base CX0 1 D.f23 D.d23 ["lock"] (spManys K) := by
  refine D.F23.ok scManys (fun vs H Q E h => ?_) (fun cdv A outer s H vs Q E hr h => ?_)
  · obtain ⟨v, l, rfl, _⟩ := h; rfl
  · obtain ⟨v, l, rfl, ⟨a, bs, rfl, hx, hp⟩, n60, q⟩ := h
    refine ⟨_, pss_one (ps_ret (pe_lc (own := [("bolt", 1)]) (g := gName 1) rfl scManys.nd (pi_tup (pv 0)) (blkOk_by (own := [("bolt", 1)]) (N := ["lock", "bolt"]) (sc := defScope sManys) (by decide +kernel))
      (fun _ _ _ _ _ => pg_name (i := 1) scManys.nd rfl (Or.inl rfl)) (fun _ _ _ _ _ => pts_nil) (fun _ _ _ _ _ => pe_ix (r := rIxT K) ix_tup (pv 1) pe_int (fun _ _ => rfl)))), ?_⟩
    have bl : bs.length = l.length := Paired.len hp
    refine ⟨.ref a, rfl, a, rfl, ⟨_, hx⟩, fun D hD => lc_tup (K := K) (a := a) (xs := bs) (fun i H' => Evl.Ex H H' ∧ H' D = some (.lst (((manysOf l).take i).map V.int))) ⟨Evl.Ex.new hD, upd_same⟩ ?_ ?_ ?_⟩
    · rintro i H' _ ⟨e, _⟩
      exact Evl.ex_t e hx
    · rintro i x H' hi ⟨e, hd⟩
      obtain ⟨b, hb, ⟨ab, cg, gs, rfl, hb1, _⟩⟩ := Paired.get1 hp hi
      have li : i < 61 := by
        have := (List.getElem?_eq_some_iff.mp hi).1
        omega
      have mm : (manysOf l)[i]? = some b.many := by
        unfold manysOf
        rw [List.getElem?_map, hb]
        rfl
      refine ⟨rfl, .ref ab, rfl, ab, _, 0, .int b.many, rfl, rfl, Evl.ex_t e hb1, atI_nat (j := 0) rfl, _, hd, ?_, e.mut hD, ?_⟩
      · rw [List.length_map, List.length_take]
        exact Nat.lt_of_le_of_lt (Nat.min_le_left _ _) (Nat.lt_of_lt_of_le li (by decide))
      · rw [upd_same, take_succ_get mm, List.map_append]
        rfl
    · rintro H1 ⟨e, hd⟩
      refine q H1 D e hD ?_
      rw [hd, List.take_of_length_le]
      unfold manysOf
      rw [List.length_map, bl]
      exact Nat.le_refl _
theorem ok_needS (D : Pr K mg) : FnOk P w K mg base CX0 3 D.f25 D.d25 ["lock", "thing"] (spNeedS K) := by
  have G23 : FnOk P w K mg base CX0 1 D.f23 D.d23 ["lock"] (spManys K) := ok_manys D
  have G4 : FnOk P w K mg base CX0 2 D.f4 D.d4 ["thing", "manys"] (spPlaces K) := ok_places D.F4 D.F3 D.b3 D.g3 D.B
  refine D.F25.ok scNeedS (fun vs H Q E h => ?_) (fun cdv A outer s H vs Q E hr h => ?_)
  · obtain ⟨v, u, l, st, rfl, _⟩ := h; rfl
  · obtain ⟨v, u, l, st, rfl, hv, ok, ⟨a, rfl, ha⟩, hin, q⟩ := h
    have hr1 : Room 1 _ := hr.mono (by decide)
    refine ⟨_, pss_one (ps_if (pt_not (pt_val (pe_call G4 hr (by rfl) D.g4 D.F4.kp D.b4 .nil pass0 (pa_cons (pv 1) (pa_cons (pe_call G23 hr1 (by rfl) D.g23 D.F23.kp D.b23 .nil pass0 (pa_cons (pv 0) pa_nil)) pa_nil))))) pss_never pss_nil), ?_⟩
    refine ⟨.ref a, rfl, v, rfl, v, l, rfl, hv, ok.n1, fun H1 p e1 np hp => ?_⟩
    refine ⟨a, p, true, st, manysOf l, rfl, .inl (.inl (e1 _ _ ha)), Or.inl (Or.inl hp), hin, fun H2 e2 => ?_⟩
    refine ⟨true, rfl, iteF ?_⟩
    exact q H2 (e1.trans e2)
end
end Wb

set_option Elab.async false
set_option linter.all false
set_option maxRecDepth 100000
set_option maxHeartbeats 4000000
set_option pp.maxSteps 600
set_option pp.deepTerms false
namespace Wb
open PySem PySem.Spec PyProof.Rows L2
/-- the steps of bolt k -/
def pickAt (k : Nat) (p : Int) (ts : List Tr3) : List Tr3 := (ts.filter fun t => decide (t.frm = p)).map fun t => ⟨(k : Int), t.to_, t.price⟩
def stepsOf (l : Lock) (st : Word) (k : Nat) : List Tr3 :=
  match l[k]?, st[k]? with
  | some b, some p => pickAt k p (movesL b.gaps (st.take k))
  | _, _ => []
def stepsUpto (l : Lock) (st : Word) (n : Nat) : List Tr3 := (List.range n).flatMap (stepsOf l st)
def stepsL (l : Lock) (st : Word) : List Tr3 := stepsUpto l st l.length
theorem stepsUpto_succ (l : Lock) (st : Word) (n : Nat) : stepsUpto l st (n + 1) = stepsUpto l st n ++ stepsOf l st n := by
  unfold stepsUpto
  rw [List.range_succ, List.flatMap_append]
  simp
theorem movesL_len (gs : List Gap) (w' : Word) : (movesL gs w').length ≤ (gs.map (fun g => g.ways.length)).sum := by
  unfold movesL
  rw [List.length_map]
  induction gs with
  | nil => simp
  | cons g gs ih =>
    rw [List.filter_cons, List.map_cons, List.sum_cons]
    split
    · rename_i hm
      have : 1 ≤ g.ways.length := List.length_pos_of_mem (of_decide_eq_true hm)
      rw [List.length_cons]
      omega
    · omega
theorem pickAt_len (k : Nat) (p : Int) (ts : List Tr3) : (pickAt k p ts).length ≤ ts.length := by
  unfold pickAt
  rw [List.length_map]
  exact List.length_filter_le _ _
/-- behind a word that none of the bolts from k on waits for, no bolt steps -/
theorem steps_none {l : Lock} (ok : LockOk l) {st : Word} {k : Nat} (hn : ¬ cutsFrom l k (st.take k)) : ∀ j, k ≤ j → stepsOf l st j = [] := by
  intro j hj
  unfold stepsOf
  cases hb : l[j]? with
  | none => rfl
  | some b =>
    cases hp : st[j]? with
    | none => rfl
    | some p =>
      have z : movesL b.gaps (st.take j) = [] := by
        unfold movesL
        rw [List.map_eq_nil_iff, List.filter_eq_nil_iff]
        intro g hg hm
        apply hn
        refine ⟨j, b, g, st.take j, hj, hb, hg, of_decide_eq_true hm, ?_⟩
        rw [List.take_take, Nat.min_eq_left hj]
      show pickAt j p (movesL b.gaps (st.take j)) = []
      rw [z]
      rfl
theorem steps_stop {l : Lock} (ok : LockOk l) {st : Word} {k : Nat} (hk : k ≤ l.length) (hn : ¬ cutsFrom l k (st.take k)) : stepsUpto l st k = stepsL l st := by
  have z : ∀ n, stepsUpto l st (k + n) = stepsUpto l st k := by
    intro n
    induction n with
    | zero => rfl
    | succ n ih =>
      rw [show k + (n + 1) = (k + n) + 1 by omega, stepsUpto_succ, ih, steps_none ok hn _ (by omega), List.append_nil]
  have := z (l.length - k)
  rw [show k + (l.length - k) = l.length by omega] at this
  exact this.symm

end Wb

set_option Elab.async false
set_option linter.all false
set_option maxRecDepth 100000
set_option maxHeartbeats 4000000
set_option pp.maxSteps 600
set_option pp.deepTerms false
namespace Wb
open PySem PySem.Spec PyProof.Rows L2
abbrev sPen : Stmt := topS 33
abbrev sDraw : Stmt := topS 34
abbrev sPick : Stmt := topS 35
theorem scPen : FnScope ["_law_script"] ["_law_script"] (defScope sPen) := ⟨rfl, rfl, rfl, by decide +kernel, rfl, by decide +kernel, by decide +kernel⟩
theorem scDraw : FnScope ["_law_pen_here", "_law_many", "_law_found", "_law_taken", "_law_cell", "_law_mixed"] ["_law_pen_here", "_law_many"] (defScope sDraw) := ⟨rfl, rfl, rfl, by decide +kernel, rfl, by decide +kernel, by decide +kernel⟩
theorem scPick : FnScope ["_law_pen_here", "_law_some"] ["_law_pen_here", "_law_some"] (defScope sPick) := ⟨rfl, rfl, rfl, by decide +kernel, rfl, by decide +kernel, by decide +kernel⟩

/-! ### the pen -/
def kC : Key := .inr "cells"
def kT : Key := .inr "taken"
def kD : Key := .inr "digits"
def penD (c : Addr) (t d : Int) : List (Key × V) := [(kC, .ref c), (kT, .int t), (kD, .int d)]
theorem kTC : ¬ kC = kT := by decide +kernel
theorem kDC : ¬ kC = kD := by decide +kernel
theorem kDT : ¬ kT = kD := by decide +kernel
theorem pen_c (c : Addr) (t d : Int) : valV (penD c t d) kC = some (.ref c) := valV_pos rfl
theorem pen_t (c : Addr) (t d : Int) : valV (penD c t d) kT = some (.int t) := by
  have e : valV (penD c t d) kT = valV [(kT, V.int t), (kD, V.int d)] kT := valV_neg kTC
  rw [e]
  exact valV_pos rfl
theorem pen_d (c : Addr) (t d : Int) : valV (penD c t d) kD = some (.int d) := by
  have e : valV (penD c t d) kD = valV [(kT, V.int t), (kD, V.int d)] kD := valV_neg kDC
  have e2 : valV [(kT, V.int t), (kD, V.int d)] kD = valV [(kD, V.int d)] kD := valV_neg kDT
  rw [e, e2]
  exact valV_pos rfl
theorem put_pt (c : Addr) (t d x : Int) : putK (penD c t d) kT (.int x) = penD c x d := by
  have h1 : decide (kC = kT) = false := decide_eq_false kTC
  have h2 : decide (kD = kT) = false := decide_eq_false (fun e => kDT e.symm)
  unfold putK penD
  simp [List.any_cons, h1, h2, kTC, show ¬ kD = kT from fun e => kDT e.symm]
theorem put_pd (c : Addr) (t d x : Int) : putK (penD c t d) kD (.int x) = penD c t x := by
  unfold putK penD
  simp [List.any_cons, kDC, kDT]
def PenAt (H : Hp) (p c : Addr) (T : Int) : Prop :=
  ∃ (cells : List Int) (t d : Int), H p = some (.dK (penD c t d)) ∧ H c = some (.lst (cells.map V.int)) ∧ cells.length ≤ 63 ∧ 0 ≤ t ∧ t ≤ T ∧ 0 ≤ d
section
variable {H H' : Hp} {p c q : Addr} {T T' : Int}
theorem PenAt.ex (e : Evl.Ex H H') (h : PenAt H p c T) : PenAt H' p c T := by
  obtain ⟨cells, t, d, h1, h2, r⟩ := h
  exact ⟨cells, t, d, e _ _ h1, e _ _ h2, r⟩
/-- an object of ours that is neither the pen nor its cells has changed -/
theorem PenAt.put {o : HO} (h : PenAt H p c T) (h1 : q ≠ p) (h2 : q ≠ c) : PenAt (upd H q o) p c T := by
  obtain ⟨cells, t, d, a, b, r⟩ := h
  exact ⟨cells, t, d, by rw [upd_ne h1.symm]; exact a, by rw [upd_ne h2.symm]; exact b, r⟩
theorem PenAt.mono (h : PenAt H p c T) (l : T ≤ T') : PenAt H p c T' := by
  obtain ⟨cells, t, d, a, b, b2, t0, t1, d0⟩ := h
  exact ⟨cells, t, d, a, b, b2, t0, Int.le_trans t1 l, d0⟩
theorem PenAt.no (h : PenAt H p c T) : ∀ xs, ¬ Rd H p (.tup xs) := by
  obtain ⟨cells, t, d, a, _⟩ := h
  rintro xs (z | ⟨o, z⟩)
  · rw [a] at z; cases z
  · rw [a] at z; cases z
theorem PenAt.here (h : PenAt H p c T) : H p ≠ none := by
  obtain ⟨cells, t, d, a, _⟩ := h
  rw [a]
  exact fun z => nomatch z
theorem PenAt.new1 (h : PenAt H p c T) (n : H q = none) : q ≠ p := fun z => h.here (z ▸ n)
theorem PenAt.new2 (h : PenAt H p c T) (n : H q = none) : q ≠ c := fun z => by
  obtain ⟨cells, t, d, _, b, _⟩ := h
  rw [← z, n] at b
  cases b
theorem PenAt.tx {K : PySem.W.Frag} (h : PenAt H p c T) (e : Exx p H H') : TX K H H' := e.tx h.no
/-- a list of ours has changed -/
theorem TX.put {K : PySem.W.Frag} {l : Addr} {xs : List V} {o : HO} (h : H l = some (.lst xs)) : TX K H (upd H l o) := by
  refine ⟨fun a ys z => ?_, fun a ys z => ?_⟩
  · rcases z with (z | ⟨o', z⟩) | z
    · exact .inl (.inl (by rw [upd_ne (ne_of z h (fun q => nomatch q))]; exact z))
    · exact .inl (.inr ⟨o', by rw [upd_ne (ne_of z h (fun q => nomatch q))]; exact z⟩)
    · exact .inr z
  · rw [upd_ne (ne_of z h (fun q => nomatch q))]
    exact z
theorem Exx.mut {l : Addr} {o : HO} (e : Exx p H H') (n : H l = none) : Exx p H (upd H' l o) := fun a u na ha => by
  rw [upd_ne (ne_of_none ha n)]
  exact e a u na ha
end
theorem fresh_exx {p q : Addr} {H H' : Hp} (e : Exx p H H') (hp : H' p ≠ none) (h : H' q = none) : H q = none := by
  cases z : H q with
  | none => rfl
  | some o =>
    by_cases n : q = p
    · subst n; exact absurd h hp
    · rw [e q o n z] at h; cases h

def spPen (K : PySem.W.Frag) : Sp := fun vs H Q _ => ∃ (a : Addr) (ns : List Int), vs = [.ref a] ∧ SqL K H a (ns.map V.int) ∧ ∀ H' p, Evl.Ex H H' → H p = none → (∃ c, PenAt H' p c 0) → Q (.ref p) H'
def spDraw : Sp := fun vs H Q _ => ∃ (p c : Addr) (n T : Int), vs = [.ref p, .int n] ∧ PenAt H p c T ∧ 1 ≤ n ∧ n ≤ 1000000 ∧ T ≤ 10000000 ∧ ∀ i H', 0 ≤ i → i < n → Exx p H H' → PenAt H' p c (T + 1) → Q (.int i) H'
def spPick (K : PySem.W.Frag) : Sp := fun vs H Q _ => ∃ (p c a : Addr) (T : Int) (xs : List V), vs = [.ref p, .ref a] ∧ PenAt H p c T ∧ T ≤ 10000000 ∧ SqL K H a xs ∧ a ≠ p ∧ xs ≠ [] ∧ xs.length ≤ 1000000 ∧
  ∀ x H', x ∈ xs → Exx p H H' → PenAt H' p c (T + 1) → Q x H'

theorem ints_shaped (ns : List Int) : SeqAt.shaped (.list (ns.map PyData.int)) = true := by
  have h1 : ∀ ns : List Int, PyData.canLayAll0 (ns.map PyData.int) = true := by
    intro ns
    induction ns with
    | nil => rfl
    | cons n ns ih => simp [PyData.canLayAll0, PyData.canLay0, ih]
  have h2 : ∀ ns : List Int, PyData.depthAll (ns.map PyData.int) ≤ 1 := by
    intro ns
    induction ns with
    | nil => simp [PyData.depthAll]
    | cons n ns ih => simp [PyData.depthAll, PyData.depth]; omega
  unfold SeqAt.shaped
  simp only [PyData.canLay0, PyData.depth, h1, Bool.true_and]
  have := h2 ns
  exact decide_eq_true (by omega)
theorem dp_ints {K : PySem.W.Frag} {H : Hp} : ∀ ns : List Int, DpAll K H (ns.map V.int) (ns.map PyData.int)
  | [] => .nil
  | n :: ns => .cons (.int n) (dp_ints ns)
section
variable {P : Program} {w : World} {K : PySem.W.Frag} {mg : Str → Option Value} {base : Heap}
theorem cut63 (ns : List Int) : cutV (ns.map V.int) none (some 63) = (ns.take 63).map V.int := by
  rw [List.map_take]
  exact cut_take _ 63
theorem ok_pen {f : Addr} {fd : FuncData} (F : Fun K "_law_pen" "_law_pen" sPen f fd) (B : Bi mg) : FnOk P w K mg base CX0 1 f fd ["_law_script"] (spPen K) := by
  refine F.ok scPen (fun vs H Q E h => ?_) (fun cdv A outer s H vs Q E hr h => ?_)
  · obtain ⟨a, ns, rfl, _⟩ := h; rfl
  · obtain ⟨a, ns, rfl, hS, q⟩ := h
    refine ⟨_, pss_one (ps_ret (pe_disp (pps_cons pe_str (pe_callTy call_list_of (by rfl) B.list PyProof.Rows.boot_list (pa_cons (pe_slice sl_list (pv 0) po_none (po_some pe_int)) pa_nil)) (pps_cons pe_str pe_int (pps_cons pe_str pe_int pps_nil)))
      (by rfl) (by rfl) (fun z => by cases z) (by decide))), ?_⟩
    intro p np
    have x1 : Evl.Ex H (upd H p (.dK [])) := Evl.Ex.new np
    refine ⟨.ref a, rfl, 63, rfl, a, _, rfl, Evl.ex_l x1 hS, fun c1 n1 => ?_⟩
    rw [cut63]
    have x2 := Evl.Ex.new (o := .lst ((ns.take 63).map V.int)) n1
    refine ⟨c1, _, rfl, .inl (.inl (.inl upd_same)), fun c n2 => ?_⟩
    have x3 := Evl.Ex.new (o := .lst ((ns.take 63).map V.int)) n2
    have hp3 := x3 _ _ (x2 _ _ (upd_same (H := H) (a := p) (o := .dK [])))
    refine ⟨hp3, penD c 0 0, ?_, (by show 3 ≤ 15; decide), ?_⟩
    · rfl
    · have e : mergeK [] (penD c 0 0) = penD c 0 0 := by rfl
      rw [e]
      refine q _ p (((x1.trans x2).trans x3).mut np) np ⟨c, ns.take 63, 0, 0, upd_same, ?_, ?_, Int.le_refl _, Int.le_refl _, Int.le_refl _⟩
      · rw [upd_ne (fun z => by rw [z] at n2; rw [x2 _ _ (upd_same (H := H) (a := p) (o := .dK []))] at n2; cases n2), upd_same]
      · rw [List.length_take]
        exact Nat.min_le_left _ _
end
end Wb

set_option Elab.async false
set_option linter.all false
set_option maxRecDepth 100000
set_option maxHeartbeats 4000000
set_option pp.maxSteps 600
set_option pp.deepTerms false
namespace Wb
open PySem PySem.Spec PyProof.Rows L2
theorem bnd61 (x : Int) : -(2 ^ 64) < x % 2305843009213693951 ∧ x % 2305843009213693951 < 2 ^ 64 := by
  have a1 := Int.emod_nonneg x (show (2305843009213693951 : Int) ≠ 0 by decide)
  have a2 := Int.emod_lt_of_pos x (show (0 : Int) < 2305843009213693951 by decide)
  omega
section
variable {P : Program} {w : World} {K : PySem.W.Frag} {mg : Str → Option Value} {base : Heap}
theorem ok_draw {f : Addr} {fd : FuncData} (F : Fun K "_law_draw" "_law_draw" sDraw f fd) (B : Bi mg) : FnOk P w K mg base CX0 1 f fd ["_law_pen_here", "_law_many"] spDraw := by
  refine F.ok scDraw (fun vs H Q E h => ?_) (fun cdv A outer s H vs Q E hr h => ?_)
  · obtain ⟨p, c, n, T, rfl, _⟩ := h; rfl
  · obtain ⟨p, c, n, T, rfl, ⟨cells, t, d, hp, hc, c63, t0, t1, d0⟩, n1, n2, T7, q⟩ := h
    have hu := hu_of hr
    have ncp : c ≠ p := ne_of hc hp (fun z => nomatch z)
    refine ⟨_, pss_cons (ps_if (pt_cmpR op_gt (pe_dget hu (pv 0) pe_str (fun _ _ => rfl)) pe_int (nomark _))
        (pss_cons (ps_set (i := 2) scDraw.nd rfl (.inl rfl) (pe_op op_mod (pe_dget hu (pv 0) pe_str (fun _ _ => rfl)) (pv 1)))
        (pss_cons (ps_dput hu (pv 0) pe_str (pe_op op_fdiv (pe_dget hu (pv 0) pe_str (fun _ _ => rfl)) (pv 1)) rfl)
        (pss_one (ps_ret (pv 2))))) pss_nil)
      (pss_cons (ps_set (i := 3) scDraw.nd rfl (.inl rfl) (pe_dget hu (pv 0) pe_str (fun _ _ => rfl)))
      (pss_cons (ps_dput hu (pv 0) pe_str (pe_op op_add (pv 3) pe_int) rfl)
      (pss_cons (ps_set (i := 4) scDraw.nd rfl (.inl rfl) pe_int)
      (Evl.pss_cut (ps_if (pt_cmpR (op_neD hr.units) (pe_dget hu (pv 0) pe_str (fun _ _ => rfl)) (pe_lst pa_nil) (nomark _))
        (pss_one (ps_set (i := 4) scDraw.nd rfl (.inl rfl) (pe_callB call_abs (by rfl) B.abs boot_abs (pa_cons (pe_ix ix_list (pe_dget hu (pv 0) pe_str (fun _ _ => rfl)) (pe_op op_mod (pv 3) (pe_callB call_len_seq (by rfl) B.len PySem.boot_len (pa_cons (pe_dget hu (pv 0) pe_str (fun _ _ => rfl)) pa_nil))) (fun _ _ => rfl)) pa_nil)))) pss_nil)
      (Evl.pss_cut (ps_if (PW.pt (pw_and (pt_cmpR op_ge (pv 4) (pe_op op_pow pe_int pe_int) (nomark _)) (pw_and1 (pt_cmpR op_lt (pv 3) (pe_callB call_len_seq (by rfl) B.len PySem.boot_len (pa_cons (pe_dget hu (pv 0) pe_str (fun _ _ => rfl)) pa_nil)) (nomark _)))))
        (pss_cons (ps_dput hu (pv 0) pe_str (pe_op op_fdiv (pe_op op_sub (pv 4) (pe_op op_pow pe_int pe_int)) (pv 1)) rfl)
        (pss_one (ps_ret (pe_op op_mod (pe_op op_sub (pv 4) (pe_op op_pow pe_int pe_int)) (pv 1))))) pss_nil)
      (pss_cons (ps_set (i := 5) scDraw.nd rfl (.inl rfl) (pe_op op_mod (pe_op op_add (pe_op op_add (pe_op op_add (pe_op op_mul (pv 4) pe_int) (pe_op op_mul (pe_op op_mul pe_int (pv 3)) (pv 3))) (pe_op op_mul pe_int (pv 3))) pe_int) pe_int))
      (pss_cons (ps_set (i := 5) scDraw.nd rfl (.inl rfl) (pe_op op_mod (pe_op op_mul (pv 5) (pe_op op_add (pe_op op_mod (pv 5) pe_int) pe_int)) pe_int))
      (pss_cons (ps_set (i := 5) scDraw.nd rfl (.inl rfl) (pe_op op_mod (pe_op op_mul (pe_op op_add (pv 5) (pe_op op_mul pe_int (pv 3))) (pv 5)) pe_int))
      (pss_one (ps_ret (pe_op op_mod (pe_op op_fdiv (pv 5) pe_int) (pv 1)))))))))))), ?_⟩
    have gD : ∀ {H' : Hp} {t' d' : Int}, H' p = some (.dK (penD c t' d')) → DGet H' p (.str "digits") (some (.int d')) := fun {H' t' d'} e => by
      have := DGet.k (k := kD) e
      rw [pen_d] at this
      exact this
    have gT : ∀ {H' : Hp} {t' d' : Int}, H' p = some (.dK (penD c t' d')) → DGet H' p (.str "taken") (some (.int t')) := fun {H' t' d'} e => by
      have := DGet.k (k := kT) e
      rw [pen_t] at this
      exact this
    have gC : ∀ {H' : Hp} {t' d' : Int}, H' p = some (.dK (penD c t' d')) → DGet H' p (.str "cells") (some (.ref c)) := fun {H' t' d'} e => by
      have := DGet.k (k := kC) e
      rw [pen_c] at this
      exact this
    have len3 : ∀ t' d', (penD c t' d').length < sizeLine := fun _ _ => (by show 3 < sizeLine; decide)
    have pD : ∀ {H' : Hp} {t' d' x : Int}, H' p = some (.dK (penD c t' d')) → DPut H' p (.str "digits") (.int x) (upd H' p (.dK (penD c t' x))) := fun {H' t' d' x} e => by
      have := DPut.k (k := kD) (v := .int x) e (len3 _ _)
      rw [put_pd] at this
      exact this
    have pT : ∀ {H' : Hp} {t' d' x : Int}, H' p = some (.dK (penD c t' d')) → DPut H' p (.str "taken") (.int x) (upd H' p (.dK (penD c x d'))) := fun {H' t' d' x} e => by
      have := DPut.k (k := kT) (v := .int x) e (len3 _ _)
      rw [put_pt] at this
      exact this
    have n0 : 0 < n := by omega
    have nb : 0 < n ∧ n < 1073741824 := ⟨n0, by omega⟩
    -- the digits of a great cell
    refine ⟨.ref p, rfl, p, .int d, rfl, gD hp, d, 0, rfl, rfl, _, rfl, ?_⟩
    refine ite2 (fun _ => ?_) (fun _ => ?_)
    · refine ⟨.ref p, rfl, p, .int d, rfl, gD hp, .int n, rfl, d, n, rfl, rfl, n0, ?_⟩
      refine ⟨.ref p, rfl, p, .int d, rfl, gD hp, .int n, rfl, d, n, rfl, rfl, nb, .ref p, rfl, p, _, rfl, pD hp, .int (d % n), rfl, ?_⟩
      refine q _ _ (Int.emod_nonneg _ (by omega)) (Int.emod_lt_of_pos _ n0) Exx.put ⟨cells, t, d / n, upd_same, by rw [upd_ne ncp]; exact hc, c63, t0, by omega, Int.ediv_nonneg d0 (by omega)⟩
    · refine ⟨.ref p, rfl, p, .int t, rfl, gT hp, ?_⟩
      refine ⟨.int t, rfl, t, 1, rfl, rfl, .ref p, rfl, p, _, rfl, pT hp, ?_⟩
      generalize hH1 : upd H p (.dK (penD c (t + 1) d)) = H1
      have hp1 : H1 p = some (.dK (penD c (t + 1) d)) := by rw [← hH1]; exact upd_same
      have hc1 : H1 c = some (.lst (cells.map V.int)) := by rw [← hH1, upd_ne ncp]; exact hc
      have x1 : Exx p H H1 := by rw [← hH1]; exact Exx.put
      -- the cell
      refine ⟨fun σ H' => ∃ cell : Int, σ = [some (.ref p), some (.int n), none, some (.int t), some (.int cell), none] ∧ Evl.Ex H1 H', ?_, ?_⟩
      · refine ⟨.ref p, rfl, p, .ref c, rfl, gC hp1, Nat.zero_le _, fun e ne => ?_⟩
        have e1 := Evl.Ex.new (o := .lst []) ne
        have hp2 := e1 _ _ hp1
        have hc2 := e1 _ _ hc1
        refine ⟨.list (cells.map PyData.int), .list [], .lst (.inl (.inl hc2)) (dp_ints cells), .lst (.inl (.inl upd_same)) .nil, ints_shaped cells, (by decide), _, rfl, ?_⟩
        cases hcells : cells with
        | nil =>
          refine iteF ?_
          exact ⟨0, rfl, e1⟩
        | cons c0 cs =>
          refine iteT ?_
          have lp : 0 < cells.length := by rw [hcells]; exact Nat.succ_pos _
          have hlt : (t % (cells.length : Int)).toNat < cells.length := by
            have h1 := Int.emod_nonneg t (show (cells.length : Int) ≠ 0 by omega)
            have h2 := Int.emod_lt_of_pos t (show (0 : Int) < cells.length by omega)
            omega
          have hix : ((t % (cells.length : Int)).toNat : Int) = t % ((cells.map V.int).length : Nat) := by
            have h1 := Int.emod_nonneg t (show (cells.length : Int) ≠ 0 by omega)
            rw [List.length_map]
            omega
          refine ⟨.ref p, rfl, p, .ref c, rfl, gC hp2, .int t, rfl, .ref p, rfl, p, .ref c, rfl, gC hp2, c, _, rfl, .inl (.inl (.inl hc2)), t, _, rfl, rfl, (by rw [List.length_map]; omega), c, _, _, .int (cells[(t % (cells.length : Int)).toNat]), rfl, rfl, .inl (.inl hc2), ?_, _, rfl, ?_⟩
          · rw [← hix]
            exact atI_nat (map_int_get (List.getElem?_eq_getElem hlt))
          · exact ⟨_, rfl, e1⟩
      · rintro σ H2 ⟨cell, rfl, e2⟩
        have hp2 := e2 _ _ hp1
        have hc2 := e2 _ _ hc1
        have x2 := x1.trans (Exx.ex e2)
        have fin : ∀ i : Int, 0 ≤ i → i < n → Q (.int i) H2 := fun i h1 h2 => q i H2 h1 h2 x2 ⟨cells, t + 1, d, hp2, hc2, c63, by omega, by omega, d0⟩
        have p18 : (0 : Int) ≤ 18 ∧ (18 : Int) ≤ 1000000 ∧ (10 : Int).natAbs < 2 ^ 64 := by decide
        have hlen : ((cells.map V.int).length : Int) = (cells.length : Int) := by rw [List.length_map]
        refine ⟨fun σ H' => σ = [some (.ref p), some (.int n), none, some (.int t), some (.int cell), none] ∧ H' = H2, ?_, ?_⟩
        · refine ⟨.int cell, rfl, 10, 18, rfl, rfl, p18, cell, _, rfl, rfl, _, rfl, ?_⟩
          refine ite2 (fun hge => ?_) (fun _ => ?_)
          · refine ⟨.int t, rfl, .ref p, rfl, p, .ref c, rfl, gC hp2, c, _, rfl, .inl (.inl (.inl hc2)), t, _, rfl, rfl, _, rfl, ?_⟩
            refine ite2 (fun _ => ?_) (fun _ => ?_)
            · have hge' : (10 : Int) ^ (18 : Int).toNat ≤ cell := of_decide_eq_true hge
              refine ⟨.int cell, rfl, 10, 18, rfl, rfl, p18, cell, _, rfl, rfl, .int n, rfl, _, n, rfl, rfl, nb, .ref p, rfl, p, _, rfl, pD hp2, ?_⟩
              refine ⟨.int cell, rfl, 10, 18, rfl, rfl, p18, cell, _, rfl, rfl, .int n, rfl, _, n, rfl, rfl, n0, ?_⟩
              refine q _ _ (Int.emod_nonneg _ (by omega)) (Int.emod_lt_of_pos _ n0) (x2.trans Exx.put) ⟨cells, t + 1, _, upd_same, by rw [upd_ne ncp]; exact hc2, c63, by omega, by omega, Int.ediv_nonneg (by omega) (by omega)⟩
            · exact ⟨rfl, rfl⟩
          · exact ⟨rfl, rfl⟩
        · rintro σ H' ⟨rfl, rfl⟩
          have m0 : (0 : Int) < 2305843009213693951 := by decide
          have cm : ∀ x : Int, CMul x 48271 := fun x => .inr (by decide)
          have tb : -(2 ^ 64) < t ∧ t < 2 ^ 64 := ⟨by omega, by omega⟩
          refine ⟨.int cell, rfl, cell, 48271, rfl, rfl, cm _, .int t, rfl, 69621, t, rfl, rfl, .inl (by decide), .int t, rfl, _, t, rfl, rfl, .inr tb, _, _, rfl, rfl, .int t, rfl, 7919, t, rfl, rfl, .inl (by decide), _, _, rfl, rfl, _, 11, rfl, rfl, _, _, rfl, rfl, m0, ?_⟩
          have mm1 : (0 : Int) < 1000003 := by decide
          refine ⟨_, rfl, _, rfl, _, 1000003, rfl, rfl, mm1, _, 40692, rfl, rfl, _, _, rfl, rfl, .inl (bnd61 _), _, _, rfl, rfl, m0, ?_⟩
          refine ⟨_, rfl, .int t, rfl, 16807, t, rfl, rfl, .inl (by decide), _, _, rfl, rfl, _, rfl, _, _, rfl, rfl, .inr (bnd61 _), _, _, rfl, rfl, m0, ?_⟩
          refine ⟨_, rfl, _, 1024, rfl, rfl, (show (0 : Int) < 1024 ∧ (1024 : Int) < 1073741824 by decide), .int n, rfl, _, n, rfl, rfl, n0, ?_⟩
          exact fin _ (Int.emod_nonneg _ (by omega)) (Int.emod_lt_of_pos _ n0)
theorem ok_pick {f f1 : Addr} {fd fd1 : FuncData} (F : Fun K "_law_pick" "_law_pick" sPick f fd) (F1 : Fun K "_law_draw" "_law_draw" sDraw f1 fd1) (b1 : Binds K fd1 ["_law_pen_here", "_law_many"] []) (g1 : mg "_law_draw" = some (.ref f1)) (B : Bi mg) :
    FnOk P w K mg base CX0 2 f fd ["_law_pen_here", "_law_some"] (spPick K) := by
  have G1 : FnOk P w K mg base CX0 1 f1 fd1 ["_law_pen_here", "_law_many"] spDraw := ok_draw F1 B
  refine F.ok scPick (fun vs H Q E h => ?_) (fun cdv A outer s H vs Q E hr h => ?_)
  · obtain ⟨p, c, a, T, xs, rfl, _⟩ := h; rfl
  · obtain ⟨p, c, a, T, xs, rfl, hp, T7, hx, nap, ne, xl, q⟩ := h
    refine ⟨_, pss_one (ps_ret (pe_ix ix_list (pv 1) (pe_call G1 hr (by rfl) g1 F1.kp b1 .nil pass0 (pa_cons (pv 0) (pa_cons (pe_callB call_len_seq (by rfl) B.len PySem.boot_len (pa_cons (pv 1) pa_nil)) pa_nil))) (fun _ _ => rfl))), ?_⟩
    have lp : 0 < xs.length := List.length_pos_iff.mpr ne
    refine ⟨.ref a, rfl, .ref p, rfl, .ref a, rfl, a, xs, rfl, .inl hx, p, c, _, T, rfl, hp, by omega, by omega, T7, fun i H' h0 h1 e hp' => ?_⟩
    have hlt : i.toNat < xs.length := by omega
    obtain ⟨y, hy⟩ : ∃ y, xs[i.toNat]? = some y := ⟨_, List.getElem?_eq_getElem hlt⟩
    refine ⟨a, xs, i, y, rfl, rfl, e.l nap hx, ?_, ?_⟩
    · have z : ((i.toNat : Nat) : Int) = i := by omega
      rw [← z]
      exact atI_nat hy
    · exact q _ H' (List.mem_of_getElem? hy) e hp'
end
end Wb

set_option Elab.async false
set_option linter.all false
set_option maxRecDepth 100000
set_option maxHeartbeats 4000000
set_option pp.maxSteps 600
set_option pp.deepTerms false
namespace Wb
open PySem PySem.Spec PyProof.Rows L2
abbrev sGaps : Stmt := topS 36
abbrev nGaps : List Str := ["_law_pen_here", "_law_wide", "_law_words", "_law_found", "_law_left", "_law_here", "_law_there", "_law_ways_here", "_law_cost", "_law_word"]
theorem scGaps : FnScope nGaps ["_law_pen_here", "_law_wide", "_law_words"] (defScope sGaps) := ⟨rfl, rfl, rfl, by decide +kernel, rfl, by decide +kernel, by decide +kernel⟩
/-- gaps as they are drawn: left so many ways of eight -/
structure Drawn (wide : Int) (ws : List Word) (gs : List Gap) (left : Int) : Prop where
  each : ∀ g ∈ gs, (0 ≤ g.frm ∧ g.frm < wide) ∧ (0 ≤ g.to_ ∧ g.to_ < wide) ∧ g.frm ≠ g.to_ ∧ (1 ≤ g.price ∧ g.price ≤ 1000000) ∧ g.ways.Sublist ws
  rise : gs.Pairwise (fun g h => lexLt2 g.frm g.to_ h.frm h.to_)
  sum : (((gs.map (fun g => g.ways.length)).sum : Nat) : Int) + left = 8
  left0 : 0 ≤ left
def spGaps (K : PySem.W.Frag) : Sp := fun vs H Q _ => ∃ (p c wl : Addr) (wide T : Int) (us : List V) (ws : List Word), vs = [.ref p, .int wide, .ref wl] ∧ PenAt H p c T ∧ T ≤ 9000000 ∧ 2 ≤ wide ∧ wide ≤ 4 ∧ wl ≠ p ∧
  H wl = some (.lst us) ∧ Paired (Wd K H) us ws ∧ ws.length ≤ 8 ∧
  ∀ H' a gvs gs left, Exx p H H' → PenAt H' p c (T + 400) → SqT K H' a gvs → Paired (GapAt K H') gvs gs → Drawn wide ws gs left → Q (.ref a) H'
theorem drawn0 {wide : Int} {ws : List Word} : Drawn wide ws [] 8 := ⟨fun g hg => (by cases hg), List.Pairwise.nil, by decide, by decide⟩
section
variable {P : Program} {w : World} {K : PySem.W.Frag} {mg : Str → Option Value} {base : Heap}
theorem ok_gaps {f f1 f2 : Addr} {fd fd1 fd2 : FuncData} (F : Fun K "_law_gaps" "_law_gaps" sGaps f fd) (F1 : Fun K "_law_draw" "_law_draw" sDraw f1 fd1) (b1 : Binds K fd1 ["_law_pen_here", "_law_many"] []) (g1 : mg "_law_draw" = some (.ref f1))
    (F2 : Fun K "_law_pick" "_law_pick" sPick f2 fd2) (b2 : Binds K fd2 ["_law_pen_here", "_law_some"] []) (g2 : mg "_law_pick" = some (.ref f2)) (B : Bi mg) :
    FnOk P w K mg base CX0 3 f fd ["_law_pen_here", "_law_wide", "_law_words"] (spGaps K) := by
  have G1 : FnOk P w K mg base CX0 1 f1 fd1 ["_law_pen_here", "_law_many"] spDraw := ok_draw F1 B
  have G2 : FnOk P w K mg base CX0 2 f2 fd2 ["_law_pen_here", "_law_some"] (spPick K) := ok_pick F2 F1 b1 g1 B
  refine F.ok scGaps (fun vs H Q E h => ?_) (fun cdv A outer s H vs Q E hr h => ?_)
  · obtain ⟨p, c, wl, wide, T, us, ws, rfl, _⟩ := h; rfl
  · obtain ⟨p, c, wl, wide, T, us, ws, rfl, hp, T9, w2, w4, nwp, hwl, hws, w8, q⟩ := h
    have hr1 : Room 1 _ := hr.mono (by decide)
    refine ⟨_, pss_cons (ps_par (by rfl) scGaps.nd (i := 3) (j := 4) rfl rfl (by decide) rfl rfl (pa_cons (pe_lst pa_nil) (pa_cons pe_int pa_nil)) (by rfl))
      (pss_cons (ps_for PassesOwn.never rfl (pi_range1 (by rfl) B.range (pa_cons (pv 1) pa_nil)) (pg_name (i := 5) scGaps.nd rfl (.inl rfl))
        (pss_one (ps_for PassesOwn.never rfl (pi_range1 (by rfl) B.range (pa_cons (pv 1) pa_nil)) (pg_name (i := 6) scGaps.nd rfl (.inl rfl))
          (pss_one (ps_if (PW.pt (pw_and (pt_cmpR op_ne (pv 5) (pv 6) (nomark _)) (pw_and1 (pt_cmpR op_gt (pe_call G1 hr1 (by rfl) g1 F1.kp b1 .nil pass0 (pa_cons (pv 0) (pa_cons pe_int pa_nil))) pe_int (nomark _)))))
            (pss_cons (ps_set (i := 7) scGaps.nd rfl (.inl rfl) (pe_slice sl_list
                (pe_lc (own := [("_law_word", 9)]) (g := gName 9) rfl scGaps.nd (pi_list (pv 2)) (blkOk_by (own := [("_law_word", 9)]) (N := nGaps) (sc := defScope sGaps) (by decide +kernel))
                  (fun _ _ _ _ _ => pg_name (i := 9) scGaps.nd rfl (Or.inl rfl))
                  (fun _ _ _ _ _ => pts_one (pt_cmpR op_gt (pe_call G1 hr1 (by rfl) g1 F1.kp b1 .nil pass0 (pa_cons (pv 0) (pa_cons pe_int pa_nil))) pe_int (nomark _)))
                  (fun _ _ _ _ _ => pv 9)) po_none (po_some (pv 4))))
            (pss_cons (ps_set (i := 8) scGaps.nd rfl (.inl rfl) (pe_call G2 hr (by rfl) g2 F2.kp b2 .nil pass0 (pa_cons (pv 0) (pa_cons (pe_lst (pa_cons pe_int
                (pa_cons (pe_op op_add pe_int (pe_call G1 hr1 (by rfl) g1 F1.kp b1 .nil pass0 (pa_cons (pv 0) (pa_cons pe_int pa_nil))))
                (pa_cons (pe_op op_add pe_int (pe_call G1 hr1 (by rfl) g1 F1.kp b1 .nil pass0 (pa_cons (pv 0) (pa_cons pe_int pa_nil))))
                (pa_cons (pe_op op_add pe_int (pe_call G1 hr1 (by rfl) g1 F1.kp b1 .nil pass0 (pa_cons (pv 0) (pa_cons (pe_op op_pow pe_int pe_int) pa_nil)))) pa_nil))))) pa_nil))))
            (pss_cons (ps_expr (pe_bm PySem.F.plainAttrs_list PySem.F.slot_list_append PySem.F.type_list_append mt_append (pv 3) (pa_cons (pe_tup (pa_cons (pv 5) (pa_cons (pv 6) (pa_cons (pv 8) (pa_cons
                (pe_callTy call_tuple_of (by rfl) B.tuple PyProof.Rows.boot_tuple (pa_cons (pv 7) pa_nil)) pa_nil))))) pa_nil)))
            (pss_one (ps_set (i := 4) scGaps.nd rfl (.inl rfl) (pe_op op_sub (pv 4) (pe_callB call_len_seq (by rfl) B.len PySem.boot_len (pa_cons (pv 7) pa_nil)))))))) pss_nil)))))
      (pss_one (ps_ret (pe_callTy call_tuple_of (by rfl) B.tuple PyProof.Rows.boot_tuple (pa_cons (pv 3) pa_nil))))), ?_⟩
    have ul : us.length = ws.length := Paired.len hws
    refine ⟨Nat.zero_le _, fun l nl => ?_⟩
    have nlp : l ≠ p := hp.new1 nl
    have nlc : l ≠ c := hp.new2 nl
    have nlw : l ≠ wl := fun z => by rw [z, hwl] at nl; cases nl
    refine ⟨.ref l, .int 8, rfl, ?_⟩
    refine ⟨.int wide, rfl, wide, rfl, by omega, by omega, for_range (lo := 0) (n := wide.toNat) (fun i σ H' => ∃ (gvs : List V) (gs : List Gap) (left : Int) (y5 y6 y7 y8 y9 : Option V), σ = [some (.ref p), some (.int wide), some (.ref wl), some (.ref l), some (.int left), y5, y6, y7, y8, y9] ∧
        Exx p H H' ∧ PenAt H' p c (T + 80 * i) ∧ H' l = some (.lst gvs) ∧ Paired (GapAt K H') gvs gs ∧ Drawn wide ws gs left ∧ gvs.length ≤ 4 * i ∧ ∀ g ∈ gs, g.frm < (i : Int)) ⟨[], [], 8, none, none, none, none, none, rfl, Exx.ex (Evl.Ex.new nl), ?_, upd_same, .nil, drawn0, Nat.zero_le _, fun g hg => nomatch hg⟩ ?_ ?_⟩
    · have := hp.put (o := .lst []) nlp nlc
      simpa using this
    · rintro i σ H1 hi ⟨gvs, gs, left, y5, y6, y7, y8, y9, rfl, x1, hp1, hl1, hg1, hd1, gl1, hlt1⟩
      have i4 : i < 4 := by omega
      have ei : (0 : Int) + (i : Nat) = (i : Int) := by omega
      rw [ei]
      refine ⟨.int wide, rfl, wide, rfl, by omega, by omega, for_range (lo := 0) (n := wide.toNat) (fun j σ H' => ∃ (gvs : List V) (gs : List Gap) (left : Int) (y6 y7 y8 y9 : Option V), σ = [some (.ref p), some (.int wide), some (.ref wl), some (.ref l), some (.int left), some (.int (i : Nat)), y6, y7, y8, y9] ∧
          Exx p H H' ∧ PenAt H' p c (T + 80 * i + 20 * j) ∧ H' l = some (.lst gvs) ∧ Paired (GapAt K H') gvs gs ∧ Drawn wide ws gs left ∧ gvs.length ≤ 4 * i + j ∧ ∀ g ∈ gs, lexLt2 g.frm g.to_ i j) ⟨gvs, gs, left, _, _, _, _, rfl, x1, by simpa using hp1, hl1, hg1, hd1, by omega, fun g hg => .inl (hlt1 g hg)⟩ ?_ ?_⟩
      · rintro j σ H2 hj ⟨gvs, gs, left, y6, y7, y8, y9, rfl, x2, hp2, hl2, hg2, hd2, gl2, hlt2⟩
        have j4 : j < 4 := by omega
        have ej : (0 : Int) + (j : Nat) = (j : Int) := by omega
        rw [ej]
        have hi' : (i : Int) < wide := by omega
        have hj' : (j : Int) < wide := by omega
        -- nothing is put in
        have stay : ∀ {Hx : Hp} {y7 y8 y9 : Option V} {k : Int}, Exx p H2 Hx → PenAt Hx p c (T + 80 * i + 20 * j + k) → k ≤ 20 → ∃ (gvs : List V) (gs : List Gap) (left' : Int) (y6 y7' y8' y9' : Option V), ([some (.ref p), some (.int wide), some (.ref wl), some (.ref l), some (.int left), some (.int (i : Nat)), some (.int (j : Nat)), y7, y8, y9] : L2.St) = [some (.ref p), some (.int wide), some (.ref wl), some (.ref l), some (.int left'), some (.int (i : Nat)), y6, y7', y8', y9'] ∧
            Exx p H Hx ∧ PenAt Hx p c (T + 80 * i + 20 * ((j + 1 : Nat) : Int)) ∧ Hx l = some (.lst gvs) ∧ Paired (GapAt K Hx) gvs gs ∧ Drawn wide ws gs left' ∧ gvs.length ≤ 4 * i + (j + 1) ∧ ∀ g ∈ gs, lexLt2 g.frm g.to_ i ((j + 1 : Nat) : Int) := by
          intro Hx y7 y8 y9 k ex hpx hk
          refine ⟨gvs, gs, left, _, _, _, _, rfl, x2.trans ex, hpx.mono (by omega), ex _ _ nlp hl2, Paired.imp (fun _ _ => GapAt.mono (hp2.tx ex)) hg2, hd2, by omega, fun g hg => ?_⟩
          rcases hlt2 g hg with h | ⟨h, h'⟩
          · exact .inl h
          · exact .inr ⟨h, by omega⟩
        refine ⟨.int (i : Nat), rfl, .int (j : Nat), rfl, rfl, _, rfl, ?_⟩
        by_cases eij : i = j
        · subst eij
          have z : (!decide (V.int (i : Nat) = V.int (i : Nat))) = false := by simp
          rw [z]
          refine iteF ?_
          exact stay (k := 0) (Exx.refl p H2) (by simpa using hp2) (by decide)
        · have z : (!decide (V.int (i : Nat) = V.int (j : Nat))) = true := by
            have : ¬ V.int (i : Nat) = V.int (j : Nat) := fun e => eij (by have := V.int.inj e; omega)
            rw [decide_eq_false this]
            rfl
          rw [z]
          refine iteT ?_
          refine ⟨.ref p, rfl, p, c, 3, _, rfl, hp2, by decide, by decide, by omega, fun r H3 r0 r1 x3 hp3 => ?_⟩
          refine ⟨r, 0, rfl, rfl, _, rfl, ?_⟩
          refine ite2 (fun _ => ?_) (fun _ => ?_)
          · have x23 := x2.trans x3
            have hwl3 : H3 wl = some (.lst us) := x23 _ _ nwp hwl
            have tx3 : TX K H H3 := hp.tx x23
            -- the words drawn
            refine ⟨.ref wl, rfl, wl, rfl, ⟨us, .inl (.inl hwl3)⟩, fun D hD => ?_⟩
            have nDp : D ≠ p := hp3.new1 hD
            have nDc : D ≠ c := hp3.new2 hD
            have nDw : D ≠ wl := fun z => by rw [z, hwl3] at hD; cases hD
            refine lc_list (K := K) (a := wl) (xs := us) (fun m H' => ∃ (vs : List V) (ss : List Word), Exx p H3 H' ∧ PenAt H' p c (T + 80 * i + 20 * j + 1 + m) ∧ H' D = some (.lst vs) ∧ Paired (Wd K H') vs ss ∧ ss.Sublist (ws.take m)) ⟨[], [], Exx.ex (Evl.Ex.new hD), ?_, upd_same, .nil, List.nil_sublist _⟩ ?_ ?_ ?_
            · have := hp3.put (o := .lst []) nDp nDc
              simpa using this
            · rintro m H' _ ⟨_, _, x, _⟩
              exact .inl (.inl (x _ _ nwp hwl3))
            · rintro m x H4 hm ⟨vs, ss, x4, hp4, hD4, hv4, hs4⟩
              obtain ⟨t, ht, hax⟩ := Paired.get1 hws hm
              have m8 : m < 8 := by
                have := (List.getElem?_eq_some_iff.mp ht).1
                omega
              refine ⟨rfl, .ref p, rfl, p, c, 3, _, rfl, hp4, by decide, by decide, by omega, fun r' H5 _ _ x5 hp5 => ?_⟩
              refine ⟨r', 0, rfl, rfl, _, rfl, ?_⟩
              have vlen : vs.length ≤ m := by
                have h1 := hs4.length_le
                rw [List.length_take] at h1
                have h2 : vs.length = ss.length := Paired.len hv4
                omega
              have hD5 := x5 _ _ nDp hD4
              have hv5 : Paired (Wd K H5) vs ss := Paired.imp (fun _ _ => Wd.mono (hp4.tx x5)) hv4
              refine ite2 (fun _ => ?_) (fun _ => ?_)
              · refine ⟨x, rfl, vs, hD5, Nat.lt_of_le_of_lt (by omega : vs.length ≤ 8) (by decide), vs ++ [x], ss ++ [t], (x4.trans x5).mut hD, ?_, upd_same, ?_, ?_⟩
                · have := (hp5.put (o := .lst (vs ++ [x])) nDp nDc).mono (T' := T + 80 * i + 20 * j + 1 + ((m + 1 : Nat) : Int)) (by omega)
                  exact this
                · have tx5 : TX K H H5 := tx3.trans ((hp3.tx x4).trans (hp4.tx x5))
                  exact Paired.imp (fun _ _ => Wd.mono (TX.put hD5)) (paired_app1 hv5 (hax.mono tx5))
                · rw [take_succ_get ht]
                  exact List.Sublist.append hs4 (List.Sublist.refl _)
              · refine ⟨vs, ss, x4.trans x5, hp5.mono (by omega), hD5, hv5, ?_⟩
                rw [take_succ_get ht]
                exact hs4.trans (List.sublist_append_left _ _)
            · rintro H4 ⟨vs, ss, x4, hp4, hD4, hv4, hs4⟩
              rw [ul, List.take_length] at hs4
              refine ⟨.int left, rfl, left, rfl, D, vs, rfl, .inl (.inl hD4), fun D2 hD2 => ?_⟩
              have left0 := hd2.left0
              obtain ⟨ln, hln⟩ : ∃ ln : Nat, left = (ln : Int) := ⟨left.toNat, by omega⟩
              subst hln
              rw [cut_take]
              have nD2p : D2 ≠ p := hp4.new1 hD2
              have nD2c : D2 ≠ c := hp4.new2 hD2
              have e5 := Evl.Ex.new (o := .lst (vs.take ln)) hD2
              generalize hH5 : upd H4 D2 (.lst (vs.take ln)) = H5 at e5
              have hD25 : H5 D2 = some (.lst (vs.take ln)) := by rw [← hH5]; exact upd_same
              have hp5 := hp4.ex e5
              have x35 := x4.trans (Exx.ex e5)
              -- the price
              refine ⟨.ref p, rfl, .ref p, rfl, p, c, 5, _, rfl, hp5, by decide, by decide, by omega, fun q1 H6 a1 a2 x6 hp6 => ⟨1, q1, rfl, rfl, ?_⟩⟩
              refine ⟨.ref p, rfl, p, c, 40, _, rfl, hp6, by decide, by decide, by omega, fun q2 H7 a3 a4 x7 hp7 => ⟨1, q2, rfl, rfl, ?_⟩⟩
              refine ⟨.ref p, rfl, 10, 6, rfl, rfl, (show (0 : Int) ≤ 6 ∧ (6 : Int) ≤ 1000000 ∧ (10 : Int).natAbs < 2 ^ 64 by decide), p, c, 1000000, _, rfl, hp7, by decide, by decide, by omega, fun q3 H8 a5 a6 x8 hp8 => ⟨1, q3, rfl, rfl, ?_⟩⟩
              refine ⟨(by show 4 ≤ sizeLine; decide), fun L hL => ?_⟩
              have nLp : L ≠ p := hp8.new1 hL
              have e9 := Evl.Ex.new (o := .lst [.int 1, .int (1 + q1), .int (1 + q2), .int (1 + q3)]) hL
              generalize hH9 : upd H8 L (.lst [.int 1, .int (1 + q1), .int (1 + q2), .int (1 + q3)]) = H9 at e9
              have hL9 : H9 L = some (.lst [.int 1, .int (1 + q1), .int (1 + q2), .int (1 + q3)]) := by rw [← hH9]; exact upd_same
              have hp9 := hp8.ex e9
              refine ⟨p, c, L, _, _, rfl, hp9, by omega, .inl (.inl hL9), nLp, (by simp), (by show 4 ≤ 1000000; decide), fun pr H10 hpr x10 hp10 => ?_⟩
              obtain ⟨pi, rfl, pi1, pi2⟩ : ∃ pi, pr = .int pi ∧ 1 ≤ pi ∧ pi ≤ 1000000 := by
                simp only [List.mem_cons, List.not_mem_nil, or_false] at hpr
                rcases hpr with rfl | rfl | rfl | rfl
                · exact ⟨_, rfl, by decide, by decide⟩
                · exact ⟨_, rfl, by omega, by omega⟩
                · exact ⟨_, rfl, by omega, by omega⟩
                · exact ⟨_, rfl, by omega, by omega⟩
              have x310 : Exx p H5 H10 := (((x6.trans x7).trans x8).trans (Exx.ex e9)).trans x10
              have hD210 : H10 D2 = some (.lst (vs.take ln)) := x310 _ _ nD2p hD25
              have xA : Exx p H3 H10 := x35.trans x310
              have xB : Exx p H H10 := x23.trans xA
              have hl10 : H10 l = some (.lst gvs) := xA _ _ nlp (x3 _ _ nlp hl2)
              have hv10 : Paired (Wd K H10) (vs.take ln) (ss.take ln) := Paired.imp (fun _ _ => Wd.mono ((TX.ex e5).trans (hp5.tx x310))) (Paired.takeN ln hv4)
              have hg10 : Paired (GapAt K H10) gvs gs := Paired.imp (fun _ _ => GapAt.mono ((hp2.tx x3).trans (hp3.tx xA))) hg2
              refine ⟨.ref l, rfl, .inl ⟨rfl, _, SqL.of hl10⟩, .int (i : Nat), rfl, .int (j : Nat), rfl, .int pi, rfl, .ref D2, rfl, D2, _, rfl, .inl ⟨.inl (.inl hD210), fun W hW => ?_⟩⟩
              have e11 := Evl.Ex.new (o := .tup (vs.take ln)) hW
              generalize hH11 : upd H10 W (.tup (vs.take ln)) = H11 at e11
              have hW11 : H11 W = some (.tup (vs.take ln)) := by rw [← hH11]; exact upd_same
              refine ⟨(by show 4 ≤ sizeLine; decide), fun G hG => ?_⟩
              have e12 := Evl.Ex.new (o := .tup [.int (i : Nat), .int (j : Nat), .int pi, .ref W]) hG
              generalize hH12 : upd H11 G (.tup [.int (i : Nat), .int (j : Nat), .int pi, .ref W]) = H12 at e12
              have hG12 : H12 G = some (.tup [.int (i : Nat), .int (j : Nat), .int pi, .ref W]) := by rw [← hH12]; exact upd_same
              have e1012 := e11.trans e12
              have hl12 := e1012 _ _ hl10
              have nlG : l ≠ G := fun z => by rw [← z, e11 _ _ hl10] at hG; cases hG
              refine ⟨l, gvs, _, rfl, rfl, hl12, Nat.lt_of_le_of_lt (by omega : gvs.length ≤ 20) (by decide), ?_⟩
              have nlD2 : D2 ≠ l := fun z => by rw [z, xA.trans (Exx.refl p _) l _ nlp (x3 _ _ nlp hl2)] at hD210; cases hD210; rw [z] at hD2; rw [x4 _ _ nlp (x3 _ _ nlp hl2)] at hD2; cases hD2
              have hD213 : (upd H12 l (.lst (gvs ++ [.ref G]))) D2 = some (.lst (vs.take ln)) := by rw [upd_ne nlD2]; exact e1012 _ _ hD210
              refine ⟨.int (ln : Int), rfl, .ref D2, rfl, D2, _, rfl, .inl (.inl (.inl hD213)), (ln : Int), _, rfl, rfl, ?_⟩
              have hus8 : us.length ≤ 8 := by omega
              let g : Gap := ⟨i, j, pi, ss.take ln⟩
              have hpF : PenAt (upd H12 l (.lst (gvs ++ [.ref G]))) p c (T + 80 * i + 20 * ((j + 1 : Nat) : Int)) := ((hp10.ex e1012).put (o := .lst (gvs ++ [.ref G])) nlp nlc).mono (by omega)
              have gAt : GapAt K H12 (.ref G) g := ⟨G, W, vs.take ln, rfl, .inl (.inl hG12), .inl (.inl (e12 _ _ hW11)), Paired.imp (fun _ _ => wd_ex e1012) hv10⟩
              have vsl : (vs.take ln).length = (ss.take ln).length := Paired.len hv10
              refine ⟨gvs ++ [.ref G], gs ++ [g], (ln : Int) - ((vs.take ln).length : Int), _, _, _, _, rfl, (xB.trans (Exx.ex e1012)).mut nl, hpF, upd_same, ?_, ?_, ?_, ?_⟩
              · exact Paired.imp (fun _ _ => GapAt.mono (TX.put hl12)) (paired_app1 (Paired.imp (fun _ _ => GapAt.mono (TX.ex e1012)) hg10) gAt)
              · refine ⟨?_, ?_, ?_, ?_⟩
                · intro g' hg'
                  rcases List.mem_append.mp hg' with h | h
                  · exact hd2.each g' h
                  · have : g' = g := by simpa using h
                    subst this
                    exact ⟨⟨by show (0 : Int) ≤ i; omega, hi'⟩, ⟨by show (0 : Int) ≤ j; omega, hj'⟩, (by show (i : Int) ≠ j; omega), ⟨pi1, pi2⟩, (List.take_sublist ln ss).trans hs4⟩
                · rw [List.pairwise_append]
                  refine ⟨hd2.rise, by simp, ?_⟩
                  intro g' hg' g'' hg''
                  have : g'' = g := by simpa using hg''
                  subst this
                  exact hlt2 g' hg'
                · have h := hd2.sum
                  rw [List.map_append, List.sum_append, vsl]
                  simp only [List.map_cons, List.map_nil, List.sum_cons, List.sum_nil]
                  show ((((gs.map (fun g => g.ways.length)).sum + ((ss.take ln).length + 0) : Nat)) : Int) + ((ln : Int) - ((ss.take ln).length : Int)) = 8
                  omega
                · have : (vs.take ln).length ≤ ln := by rw [List.length_take]; exact Nat.min_le_left _ _
                  omega
              · rw [List.length_append]
                simp
                omega
              · intro g' hg'
                rcases List.mem_append.mp hg' with h | h
                · rcases hlt2 g' h with h | ⟨h, h'⟩
                  · exact .inl h
                  · exact .inr ⟨h, by omega⟩
                · have : g' = g := by simpa using h
                  subst this
                  exact .inr ⟨rfl, by show (j : Int) < ((j + 1 : Nat) : Int); omega⟩
          · exact stay (k := 1) x3 hp3 (by decide)
      · rintro σ H2 ⟨gvs, gs, left, y6, y7, y8, y9, rfl, x2, hp2, hl2, hg2, hd2, gl2, hlt2⟩
        refine ⟨gvs, gs, left, _, _, _, _, _, rfl, x2, hp2.mono (by omega), hl2, hg2, hd2, by omega, fun g hg => ?_⟩
        have hj := ((hd2.each g hg).2.1).2
        rcases hlt2 g hg with h | ⟨h, h'⟩
        · omega
        · omega
    · rintro σ H1 ⟨gvs, gs, left, y5, y6, y7, y8, y9, rfl, x1, hp1, hl1, hg1, hd1, gl1, hlt1⟩
      refine ⟨.ref l, rfl, l, gvs, rfl, .inl ⟨.inl (.inl hl1), fun a na => ?_⟩⟩
      have e2 := Evl.Ex.new (o := .tup gvs) na
      exact q _ a gvs gs left (x1.trans (Exx.ex e2)) ((hp1.ex e2).mono (by omega)) (.inl (.inl upd_same)) (Paired.imp (fun _ _ => GapAt.mono (TX.ex e2)) hg1) hd1
end
end Wb

set_option Elab.async false
set_option linter.all false
set_option maxRecDepth 100000
set_option maxHeartbeats 4000000
set_option pp.maxSteps 600
set_option pp.deepTerms false
namespace Wb
open PySem PySem.Spec PyProof.Rows L2
abbrev sLock : Stmt := topS 37
abbrev nLock : List Str := ["_law_pen_here", "_law_many", "_law_wide", "_law_more", "_law_k", "_law_widths", "_law_bolts", "_law_bases", "_law_words", "_law_turn", "_law_one", "_law_base"]
theorem scLock : FnScope nLock ["_law_pen_here", "_law_many", "_law_wide", "_law_more"] (defScope sLock) := ⟨rfl, rfl, rfl, by decide +kernel, rfl, by decide +kernel, by decide +kernel⟩

theorem inAll_nil : InAll [] [] := ⟨rfl, fun i n m h => by simp at h⟩
theorem inAll_snoc {xs ms : List Int} {x m : Int} (h : InAll xs ms) (h0 : 0 ≤ x) (h1 : x < m) : InAll (xs ++ [x]) (ms ++ [m]) := by
  refine ⟨by rw [List.length_append, List.length_append, h.1]; rfl, fun i a b ha hb => ?_⟩
  by_cases hi : i < xs.length
  · rw [List.getElem?_append_left hi] at ha
    rw [List.getElem?_append_left (by rw [← h.1]; exact hi)] at hb
    exact h.2 i a b ha hb
  · rw [List.getElem?_append_right (by omega)] at ha
    rw [List.getElem?_append_right (by rw [← h.1]; omega)] at hb
    by_cases e : i - xs.length = 0
    · rw [e] at ha
      rw [← h.1, e] at hb
      cases ha
      cases hb
      exact ⟨h0, h1⟩
    · rw [List.getElem?_eq_none (by simp; omega)] at ha
      cases ha
theorem inAll_take {xs ms : List Int} (h : InAll xs ms) (k : Nat) : InAll (xs.take k) (ms.take k) := by
  refine ⟨by rw [List.length_take, List.length_take, h.1], fun i a b ha hb => ?_⟩
  rw [List.getElem?_take] at ha hb
  split at ha
  · rename_i hk
    rw [if_pos hk] at hb
    exact h.2 i a b ha hb
  · cases ha
/-- [draw(pen, one) for one in a list of ints] -/
theorem lc_draws {K : PySem.W.Frag} {vs : List Nat} {i : Nat} {σ : L2.St} {H : Hp} {Q : VK} {tl : TE} {wds : List Int} {p c : Addr} {T : Int} (hp : PenAt H p c T)
    (ha : ∀ Q' : VK, (∀ a H1, Exx p H H1 → PenAt H1 p c T → SqL K H1 a (wds.map V.int) → a ≠ p → Q' (.ref a) H1) → tl σ H Q')
    (hT : T ≤ 9000000) (hw : ∀ x ∈ wds, 1 ≤ x ∧ x ≤ 1000000) (hl : wds.length ≤ 100)
    (h0 : ∀ x, ((wipe σ vs).set i (some x))[0]? = some (some (.ref p))) (hi : ∀ x, ((wipe σ vs).set i (some x))[i]? = some (some x)) (hwp : ∀ x, wipe ((wipe σ vs).set i (some x)) vs = wipe σ vs)
    (q : ∀ H' D xs, Exx p H H' → PenAt H' p c (T + (wds.length : Nat)) → H D = none → H' D = some (.lst (xs.map V.int)) → InAll xs wds → Q (.ref D) H') :
    tLc (iList K tl) (gName i) tYes (tCall spDraw [] E0 (tCons (tVar 0) (tCons (tVar i) tNil))) vs σ H Q := by
  refine ha _ fun a H1 x1 hp1 ha1 nap => ⟨a, rfl, ⟨_, ha1⟩, fun D hD => ?_⟩
  have nDp : D ≠ p := hp1.new1 hD
  have nDc : D ≠ c := hp1.new2 hD
  refine lc_list (K := K) (a := a) (xs := wds.map V.int) (fun m H' => ∃ xs : List Int, Exx p H1 H' ∧ PenAt H' p c (T + (m : Nat)) ∧ H' D = some (.lst (xs.map V.int)) ∧ InAll xs (wds.take m)) ⟨[], Exx.ex (Evl.Ex.new hD), ?_, upd_same, inAll_nil⟩ ?_ ?_ ?_
  · have := hp1.put (o := .lst []) nDp nDc
    simpa using this
  · rintro m H' _ ⟨_, x, _⟩
    exact x.l nap ha1
  · rintro m x H2 hm ⟨xs, x2, hp2, hD2, hin⟩
    obtain ⟨wd, hwd, rfl⟩ := get_map_int hm
    have ml : m < wds.length := (List.getElem?_eq_some_iff.mp hwd).1
    obtain ⟨w1, w2⟩ := hw wd (List.mem_of_getElem? hwd)
    refine ⟨hwp _, ?_⟩
    refine ⟨.ref p, h0 _, .int wd, hi _, p, c, wd, _, rfl, hp2, w1, w2, by omega, fun r H3 r0 r1 x3 hp3 => ?_⟩
    have hD3 := x3 _ _ nDp hD2
    have xl : xs.length = m := by
      have := hin.1
      rw [List.length_take] at this
      omega
    refine ⟨_, hD3, Nat.lt_of_le_of_lt (by rw [List.length_map, xl]; omega : (xs.map V.int).length ≤ 100) (by decide), xs ++ [r], (x2.trans x3).mut hD, (hp3.put nDp nDc).mono (by omega), ?_, ?_⟩
    · rw [upd_same, List.map_append]
      rfl
    · rw [take_succ_get hwd]
      exact inAll_snoc hin r0 r1
  · rintro H2 ⟨xs, x2, hp2, hD2, hin⟩
    rw [List.length_map] at hp2 hin
    rw [List.take_length] at hin
    exact q H2 D xs (x1.trans x2) hp2 (fresh_exx x1 hp1.here hD) hD2 hin
def rTupK (K : PySem.W.Frag) : List V → Hp → VK → Prop := fun xs H Q => ∃ p ys, xs = [.ref p] ∧ ((SqL K H p ys ∧ ∀ l, H l = none → Q (.ref l) (upd H l (.tup ys))) ∨ (SqT K H p ys ∧ Q (.ref p) H))
theorem call_tupK {X : Cx} : CallR X (.type "tuple") (rTupK X.K) := call_tuple_of
def spLock (K : PySem.W.Frag) : Sp := fun vs H Q _ => ∃ (p c : Addr) (many T : Int), vs = [.ref p, .int many, .int 4, .int 5] ∧ PenAt H p c T ∧ T ≤ 8000000 ∧ 1 ≤ many ∧ many ≤ 60 ∧
  ∀ H' v l, Exx p H H' → PenAt H' p c (T + 40000) → LockAt K H' v l → LockOk l → (l.length : Int) = many → Q v H'

/-! ### codes and the tuples' order -/
theorem lex_of_code {B : Int} : ∀ {u w : List Int}, u.length = w.length → TS.Bd B u → TS.Bd B w → TS.code B u ≤ TS.code B w → u ≠ w → HT.lexLt u w = true
  | [], [], _, _, _, _, ne => absurd rfl ne
  | x :: u, y :: w, hl, hu, hw, hc, ne => by
    have hl' : u.length = w.length := by simpa using hl
    have hu' : TS.Bd B u := fun m hm => hu m (List.mem_cons_of_mem _ hm)
    have hw' : TS.Bd B w := fun m hm => hw m (List.mem_cons_of_mem _ hm)
    rw [HT.lexLt_cons]
    by_cases e : x = y
    · subst e
      rw [if_pos rfl]
      refine lex_of_code hl' hu' hw' ?_ (fun z => ne (by rw [z]))
      apply Int.not_lt.mp
      intro z
      have := (TS.code_same (d := x) hl'.symm).mpr z
      omega
    · rw [if_neg e]
      apply decide_eq_true
      apply Int.not_le.mp
      intro z
      have := TS.code_lt hl'.symm hw' hu' (show y < x by omega)
      omega
  | [], _ :: _, hl, _, _, _, _ => by simp at hl
  | _ :: _, [], hl, _, _, _, _ => by simp at hl
theorem nodup_le {α : Type} [DecidableEq α] : ∀ {xs ys : List α}, xs.Nodup → (∀ x ∈ xs, x ∈ ys) → xs.length ≤ ys.length
  | [], _, _, _ => Nat.zero_le _
  | x :: xs, ys, hn, h => by
    rw [List.nodup_cons] at hn
    have hx : x ∈ ys := h x List.mem_cons_self
    have ih := nodup_le (xs := xs) (ys := ys.erase x) hn.2 (fun y hy => (List.mem_erase_of_ne (fun (e : y = x) => hn.1 (by rw [← e]; exact hy))).mpr (h y (List.mem_cons_of_mem _ hy)))
    rw [List.length_erase_of_mem hx] at ih
    have := List.length_pos_of_mem hx
    rw [List.length_cons]
    omega
theorem le_sum : ∀ {xs : List Nat} {x : Nat}, x ∈ xs → x ≤ xs.sum
  | y :: xs, x, h => by
    rw [List.sum_cons]
    rcases List.mem_cons.mp h with rfl | h
    · exact Nat.le_add_right _ _
    · have := le_sum h
      omega
/-! ### locks as they are drawn -/
structure BGood (wds : List Int) (srcs : List Word) (k : Nat) (b : Bolt) : Prop where
  many : wds[k]? = some b.many
  ex : ∃ ws left, Drawn b.many ws b.gaps left ∧ ws.Pairwise (fun u w => HT.lexLt u w = true) ∧ ∀ w ∈ ws, InAll w (wds.take k) ∧ ∃ s ∈ srcs, w = s.take k
theorem BGood.mono {wds : List Int} {srcs srcs' : List Word} {k : Nat} {b : Bolt} (h : BGood wds srcs k b) (hs : ∀ s ∈ srcs, s ∈ srcs') : BGood wds srcs' k b := by
  obtain ⟨m, ws, left, a, b, d⟩ := h
  refine ⟨m, ws, left, a, b, fun w hw => ?_⟩
  obtain ⟨h1, s, h2, h3⟩ := d w hw
  exact ⟨h1, s, hs s h2, h3⟩
theorem lockOk_drawn {wds : List Int} {srcs : List Word} {l : Lock} (hl : l.length = wds.length) (h0 : 1 ≤ l.length) (h60 : l.length ≤ 60) (hw : ∀ x ∈ wds, 2 ≤ x ∧ x ≤ 4) (hs : srcs.length ≤ 8)
    (hb : ∀ k b, l[k]? = some b → BGood wds srcs k b) : LockOk l := by
  have mk : ∀ k, k ≤ l.length → manysOf (l.take k) = wds.take k := by
    intro k hk
    apply List.ext_getElem?
    intro i
    unfold manysOf
    rw [List.getElem?_map, List.getElem?_take, List.getElem?_take]
    by_cases hi : i < k
    · rw [if_pos hi, if_pos hi]
      have hil : i < l.length := by omega
      rw [List.getElem?_eq_getElem hil]
      rw [(hb i l[i] (List.getElem?_eq_getElem hil)).many]
      rfl
    · rw [if_neg hi, if_neg hi]
      rfl
  refine ⟨h0, h60, fun k b hk => ?_, fun k ws hk hn hc => ?_⟩
  · have kl : k < l.length := (List.getElem?_eq_some_iff.mp hk).1
    obtain ⟨hm, ws, left, hd, hr, hws⟩ := hb k b hk
    rw [mk k (Nat.le_of_lt kl)]
    have hm2 := hw _ (List.mem_of_getElem? hm)
    have sum8 : (b.gaps.map (fun g => g.ways.length)).sum ≤ 8 := by
      have h1 := hd.sum
      have h2 := hd.left0
      omega
    refine ⟨hm2.1, hm2.2, fun g hg => ?_, hd.rise, sum8⟩
    obtain ⟨⟨a1, a2⟩, ⟨a3, a4⟩, a5, ⟨a6, a7⟩, a8⟩ := hd.each g hg
    have g8 : g.ways.length ≤ 8 := by
      have : g.ways.length ≤ (b.gaps.map (fun g => g.ways.length)).sum := le_sum (List.mem_map.mpr ⟨g, hg, rfl⟩)
      omega
    refine ⟨a1, a2, a3, a4, a5, a6, a7, g8, fun w' hw' => ?_, hr.sublist a8⟩
    have := (hws w' (a8.subset hw')).1
    exact ⟨this.1, this.2⟩
  · have : ws.length ≤ (srcs.map (fun s => s.take k)).length := by
      refine nodup_le hn fun w' hw' => ?_
      obtain ⟨j, b, g, u, hj, hbj, hg, hu, rfl⟩ := hc w' hw'
      obtain ⟨_, ws', left, hd, _, hws⟩ := hb j b hbj
      obtain ⟨_, s, hs', rfl⟩ := hws u (((hd.each g hg).2.2.2.2).subset hu)
      refine List.mem_map.mpr ⟨s, hs', ?_⟩
      rw [List.take_take, Nat.min_eq_left hj]
    rw [List.length_map] at this
    omega
end Wb

set_option Elab.async false
set_option linter.all false
set_option maxRecDepth 100000
set_option maxHeartbeats 4000000
set_option pp.maxSteps 600
set_option pp.deepTerms false
namespace Wb
open PySem PySem.Spec PyProof.Rows L2
def scTurn : Scope := { kind := .function, names := [(".0", .local), ("_law_turn", .local), ("tuple", .globalImplicit), ("_law_pen_here", .free), ("_law_widths", .free)], isGenerator := false, isCoroutine := false }
theorem keys_of {K : PySem.W.Frag} {H : Hp} : ∀ {vs : List V} {ws : List Word}, Paired (Wd K H) vs ws → ∃ ks : List (Addr × List Int), vs = ks.map (fun p => V.ref p.1) ∧ ks.map (·.2) = ws ∧ ∀ p ∈ ks, H p.1 = some (.tup (p.2.map V.int))
  | [], [], _ => ⟨[], rfl, rfl, fun p hp => (by cases hp)⟩
  | v :: vs, w :: ws, h => by
    cases h with
    | cons r t =>
      obtain ⟨ks, h1, h2, h3⟩ := keys_of t
      obtain ⟨a, rfl, ha⟩ := r
      refine ⟨(a, w) :: ks, by rw [h1]; rfl, by rw [← h2]; rfl, fun p hp => ?_⟩
      rcases List.mem_cons.mp hp with rfl | hp
      · exact ha
      · exact h3 p hp
theorem rows_of_keys {K : PySem.W.Frag} {H : Hp} : ∀ {ks : List (Addr × List Int)}, (∀ p ∈ ks, H p.1 = some (.tup (p.2.map V.int))) → Paired (Wd K H) (ks.map (fun p => V.ref p.1)) (ks.map (·.2))
  | [], _ => .nil
  | k :: ks, h => .cons ⟨k.1, rfl, h k List.mem_cons_self⟩ (rows_of_keys fun p hp => h p (List.mem_cons_of_mem _ hp))
theorem take_map_succ {bases : List Word} {m : Nat} {b : Word} (k : Nat) (h : bases[m]? = some b) : (bases.take (m + 1)).map (fun u => u.take k) = (bases.take m).map (fun u => u.take k) ++ [b.take k] := by
  rw [take_succ_get h, List.map_append]
  rfl
theorem tcb1 {r : List V → Hp → VK → Prop} {X : TE} {σ : L2.St} {H : Hp} {Q : VK} (h : X σ H (fun x H1 => r [x] H1 Q)) : tCB r (tCons X tNil) σ H Q := h
theorem tcons1 {X : TE} {σ : L2.St} {H : Hp} {Q : List V → Hp → Prop} (h : X σ H (fun x H1 => Q [x] H1)) : tCons X tNil σ H Q := h
theorem tyes1 {σ : L2.St} {H : Hp} {E F : Hp → Prop} (h : E H) : tYes σ H (fun b H3 => if b = true then E H3 else F H3) := h
section
variable {P : Program} {w : World} {K : PySem.W.Frag} {mg : Str → Option Value} {base : Heap}
theorem ok_lock {f f1 f2 f3 : Addr} {fd fd1 fd2 fd3 : FuncData} (F : Fun K "_law_lock" "_law_lock" sLock f fd) (F1 : Fun K "_law_draw" "_law_draw" sDraw f1 fd1) (b1 : Binds K fd1 ["_law_pen_here", "_law_many"] []) (g1 : mg "_law_draw" = some (.ref f1))
    (F2 : Fun K "_law_pick" "_law_pick" sPick f2 fd2) (b2 : Binds K fd2 ["_law_pen_here", "_law_some"] []) (g2 : mg "_law_pick" = some (.ref f2))
    (F3 : Fun K "_law_gaps" "_law_gaps" sGaps f3 fd3) (b3 : Binds K fd3 ["_law_pen_here", "_law_wide", "_law_words"] []) (g3 : mg "_law_gaps" = some (.ref f3)) (B : Bi mg) :
    FnOk P w K mg base CX0 4 f fd ["_law_pen_here", "_law_many", "_law_wide", "_law_more"] (spLock K) := by
  have G1 : FnOk P w K mg base CX0 1 f1 fd1 ["_law_pen_here", "_law_many"] spDraw := ok_draw F1 B
  have G3 : FnOk P w K mg base CX0 3 f3 fd3 ["_law_pen_here", "_law_wide", "_law_words"] (spGaps K) := ok_gaps F3 F1 b1 g1 F2 b2 g2 B
  refine F.ok scLock (fun vs H Q E h => ?_) (fun cdv A outer s H vs Q E hr h => ?_)
  · obtain ⟨p, c, many, T, rfl, _⟩ := h; rfl
  · obtain ⟨p, c, many, T, rfl, hp, T8, m1, m60, q⟩ := h
    have hr1 : Room 1 _ := hr.mono (by decide)
    refine ⟨_, pss_cons (ps_asg (pe_tup (pa_cons (pe_lc (own := [("_law_k", 4)]) (g := gName 4) rfl scLock.nd (pi_range1 (by rfl) B.range (pa_cons (pv 1) pa_nil)) (blkOk_by (own := [("_law_k", 4)]) (N := nLock) (sc := defScope sLock) (by decide +kernel))
            (fun _ _ _ _ _ => pg_name (i := 4) scLock.nd rfl (Or.inl rfl)) (fun _ _ _ _ _ => pts_nil)
            (fun _ _ _ _ _ => pe_op op_add pe_int (pe_call G1 hr1 (by rfl) g1 F1.kp b1 .nil pass0 (pa_cons (pv 0) (pa_cons (pe_op op_sub (pv 2) pe_int) pa_nil))))) (pa_cons (pe_lst pa_nil) pa_nil)))
          (pg_tup rfl (pgs_cons (pg_name (i := 5) scLock.nd rfl (.inr rfl)) (pgs_cons (pg_name (i := 6) scLock.nd rfl (.inl rfl)) pgs_nil))))
      (pss_cons (ps_setLc (i := 7) (own := [("_law_turn", 9)]) (g := gName 9) rfl scLock.nd rfl rfl (sw_true rfl rfl rfl (by decide +kernel)) (pi_range1 (by rfl) B.range (pa_cons (pe_op op_add pe_int (pe_call G1 hr1 (by rfl) g1 F1.kp b1 .nil pass0 (pa_cons (pv 0) (pa_cons pe_int pa_nil)))) pa_nil)) (blkOk_by (own := [("_law_turn", 9)]) (N := nLock) (sc := defScope sLock) (by decide +kernel))
            (fun _ _ _ _ _ => pg_name (i := 9) scLock.nd rfl (Or.inl rfl)) (fun _ _ _ _ _ => pts_nil)
            (fun _ _ _ _ _ => pe_callTy (r := rTupK K) call_tupK (by rfl) B.tuple PyProof.Rows.boot_tuple (pa_cons
              (pe_lc (own := [("_law_one", 10)]) (wi := iList K (tVar 5)) (g := gName 10) rfl scLock.nd (pi_list (pv 5)) (blkOk_by (own := [("_law_one", 10)]) (N := nLock) (sc := relS scTurn (defScope sLock)) (by decide +kernel))
                (fun _ _ _ _ _ => pg_name (i := 10) scLock.nd rfl (Or.inl rfl)) (fun _ _ _ _ _ => pts_nil)
                (fun _ _ _ _ _ => pe_call G1 hr1 (by rfl) g1 F1.kp b1 .nil pass0 (pa_cons (pv 0) (pa_cons (pv 10) pa_nil)))) pa_nil)))
      (pss_cons (ps_for PassesOwn.never rfl (pi_range1 (by rfl) B.range (pa_cons (pv 1) pa_nil)) (pg_name (i := 4) scLock.nd rfl (.inr rfl))
        (pss_cons (ps_setLc (i := 8) (own := [("_law_base", 11)]) (g := gName 11) rfl scLock.nd rfl rfl (sw_true rfl rfl rfl (by decide +kernel)) (pi_list (pv 7)) (blkOk_by (own := [("_law_base", 11)]) (N := nLock) (sc := defScope sLock) (by decide +kernel))
            (fun _ _ _ _ _ => pg_name (i := 11) scLock.nd rfl (Or.inl rfl)) (fun _ _ _ _ _ => pts_nil)
            (fun _ _ _ _ _ => pe_slice (r := rSlA K) sl_tupA (pv 11) po_none (po_some (pv 4))))
        (Evl.pss_cut (ps_if (PW.pt (pw_and (pt_cmpR op_gt (pv 3) pe_int (nomark _)) (pw_and1 (pt_cmpR op_eq (pe_call G1 hr1 (by rfl) g1 F1.kp b1 .nil pass0 (pa_cons (pv 0) (pa_cons pe_int pa_nil))) pe_int (nomark _)))))
            (pss_cons (ps_expr (pe_bm PySem.F.plainAttrs_list PySem.F.slot_list_append PySem.F.type_list_append mt_append (pv 8) (pa_cons
              (pe_callTy (r := rTupK K) call_tupK (by rfl) B.tuple PyProof.Rows.boot_tuple (pa_cons
                (pe_lc (own := [("_law_one", 10)]) (g := gName 10) rfl scLock.nd (pi_list (pe_slice sl_list (pv 5) po_none (po_some (pv 4)))) (blkOk_by (own := [("_law_one", 10)]) (N := nLock) (sc := defScope sLock) (by decide +kernel))
                  (fun _ _ _ _ _ => pg_name (i := 10) scLock.nd rfl (Or.inl rfl)) (fun _ _ _ _ _ => pts_nil)
                  (fun _ _ _ _ _ => pe_call G1 hr1 (by rfl) g1 F1.kp b1 .nil pass0 (pa_cons (pv 0) (pa_cons (pv 10) pa_nil)))) pa_nil)) pa_nil)))
            (pss_one (ps_set (i := 3) scLock.nd rfl (.inl rfl) (pe_op op_sub (pv 3) pe_int)))) pss_nil)
        (pss_one (ps_expr (pe_bm PySem.F.plainAttrs_list PySem.F.slot_list_append PySem.F.type_list_append mt_append (pv 6) (pa_cons
          (pe_tup (pa_cons (pe_ix ix_list (pv 5) (pv 4) (fun _ _ => rfl)) (pa_cons (pe_call G3 hr (by rfl) g3 F3.kp b3 .nil pass0 (pa_cons (pv 0) (pa_cons (pe_ix ix_list (pv 5) (pv 4) (fun _ _ => rfl)) (pa_cons
              (pe_callB (cr_sortedW rfl) (by rfl) B.sorted boot_sorted (pa_cons (pe_callTy (cr_setOfT rfl hr.units) (by rfl) B.set PyProof.Rows.boot_set (pa_cons (pv 8) pa_nil)) pa_nil)) pa_nil)))) pa_nil))) pa_nil)))))))
      (pss_one (ps_ret (pe_callTy (r := rTupK K) call_tupK (by rfl) B.tuple PyProof.Rows.boot_tuple (pa_cons (pv 6) pa_nil)))))), ?_⟩
    refine ⟨.int many, rfl, many, rfl, by omega, by omega, fun W nW => ?_⟩
    have nWp : W ≠ p := hp.new1 nW
    have nWc : W ≠ c := hp.new2 nW
    refine lc_range (lo := 0) (n := many.toNat) (fun i H' => ∃ wds : List Int, Exx p H H' ∧ PenAt H' p c (T + (i : Nat)) ∧ H' W = some (.lst (wds.map V.int)) ∧ wds.length = i ∧ ∀ x ∈ wds, 2 ≤ x ∧ x ≤ 4) ⟨[], Exx.ex (Evl.Ex.new nW), ?_, upd_same, rfl, fun x hx => (by cases hx)⟩ ?_ ?_
    · have := hp.put (o := .lst []) nWp nWc
      simpa using this
    · rintro i H1 hi ⟨wds, x1, hp1, hW1, wl, hw⟩
      refine ⟨rfl, ?_⟩
      refine ⟨.ref p, rfl, .int 4, rfl, 4, 1, rfl, rfl, p, c, _, _, rfl, hp1, (by decide : (1 : Int) ≤ 4 - 1), (by decide : (4 : Int) - 1 ≤ 1000000), by omega, fun r H2 r0 r1 x2 hp2 => ?_⟩
      refine ⟨2, r, rfl, rfl, _, x2 _ _ nWp hW1, Nat.lt_of_le_of_lt (by rw [List.length_map, wl]; omega : (wds.map V.int).length ≤ 60) (by decide), wds ++ [2 + r], (x1.trans x2).mut nW, (hp2.put nWp nWc).mono (by omega), by rw [upd_same, List.map_append]; rfl, by rw [List.length_append, wl]; rfl, ?_⟩
      intro x hx
      rcases List.mem_append.mp hx with h | h
      · exact hw x h
      · have : x = 2 + r := by simpa using h
        omega
    · rintro H1 ⟨wds, x1, hp1, hW1, wl, hw⟩
      refine ⟨Nat.zero_le _, fun bl nbl => ⟨(by show 2 ≤ sizeLine; decide), fun tp ntp => ?_⟩⟩
      have nblp : bl ≠ p := hp1.new1 nbl
      have nblc : bl ≠ c := hp1.new2 nbl
      have nblW : bl ≠ W := fun z => by rw [z, hW1] at nbl; cases nbl
      have e2 := Evl.Ex.new (o := .lst []) nbl
      have e3 := Evl.Ex.new (o := .tup [.ref W, .ref bl]) ntp
      generalize hH3 : upd (upd H1 bl (.lst [])) tp (.tup [.ref W, .ref bl]) = H3 at e3
      have htp : H3 tp = some (.tup [.ref W, .ref bl]) := by rw [← hH3]; exact upd_same
      have hbl3 : H3 bl = some (.lst []) := e3 _ _ upd_same
      have hW3 : H3 W = some (.lst (wds.map V.int)) := e3 _ _ (e2 _ _ hW1)
      have hp3 := hp1.ex (e2.trans e3)
      have x3 : Exx p H H3 := x1.trans (Exx.ex (e2.trans e3))
      have nbl0 : H bl = none := fresh_exx x1 hp1.here nbl
      refine ⟨tp, _, rfl, .inl (.inl htp), rfl, _, _, rfl, _, _, rfl, rfl, ?_⟩
      have wlen : (wds.length : Int) = many := by omega
      have wds60 : wds.length ≤ 60 := by omega
      have hw1 : ∀ x ∈ wds, 1 ≤ x ∧ x ≤ 1000000 := fun x hx => by have := hw x hx; omega
      -- the bases
      refine ⟨.ref p, rfl, p, c, 3, _, rfl, hp3, by decide, by decide, by omega, fun r H4 r0 r1 x4 hp4 => ⟨1, r, rfl, rfl, _, rfl, by omega, by omega, fun bs nbs => ?_⟩⟩
      have nbsp : bs ≠ p := hp4.new1 nbs
      have nbsc : bs ≠ c := hp4.new2 nbs
      have hW4 := x4 _ _ nWp hW3
      have hbl4 := x4 _ _ nblp hbl3
      have nbsW : bs ≠ W := fun z => by rw [z, hW4] at nbs; cases nbs
      have nbsbl : bs ≠ bl := fun z => by rw [z, hbl4] at nbs; cases nbs
      refine lc_range (lo := 0) (n := (1 + r).toNat) (fun i H' => ∃ (bvs : List V) (bases : List Word), Exx p H4 H' ∧ PenAt H' p c (T + 62 + 60 * (i : Nat)) ∧ H' bs = some (.lst bvs) ∧ Paired (Wd K H') bvs bases ∧ bases.length = i ∧ ∀ u ∈ bases, InAll u wds) ⟨[], [], Exx.ex (Evl.Ex.new nbs), ?_, upd_same, .nil, rfl, fun u hu => (by cases hu)⟩ ?_ ?_
      · have := hp4.put (o := .lst []) nbsp nbsc
        exact this.mono (by omega)
      · rintro i H5 hi ⟨bvs, bases, x5, hp5, hbs5, hbv5, bl5, hb5⟩
        refine ⟨rfl, ?_⟩
        refine tyes1 ?_
        refine tcb1 ?_
        refine lc_draws (K := K) (vs := [10]) (i := 10) (wds := wds) (p := p) (c := c) hp5 ?_ (by omega) hw1 (by omega) ?_ ?_ ?_ ?_
        · exact fun Q' h => ⟨.ref W, rfl, h W H5 (Exx.refl p H5) hp5 (.inl (.inl (x5 _ _ nWp hW4))) nWp⟩
        · exact fun _ => rfl
        · exact fun _ => rfl
        · exact fun _ => rfl
        intro H6 D xs x6 hp6 nD hD hin
        refine ⟨D, _, rfl, .inl ⟨.inl (.inl hD), fun t nt => ?_⟩⟩
        have e7 := Evl.Ex.new (o := .tup (xs.map V.int)) nt
        have hbs7 := e7 _ _ (x6 _ _ nbsp hbs5)
        have bvl : bvs.length = bases.length := Paired.len hbv5
        have tx6 := hp5.tx (K := K) x6
        refine ⟨bvs, hbs7, Nat.lt_of_le_of_lt (by omega : bvs.length ≤ 3) (by decide), bvs ++ [.ref t], bases ++ [xs], (x5.trans (x6.trans (Exx.ex e7))).mut nbs, ((hp6.ex e7).put nbsp nbsc).mono (by omega), upd_same, ?_, by rw [List.length_append, bl5]; rfl, ?_⟩
        · refine Paired.imp (fun _ _ => Wd.mono (TX.put hbs7)) (paired_app1 (Paired.imp (fun _ _ => Wd.mono (tx6.trans (TX.ex e7))) hbv5) ⟨t, rfl, upd_same⟩)
        · intro u hu
          rcases List.mem_append.mp hu with h | h
          · exact hb5 u h
          · have : u = xs := by simpa using h
            subst this
            exact hin
      · rintro H5 ⟨bvs, bases, x5, hp5, hbs5, hbv5, bl5, hb5⟩
        have bl3 : bases.length ≤ 3 := by omega
        have bl1 : 1 ≤ bases.length := by omega
        have nbs0 : H bs = none := fresh_exx (x3.trans x4) hp4.here nbs
        have x35 : Exx p H H5 := x3.trans (x4.trans x5)
        -- the bolts
        refine ⟨.int many, rfl, many, rfl, by omega, by omega, ?_⟩
        refine for_range (lo := 0) (n := many.toNat) (fun k σ H' => ∃ (more : Int) (lvs : List V) (l : Lock) (srcs : List Word) (y4 y8 y9 y10 y11 : Option V), σ = [some (.ref p), some (.int many), some (.int 4), some (.int more), y4, some (.ref W), some (.ref bl), some (.ref bs), y8, y9, y10, y11] ∧
            Exx p H H' ∧ PenAt H' p c (T + 300 + 600 * (k : Nat)) ∧ H' W = some (.lst (wds.map V.int)) ∧ H' bs = some (.lst bvs) ∧ Paired (Wd K H') bvs bases ∧ H' bl = some (.lst lvs) ∧ Paired (BoltAt K H') lvs l ∧ l.length = k ∧
            (∀ s ∈ bases, s ∈ srcs) ∧ (srcs.length : Int) + more ≤ 8 ∧ 0 ≤ more ∧ ∀ j b, l[j]? = some b → BGood wds srcs j b)
          ⟨5, [], [], bases, _, _, _, _, _, rfl, x35, hp5.mono (by omega), x5 _ _ nWp hW4, hbs5, hbv5, x5 _ _ nblp hbl4, .nil, rfl, fun s h => h, by omega, by decide, fun j b h => by simp at h⟩ ?_ ?_
        · rintro k σ H6 hk ⟨more, lvs, l, srcs, y4, y8, y9, y10, y11, rfl, x6, hp6, hW6, hbs6, hbv6, hbl6, hlv6, ll, hsub, hmore, more0, hgood⟩
          have ek : (0 : Int) + (k : Nat) = ((k : Nat) : Int) := by omega
          rw [ek]
          have kl : k < wds.length := by omega
          have bvl : bvs.length = bases.length := Paired.len hbv6
          -- the words
          refine ⟨.ref bs, rfl, bs, rfl, ⟨bvs, .inl (.inl hbs6)⟩, fun wlA nwl => ?_⟩
          have nwlp : wlA ≠ p := hp6.new1 nwl
          have nwlc : wlA ≠ c := hp6.new2 nwl
          refine lc_list (K := K) (a := bs) (xs := bvs) (fun m H' => ∃ vs : List V, Evl.Ex H6 H' ∧ H' wlA = some (.lst vs) ∧ Paired (Wd K H') vs ((bases.take m).map (fun u => u.take k))) ⟨[], Evl.Ex.new nwl, upd_same, .nil⟩ ?_ ?_ ?_
          · rintro m H' _ ⟨_, e, _⟩
            exact .inl (.inl (e _ _ hbs6))
          · rintro m x H7 hm ⟨vs, e7, hwl7, hv7⟩
            obtain ⟨u, hu, ⟨ax, rfl, hax⟩⟩ := Paired.get1 hbv6 hm
            have ul : u.length = wds.length := (hb5 u (List.mem_of_getElem? hu)).1
            have ml : m < bases.length := (List.getElem?_eq_some_iff.mp hu).1
            refine ⟨rfl, .ref ax, rfl, .int (k : Nat), rfl, (k : Nat), rfl, ax, _, rfl, .inl (.inl (e7 _ _ hax)), fun z => absurd (slice_whole z.2) (by rw [List.length_map]; omega), fun _ t nt => ?_⟩
            rw [cut_take, ← List.map_take]
            have e8 := Evl.Ex.new (o := .tup ((u.take k).map V.int)) nt
            have vl : vs.length ≤ 3 := by
              have := Paired.len hv7
              rw [List.length_map, List.length_take] at this
              omega
            refine ⟨vs, e8 _ _ hwl7, Nat.lt_of_le_of_lt vl (by decide), vs ++ [.ref t], (e7.trans e8).mut nwl, upd_same, ?_⟩
            rw [take_map_succ k hu]
            exact Paired.imp (fun _ _ => Wd.mono (TX.put (e8 _ _ hwl7))) (paired_app1 (Paired.imp (fun _ _ => wd_ex e8) hv7) ⟨t, rfl, upd_same⟩)
          · rintro H7 ⟨vs, e7, hwl7, hv7⟩
            rw [bvl, List.take_length] at hv7
            have hp7 := hp6.ex e7
            have vl7 : vs.length = bases.length := by
              have := Paired.len hv7
              rwa [List.length_map] at this
            have w0 : ∀ u ∈ bases.map (fun u => u.take k), InAll u (wds.take k) ∧ ∃ s ∈ srcs, u = s.take k := by
              intro u hu
              obtain ⟨b0, hb0, rfl⟩ := List.mem_map.mp hu
              exact ⟨inAll_take (hb5 b0 hb0) k, b0, hsub b0 hb0, rfl⟩
            refine ⟨fun σ' H' => ∃ (more' : Int) (vs' : List V) (words : List Word) (srcs' : List Word) (y9 y10 y11 : Option V), σ' = [some (.ref p), some (.int many), some (.int 4), some (.int more'), some (.int (k : Nat)), some (.ref W), some (.ref bl), some (.ref bs), some (.ref wlA), y9, y10, y11] ∧
                Exx p H6 H' ∧ PenAt H' p c (T + 300 + 600 * (k : Nat) + 61) ∧ H' wlA = some (.lst vs') ∧ Paired (Wd K H') vs' words ∧ 1 ≤ words.length ∧ words.length ≤ 4 ∧ (∀ u ∈ words, InAll u (wds.take k) ∧ ∃ s ∈ srcs', u = s.take k) ∧ (∀ s ∈ srcs, s ∈ srcs') ∧ (srcs'.length : Int) + more' ≤ 8 ∧ 0 ≤ more', ?_, ?_⟩
            · have same : ∀ {Hx : Hp} {z9 z10 z11 : Option V}, Exx p H7 Hx → PenAt Hx p c (T + 300 + 600 * (k : Nat) + 61) → ∃ (more' : Int) (vs' : List V) (words : List Word) (srcs' : List Word) (y9 y10 y11 : Option V), ([some (.ref p), some (.int many), some (.int 4), some (.int more), some (.int (k : Nat)), some (.ref W), some (.ref bl), some (.ref bs), some (.ref wlA), z9, z10, z11] : L2.St) = [some (.ref p), some (.int many), some (.int 4), some (.int more'), some (.int (k : Nat)), some (.ref W), some (.ref bl), some (.ref bs), some (.ref wlA), y9, y10, y11] ∧
                  Exx p H6 Hx ∧ PenAt Hx p c (T + 300 + 600 * (k : Nat) + 61) ∧ Hx wlA = some (.lst vs') ∧ Paired (Wd K Hx) vs' words ∧ 1 ≤ words.length ∧ words.length ≤ 4 ∧ (∀ u ∈ words, InAll u (wds.take k) ∧ ∃ s ∈ srcs', u = s.take k) ∧ (∀ s ∈ srcs, s ∈ srcs') ∧ (srcs'.length : Int) + more' ≤ 8 ∧ 0 ≤ more' := by
                intro Hx z9 z10 z11 ex hpx
                exact ⟨more, vs, bases.map (fun u => u.take k), srcs, _, _, _, rfl, (Exx.ex e7).trans ex, hpx, ex _ _ nwlp hwl7, Paired.imp (fun _ _ => Wd.mono (hp7.tx ex)) hv7, by rw [List.length_map]; exact bl1, by rw [List.length_map]; omega, w0, fun s h => h, hmore, more0⟩
              refine ⟨.int more, rfl, more, 0, rfl, rfl, _, rfl, ?_⟩
              refine ite2 (fun hgt => ?_) (fun _ => same (Exx.refl p H7) (hp7.mono (by omega)))
              have hgt' : 0 < more := of_decide_eq_true hgt
              refine ⟨.ref p, rfl, p, c, 3, _, rfl, hp7, by decide, by decide, by omega, fun r' H8 _ _ x8 hp8 => ?_⟩
              refine ⟨rfl, _, rfl, ?_⟩
              refine ite2 (fun _ => ?_) (fun _ => same x8 (hp8.mono (by omega)))
              -- one word more
              have hwl8 := x8 _ _ nwlp hwl7
              have hW8 : H8 W = some (.lst (wds.map V.int)) := x8 _ _ nWp (e7 _ _ hW6)
              refine ⟨.ref wlA, rfl, .inl ⟨rfl, _, SqL.of hwl8⟩, ?_⟩
              refine tcons1 ?_
              refine tcb1 ?_
              refine lc_draws (K := K) (vs := [10]) (i := 10) (wds := wds.take k) (p := p) (c := c) (T := T + 300 + 600 * (k : Nat) + 1) (hp8.mono (by omega)) ?_ (by omega) (fun x hx => hw1 x (List.mem_of_mem_take hx)) (by rw [List.length_take]; omega) ?_ ?_ ?_ ?_
              rotate_left
              · exact fun _ => rfl
              · exact fun _ => rfl
              · exact fun _ => rfl
              rotate_left
              · intro Q' h
                refine ⟨.ref W, rfl, .int (k : Nat), rfl, (k : Nat), rfl, W, _, rfl, .inl (.inl hW8), fun S nS => ?_⟩
                rw [cut_take, ← List.map_take]
                have e9 := Evl.Ex.new (o := .lst ((wds.take k).map V.int)) nS
                exact h S _ (Exx.ex e9) ((hp8.ex e9).mono (by omega)) (.inl (.inl upd_same)) (hp8.new1 nS)
              · intro H9 D xs x9 hp9 nD hD hin
                refine ⟨D, _, rfl, .inl ⟨.inl (.inl hD), fun t nt => ?_⟩⟩
                have e10 := Evl.Ex.new (o := .tup (xs.map V.int)) nt
                have hwl10 := e10 _ _ (x9 _ _ nwlp hwl8)
                refine ⟨wlA, vs, _, rfl, rfl, hwl10, Nat.lt_of_le_of_lt (by omega : vs.length ≤ 3) (by decide), ?_⟩
                refine ⟨.int more, rfl, more, 1, rfl, rfl, ?_⟩
                have xl : xs.length = k := by
                  have := hin.1
                  rw [List.length_take] at this
                  omega
                have hpt : (((wds.take k).length : Nat) : Int) ≤ 60 := by rw [List.length_take]; omega
                refine ⟨more - 1, vs ++ [.ref t], bases.map (fun u => u.take k) ++ [xs], srcs ++ [xs], _, _, _, rfl, ((Exx.ex e7).trans (x8.trans (x9.trans (Exx.ex e10)))).mut nwl, ((hp9.ex e10).put nwlp nwlc).mono (by omega), upd_same, ?_, by rw [List.length_append, List.length_map]; omega, by rw [List.length_append, List.length_map]; simp; omega, ?_, fun s h => List.mem_append_left _ h, by rw [List.length_append]; simp; omega, by omega⟩
                · refine Paired.imp (fun _ _ => Wd.mono (TX.put hwl10)) (paired_app1 (Paired.imp (fun _ _ => Wd.mono ((hp7.tx x8).trans ((hp8.tx x9).trans (TX.ex e10)))) hv7) ⟨t, rfl, upd_same⟩)
                · intro u hu
                  rcases List.mem_append.mp hu with h | h
                  · obtain ⟨h1, s', h2, h3⟩ := w0 u h
                    exact ⟨h1, s', List.mem_append_left _ h2, h3⟩
                  · have : u = xs := by simpa using h
                    subst this
                    exact ⟨hin, u, List.mem_append_right _ (by simp), by rw [List.take_of_length_le (by omega)]⟩
            · rintro σ' H8 ⟨more', vs', words, srcs', z9, z10, z11, rfl, x8, hp8, hwl8, hv8, wd1, wd4, hwords, hsrcs, hmore', more0'⟩
              have hW8 : H8 W = some (.lst (wds.map V.int)) := x8 _ _ nWp hW6
              have hbl8 : H8 bl = some (.lst lvs) := x8 _ _ nblp hbl6
              obtain ⟨wd, hwd⟩ : ∃ wd, wds[k]? = some wd := ⟨wds[k], List.getElem?_eq_getElem kl⟩
              have hwd2 := hw wd (List.mem_of_getElem? hwd)
              obtain ⟨ks, rfl, hks, hkt⟩ := keys_of hv8
              have bd : ∀ q ∈ ks, q.2.length = k ∧ TS.Bd 4 q.2 := by
                intro q hq
                have hq2 : q.2 ∈ words := by rw [← hks]; exact List.mem_map.mpr ⟨q, hq, rfl⟩
                obtain ⟨⟨h1, h2⟩, _⟩ := hwords q.2 hq2
                rw [List.length_take] at h1
                refine ⟨by omega, fun m hm => ?_⟩
                obtain ⟨j, hj, rfl⟩ := List.getElem_of_mem hm
                have hjk : j < (wds.take k).length := by rw [List.length_take]; omega
                have := h2 j _ _ (List.getElem?_eq_getElem hj) (List.getElem?_eq_getElem hjk)
                have h4 := hw ((wds.take k)[j]) (List.mem_of_mem_take (List.getElem_mem hjk))
                omega
              have ksl : ks.length = words.length := by rw [← hks, List.length_map]
              refine ⟨.ref bl, rfl, .inl ⟨rfl, _, SqL.of hbl8⟩, ?_⟩
              refine ⟨.ref W, rfl, .int (k : Nat), rfl, W, _, (k : Nat), .int wd, rfl, rfl, .inl (.inl hW8), atI_nat (map_int_get hwd), ?_⟩
              refine ⟨.ref p, rfl, .ref W, rfl, .int (k : Nat), rfl, W, _, (k : Nat), .int wd, rfl, rfl, .inl (.inl hW8), atI_nat (map_int_get hwd), ?_⟩
              refine ⟨.ref wlA, rfl, wlA, ks, rfl, .inl (.inl hwl8), fun q hq => .inl (.inl (hkt q hq)), by omega, fun sa L nsa hL1 hL2 => ?_⟩
              have e9 := Evl.Ex.new (o := SetTO P w sa L) nsa
              have Lne : L ≠ [] := by
                intro z
                cases hk0 : ks with
                | nil => rw [hk0] at ksl; simp at ksl; omega
                | cons q0 qs =>
                  have := hL2 q0 (by rw [hk0]; exact List.mem_cons_self)
                  rw [z] at this
                  cases this
              refine ⟨sa, L, k, 4, rfl, upd_same, fun q hq => .inl (.inl (e9 _ _ (hkt q (hL1 q hq)))), fun q hq => bd q (hL1 q hq), Lne, fun L' sl perm nodup l64 pw nsl => ?_⟩
              have e10 : Evl.Ex (upd H8 sa (SetTO P w sa L)) (upd (upd H8 sa (SetTO P w sa L)) sl (.lst (L'.map fun q => V.ref q.1))) := Evl.Ex.new nsl
              have e810 := e9.trans e10
              have hp10 := hp8.ex e810
              have hL' : ∀ q ∈ L', q ∈ ks := fun q hq => hL1 q (perm.mem_iff.mp hq)
              have rows10 : Paired (Wd K (upd (upd H8 sa (SetTO P w sa L)) sl (.lst (L'.map fun q => V.ref q.1)))) (L'.map fun q => V.ref q.1) (L'.map (·.2)) := rows_of_keys fun q hq => e810 _ _ (hkt q (hL' q hq))
              have rise : (L'.map (·.2)).Pairwise (fun u w => HT.lexLt u w = true) := by
                rw [List.pairwise_iff_getElem]
                intro i j hi hj hij
                have hi' : i < L'.length := by rwa [List.length_map] at hi
                have hj' : j < L'.length := by rwa [List.length_map] at hj
                have ne := List.pairwise_iff_getElem.mp nodup i j hi hj hij
                have cd := List.pairwise_iff_getElem.mp pw i j hi' hj' hij
                rw [List.getElem_map, List.getElem_map] at ne ⊢
                obtain ⟨a1, a2⟩ := bd L'[i] (hL' _ (List.getElem_mem hi'))
                obtain ⟨a3, a4⟩ := bd L'[j] (hL' _ (List.getElem_mem hj'))
                exact lex_of_code (by omega) a2 a4 cd ne
              have sub : ∀ u ∈ L'.map (·.2), u ∈ words := by
                intro u hu
                obtain ⟨q, hq, rfl⟩ := List.mem_map.mp hu
                rw [← hks]
                exact List.mem_map.mpr ⟨q, hL' q hq, rfl⟩
              have l8 : (L'.map (·.2)).length ≤ 8 := by
                have := nodup_le nodup sub
                omega
              refine ⟨p, c, sl, wd, _, _, L'.map (fun q : Addr × List Int => q.2), rfl, hp10, by omega, hwd2.1, hwd2.2, (hp8.ex e9).new1 nsl, upd_same, rows10, l8, fun H11 ga gvs gs left x11 hp11 hga hgv hdr => ?_⟩
              refine ⟨(by show 2 ≤ sizeLine; decide), fun bt nbt => ?_⟩
              have e12 := Evl.Ex.new (o := .tup [.int wd, .ref ga]) nbt
              generalize hH12 : upd H11 bt (.tup [.int wd, .ref ga]) = H12 at e12
              have hbt : H12 bt = some (.tup [.int wd, .ref ga]) := by rw [← hH12]; exact upd_same
              have x812 : Exx p H8 H12 := (Exx.ex e810).trans (x11.trans (Exx.ex e12))
              have hbl12 : H12 bl = some (.lst lvs) := x812 _ _ nblp hbl8
              have tx612 : TX K H6 H12 := hp6.tx (x8.trans x812)
              have lvl : lvs.length = l.length := Paired.len hlv6
              have hW12 := x812 _ _ nWp hW8
              have hbs12 := x812 _ _ nbsp (x8 _ _ nbsp hbs6)
              have nWbl : W ≠ bl := fun z => nblW z.symm
              have bAt : BoltAt K H12 (.ref bt) ⟨wd, gs⟩ := ⟨bt, ga, gvs, rfl, .inl (.inl hbt), Evl.ex_t e12 hga, Paired.imp (fun _ _ => GapAt.mono (TX.ex e12)) hgv⟩
              refine ⟨bl, lvs, _, rfl, rfl, hbl12, Nat.lt_of_le_of_lt (by omega : lvs.length ≤ 60) (by decide), ?_⟩
              refine ⟨more', lvs ++ [.ref bt], l ++ [⟨wd, gs⟩], srcs', _, _, _, _, _, rfl, (x6.trans (x8.trans x812)).mut nbl0, ((hp11.ex e12).put nblp nblc).mono (by omega), by rw [upd_ne nWbl]; exact hW12, by rw [upd_ne nbsbl]; exact hbs12, ?_, upd_same, ?_, by rw [List.length_append, ll]; rfl, fun s hs => hsrcs s (hsub s hs), hmore', more0', ?_⟩
              · exact Paired.imp (fun _ _ => Wd.mono (tx612.trans (TX.put hbl12))) hbv6
              · exact Paired.imp (fun _ _ => BoltAt.mono (TX.put hbl12)) (paired_app1 (Paired.imp (fun _ _ => BoltAt.mono tx612) hlv6) bAt)
              · intro j b hj
                by_cases hjl : j < l.length
                · rw [List.getElem?_append_left hjl] at hj
                  exact (hgood j b hj).mono hsrcs
                · rw [List.getElem?_append_right (by omega)] at hj
                  have : j = l.length := by
                    by_cases e : j - l.length = 0
                    · omega
                    · rw [List.getElem?_eq_none (by simp; omega)] at hj; cases hj
                  subst this
                  rw [Nat.sub_self] at hj
                  have eb : b = ⟨wd, gs⟩ := (Option.some.inj hj).symm
                  subst eb
                  rw [ll]
                  exact ⟨hwd, L'.map (·.2), left, hdr, rise, fun u hu => hwords u (sub u hu)⟩
        · rintro σ H6 ⟨more, lvs, l, srcs, y4, y8, y9, y10, y11, rfl, x6, hp6, hW6, hbs6, hbv6, hbl6, hlv6, ll, hsub, hmore, more0, hgood⟩
          refine ⟨.ref bl, rfl, bl, lvs, rfl, .inl ⟨.inl (.inl hbl6), fun lt nlt => ?_⟩⟩
          have e7 := Evl.Ex.new (o := .tup lvs) nlt
          have lw : l.length = wds.length := by omega
          refine q _ (.ref lt) l (x6.trans (Exx.ex e7)) ((hp6.ex e7).mono (by omega)) ⟨lt, lvs, rfl, .inl (.inl upd_same), Paired.imp (fun _ _ => BoltAt.mono (TX.ex e7)) hlv6⟩ (lockOk_drawn lw (by omega) (by omega) hw (by omega) hgood) (by omega)
end
end Wb

set_option Elab.async false
set_option linter.all false
set_option maxRecDepth 100000
set_option maxHeartbeats 4000000
set_option pp.maxSteps 600
set_option pp.deepTerms false
namespace Wb
open PySem PySem.Spec PyProof.Rows L2
abbrev sAllWays : Stmt := topS 38
abbrev nAllWays : List Str := ["_law_lock_here", "_law_found", "_law_bolt", "_law_gap"]
theorem scAllWays : FnScope nAllWays ["_law_lock_here"] (defScope sAllWays) := ⟨rfl, rfl, rfl, by decide +kernel, rfl, by decide +kernel, by decide +kernel⟩
def gapWays (gs : List Gap) : List Word := gs.flatMap (·.ways)
def lockWays (l : Lock) : List Word := l.flatMap fun b => gapWays b.gaps
theorem gapWays_snoc (gs : List Gap) (g : Gap) : gapWays (gs ++ [g]) = gapWays gs ++ g.ways := by
  unfold gapWays
  rw [List.flatMap_append]
  simp
theorem lockWays_snoc (l : Lock) (b : Bolt) : lockWays (l ++ [b]) = lockWays l ++ gapWays b.gaps := by
  unfold lockWays
  rw [List.flatMap_append]
  simp
theorem gapWays_len : ∀ gs : List Gap, (gapWays gs).length = (gs.map (fun g => g.ways.length)).sum
  | [] => rfl
  | g :: gs => by
    have := gapWays_len gs
    unfold gapWays at this ⊢
    rw [List.flatMap_cons, List.length_append, this]
    rfl
theorem gapWays_take {gs : List Gap} (m : Nat) : (gapWays (gs.take m)).length ≤ (gapWays gs).length := by
  have h : gapWays gs = gapWays (gs.take m) ++ gapWays (gs.drop m) := by
    unfold gapWays
    rw [← List.flatMap_append, List.take_append_drop]
  rw [h, List.length_append]
  omega
theorem gapWays_ok {l : Lock} (ok : LockOk l) {b : Bolt} (hb : b ∈ l) : (gapWays b.gaps).length ≤ 8 := by
  obtain ⟨k, hk, rfl⟩ := List.getElem_of_mem hb
  rw [gapWays_len]
  exact (ok.bolts k _ (List.getElem?_eq_getElem hk)).few
theorem lockWays_len : ∀ {l : Lock}, (∀ b ∈ l, (gapWays b.gaps).length ≤ 8) → (lockWays l).length ≤ 8 * l.length
  | [], _ => Nat.zero_le _
  | b :: l, h => by
    have h1 := lockWays_len (l := l) fun b' hb' => h b' (List.mem_cons_of_mem _ hb')
    have h2 := h b List.mem_cons_self
    unfold lockWays at h1 ⊢
    rw [List.flatMap_cons, List.length_append, List.length_cons]
    omega
theorem mem_lockWays {l : Lock} {u : Word} (h : u ∈ lockWays l) : ∃ (k : Nat) (b : Bolt) (g : Gap), l[k]? = some b ∧ g ∈ b.gaps ∧ u ∈ g.ways := by
  obtain ⟨b, hb, h1⟩ := List.mem_flatMap.mp h
  obtain ⟨g, hg, h2⟩ := List.mem_flatMap.mp h1
  obtain ⟨k, hk⟩ := List.mem_iff_getElem?.mp hb
  exact ⟨k, b, g, hk, hg, h2⟩
def spAllWays (K : PySem.W.Frag) : Sp := fun vs H Q _ => ∃ (v : V) (l : Lock), vs = [v] ∧ LockAt K H v l ∧ LockOk l ∧
  ∀ H' a us, Evl.Ex H H' → H a = none → H' a = some (.lst us) → Paired (Wd K H') us (lockWays l) → Q (.ref a) H'
section
variable {P : Program} {w : World} {K : PySem.W.Frag} {mg : Str → Option Value} {base : Heap}
theorem ok_allways {f : Addr} {fd : FuncData} (F : Fun K "_law_ways" "_law_ways" sAllWays f fd) (B : Bi mg) : FnOk P w K mg base CX0 1 f fd ["_law_lock_here"] (spAllWays K) := by
  refine F.ok scAllWays (fun vs H Q E h => ?_) (fun cdv A outer s H vs Q E hr h => ?_)
  · obtain ⟨v, l, rfl, _⟩ := h; rfl
  · obtain ⟨v, l, rfl, ⟨a, bs, rfl, ha, hbs⟩, ok, q⟩ := h
    refine ⟨_, pss_cons (ps_set (i := 1) scAllWays.nd rfl (.inl rfl) (pe_lst pa_nil))
      (pss_cons (ps_for PassesOwn.never rfl (pi_tup (pv 0)) (pg_name (i := 2) scAllWays.nd rfl (.inl rfl))
        (pss_one (ps_for PassesOwn.never rfl (pi_tup (pe_ix ix_tup (pv 2) pe_int (fun _ _ => rfl))) (pg_name (i := 3) scAllWays.nd rfl (.inl rfl))
          (pss_one (ps_set (i := 1) scAllWays.nd rfl (.inl rfl) (pe_op op_cat (pv 1) (pe_callTy call_list_of (by rfl) B.list PyProof.Rows.boot_list (pa_cons (pe_ix ix_tup (pv 3) pe_int (fun _ _ => rfl)) pa_nil))))))))
      (pss_one (ps_ret (pv 1)))), ?_⟩
    refine ⟨Nat.zero_le _, fun l0 n0 => ?_⟩
    have bl : bs.length = l.length := Paired.len hbs
    have few : ∀ b ∈ l, (gapWays b.gaps).length ≤ 8 := fun b hb => gapWays_ok ok hb
    refine ⟨.ref a, rfl, a, rfl, ⟨_, Evl.ex_t (Evl.Ex.new n0) ha⟩, ?_⟩
    refine for_tup (K := K) (a := a) (xs := bs) (fun i σ H' => ∃ (r : Addr) (us : List V) (y2 y3 : Option V), σ = [some (.ref a), some (.ref r), y2, y3] ∧ Evl.Ex H H' ∧ H r = none ∧ H' r = some (.lst us) ∧ Paired (Wd K H') us (lockWays (l.take i)))
      ⟨l0, [], none, none, rfl, Evl.Ex.new n0, n0, upd_same, .nil⟩ ?_ ?_ ?_
    · rintro i σ H1 _ ⟨r, us, y2, y3, _, e1, _⟩
      exact Evl.ex_t e1 ha
    · rintro i x σ H1 hx ⟨r, us, y2, y3, rfl, e1, nr, hr1, hus⟩
      obtain ⟨b, hb, ⟨a1, c1, gs, rfl, h1, h2, h3⟩⟩ := Paired.get1 hbs hx
      have il : i < l.length := (List.getElem?_eq_some_iff.mp hb).1
      have l60 := ok.n1
      refine ⟨.ref a1, rfl, a1, _, 1, .ref c1, rfl, rfl, Evl.ex_t e1 h1, rfl, c1, rfl, ⟨_, Evl.ex_t e1 h2⟩, ?_⟩
      refine for_tup (K := K) (a := c1) (xs := gs) (fun j σ H' => ∃ (r : Addr) (us : List V) (y3 : Option V), σ = [some (.ref a), some (.ref r), some (.ref a1), y3] ∧ Evl.Ex H H' ∧ H r = none ∧ H' r = some (.lst us) ∧ Paired (Wd K H') us (lockWays (l.take i) ++ gapWays (b.gaps.take j)))
        ⟨r, us, _, rfl, e1, nr, hr1, by simpa [gapWays] using hus⟩ ?_ ?_ ?_
      · rintro j σ H2 _ ⟨r, us, y3, _, e2, _⟩
        exact Evl.ex_t e2 h2
      · rintro j x σ H2 hx2 ⟨r, us, y3, rfl, e2, nr, hr2, hus⟩
        obtain ⟨g, hg, ⟨a2, b2, ws, rfl, k1, k2, k3⟩⟩ := Paired.get1 h3 hx2
        refine ⟨.ref r, rfl, .ref a2, rfl, a2, _, 3, .ref b2, rfl, rfl, Evl.ex_t e2 k1, rfl, b2, ws, rfl, .inr (Evl.ex_t e2 k2), fun q1 nq1 => ?_⟩
        have e3 := Evl.Ex.new (o := .lst ws) nq1
        have lus : us.length ≤ 500 := by
          have z1 := Paired.len hus
          rw [List.length_append] at z1
          have z2 := lockWays_len (l := l.take i) fun b hb => few b (List.mem_of_mem_take hb)
          have z3 := gapWays_take (gs := b.gaps) j
          have z4 := few b (List.mem_of_getElem? hb)
          rw [List.length_take] at z2
          omega
        have lws : ws.length ≤ 8 := by
          have z1 := Paired.len k3
          have z4 := ((ok.bolts i b hb).gaps g (List.mem_of_getElem? hg)).few
          omega
        refine ⟨r, q1, us, ws, rfl, rfl, e3 _ _ hr2, upd_same, Nat.le_trans (by omega : us.length + ws.length ≤ 508) (by decide), fun q2 nq2 => ?_⟩
        have e4 := Evl.Ex.new (o := .lst (us ++ ws)) nq2
        have nq20 : H q2 = none := Evl.fresh_back (e2.trans e3) nq2
        refine ⟨q2, us ++ ws, _, rfl, e2.trans (e3.trans e4), nq20, upd_same, ?_⟩
        rw [take_succ_get hg, gapWays_snoc, ← List.append_assoc]
        exact Paired.app (Paired.imp (fun _ _ => wd_ex (e3.trans e4)) hus) (Paired.imp (fun _ _ => wd_ex (e2.trans (e3.trans e4))) k3)
      · rintro σ H2 ⟨r, us, y3, rfl, e2, nr, hr2, hus⟩
        refine ⟨r, us, _, _, rfl, e2, nr, hr2, ?_⟩
        rw [Paired.len h3, List.take_length] at hus
        rw [take_succ_get hb, lockWays_snoc]
        exact hus
    · rintro σ H1 ⟨r, us, y2, y3, rfl, e1, nr, hr1, hus⟩
      rw [bl, List.take_length] at hus
      exact ⟨.ref r, rfl, q H1 r us e1 nr hr1 hus⟩
end
end Wb

set_option Elab.async false
set_option linter.all false
set_option maxRecDepth 100000
set_option maxHeartbeats 4000000
set_option pp.maxSteps 600
set_option pp.deepTerms false
namespace Wb
open PySem PySem.Spec PyProof.Rows L2
/-! ### data that is small: it can be compared and written -/
structure Fine (d : PyData) (n L : Nat) : Prop where
  lay : d.canLay0 = true
  sho : d.showable = true
  dep : d.depth ≤ n
  len : d.shown.length ≤ L
structure FineAll (ds : List PyData) (n S : Nat) : Prop where
  lay : PyData.canLayAll0 ds = true
  sho : PyData.showableAll ds = true
  dep : PyData.depthAll ds ≤ n
  len : piled (PyData.shownAll ds) ≤ S
theorem FineAll.nil {n : Nat} : FineAll [] n 0 := ⟨rfl, rfl, Nat.zero_le _, Nat.le_refl _⟩
theorem FineAll.cons {d : PyData} {ds : List PyData} {n L S : Nat} (h : Fine d n L) (t : FineAll ds n S) : FineAll (d :: ds) n (L + 2 + S) := by
  obtain ⟨a1, a2, a3, a4⟩ := h
  obtain ⟨b1, b2, b3, b4⟩ := t
  refine ⟨by simp [PyData.canLayAll0, a1, b1], by simp [PyData.showableAll, a2, b2], by simp only [PyData.depthAll]; omega, ?_⟩
  simp only [PyData.shownAll, piled_cons]
  omega
theorem FineAll.rep {n B : Nat} : ∀ {ds : List PyData}, (∀ d ∈ ds, Fine d n B) → FineAll ds n (ds.length * (B + 2))
  | [], _ => by simpa using FineAll.nil
  | d :: ds, h => by
    have := FineAll.cons (h d List.mem_cons_self) (FineAll.rep fun d' hd => h d' (List.mem_cons_of_mem _ hd))
    rw [List.length_cons, Nat.succ_mul, Nat.add_comm]
    exact this
theorem FineAll.mono {ds : List PyData} {n S S' : Nat} (h : FineAll ds n S) (l : S ≤ S') : FineAll ds n S' := ⟨h.1, h.2, h.3, Nat.le_trans h.4 l⟩
theorem Fine.mono {d : PyData} {n n' L L' : Nat} (h : Fine d n L) (a : n ≤ n') (b : L ≤ L') : Fine d n' L' := ⟨h.1, h.2, Nat.le_trans h.3 a, Nat.le_trans h.4 b⟩
theorem join_le (ts : List Str) : (Str.join ", " ts).length ≤ piled ts := by
  cases ts with
  | nil => exact Nat.zero_le _
  | cons t ts =>
    have := join_length_add (t :: ts) (by simp)
    omega
theorem textFrom_le : ∀ (ts : List Str) (k : Nat) (acc : Str), (textFrom k acc ts).length ≤ acc.length + piled ts
  | [], k, acc => by show acc.length ≤ _; omega
  | t :: ts, k, acc => by
    have h := textFrom_le ts (k + 1) (acc ++ (if k > 0 then ", " else "" : String) ++ t)
    have e : (acc ++ (if k > 0 then ", " else "" : String) ++ t).length = acc.length + (if k > 0 then 2 else 0) + t.length := by
      rw [strLen_append, strLen_append]
      split <;> rfl
    have e2 : (if k > 0 then 2 else 0 : Nat) ≤ 2 := by split <;> omega
    rw [piled_cons]
    show (textFrom (k + 1) _ ts).length ≤ _
    omega
theorem fine_tup {ds : List PyData} {n S : Nat} (h : FineAll ds n S) : Fine (.tuple ds) (n + 1) (S + 3) := by
  obtain ⟨b1, b2, b3, b4⟩ := h
  refine ⟨by simpa only [PyData.canLay0] using b1, by simpa only [PyData.showable] using b2, by simp only [PyData.depth]; omega, ?_⟩
  simp only [PyData.shown]
  unfold tupleText
  rw [strLen_append, strLen_append]
  have e1 : ((("(" : String) : Str)).length = 1 := rfl
  have e3 : (((if (PyData.shownAll ds).length == 1 then ",)" else ")" : String) : Str)).length ≤ 2 := by split <;> decide
  have := join_le (PyData.shownAll ds)
  omega
theorem fine_lst {ds : List PyData} {n S : Nat} (h : FineAll ds n S) : Fine (.list ds) (n + 1) (S + 3) := by
  obtain ⟨b1, b2, b3, b4⟩ := h
  refine ⟨by simpa only [PyData.canLay0] using b1, by simpa only [PyData.showable] using b2, by simp only [PyData.depth]; omega, ?_⟩
  simp only [PyData.shown]
  unfold listText
  rw [strLen_append]
  have e1 : ((("]" : String) : Str)).length = 1 := rfl
  have e2 : ((("[" : String) : Str)).length = 1 := rfl
  have := textFrom_le (PyData.shownAll ds) 0 "["
  omega
theorem fine_int {i : Int} (h : i.natAbs < 10 ^ 7) : Fine (.int i) 0 8 := by
  refine ⟨by simp only [PyData.canLay0], ?_, by simp only [PyData.depth]; omega, ?_⟩
  · simp only [PyData.showable]
    refine decide_eq_true ?_
    by_cases z : i.natAbs = 0
    · rw [z]; decide
    · refine (Nat.log2_lt z).mpr (Nat.lt_of_lt_of_le h ?_)
      exact Nat.le_trans (show 10 ^ 7 ≤ 2 ^ 24 by decide) (Nat.pow_le_pow_right (by decide) (by decide))
  · simp only [PyData.shown]
    rw [PySem.ofString_length]
    exact int_text_length_le10 (k := 7) (by decide) h
theorem Fine.shaped {d : PyData} {n L : Nat} (h : Fine d n L) (hn : n ≤ 64) : SeqAt.shaped d = true := by
  unfold SeqAt.shaped
  rw [h.lay, Bool.true_and]
  exact decide_eq_true (Nat.le_trans h.dep hn)
/-! ### words, gaps, bolts, locks, steps as data -/
def dW (w : Word) : PyData := .tuple (w.map .int)
def dWs (ws : List Word) : PyData := .tuple (ws.map dW)
def dG (g : Gap) : PyData := .tuple [.int g.frm, .int g.to_, .int g.price, dWs g.ways]
def dGs (gs : List Gap) : PyData := .tuple (gs.map dG)
def dB (b : Bolt) : PyData := .tuple [.int b.many, dGs b.gaps]
def dL (l : Lock) : PyData := .tuple (l.map dB)
def dT (t : Tr3) : PyData := .tuple [.int t.frm, .int t.to_, .int t.price]
section
variable {K : PySem.W.Frag} {H : Hp}
theorem dp_all {α : Type} {F : V → α → Prop} {f : α → PyData} (h : ∀ v x, F v x → Dp K H v (f x)) : ∀ {vs : List V} {xs : List α}, Paired F vs xs → DpAll K H vs (xs.map f)
  | _, _, .nil => .nil
  | _, _, .cons r t => .cons (h _ _ r) (dp_all h t)
theorem dp_W {v : V} {u : Word} (h : Wd K H v u) : Dp K H v (dW u) := by
  obtain ⟨a, rfl, ha⟩ := h
  exact .tup (.inl (.inl ha)) (dp_ints u)
theorem dp_G {v : V} {g : Gap} (h : GapAt K H v g) : Dp K H v (dG g) := by
  obtain ⟨a, b, ws, rfl, h1, h2, h3⟩ := h
  exact .tup h1 (.cons (.int _) (.cons (.int _) (.cons (.int _) (.cons (.tup h2 (dp_all (F := Wd K H) (f := dW) (fun _ _ => dp_W) h3)) .nil))))
theorem dp_B {v : V} {b : Bolt} (h : BoltAt K H v b) : Dp K H v (dB b) := by
  obtain ⟨a, c, gs, rfl, h1, h2, h3⟩ := h
  exact .tup h1 (.cons (.int _) (.cons (.tup h2 (dp_all (F := GapAt K H) (f := dG) (fun _ _ => dp_G) h3)) .nil))
theorem dp_L {v : V} {l : Lock} (h : LockAt K H v l) : Dp K H v (dL l) := by
  obtain ⟨a, bs, rfl, h1, h2⟩ := h
  exact .tup h1 (dp_all (F := BoltAt K H) (f := dB) (fun _ _ => dp_B) h2)
theorem dp_T {v : V} {t : Tr3} (h : TrAt H v t) : Dp K H v (dT t) := by
  obtain ⟨a, rfl, ha⟩ := h
  exact .tup (.inl (.inl ha)) (.cons (.int _) (.cons (.int _) (.cons (.int _) .nil)))
end
theorem fine_W {u : Word} {B : Int} {n : Nat} (hb : ∀ x ∈ u, 0 ≤ x ∧ x < B) (hB : B ≤ 10) (hn : u.length ≤ n) : Fine (dW u) 1 (10 * n + 3) := by
  have h : FineAll (u.map PyData.int) 0 ((u.map PyData.int).length * (8 + 2)) := FineAll.rep fun d hd => by
    obtain ⟨x, hx, rfl⟩ := List.mem_map.mp hd
    have := hb x hx
    have h10 : x.natAbs < 10 := by omega
    exact fine_int (Nat.lt_trans h10 (by decide))
  refine (fine_tup h).mono (Nat.le_refl _) ?_
  rw [List.length_map]
  omega
theorem fine_small {x : Int} (h0 : 0 ≤ x) (h1 : x ≤ 1000000) : Fine (.int x) 0 8 := fine_int (by
  have h : x.natAbs ≤ 1000000 := by omega
  exact Nat.lt_of_le_of_lt h (by decide))
theorem manys_le {l : Lock} (ok : LockOk l) {k : Nat} {b : Bolt} (h : l[k]? = some b) : b.many ≤ 4 := (ok.bolts k b h).m1
theorem fine_way {l : Lock} (ok : LockOk l) {k : Nat} {b : Bolt} {g : Gap} {u : Word} (hb : l[k]? = some b) (hg : g ∈ b.gaps) (hu : u ∈ g.ways) : Fine (dW u) 1 603 := by
  have G := (ok.bolts k b hb).gaps g hg
  obtain ⟨h1, h2⟩ := G.words u hu
  have kl : k < l.length := (List.getElem?_eq_some_iff.mp hb).1
  have l60 := ok.n1
  have ml : (manysOf (l.take k)).length = k := by
    unfold manysOf
    rw [List.length_map, List.length_take]
    omega
  refine (fine_W (B := 4) (n := 60) (fun x hx => ?_) (by decide) (by omega)).mono (Nat.le_refl _) (Nat.le_refl _)
  obtain ⟨i, hi⟩ := List.mem_iff_getElem?.mp hx
  have il : i < u.length := (List.getElem?_eq_some_iff.mp hi).1
  have il2 : i < l.length := by omega
  have hm : (manysOf (l.take k))[i]? = some l[i].many := by
    unfold manysOf
    rw [List.getElem?_map, List.getElem?_take, if_pos (by omega), List.getElem?_eq_getElem il2]
    rfl
  have := h2 i x _ hi hm
  have := manys_le ok (List.getElem?_eq_getElem il2)
  omega
theorem fine_G {l : Lock} (ok : LockOk l) {k : Nat} {b : Bolt} {g : Gap} (hb : l[k]? = some b) (hg : g ∈ b.gaps) : Fine (dG g) 3 5000 := by
  have BO := ok.bolts k b hb
  have G := BO.gaps g hg
  have m1 := BO.m1
  have h1 : FineAll (g.ways.map dW) 1 ((g.ways.map dW).length * (603 + 2)) := FineAll.rep fun d hd => by
    obtain ⟨u, hu, rfl⟩ := List.mem_map.mp hd
    exact fine_way ok hb hg hu
  have h2 := fine_tup h1
  have f8 := G.few
  rw [List.length_map] at h2
  have a1 := fine_small G.f0 (show g.frm ≤ 1000000 by have := G.f1; omega)
  have a2 := fine_small G.t0 (show g.to_ ≤ 1000000 by have := G.t1; omega)
  have a3 := fine_small (show 0 ≤ g.price by have := G.p0; omega) G.p1
  have w2 := a1.mono (Nat.zero_le 2) (Nat.le_refl 8)
  refine (fine_tup (FineAll.cons (a1.mono (Nat.zero_le 2) (Nat.le_refl 8)) (FineAll.cons (a2.mono (Nat.zero_le 2) (Nat.le_refl 8)) (FineAll.cons (a3.mono (Nat.zero_le 2) (Nat.le_refl 8)) (FineAll.cons (h2 : Fine (dWs g.ways) 2 _) FineAll.nil))))).mono (Nat.le_refl _) ?_
  omega
theorem codes_len {gs : List Gap} {m : Int} (hm : m ≤ 4) (h : ∀ g ∈ gs, 0 ≤ g.frm ∧ g.frm < m ∧ 0 ≤ g.to_ ∧ g.to_ < m) (r : gs.Pairwise (fun g h => lexLt2 g.frm g.to_ h.frm h.to_)) : gs.length ≤ 16 := by
  have n1 : (gs.map fun g => (4 * g.frm + g.to_).toNat).Nodup := by
    rw [List.Nodup, List.pairwise_map]
    refine List.Pairwise.imp_of_mem ?_ r
    intro g g' hg hg' hl
    have b1 := h g hg
    have b2 := h g' hg'
    rcases hl with hl | ⟨hl, hl'⟩ <;> omega
  have := nodup_le (ys := List.range 16) n1 fun x hx => by
    obtain ⟨g, hg, rfl⟩ := List.mem_map.mp hx
    have b1 := h g hg
    rw [List.mem_range]
    omega
  rw [List.length_map, List.length_range] at this
  exact this
theorem gaps_16 {l : Lock} (ok : LockOk l) {k : Nat} {b : Bolt} (hb : l[k]? = some b) : b.gaps.length ≤ 16 := by
  have BO := ok.bolts k b hb
  exact codes_len BO.m1 (fun g hg => by
    have G := BO.gaps g hg
    exact ⟨G.f0, G.f1, G.t0, G.t1⟩) BO.rise
theorem fine_B {l : Lock} (ok : LockOk l) {k : Nat} {b : Bolt} (hb : l[k]? = some b) : Fine (dB b) 5 81000 := by
  have BO := ok.bolts k b hb
  have h1 : FineAll (b.gaps.map dG) 3 ((b.gaps.map dG).length * (5000 + 2)) := FineAll.rep fun d hd => by
    obtain ⟨g, hg, rfl⟩ := List.mem_map.mp hd
    exact fine_G ok hb hg
  have h2 := fine_tup h1
  have g16 := gaps_16 ok hb
  rw [List.length_map] at h2
  have a1 := fine_small (show 0 ≤ b.many by have := BO.m0; omega) (show b.many ≤ 1000000 by have := BO.m1; omega)
  refine (fine_tup (FineAll.cons (a1.mono (Nat.zero_le 4) (Nat.le_refl 8)) (FineAll.cons (h2 : Fine (dGs b.gaps) 4 _) FineAll.nil))).mono (Nat.le_refl _) ?_
  omega
theorem fine_L {l : Lock} (ok : LockOk l) : Fine (dL l) 6 5000000 := by
  have h1 : FineAll (l.map dB) 5 ((l.map dB).length * (81000 + 2)) := FineAll.rep fun d hd => by
    obtain ⟨b, hb, rfl⟩ := List.mem_map.mp hd
    obtain ⟨k, hk⟩ := List.mem_iff_getElem?.mp hb
    exact fine_B ok hk
  have h2 := fine_tup h1
  have l60 := ok.n1
  rw [List.length_map] at h2
  refine h2.mono (Nat.le_refl _) ?_
  omega
structure TrOk (t : Tr3) : Prop where
  f0 : 0 ≤ t.frm
  f1 : t.frm ≤ 1000000
  t0 : 0 ≤ t.to_
  t1 : t.to_ ≤ 1000000
  p0 : 0 ≤ t.price
  p1 : t.price ≤ 1000000
theorem fine_T {t : Tr3} (h : TrOk t) : Fine (dT t) 1 40 :=
  (fine_tup (FineAll.cons (fine_small h.f0 h.f1) (FineAll.cons (fine_small h.t0 h.t1) (FineAll.cons (fine_small h.p0 h.p1) FineAll.nil)))).mono (Nat.le_refl _) (by decide)
theorem fine_Ts {ts : List Tr3} (h : ∀ t ∈ ts, TrOk t) (n : ts.length ≤ 1000) : Fine (.list (ts.map dT)) 2 50000 := by
  have h1 : FineAll (ts.map dT) 1 ((ts.map dT).length * (40 + 2)) := FineAll.rep fun d hd => by
    obtain ⟨t, ht, rfl⟩ := List.mem_map.mp hd
    exact fine_T (h t ht)
  have h2 := fine_lst h1
  rw [List.length_map] at h2
  refine h2.mono (Nat.le_refl _) ?_
  omega
theorem fine_ways {l : Lock} (ok : LockOk l) : Fine (.list ((lockWays l).map dW)) 2 400000 := by
  have h1 : FineAll ((lockWays l).map dW) 1 (((lockWays l).map dW).length * (603 + 2)) := FineAll.rep fun d hd => by
    obtain ⟨u, hu, rfl⟩ := List.mem_map.mp hd
    obtain ⟨k, b, g, hb, hg, hw⟩ := mem_lockWays hu
    exact fine_way ok hb hg hw
  have h2 := fine_lst h1
  have n := lockWays_len (l := l) fun b hb => gapWays_ok ok hb
  have l60 := ok.n1
  rw [List.length_map] at h2
  refine h2.mono (Nat.le_refl _) ?_
  omega
end Wb

set_option Elab.async false
set_option linter.all false
set_option maxRecDepth 100000
set_option maxHeartbeats 4000000
set_option pp.maxSteps 600
set_option pp.deepTerms false
namespace Wb
open PySem PySem.Spec PyProof.Rows L2
abbrev sStand : Stmt := topS 39
abbrev nStand : List Str := ["_law_pen_here", "_law_lock_here", "_law_found", "_law_ways_here", "_law_way", "_law_bolt"]
theorem scStand : FnScope nStand ["_law_pen_here", "_law_lock_here"] (defScope sStand) := ⟨rfl, rfl, rfl, by decide +kernel, rfl, by decide +kernel, by decide +kernel⟩
def spStand (K : PySem.W.Frag) : Sp := fun vs H Q _ => ∃ (p c : Addr) (v : V) (l : Lock) (T : Int), vs = [.ref p, v] ∧ PenAt H p c T ∧ T ≤ 9000000 ∧ LockAt K H v l ∧ LockOk l ∧
  ∀ H' u st, Exx p H H' → PenAt H' p c (T + 100) → Wd K H' u st → InAll st (manysOf l) → Q u H'
theorem inAll_mix {xs ys ms : List Int} {j : Nat} (h : InAll xs ms) (h' : InAll ys (ms.take j)) (hj : j ≤ ms.length) : InAll (ys ++ xs.drop j) ms := by
  have yl : ys.length = j := by
    have := h'.1
    rw [List.length_take] at this
    omega
  have xl := h.1
  refine ⟨by rw [List.length_append, List.length_drop]; omega, fun i a b ha hb => ?_⟩
  by_cases hi : i < ys.length
  · rw [List.getElem?_append_left hi] at ha
    exact h'.2 i a b ha (by rw [List.getElem?_take, if_pos (by omega)]; exact hb)
  · rw [List.getElem?_append_right (by omega), List.getElem?_drop] at ha
    exact h.2 i a b (by rw [show j + (i - ys.length) = i by omega] at ha; exact ha) hb
theorem manys_take (l : Lock) (k : Nat) : manysOf (l.take k) = (manysOf l).take k := by
  unfold manysOf
  rw [List.map_take]
theorem way_in {l : Lock} (ok : LockOk l) {u : Word} (h : u ∈ lockWays l) : u.length < l.length ∧ InAll u ((manysOf l).take u.length) := by
  obtain ⟨k, b, g, hb, hg, hu⟩ := mem_lockWays h
  have kl : k < l.length := (List.getElem?_eq_some_iff.mp hb).1
  obtain ⟨h1, h2⟩ := ((ok.bolts k b hb).gaps g hg).words u hu
  rw [manys_take] at h1 h2
  have ml : (manysOf l).length = l.length := by unfold manysOf; rw [List.length_map]
  rw [List.length_take, ml] at h1
  have e : u.length = k := by omega
  rw [e]
  exact ⟨kl, by rw [List.length_take, ml]; omega, h2⟩
theorem cut_drop (xs : List V) {k : Nat} (h : k ≤ xs.length) : cutV xs (some (k : Int)) none = xs.drop k := by
  unfold cutV
  rw [HT.sIx_none, HT.sIx_nat]
  rw [List.take_of_length_le]
  · congr 1
    omega
  · rw [List.length_drop]
    omega
section
variable {P : Program} {w : World} {K : PySem.W.Frag} {mg : Str → Option Value} {base : Heap}
theorem ok_stand {f f1 f2 f3 : Addr} {fd fd1 fd2 fd3 : FuncData} (F : Fun K "_law_stand" "_law_stand" sStand f fd) (F1 : Fun K "_law_draw" "_law_draw" sDraw f1 fd1) (b1 : Binds K fd1 ["_law_pen_here", "_law_many"] []) (g1 : mg "_law_draw" = some (.ref f1))
    (F2 : Fun K "_law_pick" "_law_pick" sPick f2 fd2) (b2 : Binds K fd2 ["_law_pen_here", "_law_some"] []) (g2 : mg "_law_pick" = some (.ref f2))
    (F3 : Fun K "_law_ways" "_law_ways" sAllWays f3 fd3) (b3 : Binds K fd3 ["_law_lock_here"] []) (g3 : mg "_law_ways" = some (.ref f3)) (B : Bi mg) :
    FnOk P w K mg base CX0 3 f fd ["_law_pen_here", "_law_lock_here"] (spStand K) := by
  have G1 : FnOk P w K mg base CX0 1 f1 fd1 ["_law_pen_here", "_law_many"] spDraw := ok_draw F1 B
  have G2 : FnOk P w K mg base CX0 2 f2 fd2 ["_law_pen_here", "_law_some"] (spPick K) := ok_pick F2 F1 b1 g1 B
  have G3 : FnOk P w K mg base CX0 1 f3 fd3 ["_law_lock_here"] (spAllWays K) := ok_allways F3 B
  refine F.ok scStand (fun vs H Q E h => ?_) (fun cdv A outer s H vs Q E hr h => ?_)
  · obtain ⟨p, c, v, l, T, rfl, _⟩ := h; rfl
  · obtain ⟨p, c, v, l, T, rfl, hp, T9, ⟨a, bs, rfl, ha, hbs⟩, ok, q⟩ := h
    have hr1 : Room 1 _ := hr.mono (by decide)
    have hu := hu_of hr
    refine ⟨_, pss_cons (ps_par (by rfl) scStand.nd (i := 2) (j := 3) rfl rfl (by decide) rfl rfl (pa_cons (pe_callTy (r := rTupK K) call_tupK (by rfl) B.tuple PyProof.Rows.boot_tuple (pa_cons
          (pe_lc (own := [("_law_bolt", 5)]) (wi := iTup K (tVar 1)) (g := gName 5) rfl scStand.nd (pi_tup (pv 1)) (blkOk_by (own := [("_law_bolt", 5)]) (N := nStand) (sc := defScope sStand) (by decide +kernel))
            (fun _ _ _ _ _ => pg_name (i := 5) scStand.nd rfl (Or.inl rfl)) (fun _ _ _ _ _ => pts_nil)
            (fun _ _ _ _ _ => pe_call G1 hr1 (by rfl) g1 F1.kp b1 .nil pass0 (pa_cons (pv 0) (pa_cons (pe_ix (r := rIxT K) ix_tup (pv 5) pe_int (fun _ _ => rfl)) pa_nil)))) pa_nil))
        (pa_cons (pe_call G3 hr1 (by rfl) g3 F3.kp b3 .nil pass0 (pa_cons (pv 1) pa_nil)) pa_nil)) (by rfl))
      (Evl.pss_cut (ps_if (PW.pt (pw_and (pt_cmpR (op_neD hr.units) (pv 3) (pe_lst pa_nil) (nomark _)) (pw_and1 (pt_cmpR op_eq (pe_call G1 hr1 (by rfl) g1 F1.kp b1 .nil pass0 (pa_cons (pv 0) (pa_cons pe_int pa_nil))) pe_int (nomark _)))))
          (pss_cons (ps_set (i := 4) scStand.nd rfl (.inl rfl) (pe_call G2 hr (by rfl) g2 F2.kp b2 .nil pass0 (pa_cons (pv 0) (pa_cons (pv 3) pa_nil))))
          (pss_one (ps_set (i := 2) scStand.nd rfl (.inl rfl) (pe_op op_catA (pv 4) (pe_slice (r := rSlA K) sl_tupA (pv 2) (po_some (pe_callB call_len_seq (by rfl) B.len PySem.boot_len (pa_cons (pv 4) pa_nil))) po_none))))) pss_nil)
      (pss_one (ps_ret (pv 2)))), ?_⟩
    have bl : bs.length = l.length := Paired.len hbs
    have l60 := ok.n1
    have ml : (manysOf l).length = l.length := by unfold manysOf; rw [List.length_map]
    refine ⟨.ref a, rfl, a, rfl, ⟨_, ha⟩, fun D hD => ?_⟩
    have nDp : D ≠ p := hp.new1 hD
    have nDc : D ≠ c := hp.new2 hD
    have txx : ∀ {Hx : Hp}, Exx p H Hx → TX K H Hx := fun x => hp.tx x
    refine lc_tup (K := K) (a := a) (xs := bs) (fun i H' => ∃ xs : List Int, Exx p H H' ∧ PenAt H' p c (T + (i : Nat)) ∧ H' D = some (.lst (xs.map V.int)) ∧ InAll xs ((manysOf l).take i)) ⟨[], Exx.ex (Evl.Ex.new hD), ?_, upd_same, inAll_nil⟩ ?_ ?_ ?_
    · have := hp.put (o := .lst []) nDp nDc
      simpa using this
    · rintro i H' _ ⟨_, x, _⟩
      exact (txx x).1 _ _ ha
    · rintro i x H1 hx ⟨xs, x1, hp1, hD1, hin⟩
      obtain ⟨b, hb, ⟨a1, c1, gs, rfl, h1, h2, h3⟩⟩ := Paired.get1 hbs hx
      have il : i < l.length := (List.getElem?_eq_some_iff.mp hb).1
      have BO := ok.bolts i b hb
      have m0 := BO.m0
      have m1 := BO.m1
      have xl : xs.length = i := by
        have := hin.1
        rw [List.length_take] at this
        omega
      have mm : (manysOf l)[i]? = some b.many := by
        unfold manysOf
        rw [List.getElem?_map, hb]
        rfl
      refine ⟨rfl, ?_⟩
      refine ⟨.ref p, rfl, .ref a1, rfl, a1, _, 0, .int b.many, rfl, rfl, (txx x1).1 _ _ h1, atI_nat (j := 0) rfl, p, c, b.many, _, rfl, hp1, by omega, by omega, by omega, fun r H2 r0 r1 x2 hp2 => ?_⟩
      refine ⟨_, x2 _ _ nDp hD1, Nat.lt_of_le_of_lt (by rw [List.length_map]; omega : (xs.map V.int).length ≤ 60) (by decide), xs ++ [r], (x1.trans x2).mut hD, (hp2.put nDp nDc).mono (by omega), by rw [upd_same, List.map_append]; rfl, ?_⟩
      rw [take_succ_get mm]
      exact inAll_snoc hin r0 r1
    · rintro H1 ⟨xs, x1, hp1, hD1, hin⟩
      rw [bl, ← ml, List.take_length] at hin
      refine ⟨D, _, rfl, .inl ⟨.inl (.inl hD1), fun tp ntp => ?_⟩⟩
      have e2 := Evl.Ex.new (o := .tup (xs.map V.int)) ntp
      have x2 : Exx p H (upd H1 tp (.tup (xs.map V.int))) := x1.trans (Exx.ex e2)
      have hp2 := hp1.ex e2
      have htp : (upd H1 tp (.tup (xs.map V.int))) tp = some (.tup (xs.map V.int)) := upd_same
      generalize upd H1 tp (.tup (xs.map V.int)) = H2 at x2 hp2 htp
      have hL2 : LockAt K H2 (.ref a) l := LockAt.mono (txx x2) ⟨a, bs, rfl, ha, hbs⟩
      refine ⟨.ref a, rfl, .ref a, l, rfl, hL2, ok, fun H3 wa us e3 nwa hwa hus => ?_⟩
      refine ⟨.ref tp, .ref wa, rfl, ?_⟩
      have hp3 := hp2.ex e3
      have x3 : Exx p H H3 := x2.trans (Exx.ex e3)
      have htp3 := e3 _ _ htp
      have xl : xs.length = l.length := by rw [hin.1, ml]
      refine ⟨fun σ H' => ∃ (u : V) (st : Word) (y4 : Option V), σ = [some (.ref p), some (.ref a), some u, some (.ref wa), y4, none] ∧ Exx p H H' ∧ PenAt H' p c (T + 100) ∧ Wd K H' u st ∧ InAll st (manysOf l), ?_, ?_⟩
      · have same : ∀ {Hx : Hp} {y4 : Option V}, Exx p H3 Hx → PenAt Hx p c (T + 100) → ∃ (u : V) (st : Word) (y4' : Option V), ([some (.ref p), some (.ref a), some (.ref tp), some (.ref wa), y4, none] : L2.St) = [some (.ref p), some (.ref a), some u, some (.ref wa), y4', none] ∧ Exx p H Hx ∧ PenAt Hx p c (T + 100) ∧ Wd K Hx u st ∧ InAll st (manysOf l) := by
          intro Hx y4 ex hpx
          exact ⟨_, xs, _, rfl, x3.trans ex, hpx, Wd.mono (hp3.tx ex) ⟨tp, rfl, htp3⟩, hin⟩
        refine ⟨.ref wa, rfl, Nat.zero_le _, fun e ne => ?_⟩
        have e4 := Evl.Ex.new (o := .lst []) ne
        have hwa4 := e4 _ _ hwa
        refine ⟨.list ((lockWays l).map dW), .list [], .lst (.inl (.inl hwa4)) (dp_all (F := Wd K _) (f := dW) (fun _ _ => dp_W) (Paired.imp (fun _ _ => wd_ex e4) hus)), .lst (.inl (.inl upd_same)) .nil, (fine_ways ok).shaped (by decide), (by decide), _, rfl, ?_⟩
        cases hw0 : lockWays l with
        | nil =>
          refine iteF ?_
          exact same (Exx.ex e4) ((hp3.ex e4).mono (by omega))
        | cons w0 ws =>
          refine iteT ?_
          generalize upd H3 e (.lst []) = H4 at e4 hwa4
          have hp4 := hp3.ex e4
          refine ⟨.ref p, rfl, p, c, 2, _, rfl, hp4, by decide, by decide, by omega, fun r H5 r0 r1 x5 hp5 => ?_⟩
          have x35 : Exx p H3 H5 := (Exx.ex e4).trans x5
          refine ⟨rfl, _, rfl, ?_⟩
          refine ite2 (fun _ => ?_) (fun _ => same x35 (hp5.mono (by omega)))
          have nwap : wa ≠ p := fun z => by
            have := hp2.here
            rw [z] at nwa
            exact this nwa
          have hwa5 := x5 _ _ nwap hwa4
          have ulen : us.length = (lockWays l).length := Paired.len hus
          have une : us ≠ [] := fun z => by rw [z, hw0] at ulen; simp at ulen
          have u480 := lockWays_len (l := l) fun b hb => gapWays_ok ok hb
          refine ⟨.ref p, rfl, .ref wa, rfl, p, c, wa, _, us, rfl, hp5, by omega, .inl (.inl hwa5), nwap, une, by omega, fun x H6 hx x6 hp6 => ?_⟩
          obtain ⟨j, hj⟩ := List.mem_iff_getElem?.mp hx
          obtain ⟨u, hu, ⟨ua, rfl, hua⟩⟩ := Paired.get1 hus hj
          obtain ⟨ul, uin⟩ := way_in ok (List.mem_of_getElem? hu)
          have x36 : Exx p H3 H6 := x35.trans x6
          have tx36 : TX K H3 H6 := hp3.tx x36
          have hua6 : H6 ua = some (.tup (u.map V.int)) := tx36.2 _ _ hua
          have htp6 : H6 tp = some (.tup (xs.map V.int)) := tx36.2 _ _ htp3
          have fin : ∀ {Hx : Hp} {z : Addr}, Evl.Ex H6 Hx → Hx z = some (.tup ((u ++ xs.drop u.length).map V.int)) → ∃ (u' : V) (st : Word) (y4' : Option V), ([some (.ref p), some (.ref a), some (.ref z), some (.ref wa), some (.ref ua), none] : L2.St) = [some (.ref p), some (.ref a), some u', some (.ref wa), y4', none] ∧ Exx p H Hx ∧ PenAt Hx p c (T + 100) ∧ Wd K Hx u' st ∧ InAll st (manysOf l) := by
            intro Hx z ex hz
            exact ⟨_, _, _, rfl, x3.trans (x36.trans (Exx.ex ex)), (hp6.ex ex).mono (by omega), ⟨z, rfl, hz⟩, inAll_mix hin uin (by omega)⟩
          refine ⟨.ref ua, rfl, .ref tp, rfl, .ref ua, rfl, ua, _, rfl, .inr (.inl (.inl hua6)), ?_⟩
          have lz : ((xs.map V.int).length) = xs.length := List.length_map ..
          have ln : ((u.map V.int).length) = u.length := List.length_map ..
          have cutd : cutV (xs.map V.int) (some (((u.map V.int).length : Nat) : Int)) none = (xs.drop u.length).map V.int := by
            rw [ln, cut_drop (xs.map V.int) (k := u.length) (by rw [lz]; omega), List.map_drop]
          have size : (u.map V.int).length + (xs.map V.int).length ≤ sizeLine := Nat.le_trans (by rw [ln, lz]; omega : (u.map V.int).length + (xs.map V.int).length ≤ 120) (by decide)
          refine ⟨_, rfl, ⟨tp, _, rfl, .inl (.inl htp6), fun z => ?_, fun _ t nt => ?_⟩⟩
          · have z1 : u.length = 0 := by
              have z2 := z.1
              rw [ln, lz, HT.sIx_nat] at z2
              omega
            have u0 : u = [] := List.length_eq_zero_iff.mp z1
            have hf := fin (Hx := H6) (z := tp) (Evl.Ex.refl _) (by rw [u0]; exact htp6)
            exact ⟨ua, tp, _, _, rfl, rfl, .inl (.inl hua6), .inl (.inl htp6), size, fun _ => hf, fun z _ => absurd (by rw [u0]; rfl) z, fun z _ => absurd (by rw [u0]; rfl) z⟩
          · rw [cutd]
            have e7 := Evl.Ex.new (o := .tup ((xs.drop u.length).map V.int)) nt
            have nd : ((xs.drop u.length).map V.int) ≠ [] := fun z => by
              have := congrArg List.length z
              rw [List.length_map, List.length_drop] at this
              simp at this
              omega
            refine ⟨ua, t, _, _, rfl, rfl, .inl (.inl (e7 _ _ hua6)), .inl (.inl upd_same), ?_, fun z => ?_, fun _ z => absurd z nd, fun _ _ t2 nt2 => ?_⟩
            · refine Nat.le_trans ?_ size
              simp only [List.length_map, List.length_drop]
              omega
            · have u0 : u = [] := List.map_eq_nil_iff.mp z
              exact fin e7 (by rw [upd_same, u0]; rfl)
            · have e8 := Evl.Ex.new (o := .tup (u.map V.int ++ (xs.drop u.length).map V.int)) nt2
              exact fin (e7.trans e8) (by rw [upd_same, List.map_append])
      · rintro σ H4 ⟨u, st, y4, rfl, x4, hp4, hu4, hin4⟩
        exact ⟨u, rfl, q H4 u st x4 hp4 hu4 hin4⟩
end
end Wb

set_option Elab.async false
set_option linter.all false
set_option maxRecDepth 100000
set_option maxHeartbeats 4000000
set_option pp.maxSteps 600
set_option pp.deepTerms false
namespace Wb
open PySem PySem.Spec PyProof.Rows L2
abbrev sSteps : Stmt := topS 40
abbrev nSteps : List Str := ["_law_lock_here", "_law_stand_here", "_law_found", "_law_k", "_law_here", "_law_there", "_law_cost", "_law_ways_here"]
theorem scSteps : FnScope nSteps ["_law_lock_here", "_law_stand_here"] (defScope sSteps) := ⟨rfl, rfl, rfl, by decide +kernel, rfl, by decide +kernel, by decide +kernel⟩
def spSteps (K : PySem.W.Frag) : Sp := fun vs H Q _ => ∃ (v u : V) (l : Lock) (st : Word), vs = [v, u] ∧ LockAt K H v l ∧ LockOk l ∧ Wd K H u st ∧ InAll st (manysOf l) ∧
  ∀ H' r us, Evl.Ex H H' → H r = none → H' r = some (.lst us) → Paired (TrAt H') us (stepsL l st) → Q (.ref r) H'
theorem eqv_ints : ∀ u w : List Int, PyData.eqvAll (u.map .int) (w.map .int) = decide (u = w)
  | [], [] => by simp [PyData.eqvAll]
  | [], y :: w => by simp [PyData.eqvAll]
  | x :: u, [] => by simp [PyData.eqvAll]
  | x :: u, y :: w => by
    simp only [List.map_cons, PyData.eqvAll, PyData.eqv, eqv_ints u w]
    by_cases h : x = y
    · subst h; simp
    · simp [h]
theorem eqv_W (u w : Word) : PyData.eqv (dW u) (dW w) = decide (u = w) := by
  unfold dW
  simp only [PyData.eqv, eqv_ints]
theorem any_W (ws : List Word) (w : Word) : ((ws.map dW).any fun z => PyData.eqv z (dW w)) = decide (w ∈ ws) := by
  rw [List.any_map, Bool.eq_iff_iff]
  simp only [List.any_eq_true, Function.comp, eqv_W, decide_eq_true_eq]
  constructor
  · rintro ⟨x, hx, rfl⟩
    exact hx
  · intro h
    exact ⟨w, h, rfl⟩
theorem moves_snoc {gs : List Gap} {j : Nat} {g : Gap} (h : gs[j]? = some g) (w : Word) : movesL (gs.take (j + 1)) w = movesL (gs.take j) w ++ (if w ∈ g.ways then [trOf g] else []) := by
  unfold movesL
  rw [take_succ_get h, List.filter_append, List.map_append]
  congr 1
  by_cases hh : w ∈ g.ways
  · rw [if_pos hh, List.filter_cons, if_pos (decide_eq_true hh)]
    rfl
  · rw [if_neg hh, List.filter_cons, if_neg (by rw [decide_eq_false hh]; exact Bool.false_ne_true)]
    rfl
theorem pick_app (k : Nat) (p : Int) (xs ys : List Tr3) : pickAt k p (xs ++ ys) = pickAt k p xs ++ pickAt k p ys := by
  unfold pickAt
  rw [List.filter_append, List.map_append]
theorem TrAt.new {H H' : Hp} (e : Evl.Ex H H') {v : V} {t : Tr3} (h : TrAt H v t) : TrAt H' v t := by
  obtain ⟨a, r, q⟩ := h
  exact ⟨a, r, e _ _ q⟩
theorem TrAt.put {H : Hp} {l : Addr} {xs : List V} {o : HO} (h : H l = some (.lst xs)) {v : V} {t : Tr3} (q : TrAt H v t) : TrAt (upd H l o) v t := by
  obtain ⟨a, r, q⟩ := q
  exact ⟨a, r, by rw [upd_ne (ne_of q h (fun z => nomatch z))]; exact q⟩
section
variable {P : Program} {w : World} {K : PySem.W.Frag} {mg : Str → Option Value} {base : Heap}
theorem ok_lsteps {f : Addr} {fd : FuncData} (F : Fun K "_law_steps" "_law_steps" sSteps f fd) (B : Bi mg) : FnOk P w K mg base CX0 1 f fd ["_law_lock_here", "_law_stand_here"] (spSteps K) := by
  refine F.ok scSteps (fun vs H Q E h => ?_) (fun cdv A outer s H vs Q E hr h => ?_)
  · obtain ⟨v, u, l, st, rfl, _⟩ := h; rfl
  · obtain ⟨v, u, l, st, rfl, ⟨a, bs, rfl, ha, hbs⟩, ok, ⟨sa, rfl, hsa⟩, hin, q⟩ := h
    have hu65 : A.units + 3 + 65 < cLine := by
      have := hr.un
      have : (A.deeper (envOfC "_law_steps" (defScope sSteps) s.heap.objs.size f cdv)).units = A.units + 3 := rfl
      omega
    refine ⟨_, pss_cons (ps_set (i := 2) scSteps.nd rfl (.inl rfl) (pe_lst pa_nil))
      (pss_cons (ps_for PassesOwn.never rfl (pi_range1 (by rfl) B.range (pa_cons (pe_callB call_len_seq (by rfl) B.len PySem.boot_len (pa_cons (pv 0) pa_nil)) pa_nil)) (pg_name (i := 3) scSteps.nd rfl (.inl rfl))
        (pss_one (ps_for PassesOwn.never rfl (pi_tup (pe_ix (r := rIxT K) ix_tup (pe_ix (r := rIxT K) ix_tup (pv 0) (pv 3) (fun _ _ => rfl)) pe_int (fun _ _ => rfl)))
            (pg_tup rfl (pgs_cons (pg_name (i := 4) scSteps.nd rfl (.inl rfl)) (pgs_cons (pg_name (i := 5) scSteps.nd rfl (.inl rfl)) (pgs_cons (pg_name (i := 6) scSteps.nd rfl (.inl rfl)) (pgs_cons (pg_name (i := 7) scSteps.nd rfl (.inl rfl)) pgs_nil)))))
          (pss_one (ps_if (PW.pt (pw_and (pt_cmpR op_eq (pv 4) (pe_ix (r := rIxT K) ix_tup (pv 1) (pv 3) (fun _ _ => rfl)) (nomark _)) (pw_and1 (pt_cmpR (op_inTD hu65) (pe_slice (r := rSlA K) sl_tupA (pv 1) po_none (po_some (pv 3))) (pv 7) rfl))))
            (pss_one (ps_expr (pe_bm PySem.F.plainAttrs_list PySem.F.slot_list_append PySem.F.type_list_append mt_append (pv 2) (pa_cons (pe_tup (pa_cons (pv 3) (pa_cons (pv 5) (pa_cons (pv 6) pa_nil)))) pa_nil)))) pss_nil)))))
      (pss_one (ps_ret (pv 2)))), ?_⟩
    have bl : bs.length = l.length := Paired.len hbs
    have l60 := ok.n1
    have ml : (manysOf l).length = l.length := by unfold manysOf; rw [List.length_map]
    have stl : st.length = l.length := by rw [hin.1, ml]
    refine ⟨Nat.zero_le _, fun r0 nr0 => ?_⟩
    have e1 := Evl.Ex.new (o := .lst []) nr0
    refine ⟨.ref a, rfl, a, _, rfl, .inr (Evl.ex_t e1 ha), _, rfl, by omega, by omega, ?_⟩
    refine for_range (lo := 0) (n := ((bs.length : Nat) : Int).toNat) (fun k σ H' => ∃ (us : List V) (y3 y4 y5 y6 y7 : Option V), σ = [some (.ref a), some (.ref sa), some (.ref r0), y3, y4, y5, y6, y7] ∧ Evl.Ex H H' ∧ H' r0 = some (.lst us) ∧ Paired (TrAt H') us (stepsUpto l st k) ∧ us.length ≤ 16 * k)
      ⟨[], none, none, none, none, none, rfl, e1, upd_same, .nil, Nat.le_refl _⟩ ?_ ?_
    · rintro k σ H1 hk0 ⟨us, y3, y4, y5, y6, y7, rfl, e1, hr1, hus, ul⟩
      have hk : k < l.length := by omega
      have ek : (0 : Int) + (k : Nat) = ((k : Nat) : Int) := by omega
      rw [ek]
      obtain ⟨b, hb⟩ : ∃ b, l[k]? = some b := ⟨l[k], List.getElem?_eq_getElem hk⟩
      obtain ⟨x, hx, ⟨a1, c1, gs, rfl, h1, h2, h3⟩⟩ := Paired.get2 hbs hb
      obtain ⟨pl, hpl⟩ : ∃ pl, st[k]? = some pl := ⟨st[k], List.getElem?_eq_getElem (by omega)⟩
      have g16 := gaps_16 ok hb
      have gl : gs.length = b.gaps.length := Paired.len h3
      refine ⟨.ref a, rfl, .int (k : Nat), rfl, a, bs, (k : Nat), .ref a1, rfl, rfl, Evl.ex_t e1 ha, atI_nat hx, a1, _, 1, .ref c1, rfl, rfl, Evl.ex_t e1 h1, atI_nat (j := 1) rfl, c1, rfl, ⟨_, Evl.ex_t e1 h2⟩, ?_⟩
      refine for_tup (K := K) (a := c1) (xs := gs) (fun j σ H' => ∃ (us : List V) (y4 y5 y6 y7 : Option V), σ = [some (.ref a), some (.ref sa), some (.ref r0), some (.int (k : Nat)), y4, y5, y6, y7] ∧ Evl.Ex H H' ∧ H' r0 = some (.lst us) ∧ Paired (TrAt H') us (stepsUpto l st k ++ pickAt k pl (movesL (b.gaps.take j) (st.take k))) ∧ us.length ≤ 16 * k + j)
        ⟨us, _, _, _, _, rfl, e1, hr1, by simpa [movesL, pickAt] using hus, ul⟩ ?_ ?_ ?_
      · rintro j σ H2 _ ⟨_, _, _, _, _, _, e2, _⟩
        exact Evl.ex_t e2 h2
      · rintro j x σ H2 hx2 ⟨us, y4, y5, y6, y7, rfl, e2, hr2, hus, ul⟩
        obtain ⟨g, hg, ⟨a2, b2, ws, rfl, k1, k2, k3⟩⟩ := Paired.get1 h3 hx2
        have jl : j < b.gaps.length := (List.getElem?_eq_some_iff.mp hg).1
        refine ⟨a2, _, rfl, Evl.ex_t e2 k1, rfl, _, _, rfl, _, _, rfl, _, _, rfl, _, _, rfl, rfl, ?_⟩
        have hsa2 := e2 _ _ hsa
        have stay : ∀ {Hx : Hp}, Evl.Ex H2 Hx → (¬ (g.frm = pl ∧ st.take k ∈ g.ways)) → ∃ (us : List V) (y4 y5 y6 y7 : Option V), ([some (.ref a), some (.ref sa), some (.ref r0), some (.int (k : Nat)), some (.int g.frm), some (.int g.to_), some (.int g.price), some (.ref b2)] : L2.St) = [some (.ref a), some (.ref sa), some (.ref r0), some (.int (k : Nat)), y4, y5, y6, y7] ∧ Evl.Ex H Hx ∧ Hx r0 = some (.lst us) ∧ Paired (TrAt Hx) us (stepsUpto l st k ++ pickAt k pl (movesL (b.gaps.take (j + 1)) (st.take k))) ∧ us.length ≤ 16 * k + (j + 1) := by
          intro Hx ex hno
          refine ⟨us, _, _, _, _, rfl, e2.trans ex, ex _ _ hr2, ?_, by omega⟩
          rw [moves_snoc hg, pick_app]
          have z : pickAt k pl (if st.take k ∈ g.ways then [trOf g] else []) = [] := by
            by_cases hw : st.take k ∈ g.ways
            · rw [if_pos hw]
              have hf : ¬ g.frm = pl := fun z => hno ⟨z, hw⟩
              unfold pickAt
              rw [List.filter_cons, if_neg (by rw [decide_eq_false (show ¬ (trOf g).frm = pl from hf)]; exact Bool.false_ne_true)]
              rfl
            · rw [if_neg hw]
              rfl
          rw [z, List.append_nil]
          exact Paired.imp (fun _ _ => TrAt.new ex) hus
        refine ⟨.int g.frm, rfl, .ref sa, rfl, .int (k : Nat), rfl, sa, _, (k : Nat), .int pl, rfl, rfl, .inl (.inl hsa2), atI_nat (map_int_get hpl), rfl, _, rfl, ?_⟩
        refine ite2 (fun hc => ?_) (fun hc => ?_)
        · have hf : g.frm = pl := V.int.inj (of_decide_eq_true hc)
          refine ⟨.ref sa, rfl, .int (k : Nat), rfl, (k : Nat), rfl, sa, _, rfl, .inl (.inl hsa2), fun z => absurd (slice_whole z.2) (by rw [List.length_map]; omega), fun _ t nt => ?_⟩
          rw [cut_take, ← List.map_take]
          have e3 := Evl.Ex.new (o := .tup ((st.take k).map V.int)) nt
          have ht : (upd H2 t (.tup ((st.take k).map V.int))) t = some (.tup ((st.take k).map V.int)) := upd_same
          generalize upd H2 t (.tup ((st.take k).map V.int)) = H3 at e3 ht
          have fw : Fine (dW (st.take k)) 1 603 := by
            refine fine_W (B := 4) (n := 60) (fun x hx => ?_) (by decide) (by rw [List.length_take]; omega)
            obtain ⟨i, hi⟩ := List.mem_iff_getElem?.mp (List.mem_of_mem_take hx)
            have il : i < l.length := by
              have := (List.getElem?_eq_some_iff.mp hi).1
              omega
            have hm : (manysOf l)[i]? = some l[i].many := by
              unfold manysOf
              rw [List.getElem?_map, List.getElem?_eq_getElem il]
              rfl
            have z1 := hin.2 i x _ hi hm
            have z2 := manys_le ok (List.getElem?_eq_getElem il)
            omega
          have fws : Fine (dWs g.ways) 2 5000 := by
            have h1 : FineAll (g.ways.map dW) 1 ((g.ways.map dW).length * (603 + 2)) := FineAll.rep fun d hd => by
              obtain ⟨u, hu, rfl⟩ := List.mem_map.mp hd
              exact fine_way ok hb (List.mem_of_getElem? hg) hu
            have h2 := fine_tup h1
            have f8 := ((ok.bolts k b hb).gaps g (List.mem_of_getElem? hg)).few
            rw [List.length_map] at h2
            exact h2.mono (Nat.le_refl _) (by omega)
          refine ⟨.ref b2, rfl, dW (st.take k), g.ways.map dW, dp_W ⟨t, rfl, ht⟩, .tup (Evl.ex_t (e2.trans e3) k2) (dp_all (F := Wd K _) (f := dW) (fun _ _ => dp_W) (Paired.imp (fun _ _ => wd_ex (e2.trans e3)) k3)), fw.shaped (by decide), fws.shaped (by decide), _, rfl, ?_⟩
          rw [any_W]
          refine ite2 (fun hc2 => ?_) (fun hc2 => ?_)
          · have hw : st.take k ∈ g.ways := of_decide_eq_true hc2
            have hr3 := e3 _ _ hr2
            refine ⟨.ref r0, rfl, .inl ⟨rfl, _, SqL.of hr3⟩, .int (k : Nat), rfl, .int g.to_, rfl, .int g.price, rfl, (by show 3 ≤ sizeLine; decide), fun tp ntp => ?_⟩
            have e4 := Evl.Ex.new (o := .tup [.int (k : Nat), .int g.to_, .int g.price]) ntp
            have hr4 := e4 _ _ hr3
            refine ⟨r0, us, _, rfl, rfl, hr4, Nat.lt_of_le_of_lt (by omega : us.length ≤ 16 * 60 + 16) (by decide), us ++ [.ref tp], _, _, _, _, rfl, (e2.trans (e3.trans e4)).mut nr0, upd_same, ?_, by rw [List.length_append]; simp; omega⟩
            rw [moves_snoc hg, pick_app, if_pos hw, ← List.append_assoc]
            have z : pickAt k pl [trOf g] = [⟨(k : Int), g.to_, g.price⟩] := by
              unfold pickAt
              rw [List.filter_cons, if_pos (decide_eq_true (show (trOf g).frm = pl from hf))]
              rfl
            rw [z]
            exact Paired.imp (fun _ _ => TrAt.put hr4) (paired_app1 (Paired.imp (fun _ _ => TrAt.new (e3.trans e4)) hus) ⟨tp, rfl, upd_same⟩)
          · exact stay e3 fun z => hc2 (decide_eq_true z.2)
        · exact stay (Evl.Ex.refl _) fun z => hc (decide_eq_true (by rw [z.1]))
      · rintro σ H2 ⟨us, y4, y5, y6, y7, rfl, e2, hr2, hus, ul⟩
        refine ⟨us, _, _, _, _, _, rfl, e2, hr2, ?_, by omega⟩
        rw [gl, List.take_length] at hus
        rw [stepsUpto_succ]
        have z : stepsOf l st k = pickAt k pl (movesL b.gaps (st.take k)) := by
          unfold stepsOf
          rw [hb, hpl]
        rw [z]
        exact hus
    · rintro σ H1 ⟨us, y3, y4, y5, y6, y7, rfl, e1, hr1, hus, ul⟩
      rw [Int.toNat_natCast, bl] at hus
      exact ⟨.ref r0, rfl, q H1 r0 us e1 nr0 hr1 hus⟩
end
end Wb

set_option Elab.async false
set_option linter.all false
set_option maxRecDepth 100000
set_option maxHeartbeats 4000000
set_option pp.maxSteps 600
set_option pp.deepTerms false
namespace Wb
open PySem PySem.Spec PyProof.Rows L2
theorem of_mem {l : Lock} {st : Word} {n : Nat} {t : Tr3} (h : t ∈ stepsOf l st n) : t.frm = (n : Int) ∧ ∃ b g, l[n]? = some b ∧ g ∈ b.gaps ∧ t.to_ = g.to_ ∧ t.price = g.price := by
  unfold stepsOf at h
  split at h
  · rename_i b p hb hp
    unfold pickAt movesL at h
    obtain ⟨t1, h1, rfl⟩ := List.mem_map.mp h
    obtain ⟨g, hg, e⟩ := List.mem_map.mp (List.mem_filter.mp h1).1
    subst e
    exact ⟨rfl, b, g, hb, (List.mem_filter.mp hg).1, rfl, rfl⟩
  · cases h
theorem of_below {l : Lock} {st : Word} {n k : Nat} : (stepsOf l st n).filter (fun t => decide (t.frm < (k : Int))) = if n < k then stepsOf l st n else [] := by
  by_cases h : n < k
  · rw [if_pos h, List.filter_eq_self]
    intro t ht
    have := (of_mem ht).1
    exact decide_eq_true (by omega)
  · rw [if_neg h, List.filter_eq_nil_iff]
    intro t ht z
    have := (of_mem ht).1
    have := of_decide_eq_true z
    omega
theorem upto_below {l : Lock} {st : Word} {k : Nat} : ∀ n, (stepsUpto l st n).filter (fun t => decide (t.frm < (k : Int))) = stepsUpto l st (min n k)
  | 0 => by rw [Nat.zero_min]; rfl
  | n + 1 => by
    rw [stepsUpto_succ, List.filter_append, upto_below n, of_below]
    by_cases h : n < k
    · rw [if_pos h, show min (n + 1) k = n + 1 by omega, show min n k = n by omega, stepsUpto_succ]
    · rw [if_neg h, List.append_nil, show min (n + 1) k = min n k by omega]
theorem of_agree {l : Lock} {st st' : Word} {k n : Nat} (h : st.take k = st'.take k) (hn : n < k) : stepsOf l st n = stepsOf l st' n := by
  have h1 : st[n]? = st'[n]? := by
    have a := List.getElem?_take (l := st) (i := k) (j := n)
    have b := List.getElem?_take (l := st') (i := k) (j := n)
    rw [if_pos hn] at a b
    rw [← a, ← b, h]
  have h2 : st.take n = st'.take n := by
    have a : (st.take k).take n = st.take n := by rw [List.take_take, Nat.min_eq_left (by omega)]
    have b : (st'.take k).take n = st'.take n := by rw [List.take_take, Nat.min_eq_left (by omega)]
    rw [← a, ← b, h]
  unfold stepsOf
  rw [h1, h2]
theorem upto_agree {l : Lock} {st st' : Word} {k : Nat} (h : st.take k = st'.take k) : ∀ n, n ≤ k → stepsUpto l st n = stepsUpto l st' n
  | 0, _ => rfl
  | n + 1, hn => by rw [stepsUpto_succ, stepsUpto_succ, upto_agree h n (by omega), of_agree h (by omega)]
theorem below_agree {l : Lock} {st st' : Word} {k : Nat} (h : st.take k = st'.take k) : (stepsL l st).filter (fun t => decide (t.frm < (k : Int))) = (stepsL l st').filter (fun t => decide (t.frm < (k : Int))) := by
  unfold stepsL
  rw [upto_below, upto_below]
  exact upto_agree h _ (by omega)
theorem upto_len {l : Lock} (ok : LockOk l) (st : Word) : ∀ n, n ≤ l.length → (stepsUpto l st n).length ≤ 8 * n
  | 0, _ => Nat.le_refl _
  | n + 1, hn => by
    have ih := upto_len ok st n (by omega)
    rw [stepsUpto_succ, List.length_append]
    have h : (stepsOf l st n).length ≤ 8 := by
      unfold stepsOf
      split
      · rename_i b p hb hp
        unfold pickAt
        rw [List.length_map]
        have h1 := movesL_len b.gaps (st.take n)
        have h2 := (ok.bolts n b hb).few
        have h3 := List.length_filter_le (fun t : Tr3 => decide (t.frm = p)) (movesL b.gaps (st.take n))
        omega
      · exact Nat.zero_le _
    omega
theorem steps_len {l : Lock} (ok : LockOk l) (st : Word) : (stepsL l st).length ≤ 480 := by
  have h := upto_len ok st l.length (Nat.le_refl _)
  have := ok.n1
  unfold stepsL
  omega
theorem steps_ok {l : Lock} (ok : LockOk l) {st : Word} {t : Tr3} (h : t ∈ stepsL l st) : TrOk t := by
  obtain ⟨n, hn, h⟩ := List.mem_flatMap.mp h
  obtain ⟨h1, b, g, hb, hg, h2, h3⟩ := of_mem h
  have nl : n < l.length := (List.getElem?_eq_some_iff.mp hb).1
  have := ok.n1
  have BO := ok.bolts n b hb
  have m1 := BO.m1
  have G := BO.gaps g hg
  have t0 := G.t0
  have t1 := G.t1
  have p0 := G.p0
  have p1 := G.p1
  exact ⟨by omega, by omega, by omega, by omega, by omega, by omega⟩
section
variable {K : PySem.W.Frag}
/-- [one for one in a list of steps if one[0] < at] -/
theorem lc_below {σ : L2.St} {H : Hp} {Q : VK} {tl : TE} {ts : List Tr3} {k : Nat} {vs : List Nat}
    (ha : ∀ Q' : VK, (∀ r us H1, Evl.Ex H H1 → H1 r = some (.lst us) → Paired (TrAt H1) us ts → Q' (.ref r) H1) → tl σ H Q')
    (h12 : ∀ x, ((wipe σ vs).set 14 (some x))[12]? = some (some (.int (k : Nat)))) (h14 : ∀ x, ((wipe σ vs).set 14 (some x))[14]? = some (some x)) (hwp : ∀ x, wipe ((wipe σ vs).set 14 (some x)) vs = wipe σ vs) (ht : ts.length ≤ 1000)
    (q : ∀ H' D us, Evl.Ex H H' → H' D = some (.lst us) → Paired (TrAt H') us (ts.filter fun t => decide (t.frm < (k : Int))) → Q (.ref D) H') :
    tLc (iList K tl) (gName 14) (tTest (tOp (rI0 fun i j => .bl (decide (i < j))) (tOp (rIxT K) (tVar 14) (tC (V.int 0))) (tVar 12))) (tVar 14) vs σ H Q := by
  refine ha _ fun r us H1 e1 hr hus => ⟨r, rfl, ⟨_, SqL.of hr⟩, fun D hD => ?_⟩
  have ul : us.length = ts.length := Paired.len hus
  refine lc_list (K := K) (a := r) (xs := us) (fun m H' => ∃ ws : List V, Evl.Ex H1 H' ∧ H' D = some (.lst ws) ∧ Paired (TrAt H') ws ((ts.take m).filter fun t => decide (t.frm < (k : Int))) ∧ ws.length ≤ m) ⟨[], Evl.Ex.new hD, upd_same, .nil, Nat.le_refl _⟩ ?_ ?_ ?_
  · rintro m H' _ ⟨_, e, _⟩
    exact SqL.of (e _ _ hr)
  · rintro m x H2 hm ⟨ws, e2, hD2, hws, wl⟩
    obtain ⟨t, ht', ⟨a, rfl, hat⟩⟩ := Paired.get1 hus hm
    have ml : m < ts.length := (List.getElem?_eq_some_iff.mp ht').1
    have hat2 := e2 _ _ hat
    refine ⟨hwp _, ?_⟩
    refine ⟨.ref a, h14 _, a, _, 0, .int t.frm, rfl, rfl, .inl (.inl hat2), atI_nat (j := 0) rfl, .int (k : Nat), h12 _, t.frm, (k : Nat), rfl, rfl, _, rfl, ?_⟩
    refine ite2 (fun hc => ?_) (fun hc => ?_)
    · refine ⟨.ref a, h14 _, ws, hD2, Nat.lt_of_le_of_lt (by omega : ws.length ≤ 1000) (by decide), ws ++ [.ref a], e2.mut hD, upd_same, ?_, by rw [List.length_append]; simp; omega⟩
      rw [take_succ_get ht', List.filter_append, List.filter_cons, if_pos hc]
      exact Paired.imp (fun _ _ => TrAt.put hD2) (paired_app1 hws ⟨a, rfl, hat2⟩)
    · refine ⟨ws, e2, hD2, ?_, by omega⟩
      rw [take_succ_get ht', List.filter_append, List.filter_cons, if_neg hc]
      simpa using hws
  · rintro H2 ⟨ws, e2, hD2, hws, wl⟩
    rw [ul, List.take_length] at hws
    exact q H2 D ws (e1.trans e2) hD2 hws
end
end Wb

set_option Elab.async false
set_option linter.all false
set_option maxRecDepth 100000
set_option maxHeartbeats 4000000
set_option pp.maxSteps 600
set_option pp.deepTerms false
namespace Wb
open PySem PySem.Spec PyProof.Rows L2
/-! ### things of whatever kind, as they are drawn: data, {} and {0: 1}, tuples of scalars with one such dict -/
def one0 : List (Key × V) := [(.inl 0, .int 1)]
/-- a scalar or such a dict -/
inductive Mx (H : Hp) : V → PyData → Prop where
  | non : Mx H .non .none
  | bl (b : Bool) : Mx H (.bl b) (.bool b)
  | int (i : Int) : Mx H (.int i) (.int i)
  | str (x : Str) : Mx H (.str x) (.str x)
  | d0 {a : Addr} : H a = some (.dK []) → Mx H (.ref a) (.dict [])
  | d1 {a : Addr} : H a = some (.dK one0) → Mx H (.ref a) (.dict [(.int 0, .int 1)])
inductive Th (K : PySem.W.Frag) (H : Hp) : V → PyData → Prop where
  | dp {v : V} {d : PyData} : Dp K H v d → Th K H v d
  | mx {v : V} {d : PyData} : Mx H v d → Th K H v d
  | tup {a : Addr} {xs : List V} {ds : List PyData} : SqT K H a xs → Paired (Mx H) xs ds → Th K H (.ref a) (.tuple ds)
/-- what such things lean on stays -/
structure TK (K : PySem.W.Frag) (H H' : Hp) : Prop where
  t : ∀ a xs, SqT K H a xs → SqT K H' a xs
  l : ∀ a xs, SqL K H a xs → SqL K H' a xs
  d0 : ∀ a, H a = some (.dK []) → H' a = some (.dK [])
  d1 : ∀ a, H a = some (.dK one0) → H' a = some (.dK one0)
section
variable {K : PySem.W.Frag} {H H' : Hp} {p c : Addr} {T : Int}
theorem TK.ex (e : Evl.Ex H H') : TK K H H' := ⟨fun _ _ h => Evl.ex_t e h, fun _ _ h => Evl.ex_l e h, fun _ h => e _ _ h, fun _ h => e _ _ h⟩
theorem TK.refl (K : PySem.W.Frag) (H : Hp) : TK K H H := TK.ex (Evl.Ex.refl H)
theorem TK.trans {H1 : Hp} (a : TK K H H1) (b : TK K H1 H') : TK K H H' := ⟨fun x o h => b.t x o (a.t x o h), fun x o h => b.l x o (a.l x o h), fun x h => b.d0 x (a.d0 x h), fun x h => b.d1 x (a.d1 x h)⟩
theorem PenAt.tk (h : PenAt H p c T) (e : Exx p H H') : TK K H H' := by
  obtain ⟨cells, t, d, hp, hc, _⟩ := h
  have tx : TX K H H' := e.tx (fun xs z => by
    rcases z with z | ⟨o, z⟩
    · rw [hp] at z; cases z
    · rw [hp] at z; cases z)
  refine ⟨tx.1, fun a xs z => ?_, fun a z => e a _ (fun y => ?_) z, fun a z => e a _ (fun y => ?_) z⟩
  · rcases z with (z | ⟨o, z⟩) | z
    · exact .inl (.inl (e a _ (fun y => by rw [y, hp] at z; cases z) z))
    · exact .inl (.inr ⟨o, e a _ (fun y => by rw [y, hp] at z; cases z) z⟩)
    · exact .inr z
  · rw [y, hp] at z
    cases z
  · rw [y, hp] at z
    cases z
mutual
theorem Dp.keep (e : TK K H H') : ∀ {v : V} {d : PyData}, Dp K H v d → Dp K H' v d
  | _, _, .non => .non
  | _, _, .bl b => .bl b
  | _, _, .int i => .int i
  | _, _, .str x => .str x
  | _, _, .lst h a => .lst (e.l _ _ h) (DpAll.keep e a)
  | _, _, .tup h a => .tup (e.t _ _ h) (DpAll.keep e a)
theorem DpAll.keep (e : TK K H H') : ∀ {vs : List V} {ds : List PyData}, DpAll K H vs ds → DpAll K H' vs ds
  | _, _, .nil => .nil
  | _, _, .cons h a => .cons (Dp.keep e h) (DpAll.keep e a)
end
theorem Mx.keep (e : TK K H H') {v : V} {d : PyData} (h : Mx H v d) : Mx H' v d := by
  cases h with
  | non => exact .non
  | bl b => exact .bl b
  | int i => exact .int i
  | str x => exact .str x
  | d0 h => exact .d0 (e.d0 _ h)
  | d1 h => exact .d1 (e.d1 _ h)
theorem Th.keep (e : TK K H H') {v : V} {d : PyData} (h : Th K H v d) : Th K H' v d := by
  cases h with
  | dp h => exact .dp (Dp.keep e h)
  | mx h => exact .mx (h.keep e)
  | tup h a => exact .tup (e.t _ _ h) (Paired.imp (fun _ _ => Mx.keep e) a)
mutual
theorem Dp.noDict : ∀ {v : V} {d : PyData}, Dp K H v d → d.hasDict = false
  | _, _, .non => by simp only [PyData.hasDict]
  | _, _, .bl b => by simp only [PyData.hasDict]
  | _, _, .int i => by simp only [PyData.hasDict]
  | _, _, .str x => by simp only [PyData.hasDict]
  | _, _, .lst _ a => by
    simp only [PyData.hasDict]
    exact DpAll.noDict a
  | _, _, .tup _ a => by
    simp only [PyData.hasDict]
    exact DpAll.noDict a
theorem DpAll.noDict : ∀ {vs : List V} {ds : List PyData}, DpAll K H vs ds → PyData.hasDictAll ds = false
  | _, _, .nil => by simp only [PyData.hasDictAll]
  | _, _, .cons h a => by simp only [PyData.hasDictAll, Dp.noDict h, DpAll.noDict a, Bool.or_self]
end
def tyS : PyData → String
  | .none => "NoneType"
  | .bool _ => "bool"
  | .int _ => "int"
  | .str _ => "str"
  | .list _ => "list"
  | .tuple _ => "tuple"
  | .dict _ => "dict"
theorem tyx_lst {a : Addr} {xs : List V} (h : SqL K H a xs) : TyX K H (.ref a) (.type "list") := by
  rcases h with (h | ⟨o, h⟩) | ⟨o, its, n, h, c, _⟩
  · exact .base (.lst h)
  · exact .base (.frz h)
  · exact .kList h c
theorem Th.ty {v : V} {d : PyData} (h : Th K H v d) : TyX K H v (.type (tyS d)) := by
  cases h with
  | dp h =>
    cases h with
    | non => exact .base .non
    | bl b => exact .base (.bl b)
    | int i => exact .base (.int i)
    | str x => exact .base (.str x)
    | lst h _ => exact tyx_lst h
    | tup h _ => exact tyx_tup h
  | mx h =>
    cases h with
    | non => exact .base .non
    | bl b => exact .base (.bl b)
    | int i => exact .base (.int i)
    | str x => exact .base (.str x)
    | d0 h => exact .base (.dK h)
    | d1 h => exact .base (.dK h)
  | tup h _ => exact tyx_tup h
def isInt : PyData → Bool
  | .int _ => true
  | .bool _ => true
  | _ => false
def isBool : PyData → Bool
  | .bool _ => true
  | _ => false
def isTup : PyData → Bool
  | .tuple _ => true
  | _ => false
def isLst : PyData → Bool
  | .list _ => true
  | _ => false
def isStr : PyData → Bool
  | .str _ => true
  | _ => false
theorem kit_int (d : PyData) : kitB (tyS d) "int" = some (isInt d) := by cases d <;> (simp only [tyS, isInt]; decide +kernel)
theorem kit_bool (d : PyData) : kitB (tyS d) "bool" = some (isBool d) := by cases d <;> (simp only [tyS, isBool]; decide +kernel)
theorem kit_tup (d : PyData) : kitB (tyS d) "tuple" = some (isTup d) := by cases d <;> (simp only [tyS, isTup]; decide +kernel)
theorem kit_lst (d : PyData) : kitB (tyS d) "list" = some (isLst d) := by cases d <;> (simp only [tyS, isLst]; decide +kernel)
theorem kit_str (d : PyData) : kitB (tyS d) "str" = some (isStr d) := by cases d <;> (simp only [tyS, isStr]; decide +kernel)
end
section
variable {X : Cx} {pins : List (Addr × Obj)} {σ : L2.St} {H : Hp} {s : Shared}
theorem Mx.reads (I : Inv X pins σ H s) {v : V} {d : PyData} {u : Value} (h : Mx H v d) (r : RelV v u) : ∃ as, Reads s.heap u d as ∧ sysModules ∉ as := by
  cases h with
  | non => cases r; exact ⟨_, .none, List.not_mem_nil⟩
  | bl b => cases r; exact ⟨_, .bool b, List.not_mem_nil⟩
  | int i => obtain ⟨t, rfl⟩ := r; exact ⟨_, .int i t, List.not_mem_nil⟩
  | str x => obtain ⟨t, rfl⟩ := r; exact ⟨_, .str x t, List.not_mem_nil⟩
  | @d0 a h =>
    cases r
    obtain ⟨_, hs, vs, kv, o, es, ep, ho, ex, hd, _, pr, _⟩ := dk_of I.hok h
    cases kv
    generalize hes : es.toList = L at pr
    cases pr
    refine ⟨_, .dict (as := []) (bs := []) (kvs := []) ho ex.1 hd (by rw [hes]; exact .nil) (by rw [hes]; exact .nil), ?_⟩
    simp
    intro z
    rw [z] at hs
    simp at hs
  | @d1 a h =>
    cases r
    obtain ⟨_, hs, vs, kv, o, es, ep, ho, ex, hd, _, pr, _⟩ := dk_of I.hok h
    cases kv with
    | @cons _ q _ _ k1 k2 =>
      cases k2
      obtain ⟨qk, qv⟩ := q
      obtain ⟨e1, t1, e2⟩ := k1
      have e1' : qk = .inl 0 := e1.symm
      have e2' : qv = .int 1 t1 := e2
      subst e1' e2'
      generalize hes : es.toList = L at pr
      cases pr with
      | @cons e _ es' _ hk hv hr =>
        cases hr
        obtain ⟨t0, ek⟩ := Value.isInt_shape (k := 0) (v := e.key) hk
        have ev : e.val = .int 1 t1 := hv
        refine ⟨_, .dict (as := []) (bs := []) (kvs := [(.int 0, .int 1)]) ho ex.1 hd (by rw [hes]; show ReadsAll _ [e.key] [.int 0] _; rw [ek]; exact .cons (.int 0 t0) .nil) (by rw [hes]; show ReadsAll _ [e.val] [.int 1] _; rw [ev]; exact .cons (.int 1 t1) .nil), ?_⟩
        simp
        intro z
        rw [z] at hs
        simp at hs
theorem Mx.readsAll (I : Inv X pins σ H s) : ∀ {vs : List V} {ds : List PyData} {us : List Value}, Paired (Mx H) vs ds → Vals vs us → ∃ as, ReadsAll s.heap us ds as ∧ sysModules ∉ as
  | _, _, _, .nil, r => by
    cases r
    exact ⟨_, .nil, List.not_mem_nil⟩
  | _, _, _, .cons h t, r => by
    cases r with
    | cons r1 r2 =>
      obtain ⟨as, h1, n1⟩ := Mx.reads I h r1
      obtain ⟨bs, h2, n2⟩ := Mx.readsAll I t r2
      exact ⟨_, .cons h1 h2, fun z => (List.mem_append.mp z).elim n1 n2⟩
theorem Th.reads (I : Inv X pins σ H s) {v : V} {d : PyData} {u : Value} (h : Th X.K H v d) (r : RelV v u) : ∃ as, Reads s.heap u d as ∧ (d.hasDict = true → sysModules ∉ as) := by
  cases h with
  | dp h =>
    obtain ⟨as, q⟩ := Dp.reads I d v u h r
    exact ⟨as, q, fun z => by rw [Dp.noDict h] at z; cases z⟩
  | mx h =>
    obtain ⟨as, q, n⟩ := Mx.reads I h r
    exact ⟨as, q, fun _ => n⟩
  | @tup a xs ds h hm =>
    cases r
    obtain ⟨its, rv, ⟨o, e, c, n, hd⟩, hz⟩ := I.tuple h
    obtain ⟨as, q, nn⟩ := Mx.readsAll I hm rv
    exact ⟨as, .tuple e c hd (by simpa using q), fun _ => nn⟩
/-- repr of such a thing -/
def rReprT (K : PySem.W.Frag) : List V → Hp → VK → Prop := fun xs H Q => ∃ (v : V) (d : PyData), xs = [v] ∧ Th K H v d ∧ d.showable = true ∧ d.depth ≤ 20 ∧ d.shown.length ≤ sizeLine ∧ Q (.str d.shown) H
theorem call_repr_thing (hu : X.A.units + 64 < cLine) (hg : X.A.guards = some []) : CallR X (.builtin "repr") (rReprT X.K) := by
  intro pins s σ H xs us Q I r h
  obtain ⟨v, d, rfl, hd, h1, h3, h4, q⟩ := h
  cases r with
  | cons r1 r2 =>
    cases r2
    obtain ⟨as, rd, hs⟩ := Th.reads I hd r1
    have fin : ∀ (tk : Nat) (u : Tok), EP X pins σ Q (.str d.shown u) { s with toks := tk } := fun tk u => ⟨.str d.shown, H, I.kept (t' := tk) (fun _ _ e => e), ⟨u, rfl⟩, q⟩
    cases rd with
    | none => exact P.repr_of_none (fin _ _)
    | bool b => exact P.repr_of_bool (by have := fin (s.toks + 1) s.toks; cases b <;> simpa [PyData.shown] using this)
    | int i t => exact P.repr_of_int (by simpa [PyData.showable] using h1) (fin _ _)
    | str x t => exact P.repr_of_str (fin _ _) (by simpa [PyData.shown] using h4)
    | list e1 e2 e3 e4 =>
      refine repr_of_reads' (.list e1 e2 e3 e4) h1 hs hg (by omega) (fun _ _ e => e) (fun h' u tk hk => ?_) h4
      exact ⟨.str _, H, I.kept (t' := tk) hk, ⟨u, rfl⟩, q⟩
    | tuple e1 e2 e3 e4 =>
      refine repr_of_reads' (.tuple e1 e2 e3 e4) h1 hs hg (by omega) (fun _ _ e => e) (fun h' u tk hk => ?_) h4
      exact ⟨.str _, H, I.kept (t' := tk) hk, ⟨u, rfl⟩, q⟩
    | dict e1 e2 e3 e4 e5 =>
      refine repr_of_reads' (.dict e1 e2 e3 e4 e5) h1 hs hg (by omega) (fun _ _ e => e) (fun h' u tk hk => ?_) h4
      exact ⟨.str _, H, I.kept (t' := tk) hk, ⟨u, rfl⟩, q⟩
end
end Wb

set_option Elab.async false
set_option linter.all false
set_option maxRecDepth 100000
set_option maxHeartbeats 4000000
set_option pp.maxSteps 600
set_option pp.deepTerms false
namespace Wb
open PySem PySem.Spec PyProof.Rows L2
def itemsD : PyData → List PyData
  | .tuple ds => ds
  | _ => []
section
variable {K : PySem.W.Frag} {H : Hp}
theorem paired_dp : ∀ {vs : List V} {ds : List PyData}, DpAll K H vs ds → Paired (Dp K H) vs ds
  | _, _, .nil => .nil
  | _, _, .cons h t => .cons h (paired_dp t)
theorem dp_paired : ∀ {vs : List V} {ds : List PyData}, Paired (Dp K H) vs ds → DpAll K H vs ds
  | _, _, .nil => .nil
  | _, _, .cons h t => .cons h (dp_paired t)
/-- a tuple's items: all data, or all scalars and such dicts -/
def ItemsAt (K : PySem.W.Frag) (H : Hp) (xs : List V) (ds : List PyData) : Prop := Paired (Dp K H) xs ds ∨ Paired (Mx H) xs ds
theorem ItemsAt.len {xs : List V} {ds : List PyData} (h : ItemsAt K H xs ds) : xs.length = ds.length := h.elim Paired.len Paired.len
theorem ItemsAt.get {xs : List V} {ds : List PyData} (h : ItemsAt K H xs ds) {i : Nat} {x : V} (e : xs[i]? = some x) : ∃ d, ds[i]? = some d ∧ Th K H x d := by
  rcases h with h | h
  · obtain ⟨d, h1, h2⟩ := Paired.get1 h e
    exact ⟨d, h1, .dp h2⟩
  · obtain ⟨d, h1, h2⟩ := Paired.get1 h e
    exact ⟨d, h1, .mx h2⟩
theorem Th.items {v : V} {ds : List PyData} (h : Th K H v (.tuple ds)) : ∃ a xs, v = .ref a ∧ SqT K H a xs ∧ ItemsAt K H xs ds := by
  cases h with
  | dp h =>
    cases h with
    | tup h a => exact ⟨_, _, rfl, h, .inl (paired_dp a)⟩
  | mx h => cases h
  | tup h a => exact ⟨_, _, rfl, h, .inr a⟩
theorem Th.tupI {a : Addr} {xs : List V} {ds : List PyData} (h : SqT K H a xs) (hi : ItemsAt K H xs ds) : Th K H (.ref a) (.tuple ds) := by
  rcases hi with hi | hi
  · exact .dp (.tup h (dp_paired hi))
  · exact .tup h hi
theorem tup_of {d : PyData} (h : isTup d = true) : ∃ ds, d = .tuple ds := by
  cases d <;> first
    | exact ⟨_, rfl⟩
    | cases h
/-- the value of a thing is no int or bool that its data isn't -/
theorem Th.int_of {v : V} {d : PyData} (h : Th K H v d) (hi : isInt d = true) (hb : isBool d = false) : ∃ i, d = .int i ∧ v = .int i := by
  cases d <;> first
    | (cases hi; done)
    | (cases hb; done)
    | skip
  rename_i i
  refine ⟨i, rfl, ?_⟩
  cases h with
  | dp h => cases h; rfl
  | mx h => cases h; rfl
theorem Th.non_iff {v : V} {d : PyData} (h : Th K H v d) : decide (v = .non) = (match d with | .none => true | _ => false) := by
  cases h with
  | dp h => cases h <;> simp
  | mx h => cases h <;> simp
  | tup h _ => simp
end
def spTupG (K : PySem.W.Frag) : Sp := fun vs H Q _ => ∃ (v : V) (d : PyData) (l h : Int), vs = [v, .int l, .int h] ∧ Th K H v d ∧ Q (.bl (isTup d && (decide (l ≤ ((itemsD d).length : Int)) && decide (((itemsD d).length : Int) ≤ h)))) H
section
variable {P : Program} {w : World} {K : PySem.W.Frag} {mg : Str → Option Value} {base : Heap}
theorem ok_tupG {f : Addr} {fd : FuncData} (F : Fun K "is_tuple_of" "is_tuple_of" sTupOf f fd) (B : Bi mg) : FnOk P w K mg base CX0 1 f fd ["thing", "low", "high"] (spTupG K) := by
  refine F.ok scTupOf (fun vs H Q E h => ?_) (fun cdv A outer s H vs Q E hr h => ?_)
  · obtain ⟨v, d, l, m, rfl, _⟩ := h; rfl
  · obtain ⟨v, d, l, m, rfl, hv, q⟩ := h
    refine ⟨_, pss_one (ps_ret (pe_and (pe_callB call_isi (by rfl) B.isi boot_isinstance (pa_cons (pv 0) (pa_cons (pe_bltn (v := .ty "tuple") (by rfl) B.tuple (by decide +kernel) rfl) pa_nil)))
      (pe_one (pe_chain op_le op_le (pv 1) (pe_callB call_len_seq (by rfl) B.len PySem.boot_len (pa_cons (pv 0) pa_nil)) (pv 2))))), ?_⟩
    refine ⟨v, rfl, v, .ty "tuple", .type (tyS d), .type "tuple", isTup d, rfl, .ty _, hv.ty, kit_ty (kit_tup d), isTup d, rfl, ?_⟩
    cases ht : isTup d with
    | false =>
      rw [ht] at q
      rw [if_neg Bool.false_ne_true]
      exact q
    | true =>
      rw [ht] at q
      rw [if_pos rfl]
      obtain ⟨ds, rfl⟩ := tup_of ht
      obtain ⟨a, xs, rfl, hx, hi⟩ := hv.items
      have e : ((itemsD (.tuple ds)).length : Int) = xs.length := by rw [hi.len]; rfl
      rw [e] at q
      refine ⟨.int l, rfl, .ref a, rfl, a, xs, rfl, .inr hx, l, xs.length, rfl, rfl, decide (l ≤ (xs.length : Int)), rfl, ?_⟩
      by_cases h1 : l ≤ (xs.length : Int)
      · rw [if_pos (decide_eq_true h1)]
        refine ⟨.int m, rfl, xs.length, m, rfl, rfl, ?_⟩
        rw [decide_eq_true h1] at q
        exact q
      · rw [if_neg (by rw [decide_eq_false h1]; exact Bool.false_ne_true)]
        rw [decide_eq_false h1] at q
        exact q
end
def wholeB : PyData → Int → Int → Bool
  | .int i, l, m => decide (l ≤ i) && decide (i ≤ m)
  | _, _, _ => false
def plainInt : PyData → Bool
  | .int _ => true
  | _ => false
theorem plain_eq (d : PyData) : (isInt d && !isBool d) = plainInt d := by cases d <;> rfl
def spWholeG (K : PySem.W.Frag) : Sp := fun vs H Q _ => ∃ (v : V) (d : PyData), vs = [v] ∧ Th K H v d ∧ Q (.bl (plainInt d)) H
def spWholeInG (K : PySem.W.Frag) : Sp := fun vs H Q _ => ∃ (v : V) (d : PyData) (l m : Int), vs = [v, .int l, .int m] ∧ Th K H v d ∧ Q (.bl (wholeB d l m)) H
section
variable {P : Program} {w : World} {K : PySem.W.Frag} {mg : Str → Option Value} {base : Heap}
theorem ok_wholeG {f : Addr} {fd : FuncData} (F : Fun K "is_whole" "is_whole" sWhole f fd) (B : Bi mg) : FnOk P w K mg base CX0 1 f fd ["thing"] (spWholeG K) := by
  refine F.ok scWhole (fun vs H Q E h => ?_) (fun cdv A outer s H vs Q E hr h => ?_)
  · obtain ⟨v, d, rfl, _⟩ := h; rfl
  · obtain ⟨v, d, rfl, hv, q⟩ := h
    refine ⟨_, pss_one (ps_ret (pe_and (pe_callB call_isi (by rfl) B.isi boot_isinstance (pa_cons (pv 0) (pa_cons (pe_bltn (v := .ty "int") (by rfl) B.int (by decide +kernel) rfl) pa_nil)))
      (pe_one (pe_not (pe_callB call_isi (by rfl) B.isi boot_isinstance (pa_cons (pv 0) (pa_cons (pe_bltn (v := .ty "bool") (by rfl) B.bool (by decide +kernel) rfl) pa_nil))))))), ?_⟩
    refine ⟨v, rfl, v, .ty "int", .type (tyS d), .type "int", isInt d, rfl, .ty _, hv.ty, kit_ty (kit_int d), isInt d, rfl, ?_⟩
    rw [← plain_eq] at q
    cases hi : isInt d with
    | false =>
      rw [hi] at q
      rw [if_neg Bool.false_ne_true]
      exact q
    | true =>
      rw [hi] at q
      rw [if_pos rfl]
      exact ⟨v, rfl, v, .ty "bool", .type (tyS d), .type "bool", isBool d, rfl, .ty _, hv.ty, kit_ty (kit_bool d), isBool d, rfl, q⟩
theorem plain_of {v : V} {d : PyData} {H : Hp} (h : Th K H v d) (hp : plainInt d = true) : ∃ i, d = .int i ∧ v = .int i := by
  cases d <;> first
    | (cases hp; done)
    | skip
  rename_i i
  refine ⟨i, rfl, ?_⟩
  cases h with
  | dp h => cases h; rfl
  | mx h => cases h; rfl
theorem ok_wholeInG {f f1 : Addr} {fd fd1 : FuncData} (F : Fun K "is_whole_in" "is_whole_in" sWholeIn f fd) (F1 : Fun K "is_whole" "is_whole" sWhole f1 fd1) (b1 : Binds K fd1 ["thing"] []) (g1 : mg "is_whole" = some (.ref f1)) (B : Bi mg) :
    FnOk P w K mg base CX0 2 f fd ["thing", "low", "high"] (spWholeInG K) := by
  have G1 : FnOk P w K mg base CX0 1 f1 fd1 ["thing"] (spWholeG K) := ok_wholeG F1 B
  refine F.ok scWholeIn (fun vs H Q E h => ?_) (fun cdv A outer s H vs Q E hr h => ?_)
  · obtain ⟨v, d, l, m, rfl, _⟩ := h; rfl
  · obtain ⟨v, d, l, m, rfl, hv, q⟩ := h
    refine ⟨_, pss_one (ps_ret (pe_and (pe_call G1 hr (by rfl) g1 F1.kp b1 .nil pass0 (pa_cons (pv 0) pa_nil)) (pe_one (pe_chain op_le op_le (pv 1) (pv 0) (pv 2))))), ?_⟩
    refine ⟨v, rfl, v, d, rfl, hv, plainInt d, rfl, ?_⟩
    cases hp : plainInt d with
    | false =>
      rw [if_neg Bool.false_ne_true]
      have z : wholeB d l m = false := by
        cases d <;> first
          | rfl
          | cases hp
      rw [z] at q
      exact q
    | true =>
      rw [if_pos rfl]
      obtain ⟨i, rfl, rfl⟩ := plain_of hv hp
      have z : wholeB (.int i) l m = (decide (l ≤ i) && decide (i ≤ m)) := rfl
      rw [z] at q
      refine ⟨.int l, rfl, .int i, rfl, l, i, rfl, rfl, decide (l ≤ i), rfl, ?_⟩
      by_cases h1 : l ≤ i
      · rw [if_pos (decide_eq_true h1)]
        refine ⟨.int m, rfl, i, m, rfl, rfl, ?_⟩
        rw [decide_eq_true h1] at q
        exact q
      · rw [if_neg (by rw [decide_eq_false h1]; exact Bool.false_ne_true)]
        rw [decide_eq_false h1] at q
        exact q
end
end Wb

set_option Elab.async false
set_option linter.all false
set_option maxRecDepth 100000
set_option maxHeartbeats 4000000
set_option pp.maxSteps 600
set_option pp.deepTerms false
namespace Wb
open PySem PySem.Spec PyProof.Rows L2
abbrev sPrice : Stmt := topS 31
abbrev nPrice : List Str := ["moves", "places", "step", "k", "to", "here", "there", "price"]
theorem scPrice : FnScope nPrice ["moves", "places", "step"] (defScope sPrice) := ⟨rfl, rfl, rfl, by decide +kernel, rfl, by decide +kernel, by decide +kernel⟩
def stepV (l : Lock) (st : Word) (k : Nat) (to : Int) : V :=
  match (stepsOf l st k).find? (fun t => decide (t.to_ = to)) with
  | some t => .int t.price
  | none => .non
def priceV (l : Lock) (st : Word) : PyData → V
  | .tuple [.int k, .int to] => if 0 ≤ k ∧ k < (st.length : Int) then stepV l st k.toNat to else .non
  | _ => .non
def spPrice (K : PySem.W.Frag) : Sp := fun vs H Q _ => ∃ (mv pl : Addr) (v : V) (d : PyData) (ds : List Addr) (l : Lock) (st : Word), vs = [.ref mv, .ref pl, v] ∧ H mv = some (.lst (ds.map V.ref)) ∧ ds.length = l.length ∧ LockOk l ∧
  H pl = some (.lst (st.map V.int)) ∧ st.length = l.length ∧ (∀ k d b, ds[k]? = some d → l[k]? = some b → ∃ ws, WordsAt l k ws ∧ MvAt H mv d b.gaps ws) ∧ Th K H v d ∧ ∀ H', Evl.Ex H H' → Q (priceV l st d) H'
section
variable {P : Program} {w : World} {K : PySem.W.Frag} {mg : Str → Option Value} {base : Heap}
theorem ok_price {f f1 f2 f3 : Addr} {fd fd1 fd2 fd3 : FuncData} (F : Fun K "price_of_step" "price_of_step" sPrice f fd) (F1 : Fun K "is_whole" "is_whole" sWhole f1 fd1) (b1 : Binds K fd1 ["thing"] []) (g1 : mg "is_whole" = some (.ref f1))
    (F2 : Fun K "is_whole_in" "is_whole_in" sWholeIn f2 fd2) (b2 : Binds K fd2 ["thing", "low", "high"] []) (g2 : mg "is_whole_in" = some (.ref f2))
    (F3 : Fun K "is_tuple_of" "is_tuple_of" sTupOf f3 fd3) (b3 : Binds K fd3 ["thing", "low", "high"] []) (g3 : mg "is_tuple_of" = some (.ref f3)) (B : Bi mg) :
    FnOk P w K mg base CX0 3 f fd ["moves", "places", "step"] (spPrice K) := by
  have G1 : FnOk P w K mg base CX0 1 f1 fd1 ["thing"] (spWholeG K) := ok_wholeG F1 B
  have G2 : FnOk P w K mg base CX0 2 f2 fd2 ["thing", "low", "high"] (spWholeInG K) := ok_wholeInG F2 F1 b1 g1 B
  have G3 : FnOk P w K mg base CX0 1 f3 fd3 ["thing", "low", "high"] (spTupG K) := ok_tupG F3 B
  refine F.ok scPrice (fun vs H Q E h => ?_) (fun cdv A outer s H vs Q E hr h => ?_)
  · obtain ⟨mv, pl, v, d, ds, l, st, rfl, _⟩ := h; rfl
  · obtain ⟨mv, pl, v, d, ds, l, st, rfl, hmv, dl, ok, hpl, sl, hds, hv, q⟩ := h
    have hu := hu_of hr
    have hr1 : Room 1 _ := hr.mono (by decide)
    refine ⟨_, pss_cons (ps_if (PW.pt (pw_or (pt_not (pt_val (pe_call G3 hr1 (by rfl) g3 F3.kp b3 .nil pass0 (pa_cons (pv 2) (pa_cons pe_int (pa_cons pe_int pa_nil))))))
          (pw_or (pt_not (pt_val (pe_call G2 hr (by rfl) g2 F2.kp b2 .nil pass0 (pa_cons (pe_ix (r := rIxT K) ix_tup (pv 2) pe_int (fun _ _ => rfl)) (pa_cons pe_int (pa_cons (pe_op op_sub (pe_callB call_len_seq (by rfl) B.len PySem.boot_len (pa_cons (pv 1) pa_nil)) pe_int) pa_nil))))))
            (pw_or1 (pt_not (pt_val (pe_call G1 hr1 (by rfl) g1 F1.kp b1 .nil pass0 (pa_cons (pe_ix (r := rIxT K) ix_tup (pv 2) pe_int (fun _ _ => rfl)) pa_nil))))))))
        (pss_one (ps_ret pe_non)) pss_nil)
      (pss_cons (ps_asg (pv 2) (pg_tup rfl (pgs_cons (pg_name (i := 3) scPrice.nd rfl (.inl rfl)) (pgs_cons (pg_name (i := 4) scPrice.nd rfl (.inl rfl)) pgs_nil))))
      (pss_cons (ps_for PassesOwn.never rfl (pi_list (pe_dget2 hu (pe_ix ix_list (pv 0) (pv 3) (fun _ _ => rfl)) (pe_callTy (r := rTupK K) call_tupK (by rfl) B.tuple PyProof.Rows.boot_tuple (pa_cons (pe_slice sl_list (pv 1) po_none (po_some (pv 3))) pa_nil)) (pe_lst pa_nil) ⟨by rfl, by rfl, by rfl, by rfl⟩))
          (pg_tup rfl (pgs_cons (pg_name (i := 5) scPrice.nd rfl (.inl rfl)) (pgs_cons (pg_name (i := 6) scPrice.nd rfl (.inl rfl)) (pgs_cons (pg_name (i := 7) scPrice.nd rfl (.inl rfl)) pgs_nil))))
        (pss_one (ps_if (PW.pt (pw_and (pt_cmpR op_eq (pv 5) (pe_ix ix_list (pv 1) (pv 3) (fun _ _ => rfl)) (nomark _)) (pw_and1 (pt_cmpR op_eq (pv 6) (pv 4) (nomark _)))))
          (pss_one (ps_ret (pv 7))) pss_nil)))
      (pss_one (ps_ret pe_non)))), ?_⟩
    have n60 := ok.n1
    have none_ : priceV l st d = .non → Q .non H := fun z => by
      have := q H (Evl.Ex.refl H)
      rw [z] at this
      exact this
    refine ⟨v, rfl, v, d, 2, 2, rfl, hv, _, rfl, ?_⟩
    cases hb : (isTup d && (decide ((2 : Int) ≤ ((itemsD d).length : Int)) && decide (((itemsD d).length : Int) ≤ 2))) with
    | false =>
      refine iteT (iteT ?_)
      refine none_ ?_
      unfold priceV
      split
      · cases hb
      · rfl
    | true =>
      refine iteF ?_
      rw [Bool.and_eq_true, Bool.and_eq_true] at hb
      obtain ⟨ht, h1, h2⟩ := hb
      obtain ⟨es, rfl⟩ := tup_of ht
      have e2 : es.length = 2 := by
        have z1 : (2 : Int) ≤ (es.length : Int) := of_decide_eq_true h1
        have z2 : (es.length : Int) ≤ 2 := of_decide_eq_true h2
        omega
      obtain ⟨d0, d1, rfl⟩ : ∃ d0 d1, es = [d0, d1] := by
        match es, e2 with
        | [d0, d1], _ => exact ⟨d0, d1, rfl⟩
      obtain ⟨a, xs, rfl, hx, hi⟩ := hv.items
      obtain ⟨x0, x1, rfl⟩ : ∃ x0 x1, xs = [x0, x1] := by
        have := hi.len
        match xs, this with
        | [x0, x1], _ => exact ⟨x0, x1, rfl⟩
      obtain ⟨d0', hd0, th0⟩ := hi.get (i := 0) (x := x0) rfl
      obtain ⟨d1', hd1, th1⟩ := hi.get (i := 1) (x := x1) rfl
      cases hd0
      cases hd1
      have ln : ((st.map V.int).length) = l.length := by rw [List.length_map, sl]
      refine ⟨.ref a, rfl, a, _, 0, x0, rfl, rfl, hx, atI_nat (j := 0) rfl, .ref pl, rfl, pl, _, rfl, .inl (SqL.of hpl), ((st.map V.int).length : Nat), 1, rfl, rfl, x0, d0, 0, _, rfl, th0, _, rfl, ?_⟩
      cases hw : wholeB d0 0 (((st.map V.int).length : Nat) - 1) with
      | false =>
        refine iteT (iteT ?_)
        refine none_ ?_
        unfold priceV
        split
        · rename_i k to e
          have e0 : d0 = .int k := by
            have := PyData.tuple.inj e
            exact (List.cons.inj this).1
          subst e0
          refine if_neg fun z => ?_
          have hw' : (decide (0 ≤ k) && decide (k ≤ (((st.map V.int).length : Nat) : Int) - 1)) = false := hw
          rw [decide_eq_true z.1, decide_eq_true (by rw [ln, ← sl]; omega)] at hw'
          cases hw'
        · rfl
      | true =>
        refine iteF ?_
        refine ⟨.ref a, rfl, a, _, 1, x1, rfl, rfl, hx, atI_nat (j := 1) rfl, x1, d1, rfl, th1, _, rfl, ?_⟩
        cases hp1 : plainInt d1 with
        | false =>
          refine iteT ?_
          refine none_ ?_
          unfold priceV
          split
          · rename_i k to e
            have e1 : d1 = .int to := by
              have := PyData.tuple.inj e
              exact (List.cons.inj (List.cons.inj this).2).1
            subst e1
            cases hp1
          · rfl
        | true =>
          refine iteF ?_
          have hp0 : plainInt d0 = true := by
            cases d0 <;> first
              | rfl
              | cases hw
          obtain ⟨k', rfl, rfl⟩ := plain_of th0 hp0
          obtain ⟨to, rfl, rfl⟩ := plain_of th1 hp1
          have hw' : (decide (0 ≤ k') && decide (k' ≤ (((st.map V.int).length : Nat) : Int) - 1)) = true := hw
          rw [Bool.and_eq_true] at hw'
          have k0 : 0 ≤ k' := of_decide_eq_true hw'.1
          have kn : k' ≤ (((st.map V.int).length : Nat) : Int) - 1 := of_decide_eq_true hw'.2
          rw [ln] at kn
          obtain ⟨k, rfl⟩ : ∃ n : Nat, k' = (n : Int) := ⟨k'.toNat, by omega⟩
          have kl : k < l.length := by omega
          have pv_eq : priceV l st (.tuple [.int (k : Nat), .int to]) = stepV l st k to := by
            show (if 0 ≤ ((k : Nat) : Int) ∧ ((k : Nat) : Int) < (st.length : Int) then stepV l st (((k : Nat) : Int)).toNat to else .non) = _
            rw [if_pos ⟨by omega, by omega⟩, Int.toNat_natCast]
          rw [pv_eq] at q
          obtain ⟨b, hb⟩ : ∃ b, l[k]? = some b := ⟨l[k], List.getElem?_eq_getElem kl⟩
          obtain ⟨dd, hdd⟩ : ∃ dd, ds[k]? = some dd := ⟨ds[k], List.getElem?_eq_getElem (by omega)⟩
          obtain ⟨p, hpk⟩ : ∃ p, st[k]? = some p := ⟨st[k], List.getElem?_eq_getElem (by omega)⟩
          obtain ⟨ws, hW, ps, hps, hdk, hq⟩ := hds k dd b hdd hb
          have hd' : (ds.map V.ref)[k]? = some (.ref dd) := by rw [List.getElem?_map, hdd]; rfl
          refine ⟨.ref a, rfl, a, _, rfl, hx, rfl, _, _, rfl, _, _, rfl, rfl, ?_⟩
          refine ⟨.ref mv, rfl, .int (k : Nat), rfl, mv, _, (k : Nat), .ref dd, rfl, rfl, SqL.of hmv, atI_nat hd', dd, rfl, .inr ⟨_, .inl hdk⟩, ?_⟩
          refine ⟨.ref pl, rfl, .int (k : Nat), rfl, (k : Nat), rfl, pl, _, rfl, SqL.of hpl, fun q1 n1 => ?_⟩
          rw [cut_take, ← List.map_take]
          have e1 := Evl.Ex.new (o := .lst ((st.take k).map V.int)) n1
          have g1' : (upd H q1 (.lst ((st.take k).map V.int))) q1 = some (.lst ((st.take k).map V.int)) := upd_same
          generalize upd H q1 (.lst ((st.take k).map V.int)) = H1 at e1 g1'
          refine ⟨q1, _, rfl, .inl ⟨SqL.of g1', fun t nt => ?_⟩⟩
          have e2' := Evl.Ex.new (o := .tup ((st.take k).map V.int)) nt
          have g2' : (upd H1 t (.tup ((st.take k).map V.int))) t = some (.tup ((st.take k).map V.int)) := upd_same
          generalize upd H1 t (.tup ((st.take k).map V.int)) = H2 at e2' g2'
          refine ⟨Nat.zero_le _, fun e ne => ?_⟩
          have e3 := Evl.Ex.new (o := .lst []) ne
          have g3' : (upd H2 e (.lst [])) e = some (.lst []) := upd_same
          generalize upd H2 e (.lst []) = H3 at e3 g3'
          have e03 := e1.trans (e2'.trans e3)
          have dg : ∀ o, valV (kps ps) (keyW (st.take k)) = o → DGet H3 dd (.ref t) o := by
            rintro o rfl
            exact DGet.t (e03 _ _ hdk) (by rw [keyW_kV]; exact e3 _ _ g2')
          have pl3 := e03 _ _ hpl
          have stepE : stepsOf l st k = pickAt k p (movesL b.gaps (st.take k)) := by
            unfold stepsOf
            rw [hb, hpk]
          by_cases hin : st.take k ∈ ws
          · have ndp : (ps.map (·.1)).Nodup := by rw [hps]; exact hW.1
            rw [← hps] at hin
            obtain ⟨qq, hqq, eqq⟩ := List.mem_map.mp hin
            obtain ⟨_, uq, h1, h2⟩ := hq qq hqq
            have hval := valV_kps ndp hqq
            rw [eqq] at hval h2
            refine ⟨_, dg _ hval, qq.2, rfl, ⟨uq, SqL.of (e03 _ _ h1)⟩, ?_⟩
            have uql := Paired.len h2
            refine for_list (K := K) (a := qq.2) (xs := uq) (fun m σ H' => ∃ (y5 y6 y7 : Option V), σ = [some (.ref mv), some (.ref pl), some (.ref a), some (.int (k : Nat)), some (.int to), y5, y6, y7] ∧ H' = H3 ∧ ∀ t ∈ (movesL b.gaps (st.take k)).take m, ¬ (t.frm = p ∧ t.to_ = to)) ⟨_, _, _, rfl, rfl, fun t ht => (by simp at ht)⟩ ?_ ?_ ?_
            · rintro m σ H' _ ⟨_, _, _, _, rfl, _⟩
              exact SqL.of (e03 _ _ h1)
            · rintro m x σ H' hm ⟨y5, y6, y7, rfl, rfl, hno⟩
              obtain ⟨t', ht', ⟨at_, rfl, hat⟩⟩ := Paired.get1 h2 hm
              have hat3 := e03 _ _ hat
              refine ⟨at_, _, rfl, .inl (.inl hat3), rfl, _, _, rfl, _, _, rfl, _, _, rfl, rfl, ?_⟩
              refine ⟨.int t'.frm, rfl, .ref pl, rfl, .int (k : Nat), rfl, pl, _, (k : Nat), .int p, rfl, rfl, SqL.of pl3, atI_nat (map_int_get hpk), rfl, _, rfl, ?_⟩
              have go : ¬ (t'.frm = p ∧ t'.to_ = to) → ∃ (y5 y6 y7 : Option V), ([some (.ref mv), some (.ref pl), some (.ref a), some (.int (k : Nat)), some (.int to), some (.int t'.frm), some (.int t'.to_), some (.int t'.price)] : L2.St) = [some (.ref mv), some (.ref pl), some (.ref a), some (.int (k : Nat)), some (.int to), y5, y6, y7] ∧ H' = H' ∧ ∀ t ∈ (movesL b.gaps (st.take k)).take (m + 1), ¬ (t.frm = p ∧ t.to_ = to) := fun z => by
                refine ⟨_, _, _, rfl, rfl, fun t ht => ?_⟩
                rw [take_succ_get ht'] at ht
                rcases List.mem_append.mp ht with h | h
                · exact hno t h
                · rw [List.mem_singleton.mp h]
                  exact z
              refine ite2 (fun hc => ?_) (fun hc => ?_)
              · have hf : t'.frm = p := V.int.inj (of_decide_eq_true hc)
                refine ⟨.int t'.to_, rfl, .int to, rfl, rfl, _, rfl, ?_⟩
                refine ite2 (fun hc2 => ?_) (fun hc2 => ?_)
                · have ht2 : t'.to_ = to := V.int.inj (of_decide_eq_true hc2)
                  have val : stepV l st k to = .int t'.price := by
                    unfold stepV
                    rw [stepE]
                    have split_ : movesL b.gaps (st.take k) = (movesL b.gaps (st.take k)).take m ++ t' :: (movesL b.gaps (st.take k)).drop (m + 1) := by
                      have := List.getElem?_eq_some_iff.mp ht'
                      obtain ⟨hl, he⟩ := this
                      conv => lhs; rw [← List.take_append_drop m (movesL b.gaps (st.take k))]
                      rw [List.drop_eq_getElem_cons hl, he]
                    rw [split_, pick_app]
                    have f0 : (pickAt k p ((movesL b.gaps (st.take k)).take m)).find? (fun t => decide (t.to_ = to)) = none := by
                      rw [List.find?_eq_none]
                      intro t ht z
                      unfold pickAt at ht
                      obtain ⟨t1, h1', rfl⟩ := List.mem_map.mp ht
                      have := List.mem_filter.mp h1'
                      exact hno t1 this.1 ⟨of_decide_eq_true this.2, of_decide_eq_true z⟩
                    rw [List.find?_append, f0]
                    have f1 : pickAt k p (t' :: (movesL b.gaps (st.take k)).drop (m + 1)) = ⟨(k : Int), t'.to_, t'.price⟩ :: pickAt k p ((movesL b.gaps (st.take k)).drop (m + 1)) := by
                      unfold pickAt
                      rw [List.filter_cons, if_pos (decide_eq_true hf), List.map_cons]
                    rw [f1, List.find?_cons_of_pos (by simpa using ht2)]
                    rfl
                  have := q H' e03
                  rw [val] at this
                  exact ⟨.int t'.price, rfl, this⟩
                · exact go fun z => hc2 (decide_eq_true (by rw [z.2]))
              · exact go fun z => hc (decide_eq_true (by rw [z.1]))
            · rintro σ H' ⟨y5, y6, y7, rfl, rfl, hno⟩
              rw [uql, List.take_length] at hno
              have val : stepV l st k to = .non := by
                unfold stepV
                have f0 : (stepsOf l st k).find? (fun t => decide (t.to_ = to)) = none := by
                  rw [stepE, List.find?_eq_none]
                  intro t ht z
                  unfold pickAt at ht
                  obtain ⟨t1, h1', rfl⟩ := List.mem_map.mp ht
                  have := List.mem_filter.mp h1'
                  exact hno t1 this.1 ⟨of_decide_eq_true this.2, of_decide_eq_true z⟩
                rw [f0]
              have := q H' e03
              rw [val] at this
              exact this
          · have hval : valV (kps ps) (keyW (st.take k)) = none := valV_kps_none (by rw [hps]; exact hin)
            refine ⟨_, dg _ hval, e, rfl, ⟨_, SqL.of g3'⟩, ?_⟩
            refine for_list (K := K) (a := e) (xs := []) (fun m σ H' => H' = H3) rfl ?_ ?_ ?_
            · rintro m σ H' _ rfl
              exact SqL.of g3'
            · rintro m x σ H' hm _
              cases hm
            · rintro σ H' rfl
              have val : stepV l st k to = .non := by
                unfold stepV
                rw [steps_none ok (fun z => hin ((hW.2 _).mpr z)) k (Nat.le_refl k)]
                rfl
              have := q H' e03
              rw [val] at this
              exact this
end
end Wb

set_option Elab.async false
set_option linter.all false
set_option maxRecDepth 100000
set_option maxHeartbeats 4000000
set_option pp.maxSteps 600
set_option pp.deepTerms false
namespace Wb
open PySem PySem.Spec PyProof.Rows L2
/-! ### parts of tuples, tuples together, whatever the parts are -/
theorem cutV_whole {xs : List V} {lo hi : Option Int} (h : HT.sIx xs.length 0 lo = 0 ∧ HT.sIx xs.length xs.length hi = xs.length) : cutV xs lo hi = xs := by
  unfold cutV
  rw [h.1, h.2, List.drop_zero, Nat.sub_zero, List.take_length]
theorem mem_cutV {xs : List V} {lo hi : Option Int} {x : V} (h : x ∈ cutV xs lo hi) : x ∈ xs := by
  unfold cutV at h
  exact List.mem_of_mem_drop (List.mem_of_mem_take h)
section
variable {K : PySem.W.Frag} {H : Hp} {Q : VK} {a b : Addr} {xs ys : List V}
theorem sl_any {lo hi : Option Int} (ha : SqT K H a xs) (q : ∀ H' z, Evl.Ex H H' → SqT K H' z (cutV xs lo hi) → Q (.ref z) H') : rSlA K (.ref a) lo hi H Q := by
  refine ⟨a, xs, rfl, ha, fun h => ?_, fun _ t nt => ?_⟩
  · exact q H a (Evl.Ex.refl H) (by rw [cutV_whole h]; exact ha)
  · exact q _ t (Evl.Ex.new nt) (.inl (.inl upd_same))
theorem cat_any (ha : SqT K H a xs) (hb : SqT K H b ys) (hz : xs.length + ys.length ≤ sizeLine) (q : ∀ H' z, Evl.Ex H H' → SqT K H' z (xs ++ ys) → Q (.ref z) H') : rCatA K (.ref a) (.ref b) H Q := by
  refine ⟨a, b, xs, ys, rfl, rfl, ha, hb, hz, fun h => ?_, fun _ h => ?_, fun _ _ t nt => ?_⟩
  · exact q H b (Evl.Ex.refl H) (by rw [h]; exact hb)
  · exact q H a (Evl.Ex.refl H) (by rw [h, List.append_nil]; exact ha)
  · exact q _ t (Evl.Ex.new nt) (.inl (.inl upd_same))
end
end Wb

set_option Elab.async false
set_option linter.all false
set_option maxRecDepth 100000
set_option maxHeartbeats 4000000
set_option pp.maxSteps 600
set_option pp.deepTerms false
namespace Wb
open PySem PySem.Spec PyProof.Rows L2
abbrev sAfter : Stmt := topS 41
theorem scAfter : FnScope ["_law_stand_here", "_law_k", "_law_there"] ["_law_stand_here", "_law_k", "_law_there"] (defScope sAfter) := ⟨rfl, rfl, rfl, by decide +kernel, rfl, by decide +kernel, by decide +kernel⟩
theorem nopart1 {σ : L2.St} {H : Hp} {F : Option Int → Hp → Prop} (h : F none H) : tNoPart σ H F := h
def afterL (st : Word) (k : Nat) (to : Int) : Word := st.take k ++ [to] ++ st.drop (k + 1)
/-- a word that may be one of the written part's -/
def Wq (K : PySem.W.Frag) (H : Hp) (v : V) (ns : Word) : Prop := ∃ a, v = .ref a ∧ SqT K H a (ns.map V.int)
def spAfter (K : PySem.W.Frag) : Sp := fun vs H Q _ => ∃ (u : V) (st : Word) (k : Nat) (to : Int), vs = [u, .int (k : Nat), .int to] ∧ Wq K H u st ∧ k < st.length ∧ st.length ≤ 100 ∧ ∀ H' z, Evl.Ex H H' → Wq K H' z (afterL st k to) → Q z H'
section
variable {P : Program} {w : World} {K : PySem.W.Frag} {mg : Str → Option Value} {base : Heap}
theorem ok_after {f : Addr} {fd : FuncData} (F : Fun K "_law_after" "_law_after" sAfter f fd) : FnOk P w K mg base CX0 1 f fd ["_law_stand_here", "_law_k", "_law_there"] (spAfter K) := by
  refine F.ok scAfter (fun vs H Q E h => ?_) (fun cdv A outer s H vs Q E hr h => ?_)
  · obtain ⟨u, st, k, to, rfl, _⟩ := h; rfl
  · obtain ⟨u, st, k, to, rfl, ⟨a, rfl, ha⟩, kl, l100, q⟩ := h
    refine ⟨_, pss_one (ps_ret (pe_op op_catA (pe_op op_catA (pe_slice (r := rSlA K) sl_tupA (pv 0) po_none (po_some (pv 1))) (pe_tup (pa_cons (pv 2) pa_nil))) (pe_slice (r := rSlA K) sl_tupA (pv 0) (po_some (pe_op op_add (pv 1) pe_int)) po_none))), ?_⟩
    have ln : (st.map V.int).length = st.length := List.length_map ..
    refine ⟨.ref a, rfl, .int (k : Nat), rfl, (k : Nat), rfl, ?_⟩
    refine sl_any (K := K) (lo := none) (hi := some (k : Nat)) ha fun H1 z1 e1 s1 => ?_
    rw [cut_take, ← List.map_take] at s1
    refine ⟨.int to, rfl, (by show 1 ≤ sizeLine; decide), fun t nt => ?_⟩
    have e2 := Evl.Ex.new (o := .tup [.int to]) nt
    have s2 : SqT K (upd H1 t (.tup [.int to])) t [.int to] := .inl (.inl upd_same)
    generalize upd H1 t (.tup [.int to]) = H2 at e2 s2
    refine cat_any (K := K) (Evl.ex_t e2 s1) s2 (Nat.le_trans (by rw [List.length_map, List.length_take, List.length_singleton]; omega : ((st.take k).map V.int).length + [V.int to].length ≤ 101) (by decide)) fun H3 z3 e3 s3 => ?_
    have a3 := Evl.ex_t (e1.trans (e2.trans e3)) ha
    refine ⟨.ref a, rfl, .int (k : Nat), rfl, (k : Nat), 1, rfl, rfl, ((k + 1 : Nat) : Int), by rw [Int.natCast_add]; rfl, ?_⟩
    refine nopart1 ?_
    refine sl_any (K := K) (lo := some ((k + 1 : Nat) : Int)) (hi := none) a3 fun H4 z4 e4 s4 => ?_
    rw [cut_drop (st.map V.int) (k := k + 1) (by rw [ln]; omega), ← List.map_drop] at s4
    refine cat_any (K := K) (Evl.ex_t e4 s3) s4 (Nat.le_trans (by simp only [List.length_append, List.length_map, List.length_take, List.length_drop, List.length_singleton]; omega : ((st.take k).map V.int ++ [V.int to]).length + ((st.drop (k + 1)).map V.int).length ≤ 201) (by decide)) fun H5 z5 e5 s5 => ?_
    refine q H5 (.ref z5) (e1.trans (e2.trans (e3.trans (e4.trans e5)))) ⟨z5, rfl, ?_⟩
    unfold afterL
    rw [List.map_append, List.map_append]
    exact s5
end
end Wb

set_option Elab.async false
set_option linter.all false
set_option maxRecDepth 100000
set_option maxHeartbeats 4000000
set_option pp.maxSteps 600
set_option pp.deepTerms false
namespace Wb
open PySem PySem.Spec PyProof.Rows L2
def clsBody : Stmt → List Stmt
  | .ClassDef _ _ _ b .. => b
  | _ => []
abbrev sNsInit : Stmt := (clsBody (topS 10)).getD 0 (.Pass ⟨0, 0, 0, 0⟩)
abbrev sWalked : Stmt := topS 30
abbrev nWalked : List Str := ["lock", "stand", "steps", "moves", "places", "paid", "nth", "step", "cost"]
theorem scNsInit : FnScope ["self", "nth"] ["self", "nth"] (defScope sNsInit) := ⟨rfl, rfl, rfl, by decide +kernel, rfl, by decide +kernel, by decide +kernel⟩
theorem scWalked : FnScope nWalked ["lock", "stand", "steps"] (defScope sWalked) := ⟨rfl, rfl, rfl, by decide +kernel, rfl, by decide +kernel, by decide +kernel⟩
/-- the class of a step that is none, and its __init__ -/
structure NsC (K : PySem.W.Frag) (mg : Str → Option Value) where
  C : Addr
  f : Addr
  fd : FuncData
  g : mg "NoStep" = some (.ref C)
  T : OexC K C
  i : PySem.W.findIn K (.ref C) "__init__" = some (some (.ref f))
  t : PySem.W.typeIn K (.ref f) = some (.type "function")
  no : PySem.W.findIn K (.ref C) "nth" = some none
  F : Fun K "__init__" "NoStep.__init__" sNsInit f fd
  b : Binds K fd ["self", "nth"] []
def spNsInit (K : PySem.W.Frag) (C : Addr) : Sp := fun vs H Q _ => ∃ (a : Addr) (v : V), vs = [.ref a, v] ∧ H a = some (exo a C none) ∧ OexC K C ∧ PySem.W.findIn K (.ref C) "nth" = some none ∧
  ∀ dx, H dx = none → dx ≠ a → Q .non (upd (upd H dx (exd dx [("nth", v)])) a (exo a C (some dx)))
/-- where a step goes -/
def stepTo (st : Word) : PyData → Word
  | .tuple [.int k, .int to] => st.set k.toNat to
  | _ => st
/-- what is told of a row of things: the number of the first that is no step that can be done, or the stand and the price behind them -/
def walkL (l : Lock) : Word → Int → Nat → List PyData → Nat ⊕ (Word × Int)
  | st, paid, _, [] => .inr (st, paid)
  | st, paid, n, d :: ds => match priceV l st d with
    | .int c => walkL l (stepTo st d) (paid + c) (n + 1) ds
    | _ => .inl n
def spWalked (K : PySem.W.Frag) (C : Addr) : Sp := fun vs H Q E => ∃ (v u x : V) (l : Lock) (st : Word), vs = [v, u, x] ∧ LockAt K H v l ∧ LockOk l ∧ Wd K H u st ∧ InAll st (manysOf l) ∧
  ((∃ d, Th K H x d ∧ isLst d = false ∧ ∀ H' e, H e = none → H' e = some (.xd [("nth", .int 0)]) → Evl.Ex H H' → E (.ref C) (some e) H') ∨
    ∃ a xs es, x = .ref a ∧ H a = some (.lst xs) ∧ Paired (Th K H) xs es ∧ xs.length ≤ 1000 ∧
      (match walkL l st 0 0 es with
        | .inl n => ∀ H' e, H e = none → H' e = some (.xd [("nth", .int (n : Nat))]) → Evl.Ex H H' → E (.ref C) (some e) H'
        | .inr (st', paid) => ∀ H' t z, Evl.Ex H H' → H' t = some (.tup [z, .int paid]) → Wd K H' z st' → Q (.ref t) H'))
section
variable {P : Program} {w : World} {K : PySem.W.Frag} {mg : Str → Option Value} {base : Heap}
theorem ok_nsInit (N : NsC K mg) : FnOk P w K mg base CX0 1 N.f N.fd ["self", "nth"] (spNsInit K N.C) := by
  refine N.F.ok scNsInit (fun vs H Q E h => ?_) (fun cdv A outer s H vs Q E hr h => ?_)
  · obtain ⟨a, v, rfl, _⟩ := h; rfl
  · obtain ⟨a, v, rfl, ha, T, no, q⟩ := h
    refine ⟨_, pss_one (ps_ost (pv 0) (pv 1)), ?_⟩
    exact ⟨v, rfl, .ref a, rfl, a, N.C, rfl, T, no, .inl ⟨ha, fun dx nd ne => q dx nd ne⟩⟩
/-- raise NoStep(v): its reading -/
theorem raised (N : NsC K mg) {H : Hp} {v : V} {E : XK} (q : ∀ H' e, H e = none → H' e = some (.xd [("nth", v)]) → Evl.Ex H H' → E (.ref N.C) (some e) H') :
    [v].length ≤ 1000 ∧ ∀ a, H a = none → spNsInit K N.C (.ref a :: ([v] ++ [])) (upd H a (exo a N.C none))
      (fun z H2 => z = .non ∧ ∃ (d : Addr) (fs : List (Str × V)), H2 a = some (exo a N.C (some d)) ∧ H2 d = some (exd d fs) ∧ H d = none ∧ E (.ref N.C) (some d) (upd (del H2 a) d (.xd fs))) (fun _ _ _ => False) := by
  refine ⟨by simp, fun a na => ⟨a, v, rfl, upd_same, N.T, N.no, fun dx nd ne => ?_⟩⟩
  have ndx : H dx = none := by
    rw [upd_ne ne] at nd
    exact nd
  refine ⟨rfl, dx, [("nth", v)], upd_same, by rw [upd_ne ne, upd_same], ndx, q _ dx ndx upd_same ?_⟩
  intro b o hb
  have b1 : b ≠ a := fun z => by rw [z, na] at hb; cases hb
  have b2 : b ≠ dx := fun z => by rw [z, ndx] at hb; cases hb
  rw [upd_ne b2, del_ne b1, upd_ne b1, upd_ne b2, upd_ne b1]
  exact hb
theorem priceV_int {l : Lock} {st : Word} {d : PyData} {c : Int} (h : priceV l st d = .int c) : ∃ (k : Nat) (to : Int), d = .tuple [.int (k : Nat), .int to] ∧ k < st.length := by
  unfold priceV at h
  split at h
  · rename_i k to
    split at h
    · rename_i hk
      exact ⟨k.toNat, to, by rw [Int.toNat_of_nonneg hk.1], by omega⟩
    · cases h
  · cases h
theorem priceV_cases (l : Lock) (st : Word) (d : PyData) : priceV l st d = .non ∨ ∃ c, priceV l st d = .int c := by
  unfold priceV
  split
  · split
    · unfold stepV
      split
      · exact .inr ⟨_, rfl⟩
      · exact .inl rfl
    · exact .inl rfl
  · exact .inl rfl
theorem ok_walked (D : Pr K mg) (N : NsC K mg) {f fp : Addr} {fd fdp : FuncData} (F : Fun K "walked" "walked" sWalked f fd) (Fp : Fun K "price_of_step" "price_of_step" sPrice fp fdp) (bp : Binds K fdp ["moves", "places", "step"] []) (gp : mg "price_of_step" = some (.ref fp)) :
    FnOk P w K mg base (L2.CX P w) 8 f fd ["lock", "stand", "steps"] (spWalked K N.C) := by
  have B := D.B
  have G24 : FnOk P w K mg base CX0 7 D.f24 D.d24 ["lock"] (spFault K) := ok_needL D
  have G25 : FnOk P w K mg base CX0 3 D.f25 D.d25 ["lock", "thing"] (spNeedS K) := ok_needS D
  have G11 : FnOk P w K mg base CX0 2 D.f11 D.d11 ["lock"] (spMoves K) := ok_moves D.F11 D.F10 D.b10 D.g10 D.B
  have Gp : FnOk P w K mg base CX0 3 fp fdp ["moves", "places", "step"] (spPrice K) := ok_price Fp D.F1 D.b1 D.g1 D.F2 D.b2 D.g2 D.F3 D.b3 D.g3 D.B
  have GN : FnOk P w K mg base CX0 1 N.f N.fd ["self", "nth"] (spNsInit K N.C) := ok_nsInit N
  refine F.okX scWalked (fun vs H Q E h => ?_) (fun cdv A outer s H vs Q E hr h => ?_)
  · obtain ⟨v, u, x, l, st, rfl, _⟩ := h; rfl
  · obtain ⟨v, u, x, l, st, rfl, hv, ok, hu, hin, h⟩ := h
    have hr2 : Room 2 _ := hr.mono (by decide)
    have hr3 : Room 3 _ := hr.mono (by decide)
    refine ⟨_, pss_cons (ps_expr (pe_call G24 hr (by rfl) D.g24 D.F24.kp D.b24 .nil pass0 (pa_cons (pv 0) pa_nil)))
      (pss_cons (ps_expr (pe_call G25 hr3 (by rfl) D.g25 D.F25.kp D.b25 .nil pass0 (pa_cons (pv 0) (pa_cons (pv 1) pa_nil))))
      (pss_cons (ps_if (pt_not (pt_val (pe_callB call_isi (by rfl) B.isi boot_isinstance (pa_cons (pv 2) (pa_cons (pe_bltn (v := .ty "list") (by rfl) B.list (by decide +kernel) rfl) pa_nil)))))
          (pss_one (ps_raise rfl (takes_of rfl rfl rfl rfl) (pmk_oex N.T N.i N.t GN hr2 N.b .nil pass0 (by rfl) N.g (pa_cons pe_int pa_nil)))) pss_nil)
      (pss_cons (ps_set (i := 3) scWalked.nd rfl (.inl rfl) (pe_call G11 hr2 (by rfl) D.g11 D.F11.kp D.b11 .nil pass0 (pa_cons (pv 0) pa_nil)))
      (pss_cons (ps_set (i := 4) scWalked.nd rfl (.inl rfl) (pe_callTy call_list_of (by rfl) B.list PyProof.Rows.boot_list (pa_cons (pv 1) pa_nil)))
      (pss_cons (ps_set (i := 5) scWalked.nd rfl (.inl rfl) pe_int)
      (pss_cons (ps_for (passes_of rfl) rfl (pi_enum (by rfl) B.enum (pa_cons (pv 2) pa_nil)) (pg_tup rfl (pgs_cons (pg_name (i := 6) scWalked.nd rfl (.inl rfl)) (pgs_cons (pg_name (i := 7) scWalked.nd rfl (.inl rfl)) pgs_nil)))
        (pss_cons (ps_set (i := 8) scWalked.nd rfl (.inl rfl) (pe_call Gp hr3 (by rfl) gp Fp.kp bp .nil pass0 (pa_cons (pv 3) (pa_cons (pv 4) (pa_cons (pv 7) pa_nil)))))
        (pss_cons (ps_if (pt_cmpR op_isN (pv 8) pe_non (nomark _)) (pss_one (ps_raise rfl (takes_of rfl rfl rfl rfl) (pmk_oex N.T N.i N.t GN hr2 N.b .nil pass0 (by rfl) N.g (pa_cons (pv 6) pa_nil)))) pss_nil)
        (pss_cons (ps_asg (pe_ix (r := rIxT K) ix_tup (pv 7) pe_int (fun _ _ => rfl)) (pg_sub (pv 4) (pe_ix (r := rIxT K) ix_tup (pv 7) pe_int (fun _ _ => rfl)) set_list))
        (pss_one (ps_aug (i := 5) scWalked.nd rfl (.inl rfl) (pv 8) ip_add))))))
      (pss_one (ps_ret (pe_tup (pa_cons (pe_callTy (r := rTupK K) call_tupK (by rfl) B.tuple PyProof.Rows.boot_tuple (pa_cons (pv 4) pa_nil)) (pa_cons (pv 5) pa_nil)))))))))))
      , ?_⟩
    refine ⟨v, rfl, v, l, rfl, hv, ok, fun H1 e1 => ?_⟩
    refine ⟨v, rfl, u, rfl, v, u, l, st, rfl, hv.mono (TX.ex e1), ok, wd_ex e1 hu, hin, fun H2 e2 => ?_⟩
    have e02 := e1.trans e2
    obtain ⟨ua, rfl, hua⟩ := hu
    have sl : st.length = l.length := by
      have := hin.1
      unfold manysOf at this
      rwa [List.length_map] at this
    have n60 := ok.n1
    rcases h with ⟨d, hx, hnl, q⟩ | ⟨a, xs, es, rfl, ha, hxs, x1000, q⟩
    · have hx2 := hx.keep (TK.ex e02)
      refine ⟨x, rfl, x, .ty "list", .type (tyS d), .type "list", isLst d, rfl, .ty _, hx2.ty, kit_ty (kit_lst d), isLst d, rfl, ?_⟩
      rw [hnl]
      refine iteT ?_
      exact raised N fun H' e ne he ex => q H' e (Evl.fresh_back e02 ne) he (e02.trans ex)
    · have ha2 := e02 _ _ ha
      refine ⟨.ref a, rfl, .ref a, .ty "list", .type "list", .type "list", true, rfl, .ty _, .base (.lst ha2), kit_ty (by decide +kernel), true, rfl, ?_⟩
      refine iteF ?_
      refine ⟨v, rfl, v, l, rfl, hv.mono (TX.ex e02), ok, fun H3 mv ds e3 nmv hmv dl hds => ?_⟩
      have e03 := e02.trans e3
      refine ⟨.ref ua, rfl, ua, _, rfl, .inr (.inl (.inl (e03 _ _ hua))), fun pl npl => ?_⟩
      have e4 := Evl.Ex.new (o := .lst (st.map V.int)) npl
      have gpl : (upd H3 pl (.lst (st.map V.int))) pl = some (.lst (st.map V.int)) := upd_same
      generalize upd H3 pl (.lst (st.map V.int)) = H4 at e4 gpl
      have e04 := e03.trans e4
      have npl0 : H pl = none := Evl.fresh_back e03 npl
      have xl : xs.length = es.length := Paired.len hxs
      have npa : a ≠ pl := fun z => by rw [z, npl0] at ha; cases ha
      have npm : mv ≠ pl := fun z => by rw [z, npl] at hmv; cases hmv
      refine ⟨.ref a, rfl, a, xs, rfl, SqL.of (e04 _ _ ha), ?_⟩
      refine for_it (walk_enum (xs := xs)) (fun i σ H' => ∃ (st' : Word) (paid : Int) (y6 y7 y8 : Option V), σ = [some v, some (.ref ua), some (.ref a), some (.ref mv), some (.ref pl), some (.int paid), y6, y7, y8] ∧ Evl.Ex H H' ∧ Evl.Ex H3 H' ∧ H' pl = some (.lst (st'.map V.int)) ∧ st'.length = l.length ∧ walkL l st 0 0 es = walkL l st' paid i (es.drop i))
        ⟨st, 0, none, none, none, rfl, e04, e4, gpl, sl, by rw [List.drop_zero]⟩ ?_ ?_ ?_
      · rintro i σ H' _ ⟨_, _, _, _, _, _, e, _⟩
        exact SqL.of (e _ _ ha)
      · rintro i w σ H5 H6 hi ⟨st', paid, y6, y7, y8, rfl, e05, e35, hpl5, sl', hw⟩ ⟨T, y, z, rfl, nT, rfl, ey, ez⟩
        cases ey
        obtain ⟨d, hd, hth⟩ := Paired.get1 hxs ez
        have e6 := Evl.Ex.new (o := .tup [.int (i : Nat), z]) nT
        have gT : (upd H5 T (.tup [.int (i : Nat), z])) T = some (.tup [.int (i : Nat), z]) := upd_same
        generalize upd H5 T (.tup [.int (i : Nat), z]) = H6 at e6 gT
        have e06 := e05.trans e6
        have e36 := e35.trans e6
        have hpl6 := e6 _ _ hpl5
        refine ⟨T, _, rfl, .inl (.inl gT), rfl, _, _, rfl, _, _, rfl, rfl, ?_⟩
        refine ⟨.ref mv, rfl, .ref pl, rfl, z, rfl, mv, pl, z, d, ds, l, st', rfl, e36 _ _ hmv, dl, ok, hpl6, sl', fun k d' b hk hb => ?_, hth.keep (TK.ex e06), fun H7 e7 => ?_⟩
        · obtain ⟨ws, hW, hm⟩ := hds k d' b hk hb
          exact ⟨ws, hW, hm.ex e36⟩
        · have hdrop : es.drop i = d :: es.drop (i + 1) := by
            obtain ⟨hl, he⟩ := List.getElem?_eq_some_iff.mp hd
            rw [List.drop_eq_getElem_cons hl, he]
          have e07 := e06.trans e7
          rcases priceV_cases l st' d with hp | ⟨cst, hp⟩
          · rw [hp]
            have hw2 : walkL l st 0 0 es = .inl i := by
              rw [hw, hdrop, walkL, hp]
            rw [hw2] at q
            refine ⟨.non, rfl, rfl, _, rfl, ?_⟩
            refine iteT ?_
            refine ⟨.int (i : Nat), rfl, ?_⟩
            exact raised N fun H' e ne he ex => q H' e (Evl.fresh_back e07 ne) he (e07.trans ex)
          · have hw2 : walkL l st 0 0 es = walkL l (stepTo st' d) (paid + cst) (i + 1) (es.drop (i + 1)) := by
              rw [hw, hdrop, walkL, hp]
            obtain ⟨k, to, rfl, kl⟩ := priceV_int hp
            rw [hp]
            refine ⟨.int cst, rfl, rfl, _, rfl, ?_⟩
            refine iteF ?_
            obtain ⟨za, zs, rfl, hz, hzi⟩ := (hth.keep (TK.ex e07)).items
            obtain ⟨z0, z1, rfl⟩ : ∃ z0 z1, zs = [z0, z1] := by
              have := hzi.len
              match zs, this with
              | [z0, z1], _ => exact ⟨z0, z1, rfl⟩
            obtain ⟨d0, hd0, th0⟩ := hzi.get (i := 0) (x := z0) rfl
            obtain ⟨d1, hd1, th1⟩ := hzi.get (i := 1) (x := z1) rfl
            cases hd0
            cases hd1
            obtain ⟨i0, ei0, rfl⟩ := plain_of th0 rfl
            cases ei0
            obtain ⟨i1, ei1, rfl⟩ := plain_of th1 rfl
            cases ei1
            have hpl7 := e7 _ _ hpl6
            have e37 := e36.trans e7
            refine ⟨.ref za, rfl, za, _, 1, .int to, rfl, rfl, hz, atI_nat (j := 1) rfl, .ref pl, rfl, .ref za, rfl, za, _, 0, .int (k : Nat), rfl, rfl, hz, atI_nat (j := 0) rfl, pl, _, (k : Nat), k, rfl, rfl, hpl7, ?_, ?_⟩
            · unfold ixN
              rw [if_pos (by omega), if_pos (by rw [List.length_map]; omega), Int.toNat_natCast]
            · refine ⟨_, rfl, .int cst, rfl, paid, cst, rfl, rfl, ?_⟩
              refine ⟨st'.set k to, paid + cst, _, _, _, rfl, e07.mut npl0, ?_, by rw [upd_same, List.map_set], by rw [List.length_set]; exact sl', ?_⟩
              · intro b o hb
                have nb : b ≠ pl := fun z => by rw [z, npl] at hb; cases hb
                rw [upd_ne nb]
                exact e37 _ _ hb
              · rw [hw2]
                rfl
      · rintro σ H5 ⟨st', paid, y6, y7, y8, rfl, e05, e35, hpl5, sl', hw⟩
        rw [xl, List.drop_length] at hw
        rw [hw] at q
        refine ⟨.ref pl, rfl, pl, _, rfl, .inl ⟨SqL.of hpl5, fun t nt => ?_⟩⟩
        have e6 := Evl.Ex.new (o := .tup (st'.map V.int)) nt
        have gt : (upd H5 t (.tup (st'.map V.int))) t = some (.tup (st'.map V.int)) := upd_same
        generalize upd H5 t (.tup (st'.map V.int)) = H6 at e6 gt
        refine ⟨.int paid, rfl, (by show 2 ≤ sizeLine; decide), fun t2 nt2 => ?_⟩
        have e7 := Evl.Ex.new (o := .tup [.ref t, .int paid]) nt2
        exact q _ t2 (.ref t) (e05.trans (e6.trans e7)) upd_same ⟨t, rfl, e7 _ _ gt⟩
end
end Wb

set_option Elab.async false
set_option linter.all false
set_option maxRecDepth 100000
set_option maxHeartbeats 4000000
set_option pp.maxSteps 600
set_option pp.deepTerms false
namespace Wb
open PySem PySem.Spec PyProof.Rows L2
abbrev sLWhole : Stmt := topS 42
abbrev sLWalk : Stmt := topS 44
theorem scLWhole : FnScope ["_law_thing", "_law_least_one", "_law_most_one"] ["_law_thing", "_law_least_one", "_law_most_one"] (defScope sLWhole) := ⟨rfl, rfl, rfl, by decide +kernel, rfl, by decide +kernel, by decide +kernel⟩
abbrev nLWalk : List Str := ["_law_lock_here", "_law_stand_here", "_law_things", "_law_total", "_law_nth_one", "_law_thing", "_law_costs", "_law_k", "_law_there", "_law_cost"]
theorem scLWalk : FnScope nLWalk ["_law_lock_here", "_law_stand_here", "_law_things"] (defScope sLWalk) := ⟨rfl, rfl, rfl, by decide +kernel, rfl, by decide +kernel, by decide +kernel⟩
def spLWhole (K : PySem.W.Frag) : Sp := fun vs H Q _ => ∃ (v : V) (d : PyData) (l m : Int), vs = [v, .int l, .int m] ∧ Th K H v d ∧ Q (.bl (wholeB d l m)) H
/-- the prices of the steps that bring a bolt to a place -/
def costsL (l : Lock) (st : Word) (k to : Int) : List Int := ((stepsL l st).filter fun t => decide (t.frm = k) && decide (t.to_ = to)).map (·.price)
theorem upto_at {l : Lock} {st : Word} {k : Nat} {to : Int} : ∀ n, (stepsUpto l st n).filter (fun t => decide (t.frm = (k : Int)) && decide (t.to_ = to)) = if k < n then (stepsOf l st k).filter (fun t => decide (t.to_ = to)) else []
  | 0 => by rw [if_neg (Nat.not_lt_zero k)]; rfl
  | n + 1 => by
    rw [stepsUpto_succ, List.filter_append, upto_at n]
    by_cases h : k = n
    · subst h
      rw [if_neg (Nat.lt_irrefl k), if_pos (Nat.lt_succ_self k), List.nil_append]
      apply List.filter_congr
      intro t ht
      rw [decide_eq_true (of_mem ht).1, Bool.true_and]
    · have z : (stepsOf l st n).filter (fun t => decide (t.frm = (k : Int)) && decide (t.to_ = to)) = [] := by
        rw [List.filter_eq_nil_iff]
        intro t ht
        rw [decide_eq_false (fun e => h (by have := (of_mem ht).1; omega)), Bool.false_and]
        exact Bool.false_ne_true
      rw [z, List.append_nil]
      by_cases h2 : k < n
      · rw [if_pos h2, if_pos (by omega)]
      · rw [if_neg h2, if_neg (by omega)]
theorem costs_head {l : Lock} {st : Word} {k to : Int} (sl : st.length = l.length) (k0 : 0 ≤ k) :
    priceV l st (.tuple [.int k, .int to]) = (match costsL l st k to with | c :: _ => .int c | [] => .non) := by
  obtain ⟨n, rfl⟩ : ∃ n : Nat, k = (n : Int) := ⟨k.toNat, by omega⟩
  have e : costsL l st (n : Int) to = (if n < l.length then (stepsOf l st n).filter (fun t => decide (t.to_ = to)) else []).map (·.price) := by
    unfold costsL stepsL
    rw [upto_at]
  rw [e]
  show (if 0 ≤ ((n : Nat) : Int) ∧ ((n : Nat) : Int) < (st.length : Int) then stepV l st ((n : Nat) : Int).toNat to else .non) = _
  by_cases h : n < l.length
  · rw [if_pos h, if_pos ⟨by omega, by omega⟩, Int.toNat_natCast]
    unfold stepV
    rw [← List.head?_filter]
    cases (stepsOf l st n).filter (fun t => decide (t.to_ = to)) with
    | nil => rfl
    | cons t ts => rfl
  · rw [if_neg h, if_neg (fun z => h (by omega))]
    rfl
section
variable {P : Program} {w : World} {K : PySem.W.Frag} {mg : Str → Option Value} {base : Heap}
theorem ok_lwhole {f : Addr} {fd : FuncData} (F : Fun K "_law_whole" "_law_whole" sLWhole f fd) (B : Bi mg) : FnOk P w K mg base CX0 1 f fd ["_law_thing", "_law_least_one", "_law_most_one"] (spLWhole K) := by
  refine F.ok scLWhole (fun vs H Q E h => ?_) (fun cdv A outer s H vs Q E hr h => ?_)
  · obtain ⟨v, d, l, m, rfl, _⟩ := h; rfl
  · obtain ⟨v, d, l, m, rfl, hv, q⟩ := h
    refine ⟨_, pss_one (ps_ret (pe_and (pe_callB call_isi (by rfl) B.isi boot_isinstance (pa_cons (pv 0) (pa_cons (pe_bltn (v := .ty "int") (by rfl) B.int (by decide +kernel) rfl) pa_nil)))
      (pe_and (pe_not (pe_callB call_isi (by rfl) B.isi boot_isinstance (pa_cons (pv 0) (pa_cons (pe_bltn (v := .ty "bool") (by rfl) B.bool (by decide +kernel) rfl) pa_nil))))
        (pe_one (pe_chain op_le op_le (pv 1) (pv 0) (pv 2)))))), ?_⟩
    refine ⟨v, rfl, v, .ty "int", .type (tyS d), .type "int", isInt d, rfl, .ty _, hv.ty, kit_ty (kit_int d), isInt d, rfl, ?_⟩
    cases hi : isInt d with
    | false =>
      rw [if_neg Bool.false_ne_true]
      have z : wholeB d l m = false := by
        cases d <;> first
          | rfl
          | cases hi
      rw [z] at q
      exact q
    | true =>
      rw [if_pos rfl]
      refine ⟨v, rfl, v, .ty "bool", .type (tyS d), .type "bool", isBool d, rfl, .ty _, hv.ty, kit_ty (kit_bool d), isBool d, rfl, ?_⟩
      cases hb : isBool d with
      | true =>
        refine ⟨false, rfl, ?_⟩
        rw [if_neg Bool.false_ne_true]
        have z : wholeB d l m = false := by
          cases d <;> first
            | rfl
            | cases hb
        rw [z] at q
        exact q
      | false =>
        refine ⟨true, rfl, ?_⟩
        rw [if_pos rfl]
        obtain ⟨i, rfl, rfl⟩ := hv.int_of hi hb
        refine ⟨.int l, rfl, .int i, rfl, l, i, rfl, rfl, decide (l ≤ i), rfl, ?_⟩
        have z : wholeB (.int i) l m = (decide (l ≤ i) && decide (i ≤ m)) := rfl
        rw [z] at q
        by_cases h1 : l ≤ i
        · rw [if_pos (decide_eq_true h1)]
          refine ⟨.int m, rfl, i, m, rfl, rfl, ?_⟩
          rw [decide_eq_true h1] at q
          exact q
        · rw [if_neg (by rw [decide_eq_false h1]; exact Bool.false_ne_true)]
          rw [decide_eq_false h1] at q
          exact q
end
end Wb

set_option Elab.async false
set_option linter.all false
set_option maxRecDepth 100000
set_option maxHeartbeats 4000000
set_option pp.maxSteps 600
set_option pp.deepTerms false
namespace Wb
open PySem PySem.Spec PyProof.Rows L2
section
variable {K : PySem.W.Frag} {H : Hp} {Q : VK} {a b : Addr} {xs ys : List V}
theorem sl_own {lo hi : Option Int} (ha : H a = some (.tup xs)) (q : ∀ H' z, Evl.Ex H H' → H' z = some (.tup (cutV xs lo hi)) → Q (.ref z) H') : rSlA K (.ref a) lo hi H Q := by
  refine ⟨a, xs, rfl, .inl (.inl ha), fun h => ?_, fun _ t nt => ?_⟩
  · exact q H a (Evl.Ex.refl H) (by rw [cutV_whole h]; exact ha)
  · exact q _ t (Evl.Ex.new nt) upd_same
theorem cat_own (ha : H a = some (.tup xs)) (hb : H b = some (.tup ys)) (hz : xs.length + ys.length ≤ sizeLine) (q : ∀ H' z, Evl.Ex H H' → H' z = some (.tup (xs ++ ys)) → Q (.ref z) H') : rCatA K (.ref a) (.ref b) H Q := by
  refine ⟨a, b, xs, ys, rfl, rfl, .inl (.inl ha), .inl (.inl hb), hz, fun h => ?_, fun _ h => ?_, fun _ _ t nt => ?_⟩
  · exact q H b (Evl.Ex.refl H) (by rw [h]; exact hb)
  · exact q H a (Evl.Ex.refl H) (by rw [h, List.append_nil]; exact ha)
  · exact q _ t (Evl.Ex.new nt) upd_same
end
def spAfterW (K : PySem.W.Frag) : Sp := fun vs H Q _ => ∃ (u : V) (st : Word) (k : Nat) (to : Int), vs = [u, .int (k : Nat), .int to] ∧ Wd K H u st ∧ k < st.length ∧ st.length ≤ 100 ∧ ∀ H' z, Evl.Ex H H' → Wd K H' z (st.set k to) → Q z H'
theorem after_set {st : Word} {k : Nat} {to : Int} (h : k < st.length) : st.take k ++ [to] ++ st.drop (k + 1) = st.set k to := by
  rw [List.set_eq_take_append_cons_drop, if_pos h, List.append_assoc]
  rfl
theorem inAll_set {st ms : List Int} {k : Nat} {to m : Int} (h : InAll st ms) (hm : ms[k]? = some m) (h0 : 0 ≤ to) (h1 : to < m) : InAll (st.set k to) ms := by
  refine ⟨by rw [List.length_set]; exact h.1, fun i a b ha hb => ?_⟩
  rw [List.getElem?_set] at ha
  split at ha
  · rename_i e
    subst e
    split at ha
    · cases ha
      rw [hm] at hb
      cases hb
      exact ⟨h0, h1⟩
    · cases ha
  · exact h.2 i a b ha hb
theorem step_to {l : Lock} (ok : LockOk l) {st : Word} {k : Nat} {to c : Int} (h : priceV l st (.tuple [.int (k : Nat), .int to]) = .int c) : k < st.length ∧ ∃ m, (manysOf l)[k]? = some m ∧ 0 ≤ to ∧ to < m ∧ to ≤ 3 := by
  have h' : (if 0 ≤ ((k : Nat) : Int) ∧ ((k : Nat) : Int) < (st.length : Int) then stepV l st ((k : Nat) : Int).toNat to else .non) = V.int c := h
  split at h'
  · rename_i hk
    rw [Int.toNat_natCast] at h'
    unfold stepV at h'
    split at h'
    · rename_i t ht
      have hm := List.mem_of_find?_eq_some ht
      have hp := List.find?_some ht
      have ht2 : t.to_ = to := of_decide_eq_true hp
      obtain ⟨_, b, g, hb, hg, h2, h3⟩ := of_mem hm
      have BO := ok.bolts k b hb
      have G := BO.gaps g hg
      have t0 := G.t0
      have t1 := G.t1
      have m1 := BO.m1
      refine ⟨by omega, b.many, ?_, by omega, by omega, by omega⟩
      unfold manysOf
      rw [List.getElem?_map, hb]
      rfl
    · cases h'
  · cases h'
section
variable {P : Program} {w : World} {K : PySem.W.Frag} {mg : Str → Option Value} {base : Heap}
theorem ok_afterW {f : Addr} {fd : FuncData} (F : Fun K "_law_after" "_law_after" sAfter f fd) : FnOk P w K mg base CX0 1 f fd ["_law_stand_here", "_law_k", "_law_there"] (spAfterW K) := by
  refine F.ok scAfter (fun vs H Q E h => ?_) (fun cdv A outer s H vs Q E hr h => ?_)
  · obtain ⟨u, st, k, to, rfl, _⟩ := h; rfl
  · obtain ⟨u, st, k, to, rfl, ⟨a, rfl, ha⟩, kl, l100, q⟩ := h
    refine ⟨_, pss_one (ps_ret (pe_op op_catA (pe_op op_catA (pe_slice (r := rSlA K) sl_tupA (pv 0) po_none (po_some (pv 1))) (pe_tup (pa_cons (pv 2) pa_nil))) (pe_slice (r := rSlA K) sl_tupA (pv 0) (po_some (pe_op op_add (pv 1) pe_int)) po_none))), ?_⟩
    have ln : (st.map V.int).length = st.length := List.length_map ..
    refine ⟨.ref a, rfl, .int (k : Nat), rfl, (k : Nat), rfl, ?_⟩
    refine sl_own (K := K) (lo := none) (hi := some (k : Nat)) ha fun H1 z1 e1 s1 => ?_
    rw [cut_take, ← List.map_take] at s1
    refine ⟨.int to, rfl, (by show 1 ≤ sizeLine; decide), fun t nt => ?_⟩
    have e2 := Evl.Ex.new (o := .tup [.int to]) nt
    have s2 : (upd H1 t (.tup [.int to])) t = some (.tup [.int to]) := upd_same
    generalize upd H1 t (.tup [.int to]) = H2 at e2 s2
    refine cat_own (K := K) (e2 _ _ s1) s2 (Nat.le_trans (by rw [List.length_map, List.length_take, List.length_singleton]; omega : ((st.take k).map V.int).length + [V.int to].length ≤ 101) (by decide)) fun H3 z3 e3 s3 => ?_
    have a3 := (e1.trans (e2.trans e3)) _ _ ha
    refine ⟨.ref a, rfl, .int (k : Nat), rfl, (k : Nat), 1, rfl, rfl, ((k + 1 : Nat) : Int), by rw [Int.natCast_add]; rfl, ?_⟩
    refine nopart1 ?_
    refine sl_own (K := K) (lo := some ((k + 1 : Nat) : Int)) (hi := none) a3 fun H4 z4 e4 s4 => ?_
    rw [cut_drop (st.map V.int) (k := k + 1) (by rw [ln]; omega), ← List.map_drop] at s4
    refine cat_own (K := K) (e4 _ _ s3) s4 (Nat.le_trans (by simp only [List.length_append, List.length_map, List.length_take, List.length_drop, List.length_singleton]; omega : ((st.take k).map V.int ++ [V.int to]).length + ((st.drop (k + 1)).map V.int).length ≤ 201) (by decide)) fun H5 z5 e5 s5 => ?_
    refine q H5 (.ref z5) (e1.trans (e2.trans (e3.trans (e4.trans e5)))) ⟨z5, rfl, ?_⟩
    rw [← after_set kl, List.map_append, List.map_append]
    exact s5
end
end Wb

set_option Elab.async false
set_option linter.all false
set_option maxRecDepth 100000
set_option maxHeartbeats 4000000
set_option pp.maxSteps 600
set_option pp.deepTerms false
namespace Wb
open PySem PySem.Spec PyProof.Rows L2
/-- data, or a scalar or such a dict -/
def Od (K : PySem.W.Frag) (H : Hp) (v : V) (d : PyData) : Prop := Dp K H v d ∨ Mx H v d
theorem Od.keep {K : PySem.W.Frag} {H H' : Hp} (e : TK K H H') {v : V} {d : PyData} (h : Od K H v d) : Od K H' v d := h.elim (fun h => .inl (Dp.keep e h)) (fun h => .inr (h.keep e))
theorem Od.th {K : PySem.W.Frag} {H : Hp} {v : V} {d : PyData} (h : Od K H v d) : Th K H v d := h.elim .dp .mx
def spLWalk (K : PySem.W.Frag) : Sp := fun vs H Q _ => ∃ (v u x : V) (l : Lock) (st : Word), vs = [v, u, x] ∧ LockAt K H v l ∧ LockOk l ∧ Wd K H u st ∧ InAll st (manysOf l) ∧
  ((∃ d, Th K H x d ∧ isLst d = false ∧ ∀ H' z, Evl.Ex H H' → H' z = some (.lst [.int 0]) → Q (.ref z) H') ∨
    ∃ a xs es, x = .ref a ∧ H a = some (.lst xs) ∧ Paired (Od K H) xs es ∧ xs.length ≤ 1000 ∧ (∀ d ∈ es, isTup d = true → SeqAt.shaped d = true) ∧
      (match walkL l st 0 0 es with
        | .inl n => ∀ H' z, Evl.Ex H H' → H' z = some (.lst [.int (n : Nat)]) → Q (.ref z) H'
        | .inr (st', paid) => ∀ H' t z, Evl.Ex H H' → H' t = some (.tup [z, .int paid]) → Wd K H' z st' → Q (.ref t) H'))
theorem eqv_pair (k to : Int) (k0 : Int) (d1 : PyData) : PyData.eqv (.tuple [.int k, .int to]) (.tuple [.int k0, d1]) = (decide (k = k0) && PyData.eqv (.int to) d1) := by
  have h1 : PyData.eqv (.tuple [.int k, .int to]) (.tuple [.int k0, d1]) = PyData.eqvAll [.int k, .int to] [.int k0, d1] := by rw [PyData.eqv]
  have h2 : PyData.eqv (.int k) (.int k0) = decide (k = k0) := by rw [PyData.eqv, Bool.beq_eq_decide_eq]
  rw [h1, PyData.eqvAll, PyData.eqvAll, PyData.eqvAll, h2, Bool.and_true]
def costsG (l : Lock) (st : Word) (k0 : Int) (d1 : PyData) (m : Nat) : List Int := (((stepsL l st).take m).filter fun t => PyData.eqv (.tuple [.int t.frm, .int t.to_]) (.tuple [.int k0, d1])).map (·.price)
theorem costsG_int (l : Lock) (st : Word) (k0 to : Int) : costsG l st k0 (.int to) (stepsL l st).length = costsL l st k0 to := by
  unfold costsG costsL
  rw [List.take_length]
  congr 1
  apply List.filter_congr
  intro t _
  have h2 : PyData.eqv (.int t.to_) (.int to) = decide (t.to_ = to) := by rw [PyData.eqv, Bool.beq_eq_decide_eq]
  rw [eqv_pair, h2]
section
variable {P : Program} {w : World} {K : PySem.W.Frag} {mg : Str → Option Value} {base : Heap}
theorem ok_lwalk {f f1 f2 f3 : Addr} {fd fd1 fd2 fd3 : FuncData} (F : Fun K "_law_walk" "_law_walk" sLWalk f fd) (F1 : Fun K "_law_whole" "_law_whole" sLWhole f1 fd1) (b1 : Binds K fd1 ["_law_thing", "_law_least_one", "_law_most_one"] []) (g1 : mg "_law_whole" = some (.ref f1))
    (F2 : Fun K "_law_steps" "_law_steps" sSteps f2 fd2) (b2 : Binds K fd2 ["_law_lock_here", "_law_stand_here"] []) (g2 : mg "_law_steps" = some (.ref f2))
    (F3 : Fun K "_law_after" "_law_after" sAfter f3 fd3) (b3 : Binds K fd3 ["_law_stand_here", "_law_k", "_law_there"] []) (g3 : mg "_law_after" = some (.ref f3)) (B : Bi mg) :
    FnOk P w K mg base CX0 2 f fd ["_law_lock_here", "_law_stand_here", "_law_things"] (spLWalk K) := by
  have G1 : FnOk P w K mg base CX0 1 f1 fd1 ["_law_thing", "_law_least_one", "_law_most_one"] (spLWhole K) := ok_lwhole F1 B
  have G2 : FnOk P w K mg base CX0 1 f2 fd2 ["_law_lock_here", "_law_stand_here"] (spSteps K) := ok_lsteps F2 B
  have G3 : FnOk P w K mg base CX0 1 f3 fd3 ["_law_stand_here", "_law_k", "_law_there"] (spAfterW K) := ok_afterW F3
  refine F.ok scLWalk (fun vs H Q E h => ?_) (fun cdv A outer s H vs Q E hr h => ?_)
  · obtain ⟨v, u, x, l, st, rfl, _⟩ := h; rfl
  · obtain ⟨v, u, x, l, st, rfl, hv, ok, hu, hin, h⟩ := h
    refine ⟨_, pss_cons (ps_set (i := 3) scLWalk.nd rfl (.inl rfl) pe_int)
      (pss_cons (ps_if (pt_not (pt_val (pe_callB call_isi (by rfl) B.isi boot_isinstance (pa_cons (pv 2) (pa_cons (pe_bltn (v := .ty "list") (by rfl) B.list (by decide +kernel) rfl) pa_nil))))) (pss_one (ps_ret (pe_lst (pa_cons pe_int pa_nil)))) pss_nil)
      (pss_cons (ps_for PassesOwn.never rfl (pi_range1 (by rfl) B.range (pa_cons (pe_callB call_len_seq (by rfl) B.len PySem.boot_len (pa_cons (pv 2) pa_nil)) pa_nil)) (pg_name (i := 4) scLWalk.nd rfl (.inl rfl))
        (pss_cons (ps_set (i := 5) scLWalk.nd rfl (.inr rfl) (pe_ix ix_list (pv 2) (pv 4) (fun _ _ => rfl)))
        (pss_cons (ps_if (PW.pt (pw_or (pt_not (pt_val (pe_callB call_isi (by rfl) B.isi boot_isinstance (pa_cons (pv 5) (pa_cons (pe_bltn (v := .ty "tuple") (by rfl) B.tuple (by decide +kernel) rfl) pa_nil)))))
              (pw_or (pt_cmpR op_ne (pe_callB call_len_seq (by rfl) B.len PySem.boot_len (pa_cons (pv 5) pa_nil)) pe_int (nomark _))
                (pw_or1 (pt_not (pt_val (pe_call G1 hr (by rfl) g1 F1.kp b1 .nil pass0 (pa_cons (pe_ix (r := rIxT K) ix_tup (pv 5) pe_int (fun _ _ => rfl)) (pa_cons pe_int (pa_cons pe_int pa_nil))))))))))
            (pss_one (ps_ret (pe_lst (pa_cons (pv 4) pa_nil)))) pss_nil)
        (pss_cons (ps_setLc (i := 6) (own := [("_law_k", 7), ("_law_there", 8), ("_law_cost", 9)]) (g := gTup K 3 (gCons (gName 7) (gCons (gName 8) (gCons (gName 9) gNil)))) (by rfl) scLWalk.nd rfl rfl (sw_true rfl rfl rfl (by decide +kernel)) (pi_list (pe_call G2 hr (by rfl) g2 F2.kp b2 .nil pass0 (pa_cons (pv 0) (pa_cons (pv 1) pa_nil)))) (blkOk_by (own := [("_law_k", 7), ("_law_there", 8), ("_law_cost", 9)]) (N := nLWalk) (sc := defScope sLWalk) (by decide +kernel))
            (fun _ _ _ _ _ => pg_tup rfl (pgs_cons (pg_name (i := 7) scLWalk.nd rfl (Or.inl rfl)) (pgs_cons (pg_name (i := 8) scLWalk.nd rfl (Or.inl rfl)) (pgs_cons (pg_name (i := 9) scLWalk.nd rfl (Or.inl rfl)) pgs_nil))))
            (fun _ _ _ _ _ => pts_one (pt_cmpR (r := rEqD K) (op_eqD hr.units) (pe_tup (pa_cons (pv 7) (pa_cons (pv 8) pa_nil))) (pv 5) (nomark _))) (fun _ _ _ _ _ => pv 9))
        (pss_cons (ps_if (PW.pt (pw_or (pt_not (pt_val (pe_call G1 hr (by rfl) g1 F1.kp b1 .nil pass0 (pa_cons (pe_ix (r := rIxT K) ix_tup (pv 5) pe_int (fun _ _ => rfl)) (pa_cons pe_int (pa_cons pe_int pa_nil))))))
              (pw_or1 (pt_cmpR (op_eqD hr.units) (pv 6) (pe_lst pa_nil) (nomark _)))))
            (pss_one (ps_ret (pe_lst (pa_cons (pv 4) pa_nil)))) pss_nil)
        (pss_one (ps_par (by rfl) scLWalk.nd (i := 1) (j := 3) rfl rfl (by decide) rfl rfl (pa_cons (pe_call G3 hr (by rfl) g3 F3.kp b3 .nil pass0 (pa_cons (pv 1) (pa_cons (pe_ix (r := rIxT K) ix_tup (pv 5) pe_int (fun _ _ => rfl)) (pa_cons (pe_ix (r := rIxT K) ix_tup (pv 5) pe_int (fun _ _ => rfl)) pa_nil))))
            (pa_cons (pe_op op_add (pv 3) (pe_ix ix_list (pv 6) pe_int (fun _ _ => rfl))) pa_nil)) (by rfl))))))))
      (pss_one (ps_ret (pe_tup (pa_cons (pv 1) (pa_cons (pv 3) pa_nil))))))), ?_⟩
    have n60 := ok.n1
    rcases h with ⟨d, hx, hnl, q⟩ | ⟨a, xs, es, rfl, ha, hxs, x1000, hsh, q⟩
    · refine ⟨x, rfl, x, .ty "list", .type (tyS d), .type "list", isLst d, rfl, .ty _, hx.ty, kit_ty (kit_lst d), isLst d, rfl, ?_⟩
      rw [hnl]
      refine iteT ?_
      exact ⟨(by show 1 ≤ sizeLine; decide), fun z nz => q _ z (Evl.Ex.new nz) upd_same⟩
    · refine ⟨.ref a, rfl, .ref a, .ty "list", .type "list", .type "list", true, rfl, .ty _, .base (.lst ha), kit_ty (by decide +kernel), true, rfl, ?_⟩
      refine iteF ?_
      have xl : xs.length = es.length := Paired.len hxs
      refine ⟨.ref a, rfl, a, xs, rfl, .inl (SqL.of ha), _, rfl, by omega, by omega, ?_⟩
      refine for_range (lo := 0) (n := ((xs.length : Nat) : Int).toNat) (fun i σ H' => ∃ (u' : V) (st' : Word) (paid : Int) (y4 y5 y6 y7 y8 y9 : Option V), σ = [some v, some u', some (.ref a), some (.int paid), y4, y5, y6, y7, y8, y9] ∧ Evl.Ex H H' ∧ Wd K H' u' st' ∧ InAll st' (manysOf l) ∧ walkL l st 0 0 es = walkL l st' paid i (es.drop i))
        ⟨u, st, 0, none, none, none, none, none, none, rfl, Evl.Ex.refl H, hu, hin, by rw [List.drop_zero]⟩ ?_ ?_
      · rintro i σ H1 hi ⟨u', st', paid, y4, y5, y6, y7, y8, y9, rfl, e1, hu', hin', hw⟩
        have ei : (0 : Int) + (i : Nat) = ((i : Nat) : Int) := by omega
        rw [ei]
        obtain ⟨z, hz⟩ : ∃ z, xs[i]? = some z := ⟨xs[i], List.getElem?_eq_getElem (by omega)⟩
        obtain ⟨d, hd, hod⟩ := Paired.get1 hxs hz
        have hod1 := hod.keep (TK.ex e1)
        have sl' : st'.length = l.length := by
          have := hin'.1
          unfold manysOf at this
          rwa [List.length_map] at this
        have hdrop : es.drop i = d :: es.drop (i + 1) := by
          obtain ⟨hl, he⟩ := List.getElem?_eq_some_iff.mp hd
          rw [List.drop_eq_getElem_cons hl, he]
        have none_ : priceV l st' d = .non → ∀ (H' : Hp) (z : Addr), Evl.Ex H H' → H' z = some (.lst [.int (i : Nat)]) → Q (.ref z) H' := fun hp => by
          have hw2 : walkL l st 0 0 es = .inl i := by rw [hw, hdrop, walkL, hp]
          rw [hw2] at q
          exact q
        refine ⟨.ref a, rfl, .int (i : Nat), rfl, a, xs, (i : Nat), z, rfl, rfl, SqL.of (e1 _ _ ha), atI_nat hz, ?_⟩
        refine ⟨z, rfl, z, .ty "tuple", .type (tyS d), .type "tuple", isTup d, rfl, .ty _, hod1.th.ty, kit_ty (kit_tup d), isTup d, rfl, ?_⟩
        cases ht : isTup d with
        | false =>
          refine iteT (iteT ?_)
          have hp : priceV l st' d = .non := by
            unfold priceV
            split
            · cases ht
            · rfl
          exact ⟨.int (i : Nat), rfl, (by show 1 ≤ sizeLine; decide), fun z nz => none_ hp _ z (e1.trans (Evl.Ex.new nz)) upd_same⟩
        | true =>
          refine iteF ?_
          have hshd := hsh d (List.mem_of_getElem? hd) ht
          obtain ⟨ds, rfl⟩ := tup_of ht
          have hdp : Dp K H1 z (.tuple ds) := by
            rcases hod1 with h | h
            · exact h
            · cases h
          obtain ⟨za, zs, rfl, hzs, hzi⟩ := hod1.th.items
          have zl := hzi.len
          refine ⟨.ref za, rfl, za, zs, rfl, .inr hzs, rfl, _, rfl, ?_⟩
          refine ite2 (fun hc => ?_) (fun hc => ?_)
          · have ne2 : ds.length ≠ 2 := fun e => by
              have z2 : V.int (zs.length : Nat) = V.int 2 := by rw [zl, e]; rfl
              rw [decide_eq_true z2] at hc
              cases hc
            have hp : priceV l st' (.tuple ds) = .non := by
              unfold priceV
              split
              · rename_i e
                have := PyData.tuple.inj e
                rw [this] at ne2
                exact absurd rfl ne2
              · rfl
            refine iteT ?_
            exact ⟨.int (i : Nat), rfl, (by show 1 ≤ sizeLine; decide), fun z nz => none_ hp _ z (e1.trans (Evl.Ex.new nz)) upd_same⟩
          · have e2 : ds.length = 2 := Classical.byContradiction fun e => hc (by
              have z2 : ¬ V.int (zs.length : Nat) = V.int 2 := fun y => e (by have := V.int.inj y; omega)
              rw [decide_eq_false z2]
              rfl)
            obtain ⟨d0, d1, rfl⟩ : ∃ d0 d1, ds = [d0, d1] := by
              match ds, e2 with
              | [d0, d1], _ => exact ⟨d0, d1, rfl⟩
            obtain ⟨z0, z1, rfl⟩ : ∃ z0 z1, zs = [z0, z1] := by
              match zs, zl with
              | [z0, z1], _ => exact ⟨z0, z1, rfl⟩
            obtain ⟨d0', hd0, th0⟩ := hzi.get (i := 0) (x := z0) rfl
            obtain ⟨d1', hd1, th1⟩ := hzi.get (i := 1) (x := z1) rfl
            cases hd0
            cases hd1
            refine ⟨.ref za, rfl, za, _, 0, z0, rfl, rfl, hzs, atI_nat (j := 0) rfl, z0, d0, 0, 59, rfl, th0, _, rfl, ?_⟩
            cases hw0 : wholeB d0 0 59 with
            | false =>
              refine iteT ?_
              have hp : priceV l st' (.tuple [d0, d1]) = .non := by
                unfold priceV
                split
                · rename_i k to e
                  have e0 : d0 = .int k := (List.cons.inj (PyData.tuple.inj e)).1
                  subst e0
                  refine if_neg fun z => ?_
                  have hw0' : (decide (0 ≤ k) && decide (k ≤ 59)) = false := hw0
                  rw [decide_eq_true z.1, decide_eq_true (by omega)] at hw0'
                  cases hw0'
                · rfl
              exact ⟨.int (i : Nat), rfl, (by show 1 ≤ sizeLine; decide), fun z nz => none_ hp _ z (e1.trans (Evl.Ex.new nz)) upd_same⟩
            | true =>
              refine iteF ?_
              obtain ⟨k', rfl, rfl⟩ : ∃ k', d0 = .int k' ∧ z0 = .int k' := by
                have hp0 : plainInt d0 = true := by
                  cases d0 <;> first
                    | rfl
                    | cases hw0
                exact plain_of th0 hp0
              have hw0' : (decide (0 ≤ k') && decide (k' ≤ 59)) = true := hw0
              rw [Bool.and_eq_true] at hw0'
              have k0 : 0 ≤ k' := of_decide_eq_true hw0'.1
              -- the costs
              refine ⟨v, rfl, u', rfl, v, u', l, st', rfl, hv.mono (TX.ex e1), ok, hu', hin', fun H2 r us e2 nr hr2 hus => ?_⟩
              refine ⟨r, rfl, ⟨_, SqL.of hr2⟩, fun D hD => ?_⟩
              have ul : us.length = (stepsL l st').length := Paired.len hus
              refine lc_list (K := K) (a := r) (xs := us) (fun m H' => Evl.Ex H2 H' ∧ H' D = some (.lst ((costsG l st' k' d1 m).map V.int)) ∧ (costsG l st' k' d1 m).length ≤ m) ⟨Evl.Ex.new hD, upd_same, Nat.le_refl _⟩ ?_ ?_ ?_
              · rintro m H' _ ⟨e, _⟩
                exact SqL.of (e _ _ hr2)
              · rintro m x H3 hm ⟨e3, hD3, cl⟩
                obtain ⟨t, ht', ⟨at_, rfl, hat⟩⟩ := Paired.get1 hus hm
                have ml : m < 480 := by
                  have := (List.getElem?_eq_some_iff.mp ht').1
                  have := steps_len ok st'
                  omega
                have hat3 := e3 _ _ hat
                have e23 := e2.trans e3
                refine ⟨at_, _, rfl, .inl (.inl hat3), rfl, _, _, rfl, _, _, rfl, _, _, rfl, rfl, ?_⟩
                refine ⟨rfl, ?_⟩
                refine ⟨.int t.frm, rfl, .int t.to_, rfl, (by show 2 ≤ sizeLine; decide), fun tp ntp => ?_⟩
                have e4 := Evl.Ex.new (o := .tup [.int t.frm, .int t.to_]) ntp
                have e24 := e23.trans e4
                have shp : SeqAt.shaped (.tuple [.int t.frm, .int t.to_]) = true := by
                  have tk := steps_ok ok (List.mem_of_getElem? ht')
                  exact (fine_tup (FineAll.cons (fine_small tk.f0 tk.f1) (FineAll.cons (fine_small tk.t0 tk.t1) FineAll.nil))).shaped (by decide)
                refine ⟨.ref za, rfl, .tuple [.int t.frm, .int t.to_], .tuple [.int k', d1], .tup (.inl (.inl upd_same)) (.cons (.int _) (.cons (.int _) .nil)), Dp.keep (TK.ex e24) hdp, shp, hshd, _, rfl, ?_⟩
                have hD4 := e4 _ _ hD3
                have succ : costsG l st' k' d1 (m + 1) = costsG l st' k' d1 m ++ (if PyData.eqv (.tuple [.int t.frm, .int t.to_]) (.tuple [.int k', d1]) = true then [t.price] else []) := by
                  unfold costsG
                  rw [take_succ_get ht', List.filter_append, List.map_append, List.filter_cons]
                  congr 1
                  split <;> rfl
                refine ite2 (fun hc2 => ?_) (fun hc2 => ?_)
                · refine ⟨.int t.price, rfl, _, hD4, Nat.lt_of_le_of_lt (by rw [List.length_map]; omega : ((costsG l st' k' d1 m).map V.int).length ≤ 480) (by decide), (e3.trans e4).mut hD, ?_, ?_⟩
                  · rw [upd_same, succ, if_pos hc2, List.map_append]
                    rfl
                  · rw [succ, if_pos hc2, List.length_append]
                    simp
                    omega
                · refine ⟨e3.trans e4, ?_, ?_⟩
                  · rw [hD4, succ, if_neg hc2, List.append_nil]
                  · rw [succ, if_neg hc2, List.append_nil]
                    omega
              · rintro H3 ⟨e3, hD3, cl⟩
                rw [ul] at hD3 cl
                have e13 := e2.trans e3
                have e03 := e1.trans e13
                refine ⟨.ref za, rfl, za, _, 1, z1, rfl, rfl, Evl.ex_t e13 hzs, atI_nat (j := 1) rfl, z1, d1, 0, 3, rfl, th1.keep (TK.ex e13), _, rfl, ?_⟩
                cases hw1 : wholeB d1 0 3 with
                | false =>
                  refine iteT (iteT ?_)
                  have hp : priceV l st' (.tuple [.int k', d1]) = .non := by
                    rcases priceV_cases l st' (.tuple [.int k', d1]) with h | ⟨c, h⟩
                    · exact h
                    · obtain ⟨k, to, e, kl⟩ := priceV_int h
                      have e0 := (List.cons.inj (PyData.tuple.inj e)).1
                      have e1' := (List.cons.inj (List.cons.inj (PyData.tuple.inj e)).2).1
                      cases e0
                      subst e1'
                      obtain ⟨_, m, _, t0, _, t3⟩ := step_to ok h
                      have hw1' : (decide (0 ≤ to) && decide (to ≤ 3)) = false := hw1
                      rw [decide_eq_true t0, decide_eq_true t3] at hw1'
                      cases hw1'
                  exact ⟨.int (i : Nat), rfl, (by show 1 ≤ sizeLine; decide), fun z nz => none_ hp _ z (e03.trans (Evl.Ex.new nz)) upd_same⟩
                | true =>
                  refine iteF ?_
                  obtain ⟨to, rfl, rfl⟩ : ∃ to, d1 = .int to ∧ z1 = .int to := by
                    have hp1 : plainInt d1 = true := by
                      cases d1 <;> first
                        | rfl
                        | cases hw1
                    exact plain_of th1 hp1
                  rw [costsG_int] at hD3 cl
                  have hhead := costs_head (l := l) (st := st') (k := k') (to := to) sl' k0
                  refine ⟨.ref D, rfl, Nat.zero_le _, fun e ne => ?_⟩
                  have e4 := Evl.Ex.new (o := .lst []) ne
                  have hD4 := e4 _ _ hD3
                  refine ⟨.list ((costsL l st' k' to).map PyData.int), .list [], .lst (.inl (.inl hD4)) (dp_ints _), .lst (.inl (.inl upd_same)) .nil, ints_shaped _, (by decide), _, rfl, ?_⟩
                  generalize upd H3 e (.lst []) = H4 at e4 hD4
                  have e14 := e13.trans e4
                  cases hcs : costsL l st' k' to with
                  | nil =>
                    refine iteT ?_
                    rw [hcs] at hhead
                    exact ⟨.int (i : Nat), rfl, (by show 1 ≤ sizeLine; decide), fun z nz => none_ hhead _ z (e1.trans (e14.trans (Evl.Ex.new nz))) upd_same⟩
                  | cons c cs =>
                    refine iteF ?_
                    rw [hcs] at hhead hD4
                    obtain ⟨k, rfl⟩ : ∃ n : Nat, k' = (n : Int) := ⟨k'.toNat, by omega⟩
                    obtain ⟨kl, m, hm, t0, tm, _⟩ := step_to ok hhead
                    have hzs4 := Evl.ex_t e14 hzs
                    refine ⟨u', rfl, .ref za, rfl, za, _, 0, .int (k : Nat), rfl, rfl, hzs4, atI_nat (j := 0) rfl, .ref za, rfl, za, _, 1, .int to, rfl, rfl, hzs4, atI_nat (j := 1) rfl, ?_⟩
                    refine ⟨u', st', k, to, rfl, wd_ex e14 hu', kl, by omega, fun H5 u2 e5 hu2 => ?_⟩
                    refine ⟨.int paid, rfl, .ref D, rfl, D, _, 0, .int c, rfl, rfl, SqL.of (e5 _ _ hD4), atI_nat (j := 0) rfl, paid, c, rfl, rfl, ?_⟩
                    have hw2 : walkL l st 0 0 es = walkL l (stepTo st' (.tuple [.int (k : Nat), .int to])) (paid + c) (i + 1) (es.drop (i + 1)) := by
                      rw [hw, hdrop, walkL, hhead]
                    refine ⟨u2, .int (paid + c), rfl, u2, st'.set k to, paid + c, _, _, _, _, _, _, rfl, e1.trans (e14.trans e5), hu2, inAll_set hin' hm t0 tm, ?_⟩
                    rw [hw2]
                    rfl
      · rintro σ H1 ⟨u', st', paid, y4, y5, y6, y7, y8, y9, rfl, e1, hu', hin', hw⟩
        rw [Int.toNat_natCast, xl, List.drop_length] at hw
        rw [hw] at q
        refine ⟨u', rfl, .int paid, rfl, (by show 2 ≤ sizeLine; decide), fun t nt => ?_⟩
        have e2 := Evl.Ex.new (o := .tup [u', .int paid]) nt
        exact q _ t u' (e1.trans e2) upd_same (wd_ex e2 hu')
end
end Wb

set_option Elab.async false
set_option linter.all false
set_option maxRecDepth 100000
set_option maxHeartbeats 4000000
set_option pp.maxSteps 600
set_option pp.deepTerms false
namespace Wb
open PySem PySem.Spec PyProof.Rows L2
abbrev sRows : Stmt := topS 46
abbrev nRows : List Str := ["_law_pen_here", "_law_lock_here", "_law_stand_here", "_law_found", "_law_turn", "_law_some", "_law_one"]
theorem scRows : FnScope nRows ["_law_pen_here", "_law_lock_here", "_law_stand_here"] (defScope sRows) := ⟨rfl, rfl, rfl, by decide +kernel, rfl, by decide +kernel, by decide +kernel⟩
/-- a pair of small ints -/
def PairAt (K : PySem.W.Frag) (H : Hp) (v : V) (d : PyData) : Prop := Dp K H v d ∧ ∃ k to : Int, d = .tuple [.int k, .int to] ∧ 0 ≤ k ∧ k ≤ 1000000 ∧ 0 ≤ to ∧ to ≤ 1000000
def spRows (K : PySem.W.Frag) : Sp := fun vs H Q _ => ∃ (p c : Addr) (v u : V) (l : Lock) (st : Word) (T : Int), vs = [.ref p, v, u] ∧ PenAt H p c T ∧ T ≤ 9000000 ∧ LockAt K H v l ∧ LockOk l ∧ Wd K H u st ∧ InAll st (manysOf l) ∧
  ∀ H' z xs es, Exx p H H' → PenAt H' p c (T + 40) → H z = none → H' z = some (.lst xs) → Paired (PairAt K H') xs es → xs.length ≤ 16 → Q (.ref z) H'
theorem PairAt.keep {K : PySem.W.Frag} {H H' : Hp} (e : TK K H H') {v : V} {d : PyData} (h : PairAt K H v d) : PairAt K H' v d := ⟨Dp.keep e h.1, h.2⟩
theorem steps_in {l : Lock} (ok : LockOk l) {st : Word} (hin : InAll st (manysOf l)) {t : Tr3} (h : t ∈ stepsL l st) : ∃ k : Nat, t.frm = (k : Int) ∧ k < st.length ∧ InAll (st.set k t.to_) (manysOf l) := by
  obtain ⟨n, hn, h⟩ := List.mem_flatMap.mp h
  obtain ⟨h1, b, g, hb, hg, h2, h3⟩ := of_mem h
  have nl : n < l.length := (List.getElem?_eq_some_iff.mp hb).1
  have G := (ok.bolts n b hb).gaps g hg
  have t0 := G.t0
  have t1 := G.t1
  have sl : st.length = l.length := by
    have := hin.1
    unfold manysOf at this
    rwa [List.length_map] at this
  have mm : (manysOf l)[n]? = some b.many := by
    unfold manysOf
    rw [List.getElem?_map, hb]
    rfl
  exact ⟨n, h1, by omega, inAll_set hin mm (by omega) (by omega)⟩
section
variable {P : Program} {w : World} {K : PySem.W.Frag} {mg : Str → Option Value} {base : Heap}
theorem ok_rows {f f1 f2 f3 f4 : Addr} {fd fd1 fd2 fd3 fd4 : FuncData} (F : Fun K "_law_rows" "_law_rows" sRows f fd) (F1 : Fun K "_law_draw" "_law_draw" sDraw f1 fd1) (b1 : Binds K fd1 ["_law_pen_here", "_law_many"] []) (g1 : mg "_law_draw" = some (.ref f1))
    (F2 : Fun K "_law_pick" "_law_pick" sPick f2 fd2) (b2 : Binds K fd2 ["_law_pen_here", "_law_some"] []) (g2 : mg "_law_pick" = some (.ref f2))
    (F3 : Fun K "_law_steps" "_law_steps" sSteps f3 fd3) (b3 : Binds K fd3 ["_law_lock_here", "_law_stand_here"] []) (g3 : mg "_law_steps" = some (.ref f3))
    (F4 : Fun K "_law_after" "_law_after" sAfter f4 fd4) (b4 : Binds K fd4 ["_law_stand_here", "_law_k", "_law_there"] []) (g4 : mg "_law_after" = some (.ref f4)) (B : Bi mg) :
    FnOk P w K mg base CX0 3 f fd ["_law_pen_here", "_law_lock_here", "_law_stand_here"] (spRows K) := by
  have G1 : FnOk P w K mg base CX0 1 f1 fd1 ["_law_pen_here", "_law_many"] spDraw := ok_draw F1 B
  have G2 : FnOk P w K mg base CX0 2 f2 fd2 ["_law_pen_here", "_law_some"] (spPick K) := ok_pick F2 F1 b1 g1 B
  have G3 : FnOk P w K mg base CX0 1 f3 fd3 ["_law_lock_here", "_law_stand_here"] (spSteps K) := ok_lsteps F3 B
  have G4 : FnOk P w K mg base CX0 1 f4 fd4 ["_law_stand_here", "_law_k", "_law_there"] (spAfterW K) := ok_afterW F4
  refine F.ok scRows (fun vs H Q E h => ?_) (fun cdv A outer s H vs Q E hr h => ?_)
  · obtain ⟨p, c, v, u, l, st, T, rfl, _⟩ := h; rfl
  · obtain ⟨p, c, v, u, l, st, T, rfl, hp, T9, hL, ok, hu, hin, q⟩ := h
    have hr1 : Room 1 _ := hr.mono (by decide)
    refine ⟨_, pss_cons (ps_set (i := 3) scRows.nd rfl (.inl rfl) (pe_lst pa_nil))
      (pss_cons (ps_for PassesOwn.never rfl (pi_range1 (by rfl) B.range (pa_cons (pe_call G1 hr1 (by rfl) g1 F1.kp b1 .nil pass0 (pa_cons (pv 0) (pa_cons pe_int pa_nil))) pa_nil)) (pg_name (i := 4) scRows.nd rfl (.inl rfl))
        (pss_cons (ps_set (i := 5) scRows.nd rfl (.inl rfl) (pe_call G3 hr1 (by rfl) g3 F3.kp b3 .nil pass0 (pa_cons (pv 1) (pa_cons (pv 2) pa_nil))))
        (pss_one (ps_if (pt_cmpR (op_neD hr.units) (pv 5) (pe_lst pa_nil) (nomark _))
          (pss_cons (ps_set (i := 6) scRows.nd rfl (.inl rfl) (pe_call G2 hr (by rfl) g2 F2.kp b2 .nil pass0 (pa_cons (pv 0) (pa_cons (pv 5) pa_nil))))
          (pss_cons (ps_expr (pe_bm PySem.F.plainAttrs_list PySem.F.slot_list_append PySem.F.type_list_append mt_append (pv 3) (pa_cons (pe_slice (r := rSlA K) sl_tupA (pv 6) po_none (po_some pe_int)) pa_nil)))
          (pss_one (ps_set (i := 2) scRows.nd rfl (.inl rfl) (pe_call G4 hr1 (by rfl) g4 F4.kp b4 .nil pass0 (pa_cons (pv 2) (pa_cons (pe_ix (r := rIxT K) ix_tup (pv 6) pe_int (fun _ _ => rfl)) (pa_cons (pe_ix (r := rIxT K) ix_tup (pv 6) pe_int (fun _ _ => rfl)) pa_nil)))))))) pss_nil))))
      (pss_one (ps_ret (pv 3)))), ?_⟩
    have l60 := ok.n1
    refine ⟨Nat.zero_le _, fun r0 nr0 => ?_⟩
    have nrp : r0 ≠ p := hp.new1 nr0
    have nrc : r0 ≠ c := hp.new2 nr0
    have e1 := Evl.Ex.new (o := .lst []) nr0
    have g1' : (upd H r0 (.lst [])) r0 = some (.lst []) := upd_same
    have hp1 := hp.ex e1
    generalize upd H r0 (.lst []) = H1 at e1 g1' hp1
    refine ⟨.ref p, rfl, p, c, 16, _, rfl, hp1, by decide, by decide, by omega, fun n H2 n0 n16 x2 hp2 => ?_⟩
    have x02 : Exx p H H2 := (Exx.ex e1).trans x2
    refine ⟨n, rfl, by omega, by omega, ?_⟩
    refine for_range (lo := 0) (n := n.toNat) (fun i σ H' => ∃ (u' : V) (st' : Word) (xs : List V) (es : List PyData) (y4 y5 y6 : Option V), σ = [some (.ref p), some v, some u', some (.ref r0), y4, y5, y6] ∧ Exx p H H' ∧ PenAt H' p c (T + 1 + (i : Nat)) ∧ H' r0 = some (.lst xs) ∧ Paired (PairAt K H') xs es ∧ xs.length ≤ i ∧ Wd K H' u' st' ∧ InAll st' (manysOf l))
      ⟨u, st, [], [], none, none, none, rfl, x02, hp2.mono (by omega), x2 _ _ nrp g1', .nil, Nat.le_refl _, Wd.mono (hp.tx x02) hu, hin⟩ ?_ ?_
    · rintro i σ H3 hi ⟨u', st', xs, es, y4, y5, y6, rfl, x3, hp3, hr3, hxs, xl, hu3, hin3⟩
      refine ⟨v, rfl, u', rfl, v, u', l, st', rfl, hL.mono (hp.tx x3), ok, hu3, hin3, fun H4 sm us e4 nsm hsm hus => ?_⟩
      have fs := fine_Ts (fun t ht => steps_ok ok (st := st') ht) (Nat.le_trans (steps_len ok st') (by decide))
      have hp4 := hp3.ex e4
      have nsp : sm ≠ p := hp3.new1 nsm
      refine ⟨.ref sm, rfl, Nat.zero_le _, fun e ne => ?_⟩
      have e5 := Evl.Ex.new (o := .lst []) ne
      have hsm5 := e5 _ _ hsm
      refine ⟨.list ((stepsL l st').map dT), .list [], .lst (.inl (.inl hsm5)) (dp_all (F := TrAt _) (f := dT) (fun _ _ => dp_T) (Paired.imp (fun _ _ => TrAt.new e5) hus)), .lst (.inl (.inl upd_same)) .nil, fs.shaped (by decide), (by decide), _, rfl, ?_⟩
      generalize upd H4 e (.lst []) = H5 at e5 hsm5
      have e35 := e4.trans e5
      have hp5 := hp3.ex e35
      have stay : ∃ (u2 : V) (st2 : Word) (xs2 : List V) (es2 : List PyData) (y4' y5' y6' : Option V), ([some (.ref p), some v, some u', some (.ref r0), some (.int (0 + (i : Nat))), some (.ref sm), y6] : L2.St) = [some (.ref p), some v, some u2, some (.ref r0), y4', y5', y6'] ∧ Exx p H H5 ∧ PenAt H5 p c (T + 1 + ((i + 1 : Nat) : Int)) ∧ H5 r0 = some (.lst xs2) ∧ Paired (PairAt K H5) xs2 es2 ∧ xs2.length ≤ i + 1 ∧ Wd K H5 u2 st2 ∧ InAll st2 (manysOf l) := by
        exact ⟨u', st', xs, es, _, _, _, rfl, x3.trans (Exx.ex e35), hp5.mono (by omega), e35 _ _ hr3, Paired.imp (fun _ _ => PairAt.keep (TK.ex e35)) hxs, by omega, wd_ex e35 hu3, hin3⟩
      have ulen : us.length = (stepsL l st').length := Paired.len hus
      cases hst : stepsL l st' with
      | nil =>
        refine iteF ?_
        obtain ⟨a1, a2, a3, a4, a5, a6, a7, h1, h2⟩ := stay
        refine ⟨a1, a2, a3, a4, a5, a6, a7, ?_, h2⟩
        exact h1
      | cons t0 ts =>
        refine iteT ?_
        have une : us ≠ [] := fun z => by rw [z, hst] at ulen; simp at ulen
        have u480 := steps_len ok st'
        refine ⟨.ref p, rfl, .ref sm, rfl, p, c, sm, _, us, rfl, hp5, by omega, .inl (.inl hsm5), nsp, une, by omega, fun x H6 hx x6 hp6 => ?_⟩
        obtain ⟨j, hj⟩ := List.mem_iff_getElem?.mp hx
        obtain ⟨t, ht, ⟨at_, rfl, hat⟩⟩ := Paired.get1 hus hj
        have tm := List.mem_of_getElem? ht
        have tok := steps_ok ok tm
        obtain ⟨k, hk, kl, hin6⟩ := steps_in ok hin3 tm
        have tk6 : TK K H3 H6 := (TK.ex e35).trans (hp5.tk x6)
        have x36 : Exx p H3 H6 := (Exx.ex e35).trans x6
        have hat6 : H6 at_ = some (.tup [.int t.frm, .int t.to_, .int t.price]) := (hp5.tx (K := K) x6).2 _ _ (e5 _ _ hat)
        have hr6 := x36 _ _ nrp hr3
        have hu6 : Wd K H6 u' st' := Wd.mono (hp3.tx x36) hu3
        have hxs6 : Paired (PairAt K H6) xs es := Paired.imp (fun _ _ => PairAt.keep tk6) hxs
        refine ⟨.ref r0, rfl, .inl ⟨rfl, _, SqL.of hr6⟩, .ref at_, rfl, 2, rfl, ?_⟩
        refine sl_own (K := K) (lo := none) (hi := some 2) hat6 fun H7 z7 e7 s7 => ?_
        have cz : cutV [V.int t.frm, V.int t.to_, V.int t.price] none (some 2) = [.int t.frm, .int t.to_] := cut_take _ 2
        rw [cz] at s7
        have hr7 := e7 _ _ hr6
        refine ⟨r0, xs, _, rfl, rfl, hr7, Nat.lt_of_le_of_lt (by omega : xs.length ≤ 16) (by decide), ?_⟩
        have nz : z7 ≠ r0 := fun z => by rw [z, hr7] at s7; cases s7
        have hp7 := hp6.ex e7
        have x07 : Exx p H (upd H7 r0 (.lst (xs ++ [.ref z7]))) := (x3.trans (x36.trans (Exx.ex e7))).mut nr0
        have dput : ∀ {y : V} {d : PyData}, PairAt K H7 y d → PairAt K (upd H7 r0 (.lst (xs ++ [.ref z7]))) y d := fun {y d} hy => by
          obtain ⟨hd, k1, k2, rfl, hb⟩ := hy
          cases hd with
          | tup hsq hall =>
            cases hall with
            | cons h1 h2 =>
              cases h1
              cases h2 with
              | cons h3 h4 =>
                cases h3
                cases h4
                exact ⟨.tup ((TX.put hr7).1 _ _ hsq) (.cons (.int _) (.cons (.int _) .nil)), k1, k2, rfl, hb⟩
        have gr : (upd H7 r0 (.lst (xs ++ [.ref z7]))) r0 = some (.lst (xs ++ [.ref z7])) := upd_same
        have pairs : Paired (PairAt K (upd H7 r0 (.lst (xs ++ [.ref z7])))) (xs ++ [.ref z7]) (es ++ [.tuple [.int t.frm, .int t.to_]]) := by
          refine Paired.imp (fun _ _ => dput) (paired_app1 (Paired.imp (fun _ _ => PairAt.keep (TK.ex e7)) hxs6) ⟨.tup (.inl (.inl s7)) (.cons (.int _) (.cons (.int _) .nil)), t.frm, t.to_, rfl, tok.f0, tok.f1, tok.t0, tok.t1⟩)
        have hu7 : Wd K (upd H7 r0 (.lst (xs ++ [.ref z7]))) u' st' := Wd.mono (TX.put hr7) (wd_ex e7 hu6)
        have hat7 : (upd H7 r0 (.lst (xs ++ [.ref z7]))) at_ = some (.tup [.int t.frm, .int t.to_, .int t.price]) := (TX.put (K := K) hr7).2 _ _ (e7 _ _ hat6)
        have hp8 : PenAt (upd H7 r0 (.lst (xs ++ [.ref z7]))) p c _ := hp7.put nrp nrc
        generalize upd H7 r0 (.lst (xs ++ [.ref z7])) = H8 at x07 gr pairs hu7 hat7 hp8
        refine ⟨u', rfl, .ref at_, rfl, at_, _, 0, .int t.frm, rfl, rfl, .inl (.inl hat7), atI_nat (j := 0) rfl, .ref at_, rfl, at_, _, 1, .int t.to_, rfl, rfl, .inl (.inl hat7), atI_nat (j := 1) rfl, ?_⟩
        rw [hk]
        have sl' : st'.length ≤ 100 := by
          have := hin3.1
          unfold manysOf at this
          rw [List.length_map] at this
          omega
        refine ⟨u', st', k, t.to_, rfl, hu7, kl, sl', fun H9 u9 e9 hu9 => ?_⟩
        exact ⟨u9, st'.set k t.to_, _, _, _, _, _, rfl, x07.trans (Exx.ex e9), (hp8.ex e9).mono (by omega), e9 _ _ gr, Paired.imp (fun _ _ => PairAt.keep (TK.ex e9)) pairs, by rw [List.length_append]; simp; omega, hu9, hin6⟩
    · rintro σ H3 ⟨u', st', xs, es, y4, y5, y6, rfl, x3, hp3, hr3, hxs, xl, hu3, hin3⟩
      exact ⟨.ref r0, rfl, q H3 r0 xs es x3 (hp3.mono (by omega)) nr0 hr3 hxs (by omega)⟩
end
end Wb

set_option Elab.async false
set_option linter.all false
set_option maxRecDepth 100000
set_option maxHeartbeats 4000000
set_option pp.maxSteps 600
set_option pp.deepTerms false
namespace Wb
open PySem PySem.Spec PyProof.Rows L2
/-! ### a caught exception that is kept behind its suite -/
/-- a caught exception object at a, of the class cls, its dict d -/
def ExV (cls : Value) (d : Option Addr) (a : Addr) : HO := .ext fun h => ∃ (oe : Obj) (vs : Array Value), h.get? a = some oe ∧ Zc cls d oe ∧ oe.data = .fields vs
theorem exV_ok {P : Program} {w : World} {H : Hp} {h : Heap} {a : Addr} {cls : Value} {d : Option Addr} {oe : Obj} {vs : Array Value} (e : h.get? a = some oe) (z : Zc cls d oe) (hd : oe.data = .fields vs) : ObjOk P w H h a (ExV cls d a) :=
  ⟨⟨oe, vs, e, z, hd⟩, ⟨oe, e⟩, fun _ _ ⟨o, v, q, r⟩ k => ⟨o, v, k o q, r⟩⟩
def wAsT (K : PySem.W.Frag) (c : Value) (i : Nat) (ts : Addr → Value → Option Addr → TS) (Wout : WX) (D : Ends) : WX := fun cls d σ H =>
  ∃ b, PySem.W.exmOne K cls c = some b ∧ (b = true → ∀ a, H a = none → ts a cls d { nx := fun σ' H' => H' a = none → D.nx (σ'.set i none) (upd H' a (ExV cls d a)), rt := D.rt, bk := fun σ' H' => D.bk (σ'.set i none) H', ct := fun σ' H' => D.ct (σ'.set i none) H' } (σ.set i (some (.ref a))) H) ∧
    (b = false → Wout cls d σ H)
section
variable {X : Cx} {pins : List (Addr × Obj)} {σ : L2.St} {H : Hp} {s : Shared}
/-- an object that stood not at the entry may be tracked from now on -/
theorem Inv.track {a : Addr} {o : HO} {oe : Obj} (I : Inv X pins σ H s) (n0 : X.s_0.heap.get? a = none) (na : H a = none) (ha : s.heap.get? a = some oe) (nL : a ≠ X.env.locals) (nC : ∀ v, oe.data ≠ .cell v)
    (nP : ∀ p ∈ X.pn ++ pins, p.1 ≠ a) (new : ObjOk X.prog X.w (upd H a o) s.heap a o) : Inv X pins σ (upd H a o) s := by
  have neN : ∀ b u, H b = some u → b ≠ a := fun b u e z => by rw [z, na] at e; cases e
  refine ⟨I.ok, I.os, I.bare, ⟨I.base.keep, I.base.slot, fun b u q n hx => ?_, I.base.there, fun b xs q => ?_, fun b u v q => ?_, fun b ps q => ?_⟩, I.loc, I.cell, ?_, fun x c e => ?_, fun p hp => ?_, I.hok.laidN (fun _ _ e => e) na new, I.len⟩
  · have hb : b ≠ a := fun z => by rw [z, n0] at q; cases q
    rw [upd_ne hb]
    exact I.base.free b u q n hx
  · have q' := I.base.tups b xs q
    rw [upd_ne (neN b _ q')]
    exact q'
  · have q' := I.base.frzs b u v q
    rw [upd_ne (neN b _ q')]
    exact q'
  · obtain ⟨m, q'⟩ := I.base.tbls b ps q
    exact ⟨m, by rw [upd_ne (neN b _ q')]; exact q'⟩
  · rw [upd_ne (Ne.symm nL)]
    exact I.free
  · have hc : c ≠ a := fun z => by
      obtain ⟨v, oc, ho, hd⟩ := I.cell x c e
      rw [z, ha] at ho
      cases ho
      exact nC _ hd
    rw [upd_ne hc]
    exact I.freeC x c e
  · obtain ⟨e, n, r⟩ := I.pin p hp
    exact ⟨e, by rw [upd_ne (nP p hp)]; exact n, r⟩
end
section
variable {X : Cx} {x n : Str} {c : Value} {i : Nat} {body suite : List Stmt} {b₀ : Stmt} {np pos pos' : Pos} {tb : WX → TS} {ts : Addr → Value → Option Addr → TS} {Wout : WX}
theorem ps_try_asT (hs : X.stack = X.env :: X.outer) (hf : X.env.frame = some X.env.locals) (hex : X.ex = []) (hN : X.N.Nodup) (hi : X.N[i]? = some n) (hln : X.env.kindOf n = some .local) (hc : Names X x c) (tk : Takes X Wout)
    (hb : ∀ (W : WX) (pn : List (Addr × Obj)) (xe : Value → Shared → Prop), Takes (X.tr pn xe) W → PassesOwn (model X.prog X.w) X.A X.env xe → PSs (X.tr pn xe) body (tb W))
    (hsu : ∀ (a : Addr) (oe : Obj) (cls : Value) (d : Option Addr) (pn : List (Addr × Obj)), Zc cls d oe → (∃ vs, oe.data = .fields vs) → PSs (X.suite a ((a, oe) :: pn)) (b₀ :: suite) (ts a cls d)) :
    PS X (.Try body [.ExceptHandler (some (.Name x np)) (some n) (b₀ :: suite) pos'] [] [] pos) (fun D σ H => tb (wAsT X.K c i ts Wout D) D σ H) := by
  refine ⟨fun pins s σ H D I h => ?_⟩
  have ok := I.ok
  have hfr : X.A.frames = some (X.env :: X.outer) := by rw [ok.frames, hs]
  have hloc : Loc X.env.scope n := .inl hln
  refine wpAny_Try_except ?_
  refine wpAny_mono ((hb (wAsT X.K c i ts Wout D) (X.pn ++ pins) (fun e s₁ => wpAny (model X.prog X.w) X.A (noteFrame e X.env) (fun _ s₂ => wpAny (model X.prog X.w) X.A (setFlight e none) (fun _ s₃ =>
    wpAny (model X.prog X.w) X.A (handleBy e X.env [.ExceptHandler (some (.Name x np)) (some n) (b₀ :: suite) pos']) (SP X pins D) X.xe s₃) X.xe s₂) X.xe s₁) (fun u s' xx => ?_) PassesOwn.looking).run [] s σ H D (I.toTry _) h) (fun f s1 hsp => ?_) (fun e s1 he => he)
  · obtain ⟨a, B, sI, pins', σ', H', cls, d, rfl, J', nb, up, sky, na, os, ag, b, hb1, hyes, hno⟩ := xx
    have J : Inv X pins σ' H' sI := J'.ofTry ok
    have sky' : Sky B (X.env :: X.outer) a (Zc cls d) X.env.locals s'.heap := by rw [← hs]; exact sky
    show wpAny (model X.prog X.w) X.A (noteFrame (.ref a) X.env) _ _ _
    refine Sky.land Zc.steady hfr hf sky' fun h3 fl3 up3 => ?_
    have J3 : Inv X pins σ' H' { s' with heap := h3 } := J.landed nb fl3.1 (up.trans up3) os ag
    obtain ⟨oe3, vs3, he3, hz3, hd3⟩ := fl3.there
    have notFr : ∀ {h : Heap} {o : Obj} {vs : Array Value}, h.FunFrames B (X.env :: X.outer) → h.get? a = some o → o.data = .fields vs → a ∉ frs (X.env :: X.outer) := fun {h o vs} ff e dd hm => by
      obtain ⟨_, o', e', hnf⟩ := ff.mem hm
      rw [e] at e'; cases e'
      exact hnf _ dd
    have nfr := notFr fl3.2.2.1 he3 hd3
    have nL : a ≠ X.env.locals := fun z => nfr (List.mem_filterMap.mpr ⟨X.env, List.mem_cons_self, by rw [hf, z]⟩)
    have nF : a ∉ X.fs := fun hm => by
      obtain ⟨e, he, q⟩ := List.mem_filterMap.mp hm
      exact nfr (List.mem_filterMap.mpr ⟨e, List.mem_cons_of_mem _ he, q⟩)
    have nI : sI.heap.get? a = none := by
      cases e : sI.heap.get? a with
      | none => rfl
      | some o =>
        have z := nb a o e (by rw [hs]; exact nfr)
        rw [fl3.2.1] at z
        cases z
    have n0 : X.s_0.heap.get? a = none := by
      cases e : X.s_0.heap.get? a with
      | none => rfl
      | some o =>
        obtain ⟨o', z⟩ := J.base.there a o e (by rw [hex]; exact List.not_mem_nil)
        rw [nI] at z
        cases z
    have nP : ∀ p ∈ X.pn ++ pins, p.1 ≠ a := fun p hp z => by
      obtain ⟨e, _⟩ := J.pin p hp
      rw [z, nI] at e
      cases e
    have S3 := J3.suite he3 hd3 na nL nF
    refine wpAny_handleBy_cons (codeAny_handlers_test ?_) (by intro q; cases q)
    have LT : PySem.W.Looks (model X.prog X.w) h3 (typeOf (.ref a)) cls := fun A Q E s k q => wpAny_typeOf_ref (k _ _ he3) (by rw [hz3.1]; exact q)
    have LM := PySem.W.exm_one (M := model X.prog X.w) (J3.kIn) LT hb1
    have test : ∀ {Q : Value → Shared → Prop} {E : Value → Shared → Prop}, Q c { s' with heap := h3 } → wpAny (model X.prog X.w) (X.A.mark (some (.ref a))) (eval (.Name x np) X.env) Q E { s' with heap := h3 } := fun {Q E} q => by
      obtain ⟨hg, hdbg, hm | ⟨hm, hv, hnn⟩⟩ := hc
      · exact ld_glob (X := X.suite a ((a, oe3) :: (X.pn ++ pins))) S3 hg hm q hdbg
      · exact ld_blt (X := X.suite a ((a, oe3) :: (X.pn ++ pins))) S3 hg hm hv q hnn hdbg
    refine test (LM.here ?_)
    cases b with
    | true =>
      refine codeAny_handlers_suite_as ?_
      refine HandSPX.lands_againZ fl3 fun h4 fl4 up4 => ?_
      have J4 : Inv X pins σ' H' { s' with heap := h4 } := J.landed nb fl4.1 ((up.trans up3).trans up4) os ag
      obtain ⟨oe4, vs4, he4, hz4, hd4⟩ := fl4.there
      have S4 := J4.suite he4 hd4 na nL nF
      refine store_ok (X := X.suite a ((a, oe4) :: (X.pn ++ pins))) (v := .ref a) S4 hN hi hloc rfl (fun s5 S5 => ?_) (.inr hln)
      refine wpAny_mono ((hsu a oe4 cls d (X.pn ++ pins) hz4 ⟨_, hd4⟩).run [] s5 _ H' _ S5 (hyes rfl a na)) (fun f s6 hsp => ?_) (fun _ _ z => False.elim z)
      have end_ : ∀ {σ6 : L2.St} {H6 : Hp} {Q : Shared → Prop}, Inv X pins σ6 H6 s6 → (∀ s7, Inv X pins (σ6.set i none) H6 s7 → Q s7) →
          wpAny (model X.prog X.w) X.A (do bindName X.env n .none; unbindBehindTheSuite X.env n pos') (fun _ s7 => Q s7) X.xe s6 := fun {σ6 H6 Q} S6 hq => gone_ok S6 hN hi hln hq
      cases f with
      | next =>
        obtain ⟨σ6, H6, S6, q6⟩ := hsp
        obtain ⟨e6, n6, _, _, _⟩ := S6.pin (a, oe4) (List.mem_append_left _ List.mem_cons_self)
        have T6 : Inv X pins σ6 (upd H6 a (ExV cls d a)) s6 := Inv.track (S6.unsuite ok) n0 n6 e6 nL (fun v z => by rw [hd4] at z; cases z) nP (exV_ok e6 hz4 hd4)
        exact end_ T6 fun s7 J7 => ⟨_, _, J7, q6 n6⟩
      | brk =>
        obtain ⟨σ6, H6, S6, q6⟩ := hsp
        exact end_ (S6.unsuite ok) fun s7 J7 => ⟨_, _, J7, q6⟩
      | cont =>
        obtain ⟨σ6, H6, S6, q6⟩ := hsp
        exact end_ (S6.unsuite ok) fun s7 J7 => ⟨_, _, J7, q6⟩
      | ret u =>
        obtain ⟨v6, σ6, H6, S6, r6, q6⟩ := hsp
        exact end_ (S6.unsuite ok) fun s7 J7 => ⟨_, _, _, J7, r6, q6⟩
    | false =>
      show wpAny _ X.A (handleBy (.ref a) X.env []) _ _ _
      refine wpAny_handleBy_nil ?_
      obtain ⟨k1, k2, k3, oe, vs, T, oT, ts', he, hz, hd, h1, hr⟩ := id fl3
      unfold PySem.passOn
      refine wpAny_bind (wpAny_field he hd h1 ?_)
      rw [if_neg (show ¬ ((Value.ref T == Value.none) = true) from by simp)]
      have fin : wpAny (model X.prog X.w) X.A (setFlight (.ref a) X.env.frame) (fun _ s4 => wpAny (model X.prog X.w) X.A (throw (.ref a) : Sem Flow) (SP X pins D) X.xe s4) X.xe { s' with heap := h3 } := by
        rw [hf]
        refine HandSPX.setFlight_upZ fl3 fun h4 hh4 up4 => wpAny_throw (tk _ _ ?_)
        exact ⟨a, B, sI, pins, σ', H', cls, d, rfl, J, nb, (up.trans up3).trans up4, .inr (.inr (by rw [hs]; exact hh4)), na, os, ag, hno rfl⟩
      first
        | exact wpAny_bind (wpAny_pure (wpAny_bind fin))
        | exact wpAny_bind fin
  · cases f with
    | next =>
      obtain ⟨σ', H', J', q⟩ := hsp
      exact wpAny_execs_nil ⟨σ', H', J'.ofTry ok, q⟩
    | brk =>
      obtain ⟨σ', H', J', q⟩ := hsp
      exact ⟨σ', H', J'.ofTry ok, q⟩
    | cont =>
      obtain ⟨σ', H', J', q⟩ := hsp
      exact ⟨σ', H', J'.ofTry ok, q⟩
    | ret u =>
      obtain ⟨v, σ', H', J', r, q⟩ := hsp
      exact ⟨v, σ', H', J'.ofTry ok, r, q⟩
end
section
open PySem.W PySem.Calls
variable {prog : Program} {w : World} {A : Around} {E : Value → Shared → Prop} {s : Shared} {K : Frag} {x D : Addr} {ox : Obj} {od : Option Obj}
theorem findObj_dataD {C : Addr} {name : Str} {a g : Value} (hc : (clsIn K C).isSome = true) (ha : findIn K (.ref C) name = some (some a)) (hg : specialIn K a "__get__" = some (some g)) (ht : takesIn K a = some true) : findObj K C od name = some (.bind g a) := by
  obtain ⟨cd, hc⟩ := Option.isSome_iff_exists.mp hc
  unfold findObj
  rw [hc, Option.bind_some, ha, Option.bind_some]
  simp [hg, ht]
theorem kin_classD {Q : Option Value → Shared → Prop} (C : ExcC K D)
    (X : K.In s.heap) (I : InstAt s.heap x ox D od) (h : Q (some (.ref D)) { s with toks := s.toks + 1 }) : wpAny (model prog w) A (getAttr? (.ref x) "__class__") Q E s := by
  obtain ⟨hga, hgt, hsub, hdct, ha, hn, htk, hm⟩ := C
  have hf : findObj K D od "__class__" = some (.bind (.builtin "getset_descriptor.__get__") (.builtin "object.__class__")) := findObj_dataD (by obtain ⟨cd, hc, _⟩ := any_some hdct; rw [hc]; rfl) ha hn htk
  obtain ⟨hp, g, d, t, os⟩ := s
  have L0 := I.type (M := model prog w)
  have L1 := looks_findIn (M := model prog w) X hga
  have L2 := looks_findIn (M := model prog w) X hgt
  have L3 := looks_find (M := model prog w) X I hf
  have sub : Looks (model prog w) hp (isInstance (.ref x) (.type "BaseException")) true := L0.andThen (looks_subIn X hsub)
  have hx0 : (false && onTheHeap (Value.builtin "BaseException.__getattribute__")) = false := rfl
  have hx2 : (Value.builtin "BaseException.__getattribute__" == Value.builtin "object.__getattribute__") = false := by decide +kernel
  have hx1 : (onTheHeap (Value.ref D) && Value.builtin "BaseException.__getattribute__" == Value.builtin "object.__getattribute__") = false := by rw [hx2]; rfl
  unfold getAttr? getAttrBy? getAttrBy
  refine wpAny_bind (wpAny_mkText (wpAny_bind (wpAny_attempt (wpAny_holding (wpAny_bind (L0.at (wpAny_bind (L1.at ?_))))))))
  show wpAny _ _ (if (onTheHeap (Value.ref D) && Value.builtin "BaseException.__getattribute__" == Value.builtin "object.__getattribute__") = true then _ else _) _ _ _
  rw [hx1, if_neg Bool.false_ne_true]
  unfold getAttrByItsOwn hookBefore
  refine wpAny_bind ?_
  rw [if_pos (show onTheHeap (Value.ref D) = true from rfl)]
  refine L2.at ?_
  refine wpAny_bind (wpAny_attempt (wpAny_holding ?_))
  unfold callGetattribute
  rw [hx0, if_neg Bool.false_ne_true]
  unfold boundAndCalled
  rw [PySem.F.excAttr_ValueError.ga.bind (.ref x)]
  refine wpAny_bind (wpAny_pure ?_)
  show wpAny _ _ (call (.builtin "BaseException.__getattribute__") [.ref x, .str "__class__" t]) _ _ _
  refine wpAny_call (codeAny_call_builtin PySem.F.excAttr_ValueError.ga.plain PySem.F.entry_bexc_ga ?_)
  refine @check_slot (model prog w) _ _ ⟨hp, g, d, t + 1, os⟩ "BaseException.__getattribute__" "BaseException" "__getattribute__" (.ref x) [.str "__class__" t] [] _ (by decide +kernel) (by decide +kernel) sub (PySem.F.args_bexc_ga (.ref x) (.str "__class__" t)) ?_
  unfold Builtin.«object.__getattribute__»
  refine wpAny_bind (wpAny_of_eq (a := ((Value.ref x : Value), [Value.str "__class__" t])) (by first | rfl | (simp only [slotArgs]; rfl)) ?_)
  refine wpAny_bind (wpAny_pure (wpAny_bind (L0.at (wpAny_bind (L3.at ?_)))))
  show wpAny _ _ (holding [Value.builtin "object.__class__"] (call (.builtin "getset_descriptor.__get__") [.builtin "object.__class__", .ref x, .ref D]) >>= ret) _ _ _
  refine wpAny_bind (wpAny_holding (wpAny_call (class_get (s := ⟨hp, g, d, t + 1, os⟩) (ox := ox) (od := od) X I hm ?_)))
  refine wpAny_pure ?_
  show wpAny _ _ (handedOut (.ref D)) _ _ _
  rw [handedOut_of (v := .ref D) rfl]
  first
    | exact wpAny_pure (wpAny_pure h)
    | exact wpAny_pure h
    | exact wpAny_pure (wpAny_bind (wpAny_pure (wpAny_pure h)))
theorem kitx_excD (C : ExcC K D) : KitX K (.ref x) (.ref D) (fun h => InstAt h x ox D od) where
  ty := fun _ _ _ I => I.type
  it := fun M h X _ => by
    obtain ⟨cdD, hcD, _⟩ := any_some C.hd
    unfold clsIn at hcD
    split at hcD
    · rename_i c' d' cd' sl' ho
      intro A' Q' E' s' k q
      unfold isType loadHead
      exact wpAny_bind (wpAny_loadPart (k _ _ (X _ _ ho)) (wpAny_pure q))
    · cases hcD
  ne := (handS_kitx_exc (x := x) (ox := ox) C.hg C.hk C.hs C.hd C.ha C.hn C.ht C.hm).ne
  ca := fun X I k => kin_classD C X I k
end
section
variable {X : Cx}
/-- such an exception's object and dict -/
theorem instV {P : Program} {w : World} {H : Hp} {h : Heap} {a D : Addr} {d : Option Addr} (ok : HOk P w H h) (ha : H a = some (ExV (.ref D) d a)) (hd : ∀ dd, d = some dd → ∃ fs, H dd = some (.xd fs)) :
    ∃ ox od, PySem.W.InstAt h a ox D od := by
  obtain ⟨⟨oe, vs, e, z, hv⟩, _⟩ := ok a _ ha
  cases d with
  | none =>
    obtain ⟨oc, od, oda, osl⟩ := oe
    obtain ⟨h1, h2⟩ := z
    dsimp only at h1 h2 hv
    subst h1 h2 hv
    exact ⟨_, none, e, rfl, rfl, trivial⟩
  | some dd =>
    obtain ⟨fs, hdd⟩ := hd dd rfl
    obtain ⟨mA, hns, hr⟩ := (show ObjOk P w H h dd (.xd fs) from ok dd _ hdd)
    obtain ⟨od, ho, hl⟩ := lookIn_ns hns
    exact ⟨oe, some od, e, z.1, by unfold PySem.W.notCls; rw [hv] <;> rfl, by rw [z.2]; exact ho⟩
/-- isinstance(e, c), e a kept exception -/
def rIsX (K : PySem.W.Frag) : List V → Hp → VK → Prop := fun xs H Q => ∃ (a D : Addr) (d : Option Addr) (c : V) (cv : Value) (b : Bool), xs = [.ref a, c] ∧ H a = some (ExV (.ref D) d a) ∧ (∀ dd, d = some dd → ∃ fs, H dd = some (.xd fs)) ∧ ExcC K D ∧ ClsV c cv ∧ PySem.W.kitOne K (.ref D) cv = some b ∧ Q (.bl b) H
theorem call_isX : CallR X (.builtin "isinstance") (rIsX X.K) := by
  intro pins s σ H xs us Q I r h
  obtain ⟨a, D, d, c, cv, b, rfl, ha, hd, C, k, e, q⟩ := h
  obtain ⟨u1, u2, rfl, r1, r2⟩ := vals2 r
  have e2 := k.eq r2
  subst e2
  cases r1
  obtain ⟨ox, od, J⟩ := instV I.hok ha hd
  exact PySem.W.kia_one (kitx_excD C) I.kIn J e (fun z => nomatch z) fun tk => ⟨.bl b, H, I.tok tk, rfl, q⟩
def rIsXT (K : PySem.W.Frag) : List V → Hp → VK → Prop := fun xs H Q => ∃ (a D : Addr) (d : Option Addr) (tp : Addr) (cs : List V) (us : List Value) (b : Bool), xs = [.ref a, .ref tp] ∧ H tp = some (.tup cs) ∧ Paired ClsV cs us ∧ H a = some (ExV (.ref D) d a) ∧ (∀ dd, d = some dd → ∃ fs, H dd = some (.xd fs)) ∧ ExcC K D ∧ PySem.W.kitAny K (.ref D) us = some b ∧ Q (.bl b) H
theorem call_isXT : CallR X (.builtin "isinstance") (rIsXT X.K) := by
  intro pins s σ H xs us Q I r h
  obtain ⟨a, D, d, tp, cs, ws, b, rfl, hT, k, ha, hd, C, e, q⟩ := h
  obtain ⟨u1, u2, rfl, r1, r2⟩ := vals2 r
  cases (show u2 = Value.ref tp from r2)
  cases r1
  obtain ⟨ox, od, J⟩ := instV I.hok ha hd
  obtain ⟨_, its, rv, o, h1, h2, n, h3⟩ := (show ObjOk X.prog X.w H s.heap tp (.tup cs) from I.hok tp _ hT)
  have e3 := ClsV.all k rv
  subst e3
  obtain ⟨oc, od, dt, sl⟩ := o
  simp only at h2 h3
  subst h2 h3
  exact PySem.W.kia_tup (kitx_excD C) I.kIn J h1 e (fun z => nomatch z) fun tk => ⟨.bl b, H, I.tok tk, rfl, q⟩
/-- e.f, e a kept exception -/
def tXfV (K : PySem.W.Frag) (f : Str) (te : TE) : TE := fun σ H Q => te σ H fun x H1 => ∃ (a C : Addr) (dd : Addr) (fs : List (Str × V)) (v : V), x = .ref a ∧ H1 a = some (ExV (.ref C) (some dd) a) ∧ XfC K C ∧ PySem.W.findIn K (.ref C) f = some none ∧ H1 dd = some (.xd fs) ∧ fs.lookup f = some v ∧ Q v H1
theorem pe_xfV {e : Expr} {te : TE} {pos : Pos} {n : Str} (he : PE X e te) (hb : attributeBase e n X.env (eval e X.env) = eval e X.env := by rfl) :
    PE X (.Attribute e n pos) (tXfV X.K n te) := by
  refine ⟨fun pins s σ H Q I h => ?_⟩
  refine attr_of hb (thn (he.run pins s σ H _ I h) fun u s1 hh => ?_)
  obtain ⟨x, H1, I1, rx, a, C, dd, fs, v, ex, ha, T, hno, ea, l, q⟩ := hh
  subst ex
  obtain rfl : u = Value.ref a := rx
  obtain ⟨⟨oe, vs, e, hz, hd⟩, _⟩ := I1.hok a _ ha
  have hx : ObjOk X.prog X.w H1 s1.heap dd (.xd fs) := I1.hok dd _ ea
  obtain ⟨mA, hns, hr⟩ := hx
  obtain ⟨od, ho, hl⟩ := lookIn_ns hns
  obtain ⟨u, hu, ru⟩ := RelO.some_of (v := v) (o := mA n) (by rw [← l]; exact hr n)
  have J : PySem.W.InstAt s1.heap a oe C (some od) := ⟨e, hz.1, by unfold PySem.W.notCls; rw [hd] <;> rfl, by rw [hz.2]; exact ho⟩
  exact HandSPX.exc_get I1.kIn J T.ga T.gg T.exC (PySem.W.findObj_own T.hdC hno rfl (by rw [hl, hu])) (handed_of ru) ⟨v, H1, I1.tok _, ru, q⟩
end
end Wb

set_option Elab.async false
set_option linter.all false
set_option maxRecDepth 100000
set_option maxHeartbeats 4000000
set_option pp.maxSteps 600
set_option pp.deepTerms false
namespace Wb
open PySem PySem.Spec PyProof.Rows L2
abbrev sLWalked : Stmt := topS 45
abbrev nLWalked : List Str := ["_law_lock_here", "_law_stand_here", "_law_things", "_law_caught", "_law_found", "e", "_law_odd_here"]
theorem scLWalked : FnScope nLWalked ["_law_lock_here", "_law_stand_here", "_law_things"] (defScope sLWalked) := ⟨rfl, rfl, rfl, by decide +kernel, rfl, by decide +kernel, by decide +kernel⟩
/-- the classes that the law holds a caught refusal against -/
structure NxC (K : PySem.W.Frag) (mg : Str → Option Value) (N : NsC K mg) where
  ec : ExcC K N.C
  xf : XfC K N.C
  c1 : Addr
  c2 : Addr
  c3 : Addr
  c4 : Addr
  h1 : mg "NoBook" = some (.ref c1)
  h2 : mg "NoPlace" = some (.ref c2)
  h3 : mg "NoStand" = some (.ref c3)
  h4 : mg "NoWish" = some (.ref c4)
  k1 : PySem.W.kitOne K (.ref N.C) (.ref c1) = some false
  k2 : PySem.W.kitOne K (.ref N.C) (.ref c2) = some false
  k3 : PySem.W.kitOne K (.ref N.C) (.ref c3) = some false
  k4 : PySem.W.kitOne K (.ref N.C) (.ref c4) = some false
  kv : PySem.W.kitOne K (.ref N.C) (.type "ValueError") = some true
  ex : PySem.W.exmOne K (.ref N.C) (.ref N.C) = some true
  ve : mg "ValueError" = none
def spLWalked (K : PySem.W.Frag) : Sp := fun vs H Q _ => ∃ (v u x : V) (l : Lock) (st : Word), vs = [v, u, x] ∧ LockAt K H v l ∧ LockOk l ∧ Wd K H u st ∧ InAll st (manysOf l) ∧
  ((∃ d, Th K H x d ∧ isLst d = false ∧ ∀ H' z, Evl.Ex H H' → H' z = some (.lst [.int 0]) → Q (.ref z) H') ∨
    ∃ a xs es, x = .ref a ∧ H a = some (.lst xs) ∧ Paired (Th K H) xs es ∧ xs.length ≤ 1000 ∧
      (match walkL l st 0 0 es with
        | .inl n => ∀ H' z, Evl.Ex H H' → H' z = some (.lst [.int (n : Nat)]) → Q (.ref z) H'
        | .inr (st', paid) => ∀ H' t z, Evl.Ex H H' → H' t = some (.tup [z, .int paid]) → Wd K H' z st' → Q (.ref t) H'))
section
variable {P : Program} {w : World} {K : PySem.W.Frag} {mg : Str → Option Value} {base : Heap}
theorem ok_lwalked (D : Pr K mg) (N : NsC K mg) (NX : NxC K mg N) {f f1 fp : Addr} {fd fd1 fdp : FuncData} (F : Fun K "_law_walked" "_law_walked" sLWalked f fd) (F1 : Fun K "walked" "walked" sWalked f1 fd1) (b1 : Binds K fd1 ["lock", "stand", "steps"] []) (g1 : mg "walked" = some (.ref f1))
    (Fp : Fun K "price_of_step" "price_of_step" sPrice fp fdp) (bp : Binds K fdp ["moves", "places", "step"] []) (gp : mg "price_of_step" = some (.ref fp)) :
    FnOk P w K mg base CX0 9 f fd ["_law_lock_here", "_law_stand_here", "_law_things"] (spLWalked K) := by
  have B := D.B
  have G1 : FnOk P w K mg base (L2.CX P w) 8 f1 fd1 ["lock", "stand", "steps"] (spWalked K N.C) := ok_walked D N F1 Fp bp gp
  refine F.ok scLWalked (fun vs H Q E h => ?_) (fun cdv A outer s H vs Q E hr h => ?_)
  · obtain ⟨v, u, x, l, st, rfl, _⟩ := h; rfl
  · obtain ⟨v, u, x, l, st, rfl, hv, ok, hu, hin, h⟩ := h
    refine ⟨_, pss_cons (ps_set (i := 3) scLWalked.nd rfl (.inl rfl) pe_non)
      (pss_cons (ps_set (i := 4) scLWalked.nd rfl (.inl rfl) pe_non)
      (pss_cons (ps_try_asT (i := 5) (tb := fun W => tAsg (tCallS (spWalked K N.C) (WE W) (tCons (tVar 0) (tCons (tVar 1) (tCons (tVar 2) tNil)))) (gName 4)) (ts := fun _ _ _ => tAsg (tVar 5) (gName 3)) (Wout := fun _ _ _ _ => False) rfl rfl rfl scLWalked.nd rfl rfl ⟨rfl, by decide, Or.inl N.g⟩ takes0
          (fun W pn xe tk _ => pss_one (ps_set (i := 4) scLWalked.nd rfl (.inl rfl) (by exact (pe_callS G1 hr rfl g1 F1.kp b1 (fun σ => passAt tk σ) (by exact (pa_cons (pv 0) (pa_cons (pv 1) (pa_cons (pv 2) pa_nil))))))))
          (fun a oe cls d pn hz hf => pss_one (ps_set (i := 3) scLWalked.nd rfl (.inl rfl) (by exact (pv 5)))))
      (pss_cons (ps_if (pt_cmpR op_isN (pv 3) pe_non (nomark _)) (pss_one (ps_ret (pv 4))) pss_nil)
      (pss_cons (ps_set (i := 6) scLWalked.nd rfl (.inl rfl) (pe_or (pe_callB call_isXT (by rfl) B.isi boot_isinstance (pa_cons (pv 3) (pa_cons (pe_tup (pa_cons (pe_glob (v := .ref NX.c1) (by rfl) NX.h1 rfl) (pa_cons (pe_glob (v := .ref NX.c2) (by rfl) NX.h2 rfl) (pa_cons (pe_glob (v := .ref NX.c3) (by rfl) NX.h3 rfl) (pa_cons (pe_glob (v := .ref NX.c4) (by rfl) NX.h4 rfl) pa_nil))))) pa_nil)))
          (pe_one (pe_not (pe_callB call_isX (by rfl) B.isi boot_isinstance (pa_cons (pv 3) (pa_cons (pe_bltn (v := .ty "ValueError") (by rfl) NX.ve boot_ValueError rfl) pa_nil)))))))
      (pss_one (ps_ret (pe_ifExp (pt_val (pv 6)) (pe_lst (pa_cons pe_str pa_nil)) (pe_lst (pa_cons (pe_xfV (pv 3)) pa_nil))))))))), ?_⟩
    refine ⟨v, rfl, u, rfl, x, rfl, v, u, x, l, st, rfl, hv, ok, hu, hin, ?_⟩
    rcases h with ⟨d, hx, hnl, q⟩ | ⟨a0, xs, es, rfl, ha0, hxs, x1000, q⟩
    · refine .inl ⟨d, hx, hnl, fun H' e ne he ex => ?_⟩
      refine ⟨true, NX.ex, fun _ a na => ?_, fun z => by cases z⟩
      refine ⟨.ref a, rfl, fun na' => ?_⟩
      have eA := Evl.Ex.new (o := ExV (.ref N.C) (some e) a) na'
      have gA : (upd H' a (ExV (.ref N.C) (some e) a)) a = some (ExV (.ref N.C) (some e) a) := upd_same
      generalize upd H' a (ExV (.ref N.C) (some e) a) = H1 at eA gA
      have he1 := eA _ _ he
      refine ⟨.ref a, rfl, rfl, _, rfl, ?_⟩
      refine iteF ?_
      refine ⟨.ref a, rfl, (by show 4 ≤ sizeLine; decide), fun tp ntp => ?_⟩
      have eB := Evl.Ex.new (o := .tup [.ref NX.c1, .ref NX.c2, .ref NX.c3, .ref NX.c4]) ntp
      have gB : (upd H1 tp (.tup [.ref NX.c1, .ref NX.c2, .ref NX.c3, .ref NX.c4])) tp = some (.tup [.ref NX.c1, .ref NX.c2, .ref NX.c3, .ref NX.c4]) := upd_same
      generalize upd H1 tp (.tup [.ref NX.c1, .ref NX.c2, .ref NX.c3, .ref NX.c4]) = H2 at eB gB
      have hd : ∀ dd, some e = some dd → ∃ fs, H2 dd = some (.xd fs) := fun dd z => by
        cases z
        exact ⟨_, eB _ _ he1⟩
      refine ⟨a, N.C, some e, tp, _, [.ref NX.c1, .ref NX.c2, .ref NX.c3, .ref NX.c4], false, rfl, gB, .cons (.own _) (.cons (.own _) (.cons (.own _) (.cons (.own _) .nil))), eB _ _ gA, hd, NX.ec,
        kitAny_cons NX.k1 (fun _ => kitAny_cons NX.k2 (fun _ => kitAny_cons NX.k3 (fun _ => kitAny_cons NX.k4 (fun _ => rfl) (fun z => by cases z)) (fun z => by cases z)) (fun z => by cases z)) (fun z => by cases z), ?_⟩
      refine ⟨false, rfl, ?_⟩
      rw [if_neg Bool.false_ne_true]
      refine ⟨.ref a, rfl, a, N.C, some e, .ty "ValueError", .type "ValueError", true, rfl, eB _ _ gA, hd, NX.ec, .ty _, NX.kv, ?_⟩
      refine ⟨true, rfl, ?_⟩
      refine ⟨.bl false, rfl, _, rfl, ?_⟩
      refine iteF ?_
      refine ⟨.ref a, rfl, a, N.C, e, _, .int 0, rfl, eB _ _ gA, NX.xf, N.no, eB _ _ he1, rfl, ?_⟩
      exact ⟨(by show 1 ≤ sizeLine; decide), fun z nz => q _ z (ex.trans (eA.trans (eB.trans (Evl.Ex.new nz)))) upd_same⟩
    · refine .inr ⟨a0, xs, es, rfl, ha0, hxs, x1000, ?_⟩
      cases hw : walkL l st 0 0 es with
      | inl n =>
        rw [hw] at q
        intro H' e ne he ex
        refine ⟨true, NX.ex, fun _ a na => ?_, fun z => by cases z⟩
        refine ⟨.ref a, rfl, fun na' => ?_⟩
        have eA := Evl.Ex.new (o := ExV (.ref N.C) (some e) a) na'
        have gA : (upd H' a (ExV (.ref N.C) (some e) a)) a = some (ExV (.ref N.C) (some e) a) := upd_same
        generalize upd H' a (ExV (.ref N.C) (some e) a) = H1 at eA gA
        have he1 := eA _ _ he
        refine ⟨.ref a, rfl, rfl, _, rfl, ?_⟩
        refine iteF ?_
        refine ⟨.ref a, rfl, (by show 4 ≤ sizeLine; decide), fun tp ntp => ?_⟩
        have eB := Evl.Ex.new (o := .tup [.ref NX.c1, .ref NX.c2, .ref NX.c3, .ref NX.c4]) ntp
        have gB : (upd H1 tp (.tup [.ref NX.c1, .ref NX.c2, .ref NX.c3, .ref NX.c4])) tp = some (.tup [.ref NX.c1, .ref NX.c2, .ref NX.c3, .ref NX.c4]) := upd_same
        generalize upd H1 tp (.tup [.ref NX.c1, .ref NX.c2, .ref NX.c3, .ref NX.c4]) = H2 at eB gB
        have hd : ∀ dd, some e = some dd → ∃ fs, H2 dd = some (.xd fs) := fun dd z => by
          cases z
          exact ⟨_, eB _ _ he1⟩
        refine ⟨a, N.C, some e, tp, _, [.ref NX.c1, .ref NX.c2, .ref NX.c3, .ref NX.c4], false, rfl, gB, .cons (.own _) (.cons (.own _) (.cons (.own _) (.cons (.own _) .nil))), eB _ _ gA, hd, NX.ec,
          kitAny_cons NX.k1 (fun _ => kitAny_cons NX.k2 (fun _ => kitAny_cons NX.k3 (fun _ => kitAny_cons NX.k4 (fun _ => rfl) (fun z => by cases z)) (fun z => by cases z)) (fun z => by cases z)) (fun z => by cases z), ?_⟩
        refine ⟨false, rfl, ?_⟩
        rw [if_neg Bool.false_ne_true]
        refine ⟨.ref a, rfl, a, N.C, some e, .ty "ValueError", .type "ValueError", true, rfl, eB _ _ gA, hd, NX.ec, .ty _, NX.kv, ?_⟩
        refine ⟨true, rfl, ?_⟩
        refine ⟨.bl false, rfl, _, rfl, ?_⟩
        refine iteF ?_
        refine ⟨.ref a, rfl, a, N.C, e, _, .int (n : Nat), rfl, eB _ _ gA, NX.xf, N.no, eB _ _ he1, rfl, ?_⟩
        exact ⟨(by show 1 ≤ sizeLine; decide), fun z nz => q _ z (ex.trans (eA.trans (eB.trans (Evl.Ex.new nz)))) upd_same⟩
      | inr r =>
        obtain ⟨st', paid⟩ := r
        rw [hw] at q
        intro H' t z ex ht hz
        refine ⟨.non, rfl, rfl, _, rfl, ?_⟩
        refine iteT ?_
        exact ⟨.ref t, rfl, q H' t z ex ht hz⟩
end
end Wb

set_option Elab.async false
set_option linter.all false
set_option maxRecDepth 100000
set_option maxHeartbeats 4000000
set_option pp.maxSteps 600
set_option pp.deepTerms false
namespace Wb
open PySem PySem.Spec PyProof.Rows L2
/-- small data of any kind: it can be written, and where it is a tuple held against others -/
structure Sm (d : PyData) (n L : Nat) : Prop where
  sho : d.showable = true
  dep : d.depth ≤ n
  len : d.shown.length ≤ L
  lay : isTup d = true → d.canLay0 = true
theorem Sm.mono {d : PyData} {n n' L L' : Nat} (h : Sm d n L) (a : n ≤ n') (b : L ≤ L') : Sm d n' L' := ⟨h.1, Nat.le_trans h.2 a, Nat.le_trans h.3 b, h.4⟩
theorem Fine.sm {d : PyData} {n L : Nat} (h : Fine d n L) : Sm d n L := ⟨h.2, h.3, h.4, fun _ => h.1⟩
theorem Sm.shp {d : PyData} {n L : Nat} (h : Sm d n L) (hn : n ≤ 64) (t : isTup d = true) : SeqAt.shaped d = true := by
  unfold SeqAt.shaped
  rw [h.lay t, Bool.true_and]
  exact decide_eq_true (Nat.le_trans h.dep hn)
theorem sm_d0 : Sm (.dict []) 3 200 := ⟨by decide +kernel, by decide +kernel, by decide +kernel, by decide +kernel⟩
theorem sm_d1 : Sm (.dict [(.int 0, .int 1)]) 3 200 := ⟨by decide +kernel, by decide +kernel, by decide +kernel, by decide +kernel⟩
theorem fine_bl (b : Bool) : Fine (.bool b) 0 8 := by cases b <;> exact ⟨by decide +kernel, by decide +kernel, by decide +kernel, by decide +kernel⟩
theorem fine_non : Fine .none 0 8 := ⟨by decide +kernel, by decide +kernel, by decide +kernel, by decide +kernel⟩
theorem fine_str0 : Fine (.str "") 0 8 := ⟨by decide +kernel, by decide +kernel, by decide +kernel, by decide +kernel⟩
def OddV (K : PySem.W.Frag) (H : Hp) (v : V) : Prop := ∃ d, Od K H v d ∧ Sm d 3 200
theorem OddV.keep {K : PySem.W.Frag} {H H' : Hp} (e : TK K H H') {v : V} (h : OddV K H v) : OddV K H' v := by
  obtain ⟨d, h1, h2⟩ := h
  exact ⟨d, h1.keep e, h2⟩
/-- the data of a list of such things -/
structure SmAll (ds : List PyData) (n S : Nat) : Prop where
  sho : PyData.showableAll ds = true
  dep : PyData.depthAll ds ≤ n
  len : piled (PyData.shownAll ds) ≤ S
theorem SmAll.nil {n : Nat} : SmAll [] n 0 := ⟨rfl, Nat.zero_le _, Nat.le_refl _⟩
theorem SmAll.cons {d : PyData} {ds : List PyData} {n L S : Nat} (h : Sm d n L) (t : SmAll ds n S) : SmAll (d :: ds) n (L + 2 + S) := by
  obtain ⟨a2, a3, a4, _⟩ := h
  obtain ⟨b2, b3, b4⟩ := t
  refine ⟨by simp [PyData.showableAll, a2, b2], by simp only [PyData.depthAll]; omega, ?_⟩
  simp only [PyData.shownAll, piled_cons]
  omega
theorem sm_all {K : PySem.W.Frag} {H : Hp} : ∀ {xs : List V}, (∀ x ∈ xs, OddV K H x) → ∃ es, Paired (Od K H) xs es ∧ SmAll es 3 (xs.length * 202) ∧ ∀ d ∈ es, Sm d 3 200
  | [], _ => ⟨[], .nil, SmAll.nil, fun d h => absurd h List.not_mem_nil⟩
  | x :: xs, h => by
    obtain ⟨d, h1, h2⟩ := h x List.mem_cons_self
    obtain ⟨es, h3, h4, h5⟩ := sm_all fun y hy => h y (List.mem_cons_of_mem _ hy)
    refine ⟨d :: es, .cons h1 h3, ?_, fun e he => ?_⟩
    · have := SmAll.cons h2 h4
      rw [List.length_cons, Nat.succ_mul, Nat.add_comm]
      exact this
    · rcases List.mem_cons.mp he with rfl | he
      · exact h2
      · exact h5 e he
theorem smAll_lst {ds : List PyData} {n S : Nat} (h : SmAll ds n S) : Sm (.list ds) (n + 1) (S + 3) := by
  obtain ⟨b2, b3, b4⟩ := h
  refine ⟨by simpa only [PyData.showable] using b2, by simp only [PyData.depth]; omega, ?_, fun z => by cases z⟩
  simp only [PyData.shown]
  unfold listText
  rw [strLen_append]
  have e1 : ((("]" : String) : Str)).length = 1 := rfl
  have e2 : ((("[" : String) : Str)).length = 1 := rfl
  have := textFrom_le (PyData.shownAll ds) 0 "["
  omega
/-- a thing as it is handed in for steps: one that is no list, or a list of such things -/
inductive Thg (K : PySem.W.Frag) (H : Hp) : V → PyData → Prop where
  | th {v : V} {d : PyData} : Th K H v d → Thg K H v d
  | lst {a : Addr} {xs : List V} {ds : List PyData} : H a = some (.lst xs) → Paired (Od K H) xs ds → Thg K H (.ref a) (.list ds)
theorem Thg.ex {K : PySem.W.Frag} {H H' : Hp} (e : Evl.Ex H H') {v : V} {d : PyData} (h : Thg K H v d) : Thg K H' v d := by
  cases h with
  | th h => exact .th (h.keep (TK.ex e))
  | lst h a => exact .lst (e _ _ h) (Paired.imp (fun _ _ => Od.keep (TK.ex e)) a)
/-! ### texts of things with dicts in them: nothing tracked stands where sys.modules does -/
def One (K : PySem.W.Frag) (H : Hp) : Prop := K.lookup sysModules = none ∧ ∃ o u, H sysModules = some (.frz o (.own u))
theorem One.ex {K : PySem.W.Frag} {H H' : Hp} (e : Evl.Ex H H') (h : One K H) : One K H' := by
  obtain ⟨h1, o, u, h2⟩ := h
  exact ⟨h1, o, u, e _ _ h2⟩
theorem One.exx {K : PySem.W.Frag} {H H' : Hp} {p c : Addr} {T : Int} (hp : PenAt H p c T) (e : Exx p H H') (h : One K H) : One K H' := by
  obtain ⟨h1, o, u, h2⟩ := h
  refine ⟨h1, o, u, e _ _ (fun z => ?_) h2⟩
  obtain ⟨cells, t, d, a, _⟩ := hp
  rw [z, a] at h2
  cases h2
theorem One.lst {K : PySem.W.Frag} {H : Hp} (h : One K H) {a : Addr} {xs : List V} (ha : SqL K H a xs) : a ≠ sysModules := by
  obtain ⟨h1, o, u, h2⟩ := h
  rintro rfl
  rcases ha with (z | ⟨o', z⟩) | ⟨o', its, n, z, _⟩
  · rw [h2] at z; cases z
  · rw [h2] at z; cases z
  · rw [h1] at z; cases z
section
variable {X : Cx} {pins : List (Addr × Obj)} {σ : L2.St} {H : Hp} {s : Shared}
mutual
theorem reads1 (I : Inv X pins σ H s) (one : One X.K H) : ∀ (d : PyData) (v : V) (u : Value), Dp X.K H v d → RelV v u → ∃ as, Reads s.heap u d as ∧ sysModules ∉ as
  | .none, _, _, h, r => by
    cases h
    cases r
    exact ⟨_, Reads.none, List.not_mem_nil⟩
  | .bool b, _, _, h, r => by
    cases h
    cases r
    exact ⟨_, Reads.bool b, List.not_mem_nil⟩
  | .int i, _, _, h, r => by
    cases h
    obtain ⟨t, rfl⟩ := r
    exact ⟨_, Reads.int i t, List.not_mem_nil⟩
  | .str x, _, _, h, r => by
    cases h
    obtain ⟨t, rfl⟩ := r
    exact ⟨_, Reads.str x t, List.not_mem_nil⟩
  | .list ds, _, _, h, r => by
    cases h with
    | lst hs ha =>
      cases r
      obtain ⟨its, rv, ⟨o, n, ho, hc, _, hd⟩, _⟩ := I.list hs
      obtain ⟨as, hr, hn⟩ := reads1All I one ds _ its ha rv
      exact ⟨_, Reads.list ho hc hd hr, fun z => (List.mem_cons.mp z).elim (fun z => one.lst hs z.symm) hn⟩
  | .tuple ds, _, _, h, r => by
    cases h with
    | tup hs ha =>
      cases r
      obtain ⟨its, rv, ⟨o, ho, hc, n, hd⟩, _⟩ := I.tuple hs
      obtain ⟨as, hr, hn⟩ := reads1All I one ds _ its ha rv
      exact ⟨_, Reads.tuple ho hc hd hr, hn⟩
  | .dict _, _, _, h, _ => by cases h
theorem reads1All (I : Inv X pins σ H s) (one : One X.K H) : ∀ (ds : List PyData) (vs : List V) (us : List Value), DpAll X.K H vs ds → Vals vs us → ∃ as, ReadsAll s.heap us ds as ∧ sysModules ∉ as
  | [], _, _, h, r => by
    cases h
    cases r
    exact ⟨_, ReadsAll.nil, List.not_mem_nil⟩
  | d :: ds, _, _, h, r => by
    cases h with
    | cons h1 h2 =>
      cases r with
      | cons r1 r2 =>
        obtain ⟨as, q1, n1⟩ := reads1 I one d _ _ h1 r1
        obtain ⟨bs, q2, n2⟩ := reads1All I one ds _ _ h2 r2
        exact ⟨_, ReadsAll.cons q1 q2, fun z => (List.mem_append.mp z).elim n1 n2⟩
end
theorem od_reads (I : Inv X pins σ H s) (one : One X.K H) {v : V} {d : PyData} {u : Value} (h : Od X.K H v d) (r : RelV v u) : ∃ as, Reads s.heap u d as ∧ sysModules ∉ as := by
  rcases h with h | h
  · exact reads1 I one d v u h r
  · exact Mx.reads I h r
theorem od_readsAll (I : Inv X pins σ H s) (one : One X.K H) : ∀ {vs : List V} {ds : List PyData} {us : List Value}, Paired (Od X.K H) vs ds → Vals vs us → ∃ as, ReadsAll s.heap us ds as ∧ sysModules ∉ as
  | _, _, _, .nil, r => by
    cases r
    exact ⟨_, .nil, List.not_mem_nil⟩
  | _, _, _, .cons h t, r => by
    cases r with
    | cons r1 r2 =>
      obtain ⟨as, h1, n1⟩ := od_reads I one h r1
      obtain ⟨bs, h2, n2⟩ := od_readsAll I one t r2
      exact ⟨_, .cons h1 h2, fun z => (List.mem_append.mp z).elim n1 n2⟩
theorem thg_reads (I : Inv X pins σ H s) (one : One X.K H) {v : V} {d : PyData} {u : Value} (h : Thg X.K H v d) (r : RelV v u) : ∃ as, Reads s.heap u d as ∧ sysModules ∉ as := by
  cases h with
  | th h =>
    cases h with
    | dp h => exact reads1 I one d v u h r
    | mx h => exact Mx.reads I h r
    | @tup a xs ds h hm =>
      cases r
      obtain ⟨its, rv, ⟨o, e, c, n, hd⟩, hz⟩ := I.tuple h
      obtain ⟨as, q, nn⟩ := Mx.readsAll I hm rv
      exact ⟨as, .tuple e c hd (by simpa using q), nn⟩
  | lst h a =>
    cases r
    obtain ⟨its, rv, ⟨o, n, ho, hc, _, hd⟩, _⟩ := I.list (SqL.of h)
    obtain ⟨as, hr, hn⟩ := od_readsAll I one a rv
    exact ⟨_, Reads.list ho hc hd hr, fun z => (List.mem_cons.mp z).elim (fun z => one.lst (SqL.of h) z.symm) hn⟩
/-- repr of such a thing -/
def rReprG (K : PySem.W.Frag) : List V → Hp → VK → Prop := fun xs H Q => ∃ (v : V) (d : PyData), xs = [v] ∧ One K H ∧ Thg K H v d ∧ d.showable = true ∧ d.depth ≤ 20 ∧ d.shown.length ≤ sizeLine ∧ Q (.str d.shown) H
/-- repr of a tuple of three of them -/
def rRepr3 (K : PySem.W.Frag) : List V → Hp → VK → Prop := fun xs H Q => ∃ (a : Addr) (x y z : V) (d e f : PyData), xs = [.ref a] ∧ One K H ∧ H a = some (.tup [x, y, z]) ∧ Thg K H x d ∧ Thg K H y e ∧ Thg K H z f ∧ (PyData.tuple [d, e, f]).showable = true ∧ (PyData.tuple [d, e, f]).depth ≤ 20 ∧ (PyData.tuple [d, e, f]).shown.length ≤ sizeLine ∧ Q (.str (PyData.tuple [d, e, f]).shown) H
theorem call_reprR {v : V} {d : PyData} {u : Value} {as : List Addr} {Q : VK} (hu : X.A.units + 64 < cLine) (hg : X.A.guards = some []) (I : Inv X pins σ H s) (rd : Reads s.heap u d as) (hs : sysModules ∉ as) (h1 : d.showable = true) (h3 : d.depth ≤ 20) (h4 : d.shown.length ≤ sizeLine) (q : Q (.str d.shown) H) :
    wpAny (model X.prog X.w) X.A (call (.builtin "repr") [u]) (EP X pins σ Q) X.xe s := by
  have fin : ∀ (tk : Nat) (u : Tok), EP X pins σ Q (.str d.shown u) { s with toks := tk } := fun tk u => ⟨.str d.shown, H, I.kept (t' := tk) (fun _ _ e => e), ⟨u, rfl⟩, q⟩
  cases rd with
  | none => exact P.repr_of_none (fin _ _)
  | bool b => exact P.repr_of_bool (by have := fin (s.toks + 1) s.toks; cases b <;> simpa [PyData.shown] using this)
  | int i t => exact P.repr_of_int (by simpa [PyData.showable] using h1) (fin _ _)
  | str x t => exact P.repr_of_str (fin _ _) (by simpa [PyData.shown] using h4)
  | list e1 e2 e3 e4 =>
    refine repr_of_reads' (.list e1 e2 e3 e4) h1 (fun _ => hs) hg (by omega) (fun _ _ e => e) (fun h' u tk hk => ?_) h4
    exact ⟨.str _, H, I.kept (t' := tk) hk, ⟨u, rfl⟩, q⟩
  | tuple e1 e2 e3 e4 =>
    refine repr_of_reads' (.tuple e1 e2 e3 e4) h1 (fun _ => hs) hg (by omega) (fun _ _ e => e) (fun h' u tk hk => ?_) h4
    exact ⟨.str _, H, I.kept (t' := tk) hk, ⟨u, rfl⟩, q⟩
  | dict e1 e2 e3 e4 e5 =>
    refine repr_of_reads' (.dict e1 e2 e3 e4 e5) h1 (fun _ => hs) hg (by omega) (fun _ _ e => e) (fun h' u tk hk => ?_) h4
    exact ⟨.str _, H, I.kept (t' := tk) hk, ⟨u, rfl⟩, q⟩
end
section
variable {X : Cx}
theorem call_repr_thg (hu : X.A.units + 64 < cLine) (hg : X.A.guards = some []) : CallR X (.builtin "repr") (rReprG X.K) := by
  intro pins s σ H xs us Q I r h
  obtain ⟨v, d, rfl, one, hd, h1, h3, h4, q⟩ := h
  cases r with
  | cons r1 r2 =>
    cases r2
    obtain ⟨as, rd, hs⟩ := thg_reads I one hd r1
    exact call_reprR (v := v) hu hg I rd hs h1 h3 h4 q
theorem call_repr_3 (hu : X.A.units + 64 < cLine) (hg : X.A.guards = some []) : CallR X (.builtin "repr") (rRepr3 X.K) := by
  intro pins s σ H xs us Q I r h
  obtain ⟨a, x, y, z, d, e, f, rfl, one, ha, hx, hy, hz, h1, h3, h4, q⟩ := h
  cases r with
  | cons r1 r2 =>
    cases r2
    cases r1
    obtain ⟨its, rv, ⟨o, ho, hc, n, hd⟩, _⟩ := I.tuple (show SqT X.K H a _ from .inl (.inl ha))
    cases rv with
    | cons rx rv =>
      cases rv with
      | cons ry rv =>
        cases rv with
        | cons rz rv =>
          cases rv
          obtain ⟨as, q1, n1⟩ := thg_reads I one hx rx
          obtain ⟨bs, q2, n2⟩ := thg_reads I one hy ry
          obtain ⟨cs, q3, n3⟩ := thg_reads I one hz rz
          refine call_reprR (v := .ref a) (as := as ++ (bs ++ (cs ++ []))) hu hg I (.tuple ho hc hd (.cons q1 (.cons q2 (.cons q3 .nil)))) (fun z => ?_) h1 h3 h4 q
          rcases List.mem_append.mp z with z | z
          · exact n1 z
          · rcases List.mem_append.mp z with z | z
            · exact n2 z
            · rcases List.mem_append.mp z with z | z
              · exact n3 z
              · exact absurd z List.not_mem_nil
end
end Wb

set_option Elab.async false
set_option linter.all false
set_option maxRecDepth 100000
set_option maxHeartbeats 4000000
set_option pp.maxSteps 600
set_option pp.deepTerms false
namespace Wb
open PySem PySem.Spec PyProof.Rows L2
abbrev sOdd : Stmt := topS 43
theorem scOdd : FnScope ["_law_pen_here", "_law_some"] ["_law_pen_here"] (defScope sOdd) := ⟨rfl, rfl, rfl, by decide +kernel, rfl, by decide +kernel, by decide +kernel⟩
def spOdd (K : PySem.W.Frag) : Sp := fun vs H Q _ => ∃ (p c : Addr) (T : Int), vs = [.ref p] ∧ PenAt H p c T ∧ T ≤ 10000000 ∧ ∀ H' v d, Exx p H H' → PenAt H' p c (T + 1) → Od K H' v d → Sm d 3 200 → Q v H'
section
variable {P : Program} {w : World} {K : PySem.W.Frag} {mg : Str → Option Value} {base : Heap}
theorem ok_odd {f f1 f2 : Addr} {fd fd1 fd2 : FuncData} (F : Fun K "_law_odd" "_law_odd" sOdd f fd) (F1 : Fun K "_law_draw" "_law_draw" sDraw f1 fd1) (b1 : Binds K fd1 ["_law_pen_here", "_law_many"] []) (g1 : mg "_law_draw" = some (.ref f1))
    (F2 : Fun K "_law_pick" "_law_pick" sPick f2 fd2) (b2 : Binds K fd2 ["_law_pen_here", "_law_some"] []) (g2 : mg "_law_pick" = some (.ref f2)) (B : Bi mg) : FnOk P w K mg base CX0 3 f fd ["_law_pen_here"] (spOdd K) := by
  have G2 : FnOk P w K mg base CX0 2 f2 fd2 ["_law_pen_here", "_law_some"] (spPick K) := ok_pick F2 F1 b1 g1 B
  refine F.ok scOdd (fun vs H Q E h => ?_) (fun cdv A outer s H vs Q E hr h => ?_)
  · obtain ⟨p, c, T, rfl, _⟩ := h; rfl
  · obtain ⟨p, c, T, rfl, hp, T9, q⟩ := h
    refine ⟨_, pss_cons (ps_set (i := 1) scOdd.nd rfl (.inl rfl) (pe_lst (pa_cons pe_non (pa_cons pe_bl (pa_cons pe_bl (pa_cons pe_int (pa_cons pe_int (pa_cons (pe_un un_neg pe_int) (pa_cons pe_int (pa_cons (pe_op op_pow pe_int pe_int) (pa_cons (pe_op op_pow pe_int pe_int) (pa_cons pe_str (pa_cons pe_str (pa_cons pe_str (pa_cons (pe_tup pa_nil) (pa_cons (pe_tup (pa_cons pe_int pa_nil)) (pa_cons (pe_lst pa_nil) (pa_cons (pe_lst (pa_cons pe_int pa_nil)) (pa_cons pe_dnewK (pa_cons (pe_disp (pps_cons pe_int pe_int pps_nil) (by rfl) (by rfl) (fun z => by cases z) (by decide)) (pa_cons (pe_tup (pa_cons pe_non pa_nil)) pa_nil)))))))))))))))))))))
      (pss_cons (ps_set (i := 1) scOdd.nd rfl (.inl rfl) (pe_op op_cat (pv 1) (pe_lst (pa_cons (pe_tup (pa_cons pe_int (pa_cons pe_int pa_nil))) (pa_cons (pe_lst (pa_cons (pe_tup (pa_cons pe_int (pa_cons pe_int pa_nil))) pa_nil)) (pa_cons (pe_tup (pa_cons (pe_tup pa_nil) pa_nil)) (pa_cons (pe_tup (pa_cons (pe_tup (pa_cons pe_int (pa_cons (pe_tup pa_nil) pa_nil))) pa_nil)) (pa_cons (pe_tup (pa_cons pe_bl pa_nil)) (pa_cons (pe_tup (pa_cons pe_str pa_nil)) (pa_cons (pe_tup (pa_cons (pe_tup (pa_cons pe_int (pa_cons pe_int pa_nil))) (pa_cons (pe_tup (pa_cons pe_int (pa_cons pe_int pa_nil))) pa_nil))) (pa_cons (pe_tup (pa_cons pe_int (pa_cons pe_int (pa_cons pe_int (pa_cons (pe_tup pa_nil) pa_nil))))) pa_nil)))))))))))
      (pss_one (ps_ret (pe_call G2 hr (by rfl) g2 F2.kp b2 .nil pass0 (pa_cons (pv 0) (pa_cons (pv 1) pa_nil)))))), ?_⟩
    refine ⟨1, rfl, 10, 6, rfl, rfl, ⟨by decide, by decide, by decide⟩, 10, 60, rfl, rfl, ⟨by decide, by decide, by decide⟩, (by show 0 ≤ sizeLine; decide), fun a1 n1 => ?_⟩
    have e1 := Evl.Ex.new (o := .tup []) n1
    have g1 : (upd H a1 (.tup [])) a1 = some (.tup []) := upd_same
    generalize upd H a1 (.tup []) = H1 at e1 g1
    have q1 : Dp K H1 (.ref a1) (.tuple []) := .tup (.inl (.inl g1)) .nil
    refine ⟨(by show 1 ≤ sizeLine; decide), fun a2 n2 => ?_⟩
    have e2 := Evl.Ex.new (o := .tup [.int 0]) n2
    have g2 : (upd H1 a2 (.tup [.int 0])) a2 = some (.tup [.int 0]) := upd_same
    generalize upd H1 a2 (.tup [.int 0]) = H2 at e2 g2
    have q1 := Dp.keep (TK.ex (K := K) e2) q1
    have q2 : Dp K H2 (.ref a2) (.tuple [.int 0]) := .tup (.inl (.inl g2)) (.cons (.int 0) .nil)
    refine ⟨(by show 0 ≤ sizeLine; decide), fun a3 n3 => ?_⟩
    have e3 := Evl.Ex.new (o := .lst []) n3
    have g3 : (upd H2 a3 (.lst [])) a3 = some (.lst []) := upd_same
    generalize upd H2 a3 (.lst []) = H3 at e3 g3
    have q1 := Dp.keep (TK.ex (K := K) e3) q1
    have q2 := Dp.keep (TK.ex (K := K) e3) q2
    have q3 : Dp K H3 (.ref a3) (.list []) := .lst (.inl (.inl g3)) .nil
    refine ⟨(by show 1 ≤ sizeLine; decide), fun a4 n4 => ?_⟩
    have e4 := Evl.Ex.new (o := .lst [.int 0]) n4
    have g4 : (upd H3 a4 (.lst [.int 0])) a4 = some (.lst [.int 0]) := upd_same
    generalize upd H3 a4 (.lst [.int 0]) = H4 at e4 g4
    have q1 := Dp.keep (TK.ex (K := K) e4) q1
    have q2 := Dp.keep (TK.ex (K := K) e4) q2
    have q3 := Dp.keep (TK.ex (K := K) e4) q3
    have q4 : Dp K H4 (.ref a4) (.list [.int 0]) := .lst (.inl (.inl g4)) (.cons (.int 0) .nil)
    intro a5 n5
    have e5 := Evl.Ex.new (o := .dK []) n5
    have z5 : (upd H4 a5 (.dK [])) a5 = some (.dK []) := upd_same
    generalize upd H4 a5 (.dK []) = H5 at e5 z5
    have q1 := Dp.keep (TK.ex (K := K) e5) q1
    have q2 := Dp.keep (TK.ex (K := K) e5) q2
    have q3 := Dp.keep (TK.ex (K := K) e5) q3
    have q4 := Dp.keep (TK.ex (K := K) e5) q4
    intro a6 n6
    refine ⟨upd_same, one0, rfl, (by show 1 ≤ 15; decide), ?_⟩
    have e6 : Evl.Ex H5 (upd (upd H5 a6 (.dK [])) a6 (.dK (mergeK [] one0))) := (Evl.Ex.new n6).mut n6
    have z6 : (upd (upd H5 a6 (.dK [])) a6 (.dK (mergeK [] one0))) a6 = some (.dK one0) := upd_same
    generalize upd (upd H5 a6 (.dK [])) a6 (.dK (mergeK [] one0)) = H6 at e6 z6
    have q1 := Dp.keep (TK.ex (K := K) e6) q1
    have q2 := Dp.keep (TK.ex (K := K) e6) q2
    have q3 := Dp.keep (TK.ex (K := K) e6) q3
    have q4 := Dp.keep (TK.ex (K := K) e6) q4
    have z5 := e6 _ _ z5
    refine ⟨(by show 1 ≤ sizeLine; decide), fun a7 n7 => ?_⟩
    have e7 := Evl.Ex.new (o := .tup [.non]) n7
    have g7 : (upd H6 a7 (.tup [.non])) a7 = some (.tup [.non]) := upd_same
    generalize upd H6 a7 (.tup [.non]) = H7 at e7 g7
    have q1 := Dp.keep (TK.ex (K := K) e7) q1
    have q2 := Dp.keep (TK.ex (K := K) e7) q2
    have q3 := Dp.keep (TK.ex (K := K) e7) q3
    have q4 := Dp.keep (TK.ex (K := K) e7) q4
    have z5 := e7 _ _ z5
    have z6 := e7 _ _ z6
    have q7 : Dp K H7 (.ref a7) (.tuple [.none]) := .tup (.inl (.inl g7)) (.cons .non .nil)
    refine ⟨(by show 19 ≤ sizeLine; decide), fun a8 n8 => ?_⟩
    have e8 := Evl.Ex.new (o := .lst [.non, .bl true, .bl false, .int 0, .int 1, .int (-1), .int 2, .int (10 ^ (6 : Int).toNat), .int (10 ^ (60 : Int).toNat), .str "", .str "0", .str "a", .ref a1, .ref a2, .ref a3, .ref a4, .ref a5, .ref a6, .ref a7]) n8
    have z8 : (upd H7 a8 (.lst [.non, .bl true, .bl false, .int 0, .int 1, .int (-1), .int 2, .int (10 ^ (6 : Int).toNat), .int (10 ^ (60 : Int).toNat), .str "", .str "0", .str "a", .ref a1, .ref a2, .ref a3, .ref a4, .ref a5, .ref a6, .ref a7])) a8 = some (.lst [.non, .bl true, .bl false, .int 0, .int 1, .int (-1), .int 2, .int (10 ^ (6 : Int).toNat), .int (10 ^ (60 : Int).toNat), .str "", .str "0", .str "a", .ref a1, .ref a2, .ref a3, .ref a4, .ref a5, .ref a6, .ref a7]) := upd_same
    generalize upd H7 a8 (.lst [.non, .bl true, .bl false, .int 0, .int 1, .int (-1), .int 2, .int (10 ^ (6 : Int).toNat), .int (10 ^ (60 : Int).toNat), .str "", .str "0", .str "a", .ref a1, .ref a2, .ref a3, .ref a4, .ref a5, .ref a6, .ref a7]) = H8 at e8 z8
    have q1 := Dp.keep (TK.ex (K := K) e8) q1
    have q2 := Dp.keep (TK.ex (K := K) e8) q2
    have q3 := Dp.keep (TK.ex (K := K) e8) q3
    have q4 := Dp.keep (TK.ex (K := K) e8) q4
    have z5 := e8 _ _ z5
    have z6 := e8 _ _ z6
    have q7 := Dp.keep (TK.ex (K := K) e8) q7
    refine ⟨.ref a8, rfl, (by show 2 ≤ sizeLine; decide), fun a9 n9 => ?_⟩
    have e9 := Evl.Ex.new (o := .tup [.int 0, .int 1]) n9
    have g9 : (upd H8 a9 (.tup [.int 0, .int 1])) a9 = some (.tup [.int 0, .int 1]) := upd_same
    generalize upd H8 a9 (.tup [.int 0, .int 1]) = H9 at e9 g9
    have q1 := Dp.keep (TK.ex (K := K) e9) q1
    have q2 := Dp.keep (TK.ex (K := K) e9) q2
    have q3 := Dp.keep (TK.ex (K := K) e9) q3
    have q4 := Dp.keep (TK.ex (K := K) e9) q4
    have z5 := e9 _ _ z5
    have z6 := e9 _ _ z6
    have q7 := Dp.keep (TK.ex (K := K) e9) q7
    have z8 := e9 _ _ z8
    have q9 : Dp K H9 (.ref a9) (.tuple [.int 0, .int 1]) := .tup (.inl (.inl g9)) (.cons (.int 0) (.cons (.int 1) .nil))
    refine ⟨(by show 2 ≤ sizeLine; decide), fun a10 n10 => ?_⟩
    have e10 := Evl.Ex.new (o := .tup [.int 0, .int 1]) n10
    have g10 : (upd H9 a10 (.tup [.int 0, .int 1])) a10 = some (.tup [.int 0, .int 1]) := upd_same
    generalize upd H9 a10 (.tup [.int 0, .int 1]) = H10 at e10 g10
    have q1 := Dp.keep (TK.ex (K := K) e10) q1
    have q2 := Dp.keep (TK.ex (K := K) e10) q2
    have q3 := Dp.keep (TK.ex (K := K) e10) q3
    have q4 := Dp.keep (TK.ex (K := K) e10) q4
    have z5 := e10 _ _ z5
    have z6 := e10 _ _ z6
    have q7 := Dp.keep (TK.ex (K := K) e10) q7
    have z8 := e10 _ _ z8
    have q9 := Dp.keep (TK.ex (K := K) e10) q9
    have q10 : Dp K H10 (.ref a10) (.tuple [.int 0, .int 1]) := .tup (.inl (.inl g10)) (.cons (.int 0) (.cons (.int 1) .nil))
    refine ⟨(by show 1 ≤ sizeLine; decide), fun a11 n11 => ?_⟩
    have e11 := Evl.Ex.new (o := .lst [.ref a10]) n11
    have g11 : (upd H10 a11 (.lst [.ref a10])) a11 = some (.lst [.ref a10]) := upd_same
    generalize upd H10 a11 (.lst [.ref a10]) = H11 at e11 g11
    have q1 := Dp.keep (TK.ex (K := K) e11) q1
    have q2 := Dp.keep (TK.ex (K := K) e11) q2
    have q3 := Dp.keep (TK.ex (K := K) e11) q3
    have q4 := Dp.keep (TK.ex (K := K) e11) q4
    have z5 := e11 _ _ z5
    have z6 := e11 _ _ z6
    have q7 := Dp.keep (TK.ex (K := K) e11) q7
    have z8 := e11 _ _ z8
    have q9 := Dp.keep (TK.ex (K := K) e11) q9
    have q10 := Dp.keep (TK.ex (K := K) e11) q10
    have q11 : Dp K H11 (.ref a11) (.list [.tuple [.int 0, .int 1]]) := .lst (.inl (.inl g11)) (.cons q10 .nil)
    refine ⟨(by show 0 ≤ sizeLine; decide), fun a12 n12 => ?_⟩
    have e12 := Evl.Ex.new (o := .tup []) n12
    have g12 : (upd H11 a12 (.tup [])) a12 = some (.tup []) := upd_same
    generalize upd H11 a12 (.tup []) = H12 at e12 g12
    have q1 := Dp.keep (TK.ex (K := K) e12) q1
    have q2 := Dp.keep (TK.ex (K := K) e12) q2
    have q3 := Dp.keep (TK.ex (K := K) e12) q3
    have q4 := Dp.keep (TK.ex (K := K) e12) q4
    have z5 := e12 _ _ z5
    have z6 := e12 _ _ z6
    have q7 := Dp.keep (TK.ex (K := K) e12) q7
    have z8 := e12 _ _ z8
    have q9 := Dp.keep (TK.ex (K := K) e12) q9
    have q10 := Dp.keep (TK.ex (K := K) e12) q10
    have q11 := Dp.keep (TK.ex (K := K) e12) q11
    have q12 : Dp K H12 (.ref a12) (.tuple []) := .tup (.inl (.inl g12)) .nil
    refine ⟨(by show 1 ≤ sizeLine; decide), fun a13 n13 => ?_⟩
    have e13 := Evl.Ex.new (o := .tup [.ref a12]) n13
    have g13 : (upd H12 a13 (.tup [.ref a12])) a13 = some (.tup [.ref a12]) := upd_same
    generalize upd H12 a13 (.tup [.ref a12]) = H13 at e13 g13
    have q1 := Dp.keep (TK.ex (K := K) e13) q1
    have q2 := Dp.keep (TK.ex (K := K) e13) q2
    have q3 := Dp.keep (TK.ex (K := K) e13) q3
    have q4 := Dp.keep (TK.ex (K := K) e13) q4
    have z5 := e13 _ _ z5
    have z6 := e13 _ _ z6
    have q7 := Dp.keep (TK.ex (K := K) e13) q7
    have z8 := e13 _ _ z8
    have q9 := Dp.keep (TK.ex (K := K) e13) q9
    have q10 := Dp.keep (TK.ex (K := K) e13) q10
    have q11 := Dp.keep (TK.ex (K := K) e13) q11
    have q12 := Dp.keep (TK.ex (K := K) e13) q12
    have q13 : Dp K H13 (.ref a13) (.tuple [.tuple []]) := .tup (.inl (.inl g13)) (.cons q12 .nil)
    refine ⟨(by show 0 ≤ sizeLine; decide), fun a14 n14 => ?_⟩
    have e14 := Evl.Ex.new (o := .tup []) n14
    have g14 : (upd H13 a14 (.tup [])) a14 = some (.tup []) := upd_same
    generalize upd H13 a14 (.tup []) = H14 at e14 g14
    have q1 := Dp.keep (TK.ex (K := K) e14) q1
    have q2 := Dp.keep (TK.ex (K := K) e14) q2
    have q3 := Dp.keep (TK.ex (K := K) e14) q3
    have q4 := Dp.keep (TK.ex (K := K) e14) q4
    have z5 := e14 _ _ z5
    have z6 := e14 _ _ z6
    have q7 := Dp.keep (TK.ex (K := K) e14) q7
    have z8 := e14 _ _ z8
    have q9 := Dp.keep (TK.ex (K := K) e14) q9
    have q10 := Dp.keep (TK.ex (K := K) e14) q10
    have q11 := Dp.keep (TK.ex (K := K) e14) q11
    have q12 := Dp.keep (TK.ex (K := K) e14) q12
    have q13 := Dp.keep (TK.ex (K := K) e14) q13
    have q14 : Dp K H14 (.ref a14) (.tuple []) := .tup (.inl (.inl g14)) .nil
    refine ⟨(by show 2 ≤ sizeLine; decide), fun a15 n15 => ?_⟩
    have e15 := Evl.Ex.new (o := .tup [.int 2, .ref a14]) n15
    have g15 : (upd H14 a15 (.tup [.int 2, .ref a14])) a15 = some (.tup [.int 2, .ref a14]) := upd_same
    generalize upd H14 a15 (.tup [.int 2, .ref a14]) = H15 at e15 g15
    have q1 := Dp.keep (TK.ex (K := K) e15) q1
    have q2 := Dp.keep (TK.ex (K := K) e15) q2
    have q3 := Dp.keep (TK.ex (K := K) e15) q3
    have q4 := Dp.keep (TK.ex (K := K) e15) q4
    have z5 := e15 _ _ z5
    have z6 := e15 _ _ z6
    have q7 := Dp.keep (TK.ex (K := K) e15) q7
    have z8 := e15 _ _ z8
    have q9 := Dp.keep (TK.ex (K := K) e15) q9
    have q10 := Dp.keep (TK.ex (K := K) e15) q10
    have q11 := Dp.keep (TK.ex (K := K) e15) q11
    have q12 := Dp.keep (TK.ex (K := K) e15) q12
    have q13 := Dp.keep (TK.ex (K := K) e15) q13
    have q14 := Dp.keep (TK.ex (K := K) e15) q14
    have q15 : Dp K H15 (.ref a15) (.tuple [.int 2, .tuple []]) := .tup (.inl (.inl g15)) (.cons (.int 2) (.cons q14 .nil))
    refine ⟨(by show 1 ≤ sizeLine; decide), fun a16 n16 => ?_⟩
    have e16 := Evl.Ex.new (o := .tup [.ref a15]) n16
    have g16 : (upd H15 a16 (.tup [.ref a15])) a16 = some (.tup [.ref a15]) := upd_same
    generalize upd H15 a16 (.tup [.ref a15]) = H16 at e16 g16
    have q1 := Dp.keep (TK.ex (K := K) e16) q1
    have q2 := Dp.keep (TK.ex (K := K) e16) q2
    have q3 := Dp.keep (TK.ex (K := K) e16) q3
    have q4 := Dp.keep (TK.ex (K := K) e16) q4
    have z5 := e16 _ _ z5
    have z6 := e16 _ _ z6
    have q7 := Dp.keep (TK.ex (K := K) e16) q7
    have z8 := e16 _ _ z8
    have q9 := Dp.keep (TK.ex (K := K) e16) q9
    have q10 := Dp.keep (TK.ex (K := K) e16) q10
    have q11 := Dp.keep (TK.ex (K := K) e16) q11
    have q12 := Dp.keep (TK.ex (K := K) e16) q12
    have q13 := Dp.keep (TK.ex (K := K) e16) q13
    have q14 := Dp.keep (TK.ex (K := K) e16) q14
    have q15 := Dp.keep (TK.ex (K := K) e16) q15
    have q16 : Dp K H16 (.ref a16) (.tuple [.tuple [.int 2, .tuple []]]) := .tup (.inl (.inl g16)) (.cons q15 .nil)
    refine ⟨(by show 1 ≤ sizeLine; decide), fun a17 n17 => ?_⟩
    have e17 := Evl.Ex.new (o := .tup [.bl true]) n17
    have g17 : (upd H16 a17 (.tup [.bl true])) a17 = some (.tup [.bl true]) := upd_same
    generalize upd H16 a17 (.tup [.bl true]) = H17 at e17 g17
    have q1 := Dp.keep (TK.ex (K := K) e17) q1
    have q2 := Dp.keep (TK.ex (K := K) e17) q2
    have q3 := Dp.keep (TK.ex (K := K) e17) q3
    have q4 := Dp.keep (TK.ex (K := K) e17) q4
    have z5 := e17 _ _ z5
    have z6 := e17 _ _ z6
    have q7 := Dp.keep (TK.ex (K := K) e17) q7
    have z8 := e17 _ _ z8
    have q9 := Dp.keep (TK.ex (K := K) e17) q9
    have q10 := Dp.keep (TK.ex (K := K) e17) q10
    have q11 := Dp.keep (TK.ex (K := K) e17) q11
    have q12 := Dp.keep (TK.ex (K := K) e17) q12
    have q13 := Dp.keep (TK.ex (K := K) e17) q13
    have q14 := Dp.keep (TK.ex (K := K) e17) q14
    have q15 := Dp.keep (TK.ex (K := K) e17) q15
    have q16 := Dp.keep (TK.ex (K := K) e17) q16
    have q17 : Dp K H17 (.ref a17) (.tuple [.bool true]) := .tup (.inl (.inl g17)) (.cons (.bl true) .nil)
    refine ⟨(by show 1 ≤ sizeLine; decide), fun a18 n18 => ?_⟩
    have e18 := Evl.Ex.new (o := .tup [.str "0"]) n18
    have g18 : (upd H17 a18 (.tup [.str "0"])) a18 = some (.tup [.str "0"]) := upd_same
    generalize upd H17 a18 (.tup [.str "0"]) = H18 at e18 g18
    have q1 := Dp.keep (TK.ex (K := K) e18) q1
    have q2 := Dp.keep (TK.ex (K := K) e18) q2
    have q3 := Dp.keep (TK.ex (K := K) e18) q3
    have q4 := Dp.keep (TK.ex (K := K) e18) q4
    have z5 := e18 _ _ z5
    have z6 := e18 _ _ z6
    have q7 := Dp.keep (TK.ex (K := K) e18) q7
    have z8 := e18 _ _ z8
    have q9 := Dp.keep (TK.ex (K := K) e18) q9
    have q10 := Dp.keep (TK.ex (K := K) e18) q10
    have q11 := Dp.keep (TK.ex (K := K) e18) q11
    have q12 := Dp.keep (TK.ex (K := K) e18) q12
    have q13 := Dp.keep (TK.ex (K := K) e18) q13
    have q14 := Dp.keep (TK.ex (K := K) e18) q14
    have q15 := Dp.keep (TK.ex (K := K) e18) q15
    have q16 := Dp.keep (TK.ex (K := K) e18) q16
    have q17 := Dp.keep (TK.ex (K := K) e18) q17
    have q18 : Dp K H18 (.ref a18) (.tuple [.str "0"]) := .tup (.inl (.inl g18)) (.cons (.str "0") .nil)
    refine ⟨(by show 2 ≤ sizeLine; decide), fun a19 n19 => ?_⟩
    have e19 := Evl.Ex.new (o := .tup [.int 0, .int 1]) n19
    have g19 : (upd H18 a19 (.tup [.int 0, .int 1])) a19 = some (.tup [.int 0, .int 1]) := upd_same
    generalize upd H18 a19 (.tup [.int 0, .int 1]) = H19 at e19 g19
    have q1 := Dp.keep (TK.ex (K := K) e19) q1
    have q2 := Dp.keep (TK.ex (K := K) e19) q2
    have q3 := Dp.keep (TK.ex (K := K) e19) q3
    have q4 := Dp.keep (TK.ex (K := K) e19) q4
    have z5 := e19 _ _ z5
    have z6 := e19 _ _ z6
    have q7 := Dp.keep (TK.ex (K := K) e19) q7
    have z8 := e19 _ _ z8
    have q9 := Dp.keep (TK.ex (K := K) e19) q9
    have q10 := Dp.keep (TK.ex (K := K) e19) q10
    have q11 := Dp.keep (TK.ex (K := K) e19) q11
    have q12 := Dp.keep (TK.ex (K := K) e19) q12
    have q13 := Dp.keep (TK.ex (K := K) e19) q13
    have q14 := Dp.keep (TK.ex (K := K) e19) q14
    have q15 := Dp.keep (TK.ex (K := K) e19) q15
    have q16 := Dp.keep (TK.ex (K := K) e19) q16
    have q17 := Dp.keep (TK.ex (K := K) e19) q17
    have q18 := Dp.keep (TK.ex (K := K) e19) q18
    have q19 : Dp K H19 (.ref a19) (.tuple [.int 0, .int 1]) := .tup (.inl (.inl g19)) (.cons (.int 0) (.cons (.int 1) .nil))
    refine ⟨(by show 2 ≤ sizeLine; decide), fun a20 n20 => ?_⟩
    have e20 := Evl.Ex.new (o := .tup [.int 1, .int 0]) n20
    have g20 : (upd H19 a20 (.tup [.int 1, .int 0])) a20 = some (.tup [.int 1, .int 0]) := upd_same
    generalize upd H19 a20 (.tup [.int 1, .int 0]) = H20 at e20 g20
    have q1 := Dp.keep (TK.ex (K := K) e20) q1
    have q2 := Dp.keep (TK.ex (K := K) e20) q2
    have q3 := Dp.keep (TK.ex (K := K) e20) q3
    have q4 := Dp.keep (TK.ex (K := K) e20) q4
    have z5 := e20 _ _ z5
    have z6 := e20 _ _ z6
    have q7 := Dp.keep (TK.ex (K := K) e20) q7
    have z8 := e20 _ _ z8
    have q9 := Dp.keep (TK.ex (K := K) e20) q9
    have q10 := Dp.keep (TK.ex (K := K) e20) q10
    have q11 := Dp.keep (TK.ex (K := K) e20) q11
    have q12 := Dp.keep (TK.ex (K := K) e20) q12
    have q13 := Dp.keep (TK.ex (K := K) e20) q13
    have q14 := Dp.keep (TK.ex (K := K) e20) q14
    have q15 := Dp.keep (TK.ex (K := K) e20) q15
    have q16 := Dp.keep (TK.ex (K := K) e20) q16
    have q17 := Dp.keep (TK.ex (K := K) e20) q17
    have q18 := Dp.keep (TK.ex (K := K) e20) q18
    have q19 := Dp.keep (TK.ex (K := K) e20) q19
    have q20 : Dp K H20 (.ref a20) (.tuple [.int 1, .int 0]) := .tup (.inl (.inl g20)) (.cons (.int 1) (.cons (.int 0) .nil))
    refine ⟨(by show 2 ≤ sizeLine; decide), fun a21 n21 => ?_⟩
    have e21 := Evl.Ex.new (o := .tup [.ref a19, .ref a20]) n21
    have g21 : (upd H20 a21 (.tup [.ref a19, .ref a20])) a21 = some (.tup [.ref a19, .ref a20]) := upd_same
    generalize upd H20 a21 (.tup [.ref a19, .ref a20]) = H21 at e21 g21
    have q1 := Dp.keep (TK.ex (K := K) e21) q1
    have q2 := Dp.keep (TK.ex (K := K) e21) q2
    have q3 := Dp.keep (TK.ex (K := K) e21) q3
    have q4 := Dp.keep (TK.ex (K := K) e21) q4
    have z5 := e21 _ _ z5
    have z6 := e21 _ _ z6
    have q7 := Dp.keep (TK.ex (K := K) e21) q7
    have z8 := e21 _ _ z8
    have q9 := Dp.keep (TK.ex (K := K) e21) q9
    have q10 := Dp.keep (TK.ex (K := K) e21) q10
    have q11 := Dp.keep (TK.ex (K := K) e21) q11
    have q12 := Dp.keep (TK.ex (K := K) e21) q12
    have q13 := Dp.keep (TK.ex (K := K) e21) q13
    have q14 := Dp.keep (TK.ex (K := K) e21) q14
    have q15 := Dp.keep (TK.ex (K := K) e21) q15
    have q16 := Dp.keep (TK.ex (K := K) e21) q16
    have q17 := Dp.keep (TK.ex (K := K) e21) q17
    have q18 := Dp.keep (TK.ex (K := K) e21) q18
    have q19 := Dp.keep (TK.ex (K := K) e21) q19
    have q20 := Dp.keep (TK.ex (K := K) e21) q20
    have q21 : Dp K H21 (.ref a21) (.tuple [.tuple [.int 0, .int 1], .tuple [.int 1, .int 0]]) := .tup (.inl (.inl g21)) (.cons q19 (.cons q20 .nil))
    refine ⟨(by show 0 ≤ sizeLine; decide), fun a22 n22 => ?_⟩
    have e22 := Evl.Ex.new (o := .tup []) n22
    have g22 : (upd H21 a22 (.tup [])) a22 = some (.tup []) := upd_same
    generalize upd H21 a22 (.tup []) = H22 at e22 g22
    have q1 := Dp.keep (TK.ex (K := K) e22) q1
    have q2 := Dp.keep (TK.ex (K := K) e22) q2
    have q3 := Dp.keep (TK.ex (K := K) e22) q3
    have q4 := Dp.keep (TK.ex (K := K) e22) q4
    have z5 := e22 _ _ z5
    have z6 := e22 _ _ z6
    have q7 := Dp.keep (TK.ex (K := K) e22) q7
    have z8 := e22 _ _ z8
    have q9 := Dp.keep (TK.ex (K := K) e22) q9
    have q10 := Dp.keep (TK.ex (K := K) e22) q10
    have q11 := Dp.keep (TK.ex (K := K) e22) q11
    have q12 := Dp.keep (TK.ex (K := K) e22) q12
    have q13 := Dp.keep (TK.ex (K := K) e22) q13
    have q14 := Dp.keep (TK.ex (K := K) e22) q14
    have q15 := Dp.keep (TK.ex (K := K) e22) q15
    have q16 := Dp.keep (TK.ex (K := K) e22) q16
    have q17 := Dp.keep (TK.ex (K := K) e22) q17
    have q18 := Dp.keep (TK.ex (K := K) e22) q18
    have q19 := Dp.keep (TK.ex (K := K) e22) q19
    have q20 := Dp.keep (TK.ex (K := K) e22) q20
    have q21 := Dp.keep (TK.ex (K := K) e22) q21
    have q22 : Dp K H22 (.ref a22) (.tuple []) := .tup (.inl (.inl g22)) .nil
    refine ⟨(by show 4 ≤ sizeLine; decide), fun a23 n23 => ?_⟩
    have e23 := Evl.Ex.new (o := .tup [.int 0, .int 0, .int 1, .ref a22]) n23
    have g23 : (upd H22 a23 (.tup [.int 0, .int 0, .int 1, .ref a22])) a23 = some (.tup [.int 0, .int 0, .int 1, .ref a22]) := upd_same
    generalize upd H22 a23 (.tup [.int 0, .int 0, .int 1, .ref a22]) = H23 at e23 g23
    have q1 := Dp.keep (TK.ex (K := K) e23) q1
    have q2 := Dp.keep (TK.ex (K := K) e23) q2
    have q3 := Dp.keep (TK.ex (K := K) e23) q3
    have q4 := Dp.keep (TK.ex (K := K) e23) q4
    have z5 := e23 _ _ z5
    have z6 := e23 _ _ z6
    have q7 := Dp.keep (TK.ex (K := K) e23) q7
    have z8 := e23 _ _ z8
    have q9 := Dp.keep (TK.ex (K := K) e23) q9
    have q10 := Dp.keep (TK.ex (K := K) e23) q10
    have q11 := Dp.keep (TK.ex (K := K) e23) q11
    have q12 := Dp.keep (TK.ex (K := K) e23) q12
    have q13 := Dp.keep (TK.ex (K := K) e23) q13
    have q14 := Dp.keep (TK.ex (K := K) e23) q14
    have q15 := Dp.keep (TK.ex (K := K) e23) q15
    have q16 := Dp.keep (TK.ex (K := K) e23) q16
    have q17 := Dp.keep (TK.ex (K := K) e23) q17
    have q18 := Dp.keep (TK.ex (K := K) e23) q18
    have q19 := Dp.keep (TK.ex (K := K) e23) q19
    have q20 := Dp.keep (TK.ex (K := K) e23) q20
    have q21 := Dp.keep (TK.ex (K := K) e23) q21
    have q22 := Dp.keep (TK.ex (K := K) e23) q22
    have q23 : Dp K H23 (.ref a23) (.tuple [.int 0, .int 0, .int 1, .tuple []]) := .tup (.inl (.inl g23)) (.cons (.int 0) (.cons (.int 0) (.cons (.int 1) (.cons q22 .nil))))
    refine ⟨(by show 8 ≤ sizeLine; decide), fun a24 n24 => ?_⟩
    have e24 := Evl.Ex.new (o := .lst [.ref a9, .ref a11, .ref a13, .ref a16, .ref a17, .ref a18, .ref a21, .ref a23]) n24
    have z24 : (upd H23 a24 (.lst [.ref a9, .ref a11, .ref a13, .ref a16, .ref a17, .ref a18, .ref a21, .ref a23])) a24 = some (.lst [.ref a9, .ref a11, .ref a13, .ref a16, .ref a17, .ref a18, .ref a21, .ref a23]) := upd_same
    generalize upd H23 a24 (.lst [.ref a9, .ref a11, .ref a13, .ref a16, .ref a17, .ref a18, .ref a21, .ref a23]) = H24 at e24 z24
    have q1 := Dp.keep (TK.ex (K := K) e24) q1
    have q2 := Dp.keep (TK.ex (K := K) e24) q2
    have q3 := Dp.keep (TK.ex (K := K) e24) q3
    have q4 := Dp.keep (TK.ex (K := K) e24) q4
    have z5 := e24 _ _ z5
    have z6 := e24 _ _ z6
    have q7 := Dp.keep (TK.ex (K := K) e24) q7
    have z8 := e24 _ _ z8
    have q9 := Dp.keep (TK.ex (K := K) e24) q9
    have q10 := Dp.keep (TK.ex (K := K) e24) q10
    have q11 := Dp.keep (TK.ex (K := K) e24) q11
    have q12 := Dp.keep (TK.ex (K := K) e24) q12
    have q13 := Dp.keep (TK.ex (K := K) e24) q13
    have q14 := Dp.keep (TK.ex (K := K) e24) q14
    have q15 := Dp.keep (TK.ex (K := K) e24) q15
    have q16 := Dp.keep (TK.ex (K := K) e24) q16
    have q17 := Dp.keep (TK.ex (K := K) e24) q17
    have q18 := Dp.keep (TK.ex (K := K) e24) q18
    have q19 := Dp.keep (TK.ex (K := K) e24) q19
    have q20 := Dp.keep (TK.ex (K := K) e24) q20
    have q21 := Dp.keep (TK.ex (K := K) e24) q21
    have q22 := Dp.keep (TK.ex (K := K) e24) q22
    have q23 := Dp.keep (TK.ex (K := K) e24) q23
    refine ⟨a8, a24, _, _, rfl, rfl, z8, z24, (by show 27 ≤ sizeLine; decide), fun a25 n25 => ?_⟩
    have e25 := Evl.Ex.new (o := .lst ([.non, .bl true, .bl false, .int 0, .int 1, .int (-1), .int 2, .int (10 ^ (6 : Int).toNat), .int (10 ^ (60 : Int).toNat), .str "", .str "0", .str "a", .ref a1, .ref a2, .ref a3, .ref a4, .ref a5, .ref a6, .ref a7] ++ [.ref a9, .ref a11, .ref a13, .ref a16, .ref a17, .ref a18, .ref a21, .ref a23])) n25
    have z25 : (upd H24 a25 (.lst ([.non, .bl true, .bl false, .int 0, .int 1, .int (-1), .int 2, .int (10 ^ (6 : Int).toNat), .int (10 ^ (60 : Int).toNat), .str "", .str "0", .str "a", .ref a1, .ref a2, .ref a3, .ref a4, .ref a5, .ref a6, .ref a7] ++ [.ref a9, .ref a11, .ref a13, .ref a16, .ref a17, .ref a18, .ref a21, .ref a23]))) a25 = some (.lst ([.non, .bl true, .bl false, .int 0, .int 1, .int (-1), .int 2, .int (10 ^ (6 : Int).toNat), .int (10 ^ (60 : Int).toNat), .str "", .str "0", .str "a", .ref a1, .ref a2, .ref a3, .ref a4, .ref a5, .ref a6, .ref a7] ++ [.ref a9, .ref a11, .ref a13, .ref a16, .ref a17, .ref a18, .ref a21, .ref a23])) := upd_same
    generalize upd H24 a25 (.lst ([.non, .bl true, .bl false, .int 0, .int 1, .int (-1), .int 2, .int (10 ^ (6 : Int).toNat), .int (10 ^ (60 : Int).toNat), .str "", .str "0", .str "a", .ref a1, .ref a2, .ref a3, .ref a4, .ref a5, .ref a6, .ref a7] ++ [.ref a9, .ref a11, .ref a13, .ref a16, .ref a17, .ref a18, .ref a21, .ref a23])) = H25 at e25 z25
    have q1 := Dp.keep (TK.ex (K := K) e25) q1
    have q2 := Dp.keep (TK.ex (K := K) e25) q2
    have q3 := Dp.keep (TK.ex (K := K) e25) q3
    have q4 := Dp.keep (TK.ex (K := K) e25) q4
    have z5 := e25 _ _ z5
    have z6 := e25 _ _ z6
    have q7 := Dp.keep (TK.ex (K := K) e25) q7
    have z8 := e25 _ _ z8
    have q9 := Dp.keep (TK.ex (K := K) e25) q9
    have q10 := Dp.keep (TK.ex (K := K) e25) q10
    have q11 := Dp.keep (TK.ex (K := K) e25) q11
    have q12 := Dp.keep (TK.ex (K := K) e25) q12
    have q13 := Dp.keep (TK.ex (K := K) e25) q13
    have q14 := Dp.keep (TK.ex (K := K) e25) q14
    have q15 := Dp.keep (TK.ex (K := K) e25) q15
    have q16 := Dp.keep (TK.ex (K := K) e25) q16
    have q17 := Dp.keep (TK.ex (K := K) e25) q17
    have q18 := Dp.keep (TK.ex (K := K) e25) q18
    have q19 := Dp.keep (TK.ex (K := K) e25) q19
    have q20 := Dp.keep (TK.ex (K := K) e25) q20
    have q21 := Dp.keep (TK.ex (K := K) e25) q21
    have q22 := Dp.keep (TK.ex (K := K) e25) q22
    have q23 := Dp.keep (TK.ex (K := K) e25) q23
    have z24 := e25 _ _ z24
    have ee : Evl.Ex H H25 := (e1.trans (e2.trans (e3.trans (e4.trans (e5.trans (e6.trans (e7.trans (e8.trans (e9.trans (e10.trans (e11.trans (e12.trans (e13.trans (e14.trans (e15.trans (e16.trans (e17.trans (e18.trans (e19.trans (e20.trans (e21.trans (e22.trans (e23.trans (e24.trans e25))))))))))))))))))))))))
    have hpk := hp.ex ee
    have each : ∀ x ∈ ([.non, .bl true, .bl false, .int 0, .int 1, .int (-1), .int 2, .int (10 ^ (6 : Int).toNat), .int (10 ^ (60 : Int).toNat), .str "", .str "0", .str "a", .ref a1, .ref a2, .ref a3, .ref a4, .ref a5, .ref a6, .ref a7] ++ [.ref a9, .ref a11, .ref a13, .ref a16, .ref a17, .ref a18, .ref a21, .ref a23] : List V), OddV K H25 x := by
      intro x hx
      simp only [List.cons_append, List.nil_append, List.mem_cons, List.not_mem_nil, or_false] at hx
      rcases hx with rfl | rfl | rfl | rfl | rfl | rfl | rfl | rfl | rfl | rfl | rfl | rfl | rfl | rfl | rfl | rfl | rfl | rfl | rfl | rfl | rfl | rfl | rfl | rfl | rfl | rfl | rfl
      · exact ⟨_, .inl .non, ⟨by decide +kernel, by decide +kernel, by decide +kernel, by decide +kernel⟩⟩
      · exact ⟨_, .inl (.bl _), ⟨by decide +kernel, by decide +kernel, by decide +kernel, by decide +kernel⟩⟩
      · exact ⟨_, .inl (.bl _), ⟨by decide +kernel, by decide +kernel, by decide +kernel, by decide +kernel⟩⟩
      · exact ⟨_, .inl (.int _), ⟨by decide +kernel, by decide +kernel, by decide +kernel, by decide +kernel⟩⟩
      · exact ⟨_, .inl (.int _), ⟨by decide +kernel, by decide +kernel, by decide +kernel, by decide +kernel⟩⟩
      · exact ⟨_, .inl (.int _), ⟨by decide +kernel, by decide +kernel, by decide +kernel, by decide +kernel⟩⟩
      · exact ⟨_, .inl (.int _), ⟨by decide +kernel, by decide +kernel, by decide +kernel, by decide +kernel⟩⟩
      · exact ⟨_, .inl (.int _), ⟨by decide +kernel, by decide +kernel, by decide +kernel, by decide +kernel⟩⟩
      · exact ⟨_, .inl (.int _), ⟨by decide +kernel, by decide +kernel, by decide +kernel, by decide +kernel⟩⟩
      · exact ⟨_, .inl (.str _), ⟨by decide +kernel, by decide +kernel, by decide +kernel, by decide +kernel⟩⟩
      · exact ⟨_, .inl (.str _), ⟨by decide +kernel, by decide +kernel, by decide +kernel, by decide +kernel⟩⟩
      · exact ⟨_, .inl (.str _), ⟨by decide +kernel, by decide +kernel, by decide +kernel, by decide +kernel⟩⟩
      · exact ⟨_, .inl q1, ⟨by decide +kernel, by decide +kernel, by decide +kernel, by decide +kernel⟩⟩
      · exact ⟨_, .inl q2, ⟨by decide +kernel, by decide +kernel, by decide +kernel, by decide +kernel⟩⟩
      · exact ⟨_, .inl q3, ⟨by decide +kernel, by decide +kernel, by decide +kernel, by decide +kernel⟩⟩
      · exact ⟨_, .inl q4, ⟨by decide +kernel, by decide +kernel, by decide +kernel, by decide +kernel⟩⟩
      · exact ⟨_, .inr (.d0 z5), sm_d0⟩
      · exact ⟨_, .inr (.d1 z6), sm_d1⟩
      · exact ⟨_, .inl q7, ⟨by decide +kernel, by decide +kernel, by decide +kernel, by decide +kernel⟩⟩
      · exact ⟨_, .inl q9, ⟨by decide +kernel, by decide +kernel, by decide +kernel, by decide +kernel⟩⟩
      · exact ⟨_, .inl q11, ⟨by decide +kernel, by decide +kernel, by decide +kernel, by decide +kernel⟩⟩
      · exact ⟨_, .inl q13, ⟨by decide +kernel, by decide +kernel, by decide +kernel, by decide +kernel⟩⟩
      · exact ⟨_, .inl q16, ⟨by decide +kernel, by decide +kernel, by decide +kernel, by decide +kernel⟩⟩
      · exact ⟨_, .inl q17, ⟨by decide +kernel, by decide +kernel, by decide +kernel, by decide +kernel⟩⟩
      · exact ⟨_, .inl q18, ⟨by decide +kernel, by decide +kernel, by decide +kernel, by decide +kernel⟩⟩
      · exact ⟨_, .inl q21, ⟨by decide +kernel, by decide +kernel, by decide +kernel, by decide +kernel⟩⟩
      · exact ⟨_, .inl q23, ⟨by decide +kernel, by decide +kernel, by decide +kernel, by decide +kernel⟩⟩
    refine ⟨.ref p, rfl, .ref a25, rfl, p, c, a25, _, _, rfl, hpk, T9, .inl (.inl z25), (hp.ex ((e1.trans (e2.trans (e3.trans (e4.trans (e5.trans (e6.trans (e7.trans (e8.trans (e9.trans (e10.trans (e11.trans (e12.trans (e13.trans (e14.trans (e15.trans (e16.trans (e17.trans (e18.trans (e19.trans (e20.trans (e21.trans (e22.trans (e23.trans e24))))))))))))))))))))))))).new1 n25, (fun z => nomatch z), (by show 27 ≤ 1000000; decide), fun x H' hx x1 hp1 => ?_⟩
    obtain ⟨d, hd, hs⟩ := each x hx
    exact q H' x d ((Exx.ex ee).trans x1) hp1 (hd.keep (hpk.tk x1)) hs
end
end Wb

set_option Elab.async false
set_option linter.all false
set_option maxRecDepth 100000
set_option maxHeartbeats 4000000
set_option pp.maxSteps 600
set_option pp.deepTerms false
namespace Wb
open PySem PySem.Spec PyProof.Rows L2
abbrev sSpoilt : Stmt := topS 47
abbrev nSpoilt : List Str := ["_law_pen_here", "_law_lock_here", "_law_things", "_law_at", "_law_k", "_law_some", "_law_fresh"]
theorem scSpoilt : FnScope nSpoilt ["_law_pen_here", "_law_lock_here", "_law_things"] (defScope sSpoilt) := ⟨rfl, rfl, rfl, by decide +kernel, rfl, by decide +kernel, by decide +kernel⟩
def spSpoilt (K : PySem.W.Frag) : Sp := fun vs H Q _ => ∃ (p c : Addr) (v : V) (z : Addr) (l : Lock) (T : Int) (xs : List V), vs = [.ref p, v, .ref z] ∧ PenAt H p c T ∧ T ≤ 9000000 ∧ LockAt K H v l ∧ LockOk l ∧ H z = some (.lst xs) ∧ (∀ x ∈ xs, OddV K H x) ∧ xs.length ≤ 60 ∧
  ∀ H' z' ys, Exx p H H' → PenAt H' p c (T + 20) → H z' = none → H' z' = some (.lst ys) → (∀ x ∈ ys, OddV K H' x) → ys.length ≤ 2 * xs.length + 1 → Q (.ref z') H'
theorem cutV_len (xs : List V) (lo hi : Option Int) : (cutV xs lo hi).length ≤ xs.length := by
  unfold cutV
  rw [List.length_take, List.length_drop]
  omega
section
variable {P : Program} {w : World} {K : PySem.W.Frag} {mg : Str → Option Value} {base : Heap}
theorem ok_spoilt {f f1 f2 f3 : Addr} {fd fd1 fd2 fd3 : FuncData} (F : Fun K "_law_spoilt" "_law_spoilt" sSpoilt f fd) (F1 : Fun K "_law_draw" "_law_draw" sDraw f1 fd1) (b1 : Binds K fd1 ["_law_pen_here", "_law_many"] []) (g1 : mg "_law_draw" = some (.ref f1))
    (F2 : Fun K "_law_pick" "_law_pick" sPick f2 fd2) (b2 : Binds K fd2 ["_law_pen_here", "_law_some"] []) (g2 : mg "_law_pick" = some (.ref f2))
    (F3 : Fun K "_law_odd" "_law_odd" sOdd f3 fd3) (b3 : Binds K fd3 ["_law_pen_here"] []) (g3 : mg "_law_odd" = some (.ref f3)) (B : Bi mg) : FnOk P w K mg base CX0 4 f fd ["_law_pen_here", "_law_lock_here", "_law_things"] (spSpoilt K) := by
  have G1 : FnOk P w K mg base CX0 1 f1 fd1 ["_law_pen_here", "_law_many"] spDraw := ok_draw F1 B
  have G2 : FnOk P w K mg base CX0 2 f2 fd2 ["_law_pen_here", "_law_some"] (spPick K) := ok_pick F2 F1 b1 g1 B
  have G3 : FnOk P w K mg base CX0 3 f3 fd3 ["_law_pen_here"] (spOdd K) := ok_odd F3 F1 b1 g1 F2 b2 g2 B
  refine F.ok scSpoilt (fun vs H Q E h => ?_) (fun cdv A outer s H vs Q E hr h => ?_)
  · obtain ⟨p, c, v, z, l, T, xs, rfl, _⟩ := h; rfl
  · obtain ⟨p, c, v, z, l, T, xs, rfl, hp, T9, hL, ok, hz, hodd, x60, q⟩ := h
    have hr1 : Room 1 _ := hr.mono (by decide)
    have hr2 : Room 2 _ := hr.mono (by decide)
    refine ⟨_, pss_cons (ps_par (by rfl) scSpoilt.nd (i := 3) (j := 4) rfl rfl (by decide) rfl rfl (pa_cons (pe_call G1 hr1 (by rfl) g1 F1.kp b1 .nil pass0 (pa_cons (pv 0) (pa_cons (pe_op op_add (pe_callB call_len_seq (by rfl) B.len PySem.boot_len (pa_cons (pv 2) pa_nil)) pe_int) pa_nil))) (pa_cons (pe_call G1 hr1 (by rfl) g1 F1.kp b1 .nil pass0 (pa_cons (pv 0) (pa_cons (pe_callB call_len_seq (by rfl) B.len PySem.boot_len (pa_cons (pv 1) pa_nil)) pa_nil))) pa_nil)) (by rfl))
      (pss_cons (ps_set (i := 5) scSpoilt.nd rfl (.inl rfl) (pe_lst (pa_cons (pe_tup (pa_cons (pv 4) (pa_cons (pe_call G1 hr1 (by rfl) g1 F1.kp b1 .nil pass0 (pa_cons (pv 0) (pa_cons pe_int pa_nil))) pa_nil))) (pa_cons (pe_tup (pa_cons (pv 4) (pa_cons (pe_call G1 hr1 (by rfl) g1 F1.kp b1 .nil pass0 (pa_cons (pv 0) (pa_cons pe_int pa_nil))) pa_nil))) (pa_cons (pe_lst (pa_cons (pv 4) (pa_cons pe_int pa_nil))) (pa_cons (pe_tup (pa_cons (pv 4) pa_nil)) (pa_cons (pe_tup (pa_cons (pv 4) (pa_cons pe_int (pa_cons pe_int pa_nil)))) (pa_cons (pe_tup (pa_cons (pv 4) (pa_cons pe_non pa_nil))) (pa_cons (pe_tup (pa_cons pe_bl (pa_cons pe_int pa_nil))) (pa_cons (pe_tup (pa_cons pe_int (pa_cons pe_bl pa_nil))) pa_nil))))))))))
      (pss_cons (ps_set (i := 5) scSpoilt.nd rfl (.inl rfl) (pe_op op_cat (pv 5) (pe_lst (pa_cons (pe_tup (pa_cons (pv 4) (pa_cons pe_bl pa_nil))) (pa_cons (pe_tup (pa_cons (pe_un un_neg pe_int) (pa_cons pe_int pa_nil))) (pa_cons (pe_tup (pa_cons (pe_callB call_len_seq (by rfl) B.len PySem.boot_len (pa_cons (pv 1) pa_nil)) (pa_cons pe_int pa_nil))) (pa_cons (pe_tup (pa_cons (pv 4) (pa_cons (pe_ix (r := rIxT K) ix_tup (pe_ix (r := rIxT K) ix_tup (pv 1) (pv 4) (fun _ _ => rfl)) pe_int (fun _ _ => rfl)) pa_nil))) (pa_cons (pe_tup (pa_cons (pv 4) (pa_cons (pe_un un_neg pe_int) pa_nil))) (pa_cons (pe_call G3 hr (by rfl) g3 F3.kp b3 .nil pass0 (pa_cons (pv 0) pa_nil)) pa_nil)))))))))
      (pss_cons (ps_set (i := 6) scSpoilt.nd rfl (.inl rfl) (pe_lst (pa_cons (pe_call G2 hr2 (by rfl) g2 F2.kp b2 .nil pass0 (pa_cons (pv 0) (pa_cons (pv 5) pa_nil))) pa_nil)))
      (pss_one (ps_ret (pe_op op_cat (pe_op op_cat (pe_slice sl_list (pv 2) po_none (po_some (pv 3))) (pv 6)) (pe_slice sl_list (pv 2) (po_some (pe_op op_add (pv 3) (pe_call G1 hr1 (by rfl) g1 F1.kp b1 .nil pass0 (pa_cons (pv 0) (pa_cons pe_int pa_nil))))) po_none))))))), ?_⟩
    obtain ⟨la, bs, rfl, hla, hbs⟩ := hL
    have bl : bs.length = l.length := Paired.len hbs
    have n60 := ok.n1
    have n00 := ok.n0
    have cut1 := fun lo hi => cutV_len xs lo hi
    have npz : z ≠ p := fun e => by
      obtain ⟨cells, t, d, a, _⟩ := hp
      rw [e, a] at hz; cases hz
    have hp0 : PenAt H p c (T + 0) := hp.mono (by omega)
    refine ⟨.ref p, rfl, .ref z, rfl, z, xs, rfl, .inl (SqL.of hz), ((xs.length : Nat) : Int), 1, rfl, rfl, p, c, ((xs.length : Nat) : Int) + 1, T + 0, rfl, hp0, by omega, by omega, by omega, fun at_ H1 at_0 at_1 x1 hp1 => ?_⟩
    have hp1 : PenAt H1 p c (T + 1) := hp1.mono (by omega)
    have X1 : Exx p H H1 := (Exx.refl p H).trans x1
    have hz := x1 _ _ npz hz
    have hla := (hp0.tk (K := K) x1).t _ _ hla
    have hodd := fun y hy => (hodd y hy).keep (hp0.tk (K := K) x1)
    refine ⟨.ref p, rfl, .ref la, rfl, la, bs, rfl, .inr hla, p, c, ((bs.length : Nat) : Int), T + 1, rfl, hp1, by omega, by omega, by omega, fun kk H2 kk0 kk1 x2 hp2 => ?_⟩
    have hp2 : PenAt H2 p c (T + 2) := hp2.mono (by omega)
    have X2 : Exx p H H2 := X1.trans x2
    have hz := x2 _ _ npz hz
    have hla := (hp1.tk (K := K) x2).t _ _ hla
    have hodd := fun y hy => (hodd y hy).keep (hp1.tk (K := K) x2)
    obtain ⟨k, rfl⟩ : ∃ k : Nat, kk = (k : Int) := ⟨kk.toNat, by omega⟩
    have k0 : (0 : Int) ≤ (k : Int) := by omega
    have k1 : ((k : Nat) : Int) ≤ 1000000 := by omega
    have hb0 : Paired (BoltAt K H2) bs l := Paired.imp (fun _ _ => BoltAt.mono (hp.tx X2)) hbs
    obtain ⟨bv, hbv⟩ : ∃ bv, bs[k]? = some bv := ⟨bs[k]'(by omega), List.getElem?_eq_getElem (by omega)⟩
    obtain ⟨b, hbb, ba, bc, gs, rfl, hba, _⟩ := Paired.get1 hb0 hbv
    have BO := ok.bolts k b hbb
    have m0 := BO.m0
    have m1 := BO.m1
    refine ⟨.int at_, .int (k : Nat), rfl, ?_⟩
    refine ⟨.int (k : Nat), rfl, .ref p, rfl, p, c, 4, T + 2, rfl, hp2, by decide, by decide, by omega, fun i3 H3 u3 w3 x3 hp3 => ?_⟩
    have hp3 : PenAt H3 p c (T + 3) := hp3.mono (by omega)
    have X3 : Exx p H H3 := X2.trans x3
    have hz := x3 _ _ npz hz
    have hla := (hp2.tk (K := K) x3).t _ _ hla
    have hodd := fun y hy => (hodd y hy).keep (hp2.tk (K := K) x3)
    have hba := (hp2.tk (K := K) x3).t _ _ hba
    refine ⟨(by show 2 ≤ sizeLine; decide), fun a4 n4 => ?_⟩
    have e4 := Evl.Ex.new (o := .tup [.int (k : Nat), .int i3]) n4
    have g4 : (upd H3 a4 (.tup [.int (k : Nat), .int i3])) a4 = some (.tup [.int (k : Nat), .int i3]) := upd_same
    have hp4 := hp3.ex e4
    have np4 : a4 ≠ p := hp3.new1 n4
    generalize upd H3 a4 (.tup [.int (k : Nat), .int i3]) = H4 at e4 g4 hp4
    have X4 : Exx p H H4 := X3.trans (Exx.ex e4)
    have hz := e4 _ _ hz
    have hla := (TK.ex (K := K) e4).t _ _ hla
    have hodd := fun y hy => (hodd y hy).keep (TK.ex (K := K) e4)
    have hba := (TK.ex (K := K) e4).t _ _ hba
    have q4 : Dp K H4 (.ref a4) (.tuple [.int (k : Nat), .int i3]) := .tup (.inl (.inl g4)) (.cons (.int _) (.cons (.int _) .nil))
    have s4 : Sm (.tuple [.int (k : Nat), .int i3]) 3 200 := (fine_tup (n := 0) (FineAll.cons (fine_small k0 k1) (FineAll.cons (fine_small u3 (by omega)) FineAll.nil))).sm.mono (by decide) (by decide)
    refine ⟨.int (k : Nat), rfl, .ref p, rfl, p, c, 4, T + 3, rfl, hp4, by decide, by decide, by omega, fun i5 H5 u5 w5 x5 hp5 => ?_⟩
    have hp5 : PenAt H5 p c (T + 4) := hp5.mono (by omega)
    have X5 : Exx p H H5 := X4.trans x5
    have hz := x5 _ _ npz hz
    have hla := (hp4.tk (K := K) x5).t _ _ hla
    have hodd := fun y hy => (hodd y hy).keep (hp4.tk (K := K) x5)
    have hba := (hp4.tk (K := K) x5).t _ _ hba
    have q4 := Dp.keep (hp4.tk (K := K) x5) q4
    refine ⟨(by show 2 ≤ sizeLine; decide), fun a6 n6 => ?_⟩
    have e6 := Evl.Ex.new (o := .tup [.int (k : Nat), .int i5]) n6
    have g6 : (upd H5 a6 (.tup [.int (k : Nat), .int i5])) a6 = some (.tup [.int (k : Nat), .int i5]) := upd_same
    have hp6 := hp5.ex e6
    have np6 : a6 ≠ p := hp5.new1 n6
    generalize upd H5 a6 (.tup [.int (k : Nat), .int i5]) = H6 at e6 g6 hp6
    have X6 : Exx p H H6 := X5.trans (Exx.ex e6)
    have hz := e6 _ _ hz
    have hla := (TK.ex (K := K) e6).t _ _ hla
    have hodd := fun y hy => (hodd y hy).keep (TK.ex (K := K) e6)
    have hba := (TK.ex (K := K) e6).t _ _ hba
    have q4 := Dp.keep (TK.ex (K := K) e6) q4
    have q6 : Dp K H6 (.ref a6) (.tuple [.int (k : Nat), .int i5]) := .tup (.inl (.inl g6)) (.cons (.int _) (.cons (.int _) .nil))
    have s6 : Sm (.tuple [.int (k : Nat), .int i5]) 3 200 := (fine_tup (n := 0) (FineAll.cons (fine_small k0 k1) (FineAll.cons (fine_small u5 (by omega)) FineAll.nil))).sm.mono (by decide) (by decide)
    refine ⟨.int (k : Nat), rfl, (by show 2 ≤ sizeLine; decide), fun a7 n7 => ?_⟩
    have e7 := Evl.Ex.new (o := .lst [.int (k : Nat), .int 0]) n7
    have g7 : (upd H6 a7 (.lst [.int (k : Nat), .int 0])) a7 = some (.lst [.int (k : Nat), .int 0]) := upd_same
    have hp7 := hp6.ex e7
    have np7 : a7 ≠ p := hp6.new1 n7
    generalize upd H6 a7 (.lst [.int (k : Nat), .int 0]) = H7 at e7 g7 hp7
    have X7 : Exx p H H7 := X6.trans (Exx.ex e7)
    have hz := e7 _ _ hz
    have hla := (TK.ex (K := K) e7).t _ _ hla
    have hodd := fun y hy => (hodd y hy).keep (TK.ex (K := K) e7)
    have hba := (TK.ex (K := K) e7).t _ _ hba
    have q4 := Dp.keep (TK.ex (K := K) e7) q4
    have q6 := Dp.keep (TK.ex (K := K) e7) q6
    have q7 : Dp K H7 (.ref a7) (.list [.int (k : Nat), .int 0]) := .lst (.inl (.inl g7)) (.cons (.int _) (.cons (.int _) .nil))
    have s7 : Sm (.list [.int (k : Nat), .int 0]) 3 200 := (fine_lst (n := 0) (FineAll.cons (fine_small k0 k1) (FineAll.cons (fine_int (i := 0) (by decide)) FineAll.nil))).sm.mono (by decide) (by decide)
    refine ⟨.int (k : Nat), rfl, (by show 1 ≤ sizeLine; decide), fun a8 n8 => ?_⟩
    have e8 := Evl.Ex.new (o := .tup [.int (k : Nat)]) n8
    have g8 : (upd H7 a8 (.tup [.int (k : Nat)])) a8 = some (.tup [.int (k : Nat)]) := upd_same
    have hp8 := hp7.ex e8
    have np8 : a8 ≠ p := hp7.new1 n8
    generalize upd H7 a8 (.tup [.int (k : Nat)]) = H8 at e8 g8 hp8
    have X8 : Exx p H H8 := X7.trans (Exx.ex e8)
    have hz := e8 _ _ hz
    have hla := (TK.ex (K := K) e8).t _ _ hla
    have hodd := fun y hy => (hodd y hy).keep (TK.ex (K := K) e8)
    have hba := (TK.ex (K := K) e8).t _ _ hba
    have q4 := Dp.keep (TK.ex (K := K) e8) q4
    have q6 := Dp.keep (TK.ex (K := K) e8) q6
    have q7 := Dp.keep (TK.ex (K := K) e8) q7
    have q8 : Dp K H8 (.ref a8) (.tuple [.int (k : Nat)]) := .tup (.inl (.inl g8)) (.cons (.int _) .nil)
    have s8 : Sm (.tuple [.int (k : Nat)]) 3 200 := (fine_tup (n := 0) (FineAll.cons (fine_small k0 k1) FineAll.nil)).sm.mono (by decide) (by decide)
    refine ⟨.int (k : Nat), rfl, (by show 3 ≤ sizeLine; decide), fun a9 n9 => ?_⟩
    have e9 := Evl.Ex.new (o := .tup [.int (k : Nat), .int 0, .int 1]) n9
    have g9 : (upd H8 a9 (.tup [.int (k : Nat), .int 0, .int 1])) a9 = some (.tup [.int (k : Nat), .int 0, .int 1]) := upd_same
    have hp9 := hp8.ex e9
    have np9 : a9 ≠ p := hp8.new1 n9
    generalize upd H8 a9 (.tup [.int (k : Nat), .int 0, .int 1]) = H9 at e9 g9 hp9
    have X9 : Exx p H H9 := X8.trans (Exx.ex e9)
    have hz := e9 _ _ hz
    have hla := (TK.ex (K := K) e9).t _ _ hla
    have hodd := fun y hy => (hodd y hy).keep (TK.ex (K := K) e9)
    have hba := (TK.ex (K := K) e9).t _ _ hba
    have q4 := Dp.keep (TK.ex (K := K) e9) q4
    have q6 := Dp.keep (TK.ex (K := K) e9) q6
    have q7 := Dp.keep (TK.ex (K := K) e9) q7
    have q8 := Dp.keep (TK.ex (K := K) e9) q8
    have q9 : Dp K H9 (.ref a9) (.tuple [.int (k : Nat), .int 0, .int 1]) := .tup (.inl (.inl g9)) (.cons (.int _) (.cons (.int _) (.cons (.int _) .nil)))
    have s9 : Sm (.tuple [.int (k : Nat), .int 0, .int 1]) 3 200 := (fine_tup (n := 0) (FineAll.cons (fine_small k0 k1) (FineAll.cons (fine_int (i := 0) (by decide)) (FineAll.cons (fine_int (i := 1) (by decide)) FineAll.nil)))).sm.mono (by decide) (by decide)
    refine ⟨.int (k : Nat), rfl, (by show 2 ≤ sizeLine; decide), fun a10 n10 => ?_⟩
    have e10 := Evl.Ex.new (o := .tup [.int (k : Nat), .non]) n10
    have g10 : (upd H9 a10 (.tup [.int (k : Nat), .non])) a10 = some (.tup [.int (k : Nat), .non]) := upd_same
    have hp10 := hp9.ex e10
    have np10 : a10 ≠ p := hp9.new1 n10
    generalize upd H9 a10 (.tup [.int (k : Nat), .non]) = H10 at e10 g10 hp10
    have X10 : Exx p H H10 := X9.trans (Exx.ex e10)
    have hz := e10 _ _ hz
    have hla := (TK.ex (K := K) e10).t _ _ hla
    have hodd := fun y hy => (hodd y hy).keep (TK.ex (K := K) e10)
    have hba := (TK.ex (K := K) e10).t _ _ hba
    have q4 := Dp.keep (TK.ex (K := K) e10) q4
    have q6 := Dp.keep (TK.ex (K := K) e10) q6
    have q7 := Dp.keep (TK.ex (K := K) e10) q7
    have q8 := Dp.keep (TK.ex (K := K) e10) q8
    have q9 := Dp.keep (TK.ex (K := K) e10) q9
    have q10 : Dp K H10 (.ref a10) (.tuple [.int (k : Nat), .none]) := .tup (.inl (.inl g10)) (.cons (.int _) (.cons .non .nil))
    have s10 : Sm (.tuple [.int (k : Nat), .none]) 3 200 := (fine_tup (n := 0) (FineAll.cons (fine_small k0 k1) (FineAll.cons fine_non FineAll.nil))).sm.mono (by decide) (by decide)
    refine ⟨(by show 2 ≤ sizeLine; decide), fun a11 n11 => ?_⟩
    have e11 := Evl.Ex.new (o := .tup [.bl true, .int 0]) n11
    have g11 : (upd H10 a11 (.tup [.bl true, .int 0])) a11 = some (.tup [.bl true, .int 0]) := upd_same
    have hp11 := hp10.ex e11
    have np11 : a11 ≠ p := hp10.new1 n11
    generalize upd H10 a11 (.tup [.bl true, .int 0]) = H11 at e11 g11 hp11
    have X11 : Exx p H H11 := X10.trans (Exx.ex e11)
    have hz := e11 _ _ hz
    have hla := (TK.ex (K := K) e11).t _ _ hla
    have hodd := fun y hy => (hodd y hy).keep (TK.ex (K := K) e11)
    have hba := (TK.ex (K := K) e11).t _ _ hba
    have q4 := Dp.keep (TK.ex (K := K) e11) q4
    have q6 := Dp.keep (TK.ex (K := K) e11) q6
    have q7 := Dp.keep (TK.ex (K := K) e11) q7
    have q8 := Dp.keep (TK.ex (K := K) e11) q8
    have q9 := Dp.keep (TK.ex (K := K) e11) q9
    have q10 := Dp.keep (TK.ex (K := K) e11) q10
    have q11 : Dp K H11 (.ref a11) (.tuple [.bool true, .int 0]) := .tup (.inl (.inl g11)) (.cons (.bl _) (.cons (.int _) .nil))
    have s11 : Sm (.tuple [.bool true, .int 0]) 3 200 := (fine_tup (n := 0) (FineAll.cons (fine_bl true) (FineAll.cons (fine_int (i := 0) (by decide)) FineAll.nil))).sm.mono (by decide) (by decide)
    refine ⟨(by show 2 ≤ sizeLine; decide), fun a12 n12 => ?_⟩
    have e12 := Evl.Ex.new (o := .tup [.int 0, .bl true]) n12
    have g12 : (upd H11 a12 (.tup [.int 0, .bl true])) a12 = some (.tup [.int 0, .bl true]) := upd_same
    have hp12 := hp11.ex e12
    have np12 : a12 ≠ p := hp11.new1 n12
    generalize upd H11 a12 (.tup [.int 0, .bl true]) = H12 at e12 g12 hp12
    have X12 : Exx p H H12 := X11.trans (Exx.ex e12)
    have hz := e12 _ _ hz
    have hla := (TK.ex (K := K) e12).t _ _ hla
    have hodd := fun y hy => (hodd y hy).keep (TK.ex (K := K) e12)
    have hba := (TK.ex (K := K) e12).t _ _ hba
    have q4 := Dp.keep (TK.ex (K := K) e12) q4
    have q6 := Dp.keep (TK.ex (K := K) e12) q6
    have q7 := Dp.keep (TK.ex (K := K) e12) q7
    have q8 := Dp.keep (TK.ex (K := K) e12) q8
    have q9 := Dp.keep (TK.ex (K := K) e12) q9
    have q10 := Dp.keep (TK.ex (K := K) e12) q10
    have q11 := Dp.keep (TK.ex (K := K) e12) q11
    have q12 : Dp K H12 (.ref a12) (.tuple [.int 0, .bool true]) := .tup (.inl (.inl g12)) (.cons (.int _) (.cons (.bl _) .nil))
    have s12 : Sm (.tuple [.int 0, .bool true]) 3 200 := (fine_tup (n := 0) (FineAll.cons (fine_int (i := 0) (by decide)) (FineAll.cons (fine_bl true) FineAll.nil))).sm.mono (by decide) (by decide)
    refine ⟨(by show 8 ≤ sizeLine; decide), fun a13 n13 => ?_⟩
    have e13 := Evl.Ex.new (o := .lst [.ref a4, .ref a6, .ref a7, .ref a8, .ref a9, .ref a10, .ref a11, .ref a12]) n13
    have g13 : (upd H12 a13 (.lst [.ref a4, .ref a6, .ref a7, .ref a8, .ref a9, .ref a10, .ref a11, .ref a12])) a13 = some (.lst [.ref a4, .ref a6, .ref a7, .ref a8, .ref a9, .ref a10, .ref a11, .ref a12]) := upd_same
    have hp13 := hp12.ex e13
    have np13 : a13 ≠ p := hp12.new1 n13
    generalize upd H12 a13 (.lst [.ref a4, .ref a6, .ref a7, .ref a8, .ref a9, .ref a10, .ref a11, .ref a12]) = H13 at e13 g13 hp13
    have X13 : Exx p H H13 := X12.trans (Exx.ex e13)
    have hz := e13 _ _ hz
    have hla := (TK.ex (K := K) e13).t _ _ hla
    have hodd := fun y hy => (hodd y hy).keep (TK.ex (K := K) e13)
    have hba := (TK.ex (K := K) e13).t _ _ hba
    have q4 := Dp.keep (TK.ex (K := K) e13) q4
    have q6 := Dp.keep (TK.ex (K := K) e13) q6
    have q7 := Dp.keep (TK.ex (K := K) e13) q7
    have q8 := Dp.keep (TK.ex (K := K) e13) q8
    have q9 := Dp.keep (TK.ex (K := K) e13) q9
    have q10 := Dp.keep (TK.ex (K := K) e13) q10
    have q11 := Dp.keep (TK.ex (K := K) e13) q11
    have q12 := Dp.keep (TK.ex (K := K) e13) q12
    refine ⟨.ref a13, rfl, .int (k : Nat), rfl, (by show 2 ≤ sizeLine; decide), fun a14 n14 => ?_⟩
    have e14 := Evl.Ex.new (o := .tup [.int (k : Nat), .bl false]) n14
    have g14 : (upd H13 a14 (.tup [.int (k : Nat), .bl false])) a14 = some (.tup [.int (k : Nat), .bl false]) := upd_same
    have hp14 := hp13.ex e14
    have np14 : a14 ≠ p := hp13.new1 n14
    generalize upd H13 a14 (.tup [.int (k : Nat), .bl false]) = H14 at e14 g14 hp14
    have X14 : Exx p H H14 := X13.trans (Exx.ex e14)
    have hz := e14 _ _ hz
    have hla := (TK.ex (K := K) e14).t _ _ hla
    have hodd := fun y hy => (hodd y hy).keep (TK.ex (K := K) e14)
    have hba := (TK.ex (K := K) e14).t _ _ hba
    have q4 := Dp.keep (TK.ex (K := K) e14) q4
    have q6 := Dp.keep (TK.ex (K := K) e14) q6
    have q7 := Dp.keep (TK.ex (K := K) e14) q7
    have q8 := Dp.keep (TK.ex (K := K) e14) q8
    have q9 := Dp.keep (TK.ex (K := K) e14) q9
    have q10 := Dp.keep (TK.ex (K := K) e14) q10
    have q11 := Dp.keep (TK.ex (K := K) e14) q11
    have q12 := Dp.keep (TK.ex (K := K) e14) q12
    have g13 := e14 _ _ g13
    have q14 : Dp K H14 (.ref a14) (.tuple [.int (k : Nat), .bool false]) := .tup (.inl (.inl g14)) (.cons (.int _) (.cons (.bl _) .nil))
    have s14 : Sm (.tuple [.int (k : Nat), .bool false]) 3 200 := (fine_tup (n := 0) (FineAll.cons (fine_small k0 k1) (FineAll.cons (fine_bl false) FineAll.nil))).sm.mono (by decide) (by decide)
    refine ⟨1, rfl, (by show 2 ≤ sizeLine; decide), fun a15 n15 => ?_⟩
    have e15 := Evl.Ex.new (o := .tup [.int (-1), .int 0]) n15
    have g15 : (upd H14 a15 (.tup [.int (-1), .int 0])) a15 = some (.tup [.int (-1), .int 0]) := upd_same
    have hp15 := hp14.ex e15
    have np15 : a15 ≠ p := hp14.new1 n15
    generalize upd H14 a15 (.tup [.int (-1), .int 0]) = H15 at e15 g15 hp15
    have X15 : Exx p H H15 := X14.trans (Exx.ex e15)
    have hz := e15 _ _ hz
    have hla := (TK.ex (K := K) e15).t _ _ hla
    have hodd := fun y hy => (hodd y hy).keep (TK.ex (K := K) e15)
    have hba := (TK.ex (K := K) e15).t _ _ hba
    have q4 := Dp.keep (TK.ex (K := K) e15) q4
    have q6 := Dp.keep (TK.ex (K := K) e15) q6
    have q7 := Dp.keep (TK.ex (K := K) e15) q7
    have q8 := Dp.keep (TK.ex (K := K) e15) q8
    have q9 := Dp.keep (TK.ex (K := K) e15) q9
    have q10 := Dp.keep (TK.ex (K := K) e15) q10
    have q11 := Dp.keep (TK.ex (K := K) e15) q11
    have q12 := Dp.keep (TK.ex (K := K) e15) q12
    have g13 := e15 _ _ g13
    have q14 := Dp.keep (TK.ex (K := K) e15) q14
    have q15 : Dp K H15 (.ref a15) (.tuple [.int (-1), .int 0]) := .tup (.inl (.inl g15)) (.cons (.int _) (.cons (.int _) .nil))
    have s15 : Sm (.tuple [.int (-1), .int 0]) 3 200 := (fine_tup (n := 0) (FineAll.cons (fine_int (i := -1) (by decide)) (FineAll.cons (fine_int (i := 0) (by decide)) FineAll.nil))).sm.mono (by decide) (by decide)
    refine ⟨.ref la, rfl, la, bs, rfl, .inr hla, (by show 2 ≤ sizeLine; decide), fun a16 n16 => ?_⟩
    have e16 := Evl.Ex.new (o := .tup [.int ((bs.length : Nat) : Int), .int 0]) n16
    have g16 : (upd H15 a16 (.tup [.int ((bs.length : Nat) : Int), .int 0])) a16 = some (.tup [.int ((bs.length : Nat) : Int), .int 0]) := upd_same
    have hp16 := hp15.ex e16
    have np16 : a16 ≠ p := hp15.new1 n16
    generalize upd H15 a16 (.tup [.int ((bs.length : Nat) : Int), .int 0]) = H16 at e16 g16 hp16
    have X16 : Exx p H H16 := X15.trans (Exx.ex e16)
    have hz := e16 _ _ hz
    have hla := (TK.ex (K := K) e16).t _ _ hla
    have hodd := fun y hy => (hodd y hy).keep (TK.ex (K := K) e16)
    have hba := (TK.ex (K := K) e16).t _ _ hba
    have q4 := Dp.keep (TK.ex (K := K) e16) q4
    have q6 := Dp.keep (TK.ex (K := K) e16) q6
    have q7 := Dp.keep (TK.ex (K := K) e16) q7
    have q8 := Dp.keep (TK.ex (K := K) e16) q8
    have q9 := Dp.keep (TK.ex (K := K) e16) q9
    have q10 := Dp.keep (TK.ex (K := K) e16) q10
    have q11 := Dp.keep (TK.ex (K := K) e16) q11
    have q12 := Dp.keep (TK.ex (K := K) e16) q12
    have g13 := e16 _ _ g13
    have q14 := Dp.keep (TK.ex (K := K) e16) q14
    have q15 := Dp.keep (TK.ex (K := K) e16) q15
    have q16 : Dp K H16 (.ref a16) (.tuple [.int ((bs.length : Nat) : Int), .int 0]) := .tup (.inl (.inl g16)) (.cons (.int _) (.cons (.int _) .nil))
    have s16 : Sm (.tuple [.int ((bs.length : Nat) : Int), .int 0]) 3 200 := (fine_tup (n := 0) (FineAll.cons (fine_small (by omega) (by omega)) (FineAll.cons (fine_int (i := 0) (by decide)) FineAll.nil))).sm.mono (by decide) (by decide)
    refine ⟨.int (k : Nat), rfl, .ref la, rfl, .int (k : Nat), rfl, la, bs, (k : Nat), .ref ba, rfl, rfl, hla, atI_nat hbv, ba, _, 0, .int b.many, rfl, rfl, hba, atI_nat (j := 0) rfl, (by show 2 ≤ sizeLine; decide), fun a17 n17 => ?_⟩
    have e17 := Evl.Ex.new (o := .tup [.int (k : Nat), .int b.many]) n17
    have g17 : (upd H16 a17 (.tup [.int (k : Nat), .int b.many])) a17 = some (.tup [.int (k : Nat), .int b.many]) := upd_same
    have hp17 := hp16.ex e17
    have np17 : a17 ≠ p := hp16.new1 n17
    generalize upd H16 a17 (.tup [.int (k : Nat), .int b.many]) = H17 at e17 g17 hp17
    have X17 : Exx p H H17 := X16.trans (Exx.ex e17)
    have hz := e17 _ _ hz
    have hla := (TK.ex (K := K) e17).t _ _ hla
    have hodd := fun y hy => (hodd y hy).keep (TK.ex (K := K) e17)
    have hba := (TK.ex (K := K) e17).t _ _ hba
    have q4 := Dp.keep (TK.ex (K := K) e17) q4
    have q6 := Dp.keep (TK.ex (K := K) e17) q6
    have q7 := Dp.keep (TK.ex (K := K) e17) q7
    have q8 := Dp.keep (TK.ex (K := K) e17) q8
    have q9 := Dp.keep (TK.ex (K := K) e17) q9
    have q10 := Dp.keep (TK.ex (K := K) e17) q10
    have q11 := Dp.keep (TK.ex (K := K) e17) q11
    have q12 := Dp.keep (TK.ex (K := K) e17) q12
    have g13 := e17 _ _ g13
    have q14 := Dp.keep (TK.ex (K := K) e17) q14
    have q15 := Dp.keep (TK.ex (K := K) e17) q15
    have q16 := Dp.keep (TK.ex (K := K) e17) q16
    have q17 : Dp K H17 (.ref a17) (.tuple [.int (k : Nat), .int b.many]) := .tup (.inl (.inl g17)) (.cons (.int _) (.cons (.int _) .nil))
    have s17 : Sm (.tuple [.int (k : Nat), .int b.many]) 3 200 := (fine_tup (n := 0) (FineAll.cons (fine_small k0 k1) (FineAll.cons (fine_small (by omega) (by omega)) FineAll.nil))).sm.mono (by decide) (by decide)
    refine ⟨.int (k : Nat), rfl, 1, rfl, (by show 2 ≤ sizeLine; decide), fun a18 n18 => ?_⟩
    have e18 := Evl.Ex.new (o := .tup [.int (k : Nat), .int (-1)]) n18
    have g18 : (upd H17 a18 (.tup [.int (k : Nat), .int (-1)])) a18 = some (.tup [.int (k : Nat), .int (-1)]) := upd_same
    have hp18 := hp17.ex e18
    have np18 : a18 ≠ p := hp17.new1 n18
    generalize upd H17 a18 (.tup [.int (k : Nat), .int (-1)]) = H18 at e18 g18 hp18
    have X18 : Exx p H H18 := X17.trans (Exx.ex e18)
    have hz := e18 _ _ hz
    have hla := (TK.ex (K := K) e18).t _ _ hla
    have hodd := fun y hy => (hodd y hy).keep (TK.ex (K := K) e18)
    have hba := (TK.ex (K := K) e18).t _ _ hba
    have q4 := Dp.keep (TK.ex (K := K) e18) q4
    have q6 := Dp.keep (TK.ex (K := K) e18) q6
    have q7 := Dp.keep (TK.ex (K := K) e18) q7
    have q8 := Dp.keep (TK.ex (K := K) e18) q8
    have q9 := Dp.keep (TK.ex (K := K) e18) q9
    have q10 := Dp.keep (TK.ex (K := K) e18) q10
    have q11 := Dp.keep (TK.ex (K := K) e18) q11
    have q12 := Dp.keep (TK.ex (K := K) e18) q12
    have g13 := e18 _ _ g13
    have q14 := Dp.keep (TK.ex (K := K) e18) q14
    have q15 := Dp.keep (TK.ex (K := K) e18) q15
    have q16 := Dp.keep (TK.ex (K := K) e18) q16
    have q17 := Dp.keep (TK.ex (K := K) e18) q17
    have q18 : Dp K H18 (.ref a18) (.tuple [.int (k : Nat), .int (-1)]) := .tup (.inl (.inl g18)) (.cons (.int _) (.cons (.int _) .nil))
    have s18 : Sm (.tuple [.int (k : Nat), .int (-1)]) 3 200 := (fine_tup (n := 0) (FineAll.cons (fine_small k0 k1) (FineAll.cons (fine_int (i := -1) (by decide)) FineAll.nil))).sm.mono (by decide) (by decide)
    refine ⟨.ref p, rfl, p, c, T + 4, rfl, hp18, by omega, fun H19 vo do_ x19 hp19 hod hsm => ?_⟩
    have hp19 : PenAt H19 p c (T + 5) := hp19.mono (by omega)
    have X19 : Exx p H H19 := X18.trans x19
    have hz := x19 _ _ npz hz
    have hla := (hp18.tk (K := K) x19).t _ _ hla
    have hodd := fun y hy => (hodd y hy).keep (hp18.tk (K := K) x19)
    have hba := (hp18.tk (K := K) x19).t _ _ hba
    have q4 := Dp.keep (hp18.tk (K := K) x19) q4
    have q6 := Dp.keep (hp18.tk (K := K) x19) q6
    have q7 := Dp.keep (hp18.tk (K := K) x19) q7
    have q8 := Dp.keep (hp18.tk (K := K) x19) q8
    have q9 := Dp.keep (hp18.tk (K := K) x19) q9
    have q10 := Dp.keep (hp18.tk (K := K) x19) q10
    have q11 := Dp.keep (hp18.tk (K := K) x19) q11
    have q12 := Dp.keep (hp18.tk (K := K) x19) q12
    have g13 := x19 _ _ np13 g13
    have q14 := Dp.keep (hp18.tk (K := K) x19) q14
    have q15 := Dp.keep (hp18.tk (K := K) x19) q15
    have q16 := Dp.keep (hp18.tk (K := K) x19) q16
    have q17 := Dp.keep (hp18.tk (K := K) x19) q17
    have q18 := Dp.keep (hp18.tk (K := K) x19) q18
    refine ⟨(by show 6 ≤ sizeLine; decide), fun a20 n20 => ?_⟩
    have e20 := Evl.Ex.new (o := .lst [.ref a14, .ref a15, .ref a16, .ref a17, .ref a18, vo]) n20
    have g20 : (upd H19 a20 (.lst [.ref a14, .ref a15, .ref a16, .ref a17, .ref a18, vo])) a20 = some (.lst [.ref a14, .ref a15, .ref a16, .ref a17, .ref a18, vo]) := upd_same
    have hp20 := hp19.ex e20
    have np20 : a20 ≠ p := hp19.new1 n20
    generalize upd H19 a20 (.lst [.ref a14, .ref a15, .ref a16, .ref a17, .ref a18, vo]) = H20 at e20 g20 hp20
    have X20 : Exx p H H20 := X19.trans (Exx.ex e20)
    have hz := e20 _ _ hz
    have hla := (TK.ex (K := K) e20).t _ _ hla
    have hodd := fun y hy => (hodd y hy).keep (TK.ex (K := K) e20)
    have hba := (TK.ex (K := K) e20).t _ _ hba
    have q4 := Dp.keep (TK.ex (K := K) e20) q4
    have q6 := Dp.keep (TK.ex (K := K) e20) q6
    have q7 := Dp.keep (TK.ex (K := K) e20) q7
    have q8 := Dp.keep (TK.ex (K := K) e20) q8
    have q9 := Dp.keep (TK.ex (K := K) e20) q9
    have q10 := Dp.keep (TK.ex (K := K) e20) q10
    have q11 := Dp.keep (TK.ex (K := K) e20) q11
    have q12 := Dp.keep (TK.ex (K := K) e20) q12
    have g13 := e20 _ _ g13
    have q14 := Dp.keep (TK.ex (K := K) e20) q14
    have q15 := Dp.keep (TK.ex (K := K) e20) q15
    have q16 := Dp.keep (TK.ex (K := K) e20) q16
    have q17 := Dp.keep (TK.ex (K := K) e20) q17
    have q18 := Dp.keep (TK.ex (K := K) e20) q18
    have hod := hod.keep (TK.ex (K := K) e20)
    refine ⟨a13, a20, _, _, rfl, rfl, g13, g20, (by show 14 ≤ sizeLine; decide), fun a21 n21 => ?_⟩
    have e21 := Evl.Ex.new (o := .lst ([.ref a4, .ref a6, .ref a7, .ref a8, .ref a9, .ref a10, .ref a11, .ref a12] ++ [.ref a14, .ref a15, .ref a16, .ref a17, .ref a18, vo])) n21
    have g21 : (upd H20 a21 (.lst ([.ref a4, .ref a6, .ref a7, .ref a8, .ref a9, .ref a10, .ref a11, .ref a12] ++ [.ref a14, .ref a15, .ref a16, .ref a17, .ref a18, vo]))) a21 = some (.lst ([.ref a4, .ref a6, .ref a7, .ref a8, .ref a9, .ref a10, .ref a11, .ref a12] ++ [.ref a14, .ref a15, .ref a16, .ref a17, .ref a18, vo])) := upd_same
    have hp21 := hp20.ex e21
    have np21 : a21 ≠ p := hp20.new1 n21
    generalize upd H20 a21 (.lst ([.ref a4, .ref a6, .ref a7, .ref a8, .ref a9, .ref a10, .ref a11, .ref a12] ++ [.ref a14, .ref a15, .ref a16, .ref a17, .ref a18, vo])) = H21 at e21 g21 hp21
    have X21 : Exx p H H21 := X20.trans (Exx.ex e21)
    have hz := e21 _ _ hz
    have hla := (TK.ex (K := K) e21).t _ _ hla
    have hodd := fun y hy => (hodd y hy).keep (TK.ex (K := K) e21)
    have hba := (TK.ex (K := K) e21).t _ _ hba
    have q4 := Dp.keep (TK.ex (K := K) e21) q4
    have q6 := Dp.keep (TK.ex (K := K) e21) q6
    have q7 := Dp.keep (TK.ex (K := K) e21) q7
    have q8 := Dp.keep (TK.ex (K := K) e21) q8
    have q9 := Dp.keep (TK.ex (K := K) e21) q9
    have q10 := Dp.keep (TK.ex (K := K) e21) q10
    have q11 := Dp.keep (TK.ex (K := K) e21) q11
    have q12 := Dp.keep (TK.ex (K := K) e21) q12
    have g13 := e21 _ _ g13
    have q14 := Dp.keep (TK.ex (K := K) e21) q14
    have q15 := Dp.keep (TK.ex (K := K) e21) q15
    have q16 := Dp.keep (TK.ex (K := K) e21) q16
    have q17 := Dp.keep (TK.ex (K := K) e21) q17
    have q18 := Dp.keep (TK.ex (K := K) e21) q18
    have hod := hod.keep (TK.ex (K := K) e21)
    have g20 := e21 _ _ g20
    have each : ∀ y ∈ ([.ref a4, .ref a6, .ref a7, .ref a8, .ref a9, .ref a10, .ref a11, .ref a12] ++ [.ref a14, .ref a15, .ref a16, .ref a17, .ref a18, vo] : List V), OddV K H21 y := by
      intro x hx
      simp only [List.cons_append, List.nil_append, List.mem_cons, List.not_mem_nil, or_false] at hx
      rcases hx with rfl | rfl | rfl | rfl | rfl | rfl | rfl | rfl | rfl | rfl | rfl | rfl | rfl | rfl
      · exact ⟨_, .inl q4, s4⟩
      · exact ⟨_, .inl q6, s6⟩
      · exact ⟨_, .inl q7, s7⟩
      · exact ⟨_, .inl q8, s8⟩
      · exact ⟨_, .inl q9, s9⟩
      · exact ⟨_, .inl q10, s10⟩
      · exact ⟨_, .inl q11, s11⟩
      · exact ⟨_, .inl q12, s12⟩
      · exact ⟨_, .inl q14, s14⟩
      · exact ⟨_, .inl q15, s15⟩
      · exact ⟨_, .inl q16, s16⟩
      · exact ⟨_, .inl q17, s17⟩
      · exact ⟨_, .inl q18, s18⟩
      · exact ⟨_, hod, hsm⟩
    refine ⟨.ref p, rfl, .ref a21, rfl, p, c, a21, T + 5, _, rfl, hp21, by omega, .inl (.inl g21), np21, (fun z => nomatch z), (by show 14 ≤ 1000000; decide), fun y H22 hy x22 hp22 => ?_⟩
    have hp22 : PenAt H22 p c (T + 6) := hp22.mono (by omega)
    have X22 : Exx p H H22 := X21.trans x22
    have odY := each y hy
    have hz := x22 _ _ npz hz
    have hodd := fun y hy => (hodd y hy).keep (hp21.tk (K := K) x22)
    have odY := odY.keep (hp21.tk (K := K) x22)
    refine ⟨(by show 1 ≤ sizeLine; decide), fun a23 n23 => ?_⟩
    have e23 := Evl.Ex.new (o := .lst [y]) n23
    have g23 : (upd H22 a23 (.lst [y])) a23 = some (.lst [y]) := upd_same
    have hp23 := hp22.ex e23
    have np23 : a23 ≠ p := hp22.new1 n23
    generalize upd H22 a23 (.lst [y]) = H23 at e23 g23 hp23
    have X23 : Exx p H H23 := X22.trans (Exx.ex e23)
    have hz := e23 _ _ hz
    have hodd := fun y hy => (hodd y hy).keep (TK.ex (K := K) e23)
    have odY := odY.keep (TK.ex (K := K) e23)
    refine ⟨.ref z, rfl, .int at_, rfl, at_, rfl, z, xs, rfl, SqL.of hz, fun a24 n24 => ?_⟩
    have e24 := Evl.Ex.new (o := .lst (cutV xs none (some at_))) n24
    have g24 : (upd H23 a24 (.lst (cutV xs none (some at_)))) a24 = some (.lst (cutV xs none (some at_))) := upd_same
    have hp24 := hp23.ex e24
    have np24 : a24 ≠ p := hp23.new1 n24
    generalize upd H23 a24 (.lst (cutV xs none (some at_))) = H24 at e24 g24 hp24
    have X24 : Exx p H H24 := X23.trans (Exx.ex e24)
    have hz := e24 _ _ hz
    have hodd := fun y hy => (hodd y hy).keep (TK.ex (K := K) e24)
    have odY := odY.keep (TK.ex (K := K) e24)
    have g23 := e24 _ _ g23
    refine ⟨.ref a23, rfl, a24, a23, _, _, rfl, rfl, g24, g23, (Nat.le_trans (by simp only [List.length_singleton]; have := cutV_len xs none (some at_); omega : (cutV xs none (some at_)).length + [y].length ≤ 200) (by decide)), fun a25 n25 => ?_⟩
    have e25 := Evl.Ex.new (o := .lst (cutV xs none (some at_) ++ [y])) n25
    have g25 : (upd H24 a25 (.lst (cutV xs none (some at_) ++ [y]))) a25 = some (.lst (cutV xs none (some at_) ++ [y])) := upd_same
    have hp25 := hp24.ex e25
    have np25 : a25 ≠ p := hp24.new1 n25
    generalize upd H24 a25 (.lst (cutV xs none (some at_) ++ [y])) = H25 at e25 g25 hp25
    have X25 : Exx p H H25 := X24.trans (Exx.ex e25)
    have hz := e25 _ _ hz
    have hodd := fun y hy => (hodd y hy).keep (TK.ex (K := K) e25)
    have odY := odY.keep (TK.ex (K := K) e25)
    have g23 := e25 _ _ g23
    have g24 := e25 _ _ g24
    refine ⟨.ref z, rfl, .int at_, rfl, .ref p, rfl, p, c, 2, T + 6, rfl, hp25, by decide, by decide, by omega, fun i26 H26 u26 w26 x26 hp26 => ?_⟩
    have hp26 : PenAt H26 p c (T + 7) := hp26.mono (by omega)
    have X26 : Exx p H H26 := X25.trans x26
    have hz := x26 _ _ npz hz
    have hodd := fun y hy => (hodd y hy).keep (hp25.tk (K := K) x26)
    have odY := odY.keep (hp25.tk (K := K) x26)
    have g23 := x26 _ _ np23 g23
    have g24 := x26 _ _ np24 g24
    have g25 := x26 _ _ np25 g25
    refine ⟨at_, i26, rfl, rfl, at_ + i26, rfl, z, xs, rfl, SqL.of hz, fun a27 n27 => ?_⟩
    have e27 := Evl.Ex.new (o := .lst (cutV xs (some (at_ + i26)) none)) n27
    have g27 : (upd H26 a27 (.lst (cutV xs (some (at_ + i26)) none))) a27 = some (.lst (cutV xs (some (at_ + i26)) none)) := upd_same
    have hp27 := hp26.ex e27
    have np27 : a27 ≠ p := hp26.new1 n27
    generalize upd H26 a27 (.lst (cutV xs (some (at_ + i26)) none)) = H27 at e27 g27 hp27
    have X27 : Exx p H H27 := X26.trans (Exx.ex e27)
    have hz := e27 _ _ hz
    have hodd := fun y hy => (hodd y hy).keep (TK.ex (K := K) e27)
    have odY := odY.keep (TK.ex (K := K) e27)
    have g23 := e27 _ _ g23
    have g24 := e27 _ _ g24
    have g25 := e27 _ _ g25
    refine ⟨a25, a27, _, _, rfl, rfl, g25, g27, (Nat.le_trans (by rw [List.length_append, List.length_singleton]; have := cutV_len xs none (some at_); have := cutV_len xs (some (at_ + i26)) none; omega : (cutV xs none (some at_) ++ [y]).length + (cutV xs (some (at_ + i26)) none).length ≤ 200) (by decide)), fun a28 n28 => ?_⟩
    have e28 := Evl.Ex.new (o := .lst (cutV xs none (some at_) ++ [y] ++ cutV xs (some (at_ + i26)) none)) n28
    have g28 : (upd H27 a28 (.lst (cutV xs none (some at_) ++ [y] ++ cutV xs (some (at_ + i26)) none))) a28 = some (.lst (cutV xs none (some at_) ++ [y] ++ cutV xs (some (at_ + i26)) none)) := upd_same
    have hp28 := hp27.ex e28
    have np28 : a28 ≠ p := hp27.new1 n28
    generalize upd H27 a28 (.lst (cutV xs none (some at_) ++ [y] ++ cutV xs (some (at_ + i26)) none)) = H28 at e28 g28 hp28
    have X28 : Exx p H H28 := X27.trans (Exx.ex e28)
    have hz := e28 _ _ hz
    have hodd := fun y hy => (hodd y hy).keep (TK.ex (K := K) e28)
    have odY := odY.keep (TK.ex (K := K) e28)
    have g23 := e28 _ _ g23
    have g24 := e28 _ _ g24
    have g25 := e28 _ _ g25
    have g27 := e28 _ _ g27
    refine q H28 a28 _ X28 (hp28.mono (by omega)) (fresh_exx (p := p) X27 (hp27.here) n28) g28 (fun w hw => ?_) (by rw [List.length_append, List.length_append, List.length_singleton]; have := cutV_len xs none (some at_); have := cutV_len xs (some (at_ + i26)) none; omega)
    rcases List.mem_append.mp hw with hw | hw
    · rcases List.mem_append.mp hw with hw | hw
      · exact hodd w (mem_cutV hw)
      · rw [List.mem_singleton.mp hw]; exact odY
    · exact hodd w (mem_cutV hw)
end
end Wb

set_option Elab.async false
set_option linter.all false
set_option maxRecDepth 100000
set_option maxHeartbeats 4000000
set_option pp.maxSteps 600
set_option pp.deepTerms false
namespace Wb
open PySem PySem.Spec PyProof.Rows L2
/-! ### bounds of what is walked -/
theorem price_bounds {l : Lock} (ok : LockOk l) {st : Word} {d : PyData} {c : Int} (h : priceV l st d = .int c) : 0 ≤ c ∧ c ≤ 1000000 := by
  unfold priceV at h
  split at h
  · rename_i k to
    split at h
    · unfold stepV at h
      split at h
      · rename_i t ht
        have hm := List.mem_of_find?_eq_some ht
        obtain ⟨_, b, g, hb, hg, h2, h3⟩ := of_mem hm
        have G := (ok.bolts _ b hb).gaps g hg
        have p0 := G.p0
        have p1 := G.p1
        have e := V.int.inj h
        omega
      · cases h
    · cases h
  · cases h
theorem walkL_inr {l : Lock} (ok : LockOk l) : ∀ (ds : List PyData) (st : Word) (paid : Int) (n : Nat) (st' : Word) (paid' : Int), InAll st (manysOf l) → walkL l st paid n ds = .inr (st', paid') → InAll st' (manysOf l) ∧ paid ≤ paid' ∧ paid' ≤ paid + 1000000 * (ds.length : Int)
  | [], st, paid, n, st', paid', hin, h => by
    rw [walkL] at h
    cases h
    exact ⟨hin, Int.le_refl _, by simp⟩
  | d :: ds, st, paid, n, st', paid', hin, h => by
    rcases priceV_cases l st d with hp | ⟨c, hp⟩
    · rw [walkL, hp] at h
      cases h
    · rw [walkL, hp] at h
      obtain ⟨k, to, rfl, kl⟩ := priceV_int hp
      obtain ⟨_, m, hm, t0, t1, _⟩ := step_to ok hp
      have hin2 : InAll (stepTo st (.tuple [.int (k : Nat), .int to])) (manysOf l) := inAll_set hin (by simpa using hm) t0 t1
      obtain ⟨r1, r2, r3⟩ := walkL_inr ok ds _ _ _ _ _ hin2 h
      have cb := price_bounds ok hp
      refine ⟨r1, by omega, ?_⟩
      rw [List.length_cons, Int.natCast_add]
      show paid' ≤ paid + 1000000 * ((ds.length : Int) + 1)
      omega
theorem walkL_inl {l : Lock} : ∀ (ds : List PyData) (st : Word) (paid : Int) (n m : Nat), walkL l st paid n ds = .inl m → m ≤ n + ds.length
  | [], st, paid, n, m, h => by
    rw [walkL] at h
    cases h
  | d :: ds, st, paid, n, m, h => by
    rcases priceV_cases l st d with hp | ⟨c, hp⟩
    · rw [walkL, hp] at h
      cases h
      omega
    · rw [walkL, hp] at h
      have := walkL_inl ds _ _ _ _ h
      rw [List.length_cons]
      omega
theorem fine_int12 {i : Int} (h : i.natAbs < 10 ^ 12) : Fine (.int i) 0 13 := by
  refine ⟨by simp only [PyData.canLay0], ?_, by simp only [PyData.depth]; omega, ?_⟩
  · simp only [PyData.showable]
    refine decide_eq_true ?_
    by_cases z : i.natAbs = 0
    · rw [z]; decide
    · refine (Nat.log2_lt z).mpr (Nat.lt_of_lt_of_le h ?_)
      exact Nat.le_trans (show 10 ^ 12 ≤ 2 ^ 40 by decide) (Nat.pow_le_pow_right (by decide) (by decide))
  · simp only [PyData.shown]
    rw [PySem.ofString_length]
    exact int_text_length_le10 (k := 12) (by decide) h
theorem fine_st {l : Lock} (ok : LockOk l) {st : Word} (h : InAll st (manysOf l)) : Fine (dW st) 1 603 := by
  have sl := h.1
  unfold manysOf at sl
  rw [List.length_map] at sl
  have n60 := ok.n1
  refine fine_W (B := 4) (n := 60) (fun x hx => ?_) (by decide) (by omega)
  obtain ⟨i, hi⟩ := List.mem_iff_getElem?.mp hx
  have il : i < st.length := (List.getElem?_eq_some_iff.mp hi).1
  have hm : (manysOf l)[i]? = some (l[i]'(by omega)).many := by
    unfold manysOf
    rw [List.getElem?_map, List.getElem?_eq_getElem (by omega)]
    rfl
  have := h.2 i x _ hi hm
  have := manys_le ok (List.getElem?_eq_getElem (show i < l.length by omega))
  omega
theorem sm3 {d e f : PyData} {n a b c : Nat} (h1 : Sm d n a) (h2 : Sm e n b) (h3 : Sm f n c) : (PyData.tuple [d, e, f]).showable = true ∧ (PyData.tuple [d, e, f]).depth ≤ n + 1 ∧ (PyData.tuple [d, e, f]).shown.length ≤ a + b + c + 9 := by
  obtain ⟨b2, b3, b4⟩ := SmAll.cons h1 (SmAll.cons h2 (SmAll.cons h3 SmAll.nil))
  refine ⟨by simpa only [PyData.showable] using b2, by simp only [PyData.depth]; omega, ?_⟩
  simp only [PyData.shown]
  unfold tupleText
  rw [strLen_append, strLen_append]
  have e1 : ((("(" : String) : Str)).length = 1 := rfl
  have e3 : (((if (PyData.shownAll [d, e, f]).length == 1 then ",)" else ")" : String) : Str)).length ≤ 2 := by split <;> decide
  have := join_le (PyData.shownAll [d, e, f])
  omega
/-- a thing that the law hands in for steps -/
def ThingOk (K : PySem.W.Frag) (H : Hp) (x : V) : Prop := ∃ d, Sm d 5 30000 ∧ ((Th K H x d ∧ isLst d = false) ∨ ∃ a xs es, x = .ref a ∧ H a = some (.lst xs) ∧ d = .list es ∧ Paired (Od K H) xs es ∧ xs.length ≤ 130 ∧ ∀ e ∈ es, Sm e 3 200)
theorem ThingOk.ex {K : PySem.W.Frag} {H H' : Hp} (e : Evl.Ex H H') {x : V} (h : ThingOk K H x) : ThingOk K H' x := by
  obtain ⟨d, hs, ⟨h, hl⟩ | ⟨a, xs, es, rfl, ha, rfl, hp, hn, hm⟩⟩ := h
  · exact ⟨d, hs, .inl ⟨h.keep (TK.ex e), hl⟩⟩
  · exact ⟨_, hs, .inr ⟨a, xs, es, rfl, e _ _ ha, rfl, Paired.imp (fun _ _ => Od.keep (TK.ex e)) hp, hn, hm⟩⟩
theorem ThingOk.exx {K : PySem.W.Frag} {H H' : Hp} {p c : Addr} {T : Int} (hpen : PenAt H p c T) (e : Exx p H H') {x : V} (h : ThingOk K H x) : ThingOk K H' x := by
  obtain ⟨d, hs, ⟨h, hl⟩ | ⟨a, xs, es, rfl, ha, rfl, hp, hn, hm⟩⟩ := h
  · exact ⟨d, hs, .inl ⟨h.keep (hpen.tk e), hl⟩⟩
  · refine ⟨_, hs, .inr ⟨a, xs, es, rfl, e _ _ (fun z => ?_) ha, rfl, Paired.imp (fun _ _ => Od.keep (hpen.tk e)) hp, hn, hm⟩⟩
    obtain ⟨cells, t, d, h1, _⟩ := hpen
    rw [z, h1] at ha
    cases ha
theorem ThingOk.lst {K : PySem.W.Frag} {H : Hp} {a : Addr} {xs : List V} (ha : H a = some (.lst xs)) (h : ∀ x ∈ xs, OddV K H x) (hn : xs.length ≤ 130) : ThingOk K H (.ref a) := by
  obtain ⟨es, h1, h2, h3⟩ := sm_all h
  exact ⟨_, (smAll_lst h2).mono (by decide) (by omega), .inr ⟨a, xs, es, rfl, ha, rfl, h1, hn, h3⟩⟩
theorem ThingOk.thg {K : PySem.W.Frag} {H : Hp} {x : V} (h : ThingOk K H x) : ∃ d, Sm d 5 30000 ∧ Thg K H x d := by
  obtain ⟨d, hs, ⟨h, hl⟩ | ⟨a, xs, es, rfl, ha, rfl, hp, hn, hm⟩⟩ := h
  · exact ⟨d, hs, .th h⟩
  · exact ⟨_, hs, .lst ha hp⟩
theorem pair_fine {K : PySem.W.Frag} {H : Hp} {v : V} {d : PyData} (h : PairAt K H v d) : Fine d 1 23 := by
  obtain ⟨_, k, to, rfl, k0, k1, t0, t1⟩ := h
  exact fine_tup (FineAll.cons (fine_small k0 k1) (FineAll.cons (fine_small t0 t1) FineAll.nil))
theorem pair_odd {K : PySem.W.Frag} {H : Hp} {xs : List V} {es : List PyData} (h : Paired (PairAt K H) xs es) : ∀ x ∈ xs, OddV K H x := fun x hx => by
  obtain ⟨i, hi⟩ := List.mem_iff_getElem?.mp hx
  obtain ⟨d, _, hd⟩ := Paired.get1 h hi
  exact ⟨d, .inl hd.1, (pair_fine hd).sm.mono (by decide) (by decide)⟩
theorem pair_all {K : PySem.W.Frag} {H : Hp} : ∀ {xs : List V} {es : List PyData}, Paired (PairAt K H) xs es → DpAll K H xs es ∧ ∀ d ∈ es, Fine d 1 23
  | _, _, .nil => ⟨.nil, fun d h => absurd h List.not_mem_nil⟩
  | _, _, .cons h t => by
    obtain ⟨t1, t2⟩ := pair_all t
    refine ⟨.cons h.1 t1, fun e he => ?_⟩
    rcases List.mem_cons.mp he with rfl | he
    · exact pair_fine h
    · exact t2 e he
end Wb

set_option Elab.async false
set_option linter.all false
set_option maxRecDepth 100000
set_option maxHeartbeats 4000000
set_option pp.maxSteps 600
set_option pp.deepTerms false
namespace Wb
open PySem PySem.Spec PyProof.Rows L2
abbrev sLaw : Stmt := topS 48
abbrev nLaw : List Str := ["_law_script", "_law_pen_here", "_law_turn", "_law_lock_here", "_law_again", "_law_stand_here", "_law_good", "_law_bad", "_law_odd_here", "_law_things", "_law_held", "_law_told"]
theorem scLaw : FnScope nLaw ["_law_script"] (defScope sLaw) := ⟨rfl, rfl, rfl, by decide +kernel, rfl, by decide +kernel, by decide +kernel⟩
/-- the law's own defs, and those that it asks -/
structure Ld (K : PySem.W.Frag) (mg : Str → Option Value) where
  f30 : Addr
  d30 : FuncData
  F30 : Fun K "walked" "walked" sWalked f30 d30
  b30 : Binds K d30 ["lock", "stand", "steps"] []
  g30 : mg "walked" = some (.ref f30)
  f31 : Addr
  d31 : FuncData
  F31 : Fun K "price_of_step" "price_of_step" sPrice f31 d31
  b31 : Binds K d31 ["moves", "places", "step"] []
  g31 : mg "price_of_step" = some (.ref f31)
  f33 : Addr
  d33 : FuncData
  F33 : Fun K "_law_pen" "_law_pen" sPen f33 d33
  b33 : Binds K d33 ["_law_script"] []
  g33 : mg "_law_pen" = some (.ref f33)
  f34 : Addr
  d34 : FuncData
  F34 : Fun K "_law_draw" "_law_draw" sDraw f34 d34
  b34 : Binds K d34 ["_law_pen_here", "_law_many"] []
  g34 : mg "_law_draw" = some (.ref f34)
  f35 : Addr
  d35 : FuncData
  F35 : Fun K "_law_pick" "_law_pick" sPick f35 d35
  b35 : Binds K d35 ["_law_pen_here", "_law_some"] []
  g35 : mg "_law_pick" = some (.ref f35)
  f36 : Addr
  d36 : FuncData
  F36 : Fun K "_law_gaps" "_law_gaps" sGaps f36 d36
  b36 : Binds K d36 ["_law_pen_here", "_law_wide", "_law_words"] []
  g36 : mg "_law_gaps" = some (.ref f36)
  f37 : Addr
  d37 : FuncData
  F37 : Fun K "_law_lock" "_law_lock" sLock f37 d37
  b37 : Binds K d37 ["_law_pen_here", "_law_many", "_law_wide", "_law_more"] []
  g37 : mg "_law_lock" = some (.ref f37)
  f38 : Addr
  d38 : FuncData
  F38 : Fun K "_law_ways" "_law_ways" sAllWays f38 d38
  b38 : Binds K d38 ["_law_lock_here"] []
  g38 : mg "_law_ways" = some (.ref f38)
  f39 : Addr
  d39 : FuncData
  F39 : Fun K "_law_stand" "_law_stand" sStand f39 d39
  b39 : Binds K d39 ["_law_pen_here", "_law_lock_here"] []
  g39 : mg "_law_stand" = some (.ref f39)
  f40 : Addr
  d40 : FuncData
  F40 : Fun K "_law_steps" "_law_steps" sSteps f40 d40
  b40 : Binds K d40 ["_law_lock_here", "_law_stand_here"] []
  g40 : mg "_law_steps" = some (.ref f40)
  f41 : Addr
  d41 : FuncData
  F41 : Fun K "_law_after" "_law_after" sAfter f41 d41
  b41 : Binds K d41 ["_law_stand_here", "_law_k", "_law_there"] []
  g41 : mg "_law_after" = some (.ref f41)
  f42 : Addr
  d42 : FuncData
  F42 : Fun K "_law_whole" "_law_whole" sLWhole f42 d42
  b42 : Binds K d42 ["_law_thing", "_law_least_one", "_law_most_one"] []
  g42 : mg "_law_whole" = some (.ref f42)
  f43 : Addr
  d43 : FuncData
  F43 : Fun K "_law_odd" "_law_odd" sOdd f43 d43
  b43 : Binds K d43 ["_law_pen_here"] []
  g43 : mg "_law_odd" = some (.ref f43)
  f44 : Addr
  d44 : FuncData
  F44 : Fun K "_law_walk" "_law_walk" sLWalk f44 d44
  b44 : Binds K d44 ["_law_lock_here", "_law_stand_here", "_law_things"] []
  g44 : mg "_law_walk" = some (.ref f44)
  f45 : Addr
  d45 : FuncData
  F45 : Fun K "_law_walked" "_law_walked" sLWalked f45 d45
  b45 : Binds K d45 ["_law_lock_here", "_law_stand_here", "_law_things"] []
  g45 : mg "_law_walked" = some (.ref f45)
  f46 : Addr
  d46 : FuncData
  F46 : Fun K "_law_rows" "_law_rows" sRows f46 d46
  b46 : Binds K d46 ["_law_pen_here", "_law_lock_here", "_law_stand_here"] []
  g46 : mg "_law_rows" = some (.ref f46)
  f47 : Addr
  d47 : FuncData
  F47 : Fun K "_law_spoilt" "_law_spoilt" sSpoilt f47 d47
  b47 : Binds K d47 ["_law_pen_here", "_law_lock_here", "_law_things"] []
  g47 : mg "_law_spoilt" = some (.ref f47)
def spLaw (K : PySem.W.Frag) : Sp := fun vs H Q _ => ∃ (a : Addr) (ns : List Int), vs = [.ref a] ∧ SqL K H a (ns.map V.int) ∧ One K H ∧ ∀ H', Q (.bl true) H'
section
variable {P : Program} {w : World} {K : PySem.W.Frag} {mg : Str → Option Value} {base : Heap}
theorem tasg1 {X : TE} {g : TG} {D : Ends} {σ : L2.St} {H : Hp} (h : X σ H (fun x H1 => g x σ H1 D.nx)) : tAsg X g D σ H := h
theorem tseq1 {t u : TS} {D : Ends} {σ : L2.St} {H : Hp} (h : t { D with nx := fun σ' H' => u D σ' H' } σ H) : tSeq t u D σ H := h
theorem tcall3 {sp : Sp} {i j k : Nat} {x y z : V} {σ : L2.St} {H : Hp} {Q : VK} {E : XK} (hx : σ[i]? = some (some x)) (hy : σ[j]? = some (some y)) (hz : σ[k]? = some (some z)) (h : sp [x, y, z] H Q E) : tCall sp [] E (tCons (tVar i) (tCons (tVar j) (tCons (tVar k) tNil))) σ H Q := ⟨x, hx, y, hy, z, hz, h⟩
theorem told_walks {H : Hp} {v u x : V} {l : Lock} {st : Word} (hL : LockAt K H v l) (ok : LockOk l) (hu : Wd K H u st) (hin : InAll st (manysOf l)) (h : ThingOk K H x) :
    ∃ dr, Fine dr 2 1000 ∧ (∀ (Q : VK) (E : XK), (∀ H' r, Evl.Ex H H' → Dp K H' r dr → Q r H') → spLWalked K [v, u, x] H Q E) ∧ (∀ (H2 : Hp) (Q : VK) (E : XK), Evl.Ex H H2 → (∀ H' r, Evl.Ex H2 H' → Dp K H' r dr → Q r H') → spLWalk K [v, u, x] H2 Q E) := by
  obtain ⟨d, hs, ⟨h, hl⟩ | ⟨a, xs, es, rfl, ha, rfl, hp, hn, hm⟩⟩ := h
  · refine ⟨.list [.int 0], (fine_lst (FineAll.cons (fine_small (x := 0) (by decide) (by decide)) FineAll.nil)).mono (by decide) (by decide), fun Q E q => ?_, fun H2 Q E e q => ?_⟩
    · exact ⟨v, u, x, l, st, rfl, hL, ok, hu, hin, .inl ⟨d, h, hl, fun H' z e hz => q H' _ e (.lst (SqL.of hz) (.cons (.int 0) .nil))⟩⟩
    · exact ⟨v, u, x, l, st, rfl, hL.mono (TX.ex e), ok, wd_ex e hu, hin, .inl ⟨d, h.keep (TK.ex e), hl, fun H' z e' hz => q H' _ e' (.lst (SqL.of hz) (.cons (.int 0) .nil))⟩⟩
  · have xl : xs.length = es.length := Paired.len hp
    have hth : Paired (Th K H) xs es := Paired.imp (fun _ _ => Od.th) hp
    have hsh : ∀ d ∈ es, isTup d = true → SeqAt.shaped d = true := fun d hd ht => (hm d hd).shp (by decide) ht
    cases hw : walkL l st 0 0 es with
    | inl n =>
      have nb := walkL_inl es st 0 0 n hw
      refine ⟨.list [.int (n : Nat)], (fine_lst (FineAll.cons (fine_small (x := ((n : Nat) : Int)) (by omega) (by omega)) FineAll.nil)).mono (by decide) (by decide), fun Q E q => ?_, fun H2 Q E e q => ?_⟩
      · refine ⟨v, u, _, l, st, rfl, hL, ok, hu, hin, .inr ⟨a, xs, es, rfl, ha, hth, by omega, ?_⟩⟩
        rw [hw]
        exact fun H' z e hz => q H' _ e (.lst (SqL.of hz) (.cons (.int _) .nil))
      · refine ⟨v, u, _, l, st, rfl, hL.mono (TX.ex e), ok, wd_ex e hu, hin, .inr ⟨a, xs, es, rfl, e _ _ ha, Paired.imp (fun _ _ => Od.keep (TK.ex e)) hp, by omega, hsh, ?_⟩⟩
        rw [hw]
        exact fun H' z e' hz => q H' _ e' (.lst (SqL.of hz) (.cons (.int _) .nil))
    | inr r =>
      obtain ⟨st', paid⟩ := r
      obtain ⟨hin', p0, p1⟩ := walkL_inr ok es st 0 0 st' paid hin hw
      have pb : paid.natAbs < 10 ^ 12 := Nat.lt_of_le_of_lt (by omega : paid.natAbs ≤ 130000000) (by decide)
      refine ⟨.tuple [dW st', .int paid], (fine_tup (FineAll.cons (fine_st ok hin') (FineAll.cons ((fine_int12 pb).mono (Nat.zero_le 1) (Nat.le_refl _)) FineAll.nil))).mono (by decide) (by decide), fun Q E q => ?_, fun H2 Q E e q => ?_⟩
      · refine ⟨v, u, _, l, st, rfl, hL, ok, hu, hin, .inr ⟨a, xs, es, rfl, ha, hth, by omega, ?_⟩⟩
        rw [hw]
        exact fun H' t z e ht hz => q H' _ e (.tup (.inl (.inl ht)) (.cons (dp_W hz) (.cons (.int _) .nil)))
      · refine ⟨v, u, _, l, st, rfl, hL.mono (TX.ex e), ok, wd_ex e hu, hin, .inr ⟨a, xs, es, rfl, e _ _ ha, Paired.imp (fun _ _ => Od.keep (TK.ex e)) hp, by omega, hsh, ?_⟩⟩
        rw [hw]
        exact fun H' t z e' ht hz => q H' _ e' (.tup (.inl (.inl ht)) (.cons (dp_W hz) (.cons (.int _) .nil)))
theorem ok_law {f : Addr} {fd : FuncData} (F : Fun K "law" "law" sLaw f fd) (D : Pr K mg) (L : Ld K mg) (N : NsC K mg) (NX : NxC K mg N) : FnG P w K mg base 10 f fd ["_law_script"] (spLaw K) := by
  have B := D.B
  have G33 : FnOk P w K mg base CX0 1 L.f33 L.d33 ["_law_script"] (spPen K) := ok_pen L.F33 B
  have G34 : FnOk P w K mg base CX0 1 L.f34 L.d34 ["_law_pen_here", "_law_many"] spDraw := ok_draw L.F34 B
  have G35 : FnOk P w K mg base CX0 2 L.f35 L.d35 ["_law_pen_here", "_law_some"] (spPick K) := ok_pick L.F35 L.F34 L.b34 L.g34 B
  have G37 : FnOk P w K mg base CX0 4 L.f37 L.d37 ["_law_pen_here", "_law_many", "_law_wide", "_law_more"] (spLock K) := ok_lock L.F37 L.F34 L.b34 L.g34 L.F35 L.b35 L.g35 L.F36 L.b36 L.g36 B
  have G39 : FnOk P w K mg base CX0 3 L.f39 L.d39 ["_law_pen_here", "_law_lock_here"] (spStand K) := ok_stand L.F39 L.F34 L.b34 L.g34 L.F35 L.b35 L.g35 L.F38 L.b38 L.g38 B
  have G44 : FnOk P w K mg base CX0 2 L.f44 L.d44 ["_law_lock_here", "_law_stand_here", "_law_things"] (spLWalk K) := ok_lwalk L.F44 L.F42 L.b42 L.g42 L.F40 L.b40 L.g40 L.F41 L.b41 L.g41 B
  have G45 : FnOk P w K mg base CX0 9 L.f45 L.d45 ["_law_lock_here", "_law_stand_here", "_law_things"] (spLWalked K) := ok_lwalked D N NX L.F45 L.F30 L.b30 L.g30 L.F31 L.b31 L.g31
  have G46 : FnOk P w K mg base CX0 3 L.f46 L.d46 ["_law_pen_here", "_law_lock_here", "_law_stand_here"] (spRows K) := ok_rows L.F46 L.F34 L.b34 L.g34 L.F35 L.b35 L.g35 L.F40 L.b40 L.g40 L.F41 L.b41 L.g41 B
  have G47 : FnOk P w K mg base CX0 4 L.f47 L.d47 ["_law_pen_here", "_law_lock_here", "_law_things"] (spSpoilt K) := ok_spoilt L.F47 L.F34 L.b34 L.g34 L.F35 L.b35 L.g35 L.F43 L.b43 L.g43 B
  refine fnG_ok F scLaw (fun vs H Q E h => ?_) (fun cdv A outer s H vs Q E hgd hr h => ?_)
  · obtain ⟨a, ns, rfl, _⟩ := h; rfl
  · obtain ⟨a, ns, rfl, hS, one, q⟩ := h
    have hr1 : Room 1 _ := hr.mono (by decide)
    have hr2 : Room 2 _ := hr.mono (by decide)
    have hr3 : Room 3 _ := hr.mono (by decide)
    have hr4 : Room 4 _ := hr.mono (by decide)
    have hg' : (A.deeper (envOfC "law" (defScope sLaw) s.heap.objs.size f cdv)).guards = some [] := hgd
    refine ⟨_, pss_cons (ps_set (i := 1) scLaw.nd rfl (.inl rfl) (pe_call G33 hr1 (by rfl) L.g33 L.F33.kp L.b33 .nil pass0 (pa_cons (pv 0) pa_nil)))
      (pss_cons (ps_for PassesOwn.never rfl (pi_range1 (by rfl) B.range (pa_cons pe_int pa_nil)) (pg_name (i := 2) scLaw.nd rfl (.inl rfl))
        (pss_cons (ps_set (i := 3) scLaw.nd rfl (.inl rfl) (pe_call G37 hr4 (by rfl) L.g37 L.F37.kp L.b37 .nil pass0 (pa_cons (pv 1) (pa_cons (pe_op op_add pe_int (pe_call G34 hr1 (by rfl) L.g34 L.F34.kp L.b34 .nil pass0 (pa_cons (pv 1) (pa_cons pe_int pa_nil)))) (pa_cons pe_int (pa_cons pe_int pa_nil))))))
        (pss_one (ps_for PassesOwn.never rfl (pi_range1 (by rfl) B.range (pa_cons pe_int pa_nil)) (pg_name (i := 4) scLaw.nd rfl (.inl rfl))
          (pss_cons (ps_set (i := 5) scLaw.nd rfl (.inl rfl) (pe_call G39 hr3 (by rfl) L.g39 L.F39.kp L.b39 .nil pass0 (pa_cons (pv 1) (pa_cons (pv 3) pa_nil))))
          (pss_cons (ps_set (i := 6) scLaw.nd rfl (.inl rfl) (pe_call G46 hr3 (by rfl) L.g46 L.F46.kp L.b46 .nil pass0 (pa_cons (pv 1) (pa_cons (pv 3) (pa_cons (pv 5) pa_nil)))))
          (pss_cons (ps_set (i := 7) scLaw.nd rfl (.inl rfl) (pe_call G47 hr4 (by rfl) L.g47 L.F47.kp L.b47 .nil pass0 (pa_cons (pv 1) (pa_cons (pv 3) (pa_cons (pv 6) pa_nil)))))
          (pss_cons (ps_set (i := 8) scLaw.nd rfl (.inl rfl) (pe_call G35 hr2 (by rfl) L.g35 L.F35.kp L.b35 .nil pass0 (pa_cons (pv 1) (pa_cons (pe_lst (pa_cons (pe_callTy (r := rTupK K) call_tupK (by rfl) B.tuple PyProof.Rows.boot_tuple (pa_cons (pv 6) pa_nil)) (pa_cons pe_non (pa_cons pe_dnewK (pa_cons pe_str (pa_cons pe_int (pa_cons (pe_tup pa_nil) (pa_cons pe_bl pa_nil)))))))) pa_nil))))
          (pss_one (ps_for PassesOwn.never rfl (pi_tup (pe_tup (pa_cons (pv 6) (pa_cons (pv 7) (pa_cons (pe_call G47 hr4 (by rfl) L.g47 L.F47.kp L.b47 .nil pass0 (pa_cons (pv 1) (pa_cons (pv 3) (pa_cons (pv 7) pa_nil)))) (pa_cons (pv 8) pa_nil)))))) (pg_name (i := 9) scLaw.nd rfl (.inl rfl))
            (pss_cons (ps_set (i := 10) scLaw.nd rfl (.inl rfl) (pe_callB (call_repr_3 hr.units hg') (by rfl) B.repr boot_repr (pa_cons (pe_tup (pa_cons (pv 3) (pa_cons (pv 5) (pa_cons (pv 9) pa_nil)))) pa_nil)))
            (pss_cons (ps_set (i := 11) scLaw.nd rfl (.inl rfl) (pe_call G45 hr (by rfl) L.g45 L.F45.kp L.b45 .nil pass0 (pa_cons (pv 3) (pa_cons (pv 5) (pa_cons (pv 9) pa_nil)))))
            (pss_one (ps_if (PW.pt (pw_or (pt_cmpR op_ne (pe_callB (call_repr_thg hr.units hg') (by rfl) B.repr boot_repr (pa_cons (pv 11) pa_nil)) (pe_callB (call_repr_thg hr.units hg') (by rfl) B.repr boot_repr (pa_cons (pe_call G44 hr2 (by rfl) L.g44 L.F44.kp L.b44 .nil pass0 (pa_cons (pv 3) (pa_cons (pv 5) (pa_cons (pv 9) pa_nil)))) pa_nil)) (nomark _))
                (pw_or1 (pt_cmpR op_ne (pe_callB (call_repr_3 hr.units hg') (by rfl) B.repr boot_repr (pa_cons (pe_tup (pa_cons (pv 3) (pa_cons (pv 5) (pa_cons (pv 9) pa_nil)))) pa_nil)) (pv 10) (nomark _))))) pss_never pss_nil))))))))))))))
      (pss_one (ps_ret pe_bl))), ?_⟩
    refine ⟨.ref a, rfl, a, ns, rfl, hS, fun H1 p e1 np hpc => ?_⟩
    obtain ⟨c, hp1⟩ := hpc
    refine ⟨6, rfl, by decide, by decide, ?_⟩
    refine for_range (lo := 0) (n := 6) (fun t σ H' => ∃ y2 y3 y4 y5 y6 y7 y8 y9 y10 y11 : Option V, σ = [some (.ref a), some (.ref p), y2, y3, y4, y5, y6, y7, y8, y9, y10, y11] ∧ PenAt H' p c (100000 * (t : Nat)) ∧ One K H')
      ⟨none, none, none, none, none, none, none, none, none, none, rfl, by simpa using hp1, one.ex e1⟩ ?_ ?_
    · rintro t σ H2 ht ⟨y2, y3, y4, y5, y6, y7, y8, y9, y10, y11, rfl, hp2, one2⟩
      refine ⟨.ref p, rfl, .ref p, rfl, p, c, 10, _, rfl, hp2, by decide, by decide, by omega, fun r1 H3 r10 r11 x3 hp3 => ⟨1, r1, rfl, rfl, ?_⟩⟩
      refine ⟨p, c, 1 + r1, _, rfl, hp3, by omega, by omega, by omega, fun H4 v l x4 hp4 hL ok hl => ?_⟩
      have one4 : One K H4 := One.exx hp3 x4 (One.exx hp2 x3 one2)
      have fl := fine_L ok
      have l60 := ok.n1
      refine ⟨3, rfl, by decide, by decide, ?_⟩
      refine for_range (lo := 0) (n := 3) (fun i σ H' => ∃ z4 z5 z6 z7 z8 z9 z10 z11 : Option V, σ = [some (.ref a), some (.ref p), some (.int (0 + (t : Nat))), some v, z4, z5, z6, z7, z8, z9, z10, z11] ∧ Exx p H4 H' ∧ PenAt H' p c (100000 * (t : Nat) + 50000 + 1000 * (i : Nat)))
        ⟨_, _, _, _, _, _, _, _, rfl, Exx.refl p H4, hp4.mono (by omega)⟩ ?_ ?_
      · rintro i σ H5 hi ⟨z4, z5, z6, z7, z8, z9, z10, z11, rfl, x5, hp5⟩
        have hL5 := LockAt.mono (hp4.tx x5) hL
        have one5 := One.exx hp4 x5 one4
        refine ⟨.ref p, rfl, v, rfl, p, c, v, l, _, rfl, hp5, by omega, hL5, ok, fun H6 u st x6 hp6 hu hin => ?_⟩
        have hL6 := LockAt.mono (hp5.tx x6) hL5
        have one6 := One.exx hp5 x6 one5
        refine ⟨.ref p, rfl, v, rfl, u, rfl, p, c, v, u, l, st, _, rfl, hp6, by omega, hL6, ok, hu, hin, fun H7 z xs es x7 hp7 nz hz hxs xl => ?_⟩
        have hL7 := LockAt.mono (hp6.tx x7) hL6
        have one7 := One.exx hp6 x7 one6
        have hu7 := Wd.mono (hp6.tx x7) hu
        have nzp : z ≠ p := hp6.new1 nz
        have good7 : ThingOk K H7 (.ref z) := ThingOk.lst hz (pair_odd hxs) (by omega)
        refine ⟨.ref p, rfl, v, rfl, .ref z, rfl, p, c, v, z, l, _, xs, rfl, hp7, by omega, hL7, ok, hz, pair_odd hxs, by omega, fun H8 z2 ys x8 hp8 nz2 hz2 hys yl => ?_⟩
        have hL8 := LockAt.mono (hp7.tx x8) hL7
        have one8 := One.exx hp7 x8 one7
        have hu8 := Wd.mono (hp7.tx x8) hu7
        have nz2p : z2 ≠ p := hp7.new1 nz2
        have good8 := ThingOk.exx hp7 x8 good7
        have bad8 : ThingOk K H8 (.ref z2) := ThingOk.lst hz2 hys (by omega)
        have hz8 := x8 _ _ nzp hz
        have hxs8 : Paired (PairAt K H8) xs es := Paired.imp (fun _ _ => PairAt.keep (hp7.tk x8)) hxs
        obtain ⟨dps, fis⟩ := pair_all hxs8
        have el : xs.length = es.length := Paired.len hxs8
        have fes : Fine (.tuple es) 2 403 := (fine_tup (FineAll.rep fis)).mono (Nat.le_refl _) (by omega)
        -- the odd one
        refine ⟨.ref p, rfl, .ref z, rfl, z, xs, rfl, .inl ⟨SqL.of hz8, fun tg ntg => ?_⟩⟩
        have e9 := Evl.Ex.new (o := .tup xs) ntg
        have gtg : (upd H8 tg (.tup xs)) tg = some (.tup xs) := upd_same
        generalize upd H8 tg (.tup xs) = H9 at e9 gtg
        intro dz ndz
        have e10 := Evl.Ex.new (o := .dK []) ndz
        have gdz : (upd H9 dz (.dK [])) dz = some (.dK []) := upd_same
        generalize upd H9 dz (.dK []) = H10 at e10 gdz
        refine ⟨(by show 0 ≤ sizeLine; decide), fun et net => ?_⟩
        have e11 := Evl.Ex.new (o := .tup []) net
        have get : (upd H10 et (.tup [])) et = some (.tup []) := upd_same
        generalize upd H10 et (.tup []) = H11 at e11 get
        refine ⟨(by show 7 ≤ sizeLine; decide), fun ol nol => ?_⟩
        have e12 := Evl.Ex.new (o := .lst [.ref tg, .non, .ref dz, .str "", .int 0, .ref et, .bl true]) nol
        have gol : (upd H11 ol (.lst [.ref tg, .non, .ref dz, .str "", .int 0, .ref et, .bl true])) ol = some (.lst [.ref tg, .non, .ref dz, .str "", .int 0, .ref et, .bl true]) := upd_same
        have hp11 := hp8.ex (e9.trans (e10.trans e11))
        have nolp : ol ≠ p := hp11.new1 nol
        generalize upd H11 ol (.lst [.ref tg, .non, .ref dz, .str "", .int 0, .ref et, .bl true]) = H12 at e12 gol
        have hp12 := hp11.ex e12
        have e812 := e9.trans (e10.trans (e11.trans e12))
        have each : ∀ x ∈ ([.ref tg, .non, .ref dz, .str "", .int 0, .ref et, .bl true] : List V), ThingOk K H12 x := by
          intro x hx
          simp only [List.mem_cons, List.not_mem_nil, or_false] at hx
          rcases hx with rfl | rfl | rfl | rfl | rfl | rfl | rfl
          · exact ⟨_, fes.sm.mono (by decide) (by decide), .inl ⟨.dp (.tup (.inl (.inl ((e10.trans (e11.trans e12)) _ _ gtg))) (DpAll.keep (TK.ex e812) dps)), rfl⟩⟩
          · exact ⟨_, fine_non.sm.mono (by decide) (by decide), .inl ⟨.mx .non, rfl⟩⟩
          · exact ⟨_, sm_d0.mono (by decide) (by decide), .inl ⟨.mx (.d0 ((e11.trans e12) _ _ gdz)), rfl⟩⟩
          · exact ⟨_, fine_str0.sm.mono (by decide) (by decide), .inl ⟨.mx (.str _), rfl⟩⟩
          · exact ⟨_, (fine_small (x := 0) (by decide) (by decide)).sm.mono (by decide) (by decide), .inl ⟨.mx (.int _), rfl⟩⟩
          · exact ⟨_, (fine_tup (n := 0) FineAll.nil).sm.mono (by decide) (by decide), .inl ⟨.dp (.tup (.inl (.inl (e12 _ _ get))) .nil), rfl⟩⟩
          · exact ⟨_, (fine_bl true).sm.mono (by decide) (by decide), .inl ⟨.mx (.bl _), rfl⟩⟩
        refine ⟨p, c, ol, _, _, rfl, hp12, by omega, .inl (.inl gol), nolp, (fun z => nomatch z), (by show 7 ≤ 1000000; decide), fun vo H13 hvo x13 hp13 => ?_⟩
        have odd13 := ThingOk.exx hp12 x13 (each vo hvo)
        have one12 := one8.ex e812
        have one13 := One.exx hp12 x13 one12
        have hL13 := LockAt.mono (hp12.tx x13) (LockAt.mono (TX.ex e812) hL8)
        have hu13 := Wd.mono (hp12.tx x13) (wd_ex e812 hu8)
        have good13 := ThingOk.exx hp12 x13 (good8.ex e812)
        have bad13 := ThingOk.exx hp12 x13 (bad8.ex e812)
        have hz213 := x13 _ _ nz2p (e812 _ _ hz2)
        have hys13 : ∀ y ∈ ys, OddV K H13 y := fun y hy => ((hys y hy).keep (TK.ex e812)).keep (hp12.tk x13)
        refine ⟨.ref z, rfl, .ref z2, rfl, .ref p, rfl, v, rfl, .ref z2, rfl, p, c, v, z2, l, _, ys, rfl, hp13, by omega, hL13, ok, hz213, hys13, by omega, fun H14 z3 ws x14 hp14 nz3 hz3 hws wl => ?_⟩
        have worse14 : ThingOk K H14 (.ref z3) := ThingOk.lst hz3 hws (by omega)
        refine ⟨vo, rfl, (by show 4 ≤ sizeLine; decide), fun tp ntp => ?_⟩
        have e15 := Evl.Ex.new (o := .tup [.ref z, .ref z2, .ref z3, vo]) ntp
        have gtp : (upd H14 tp (.tup [.ref z, .ref z2, .ref z3, vo])) tp = some (.tup [.ref z, .ref z2, .ref z3, vo]) := upd_same
        generalize upd H14 tp (.tup [.ref z, .ref z2, .ref z3, vo]) = H15 at e15 gtp
        have hp15 := hp14.ex e15
        have one15 := (One.exx hp13 x14 one13).ex e15
        have hL15 := LockAt.mono (TX.ex e15) (LockAt.mono (hp13.tx x14) hL13)
        have hu15 := wd_ex e15 (Wd.mono (hp13.tx x14) hu13)
        have all : ∀ x ∈ ([.ref z, .ref z2, .ref z3, vo] : List V), ThingOk K H15 x := by
          intro x hx
          simp only [List.mem_cons, List.not_mem_nil, or_false] at hx
          rcases hx with rfl | rfl | rfl | rfl
          · exact (ThingOk.exx hp13 x14 good13).ex e15
          · exact (ThingOk.exx hp13 x14 bad13).ex e15
          · exact worse14.ex e15
          · exact (ThingOk.exx hp13 x14 odd13).ex e15
        have x515 : Exx p H4 H15 := x5.trans (x6.trans (x7.trans (x8.trans ((Exx.ex e812).trans (x13.trans (x14.trans (Exx.ex e15)))))))
        refine ⟨tp, rfl, ⟨_, .inl (.inl gtp)⟩, ?_⟩
        refine for_tup (K := K) (a := tp) (xs := [.ref z, .ref z2, .ref z3, vo]) (fun j σ H' => ∃ w9 w10 w11 : Option V, σ = [some (.ref a), some (.ref p), some (.int (0 + (t : Nat))), some v, some (.int (0 + (i : Nat))), some u, some (.ref z), some (.ref z2), some vo, w9, w10, w11] ∧ Evl.Ex H15 H')
          ⟨_, _, _, rfl, Evl.Ex.refl _⟩ ?_ ?_ ?_
        · rintro j σ H' _ ⟨_, _, _, _, e⟩
          exact .inl (.inl (e _ _ gtp))
        · rintro j x σ H16 hx ⟨w9, w10, w11, rfl, e16⟩
          have hx16 := (all x (List.mem_of_getElem? hx)).ex e16
          obtain ⟨d, hs, hd⟩ := hx16.thg
          have hL16 := LockAt.mono (TX.ex e16) hL15
          have hu16 := wd_ex e16 hu15
          have one16 := one15.ex e16
          obtain ⟨t1, t2, t3⟩ := sm3 (fl.sm.mono (show 6 ≤ 6 by decide) (Nat.le_refl _)) ((fine_st ok hin).sm.mono (show 1 ≤ 6 by decide) (Nat.le_refl _)) (hs.mono (show 5 ≤ 6 by decide) (Nat.le_refl _))
          have t2' := Nat.le_trans t2 (by decide : 6 + 1 ≤ 20)
          have t3' := Nat.le_trans t3 (by decide : 5000000 + 603 + 30000 + 9 ≤ sizeLine)
          refine ⟨v, rfl, u, rfl, x, rfl, (by show 3 ≤ sizeLine; decide), fun ta nta => ?_⟩
          have e17 := Evl.Ex.new (o := .tup [v, u, x]) nta
          have gta : (upd H16 ta (.tup [v, u, x])) ta = some (.tup [v, u, x]) := upd_same
          generalize upd H16 ta (.tup [v, u, x]) = H17 at e17 gta
          have hL17 := LockAt.mono (TX.ex e17) hL16
          have hu17 := wd_ex e17 hu16
          refine ⟨ta, v, u, x, dL l, dW st, d, rfl, one16.ex e17, gta, .th (.dp (dp_L hL17)), .th (.dp (dp_W hu17)), hd.ex e17, t1, t2', t3', ?_⟩
          obtain ⟨dr, fr, hw1, hw2⟩ := told_walks hL17 ok hu17 hin (hx16.ex e17)
          refine tseq1 (tasg1 (tcall3 rfl rfl rfl ?_))
          refine hw1 _ _ fun H18 r e18 hr18 => ?_
          have one18 := (one16.ex e17).ex e18
          have f2 := Nat.le_trans fr.dep (by decide : 2 ≤ 20)
          have f3 := Nat.le_trans fr.len (by decide : 1000 ≤ sizeLine)
          refine ⟨r, rfl, r, dr, rfl, one18, .th (.dp hr18), fr.sho, f2, f3, ?_⟩
          refine tcb1 (tcall3 rfl rfl rfl ?_)
          refine hw2 _ _ _ e18 fun H19 r2 e19 hr19 => ?_
          have one19 := one18.ex e19
          refine ⟨r2, dr, rfl, one19, .th (.dp hr19), fr.sho, f2, f3, ?_⟩
          refine ⟨rfl, _, rfl, ?_⟩
          refine ite2 (fun hc => absurd hc (by simp)) (fun _ => ?_)
          have e1619 := e17.trans (e18.trans e19)
          refine ⟨v, rfl, u, rfl, x, rfl, (by show 3 ≤ sizeLine; decide), fun tb ntb => ?_⟩
          have e20 := Evl.Ex.new (o := .tup [v, u, x]) ntb
          have gtb : (upd H19 tb (.tup [v, u, x])) tb = some (.tup [v, u, x]) := upd_same
          generalize upd H19 tb (.tup [v, u, x]) = H20 at e20 gtb
          have e1620 := e1619.trans e20
          refine ⟨tb, v, u, x, dL l, dW st, d, rfl, one16.ex e1620, gtb, .th (.dp (dp_L (LockAt.mono (TX.ex e1620) hL16))), .th (.dp (dp_W (wd_ex e1620 hu16))), hd.ex e1620, t1, t2', t3', ?_⟩
          refine ⟨.str _, rfl, rfl, _, rfl, ?_⟩
          refine ite2 (fun hc => absurd hc (by simp)) (fun _ => ?_)
          exact ⟨_, _, _, rfl, e16.trans e1620⟩
        · rintro σ H16 ⟨w9, w10, w11, rfl, e16⟩
          exact ⟨_, _, _, _, _, _, _, _, rfl, x515.trans (Exx.ex e16), (hp15.ex e16).mono (by omega)⟩
      · rintro σ H5 ⟨z4, z5, z6, z7, z8, z9, z10, z11, rfl, x5, hp5⟩
        exact ⟨_, _, _, _, _, _, _, _, _, _, rfl, hp5.mono (by omega), One.exx hp4 x5 one4⟩
    · rintro σ H2 ⟨y2, y3, y4, y5, y6, y7, y8, y9, y10, y11, rfl, hp2, one2⟩
      exact q _
end
end Wb

set_option Elab.async false
set_option linter.all false
set_option maxRecDepth 100000
set_option maxHeartbeats 4000000
set_option pp.maxSteps 600
set_option pp.deepTerms false
namespace Wb
open PySem PySem.Spec PyProof.Rows L2
section
variable {P : Program} {w : World} {K : PySem.W.Frag} {mg mb : Str → Option Value} {k : Nat} {fa a : Addr} {fd : FuncData} {x : Str} {sp : Sp} {t : Shared} {vs : List Value} {ns : List Int}
/-- from a heap that tracks at most the script, and what stands where sys.modules does -/
theorem top_core (kin : K.In t.heap) (mns : t.heap.Ns mainGlobals mg) (bns : t.heap.Ns builtinsNs mb)
    (bok : ∀ y : Str, y ≠ "__name__" → mb y = bootBuiltins y) (nol : t.heap.NoLimit) (gen0 : t.gens = #[])
    (oa : t.heap.get? a = some { cls := .type "list", data := .seq vs.toArray }) (rv : Vals (ns.map V.int) vs) (room : Room k callerA) (gu : callerA.guards = some [])
    (prom : ∀ bs : Heap, K.In bs → bs.Ns mainGlobals mg → FnG P w K mg bs k fa fd [x] sp) (bnd : ∀ (t' : Shared) (u : Value), BindsTo t' fd ⟨[u], []⟩ [(x, u)])
    (I : Hp) (only : ∀ b, I b = none ∨ ∃ o u, I b = some (.frz o u)) (due : sp [.ref a] I (fun v _ => v = .bl true) fun _ _ _ => False) (iok : HOk P w I t.heap) (at_a : ∀ b, I b ≠ none → b = a ∨ b = sysModules) (free_a : ∀ b, I b ≠ none → K.lookup b = none) :
    codeAny (model P w) callerA (.call (.ref fa) ⟨[.ref a], []⟩) (fun r t' => r = .ok (.ret (.bool true)) ∧ OldK t.heap t'.heap ∧ t'.os = t.os ∧ AllBare t'.gens) t := by
  have keep : ∀ {b : Addr} {o : Obj}, I b = none → t.heap.get? b = some o → (hidT t.heap I).get? b = some o := fun n e => hidT_get e n
  have nsI : ∀ {b : Addr} {m : Str → Option Value}, b ≠ sysModules → t.heap.Ns b m → (hidT t.heap I).Ns b m := by
    intro b m nb h
    obtain ⟨o, es, ep, e1, e2, e3⟩ := h
    refine ⟨o, es, ep, keep ?_ e1, e2, e3⟩
    refine Classical.byContradiction fun n => ?_
    rcases at_a b n with z | z
    · rw [z, oa] at e1
      cases e1
      have z2 : Data.seq vs.toArray _ = Data.dict es ep := e2
      cases z2
    · exact nb z
  have kinI : K.In (hidT t.heap I) := by
    intro b o e
    refine keep (Classical.byContradiction fun n => ?_) (kin b o e)
    have z := free_a b n
    rw [e] at z
    cases z
  have nolI : (hidT t.heap I).NoLimit := by
    obtain ⟨mc, h1, h2⟩ := nol
    exact ⟨mc, nsI (by decide) h1, h2⟩
  have mod : Mod K mg (hidT t.heap I) := ⟨kinI, nsI (by decide) mns, ⟨mb, nsI (by decide) bns, bok⟩, nolI⟩
  have env : Env0 P w K mg (hidT t.heap I) callerA [] t I :=
    ⟨rfl, mod, fun b o e => of_hidT e, Nat.le_of_eq (hidT_size _ _), trivial, (fun b hb => absurd hb (List.not_mem_nil)), iok, .of_eq gen0⟩
  refine codeAny_mono ((prom _ kinI (nsI (by decide) mns)).go callerA [] t I ⟨[.ref a], []⟩ [.ref a] [.ref a] _ _ gu room env (bnd t (.ref a)) (.cons rfl .nil) due) ?_
  intro r t' h
  cases r with
  | error e => exact False.elim h
  | ok fl =>
    cases fl with
    | next => exact False.elim h
    | brk => exact False.elim h
    | cont => exact False.elim h
    | ret u =>
      obtain ⟨v, I', eos, bare, un, iok', rr, hv⟩ := h
      have hv' : v = .bl true := hv
      rw [hv'] at rr
      have hu : u = Value.bool true := rr
      rw [hu]
      refine ⟨rfl, OldK.of_keep fun b o e => ?_, eos, bare⟩
      rcases only b with z | ⟨ob, xs, z⟩
      · exact un.keep b o e z (by intro h; exact absurd h List.not_mem_nil) (by simp)
      · obtain ⟨e1, _⟩ := iok b _ z
        obtain ⟨e2, _⟩ := iok' b _ (un.frzs b ob _ z)
        rw [e] at e1
        cases e1
        exact e2
theorem call_top (kin : K.In t.heap) (mns : t.heap.Ns mainGlobals mg) (bns : t.heap.Ns builtinsNs mb)
    (bok : ∀ y : Str, y ≠ "__name__" → mb y = bootBuiltins y) (nol : t.heap.NoLimit) (gen0 : t.gens = #[]) (see : t.heap.NoSeer) (k1 : K.lookup sysModules = none)
    (oa : t.heap.get? a = some { cls := .type "list", data := .seq vs.toArray }) (iv : IntsAre vs ns) (len : ns.length ≤ sizeLine) (room : Room k callerA) (gu : callerA.guards = some [])
    (prom : ∀ bs : Heap, K.In bs → bs.Ns mainGlobals mg → FnG P w K mg bs k fa fd [x] sp) (bnd : ∀ (t' : Shared) (u : Value), BindsTo t' fd ⟨[u], []⟩ [(x, u)])
    (due : ∀ I : Hp, SqL K I a (ns.map V.int) → One K I → sp [.ref a] I (fun v _ => v = .bl true) fun _ _ _ => False) :
    codeAny (model P w) callerA (.call (.ref fa) ⟨[.ref a], []⟩) (fun r t' => r = .ok (.ret (.bool true)) ∧ OldK t.heap t'.heap ∧ t'.os = t.os ∧ AllBare t'.gens) t := by
  have rv := vals_ints iv
  have lv := iv.length
  obtain ⟨om, hom, na⟩ : ∃ om, t.heap.get? sysModules = some om ∧ a ≠ sysModules := by
    obtain ⟨mm, ⟨o, es, ep, e1, e2, e3⟩, _⟩ := see.mods
    refine ⟨o, e1, fun z => ?_⟩
    rw [z, e1] at oa
    cases oa
    have z2 : Data.seq vs.toArray _ = Data.dict es ep := e2
    cases z2
  cases hk : K.lookup a with
  | some o =>
    have e := kin a o hk
    rw [oa] at e
    cases e
    have one : ∀ b, b ≠ sysModules → (fun b => if b = sysModules then some (HO.frz om (.own 0)) else none : Hp) b = none := fun b n => if_neg n
    have two : (fun b => if b = sysModules then some (HO.frz om (.own 0)) else none : Hp) sysModules = some (HO.frz om (.own 0)) := if_pos rfl
    generalize (fun b => if b = sysModules then some (HO.frz om (.own 0)) else none : Hp) = I at one two
    have at1 : ∀ b, I b ≠ none → b = sysModules := fun b n => Classical.byContradiction fun z => n (one b z)
    have hS : SqL K I a (ns.map V.int) := .inr ⟨_, vs.toArray, _, hk, rfl, rfl, rfl, (by rw [List.size_toArray, lv]; exact len), (by simpa using rv)⟩
    refine top_core kin mns bns bok nol gen0 oa rv room gu prom bnd I (fun b => ?_) (due _ hS ⟨k1, _, _, two⟩) (fun b u z => ?_) (fun b n => .inr (at1 b n)) (fun b n => by rw [at1 b n]; exact k1)
    · by_cases z : b = sysModules
      · rw [z]
        exact .inr ⟨_, _, two⟩
      · exact .inl (one b z)
    · have e := at1 b (by rw [z]; exact fun y => nomatch y)
      subst e
      rw [two] at z
      cases z
      exact ⟨hom, ⟨_, hom⟩⟩
  | none =>
    have one : ∀ b, b ≠ a → b ≠ sysModules → (fun b => if b = a then some (HO.frz { cls := .type "list", data := .seq vs.toArray } (.lst (ns.map V.int))) else if b = sysModules then some (HO.frz om (.own 0)) else none : Hp) b = none := fun b n n2 => (if_neg n).trans (if_neg n2)
    have two : (fun b => if b = a then some (HO.frz { cls := .type "list", data := .seq vs.toArray } (.lst (ns.map V.int))) else if b = sysModules then some (HO.frz om (.own 0)) else none : Hp) a = some (HO.frz { cls := .type "list", data := .seq vs.toArray } (.lst (ns.map V.int))) := if_pos rfl
    have three : (fun b => if b = a then some (HO.frz { cls := .type "list", data := .seq vs.toArray } (.lst (ns.map V.int))) else if b = sysModules then some (HO.frz om (.own 0)) else none : Hp) sysModules = some (HO.frz om (.own 0)) := (if_neg (fun z => na z.symm)).trans (if_pos rfl)
    generalize (fun b => if b = a then some (HO.frz { cls := .type "list", data := .seq vs.toArray } (.lst (ns.map V.int))) else if b = sysModules then some (HO.frz om (.own 0)) else none : Hp) = I at one two three
    have hS : SqL K I a (ns.map V.int) := .inl (.inr ⟨_, two⟩)
    have at_a : ∀ b, I b ≠ none → b = a ∨ b = sysModules := fun b n => Classical.byContradiction fun z => n (one b (fun q => z (.inl q)) fun q => z (.inr q))
    refine top_core kin mns bns bok nol gen0 oa rv room gu prom bnd I (fun b => ?_) (due I hS ⟨k1, _, _, three⟩) (fun b u z => ?_) at_a (fun b n => ?_)
    · by_cases z : b = a
      · rw [z]
        exact .inr ⟨_, _, two⟩
      · by_cases z1 : b = sysModules
        · rw [z1]
          exact .inr ⟨_, _, three⟩
        · exact .inl (one b z z1)
    · rcases at_a b (by rw [z]; exact fun y => nomatch y) with e | e
      · subst e
        rw [two] at z
        cases z
        exact ⟨oa, (by rw [List.length_map]; exact len), vs, _, rv, oa⟩
      · subst e
        rw [three] at z
        cases z
        exact ⟨hom, ⟨_, hom⟩⟩
    · rcases at_a b n with e | e
      · rw [e]; exact hk
      · rw [e]; exact k1
end
theorem walk_top {l : PySem.W.OpenLaw} {n k : Nat} {q : Program} {loose : List Str} {XP : (Str → Option Value) → Heap → Prop} {YP : World → Heap → Prop} {d : DefRec} {K : Params → PySem.W.Frag} {sp : World → Sp} {x : Str}
    (hn : l.most = some n) (hn2 : n ≤ sizeLine) (hd : d.params.defaults = []) (room : Room k callerA) (gu : callerA.guards = some [])
    (hY : ∀ (w : World) (h : Heap), YP w h → (K w.params).In h)
    (F : ∀ (w : World) (mg : Str → Option Value) (fa : Addr) (h : Heap), (K w.params).In h → h.Ns mainGlobals mg → mg d.name = some (.ref fa) → ∃ fd : FuncData,
      (∀ (t : Shared) (u : Value), BindsTo t fd ⟨[u], []⟩ [(x, u)]) ∧ ∀ bs : Heap, (K w.params).In bs → bs.Ns mainGlobals mg → FnG l.prog w (K w.params) mg bs k fa fd [x] (sp w))
    (due : ∀ (w : World) (I : Hp) (a : Addr) (ns : List Int), SqL (K w.params) I a (ns.map V.int) → One (K w.params) I → sp w [.ref a] I (fun v _ => v = .bl true) fun _ _ _ => False)
    (hq : importsNone q = true) (k1 : ∀ w : World, (K w.params).lookup sysModules = none) :
    PySem.W.WalkO q loose XP YP l.row.toRowW d [] (fun f vs => PySem.call f vs) := by
  refine Att.attach_call hn hd ?_
  intro w t0 t mg mb fa o pm cd doc a vs ns G Y ho hdt hcd hmg oa iv hl gen0
  obtain ⟨fd, hb, hF⟩ := F w mg fa _ (hY w _ Y) G.T.g hmg
  exact call_top (hY w _ Y) G.T.g G.T.b G.T.builtins G.T.nolimit gen0 (G.T.seer hq) (k1 w) oa iv (Nat.le_trans hl hn2) room gu hF hb fun I hS one => due w I a ns hS one
end Wb

set_option Elab.async false
set_option linter.all false
set_option maxRecDepth 100000
set_option maxHeartbeats 4000000
namespace Wb
open PySem PySem.Spec PyProof.Rows L2
theorem all_facts {pr : Program} {w : World} {K : PySem.W.Frag} {h : Heap} {mg : Str → Option Value} {fa : Addr} (X : K.In h) (G : h.Ns mainGlobals mg) (hfa : mg "law" = some (.ref fa))
    {fp1 : Addr} {ocp1 kVp1 dcp1 pmp1 cdp1 ctp1 : Value} {odp1 anp1 : Option Addr} {slp1 : Array (Option Value)}
    (ap1 : PySem.W.nsIn K mainGlobals "is_whole" = some (some (.ref fp1)))
    (lp1 : K.lookup fp1 = some ⟨ocp1, odp1, .func (PySem.W.fnOf "is_whole" "is_whole" (defArgs sWhole) (defBody sWhole) (defScope sWhole) .none kVp1 dcp1 pmp1 anp1 cdp1 ctp1), slp1⟩)
    (cp1 : PySem.W.codeIn K cdp1 "is_whole" = true) (kp1 : PySem.W.keepIn K (.ref fp1) = true)
    {fp2 : Addr} {ocp2 kVp2 dcp2 pmp2 cdp2 ctp2 : Value} {odp2 anp2 : Option Addr} {slp2 : Array (Option Value)}
    (ap2 : PySem.W.nsIn K mainGlobals "is_whole_in" = some (some (.ref fp2)))
    (lp2 : K.lookup fp2 = some ⟨ocp2, odp2, .func (PySem.W.fnOf "is_whole_in" "is_whole_in" (defArgs sWholeIn) (defBody sWholeIn) (defScope sWholeIn) .none kVp2 dcp2 pmp2 anp2 cdp2 ctp2), slp2⟩)
    (cp2 : PySem.W.codeIn K cdp2 "is_whole_in" = true) (kp2 : PySem.W.keepIn K (.ref fp2) = true)
    {fp3 : Addr} {ocp3 kVp3 dcp3 pmp3 cdp3 ctp3 : Value} {odp3 anp3 : Option Addr} {slp3 : Array (Option Value)}
    (ap3 : PySem.W.nsIn K mainGlobals "is_tuple_of" = some (some (.ref fp3)))
    (lp3 : K.lookup fp3 = some ⟨ocp3, odp3, .func (PySem.W.fnOf "is_tuple_of" "is_tuple_of" (defArgs sTupOf) (defBody sTupOf) (defScope sTupOf) .none kVp3 dcp3 pmp3 anp3 cdp3 ctp3), slp3⟩)
    (cp3 : PySem.W.codeIn K cdp3 "is_tuple_of" = true) (kp3 : PySem.W.keepIn K (.ref fp3) = true)
    {fp4 : Addr} {ocp4 kVp4 dcp4 pmp4 cdp4 ctp4 : Value} {odp4 anp4 : Option Addr} {slp4 : Array (Option Value)}
    (ap4 : PySem.W.nsIn K mainGlobals "are_places" = some (some (.ref fp4)))
    (lp4 : K.lookup fp4 = some ⟨ocp4, odp4, .func (PySem.W.fnOf "are_places" "are_places" (defArgs sPlaces) (defBody sPlaces) (defScope sPlaces) .none kVp4 dcp4 pmp4 anp4 cdp4 ctp4), slp4⟩)
    (cp4 : PySem.W.codeIn K cdp4 "are_places" = true) (kp4 : PySem.W.keepIn K (.ref fp4) = true)
    {fp10 : Addr} {ocp10 kVp10 dcp10 pmp10 cdp10 ctp10 : Value} {odp10 anp10 : Option Addr} {slp10 : Array (Option Value)}
    (ap10 : PySem.W.nsIn K mainGlobals "words_of" = some (some (.ref fp10)))
    (lp10 : K.lookup fp10 = some ⟨ocp10, odp10, .func (PySem.W.fnOf "words_of" "words_of" (defArgs sWords) (defBody sWords) (defScope sWords) .none kVp10 dcp10 pmp10 anp10 cdp10 ctp10), slp10⟩)
    (cp10 : PySem.W.codeIn K cdp10 "words_of" = true) (kp10 : PySem.W.keepIn K (.ref fp10) = true)
    {fp11 : Addr} {ocp11 kVp11 dcp11 pmp11 cdp11 ctp11 : Value} {odp11 anp11 : Option Addr} {slp11 : Array (Option Value)}
    (ap11 : PySem.W.nsIn K mainGlobals "moves_by_word" = some (some (.ref fp11)))
    (lp11 : K.lookup fp11 = some ⟨ocp11, odp11, .func (PySem.W.fnOf "moves_by_word" "moves_by_word" (defArgs sMoves) (defBody sMoves) (defScope sMoves) .none kVp11 dcp11 pmp11 anp11 cdp11 ctp11), slp11⟩)
    (cp11 : PySem.W.codeIn K cdp11 "moves_by_word" = true) (kp11 : PySem.W.keepIn K (.ref fp11) = true)
    {fp19 : Addr} {ocp19 kVp19 dcp19 pmp19 cdp19 ctp19 : Value} {odp19 anp19 : Option Addr} {slp19 : Array (Option Value)}
    (ap19 : PySem.W.nsIn K mainGlobals "fault_of" = some (some (.ref fp19)))
    (lp19 : K.lookup fp19 = some ⟨ocp19, odp19, .func (PySem.W.fnOf "fault_of" "fault_of" (defArgs sFault) (defBody sFault) (defScope sFault) .none kVp19 dcp19 pmp19 anp19 cdp19 ctp19), slp19⟩)
    (cp19 : PySem.W.codeIn K cdp19 "fault_of" = true) (kp19 : PySem.W.keepIn K (.ref fp19) = true)
    {fp20 : Addr} {ocp20 kVp20 dcp20 pmp20 cdp20 ctp20 : Value} {odp20 anp20 : Option Addr} {slp20 : Array (Option Value)}
    (ap20 : PySem.W.nsIn K mainGlobals "is_bolt" = some (some (.ref fp20)))
    (lp20 : K.lookup fp20 = some ⟨ocp20, odp20, .func (PySem.W.fnOf "is_bolt" "is_bolt" (defArgs sBolt) (defBody sBolt) (defScope sBolt) .none kVp20 dcp20 pmp20 anp20 cdp20 ctp20), slp20⟩)
    (cp20 : PySem.W.codeIn K cdp20 "is_bolt" = true) (kp20 : PySem.W.keepIn K (.ref fp20) = true)
    {fp21 : Addr} {ocp21 kVp21 dcp21 pmp21 cdp21 ctp21 : Value} {odp21 anp21 : Option Addr} {slp21 : Array (Option Value)}
    (ap21 : PySem.W.nsIn K mainGlobals "is_gap" = some (some (.ref fp21)))
    (lp21 : K.lookup fp21 = some ⟨ocp21, odp21, .func (PySem.W.fnOf "is_gap" "is_gap" (defArgs sGap) (defBody sGap) (defScope sGap) .none kVp21 dcp21 pmp21 anp21 cdp21 ctp21), slp21⟩)
    (cp21 : PySem.W.codeIn K cdp21 "is_gap" = true) (kp21 : PySem.W.keepIn K (.ref fp21) = true)
    {fp22 : Addr} {ocp22 kVp22 dcp22 pmp22 cdp22 ctp22 : Value} {odp22 anp22 : Option Addr} {slp22 : Array (Option Value)}
    (ap22 : PySem.W.nsIn K mainGlobals "are_ways" = some (some (.ref fp22)))
    (lp22 : K.lookup fp22 = some ⟨ocp22, odp22, .func (PySem.W.fnOf "are_ways" "are_ways" (defArgs sWays) (defBody sWays) (defScope sWays) .none kVp22 dcp22 pmp22 anp22 cdp22 ctp22), slp22⟩)
    (cp22 : PySem.W.codeIn K cdp22 "are_ways" = true) (kp22 : PySem.W.keepIn K (.ref fp22) = true)
    {fp23 : Addr} {ocp23 kVp23 dcp23 pmp23 cdp23 ctp23 : Value} {odp23 anp23 : Option Addr} {slp23 : Array (Option Value)}
    (ap23 : PySem.W.nsIn K mainGlobals "manys_of" = some (some (.ref fp23)))
    (lp23 : K.lookup fp23 = some ⟨ocp23, odp23, .func (PySem.W.fnOf "manys_of" "manys_of" (defArgs sManys) (defBody sManys) (defScope sManys) .none kVp23 dcp23 pmp23 anp23 cdp23 ctp23), slp23⟩)
    (cp23 : PySem.W.codeIn K cdp23 "manys_of" = true) (kp23 : PySem.W.keepIn K (.ref fp23) = true)
    {fp24 : Addr} {ocp24 kVp24 dcp24 pmp24 cdp24 ctp24 : Value} {odp24 anp24 : Option Addr} {slp24 : Array (Option Value)}
    (ap24 : PySem.W.nsIn K mainGlobals "need_lock" = some (some (.ref fp24)))
    (lp24 : K.lookup fp24 = some ⟨ocp24, odp24, .func (PySem.W.fnOf "need_lock" "need_lock" (defArgs sNeedL) (defBody sNeedL) (defScope sNeedL) .none kVp24 dcp24 pmp24 anp24 cdp24 ctp24), slp24⟩)
    (cp24 : PySem.W.codeIn K cdp24 "need_lock" = true) (kp24 : PySem.W.keepIn K (.ref fp24) = true)
    {fp25 : Addr} {ocp25 kVp25 dcp25 pmp25 cdp25 ctp25 : Value} {odp25 anp25 : Option Addr} {slp25 : Array (Option Value)}
    (ap25 : PySem.W.nsIn K mainGlobals "need_stand" = some (some (.ref fp25)))
    (lp25 : K.lookup fp25 = some ⟨ocp25, odp25, .func (PySem.W.fnOf "need_stand" "need_stand" (defArgs sNeedS) (defBody sNeedS) (defScope sNeedS) .none kVp25 dcp25 pmp25 anp25 cdp25 ctp25), slp25⟩)
    (cp25 : PySem.W.codeIn K cdp25 "need_stand" = true) (kp25 : PySem.W.keepIn K (.ref fp25) = true)
    {f30 : Addr} {oc30 kV30 dc30 pm30 cd30 ct30 : Value} {od30 an30 : Option Addr} {sl30 : Array (Option Value)}
    (a30 : PySem.W.nsIn K mainGlobals "walked" = some (some (.ref f30)))
    (l30 : K.lookup f30 = some ⟨oc30, od30, .func (PySem.W.fnOf "walked" "walked" (defArgs sWalked) (defBody sWalked) (defScope sWalked) .none kV30 dc30 pm30 an30 cd30 ct30), sl30⟩)
    (c30 : PySem.W.codeIn K cd30 "walked" = true) (k30 : PySem.W.keepIn K (.ref f30) = true)
    {f31 : Addr} {oc31 kV31 dc31 pm31 cd31 ct31 : Value} {od31 an31 : Option Addr} {sl31 : Array (Option Value)}
    (a31 : PySem.W.nsIn K mainGlobals "price_of_step" = some (some (.ref f31)))
    (l31 : K.lookup f31 = some ⟨oc31, od31, .func (PySem.W.fnOf "price_of_step" "price_of_step" (defArgs sPrice) (defBody sPrice) (defScope sPrice) .none kV31 dc31 pm31 an31 cd31 ct31), sl31⟩)
    (c31 : PySem.W.codeIn K cd31 "price_of_step" = true) (k31 : PySem.W.keepIn K (.ref f31) = true)
    {f33 : Addr} {oc33 kV33 dc33 pm33 cd33 ct33 : Value} {od33 an33 : Option Addr} {sl33 : Array (Option Value)}
    (a33 : PySem.W.nsIn K mainGlobals "_law_pen" = some (some (.ref f33)))
    (l33 : K.lookup f33 = some ⟨oc33, od33, .func (PySem.W.fnOf "_law_pen" "_law_pen" (defArgs sPen) (defBody sPen) (defScope sPen) .none kV33 dc33 pm33 an33 cd33 ct33), sl33⟩)
    (c33 : PySem.W.codeIn K cd33 "_law_pen" = true) (k33 : PySem.W.keepIn K (.ref f33) = true)
    {f34 : Addr} {oc34 kV34 dc34 pm34 cd34 ct34 : Value} {od34 an34 : Option Addr} {sl34 : Array (Option Value)}
    (a34 : PySem.W.nsIn K mainGlobals "_law_draw" = some (some (.ref f34)))
    (l34 : K.lookup f34 = some ⟨oc34, od34, .func (PySem.W.fnOf "_law_draw" "_law_draw" (defArgs sDraw) (defBody sDraw) (defScope sDraw) .none kV34 dc34 pm34 an34 cd34 ct34), sl34⟩)
    (c34 : PySem.W.codeIn K cd34 "_law_draw" = true) (k34 : PySem.W.keepIn K (.ref f34) = true)
    {f35 : Addr} {oc35 kV35 dc35 pm35 cd35 ct35 : Value} {od35 an35 : Option Addr} {sl35 : Array (Option Value)}
    (a35 : PySem.W.nsIn K mainGlobals "_law_pick" = some (some (.ref f35)))
    (l35 : K.lookup f35 = some ⟨oc35, od35, .func (PySem.W.fnOf "_law_pick" "_law_pick" (defArgs sPick) (defBody sPick) (defScope sPick) .none kV35 dc35 pm35 an35 cd35 ct35), sl35⟩)
    (c35 : PySem.W.codeIn K cd35 "_law_pick" = true) (k35 : PySem.W.keepIn K (.ref f35) = true)
    {f36 : Addr} {oc36 kV36 dc36 pm36 cd36 ct36 : Value} {od36 an36 : Option Addr} {sl36 : Array (Option Value)}
    (a36 : PySem.W.nsIn K mainGlobals "_law_gaps" = some (some (.ref f36)))
    (l36 : K.lookup f36 = some ⟨oc36, od36, .func (PySem.W.fnOf "_law_gaps" "_law_gaps" (defArgs sGaps) (defBody sGaps) (defScope sGaps) .none kV36 dc36 pm36 an36 cd36 ct36), sl36⟩)
    (c36 : PySem.W.codeIn K cd36 "_law_gaps" = true) (k36 : PySem.W.keepIn K (.ref f36) = true)
    {f37 : Addr} {oc37 kV37 dc37 pm37 cd37 ct37 : Value} {od37 an37 : Option Addr} {sl37 : Array (Option Value)}
    (a37 : PySem.W.nsIn K mainGlobals "_law_lock" = some (some (.ref f37)))
    (l37 : K.lookup f37 = some ⟨oc37, od37, .func (PySem.W.fnOf "_law_lock" "_law_lock" (defArgs sLock) (defBody sLock) (defScope sLock) .none kV37 dc37 pm37 an37 cd37 ct37), sl37⟩)
    (c37 : PySem.W.codeIn K cd37 "_law_lock" = true) (k37 : PySem.W.keepIn K (.ref f37) = true)
    {f38 : Addr} {oc38 kV38 dc38 pm38 cd38 ct38 : Value} {od38 an38 : Option Addr} {sl38 : Array (Option Value)}
    (a38 : PySem.W.nsIn K mainGlobals "_law_ways" = some (some (.ref f38)))
    (l38 : K.lookup f38 = some ⟨oc38, od38, .func (PySem.W.fnOf "_law_ways" "_law_ways" (defArgs sAllWays) (defBody sAllWays) (defScope sAllWays) .none kV38 dc38 pm38 an38 cd38 ct38), sl38⟩)
    (c38 : PySem.W.codeIn K cd38 "_law_ways" = true) (k38 : PySem.W.keepIn K (.ref f38) = true)
    {f39 : Addr} {oc39 kV39 dc39 pm39 cd39 ct39 : Value} {od39 an39 : Option Addr} {sl39 : Array (Option Value)}
    (a39 : PySem.W.nsIn K mainGlobals "_law_stand" = some (some (.ref f39)))
    (l39 : K.lookup f39 = some ⟨oc39, od39, .func (PySem.W.fnOf "_law_stand" "_law_stand" (defArgs sStand) (defBody sStand) (defScope sStand) .none kV39 dc39 pm39 an39 cd39 ct39), sl39⟩)
    (c39 : PySem.W.codeIn K cd39 "_law_stand" = true) (k39 : PySem.W.keepIn K (.ref f39) = true)
    {f40 : Addr} {oc40 kV40 dc40 pm40 cd40 ct40 : Value} {od40 an40 : Option Addr} {sl40 : Array (Option Value)}
    (a40 : PySem.W.nsIn K mainGlobals "_law_steps" = some (some (.ref f40)))
    (l40 : K.lookup f40 = some ⟨oc40, od40, .func (PySem.W.fnOf "_law_steps" "_law_steps" (defArgs sSteps) (defBody sSteps) (defScope sSteps) .none kV40 dc40 pm40 an40 cd40 ct40), sl40⟩)
    (c40 : PySem.W.codeIn K cd40 "_law_steps" = true) (k40 : PySem.W.keepIn K (.ref f40) = true)
    {f41 : Addr} {oc41 kV41 dc41 pm41 cd41 ct41 : Value} {od41 an41 : Option Addr} {sl41 : Array (Option Value)}
    (a41 : PySem.W.nsIn K mainGlobals "_law_after" = some (some (.ref f41)))
    (l41 : K.lookup f41 = some ⟨oc41, od41, .func (PySem.W.fnOf "_law_after" "_law_after" (defArgs sAfter) (defBody sAfter) (defScope sAfter) .none kV41 dc41 pm41 an41 cd41 ct41), sl41⟩)
    (c41 : PySem.W.codeIn K cd41 "_law_after" = true) (k41 : PySem.W.keepIn K (.ref f41) = true)
    {f42 : Addr} {oc42 kV42 dc42 pm42 cd42 ct42 : Value} {od42 an42 : Option Addr} {sl42 : Array (Option Value)}
    (a42 : PySem.W.nsIn K mainGlobals "_law_whole" = some (some (.ref f42)))
    (l42 : K.lookup f42 = some ⟨oc42, od42, .func (PySem.W.fnOf "_law_whole" "_law_whole" (defArgs sLWhole) (defBody sLWhole) (defScope sLWhole) .none kV42 dc42 pm42 an42 cd42 ct42), sl42⟩)
    (c42 : PySem.W.codeIn K cd42 "_law_whole" = true) (k42 : PySem.W.keepIn K (.ref f42) = true)
    {f43 : Addr} {oc43 kV43 dc43 pm43 cd43 ct43 : Value} {od43 an43 : Option Addr} {sl43 : Array (Option Value)}
    (a43 : PySem.W.nsIn K mainGlobals "_law_odd" = some (some (.ref f43)))
    (l43 : K.lookup f43 = some ⟨oc43, od43, .func (PySem.W.fnOf "_law_odd" "_law_odd" (defArgs sOdd) (defBody sOdd) (defScope sOdd) .none kV43 dc43 pm43 an43 cd43 ct43), sl43⟩)
    (c43 : PySem.W.codeIn K cd43 "_law_odd" = true) (k43 : PySem.W.keepIn K (.ref f43) = true)
    {f44 : Addr} {oc44 kV44 dc44 pm44 cd44 ct44 : Value} {od44 an44 : Option Addr} {sl44 : Array (Option Value)}
    (a44 : PySem.W.nsIn K mainGlobals "_law_walk" = some (some (.ref f44)))
    (l44 : K.lookup f44 = some ⟨oc44, od44, .func (PySem.W.fnOf "_law_walk" "_law_walk" (defArgs sLWalk) (defBody sLWalk) (defScope sLWalk) .none kV44 dc44 pm44 an44 cd44 ct44), sl44⟩)
    (c44 : PySem.W.codeIn K cd44 "_law_walk" = true) (k44 : PySem.W.keepIn K (.ref f44) = true)
    {f45 : Addr} {oc45 kV45 dc45 pm45 cd45 ct45 : Value} {od45 an45 : Option Addr} {sl45 : Array (Option Value)}
    (a45 : PySem.W.nsIn K mainGlobals "_law_walked" = some (some (.ref f45)))
    (l45 : K.lookup f45 = some ⟨oc45, od45, .func (PySem.W.fnOf "_law_walked" "_law_walked" (defArgs sLWalked) (defBody sLWalked) (defScope sLWalked) .none kV45 dc45 pm45 an45 cd45 ct45), sl45⟩)
    (c45 : PySem.W.codeIn K cd45 "_law_walked" = true) (k45 : PySem.W.keepIn K (.ref f45) = true)
    {f46 : Addr} {oc46 kV46 dc46 pm46 cd46 ct46 : Value} {od46 an46 : Option Addr} {sl46 : Array (Option Value)}
    (a46 : PySem.W.nsIn K mainGlobals "_law_rows" = some (some (.ref f46)))
    (l46 : K.lookup f46 = some ⟨oc46, od46, .func (PySem.W.fnOf "_law_rows" "_law_rows" (defArgs sRows) (defBody sRows) (defScope sRows) .none kV46 dc46 pm46 an46 cd46 ct46), sl46⟩)
    (c46 : PySem.W.codeIn K cd46 "_law_rows" = true) (k46 : PySem.W.keepIn K (.ref f46) = true)
    {f47 : Addr} {oc47 kV47 dc47 pm47 cd47 ct47 : Value} {od47 an47 : Option Addr} {sl47 : Array (Option Value)}
    (a47 : PySem.W.nsIn K mainGlobals "_law_spoilt" = some (some (.ref f47)))
    (l47 : K.lookup f47 = some ⟨oc47, od47, .func (PySem.W.fnOf "_law_spoilt" "_law_spoilt" (defArgs sSpoilt) (defBody sSpoilt) (defScope sSpoilt) .none kV47 dc47 pm47 an47 cd47 ct47), sl47⟩)
    (c47 : PySem.W.codeIn K cd47 "_law_spoilt" = true) (k47 : PySem.W.keepIn K (.ref f47) = true)
    {f48 : Addr} {oc48 kV48 dc48 pm48 cd48 ct48 : Value} {od48 an48 : Option Addr} {sl48 : Array (Option Value)}
    (a48 : PySem.W.nsIn K mainGlobals "law" = some (some (.ref f48)))
    (l48 : K.lookup f48 = some ⟨oc48, od48, .func (PySem.W.fnOf "law" "law" (defArgs sLaw) (defBody sLaw) (defScope sLaw) .none kV48 dc48 pm48 an48 cd48 ct48), sl48⟩)
    (c48 : PySem.W.codeIn K cd48 "law" = true) (k48 : PySem.W.keepIn K (.ref f48) = true)
    {t0 : Tok} (n0 : PySem.W.nsIn K mainGlobals "MOST_BOLTS" = some (some (.int 60 t0)))
    {t1 : Tok} (n1 : PySem.W.nsIn K mainGlobals "FEWEST_PLACES" = some (some (.int 2 t1)))
    {t2 : Tok} (n2 : PySem.W.nsIn K mainGlobals "MOST_PLACES" = some (some (.int 4 t2)))
    {t3 : Tok} (n3 : PySem.W.nsIn K mainGlobals "MOST_WAYS" = some (some (.int 8 t3)))
    {t4 : Tok} (n4 : PySem.W.nsIn K mainGlobals "MOST_WORDS" = some (some (.int 8 t4)))
    {t5 : Tok} (n5 : PySem.W.nsIn K mainGlobals "MOST_PRICE" = some (some (.int 1000000 t5)))
    (z0 : PySem.W.nsIn K mainGlobals "isinstance" = some none)
    (z1 : PySem.W.nsIn K mainGlobals "int" = some none)
    (z2 : PySem.W.nsIn K mainGlobals "bool" = some none)
    (z3 : PySem.W.nsIn K mainGlobals "tuple" = some none)
    (z4 : PySem.W.nsIn K mainGlobals "list" = some none)
    (z5 : PySem.W.nsIn K mainGlobals "len" = some none)
    (z6 : PySem.W.nsIn K mainGlobals "zip" = some none)
    (z7 : PySem.W.nsIn K mainGlobals "all" = some none)
    (z8 : PySem.W.nsIn K mainGlobals "range" = some none)
    (z9 : PySem.W.nsIn K mainGlobals "reversed" = some none)
    (z10 : PySem.W.nsIn K mainGlobals "enumerate" = some none)
    (z11 : PySem.W.nsIn K mainGlobals "sorted" = some none)
    (z12 : PySem.W.nsIn K mainGlobals "set" = some none)
    (z13 : PySem.W.nsIn K mainGlobals "abs" = some none)
    (z14 : PySem.W.nsIn K mainGlobals "repr" = some none)
    (z15 : PySem.W.nsIn K mainGlobals "ValueError" = some none)
    {CN BO : Addr} {nm q : Str} {NN : Addr} {bs : List Value} {sn : List Str} {sub : List Value} {ab : Bool} {col : Option Bool} {dd : Option Addr} {m0 m1 m2 m3 m5 : Option Value}
    (aC : PySem.W.nsIn K mainGlobals "NoStep" = some (some (.ref CN)))
    (xL : K.lookup CN = some (excClassObj nm q CN NN bs [.ref BO, .type "ValueError", .type "Exception", .type "BaseException", .type "object"] true sn sub ab col dd m0 m1 m2 m3 m5 "ValueError.__new__"))
    (sa : PySem.W.findIn K (.ref CN) "__setattr__" = some (some (.builtin "object.__setattr__"))) (ga : PySem.W.findIn K (.ref CN) "__getattribute__" = some (some (.builtin "BaseException.__getattribute__"))) (gg : PySem.W.findIn K (.ref CN) "__getattr__" = some none) (nb : PySem.W.findIn K (.ref CN) "nth" = some none)
    (kC : PySem.W.keepIn K (.ref CN) = true) (eC : PySem.W.subIn K (.ref CN) (.type "BaseException") = some true) (tC : PySem.W.typeIn K (.ref CN) = some (.type "type")) (hC : PySem.W.hasDictIn K CN = true) (cC : PySem.W.findIn K (.ref CN) "__class__" = some (some (.builtin "object.__class__")))
    (sG : PySem.W.specialIn K (.builtin "object.__class__") "__get__" = some (some (.builtin "getset_descriptor.__get__"))) (tG : PySem.W.takesIn K (.builtin "object.__class__") = some true) (mO : PySem.W.mroIn K CN (.type "object") = some true)
    {fm : Addr} {ocm kVm dcm pmm cdm ctm : Value} {odm anm : Option Addr} {slm : Array (Option Value)}
    (am : PySem.W.findIn K (.ref CN) "__init__" = some (some (.ref fm))) (tm : PySem.W.typeIn K (.ref fm) = some (.type "function"))
    (lm : K.lookup fm = some ⟨ocm, odm, .func (PySem.W.fnOf "__init__" "NoStep.__init__" (defArgs sNsInit) (defBody sNsInit) (defScope sNsInit) .none kVm dcm pmm anm cdm ctm), slm⟩) (cm : PySem.W.codeIn K cdm "NoStep.__init__" = true) (km : PySem.W.keepIn K (.ref fm) = true)
    {C1 C2 C3 C4 : Addr} (b1 : PySem.W.nsIn K mainGlobals "NoBook" = some (some (.ref C1))) (b2 : PySem.W.nsIn K mainGlobals "NoPlace" = some (some (.ref C2))) (b3 : PySem.W.nsIn K mainGlobals "NoStand" = some (some (.ref C3))) (b4 : PySem.W.nsIn K mainGlobals "NoWish" = some (some (.ref C4)))
    (q1 : PySem.W.kitOne K (.ref CN) (.ref C1) = some false) (q2 : PySem.W.kitOne K (.ref CN) (.ref C2) = some false) (q3 : PySem.W.kitOne K (.ref CN) (.ref C3) = some false) (q4 : PySem.W.kitOne K (.ref CN) (.ref C4) = some false)
    (qv : PySem.W.kitOne K (.ref CN) (.type "ValueError") = some true) (qe : PySem.W.exmOne K (.ref CN) (.ref CN) = some true) :
    ∃ fd : FuncData, (∀ (t : Shared) (u : Value), BindsTo t fd ⟨[u], []⟩ [("_law_script", u)]) ∧ ∀ bs : Heap, K.In bs → bs.Ns mainGlobals mg → FnG pr w K mg bs 10 fa fd ["_law_script"] (spLaw K) := by
  have e := hfa.symm.trans (PySem.W.mg_of X G a48)
  cases e
  have Fp1 := fun_mk (st := sWhole) lp1 cp1 kp1
  have Fp2 := fun_mk (st := sWholeIn) lp2 cp2 kp2
  have Fp3 := fun_mk (st := sTupOf) lp3 cp3 kp3
  have Fp4 := fun_mk (st := sPlaces) lp4 cp4 kp4
  have Fp10 := fun_mk (st := sWords) lp10 cp10 kp10
  have Fp11 := fun_mk (st := sMoves) lp11 cp11 kp11
  have Fp19 := fun_mk (st := sFault) lp19 cp19 kp19
  have Fp20 := fun_mk (st := sBolt) lp20 cp20 kp20
  have Fp21 := fun_mk (st := sGap) lp21 cp21 kp21
  have Fp22 := fun_mk (st := sWays) lp22 cp22 kp22
  have Fp23 := fun_mk (st := sManys) lp23 cp23 kp23
  have Fp24 := fun_mk (st := sNeedL) lp24 cp24 kp24
  have Fp25 := fun_mk (st := sNeedS) lp25 cp25 kp25
  have F30 := fun_mk (st := sWalked) l30 c30 k30
  have F31 := fun_mk (st := sPrice) l31 c31 k31
  have F33 := fun_mk (st := sPen) l33 c33 k33
  have F34 := fun_mk (st := sDraw) l34 c34 k34
  have F35 := fun_mk (st := sPick) l35 c35 k35
  have F36 := fun_mk (st := sGaps) l36 c36 k36
  have F37 := fun_mk (st := sLock) l37 c37 k37
  have F38 := fun_mk (st := sAllWays) l38 c38 k38
  have F39 := fun_mk (st := sStand) l39 c39 k39
  have F40 := fun_mk (st := sSteps) l40 c40 k40
  have F41 := fun_mk (st := sAfter) l41 c41 k41
  have F42 := fun_mk (st := sLWhole) l42 c42 k42
  have F43 := fun_mk (st := sOdd) l43 c43 k43
  have F44 := fun_mk (st := sLWalk) l44 c44 k44
  have F45 := fun_mk (st := sLWalked) l45 c45 k45
  have F46 := fun_mk (st := sRows) l46 c46 k46
  have F47 := fun_mk (st := sSpoilt) l47 c47 k47
  have F48 := fun_mk (st := sLaw) l48 c48 k48
  have Fm := fun_mk (st := sNsInit) lm cm km
  have bbp1 := Fp1.binds (ps := ["thing"]) fun _ _ _ _ _ _ us hl => match us, hl with | [_], _ => rfl
  have bbp2 := Fp2.binds (ps := ["thing", "low", "high"]) fun _ _ _ _ _ _ us hl => match us, hl with | [_, _, _], _ => rfl
  have bbp3 := Fp3.binds (ps := ["thing", "low", "high"]) fun _ _ _ _ _ _ us hl => match us, hl with | [_, _, _], _ => rfl
  have bbp4 := Fp4.binds (ps := ["thing", "manys"]) fun _ _ _ _ _ _ us hl => match us, hl with | [_, _], _ => rfl
  have bbp10 := Fp10.binds (ps := ["lock"]) fun _ _ _ _ _ _ us hl => match us, hl with | [_], _ => rfl
  have bbp11 := Fp11.binds (ps := ["lock"]) fun _ _ _ _ _ _ us hl => match us, hl with | [_], _ => rfl
  have bbp19 := Fp19.binds (ps := ["thing"]) fun _ _ _ _ _ _ us hl => match us, hl with | [_], _ => rfl
  have bbp20 := Fp20.binds (ps := ["thing", "below"]) fun _ _ _ _ _ _ us hl => match us, hl with | [_, _], _ => rfl
  have bbp21 := Fp21.binds (ps := ["thing", "many", "below"]) fun _ _ _ _ _ _ us hl => match us, hl with | [_, _, _], _ => rfl
  have bbp22 := Fp22.binds (ps := ["thing", "below"]) fun _ _ _ _ _ _ us hl => match us, hl with | [_, _], _ => rfl
  have bbp23 := Fp23.binds (ps := ["lock"]) fun _ _ _ _ _ _ us hl => match us, hl with | [_], _ => rfl
  have bbp24 := Fp24.binds (ps := ["lock"]) fun _ _ _ _ _ _ us hl => match us, hl with | [_], _ => rfl
  have bbp25 := Fp25.binds (ps := ["lock", "thing"]) fun _ _ _ _ _ _ us hl => match us, hl with | [_, _], _ => rfl
  have bb30 := F30.binds (ps := ["lock", "stand", "steps"]) fun _ _ _ _ _ _ us hl => match us, hl with | [_, _, _], _ => rfl
  have bb31 := F31.binds (ps := ["moves", "places", "step"]) fun _ _ _ _ _ _ us hl => match us, hl with | [_, _, _], _ => rfl
  have bb33 := F33.binds (ps := ["_law_script"]) fun _ _ _ _ _ _ us hl => match us, hl with | [_], _ => rfl
  have bb34 := F34.binds (ps := ["_law_pen_here", "_law_many"]) fun _ _ _ _ _ _ us hl => match us, hl with | [_, _], _ => rfl
  have bb35 := F35.binds (ps := ["_law_pen_here", "_law_some"]) fun _ _ _ _ _ _ us hl => match us, hl with | [_, _], _ => rfl
  have bb36 := F36.binds (ps := ["_law_pen_here", "_law_wide", "_law_words"]) fun _ _ _ _ _ _ us hl => match us, hl with | [_, _, _], _ => rfl
  have bb37 := F37.binds (ps := ["_law_pen_here", "_law_many", "_law_wide", "_law_more"]) fun _ _ _ _ _ _ us hl => match us, hl with | [_, _, _, _], _ => rfl
  have bb38 := F38.binds (ps := ["_law_lock_here"]) fun _ _ _ _ _ _ us hl => match us, hl with | [_], _ => rfl
  have bb39 := F39.binds (ps := ["_law_pen_here", "_law_lock_here"]) fun _ _ _ _ _ _ us hl => match us, hl with | [_, _], _ => rfl
  have bb40 := F40.binds (ps := ["_law_lock_here", "_law_stand_here"]) fun _ _ _ _ _ _ us hl => match us, hl with | [_, _], _ => rfl
  have bb41 := F41.binds (ps := ["_law_stand_here", "_law_k", "_law_there"]) fun _ _ _ _ _ _ us hl => match us, hl with | [_, _, _], _ => rfl
  have bb42 := F42.binds (ps := ["_law_thing", "_law_least_one", "_law_most_one"]) fun _ _ _ _ _ _ us hl => match us, hl with | [_, _, _], _ => rfl
  have bb43 := F43.binds (ps := ["_law_pen_here"]) fun _ _ _ _ _ _ us hl => match us, hl with | [_], _ => rfl
  have bb44 := F44.binds (ps := ["_law_lock_here", "_law_stand_here", "_law_things"]) fun _ _ _ _ _ _ us hl => match us, hl with | [_, _, _], _ => rfl
  have bb45 := F45.binds (ps := ["_law_lock_here", "_law_stand_here", "_law_things"]) fun _ _ _ _ _ _ us hl => match us, hl with | [_, _, _], _ => rfl
  have bb46 := F46.binds (ps := ["_law_pen_here", "_law_lock_here", "_law_stand_here"]) fun _ _ _ _ _ _ us hl => match us, hl with | [_, _, _], _ => rfl
  have bb47 := F47.binds (ps := ["_law_pen_here", "_law_lock_here", "_law_things"]) fun _ _ _ _ _ _ us hl => match us, hl with | [_, _, _], _ => rfl
  have bbm := Fm.binds (ps := ["self", "nth"]) fun _ _ _ _ _ _ us hl => match us, hl with | [_, _], _ => rfl
  have B : Bi mg := ⟨PySem.W.mg_none_of X G z0, PySem.W.mg_none_of X G z1, PySem.W.mg_none_of X G z2, PySem.W.mg_none_of X G z3, PySem.W.mg_none_of X G z4, PySem.W.mg_none_of X G z5, PySem.W.mg_none_of X G z6, PySem.W.mg_none_of X G z7, PySem.W.mg_none_of X G z8, PySem.W.mg_none_of X G z9, PySem.W.mg_none_of X G z10, PySem.W.mg_none_of X G z11, PySem.W.mg_none_of X G z12, PySem.W.mg_none_of X G z13, PySem.W.mg_none_of X G z14⟩
  have N : Nu mg := ⟨⟨_, PySem.W.mg_of X G n0⟩, ⟨_, PySem.W.mg_of X G n1⟩, ⟨_, PySem.W.mg_of X G n2⟩, ⟨_, PySem.W.mg_of X G n3⟩, ⟨_, PySem.W.mg_of X G n4⟩, ⟨_, PySem.W.mg_of X G n5⟩⟩
  have D : Pr K mg := ⟨_, _, Fp1, bbp1, PySem.W.mg_of X G ap1, _, _, Fp2, bbp2, PySem.W.mg_of X G ap2, _, _, Fp3, bbp3, PySem.W.mg_of X G ap3, _, _, Fp4, bbp4, PySem.W.mg_of X G ap4, _, _, Fp10, bbp10, PySem.W.mg_of X G ap10, _, _, Fp11, bbp11, PySem.W.mg_of X G ap11, _, _, Fp19, bbp19, PySem.W.mg_of X G ap19, _, _, Fp20, bbp20, PySem.W.mg_of X G ap20, _, _, Fp21, bbp21, PySem.W.mg_of X G ap21, _, _, Fp22, bbp22, PySem.W.mg_of X G ap22, _, _, Fp23, bbp23, PySem.W.mg_of X G ap23, _, _, Fp24, bbp24, PySem.W.mg_of X G ap24, _, _, Fp25, bbp25, PySem.W.mg_of X G ap25, B, N⟩
  have L : Ld K mg := ⟨_, _, F30, bb30, PySem.W.mg_of X G a30, _, _, F31, bb31, PySem.W.mg_of X G a31, _, _, F33, bb33, PySem.W.mg_of X G a33, _, _, F34, bb34, PySem.W.mg_of X G a34, _, _, F35, bb35, PySem.W.mg_of X G a35, _, _, F36, bb36, PySem.W.mg_of X G a36, _, _, F37, bb37, PySem.W.mg_of X G a37, _, _, F38, bb38, PySem.W.mg_of X G a38, _, _, F39, bb39, PySem.W.mg_of X G a39, _, _, F40, bb40, PySem.W.mg_of X G a40, _, _, F41, bb41, PySem.W.mg_of X G a41, _, _, F42, bb42, PySem.W.mg_of X G a42, _, _, F43, bb43, PySem.W.mg_of X G a43, _, _, F44, bb44, PySem.W.mg_of X G a44, _, _, F45, bb45, PySem.W.mg_of X G a45, _, _, F46, bb46, PySem.W.mg_of X G a46, _, _, F47, bb47, PySem.W.mg_of X G a47⟩
  have T : OexC K CN := ⟨⟨nm, q, NN, bs, _, sn, sub, ab, col, dd, m0, m1, m2, m3, m5, xL, by rfl⟩, sa, eC, tC, kC⟩
  exact ⟨_, fun t u => .of_eq rfl, fun bs _ _ => ok_law F48 D L ⟨CN, fm, _, PySem.W.mg_of X G aC, T, am, tm, nb, Fm, bbm⟩
    ⟨⟨ga, gg, eC, hC, cC, sG, tG, mO⟩, ⟨ga, gg, eC, hC⟩, C1, C2, C3, C4, PySem.W.mg_of X G b1, PySem.W.mg_of X G b2, PySem.W.mg_of X G b3, PySem.W.mg_of X G b4, q1, q2, q3, q4, qv, qe, PySem.W.mg_none_of X G z15⟩⟩
end Wb

set_option Elab.async false
set_option linter.all false
set_option maxRecDepth 100000
open PySem PySem.W PyProof.Rows
set_option maxHeartbeats 0 in
theorem PySem.Challenge.cw_waitbolts_k04_walked_holds : PySem.Challenge.rw_waitbolts_k04_walked.Holds := by
  w_on; o_law; k_head; (case hw => w_witness2)
  k_fill
  refine Wb.walk_top (l := PySem.Challenge.rw_waitbolts_k04_walked) (n := 63) (k := 10) (x := "_law_script") (sp := fun w => Wb.spLaw _) rfl (by decide) rfl ⟨rfl, by decide, by decide⟩ rfl (fun w h Y => PySem.W.kIn_of Y) ?F (fun w I a ns hS one => ⟨a, ns, rfl, hS, one, fun _ => rfl⟩) (by decide +kernel) ?k1
  case k1 => exact fun w => rfl
  case F =>
    intro w mg fa h KX G hmg
    refine' Wb.all_facts KX G hmg ?ap1 ?lp1 ?cp1 ?kp1 ?ap2 ?lp2 ?cp2 ?kp2 ?ap3 ?lp3 ?cp3 ?kp3 ?ap4 ?lp4 ?cp4 ?kp4 ?ap10 ?lp10 ?cp10 ?kp10 ?ap11 ?lp11 ?cp11 ?kp11 ?ap19 ?lp19 ?cp19 ?kp19 ?ap20 ?lp20 ?cp20 ?kp20 ?ap21 ?lp21 ?cp21 ?kp21 ?ap22 ?lp22 ?cp22 ?kp22 ?ap23 ?lp23 ?cp23 ?kp23 ?ap24 ?lp24 ?cp24 ?kp24 ?ap25 ?lp25 ?cp25 ?kp25 ?a30 ?l30 ?c30 ?k30 ?a31 ?l31 ?c31 ?k31 ?a33 ?l33 ?c33 ?k33 ?a34 ?l34 ?c34 ?k34 ?a35 ?l35 ?c35 ?k35 ?a36 ?l36 ?c36 ?k36 ?a37 ?l37 ?c37 ?k37 ?a38 ?l38 ?c38 ?k38 ?a39 ?l39 ?c39 ?k39 ?a40 ?l40 ?c40 ?k40 ?a41 ?l41 ?c41 ?k41 ?a42 ?l42 ?c42 ?k42 ?a43 ?l43 ?c43 ?k43 ?a44 ?l44 ?c44 ?k44 ?a45 ?l45 ?c45 ?k45 ?a46 ?l46 ?c46 ?k46 ?a47 ?l47 ?c47 ?k47 ?a48 ?l48 ?c48 ?k48 ?n0 ?n1 ?n2 ?n3 ?n4 ?n5 ?z0 ?z1 ?z2 ?z3 ?z4 ?z5 ?z6 ?z7 ?z8 ?z9 ?z10 ?z11 ?z12 ?z13 ?z14 ?z15 ?aC ?xL ?sa ?ga ?gg ?nb ?kC ?eC ?tC ?hC ?cC ?sG ?tG ?mO ?am ?tm ?lm ?cm ?km ?b1 ?b2 ?b3 ?b4 ?q1 ?q2 ?q3 ?q4 ?qv ?qe
    (case ap1 => first | k_is | rfl)
    (case lp1 => first | k_is | rfl)
    (case cp1 => first | k_is | rfl)
    (case kp1 => first | k_is | rfl)
    (case ap2 => first | k_is | rfl)
    (case lp2 => first | k_is | rfl)
    (case cp2 => first | k_is | rfl)
    (case kp2 => first | k_is | rfl)
    (case ap3 => first | k_is | rfl)
    (case lp3 => first | k_is | rfl)
    (case cp3 => first | k_is | rfl)
    (case kp3 => first | k_is | rfl)
    (case ap4 => first | k_is | rfl)
    (case lp4 => first | k_is | rfl)
    (case cp4 => first | k_is | rfl)
    (case kp4 => first | k_is | rfl)
    (case ap10 => first | k_is | rfl)
    (case lp10 => first | k_is | rfl)
    (case cp10 => first | k_is | rfl)
    (case kp10 => first | k_is | rfl)
    (case ap11 => first | k_is | rfl)
    (case lp11 => first | k_is | rfl)
    (case cp11 => first | k_is | rfl)
    (case kp11 => first | k_is | rfl)
    (case ap19 => first | k_is | rfl)
    (case lp19 => first | k_is | rfl)
    (case cp19 => first | k_is | rfl)
    (case kp19 => first | k_is | rfl)
    (case ap20 => first | k_is | rfl)
    (case lp20 => first | k_is | rfl)
    (case cp20 => first | k_is | rfl)
    (case kp20 => first | k_is | rfl)
    (case ap21 => first | k_is | rfl)
    (case lp21 => first | k_is | rfl)
    (case cp21 => first | k_is | rfl)
    (case kp21 => first | k_is | rfl)
    (case ap22 => first | k_is | rfl)
    (case lp22 => first | k_is | rfl)
    (case cp22 => first | k_is | rfl)
    (case kp22 => first | k_is | rfl)
    (case ap23 => first | k_is | rfl)
    (case lp23 => first | k_is | rfl)
    (case cp23 => first | k_is | rfl)
    (case kp23 => first | k_is | rfl)
    (case ap24 => first | k_is | rfl)
    (case lp24 => first | k_is | rfl)
    (case cp24 => first | k_is | rfl)
    (case kp24 => first | k_is | rfl)
    (case ap25 => first | k_is | rfl)
    (case lp25 => first | k_is | rfl)
    (case cp25 => first | k_is | rfl)
    (case kp25 => first | k_is | rfl)
    (case a30 => first | k_is | rfl)
    (case l30 => first | k_is | rfl)
    (case c30 => first | k_is | rfl)
    (case k30 => first | k_is | rfl)
    (case a31 => first | k_is | rfl)
    (case l31 => first | k_is | rfl)
    (case c31 => first | k_is | rfl)
    (case k31 => first | k_is | rfl)
    (case a33 => first | k_is | rfl)
    (case l33 => first | k_is | rfl)
    (case c33 => first | k_is | rfl)
    (case k33 => first | k_is | rfl)
    (case a34 => first | k_is | rfl)
    (case l34 => first | k_is | rfl)
    (case c34 => first | k_is | rfl)
    (case k34 => first | k_is | rfl)
    (case a35 => first | k_is | rfl)
    (case l35 => first | k_is | rfl)
    (case c35 => first | k_is | rfl)
    (case k35 => first | k_is | rfl)
    (case a36 => first | k_is | rfl)
    (case l36 => first | k_is | rfl)
    (case c36 => first | k_is | rfl)
    (case k36 => first | k_is | rfl)
    (case a37 => first | k_is | rfl)
    (case l37 => first | k_is | rfl)
    (case c37 => first | k_is | rfl)
    (case k37 => first | k_is | rfl)
    (case a38 => first | k_is | rfl)
    (case l38 => first | k_is | rfl)
    (case c38 => first | k_is | rfl)
    (case k38 => first | k_is | rfl)
    (case a39 => first | k_is | rfl)
    (case l39 => first | k_is | rfl)
    (case c39 => first | k_is | rfl)
    (case k39 => first | k_is | rfl)
    (case a40 => first | k_is | rfl)
    (case l40 => first | k_is | rfl)
    (case c40 => first | k_is | rfl)
    (case k40 => first | k_is | rfl)
    (case a41 => first | k_is | rfl)
    (case l41 => first | k_is | rfl)
    (case c41 => first | k_is | rfl)
    (case k41 => first | k_is | rfl)
    (case a42 => first | k_is | rfl)
    (case l42 => first | k_is | rfl)
    (case c42 => first | k_is | rfl)
    (case k42 => first | k_is | rfl)
    (case a43 => first | k_is | rfl)
    (case l43 => first | k_is | rfl)
    (case c43 => first | k_is | rfl)
    (case k43 => first | k_is | rfl)
    (case a44 => first | k_is | rfl)
    (case l44 => first | k_is | rfl)
    (case c44 => first | k_is | rfl)
    (case k44 => first | k_is | rfl)
    (case a45 => first | k_is | rfl)
    (case l45 => first | k_is | rfl)
    (case c45 => first | k_is | rfl)
    (case k45 => first | k_is | rfl)
    (case a46 => first | k_is | rfl)
    (case l46 => first | k_is | rfl)
    (case c46 => first | k_is | rfl)
    (case k46 => first | k_is | rfl)
    (case a47 => first | k_is | rfl)
    (case l47 => first | k_is | rfl)
    (case c47 => first | k_is | rfl)
    (case k47 => first | k_is | rfl)
    (case a48 => first | k_is | rfl)
    (case l48 => first | k_is | rfl)
    (case c48 => first | k_is | rfl)
    (case k48 => first | k_is | rfl)
    (case n0 => first | k_is | rfl)
    (case n1 => first | k_is | rfl)
    (case n2 => first | k_is | rfl)
    (case n3 => first | k_is | rfl)
    (case n4 => first | k_is | rfl)
    (case n5 => first | k_is | rfl)
    (case z0 => first | k_is | rfl)
    (case z1 => first | k_is | rfl)
    (case z2 => first | k_is | rfl)
    (case z3 => first | k_is | rfl)
    (case z4 => first | k_is | rfl)
    (case z5 => first | k_is | rfl)
    (case z6 => first | k_is | rfl)
    (case z7 => first | k_is | rfl)
    (case z8 => first | k_is | rfl)
    (case z9 => first | k_is | rfl)
    (case z10 => first | k_is | rfl)
    (case z11 => first | k_is | rfl)
    (case z12 => first | k_is | rfl)
    (case z13 => first | k_is | rfl)
    (case z14 => first | k_is | rfl)
    (case z15 => first | k_is | rfl)
    (case aC => first | k_is | rfl)
    (case xL => first | k_is | rfl)
    (case sa => first | k_is | rfl)
    (case ga => first | k_is | rfl)
    (case gg => first | k_is | rfl)
    (case nb => first | k_is | rfl)
    (case kC => first | k_is | rfl)
    (case eC => first | k_is | rfl)
    (case tC => first | k_is | rfl)
    (case hC => first | k_is | rfl)
    (case cC => first | k_is | rfl)
    (case sG => first | k_is | rfl)
    (case tG => first | k_is | rfl)
    (case mO => first | k_is | rfl)
    (case am => first | k_is | rfl)
    (case tm => first | k_is | rfl)
    (case lm => first | k_is | rfl)
    (case cm => first | k_is | rfl)
    (case km => first | k_is | rfl)
    (case b1 => first | k_is | rfl)
    (case b2 => first | k_is | rfl)
    (case b3 => first | k_is | rfl)
    (case b4 => first | k_is | rfl)
    (case q1 => first | k_is | rfl)
    (case q2 => first | k_is | rfl)
    (case q3 => first | k_is | rfl)
    (case q4 => first | k_is | rfl)
    (case qv => first | k_is | rfl)
    (case qe => first | k_is | rfl)

