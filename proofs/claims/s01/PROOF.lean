import PyProof.Rows.All
import VacolkSpec
import Wide.All
import OpenK.AllK
import Wide.FinOn
import PyProof.EqAt
import PyProof.EqKinds
import PyProof.TupleCall
import KE.BitLaws
import PyProof.ExcBaseAll.Exception
import PySem.Challenge.RW_growingschemas_s01_answers
import PyProof.DictFindH
import PyProof.InstStoreFacts
import PyProof.ExcInit
import PyProof.ExcAttrAll.Exception
import PyProof.RulesAs
import PyProof.Rows.SetFrom
import KE.OsGo
import Open.SpecLaws
import Open.Tops
set_option compiler.extract_closed false
set_option compiler.reuse false
section
set_option Elab.async false
open PySem PySem.W PyProof.Rows
set_option maxRecDepth 100000
set_option maxHeartbeats 0
local macro_rules|`(#where)=>do
 let l:=[(`gsHead,730),(`gsTop,415)].flatMap λ(p,n)=>(List.range n).map λi=>"te"++toString (Lean.Name.str p s!"o_{i}").hash
 return Lean.mkNullNode (← (l++[10296291170165834949,1058177982099643739,11100770812751023646,12111863842479335724,12460500678753550078,12497910349231335158,12523888256161493427,13091992559543856607,13285681024579544836,13544053572043275677,13658680113924969045,13969055378896867933,14671649344464842393,15719010427935569297,16221534003731816279,16497713528050327052,16865471665003893634,17540430894781367505,17549307709200665228,17572607586204609285,17590307358389158416,17994461123155903493,18023374944246249650,18153948128861242585,18228692319009509484,18387878442015897145,18419601037316791084,1930508386154824931,2405491318258758684,2897825474347357433,3149525334759571124,3471698162657957425,3898113450091020140,4146356259819529117,4634399855959165308,464804284357304390,4839281795888861454,5163829718656062571,5565846435330396687,583881555620326629,6345318138671705183,6657213736518523058,6701740449724948052,6843087077703477483,7111828646747519879,7257739404861046912,8024590320653059611,8168607142411704207,8221941955962205644,8358961367776069682,8446759213909069101,9161145194632988111,9449222377028372665,9688011325109225756].map λn=>"tw"++toString (n:Nat)).toArray.mapM λs=>return (← `(theorem $(Lean.mkIdent (.str `PySem.W.Fast s)):ident :True:=⟨⟩)).raw)
#where
open_shared gsTop for PySem.Challenge.pw_growingschemas_s01_answers leaving 100
local macro_rules | `(tactic| o_law) => `(tactic| skip)
local macro_rules | `(tactic| k_head) => `(tactic| k_headS)
local macro_rules | `(tactic| w_witness2) => `(tactic| exact ⟨[.list [.int 3]], by decide +kernel, by decide +kernel⟩)
open_top gsHead for PySem.Challenge.rw_growingschemas_s01_answers
end
section
set_option Elab.async false
set_option linter.all false
set_option maxRecDepth 100000
set_option maxHeartbeats 0
set_option genSizeOf false
set_option genInjectivity false
set_option bootstrap.genMatcherCode false
section
variable {P:Prop}
theorem Tw0.e2 {p q:Prop} (e:p/\q) (k:p->q->P):P:=k e.1 e.2
theorem Tw0.e3 {p q r:Prop} (e:p/\q/\r) (k:p->q->r->P):P:=k e.1 e.2.1 e.2.2
theorem Tw0.e4 {p q r s:Prop} (e:p/\q/\r/\s) (k:p->q->r->s->P):P:=k e.1 e.2.1 e.2.2.1 e.2.2.2
theorem Tw0.e5 {p q r s t:Prop} (e:p/\q/\r/\s/\t) (k:p->q->r->s->t->P):P:=k e.1 e.2.1 e.2.2.1 e.2.2.2.1 e.2.2.2.2
theorem Tw0.e6 {p q r s t u:Prop} (e:p/\q/\r/\s/\t/\u) (k:p->q->r->s->t->u->P):P:=k e.1 e.2.1 e.2.2.1 e.2.2.2.1 e.2.2.2.2.1 e.2.2.2.2.2
theorem Tw0.e7 {p q r s t u v:Prop} (e:p/\q/\r/\s/\t/\u/\v) (k:p->q->r->s->t->u->v->P):P:=k e.1 e.2.1 e.2.2.1 e.2.2.2.1 e.2.2.2.2.1 e.2.2.2.2.2.1 e.2.2.2.2.2.2
theorem Tw1.e2 {p:A->Prop} (e:∃a,p a) (k:∀a,p a->P):P:=e.elim λ a e=>k a e
theorem Tw1.e3 {p q:A->Prop} (e:∃a,p a/\q a) (k:∀a,p a->q a->P):P:=e.elim λ a e=>k a e.1 e.2
theorem Tw1.e4 {p q r:A->Prop} (e:∃a,p a/\q a/\r a) (k:∀a,p a->q a->r a->P):P:=e.elim λ a e=>k a e.1 e.2.1 e.2.2
theorem Tw1.e5 {p q r s:A->Prop} (e:∃a,p a/\q a/\r a/\s a) (k:∀a,p a->q a->r a->s a->P):P:=e.elim λ a e=>k a e.1 e.2.1 e.2.2.1 e.2.2.2
theorem Tw1.e6 {p q r s t:A->Prop} (e:∃a,p a/\q a/\r a/\s a/\t a) (k:∀a,p a->q a->r a->s a->t a->P):P:=e.elim λ a e=>k a e.1 e.2.1 e.2.2.1 e.2.2.2.1 e.2.2.2.2
theorem Tw2.e3 {p:A->B->Prop} (e:∃a b,p a b) (k:∀a b,p a b->P):P:=e.elim λ a e=>e.elim λ b e=>k a b e
theorem Tw2.e4 {p q:A->B->Prop} (e:∃a b,p a b/\q a b) (k:∀a b,p a b->q a b->P):P:=e.elim λ a e=>e.elim λ b e=>k a b e.1 e.2
theorem Tw2.e5 {p q r:A->B->Prop} (e:∃a b,p a b/\q a b/\r a b) (k:∀a b,p a b->q a b->r a b->P):P:=e.elim λ a e=>e.elim λ b e=>k a b e.1 e.2.1 e.2.2
theorem Tw2.e6 {p q r s:A->B->Prop} (e:∃a b,p a b/\q a b/\r a b/\s a b) (k:∀a b,p a b->q a b->r a b->s a b->P):P:=e.elim λ a e=>e.elim λ b e=>k a b e.1 e.2.1 e.2.2.1 e.2.2.2
theorem Tw2.e7 {p q r s t:A->B->Prop} (e:∃a b,p a b/\q a b/\r a b/\s a b/\t a b) (k:∀a b,p a b->q a b->r a b->s a b->t a b->P):P:=e.elim λ a e=>e.elim λ b e=>k a b e.1 e.2.1 e.2.2.1 e.2.2.2.1 e.2.2.2.2
theorem Tw2.e8 {p q r s t u:A->B->Prop} (e:∃a b,p a b/\q a b/\r a b/\s a b/\t a b/\u a b) (k:∀a b,p a b->q a b->r a b->s a b->t a b->u a b->P):P:=e.elim λ a e=>e.elim λ b e=>k a b e.1 e.2.1 e.2.2.1 e.2.2.2.1 e.2.2.2.2.1 e.2.2.2.2.2
theorem Tw2.e9 {p q r s t u v:A->B->Prop} (e:∃a b,p a b/\q a b/\r a b/\s a b/\t a b/\u a b/\v a b) (k:∀a b,p a b->q a b->r a b->s a b->t a b->u a b->v a b->P):P:=e.elim λ a e=>e.elim λ b e=>k a b e.1 e.2.1 e.2.2.1 e.2.2.2.1 e.2.2.2.2.1 e.2.2.2.2.2.1 e.2.2.2.2.2.2
theorem Tw3.e10 {p q r s t u v:A->B->C->Prop} (e:∃a b c,p a b c/\q a b c/\r a b c/\s a b c/\t a b c/\u a b c/\v a b c) (k:∀a b c,p a b c->q a b c->r a b c->s a b c->t a b c->u a b c->v a b c->P):P:=e.elim λ a e=>e.elim λ b e=>e.elim λ c e=>k a b c e.1 e.2.1 e.2.2.1 e.2.2.2.1 e.2.2.2.2.1 e.2.2.2.2.2.1 e.2.2.2.2.2.2
theorem Tw3.e11 {p q r s t u v w:A->B->C->Prop} (e:∃a b c,p a b c/\q a b c/\r a b c/\s a b c/\t a b c/\u a b c/\v a b c/\w a b c) (k:∀a b c,p a b c->q a b c->r a b c->s a b c->t a b c->u a b c->v a b c->w a b c->P):P:=e.elim λ a e=>e.elim λ b e=>e.elim λ c e=>k a b c e.1 e.2.1 e.2.2.1 e.2.2.2.1 e.2.2.2.2.1 e.2.2.2.2.2.1 e.2.2.2.2.2.2.1 e.2.2.2.2.2.2.2
theorem Tw3.e4 {p:A->B->C->Prop} (e:∃a b c,p a b c) (k:∀a b c,p a b c->P):P:=e.elim λ a e=>e.elim λ b e=>e.elim λ c e=>k a b c e
theorem Tw3.e5 {p q:A->B->C->Prop} (e:∃a b c,p a b c/\q a b c) (k:∀a b c,p a b c->q a b c->P):P:=e.elim λ a e=>e.elim λ b e=>e.elim λ c e=>k a b c e.1 e.2
theorem Tw3.e6 {p q r:A->B->C->Prop} (e:∃a b c,p a b c/\q a b c/\r a b c) (k:∀a b c,p a b c->q a b c->r a b c->P):P:=e.elim λ a e=>e.elim λ b e=>e.elim λ c e=>k a b c e.1 e.2.1 e.2.2
theorem Tw3.e7 {p q r s:A->B->C->Prop} (e:∃a b c,p a b c/\q a b c/\r a b c/\s a b c) (k:∀a b c,p a b c->q a b c->r a b c->s a b c->P):P:=e.elim λ a e=>e.elim λ b e=>e.elim λ c e=>k a b c e.1 e.2.1 e.2.2.1 e.2.2.2
theorem Tw3.e8 {p q r s t:A->B->C->Prop} (e:∃a b c,p a b c/\q a b c/\r a b c/\s a b c/\t a b c) (k:∀a b c,p a b c->q a b c->r a b c->s a b c->t a b c->P):P:=e.elim λ a e=>e.elim λ b e=>e.elim λ c e=>k a b c e.1 e.2.1 e.2.2.1 e.2.2.2.1 e.2.2.2.2
theorem Tw3.e9 {p q r s t u:A->B->C->Prop} (e:∃a b c,p a b c/\q a b c/\r a b c/\s a b c/\t a b c/\u a b c) (k:∀a b c,p a b c->q a b c->r a b c->s a b c->t a b c->u a b c->P):P:=e.elim λ a e=>e.elim λ b e=>e.elim λ c e=>k a b c e.1 e.2.1 e.2.2.1 e.2.2.2.1 e.2.2.2.2.1 e.2.2.2.2.2
theorem Tw4.e10 {p q r s t u:A->B->C->D->Prop} (e:∃a b c d,p a b c d/\q a b c d/\r a b c d/\s a b c d/\t a b c d/\u a b c d) (k:∀a b c d,p a b c d->q a b c d->r a b c d->s a b c d->t a b c d->u a b c d->P):P:=e.elim λ a e=>e.elim λ b e=>e.elim λ c e=>e.elim λ d e=>k a b c d e.1 e.2.1 e.2.2.1 e.2.2.2.1 e.2.2.2.2.1 e.2.2.2.2.2
theorem Tw4.e11 {p q r s t u v:A->B->C->D->Prop} (e:∃a b c d,p a b c d/\q a b c d/\r a b c d/\s a b c d/\t a b c d/\u a b c d/\v a b c d) (k:∀a b c d,p a b c d->q a b c d->r a b c d->s a b c d->t a b c d->u a b c d->v a b c d->P):P:=e.elim λ a e=>e.elim λ b e=>e.elim λ c e=>e.elim λ d e=>k a b c d e.1 e.2.1 e.2.2.1 e.2.2.2.1 e.2.2.2.2.1 e.2.2.2.2.2.1 e.2.2.2.2.2.2
theorem Tw4.e12 {p q r s t u v w:A->B->C->D->Prop} (e:∃a b c d,p a b c d/\q a b c d/\r a b c d/\s a b c d/\t a b c d/\u a b c d/\v a b c d/\w a b c d) (k:∀a b c d,p a b c d->q a b c d->r a b c d->s a b c d->t a b c d->u a b c d->v a b c d->w a b c d->P):P:=e.elim λ a e=>e.elim λ b e=>e.elim λ c e=>e.elim λ d e=>k a b c d e.1 e.2.1 e.2.2.1 e.2.2.2.1 e.2.2.2.2.1 e.2.2.2.2.2.1 e.2.2.2.2.2.2.1 e.2.2.2.2.2.2.2
theorem Tw4.e5 {p:A->B->C->D->Prop} (e:∃a b c d,p a b c d) (k:∀a b c d,p a b c d->P):P:=e.elim λ a e=>e.elim λ b e=>e.elim λ c e=>e.elim λ d e=>k a b c d e
theorem Tw4.e6 {p q:A->B->C->D->Prop} (e:∃a b c d,p a b c d/\q a b c d) (k:∀a b c d,p a b c d->q a b c d->P):P:=e.elim λ a e=>e.elim λ b e=>e.elim λ c e=>e.elim λ d e=>k a b c d e.1 e.2
theorem Tw4.e7 {p q r:A->B->C->D->Prop} (e:∃a b c d,p a b c d/\q a b c d/\r a b c d) (k:∀a b c d,p a b c d->q a b c d->r a b c d->P):P:=e.elim λ a e=>e.elim λ b e=>e.elim λ c e=>e.elim λ d e=>k a b c d e.1 e.2.1 e.2.2
theorem Tw4.e8 {p q r s:A->B->C->D->Prop} (e:∃a b c d,p a b c d/\q a b c d/\r a b c d/\s a b c d) (k:∀a b c d,p a b c d->q a b c d->r a b c d->s a b c d->P):P:=e.elim λ a e=>e.elim λ b e=>e.elim λ c e=>e.elim λ d e=>k a b c d e.1 e.2.1 e.2.2.1 e.2.2.2
theorem Tw4.e9 {p q r s t:A->B->C->D->Prop} (e:∃a b c d,p a b c d/\q a b c d/\r a b c d/\s a b c d/\t a b c d) (k:∀a b c d,p a b c d->q a b c d->r a b c d->s a b c d->t a b c d->P):P:=e.elim λ a e=>e.elim λ b e=>e.elim λ c e=>e.elim λ d e=>k a b c d e.1 e.2.1 e.2.2.1 e.2.2.2.1 e.2.2.2.2
theorem Tw5.e10 {p q r s t:A->B->C->D->F->Prop} (e:∃a b c d f,p a b c d f/\q a b c d f/\r a b c d f/\s a b c d f/\t a b c d f) (k:∀a b c d f,p a b c d f->q a b c d f->r a b c d f->s a b c d f->t a b c d f->P):P:=e.elim λ a e=>e.elim λ b e=>e.elim λ c e=>e.elim λ d e=>e.elim λ f e=>k a b c d f e.1 e.2.1 e.2.2.1 e.2.2.2.1 e.2.2.2.2
theorem Tw5.e11 {p q r s t u:A->B->C->D->F->Prop} (e:∃a b c d f,p a b c d f/\q a b c d f/\r a b c d f/\s a b c d f/\t a b c d f/\u a b c d f) (k:∀a b c d f,p a b c d f->q a b c d f->r a b c d f->s a b c d f->t a b c d f->u a b c d f->P):P:=e.elim λ a e=>e.elim λ b e=>e.elim λ c e=>e.elim λ d e=>e.elim λ f e=>k a b c d f e.1 e.2.1 e.2.2.1 e.2.2.2.1 e.2.2.2.2.1 e.2.2.2.2.2
theorem Tw5.e12 {p q r s t u v:A->B->C->D->F->Prop} (e:∃a b c d f,p a b c d f/\q a b c d f/\r a b c d f/\s a b c d f/\t a b c d f/\u a b c d f/\v a b c d f) (k:∀a b c d f,p a b c d f->q a b c d f->r a b c d f->s a b c d f->t a b c d f->u a b c d f->v a b c d f->P):P:=e.elim λ a e=>e.elim λ b e=>e.elim λ c e=>e.elim λ d e=>e.elim λ f e=>k a b c d f e.1 e.2.1 e.2.2.1 e.2.2.2.1 e.2.2.2.2.1 e.2.2.2.2.2.1 e.2.2.2.2.2.2
theorem Tw5.e7 {p q:A->B->C->D->F->Prop} (e:∃a b c d f,p a b c d f/\q a b c d f) (k:∀a b c d f,p a b c d f->q a b c d f->P):P:=e.elim λ a e=>e.elim λ b e=>e.elim λ c e=>e.elim λ d e=>e.elim λ f e=>k a b c d f e.1 e.2
theorem Tw5.e8 {p q r:A->B->C->D->F->Prop} (e:∃a b c d f,p a b c d f/\q a b c d f/\r a b c d f) (k:∀a b c d f,p a b c d f->q a b c d f->r a b c d f->P):P:=e.elim λ a e=>e.elim λ b e=>e.elim λ c e=>e.elim λ d e=>e.elim λ f e=>k a b c d f e.1 e.2.1 e.2.2
theorem Tw6.e12 {p q r s t u:A->B->C->D->F->G->Prop} (e:∃a b c d f g,p a b c d f g/\q a b c d f g/\r a b c d f g/\s a b c d f g/\t a b c d f g/\u a b c d f g) (k:∀a b c d f g,p a b c d f g->q a b c d f g->r a b c d f g->s a b c d f g->t a b c d f g->u a b c d f g->P):P:=e.elim λ a e=>e.elim λ b e=>e.elim λ c e=>e.elim λ d e=>e.elim λ f e=>e.elim λ g e=>k a b c d f g e.1 e.2.1 e.2.2.1 e.2.2.2.1 e.2.2.2.2.1 e.2.2.2.2.2
theorem Tw6.e7 {p:A->B->C->D->F->G->Prop} (e:∃a b c d f g,p a b c d f g) (k:∀a b c d f g,p a b c d f g->P):P:=e.elim λ a e=>e.elim λ b e=>e.elim λ c e=>e.elim λ d e=>e.elim λ f e=>e.elim λ g e=>k a b c d f g e
theorem Tw6.e9 {p q r:A->B->C->D->F->G->Prop} (e:∃a b c d f g,p a b c d f g/\q a b c d f g/\r a b c d f g) (k:∀a b c d f g,p a b c d f g->q a b c d f g->r a b c d f g->P):P:=e.elim λ a e=>e.elim λ b e=>e.elim λ c e=>e.elim λ d e=>e.elim λ f e=>e.elim λ g e=>k a b c d f g e.1 e.2.1 e.2.2
end
def Tw.l {A : Type} (f : Nat → A → Lean.MacroM A) : Nat → A → Lean.MacroM A
  | 0, r => pure r
  | n + 1, r => do f n (← Tw.l f n r)
def Tw.o (p : Lean.TSyntax `Lean.Parser.Tactic.rcasesPatMed) (e : Lean.TSyntax `term) : Lean.MacroM (Lean.TSyntax `tactic) := do
  let d ← `(tactic| rcases $e:term with $p:rcasesPatMed)
  let t := p.raw[0][0]
  let a := t[1].getArgs
  let k := (a.size + 1) / 2
  if p.raw[0].getArgs.size != 1 || t.getKind != ``Lean.Parser.Tactic.rcasesPat.tuple || k < 3 then return d
  let med (q : Array Lean.Syntax) : Lean.TSyntax `Lean.Parser.Tactic.rcasesPatMed := ⟨Lean.mkNode ``Lean.Parser.Tactic.rcasesPatMed #[Lean.mkNullNode q]⟩
  let hr := Lean.mkIdent `h'r
  let one (i : Nat) : Bool := let q := a[2 * i]![0][0]; q.getArgs.size == 1 && q[0].getKind == ``Lean.Parser.Tactic.rcasesPat.one && q[0][0].isIdent && q[0][0].getId != `rfl
  let id (i : Nat) : Lean.Ident := if one i then ⟨a[2 * i]![0][0][0][0]⟩ else Lean.mkIdent (Lean.Name.mkSimple s!"h'{i}")
  let c ← if e.raw.isIdent then `(tactic| try clear $e:term) else `(tactic| skip)
  let all ← Tw.l (fun x r => do
    let j := k - x / 7
    let m := x % 7
    if m ≥ j || j > 12 || j > m + 10 then return r
    let n := if j == k then k else j - 1
    let rest ← if j == k then `(tactic| skip) else `(tactic| obtain $(med #[Lean.mkNode t.getKind #[t[0], Lean.mkNullNode (a.extract (2 * n) a.size), t[2]]]):rcasesPatMed := $hr:ident)
    let post ← Tw.l (fun i r => if one i then return r else `(tactic| ($r:tactic <;> rcases $(id i):ident with $(med a[2 * i]![0][0].getArgs):rcasesPatMed))) n rest
    let its ← Tw.l (fun i r => return r.push (id i)) n #[]
    let its := if j == k then its else its.push hr
    return r.push (← `(tacticSeq| refine $(Lean.mkCIdent (Lean.Name.mkStr2 s!"Tw{m}" s!"e{j}")) $e ?_; $c:tactic; intro $its:ident*; $post:tactic))) (7 * (k - 1)) #[]
  let l ← `(tacticSeq| $d:tactic)
  `(tactic| first $[| $(all.push l)]*)
local macro_rules | `(tactic| obtain $p:rcasesPatMed := $e:term) => Tw.o p e
local macro_rules
  | `(tactic| rintro $[$ps:rintroPat]*) => do
    let isT (i : Nat) : Bool := let p := ps[i]!.raw; p.getKind == ``Lean.Parser.Tactic.rintroPat.one && p[0].getKind == ``Lean.Parser.Tactic.rcasesPat.tuple && p[0][1].getArgs.size > 4
    if !(← Tw.l (fun i b => return b || isT i) ps.size false) then Lean.Macro.throwUnsupported
    let h := Lean.mkIdent `h'q
    let r : Lean.TSyntax `tactic ← Tw.l (fun i t => if isT i then `(tactic| ($t:tactic <;> intro $h:ident <;> obtain $(⟨Lean.mkNode ``Lean.Parser.Tactic.rcasesPatMed #[Lean.mkNullNode #[ps[i]!.raw[0]]]⟩):rcasesPatMed := $h:ident)) else `(tactic| ($t:tactic <;> rintro $(ps[i]!):rintroPat))) ps.size (← `(tactic| skip))
    return r
theorem Z.G {a:α}:a=a:=rfl
def Tw.p:Nat→Lean.Syntax→Lean.MacroM Lean.Syntax
 |0,x=>return x
 |n+1,x=>do
  let m(k y):Lean.Syntax:=(Lean.mkNode k y).raw
  if x.getKind == `«term#[_,]» then
   let a:=x[1].getArgs
   let l←Tw.l (λ i r=>do
    if i%2==1 then return r.push a[i]!
    return r.push (m ``Lean.Parser.Tactic.rcasesPatLo #[m ``Lean.Parser.Tactic.rcasesPatMed #[Lean.mkNullNode #[← Tw.p n a[i]!]],Lean.mkNullNode])) a.size #[]
   return m ``Lean.Parser.Tactic.rcasesPat.tuple #[Lean.mkAtom "⟨",Lean.mkNullNode l,Lean.mkAtom "⟩"]
  if x.isIdent then return m ``Lean.Parser.Tactic.rcasesPat.one #[x]
  return m ``Lean.Parser.Tactic.rcasesPat.ignore #[Lean.mkAtom "_"]
local macro_rules|`(tactic|have $p:term:=$e)=>do
 if p.raw.getKind != `«term#[_,]» then Lean.Macro.throwUnsupported
 Tw.o ⟨Lean.mkNode ``Lean.Parser.Tactic.rcasesPatMed #[Lean.mkNullNode #[← Tw.p 9 p]]⟩ e
local macro_rules|`(tactic|erw[$r,*]$[$l]?)=>do
 let a:=r.elemsAndSeps
 let s←Tw.l (λ i r=>return r.push (if i%2==0 then (Lean.mkNode ``Lean.Parser.Tactic.simpLemma #[Lean.mkNullNode,a[i]![0],a[i]![1]]).raw else a[i]!)) a.size #[]
 `(tactic|simp only[$(⟨s⟩):simpLemma,*]$[$l]?)
local macro_rules|`(∅)=>`(by lia)
local macro_rules|`(#[$a,*])=>if a.getElems.size<2 then Lean.Macro.throwUnsupported else`(⟨$a,*⟩)
local macro_rules|`(tactic|lia)=>`(tactic|omega)
theorem Z.aaC {c:Prop} {_:Decidable c} (h:¬c) {a b:α}:ite c a b=b:=if_neg h
theorem Z.aaD {c:Prop} {_:Decidable c} (h:c) {a b:α}:ite c a b=a:=if_pos h
theorem Z.aaE {_:Decidable True} (a b:α):ite True a b=a:=if_true a b
theorem Z.aaF {_:Decidable False} (a b:α):ite False a b=b:=if_false a b
theorem Z.aaG (h:Decidable True):@decide True h=true:=decide_true h
theorem Z.aaH (h:Decidable False):@decide False h=false:=decide_false h
local macro_rules(kind:=char)|x=>return Lean.Syntax.mkStrLit ((("number|letter|position_of_number|fields|kind|Exception.__new__|text|occurrences|schemas|numbers|scanner|position_of_name|list|__debug__|highest|dict|field_numbered|value|__init__|place|mode|BaseException.__getattribute__|version|rows|reached|expect|field|self|tuple|chain|lowest|schema_at|range|enumerate|type.__call__|fills|last_version|root|call|last_schema|__name__|skip|list_iterator|Exception|dict_reverseitemiterator|path|name|expect_end|dict.update.loop|check_default_may_stand|position|worth||itertools.zip_longest|take|set|take_number_between|records_go_straight|peek|literal|choices_go_straight|the occurrences don't suit the mode|itertools.pairwise|fields_go_straight|take_whole_number|old|new|least_occurrences|least_but_for_key|kinds_go_straight|dict_itemiterator|answer_or_refusal|take_occurrences|take_fields_into|stands_as_itself|read_occurrences|plain_text_value|object.__class__|fill_in_the_same|__setattr__|__getattribute__|two_occurrences|take_name_signs|reads_leaves_of|is_small_letter|compare_records|compare_choices".splitOn "|").getD ((x.isCharLit?.getD default).toNat-40) ""))
namespace Z
set_option tactic.hygienic false
set_option backward.match.sparseCases false
open Array renaming forIn_toList->Zp,length_toList->WD,mem_iff_getElem->YL,mem_toList_iff->Ua,toList_append->Zc,toList_extract->Y2,toList_push->ZH
open Bool renaming and_eq_false_iff->Y1,and_eq_true->QH,and_false->Ya,and_self->Yy,eq_false_iff->VN,eq_iff_iff->Rt,false_and->aaB,false_eq_true->P1,false_ne_true->Qu,not_eq_true'->ZZ,not_false->QN,not_true->QR,or_eq_true->We,true_and->U7,true_eq_false->WX
open Char renaming toNat->ZG
open Classical renaming byContradiction->Ta
open Decidable renaming not_not->YK
open Except renaming bind->YJ
open Except.ok renaming injEq->Zb
open False renaming elim->Rx
open ForInStep renaming yield->VV
open Function renaming comp->Wr
open Int renaming natAbs_natCast->UB,natCast_pow->aaA,not_lt->Xd,ofNat_lt->Wc,toNat_le_toNat->Xb,toNat_natCast->VU
open Int.ofNat renaming inj->ZF
open List renaming Nodup->X9,all_cons->Tz,all_eq_true->RX,any_cons->VT,any_eq_false->ZY,any_eq_true->V0,append_assoc->QL,append_nil->Rr,cons_append->QT,contains_cons->WW,dropLast_concat_getLast->SM,drop_append_of_le_length->Va,drop_drop->aaz,drop_eq_getElem_cons->To,drop_eq_nil_iff->Za,drop_succ_cons->Zo,drop_zero->aay,eraseDups_cons->Zn,filterMap_append->Y0,filterMap_cons->Uj,filter_eq_nil_iff->YI,filter_eq_self->Zm,flatMap_cons->UK,flatten_cons->VM,foldl->ZE,foldl_cons->XP,forIn_nil->aax,getElem_inj->aad,getElem_map->aac,getLast_eq_getElem->YC,isEmpty_cons->ZX,isEmpty_nil->U2,length->SG,length_append->P5,length_cons->P0,length_drop->S4,length_eq_one_iff->YH,length_eq_zero_iff->Qj,length_filter_le->YZ,length_map->Qe,length_nil->Qs,length_pos_iff->Ui,length_range->ZW,length_replicate->UY,length_set->T5,length_singleton->QB,length_take->RC,length_zipIdx->Vx,lookup->TU,lookup_cons->Rm,lookup_nil->Wa,mapM_cons->RV,mapM_nil->Yx,map_append->Sf,map_cons->Ql,map_const'->aaq,map_drop->WQ,map_inj_right->ZD,map_map->Se,map_nil->SE,map_take->Yw,mem_append->RW,mem_append_left->Si,mem_append_right->RF,mem_cons->Qp,mem_cons_of_mem->Qk,mem_cons_self->QE,mem_filter->aap,mem_filterMap->Uz,mem_map->Ro,mem_of_mem_drop->U9,mem_of_mem_eraseIdx->Yv,mem_of_mem_take->Y9,mem_range->Sr,mem_reverse->aab,mem_singleton->RN,nil_append->Rk,nodup_append->Xk,nodup_cons->RI,nodup_nil->Vw,nodup_range->aaa,of_mem_zip->XO,pairwise_map->T6,range->Uy,replicate->QA,replicate_succ->RH,set->X8,set_cons_succ->ZC,set_cons_zero->Vv,size_toArray->Qw,takeWhile_cons->Vk,take_append_drop->Te,take_length->TK,take_of_length_le->SX,toArray->Rc,zipIdx_map_fst->Zl,zip_cons_cons->Tc
open List.Pairwise renaming cons->UZ,imp->Vb,nil->Wb
open List.cons renaming inj->Ue,injEq->Xa
open List.eraseDupsBy renaming loop->Vq
open Nat renaming add_le_add_right->Zk,add_right_comm->VF,ble->S3,digitChar->YB,eq_of_beq_eq_true->Y8,le_add_right->S9,le_mul_of_pos_left->YY,le_of_ble_eq_true->RG,le_of_eq->Uh,le_of_lt->Xs,le_of_lt_succ->VS,le_of_succ_le->UP,le_of_succ_le_succ->YX,le_refl->Qg,le_succ->Zj,le_trans->QW,le_zero->Tx,lt_irrefl->RP,lt_of_le_of_lt->W9,lt_of_lt_of_le->Qx,lt_succ_of_lt->UO,lt_succ_self->S8,lt_trans->S2,lt_trichotomy->Xr,min_eq_left->XY,mod_lt->W8,mul_add->Vd,mul_comm->YW,mul_le_mul_left->Vp,ne_of_gt->TZ,ne_of_lt->QC,not_lt->VE,not_lt_zero->Vj,pow_le_pow_right->Tv,pow_succ->YV,sub_add_cancel->W7,sub_self->YU,sub_zero->YT,succ->Yk,succ_ne_self->aao,succ_pos->Xq,toDigits->Vu,toDigits_of_lt_base->YG,zero_add->R0,zero_le->Q9
open Ne renaming symm->Q4
open NeutralIO renaming bytes->Tb
open OfNat renaming ofNat->QP
open Option renaming any_some->ZV,bind_eq_some_iff->TC,bind_none->UT,bind_some->P4,getD_none->TB,getD_some->Uc,isSome_iff_exists->QV,isSome_none->WL,isSome_some->WK,map->Y7,map_eq_some_iff->SS,map_map->Wj,map_none->Rz,map_some->Qm,none->O,some->U,some_or->Z9
open Option.some renaming inj->QO,injEq->QS
open Prod.mk renaming injEq->SR
open PyFlat renaming call->Tn,calls->Yu,played->X7,told->SU
open PyProof.Rows renaming AllBare->WB,Constant_none->Zi,IntsAre->Ux,IsTup->Xz,callWith_builtin1->Ws,callWith_type1->R7,envOfC->XE,ge_int->aaw,iadd_int->Z8,subscriptTail_builtinR->ZU
open PyProof.Rows.F renaming entry_set_update_loop->VR,plain_set_update_loop->T4
open PySem renaming Addr->P2,Around->Rq,Builtin->V6,CmpOp->Ys,Env->WI,ExceptHandler->RQ,Expr->P8,FuncData->TY,Heap->Q7,IsTupleKey->Rl,KeyKind->W6,Keyword->XT,NameKind->TJ,Obj->S1,Operator->aam,PassesOwn->Xh,Pos->SK,Program->Rb,PyData->Yf,Result->Ye,Scope->Ry,SetTable->Ur,Shared->P9,Stmt->RY,Str->QQ,Value->P7,Within->Yz,World->RO,assign->Yb,assignEach->Wy,atKey->aak,attributeBase->Vn,backTo->TM,backToKw->W5,behindInMarks->UI,binaryOp->Vt,bindC->Zx,bindL->Zw,bootBuiltins->Uu,cLine->Uq,call_meets->VW,callerA->ZQ,carriedByValue->U6,cellsFrom->Sz,codeAny->Vm,codeAny_builtin->T9,codeAny_call_builtin->W4,codeAny_handlers_test->Z5,codeAny_mono->VI,compEnvC->XR,compPost->YO,compareOp->RD,eval->Sj,excClassObj->SN,excMatches->Wx,foldedSetIterable->TH,frameOf->WH,getAttr->ZP,handedOut->Zv,handleBy->W3,hashByValue->Yn,holding->U5,keywordEach->Vs,«leaving»->ZO,letOwnedTupleGo->WG,mainGlobals->WZ,mem_of_lookup->Rg,model->Qt,noteFrame->US,notedBy->XQ,nsFind->Ww,ofAClassStatement->V5,plainId_quiet->UH,plainObj_wpAny_Assign_Attribute->X3,pushCells->VQ,pushCells_keeps->WE,pyNext->XA,rawInt->VB,seqIndex_neg->ZN,seqIndex_of->Ym,setFlight->Wl,sizeLine->Qq,sizeLine_eq->aaj,sliceBounds->Vr,standAt->ZM,starEach->QJ,storeName->Zu,swapsWith->VP,sysModules->Vh,tupleKeyHash->RL,tupleKind->Sy,typeLookup->Wv,valueAt->YE,wpAny->Qn,wpAny_Call_Name_kw->Tp,wpAny_Call_method_late->Wu,wpAny_bind->Qb,wpAny_call->YN,wpAny_eqIsQuiet_tuple->Z4,wpAny_execs_nil->VA,wpAny_field->UR,wpAny_forIn_list->Wk,wpAny_handleBy_cons->aau,wpAny_holding->Sg,wpAny_isSubtype_exc->Xo,wpAny_isTrue_Compare1->Z3,wpAny_loadName_cell->aat,wpAny_loadName_local->aai,wpAny_loadPart_at->Sb,wpAny_mono->R9,wpAny_notOrdered_dict->Z2,wpAny_passesOwn->T8,wpAny_pure->Qo,wpAny_pyIter_list->V4,wpAny_pyNext_list_end->Vg,wpAny_pyNext_list_item->U4,wpAny_seqItems->WY,wpAny_setField->YM,wpAny_setState_of->U3,wpAny_standAt->Vl,wpAny_truthy_bool->Sv,wpAny_typeLookup_exc->Up,wpAny_typeOf->Wt
open PySem.Around renaming under->Yt,under_plainId->Tj
open PySem.AutoSeq1 renaming sub_tuple_tuple->XN,wpAny_loadPart'->WJ
open PySem.Builtin.Dict renaming addKeywords->Xj,pairItems->Xy,selfAndRest->Xi,updateFrom->Ud
open PySem.Builtin.Frozenset renaming updateFrom->aan
open PySem.Builtin.List renaming listTooLong->Su
open PySem.Builtin.ObjectAttr renaming newKeyGuard->Z7,storeInDict->VZ
open PySem.Calls renaming Name_function_global->XX,callWith_builtin->UJ,evalArgs_plain->Tr,spliced_cons->S7,spliced_nil->Tq
open PySem.Code renaming isFrame->YF
open PySem.EntryCells renaming newEntry->Yj
open PySem.F renaming args_dict_get_2->X6,args_dict_init_2->XW,args_list_extend_2->ZT,attrBase_Exception->Vi,called_set->Sw,entry_dict_get->Yi,entry_dict_init->X5,entry_list_extend->Z6,excBase_Exception->XM,kt_called_dict->Yh,kt_typeCall_dict_1->XD,plainAttrs_list->VL,slot_dict_get->V3,slot_list_append->YS,slot_list_extend->WA,slot_list_getattribute->UN,slot_list_pop->ZA,store_Exception->X4
open PySem.Heap renaming SameBut->Vo,lt_size->Qi,size_push->RU
open PySem.Heap.Ns1 renaming of_empty->YR
open PySem.Heap.SameBut renaming update->XU
open PySem.NameKind renaming cell->XJ,free->UM
open PySem.Obj renaming data_mapFields->VC,isFreed_of_fields->Wq,mapFields->Uw,mapSeq->V9,putSet->Yg
open PySem.Paired renaming length->Qy,snoc->Wi
open PySem.PyData renaming canLay0->XH,canLayAll0->Zh,depth->WV,depthAll->Xx,eqv->Y6,eqvAll->aal,int->Ut
open PySem.SeqAt renaming EqAt->Zg,shaped->YA
open PySem.SeqAt.EqAt renaming int_int->Yr,int_str->Yq,str_int->Yp
open PySem.SetTable renaming Probe->VG,below->VY,bits->V8,fill->ZS,fresh->Xw,insertAt->S6,leap->WO,runEnd->UA,sizeAbove->Uv,turns->Zz
open PySem.SetTable.below renaming go->YQ
open PySem.SetTable.layClean renaming free->Wo
open PySem.SetTable.probe renaming go->YP
open PySem.Value renaming bool->Zf,builtin->U1,int->VX,isStrOf->aav,none->UX,ref->QY,str->Yo,type->XS
open PySem.Value.ref renaming injEq->Y5
open PySem.W renaming Frag->PY,ReadsW->ZR,callWith_K->Wz,callWith_K0->Wn,cellsFrom_some->Yd,codeIn->XC,emptyDict->Sm,findIn->SA,fnOf->Vc,handedIn->Ze,hasDictIn->WN,instObj->Tf,isFn->Yc,keepIn->R4,lookIn->V7,makesIn->Zy,methodObj->WM,plainGet->VJ,plainGet_of->Wm,plainOver->Y4,takerIn->Xp
open PySem.W.WData renaming int->U8
open PySem.Within renaming cons->Zd
open PyVacolk renaming answers->WU,answers_asked->X1,shape->RE,whole->Sl
open Sum renaming inl->Tu,inr->Xn
open Sum.inl renaming inj->Xg
open True renaming intro->X0
open Vacola renaming Fault->aah,Fields->Qh,Head->Td,Kind->Sa,Leaf->Xl,Mode->ZL,Text->Qv,closeSign->Rp,decimal->Ra,decimalInt->RK,digitRun->TX,digitsBefore->Sq,faultAt->UG,fits->Rn,goodName->R8,hexOf->Ti,hexSign->XF,isDigit->QD,isLow->Vf,keyOf->QI,leavesFields->R3,leavesKind->Q0,modeOf->Tt,nameSign->Qa,numberRun->Zs,openSign->Q3,plain->SQ,readDefault->Us,readFields->SI,readLeaf->TV,readLit->R6,readMode->Xv,readName->Xu,readNumber->WT,readQuoted->Q5,readSchema->Th,showByte->Uo,showDefault->Ri,showFields->RB,showHead->Um,showKind->QM,showLeaf->V2,showLit->RA,showMode->Ul,showSchema->WS,showStr->Z1,sized->aas,worth->Ru
open Vacola.Fields renaming byNumber->Xm,cons->YD,list->PZ,rec->XG
open Vacola.Kind renaming group->Zt
open Vacolb renaming Entry->aar,Val->Sk,entryName->Xf,expect->aaf,firstEntry->WR,joinWith->Qd,keyLit->R5,keyRises->Uk,leastSlots->Rh,leastVal->QG,litLess->Wh,nextEntry->Zq,readOccurrences->TQ,readRow->UE,readSlots->Ub,readTaken->VO,readVal->T7,showRow->SD,showSlots->Qz,showVal->P6,textLess->ZK
open Vacolb.Val renaming group->aag
open Vacolb.Val.group renaming inj->Zr
open Vacolk renaming Answer->XZ,Call->RR,Obstacle->ZJ,State->Yl,VERSIONS->Xt,between->Z0,fillFields->SH,fillKind->RT,fillsIn->Qr,groupWith->SW,keyNumber->UQ,leafObstacle->Ug,lifted->aae,modeObstacle->R1,obstacle->RS,obstacleFields->UL,obstacleKind->Rw,obstacleTaken->Wg,oldField->SJ,readBy->UW,readFields->Vz,readKind->Qc,readOn->QX,readTaken->SV,risingKeys->RJ,sameFilling->TN,shownOr->UD,sortOk->Rj,start->Ve,step->QU,stepHeld->QF,straight3->Xe,straightFields->S5,straightKind->QZ,straightTaken->U0,straightWay->Y3,suits->QK,tells->UC,twoOf->SO,withSlot->ZI,withText->V1,withVersions->Rv
open VacolkNeutral renaming asked1->VH,callOf->TR,encode->S0,nats->So,natural->Vy,sized->RM,step->UU,text->Sn
open Tw0 Tw1 Tw2 Tw3 Tw4 Tw5 Tw6
section
local macro_rules | `(tactic| lia) => `(tactic| first | assumption | lia (config := {}) | omega (config := {}))
section
open Vacola (Lit)
theorem ma:∀(f n:Nat)(acc:Qv),Sq f n acc=Sq f n []++acc
 |0,n,acc=>rfl|f+1,n,acc=>by
  unfold Sq;split;.rfl
  .rw[ma f (n/10) ((48+n%10)::acc),ma f (n/10) [48+n%10],QL];rfl
theorem vT:∀(f g n:Nat),n<f->n<g->Sq f n []=Sq g n []
 |f+1,g+1,n,a,b=>by
  unfold Sq;split;.rfl
  .rename_i h;rw[ma f,ma g,vT f g (n/10) ∅ ∅]
 |0,_,_,h,_=>absurd h ∅|_+1,0,_,_,h=>absurd h ∅
def nS{n:Nat}(h:n<10):Ra n=[48+n]:=by unfold Ra Sq;rw[aaD h]
def rC{n:Nat}(h:10<=n):Ra n=Ra (n/10)++[48+n%10]:=by
 unfold Ra;conv=>lhs;unfold Sq
 rw[aaC ∅,ma,vT n (n/10+1) (n/10) ∅ ∅]
def lP(p:List Nat)(c:Nat):Ru (p++[c])=10*Ru p+(c-48):=by unfold Ru;rw[List.foldl_append];rfl
def iX{c:Nat}:QD c=true↔48<=c/\c<=57:=by unfold QD;simp
def uK:∀(n:Nat)(p:List Nat),p.length=n->(∀c∈p,QD c=true)->p≠[]->p.head?≠U 48->0<Ru p:=by
 intro n;induction n with
 |zero=>intro p b _ a;exact absurd (Qj.mp b) a|succ n f=>
  intro p b d a e;obtain⟨q,c,rfl⟩:∃q c,p=q++[c]:=#[p.dropLast,p.getLast a,(SM a).symm];rw[lP];by_cases a:q=[];.subst a;have g:=iX.mp<|d c (by simp);simp at e;lia
  .have g:q.length=n:=by simpa using b
   have:=f q g (λx b=>d x<|by simp[b]) a (by
    induction q with
    |nil=>exact absurd G a
    |cons a b=>simpa using e)
   lia
def Hr:∀(n:Nat)(p:List Nat),p.length=n->(∀c∈p,QD c=true)->p≠[]->(p.head?=U 48->p.length=1)->Ra (Ru p)=p:=by
 intro n;induction n with
 |zero=>intro p b _ a;exact absurd (Qj.mp b) a|succ n i=>
  intro p b f a j;obtain⟨q,c,rfl⟩:∃q c,p=q++[c]:=#[p.dropLast,p.getLast a,(SM a).symm];have a:=iX.mp<|f c (by simp);rw[lP];by_cases d:q=[];.subst d;rw[nS<|by simp[Ru];lia];simp[Ru];lia
  .have g:q.length=n:=by simpa using b
   have h:q.head?≠U 48:=by
    intro e;have:(q++[c]).head?=U 48:=by induction q with|nil=>exact absurd rfl d|cons a b=>simpa using e
    have:=j this;simp at this;exact d this
   have a:=uK n q g (λx a=>f x<|by simp[a]) d h;rw[rC ∅];have b:(10*Ru q+(c-48))/10=Ru q:=by lia
   have j:(10*Ru q+(c-48))%10=c-48:=by lia
   rw[b,j,i q g (λx a=>f x<|by simp[a]) d λe=>absurd e h];congr 2;lia
theorem rB:∀(m n:Nat),n<m->(∀c∈Ra n,QD c=true)/\Ra n≠[]/\Ru (Ra n)=n
 |0,_,h=>absurd h ∅|m+1,n,h=>by
  by_cases a:n<10
  .rw[nS a];refine#[?_,by simp,?_];.intro c a;rw[RN.mp a,iX];lia
   .simp[Ru]
  .have#[b,e,d]:=rB m (n/10) ∅;rw[rC ∅];refine#[?_,by simp,?_]
   .intro c a;rcases RW.mp a with a|a;.exact b c a
    .rw[RN.mp a,iX];lia
   .rw[lP,d];lia
def Dk:∀(n:Nat)(p:List Nat),p.length=n+1->(∀c∈p,QD c=true)->p.head?≠U 48->10^n<=Ru p:=by
 intro n;induction n with
 |zero=>intro p a b d;exact uK 1 p a b (by intro e;rw[e]at a;cases a) d
 |succ n g=>
  intro p a b d;have f:p≠[]:=by intro e;rw[e]at a;cases a
  obtain⟨q,c,rfl⟩:∃q c,p=q++[c]:=#[p.dropLast,p.getLast f,(SM f).symm];have e:q.length=n+1:=by simpa using a
  rw[lP];have:=g q e (λx a=>b x<|by simp[a]) (by
   induction q with
   |nil=>cases e
   |cons a b=>simpa using d)
  rw[YV];lia
theorem p5(f:Nat->Bool):∀(t:Qv),∀c∈t.takeWhile f,f c=true
 |[],c,h=>by cases h|a::r,c,h=>by
  rw[Vk]at h;split at h
  .rcases Qp.mp h with rfl|h;.assumption
   .exact p5 f r c h
  .cases h
def jA(f:Nat->Bool)(t:Qv):t.takeWhile f++t.dropWhile f=t:=List.takeWhile_append_dropWhile
theorem pL{f:Nat->Bool}:∀{p r:List Nat},(∀c∈p,f c=true)->(∀c a,r=c::a->f c=false)->(p++r).takeWhile f=p/\(p++r).dropWhile f=r|[],[],_,_=>#[G,G]|[],c::r,_,h=>by have:=h c r rfl;simp[this]|c::p,r,a,h=>by have#[b,d]:=pL (p:=p) (r:=r) (λx e=>a x<|Qk _ e) h;have e:=a c QE;simp[e,b,d]
theorem take_snoc{a:Type}:∀{l:List a}{i:Nat}{x:a},l[i]?=U x->l.take (i+1)=l.take i++[x]|[],i,x,h=>by simp at h|a::l,0,x,h=>by simp at h;simp[h]|a::l,i+1,x,h=>by have a:=take_snoc (l:=l) (i:=i) (x:=x) (by simpa using h);simp[a]
noncomputable def bX(s:Qv):Option<|Nat×Qv:=
 if 19<(s.takeWhile QD).length\/s.takeWhile QD=[]\/(1<(s.takeWhile QD).length/\(s.takeWhile QD).head?=U 48)then O
 else U (Ru<|s.takeWhile QD,s.dropWhile QD)
def iY{s r:Qv}{n:Nat}(h:bX s=U (n,r)):s=Ra n++r/\TX s=U (n,r)/\r=s.dropWhile QD:=by
 unfold bX at h;split at h;.cases h
 .rename_i a;erw[not_or,not_and,VE]at a;cases h;refine#[?_,?_,G]
  .rw[Hr _ _ G (p5 _ _) a.2.1 λe=>?_,jA];have b:=Ui.mpr a.2.1;by_cases b:1<(s.takeWhile QD).length;.exact absurd e<|a.2.2 b
   .lia
  .unfold TX;simp only;rw[aaC];rintro(e|⟨b,c⟩);.exact a.2.1 e
   .exact a.2.2 c b
def BE{n:Nat}(h:TX s=U (n,r)):bX s=U (n,r)\/(bX s=O/\10^19<=n):=by
 unfold TX at h;simp only at h;split at h;.cases h
 .rename_i a;erw[not_or,not_and,VE]at a;cases h;unfold bX;by_cases b:19<(s.takeWhile QD).length
  .refine .inr #[aaD<|.inl b,?_];have c:(s.takeWhile QD).head?≠U 48:=by intro e;have:=a.2 e;lia
   obtain⟨m,d⟩:∃m,(s.takeWhile QD).length=m+1:=#[_,(W7 ∅).symm];have:=Dk m _ d (p5 _ _) c;exact QW (Tv ∅ ∅) this
  .refine .inl (aaC ?_);rintro(e|e|⟨d,c⟩);.exact b e
   .exact a.1 e
   .have:=a.2 c;lia
noncomputable def hY:Qv->Option (Int×Qv)|45::r=>(bX r).bind λx=>if x.1=0 then O else U (-(x.1:Int),x.2)|t=>(bX t).map λx=>((x.1:Int),x.2)
noncomputable def cb:Xl->Qv->Option (Lit×Qv)|.text _,34::r=>(Q5 r).map λx=>(.str x.1,x.2)|.text _,_=>O|_,t=>(hY t).map λx=>(.num x.1,x.2)
noncomputable def dQ(l:Xl)(t:Qv):Option<|Lit×Qv:=(cb l t).bind λx=>if Rn l x.1 then U x else O
def aaI{t:Qv}:cb .bit t=(hY t).map λx=>(.num x.1,x.2):=G
def lit_int{n:Nat}{t:Qv}:cb (.int n) t=(hY t).map λx=>(.num x.1,x.2):=G
def PQ{l o:Xl}{v:Lit}:Qc (.leaf l) (.leaf o) (.lit v)=if(Rj o l&&Rn l v)=true then U (.lit v)else O:=G
def PR{gs fs:Qh}{ss:List (List Sk)}:Qc (.group false gs) (.group false fs) (.group ss)=(Vz gs fs ss).map aag:=G
def PU{gs fs:Qh}{ss:List (List Sk)}:Qc (.group true gs) (.group true fs) (.group ss)=(SV gs fs ss).bind λts=>if(ts.filter λo=>!o.isEmpty).length=1 then U (.group ts)else O:=G
def PV{hs gs fs:Qh}:QZ (.group false hs) (.group false gs) (.group false fs)=S5 hs gs fs:=G
def PX{hs gs fs:Qh}:QZ (.group true hs) (.group true gs) (.group true fs)=((fs.list.all λx=>(gs.byNumber (x.1.number:Int)).isSome&&(hs.byNumber (x.1.number:Int)).isSome)&&U0 hs gs fs):=G
def PN{gs fs:Qh}:Rw (.group false gs) (.group false fs)=UL gs fs:=G
end
section
set_option tactic.hygienic true
def wW{a x:Nat}(h:Ti a=U x):XF x=a/\x<16:=by
 unfold Ti at h;split at h;.rename_i b;have:=iX.mp b;cases h;unfold XF;rw[aaD ∅];lia
 .split at h;.rename_i b;cases h;unfold XF;rw[aaC ∅];lia
  .cases h
def MT:∀(n:Nat)(t s r:Qv),t.length<=n->Q5 t=U (s,r)->t=s.flatMap Uo++34::r:=by
 intro n;induction n with
 |zero=>intro t s r d h;rw[Qj.mp<|Tx.mp d]at h;cases h|succ n f=>
  intro t s r d h;unfold Q5 at h;split at h;.cases h
  .cases h;rfl
  .rename_i a b b;split at h
   .rename_i x y c g;split at h;.cases h
    .rename_i e;cases a:Q5 b with
     |none=>rw[a]at h;cases h|some z=>
      rw[a]at h;erw[Qm,QS,SR]at h;have#[rfl,rfl]:=h;have:=f b z.1 z.2 (by erw[P0]at d;lia) a;have#[i,j]:=wW c;have#[c,j]:=wW g;have g:(16*x+y)/16=x:=by lia
      have j:(16*x+y)%16=y:=by lia
      erw[UK,Uo,aaC e,g,j,i,c,QT,Rk];rw[<-this]
   .cases h
  .rename_i c b _ _;split at h;.rename_i e;cases a:Q5 b with|none=>rw[a]at h;cases h|some z=>rw[a]at h;erw[Qm,QS,SR]at h;have#[rfl,rfl]:=h;have:=f b z.1 z.2 (by erw[P0]at d;lia) a;erw[UK,Uo,aaD e,QT,Rk];rw[<-this]
   .cases h
def Pd{z:Int}(h:hY t=U (z,r)):t=RK z++r:=by
 delta hY at h;split at h
 .rename_i b;cases a:bX b with
  |none=>rw[a]at h;cases h|some x=>
   rw[a]at h;erw[P4]at h;split at h;.cases h
   .rename_i b;cases h;have:=(iY a).1;unfold RK;rw[aaD ∅];erw[Int.natAbs_neg,UB,QT];rw[<-this]
 .cases a:bX t with|none=>rw[a]at h;cases h|some x=>rw[a]at h;cases h;have:=(iY a).1;unfold RK;rw[aaC ∅];erw[UB];exact this
def sC(h:cb l t=U (v,r)):t=RA v++r:=by
 delta cb at h;split at h;.rename_i b;cases a:Q5 b with|none=>rw[a]at h;cases h|some x=>rw[a]at h;cases h;have:=MT _ b x.1 x.2 (Qg _) a;erw[RA,Z1,QT,QL,Rk];rw[<-this]
 .cases h
 .cases a:hY t with|none=>rw[a]at h;cases h|some x=>rw[a]at h;cases h;exact Pd a
def oP(h:dQ l t=U (v,r)):cb l t=U (v,r)/\Rn l v=true:=by
 unfold dQ at h;cases a:cb l t with
 |none=>rw[a]at h;cases h|some x=>
  rw[a]at h;erw[P4]at h;split at h;.rename_i a;cases h;exact#[G,a]
  .cases h
def sA(h:dQ l t=U (v,r)):t=RA v++r:=sC (oP h).1
def iA(t:Qv):Prop:=∀c r,t=c::r->QD c=false
def gQ:Xl->Prop|.bit=>True|.int n=>2<=n/\n<=64|.text n=>1<=n/\n<=999
def vF{c:Nat}(hc:QD c=true)(hr:iA r):bX (c::r)=U (c-48,r):=by have#[a,b]:=pL (f:=QD) (p:=[c]) (r:=r) (by intro x d;rw[RN.mp d];exact hc) hr;rw[List.singleton_append]at a b;unfold bX;rw[a,b];simp[Ru]
theorem BC{n:Nat}:R6 (.int n) (45::r)=match TX r with|some (n,s)=>if n=0 then O else U (.num (-(n:Int)),s)|none=>O:=by rfl
def BB{n:Nat}(h:∀r,t=45::r->False):R6 (.int n) t=(TX t).map λx=>(.num (x.1:Int),x.2):=by rw[R6];exact h
def uG:hY (45::r)=(bX r).bind λx=>if x.1=0 then O else U (-(x.1:Int),x.2):=G
def nB(h:∀r,t=45::r->False):hY t=(bX t).map λx=>((x.1:Int),x.2):=by rw[hY];exact h
def yg(t:Qv):(∃r,t=45::r)\/(∀r,t=45::r->False):=by
 by_cases h:∃r,t=45::r;.exact .inl h
 .exact .inr λr e=>h #[r,e]
def Bs(h:dQ l t=U (v,r)):R6 l t=U (v,r)/\Rn l v=true:=by
 have#[b,c]:=oP h;refine#[?_,c];induction l with
 |text n=>
  delta cb at b;split at b;.rename_i a;cases a;exact b
  .cases b
  .rename_i e _;exact absurd rfl<|e n
 |int n=>
  erw[aaI,lit_int]at b;cases a:hY t with
  |none=>rw[a]at b;cases b|some x=>
   rw[a]at b;cases b;rcases yg t with⟨f,rfl⟩|e
   .rw[uG]at a;rw[BC];cases d:bX f with
    |none=>rw[d]at a;cases a|some y=>
     rw[d]at a;erw[P4]at a;split at a;.cases a
     .rename_i f;cases a;rw[(iY d).2.1];simp only;rw[aaC f]
   .rw[nB e]at a;rw[BB e];cases d:bX t with|none=>rw[d]at a;cases a|some y=>rw[d]at a;cases a;rw[(iY d).2.1];rfl
 |bit=>
  have e:=sC b;erw[aaI,lit_int]at b;cases a:hY t with
  |none=>rw[a]at b;cases b|some x=>
   rw[a]at b;cases b;change(_==_||_==_)=true at c;erw[We,beq_iff_eq]at c;have d:∀n:Nat,n<10->RK (n:Int)=[48+n]:=λn h=>by unfold RK;rw[aaC ∅,UB,nS h]
   rcases c with c|c;.rw[c,RA]at e;rw[show RK 0=[48]from d 0 ∅]at e;rw[e,c];rfl
   .rw[c,RA]at e;rw[show RK 1=[49]from d 1 ∅]at e;rw[e,c];rfl
def vA{n m:Nat}(b:n<=64)(a:10^19<=m):Rn (.int n) (.num (m:Int))=false/\Rn (.int n) (.num (-(m:Int)))=false:=by
 have b:(2:Int)^(n-1)<=2^63:=by have:(2:Nat)^(n-1)<=2^63:=Tv ∅ ∅;exact_mod_cast this
 have b:(2:Int)^63=9223372036854775808:=by decide
 have b:(10000000000000000000:Int)<=m:=by
  have e:(10:Nat)^19=10000000000000000000:=by decide
  rw[e]at a;lia
 constructor;.change(decide _&&decide _)=false;rw[Y1];right;exact decide_eq_false ∅
 .change(decide _&&decide _)=false;rw[Y1];left;exact decide_eq_false ∅
def x6(hl:gQ l)(h:R6 l t=U (v,r))(b:Rn l v=true)(hr:iA r):dQ l t=U (v,r):=by
 unfold dQ;suffices a:cb l t=U (v,r) by rw[a];erw[P4];rw[aaD b]
 induction l with
 |text n=>
  by_cases c:∃a,t=34::a;.have#[a,rfl]:=c;exact h
  .rw[R6]at h;.cases h
   .exactλr e=>c #[r,e]
 |bit=>
  by_cases c:∃a,t=48::a;.have#[a,rfl]:=c;cases h;erw[aaI,lit_int];rw[nB (by intro r e;cases e),vF (by decide) hr];rfl
  .by_cases d:∃a,t=49::a;.have#[a,rfl]:=d;cases h;erw[aaI,lit_int];rw[nB (by intro r e;cases e),vF (by decide) hr];rfl
   .rw[R6]at h;.cases h
    .exactλr e=>c #[r,e]
    .exactλr e=>d #[r,e]
 |int n=>
  rcases yg t with⟨a,rfl⟩|e
  .rw[BC]at h;split at h
   .rename_i m s c;split at h;.cases h
    .rename_i f;cases h;rcases BE c with d|⟨_,a⟩;.erw[aaI,lit_int,uG,d,P4,aaC f];rfl
     .rw[(vA hl.2 a).2]at b;cases b
   .cases h
  .rw[BB e]at h;cases c:TX t with
   |none=>rw[c]at h;cases h|some x=>
    rw[c]at h;cases h;rcases BE c with d|⟨_,a⟩;.erw[aaI,lit_int];rw[nB e,d];rfl
    .rw[(vA hl.2 a).1]at b;cases b
abbrev ag(a:Type):=Qv->Option (a×Qv)
noncomputable def m9{a:Type}(one:ag a)(c:Nat):Nat->Qv->Option (List a×Qv)
 |0,_=>O|f+1,t=>match t with
  |[]=>U ([],[])
  |d::r=>if d=c then(one r).bind λx=>(m9 one c f x.2).map λy=>(x.1::y.1,y.2)else U ([],d::r)
noncomputable def bR{a:Type}(one:ag a)(c:Nat)(t:Qv):Option<|List a×Qv:=m9 one c (t.length+1) t
noncomputable def aT{a:Type}(one:ag a)(c:Nat)(t:Qv):Option<|List a×Qv:=(one t).bind λx=>(bR one c x.2).map λy=>(x.1::y.1,y.2)
def Le{a:Type}(one:ag a):Prop:=∀t x r,one t=U (x,r)->r.length<=t.length
theorem BN{a:Type}{one:ag a}{c:Nat}(hl:Le one):∀(f g:Nat)(t:Qv),t.length<f->t.length<g->m9 one c f t=m9 one c g t
 |0,_,_,h,_=>absurd h ∅|_+1,0,_,_,h=>absurd h ∅|f+1,g+1,t,a,b=>by
  cases t with
  |nil=>rfl|cons d r=>
   erw[m9];split;.cases d:one r with|none=>rfl|some x=>have:=hl r x.1 x.2 d;erw[P0]at a b;erw[P4];rw[BN hl f g x.2 ∅ ∅]
   .rfl
def gY{a:Type}{one:ag a}{c:Nat}:bR one c []=U ([],[]):=G
def gb{a:Type}{one:ag a}{c d:Nat}{r:Qv}(h:d≠c):bR one c (d::r)=U ([],d::r):=by show(if d=c then _ else _)=_;rw[aaC h]
def fC{a:Type}{one:ag a}{c:Nat}{r:Qv}(hl:Le one):bR one c (c::r)=aT one c r:=by show(if c=c then _ else _)=_;rw[aaD G];unfold aT;cases a:one r with|none=>rfl|some x=>have:=hl r x.1 x.2 a;erw[P4,bR];rw[BN hl ((c::r).length) (x.2.length+1) x.2 (by erw[P0];lia) ∅]
def NY{a:Type}{one:ag a}{c:Nat}(hl:Le one):∀(n:Nat)(t:Qv)(xs:List a)(r:Qv),t.length<=n->bR one c t=U (xs,r)->r.length<=t.length:=by
 intro n;induction n with
 |zero=>intro t xs r a h;rw[Qj.mp<|Tx.mp a,gY]at h;cases h;exact Q9 _|succ n g=>
  intro t xs r a h;cases t with
  |nil=>rw[gY]at h;cases h;exact Qg _|cons d s=>
   by_cases f:d=c;.subst f;rw[fC hl]at h;unfold aT at h;cases b:one s with|none=>rw[b]at h;cases h|some x=>rw[b]at h;erw[P4]at h;cases e:bR one d x.2 with|none=>rw[e]at h;cases h|some y=>rw[e]at h;cases h;have d:=hl s x.1 x.2 b;erw[P0]at a⊢;have:=g x.2 y.1 y.2 ∅ e;lia
   .rw[gb f]at h;cases h;exact Qg _
def N3{a:Type}{one:ag a}{c:Nat}(hl:Le one):Le<|aT one c:=by intro t a r h;unfold aT at h;cases a:one t with|none=>rw[a]at h;cases h|some x=>rw[a]at h;erw[P4]at h;cases b:bR one c x.2 with|none=>rw[b]at h;cases h|some y=>rw[b]at h;cases h;exact QW (NY hl _ x.2 y.1 y.2 (Qg _) b)<|hl t x.1 x.2 a
noncomputable def aN(c:Nat):Qv->Option Qv|d::r=>if d=c then U r else O|[]=>O
def bL{c:Nat}{t r:Qv}:aN c t=U r↔t=c::r:=by
 unfold aN;cases t with
 |nil=>simp|cons d s=>
  simp only;split;.rename_i h;subst h;simp
  .rename_i h;simp[h]
abbrev gC:=List<|Td×ag Sk
noncomputable def d9(T:gC)(ss:List<|List Sk):Bool:=(T.zip ss).all λx=>QK x.1.1.mode x.2
noncomputable def bD:gC->Qv->Qv->Option (List (List Sk)×Qv)
 |[],_,_=>O|(h,p)::T,n,t=>if h.name=n then
    (aN 58 t).bind λs=>(aT p 44 s).bind λx=>match x.2 with
     |59::r=>(bD T (r.takeWhile Qa)<|r.dropWhile Qa).map λy=>(x.1::y.1,y.2)
     |_=>U (x.1::T.map λ_=>[],x.2)
  else(bD T n t).map λy=>([]::y.1,y.2)
noncomputable def eA(T:gC)(r:Qv):Option<|List (List Sk)×Qv:=match r with|125::u=>U (T.map λ_=>[],u)|_=>(bD T (r.takeWhile Qa)<|r.dropWhile Qa).bind λx=>(aN 125 x.2).map λu=>(x.1,u)
noncomputable def j8(T:gC)(t:Qv):Option<|Sk×Qv:=(aN 123 t).bind λr=>(eA T r).bind λx=>if d9 T x.1 then U (.group x.1,x.2)else O
noncomputable def cJ:gC->Qv->Qv->Option (List (List Sk)×Qv)
 |[],_,_=>O|(h,p)::T,n,t=>if h.name=n then
    (aN 58 t).bind λs=>(p s).map λx=>([x.1]::T.map λ_=>[],x.2)
  else(cJ T n t).map λy=>([]::y.1,y.2)
noncomputable def jM(T:gC)(t:Qv):Option<|Sk×Qv:=(aN 60 t).bind λr=>(cJ T (r.takeWhile Qa)<|r.dropWhile Qa).bind λx=>(aN 62 x.2).map λu=>(.group x.1,u)
mutual
noncomputable def aM:Sa->Qv->Option (Sk×Qv)|.leaf l,t=>(dQ l t).map λx=>(.lit x.1,x.2)|.group false a,t=>j8 (aD a) t|.group true a,t=>jM (aD a) t
noncomputable def aD:Qh->gC|.nil=>[]|.cons h k r=>(h,λt=>aM k t)::aD r
end
noncomputable def eF(fs:Qh)(t:Qv):Option Sk:=if 4000<t.length then O else(aM (.group false fs) t).bind λx=>if x.2=[]then U x.1 else O
mutual
noncomputable def aI:Sa->Prop|.leaf l=>gQ l|.group c a=>a≠.nil/\cV c a
noncomputable def cV:Bool->Qh->Prop
 |_,.nil=>True|c,.cons h k r=>R8 h.name=true/\1<=h.number/\h.number<=999/\aI k/\(c=true->h.mode=.one)/\(h.mode=.keyed->(QI k).isSome=true)/\
   (∀d,h.dflt=U d->c=false/\h.mode=.one/\∃l,k=.leaf l/\Rn l d=true)/\
   (∀x∈r.list,x.1.name≠h.name)/\(∀x∈r.list,h.number<x.1.number)/\cV c r
end
def OC(fs:Qh):(aD fs).map (λx=>x.1)=fs.list.map λx=>x.1:=by induction fs using XG (motive_1:=λ_=>True)with|leaf=>trivial|group=>trivial|nil=>rfl|cons h k r _ a=>erw[aD,PZ,Ql,a]
theorem iH{c:Nat}:∀(l:List Qv)(s:Qv),l≠[]->Qd c (s::l)=s++c::Qd c l|[],_,h=>absurd rfl h|_::_,_,_=>rfl
def Back(p:ag Sk)(k:Sa):Prop:=∀t x r,p t=U (x,r)->t=P6 k x++r
def Back.le{p:ag Sk}{k:Sa}(h:Back p k):Le p:=by intro t x r e;have:=h t x r e;rw[this,P5];lia
def NW{p:ag Sk}{k:Sa}{c:Nat}(e:Back p k):∀(n:Nat)(t:Qv)(xs:List Sk)(r:Qv),t.length<=n->bR p c t=U (xs,r)->t=xs.flatMap (λx=>c::P6 k x)++r:=by
 intro n;induction n with
 |zero=>intro t xs r a h;rw[Qj.mp<|Tx.mp a,gY]at h;cases h;exact Qj.mp<|Tx.mp a|succ n i=>
  intro t xs r a h;cases t with
  |nil=>rw[gY]at h;cases h;rfl|cons d s=>
   by_cases g:d=c;.subst g;rw[fC e.le]at h;unfold aT at h;cases b:p s with|none=>rw[b]at h;cases h|some x=>rw[b]at h;erw[P4]at h;cases f:bR p d x.2 with|none=>rw[f]at h;cases h|some y=>rw[f]at h;cases h;have d:=e s x.1 x.2 b;have j:=e.le s x.1 x.2 b;erw[P0]at a;have:=i x.2 y.1 y.2 ∅ f;erw[UK,QT,QL];rw[<-this,<-d]
   .rw[gb g]at h;cases h;rfl
theorem xu{k:Sa}{c:Nat}:∀(xs:List Sk)(x:Sk),Qd c ((x::xs).map λv=>P6 k v)=P6 k x++xs.flatMap (λx=>c::P6 k x)|[],x=>by simp[Qd]|y::xs,x=>by rw[Ql,iH _ _<|by simp,xu xs y];simp
def tR{p:ag Sk}{k:Sa}{c:Nat}(d:Back p k){t r:Qv}{xs:List Sk}(h:aT p c t=U (xs,r)):t=Qd c (xs.map λv=>P6 k v)++r/\xs≠[]:=by unfold aT at h;cases a:p t with|none=>rw[a]at h;cases h|some x=>rw[a]at h;erw[P4]at h;cases b:bR p c x.2 with|none=>rw[b]at h;cases h|some y=>rw[b]at h;cases h;refine#[?_,by simp];have e:=d t x.1 x.2 a;have a:=NW d _ x.2 y.1 y.2 (Qg _) b;rw[xu,QL,<-a,<-e]
def pQ(r:Qh):Qz r (r.list.map λ_=>[])=[]:=by induction r using XG (motive_1:=λ_=>True)with|leaf=>trivial|group=>trivial|nil=>rfl|cons h k r _ a=>exact a
def fg(r:Qh):((aD r).map λ_=>([]:List Sk))=r.list.map λ_=>[]:=by have:=congrArg (List.map λ_=>([]:List Sk))<|OC r;simpa[Se,Function.comp_def]using this
mutual
theorem val_back:(k:Sa)->Back (λt=>aM k t) k
 |.leaf l=>by intro t x r h;erw[aM]at h;cases a:dQ l t with|none=>rw[a]at h;cases h|some y=>rw[a]at h;cases h;exact sA a
 |.group false e=>by
  intro t x r h;erw[aM,j8]at h;cases b:aN 123 t with
  |none=>rw[b]at h;cases h|some u=>
   rw[b]at h;have:=bL.mp b;subst this;erw[P4]at h;cases a:eA (aD e) u with
   |none=>rw[a]at h;cases h|some y=>
    rw[a]at h;erw[P4]at h;split at h
    .cases h;erw[P6,Q3,Rp,P1,aaF,QT,QL,Rk];congr 1;delta eA at a;split at a;.cases a;rw[fg,pQ];rfl
     .cases c:bD (aD e) (u.takeWhile Qa) (u.dropWhile Qa)with|none=>rw[c]at a;cases a|some z=>rw[c]at a;erw[P4]at a;cases d:aN 125 z.2 with|none=>rw[d]at a;cases a|some w=>rw[d]at a;cases a;have a:=(rN e).1 _ _ z.1 z.2 c;rw[jA,bL.mp d]at a;exact a.1
    .cases h
 |.group true e=>by intro t x r h;erw[aM,jM]at h;cases b:aN 60 t with|none=>rw[b]at h;cases h|some u=>rw[b]at h;have:=bL.mp b;subst this;erw[P4]at h;cases c:cJ (aD e) (u.takeWhile Qa) (u.dropWhile Qa)with|none=>rw[c]at h;cases h|some z=>rw[c]at h;erw[P4]at h;cases d:aN 62 z.2 with|none=>rw[d]at h;cases h|some w=>rw[d]at h;cases h;have a:=(rN e).2 _ _ z.1 z.2 c;rw[jA,bL.mp d]at a;erw[P6,Q3,Rp,aaE,QT,QL,Rk];congr 1;exact a.1
theorem rN:(fs:Qh)->(∀n t ss r,bD (aD fs) n t=U (ss,r)->n++t=Qd 59 (Qz fs ss)++r/\Qz fs ss≠[])/\(∀n t ss r,cJ (aD fs) n t=U (ss,r)->n++t=Qd 59 (Qz fs ss)++r/\Qz fs ss≠[])
 |.nil=>#[λn t ss r h=>by simp[aD,bD]at h,λn t ss r h=>by simp[aD,cJ]at h]|.cons a k d=>by
  have g:=val_back k;have#[i,m]:=rN d;constructor
  .intro n t ss r h;erw[aD,bD]at h;split at h
   .rename_i f;subst f;cases b:aN 58 t with
    |none=>rw[b]at h;cases h|some u=>
     rw[b]at h;have:=bL.mp b;subst this;erw[P4]at h;cases c:aT (λt=>aM k t) 44 u with
     |none=>rw[c]at h;cases h|some x=>
      rw[c]at h;erw[P4]at h;have#[e,a]:=tR g c;have j:x.1.isEmpty=false:=by cases l:x.1 with|nil=>exact absurd l a|cons _ _=>rfl
      split at h;.rename_i l o;cases a:bD (aD d) (l.takeWhile Qa) (l.dropWhile Qa)with|none=>rw[a]at h;cases h|some y=>rw[a]at h;cases h;have#[l,p]:=i _ _ y.1 y.2 a;rw[jA]at l;erw[Qz,j,P1,aaF];refine#[?_,by simp];rw[iH _ _ p,e,o];erw[QL,QT];rw[<-l]
      .cases h;erw[Qz,j,P1,aaF,fg,pQ];refine#[?_,by simp];erw[Qd,QL,QT];rw[<-e]
   .cases a:bD (aD d) n t with|none=>rw[a]at h;cases h|some y=>rw[a]at h;cases h;exact i _ _ y.1 y.2 a
  .intro n t ss r h;erw[aD,cJ]at h;split at h;.rename_i f;subst f;cases b:aN 58 t with|none=>rw[b]at h;cases h|some u=>rw[b]at h;have:=bL.mp b;subst this;erw[P4]at h;cases c:aM k u with|none=>rw[c]at h;cases h|some x=>rw[c]at h;cases h;have e:=g u x.1 x.2 c;erw[Qz,ZX,P1,aaF,fg,pQ];refine#[?_,by simp];erw[Qd,Ql,SE,QL,QT];rw[<-e]
   .cases a:cJ (aD d) n t with|none=>rw[a]at h;cases h|some y=>rw[a]at h;cases h;exact m _ _ y.1 y.2 a
end
def NA{fs:Qh}{t:Qv}{v:Sk}(h:eF fs t=U v):SD fs v=t:=by
 unfold eF at h;split at h;.cases h
 .cases a:aM (.group false fs) t with
  |none=>rw[a]at h;cases h|some x=>
   rw[a]at h;erw[P4]at h;split at h;.rename_i b;cases h;have:=val_back (.group false fs) t x.1 x.2 a;rw[b,Rr]at this;exact this.symm
   .cases h
end
section
open Vacola (Lit)
set_option tactic.hygienic true
def aW{b c d:Type}{x:Except b c}{f:c->Except b d}{y:d}:(x>>=f)=.ok y↔∃a,x=.ok a/\f a=.ok y:=by induction x<;>simp[bind,YJ]
def aH{b c:Type}{x:Option b}{f:b->Option c}{y:c}:x.bind f=U y↔∃a,x=U a/\f a=U y:=by induction x<;>simp
def omap{b c:Type}{x:Option b}{f:b->c}{y:c}:x.map f=U y↔∃a,x=U a/\f a=y:=by induction x<;>simp
def bA{A:Type}{n:Nat}{t:Qv}{x:A}:(UG n t:Except aah A)=.ok x↔False:=by unfold UG;simp
def Agree(m:ag Sk)(s:Qv->Except aah (Sk×Qv)):Prop:=∀t x r,(m t=U (x,r)->s t=.ok (x,r))/\(s t=.ok (x,r)->iA r->m t=U (x,r))
def ll(a:ZL)(b:Option<|Option Lit)(vs:List Sk):Prop:=match a with|.one=>∃v,vs=[v]|.opt=>∃v,vs=[v]|.many=>vs≠[]|.keyed=>∃v r,vs=v::r/\(b.any λp=>!Uk p (R5 v))=false/\RJ (v::r)=true
def sV(a:vs≠[]):ll mode O vs↔QK mode vs=true:=by
 obtain⟨v,r,rfl⟩:∃v r,vs=v::r:=by induction vs with|nil=>exact absurd rfl a|cons v r=>exact#[v,r,G]
 induction mode with
 |keyed=>
  constructor;.rintro⟨a,b,e,_,h⟩;cases e;exact h
  .intro h;exact#[v,r,G,G,h]
 |_=>simp[ll,QK]
def vR(t:Qv)(c:Nat):(∃r,t=c::r)\/(∀r,t=c::r->False):=by
 by_cases h:∃r,t=c::r;.exact .inl h
 .exact .inr λr e=>h #[r,e]
def BM{c:Nat}(h:∀r,t=c::r->False):bR p c t=U ([],t):=by induction t with|nil=>rfl|cons d r=>exact gb (λe=>h r<|by rw[e])
def lg{c:Nat}(h:QD c=false):iA (c::r):=by intro d s e;cases e;exact h
def occ_eq{one:Qv->Except aah (Sk×Qv)}{m:ZL}{f:Nat}{a:Option (Option Lit)}{t:Qv}{vs:List Sk}{u:Qv}:TQ one m (f+1) a t=.ok (vs,u)↔
    ∃v r,one t=.ok (v,r)/\¬(m=.keyed/\(a.any λp=>!Uk p (R5 v))=true)/\
     ((∃s,r=44::s/\¬(m=.one\/m=.opt)/\∃b,vs=v::b/\TQ one m f (U<|R5 v) s=.ok (b,u))\/((∀s,r=44::s->False)/\vs=[v]/\u=r)):=by
 refine Iff.trans aW ?_;constructor
 .rintro⟨⟨v,r⟩,c,a⟩;refine#[v,r,c,?_];simp only at a;split at a;.exact absurd a (by simp[bA])
  .rename_i d;refine#[d,?_];split at a
   .rename_i s;split at a;.exact absurd a (by simp[bA])
    .rename_i g;rw[aW]at a;have#[#[b,i],h,e]:=a;cases e;exact .inl #[s,G,g,b,G,h]
   .rename_i i;cases a;exact .inr #[λs e=>i s e,G,G]
 .rintro⟨v,r,c,d,a⟩;refine#[(v,r),c,?_];simp only;rw[aaC d];rcases a with⟨s,rfl,g,b,rfl,h⟩|⟨i,rfl,rfl⟩;.simp only;rw[aaC g,aW];exact#[(b,u),h,G]
  .split;.exact absurd rfl<|i _
   .rfl
theorem gW{m:ag Sk}{s:Qv->Except aah (Sk×Qv)}(l:Agree m s)(hl:Le m)(c:ZL):∀(f:Nat)(i:Option<|Option Lit)(t:Qv)(vs:List Sk)(u:Qv),t.length<f->
  ((aT m 44 t=U (vs,u)/\ll c i vs)->TQ s c f i t=.ok (vs,u))/\
  (TQ s c f i t=.ok (vs,u)->iA u->aT m 44 t=U (vs,u)/\ll c i vs)
 |0,_,_,_,_,h=>absurd h ∅|f+1,i,t,vs,u,a=>by
  rw[occ_eq];constructor
  .rintro⟨n,g⟩;unfold aT at n;have#[#[v,r],o,a]:=aH.mp n;have#[#[h,w],d,p]:=omap.mp a;cases p;simp only at d;refine#[v,r,(l t v r).1 o,?_,?_];.rintro⟨rfl,q⟩;have#[A,x,e,a,_]:=g;cases e;rw[q]at a;cases a
   .rcases vR r 44 with⟨j,rfl⟩|z
    .rw[fC hl]at d;have k:h≠[]:=by intro e;unfold aT at d;have#[a,_,y]:=aH.mp d;have#[b,_,a]:=omap.mp y;cases a;cases e
     have y:=hl t v (44::j) o;erw[P0]at y;refine .inl #[j,G,?_,h,G,(gW l hl c f (U<|R5 v) j h w ∅).1 #[d,?_]]
     .rintro(rfl|rfl);.have#[w,e]:=g;exact k (by cases e;rfl)
      .have#[w,e]:=g;exact k (by cases e;rfl)
     .induction c with
      |one=>have#[w,e]:=g;exact absurd (by cases e;rfl) k|opt=>have#[w,e]:=g;exact absurd (by cases e;rfl) k|many=>exact k|keyed=>
       have#[A,x,e,_,a]:=g;cases e;obtain⟨w,b,rfl⟩:∃w b,h=w::b:=by induction h with|nil=>exact absurd rfl k|cons w b=>exact#[w,b,G]
       erw[RJ,QH]at a;refine#[w,b,G,?_,a.2];erw[ZV,a.1,QR]
    .rw[BM z]at d;cases d;exact .inr #[z,G,G]
  .rintro⟨v,r,n,e,g⟩k;rcases g with⟨j,rfl,g,h,rfl,o⟩|⟨r,rfl,rfl⟩
   .have b:=(l t v (44::j)).2 n (lg<|by decide);have y:=hl t v (44::j) b;erw[P0]at y;have#[d,p]:=(gW l hl c f (U<|R5 v) j h u ∅).2 o k;refine#[?_,?_];.unfold aT;rw[b];erw[P4];rw[fC hl,d];rfl
    .induction c with
     |one=>exact absurd (.inl G) g|opt=>exact absurd (.inr G) g|many=>simp[ll]|keyed=>
      have#[w,x,rfl,q,a]:=p;refine#[v,w::x,G,?_,?_];.cases d:(i.any λp=>!Uk p (R5 v))with|false=>rfl|true=>exact absurd #[G,d] e
      .erw[ZV,Bool.not_eq_false']at q;erw[RJ,q,a,Yy]
   .have b:=(l t v _).2 n k;refine#[?_,?_];.unfold aT;rw[b];erw[P4];rw[BM r];rfl
    .induction c with|one=>exact#[v,G]|opt=>exact#[v,G]|many=>simp[ll]|keyed=>refine#[v,[],G,?_,G];cases d:(i.any λp=>!Uk p (R5 v))with|false=>rfl|true=>exact absurd #[G,d] e
def gI{c:Nat}{t r:Qv}:aaf c t=.ok r↔t=c::r:=by
 unfold aaf;induction t with
 |nil=>simp[bA]|cons d s=>
  simp only;split;.rename_i h;subst h;simp
  .rename_i h;simp[bA,h]
def vG{fs:Qh}:(fs.byName n).isNone=false↔∃x∈fs.list,x.1.name=n:=by unfold Vacola.Fields.byName;rw[Option.isNone_eq_false_iff,List.find?_isSome];simp
def kL{fs:Qh}{t:Qv}{e:aar}:Xf fs t=.ok e↔R8 (t.takeWhile Qa)=true/\(∃x∈fs.list,x.1.name=t.takeWhile Qa)/\e={name:=U<|t.takeWhile Qa,here:=t}:=by
 unfold Xf;simp only;split;.rename_i h;simp[bA,h]
 .rename_i h;split
  .rename_i a;have:¬∃x∈fs.list,x.1.name=t.takeWhile Qa:=by rw[<-vG,a];simp
   erw[bA];constructor;.exact Rx
   .rintro⟨_,b,_⟩;exact this b
  .rename_i a;have:∃x∈fs.list,x.1.name=t.takeWhile Qa:=by rw[<-vG];cases c:(fs.byName<|t.takeWhile Qa).isNone with|false=>rfl|true=>exact absurd c a
   constructor;.intro b;cases b;exact#[by simpa using h,this,G]
   .rintro⟨_,_,rfl⟩;rfl
theorem tY:∀(fs:Qh)(n t:Qv)(x:List (List Sk)×Qv),bD (aD fs) n t=U x->∃y∈fs.list,y.1.name=n
 |.nil,n,t,x,h=>by simp[aD,bD]at h|.cons b k r,n,t,x,h=>by
  erw[aD,bD]at h;split at h;.rename_i a;exact#[(b,k),by simp[PZ],a]
  .have#[y,b,_]:=omap.mp h;have#[z,c,a]:=tY r n t y b;exact#[z,by simp[PZ,c],a]
theorem Cu:∀(fs:Qh)(n t:Qv)(x:List (List Sk)×Qv),cJ (aD fs) n t=U x->(∃y∈fs.list,y.1.name=n)/\∃s,t=58::s
 |.nil,n,t,x,h=>by simp[aD,cJ]at h|.cons c k r,n,t,x,h=>by
  erw[aD,cJ]at h;split at h;.rename_i a;have#[s,b,_]:=aH.mp h;exact#[#[(c,k),by simp[PZ],a],s,bL.mp b]
  .have#[y,c,_]:=omap.mp h;have#[#[z,d,a],b]:=Cu r n t y c;exact#[#[z,by simp[PZ,d],a],b]
theorem qi:∀{c:Bool}{fs:Qh},cV c fs->∀x∈fs.list,R8 x.1.name=true
 |c,.nil,_,x,h=>by simp[PZ]at h|c,.cons b k r,a,x,h=>by
  erw[cV]at a;rcases Qp.mp h with rfl|h;.exact a.1
  .exact qi a.2.2.2.2.2.2.2.2.2 x h
theorem kK:∀(fs:Qh)(a:Qv)(ss:List<|List Sk)(w:Qv),Ub fs {name:=O,here:=a}=.ok (ss,w)↔ss=(fs.list.map λ_=>[])/\w=a.drop 1/\d9 (aD fs) (fs.list.map λ_=>[])=true
 |.nil,a,ss,w=>by
  constructor;.intro h;cases h;exact#[G,G,G]
  .rintro⟨rfl,rfl,_⟩;rfl
 |.cons b k r,a,ss,w=>by
  erw[Ub,PZ,Ql];rw[aaC<|by intro e;cases e];have c:d9 (aD<|.cons b k r) ([]::r.list.map λ_=>[])=(QK b.mode []&&d9 (aD r) (r.list.map λ_=>[])):=by erw[aD,d9,Tc,Tz]
  rw[c];by_cases c:b.mode=.one;.rw[aaD c,c];simp[bA,QK]
  .rw[aaC c];have d:QK b.mode []=true:=by cases h:b.mode with|one=>exact absurd h c|_=>rfl
   rw[d,U7,aW];constructor;.rintro⟨⟨c,d⟩,e,b⟩;cases b;have#[rfl,rfl,b]:=(kK r a c d).mp e;exact#[G,G,b]
   .rintro⟨rfl,rfl,b⟩;exact#[(r.list.map λ_=>[],_),(kK r a _ _).mpr #[G,G,b],G]
def oZ{fs:Qh}{t:Qv}{e:aar}:Zq fs t=.ok e↔(∃r,t=59::r/\Xf fs r=.ok e)\/(∃r,t=125::r/\e={name:=O,here:=t}):=by
 delta Zq;split;.simp
 .constructor;.intro h;cases h;exact .inr #[_,G,G]
  .rintro(⟨r,h,_⟩|⟨r,h,rfl⟩);.cases h
   .rfl
 .rename_i a b;erw[bA,false_iff];rintro(⟨r,h,_⟩|⟨r,h,_⟩);.exact a r h
  .exact b r h
def qy(fs:Qh):Prop:=∀(here:Qv)(a:List<|List Sk)(w:Qv),
    (bD (aD fs) (here.takeWhile Qa) (here.dropWhile Qa)=U (a,125::w)/\d9 (aD fs) a=true->Ub fs {name:=U<|here.takeWhile Qa,here:=here}=.ok (a,w))/\
    (Ub fs {name:=U<|here.takeWhile Qa,here:=here}=.ok (a,w)->(∃x∈fs.list,x.1.name=here.takeWhile Qa)->bD (aD fs) (here.takeWhile Qa) (here.dropWhile Qa)=U (a,125::w)/\d9 (aD fs) a=true)
def qI(fs:Qh):Prop:=∀(n s:Qv)(a:List<|List Sk)(u:Qv),
    (cJ (aD fs) n (58::s)=U (a,u)->VO fs n s=.ok (a,u))/\(VO fs n s=.ok (a,u)->iA u->cJ (aD fs) n (58::s)=U (a,u))
def jw{a:Td}:d9 (aD<|.cons a k r) (o::ss)=(QK a.mode o&&d9 (aD r) ss):=by erw[aD,d9,Tc,Tz]
def Oe{a:Td}{k:Sa}{r:Qh}(q:Agree (λt=>aM k t) λt=>T7 k t)(m:Back (λt=>aM k t) k)(C:∀x∈r.list,R8 x.1.name=true)(hr:qy r):qy<|.cons a k r:=by
 intro v b w;erw[aD,bD,Ub];by_cases n:a.name=v.takeWhile Qa
 .rw[aaD n,aaD<|by rw[n]];constructor
  .rintro⟨g,b⟩;have#[s,j,i]:=aH.mp g;have#[#[h,u],o,l]:=aH.mp i;have p:=(tR m o).2;rw[aW];refine#[s,gI.mpr<|bL.mp j,?_];rw[aW];simp only at l;split at l;.rename_i f;have#[#[c,A],d,y]:=omap.mp l;cases y;rw[show(a,λt=>aM k t)::aD r=aD (.cons a k r)from G,jw,QH]at b;refine#[(h,59::f),(gW q m.le a.mode _ O s h _<|S8 _).1 #[o,(sV p).mpr b.1],?_];simp only;rw[aW];have D:=tY r _ _ _ d;have#[z,e,B]:=D;refine#[_,oZ.mpr<|.inl #[f,G,kL.mpr #[by rw[<-B];exact C z e,#[z,e,B],G]],?_];rw[aW];exact#[(c,w),(hr f c w).1 #[d,b.2],G]
   .cases l;rw[show(a,λt=>aM k t)::aD r=aD (.cons a k r)from G,jw,QH,fg]at b;refine#[(h,125::w),(gW q m.le a.mode _ O s h _<|S8 _).1 #[o,(sV p).mpr b.1],?_];simp only;rw[aW];refine#[_,oZ.mpr<|.inr #[w,G,G],?_];rw[aW];refine#[(_,w),(kK r _ _ w).mpr #[G,G,b.2],?_];rw[fg]
  .intro g _;have#[s,j,b]:=aW.mp g;have#[#[h,u],o,i]:=aW.mp b;have#[e,z,l]:=aW.mp i;have#[#[c,B],d,y]:=aW.mp l;cases y;simp only at z;have C:iA u:=by
    rcases oZ.mp z with⟨f,rfl,_⟩|⟨f,rfl,_⟩;.exact lg (by decide)
    .exact lg (by decide)
   have#[y,l]:=(gW q m.le a.mode _ O s h u<|S8 _).2 o C;have p:=(tR m y).2;rw[bL.mpr<|gI.mp j];erw[P4];rw[y];erw[P4];rw[show(a,λt=>aM k t)::aD r=aD (.cons a k r)from G,jw,(sV p).mp l,U7];rcases oZ.mp z with⟨f,rfl,h⟩|⟨f,rfl,rfl⟩;.have#[_,p,rfl]:=kL.mp h;have#[m,o]:=(hr f c _).2 d p;simp only;rw[m];exact#[G,o]
   .have#[rfl,rfl,m]:=(kK r _ _ _).mp d;simp only;rw[fg];exact#[G,m]
 .rw[aaC n,aaC<|by intro e;exact n (QO e).symm];by_cases l:a.mode=.one
  .rw[aaD l];constructor;.rintro⟨g,b⟩;have#[#[y,A],_,i]:=omap.mp g;cases i;rw[show(a,λt=>aM k t)::aD r=aD (.cons a k r)from G,jw,l]at b;cases b
   .intro h;exact absurd h (by simp[bA])
  .rw[aaC l];have j:QK a.mode []=true:=by cases h:a.mode with|one=>exact absurd h l|_=>rfl
   rw[aW];constructor;.rintro⟨g,b⟩;have#[#[c,A],d,i]:=omap.mp g;cases i;rw[show(a,λt=>aM k t)::aD r=aD (.cons a k r)from G,jw,j,U7]at b;exact#[(c,w),(hr v c w).1 #[d,b],G]
   .rintro⟨⟨c,B⟩,d,b⟩⟨x,e,f⟩;cases b;have b:x∈r.list:=by
     rcases Qp.mp e with rfl|e;.exact absurd f n
     .exact e
    have#[m,o]:=(hr v c _).2 d #[x,b,f];rw[m,show(a,λt=>aM k t)::aD r=aD (.cons a k r)from G,jw,j,U7];exact#[G,o]
def OA{a:Td}{k:Sa}{r:Qh}(f:Agree (λt=>aM k t) λt=>T7 k t)(hr:qI r):qI<|.cons a k r:=by
 intro n s b u;erw[aD,cJ,VO];by_cases c:a.name=n
 .rw[aaD c,aaD c,aW];rw[bL.mpr G];erw[P4];constructor;.intro h;have#[#[v,a],d,b]:=omap.mp h;cases b;refine#[(v,a),(f s v a).1 d,?_];rw[fg]
  .rintro⟨⟨v,a⟩,d,b⟩e;cases b;have:=(f s v a).2 d e;simp only at this;rw[this,Qm,fg]
 .rw[aaC c,aaC c,aW];constructor;.intro h;have#[#[c,a],d,b]:=omap.mp h;cases b;exact#[(c,a),(hr n s c a).1 d,G]
  .rintro⟨⟨c,a⟩,d,b⟩e;cases b;rw[(hr n s c a).2 d e];rfl
mutual
theorem CW:(k:Sa)->aI k->Agree (λt=>aM k t) (λt=>T7 k t)
 |.leaf l,f=>by
  intro t x r;erw[aM,T7,Vacolb.readLeafVal];constructor;.intro h;have#[#[v,Q],A,g]:=omap.mp h;cases g;have#[c,i]:=Bs A;rw[c];simp only;rw[aaD i]
  .intro h H;split at h;.exact absurd h (by simp[bA])
   .rename_i v Q A;split at h;.rename_i R;cases h;erw[aI]at f;rw[x6 f A R H];rfl
    .exact absurd h (by simp[bA])
 |.group false j,f=>by
  erw[aI]at f;have B:=(rM false j f.2).1;have I:=qi f.2;intro t x r;erw[aM,j8,T7];rw[aW];constructor
  .intro h;have#[u,p,g]:=aH.mp h;have#[#[m,w],E,c]:=aH.mp g;simp only at c;split at c
   .rename_i J;cases c;refine#[u,gI.mpr<|bL.mp p,?_];rw[aW];delta eA at E;split at E;.rename_i K;cases E;refine#[{name:=O,here:=125::r},by simp[WR],?_];rw[aW];rw[fg]at J⊢;exact#[(_,r),(kK j _ _ r).mpr #[G,G,J],G]
    .rename_i S;have#[#[N,P],d,i]:=aH.mp E;have#[v,A,q]:=omap.mp i;cases q;have n:=bL.mp A;simp only at n;subst n;have#[z,o,C]:=tY j _ _ _ d;apply Exists.intro;refine And.intro ?_ ?_
     .unfold WR;rw[aaC];.exact kL.mpr #[by rw[<-C];exact I z o,#[z,o,C],G]
      .intro e;induction u with|nil=>cases e|cons a b=>simp at e;exact S b (by rw[e])
     .rw[aW];exact#[(N,r),(B u N r).1 #[d,J],G]
   .cases c
  .rintro⟨u,p,g⟩H;have#[e,y,c]:=aW.mp g;have#[#[m,w],d,i]:=aW.mp c;cases i;rw[bL.mpr<|gI.mp p];erw[P4];unfold WR at y;split at y
   .rename_i D;cases y;obtain⟨K,rfl⟩:∃K,u=125::K:=by induction u with|nil=>cases D|cons a b=>simp at D;exact#[b,by rw[D]]
    have#[rfl,rfl,q]:=(kK j _ _ _).mp d;erw[P4];rw[fg,aaD q]
   .rename_i D;have#[_,q,rfl]:=kL.mp y;have#[L,T]:=(B u m w).2 d q;have V:eA (aD j) u=U (m,w):=by
     delta eA;split;.exact absurd rfl D
     .rw[L];simp[aN]
    rw[V];erw[P4];rw[aaD T]
 |.group true j,f=>by
  erw[aI]at f;have B:=(rM true j f.2).2;have I:=qi f.2;intro t x r;erw[aM,jM,T7];rw[aW];constructor;.intro h;have#[u,p,g]:=aH.mp h;have#[#[m,P],d,c]:=aH.mp g;have#[w,M,i]:=omap.mp c;cases i;have n:=bL.mp M;simp only at n;subst n;have#[#[z,o,C],s,F]:=Cu j _ _ _ d;refine#[u,gI.mpr<|bL.mp p,?_];rw[aW];refine#[_,kL.mpr #[by rw[<-C];exact I z o,#[z,o,C],G],?_];rw[aW];refine#[s,gI.mpr F,?_];rw[aW];rw[F]at d;refine#[(m,62::r),(B _ s m _).1 d,?_];simp only;rw[aW];exact#[r,gI.mpr G,G]
  .rintro⟨u,p,g⟩H;have#[e,y,c]:=aW.mp g;have#[s,F,i]:=aW.mp c;have#[#[m,P],d,q]:=aW.mp i;have#[w,M,L]:=aW.mp q;cases L;have n:=gI.mp M;simp only at n;subst n;have#[_,_,rfl]:=kL.mp y;rw[bL.mpr<|gI.mp p];erw[P4];have o:=(B _ s m _).2 d<|lg (by decide);erw[Uc]at o;rw[gI.mp F,o];simp[aN]
theorem rM:(c:Bool)->(fs:Qh)->cV c fs->qy fs/\qI fs
 |c,.nil,_=>by
  refine#[λb a w=>#[?_,?_],λn s a u=>#[?_,?_]];.rintro⟨h,_⟩;simp[aD,bD]at h
  .rintro _⟨x,a,_⟩;simp[PZ]at a
  .intro h;simp[aD,cJ]at h
  .intro h;exact absurd h (by simp[VO,bA])
 |c,.cons b k r,a=>by erw[cV]at a;have b:=CW k a.2.2.2.1;have d:=rM c r a.2.2.2.2.2.2.2.2.2;exact#[Oe b (val_back k) (qi a.2.2.2.2.2.2.2.2.2) d.1,OA b d.2]
end
def BD(b:aI<|.group false fs)(t:Qv):eF fs t=(UE fs t).toOption:=by
 unfold eF UE;split;.rename_i h;rw[aaD (show Vacolb.MOST<t.length from h)];rfl
 .rename_i h;rw[aaC (show¬Vacolb.MOST<t.length from h)];have a:=CW (.group false fs) b t;cases b:aM (.group false fs) t with
  |some x=>
   have:=(a x.1 x.2).1 b;simp only at this;rw[this];erw[P4,bind,YJ];split;.rfl
   .rfl
  |none=>
   cases c:T7 (.group false fs) t with
   |error e=>rfl|ok x=>
    erw[UT,bind,YJ];split;.rename_i d;have:=(a x.1 x.2).2 c (by rw[d];intro c r e;cases e);simp only at this;rw[b]at this;cases this
    .rfl
end
section
open Vacola (Lit Kind)
set_option tactic.hygienic true
noncomputable def cN(lo hi:Nat)(t:Qv):Option<|Nat×Qv:=(bX t).bind λx=>if x.1<lo\/hi<x.1 then O else U x
noncomputable def fY(t:Qv):Option<|Qv×Qv:=if R8 (t.takeWhile Qa)=true then U (t.takeWhile Qa,t.dropWhile Qa)else O
noncomputable def jm:Qv->Option (ZL×Qv)|c::r=>(Tt c).map λm=>(m,r)|[]=>O
noncomputable def dg:Qv->Option (Xl×Qv)|98::r=>U (.bit,r)|105::r=>(cN 2 64 r).map λx=>(.int x.1,x.2)|116::r=>(cN 1 999 r).map λx=>(.text x.1,x.2)|_=>O
noncomputable def eN(c:Bool)(m:ZL)(k:Sa):Qv->Option (Option Lit×Qv)
 |61::r=>match c,m,k with
  |false,.one,.leaf l=>(dQ l r).map λx=>(U x.1,x.2)
  |_,_,_=>O
 |t=>U (O,t)
noncomputable def fP(c:Bool)(m:ZL)(k:Sa):Bool:=(c&&m !=.one)||(m==.keyed&&(QI k).isNone)
noncomputable def d0(kp:ag Sa)(c:Bool)(t:Qv):Option<|(Td×Sa)×Qv:=
 (cN 1 999 t).bind λn=>(fY n.2).bind λa=>(jm a.2).bind λm=>(kp m.2).bind λk=>
  if fP c m.1 k.1 then O else(eN c m.1 k.1 k.2).map λd=>(({number:=n.1,name:=a.1,mode:=m.1,dflt:=d.1},k.1),d.2)
noncomputable def ofList:List (Td×Sa)->Qh|[]=>.nil|x::r=>.cons x.1 x.2<|ofList r
noncomputable def c8:List Nat->Bool|a::b::r=>decide (a<b)&&c8 (b::r)|_=>true
noncomputable def jf(xs:List<|Td×Sa):Bool:=c8 (xs.map λx=>x.1.number)&&decide ((xs.map λx=>x.1.name).Nodup)
noncomputable def de(kp:ag Sa)(c:Bool)(r:Qv):Option<|Sa×Qv:=(aT (d0 kp c) 59 r).bind λx=>(aN (Rp c) x.2).bind λu=>if jf x.1 then U (.group c<|ofList x.1,u)else O
noncomputable def bj:Nat->ag Sa
 |0,t=>(dg t).map λx=>(.leaf x.1,x.2)|d+1,t=>match t with
  |123::r=>de (bj d) false r
  |60::r=>de (bj d) true r
  |_=>(dg t).map λx=>(.leaf x.1,x.2)
noncomputable def fieldsOf:Sa->Qh|.group _ a=>a|.leaf _=>.nil
noncomputable def d6(t:Qv):Option Qh:=if 2000<t.length then O else(aN 123 t).bind λr=>(de (bj 5) false r).bind λx=>if x.2≠[]\/40<Q0 x.1 then O else U (fieldsOf x.1)
theorem oO:∀xs:List<|Td×Sa,(ofList xs).list=xs|[]=>rfl|x::r=>by erw[ofList,PZ,oO r]
def Pe:∀(n:Nat)(p:List Nat),p.length=n->(∀c∈p,QD c=true)->Ru p<10^n:=by
 intro n;induction n with
 |zero=>intro p a _;rw[Qj.mp a];decide|succ n f=>
  intro p a b;have d:p≠[]:=by intro e;rw[e]at a;cases a
  obtain⟨q,c,rfl⟩:∃q c,p=q++[c]:=#[p.dropLast,p.getLast d,(SM d).symm];have d:q.length=n:=by simpa using a
  have:=f q d (λx a=>b x<|by simp[a]);have a:=iX.mp<|b c (by simp);rw[lP,YV];lia
def gU{lo hi:Nat}{n:Nat}:cN lo hi t=U (n,r)↔bX t=U (n,r)/\lo<=n/\n<=hi:=by
 unfold cN;rw[aH];constructor
 .rintro⟨⟨m,s⟩,b,a⟩;simp only at a;split at a;.cases a
  .cases a;exact#[b,∅,∅]
 .rintro⟨b,a,c⟩;refine#[(n,r),b,?_];simp only;rw[aaC ∅]
def m6{n:Nat}:Zs t=U (n,r)↔cN 1 999 t=U (n,r):=by
 rw[gU];unfold Zs bX;simp only;have f:=p5 QD t;generalize t.takeWhile QD=p at f⊢;constructor
 .intro h;split at h;.cases h
  .rename_i d;erw[not_or,VE]at d;cases h;refine#[?_,uK _ p G f d.1 d.2.1,?_]
   .rw[aaC];rintro(e|e|⟨_,e⟩);.lia
    .exact d.1 e
    .exact d.2.1 e
   .have:=Pe _ p rfl f;have a:10^p.length<=10^3:=Tv ∅ d.2.2;lia
 .rintro⟨h,i,a⟩;split at h;.cases h
  .rename_i d;erw[not_or,not_and,VE]at d;cases h;have h:p.head?≠U 48:=by
    intro e;by_cases g:1<p.length;.exact d.2.2 g e
    .obtain⟨c,rfl⟩:∃c,p=[c]:=by match p,d.2.1,g with|[c],_,_=>exact#[c,G]|a::b::q,_,g=>simp at g
     simp at e;subst e;simp[Ru]at i
   rw[aaC];rintro(e|e|e);.exact d.2.1 e
   .exact h e
   .obtain⟨m,a⟩:∃m,p.length=m+1:=#[p.length-1,∅];have:=Dk m p a f h;have a:10^3<=10^m:=Tv ∅ ∅;lia
def pP{lo hi:Nat}{mk:Nat->Xl}(a:1<=lo)(b:hi<=999):aas t r lo hi mk=.ok (l,s)↔∃n,cN lo hi r=U (n,s)/\l=mk n:=by
 unfold aas;constructor
 .intro h;split at h;.exact absurd h (by simp[bA])
  .rename_i n a a;split at h;.rename_i b;cases h;have:=gU.mp<|m6.mp a;exact#[n,gU.mpr #[this.1,b.1,b.2],G]
   .exact absurd h (by simp[bA])
 .rintro⟨n,a,rfl⟩;have:=gU.mp a;rw[m6.mpr<|gU.mpr #[this.1,∅,∅]];simp only;rw[aaD this.2]
def oF{c:Nat}:TV c t=.ok (l,s)↔dg t=U (l,s)/\c<40:=by
 delta TV;rw[aW];have g:∀x:Xl×Qv,(if Vacola.LEAVES<=c then UG 8 t else(.ok x:Except aah<|Xl×Qv))=.ok (l,s)↔x=(l,s)/\c<40:=by
  intro x;split;.rename_i h;have h:40<=c:=h;erw[bA,false_iff];lia
  .rename_i h;have h:¬40<=c:=h;erw[Zb];constructor;.intro e;exact#[e,∅]
   .exactλe=>e.1
 constructor
 .rintro⟨x,a,i⟩;have#[rfl,d]:=(g x).mp i;refine#[?_,d];delta dg;split at a;.cases a;rfl
  .have#[n,b,rfl]:=(pP ∅ ∅).mp a;simp only;rw[b];rfl
  .have#[n,b,rfl]:=(pP ∅ ∅).mp a;simp only;rw[b];rfl
  .exact absurd a (by simp[bA])
 .rintro⟨a,d⟩;refine#[(l,s),?_,(g _).mpr #[G,d]];delta dg at a;split at a;.cases a;rfl
  .have#[#[n,j],b,f]:=omap.mp a;cases f;simp only;exact(pP ∅ ∅).mpr #[n,b,G]
  .have#[#[n,j],b,f]:=omap.mp a;cases f;simp only;exact(pP ∅ ∅).mpr #[n,b,G]
  .cases a
def sQ{a:List Td}{n:Nat}:WT a t=.ok (n,r)↔cN 1 999 t=U (n,r)/\∀h,a.head?=U h->h.number<n:=by
 unfold WT;constructor
 .intro h;split at h;.exact absurd h (by simp[bA])
  .rename_i a a a;split at h;.cases h;exact#[m6.mp a,λh e=>by cases e]
   .rename_i b c;split at h;.rename_i d;cases h;exact#[m6.mp a,λh e=>by cases e;exact d]
    .exact absurd h (by simp[bA])
 .rintro⟨a,d⟩;rw[m6.mpr a];simp only;split;.rfl
  .rename_i b c;rw[aaD<|d b G]
def sJ:Xu before t=.ok (n,r)↔fY t=U (n,r)/\∀h∈before,h.name≠n:=by
 unfold Xu fY;simp only;constructor
 .intro h;split at h;.exact absurd h (by simp[bA])
  .rename_i a;split at h;.exact absurd h (by simp[bA])
   .rename_i c;cases h;refine#[aaD<|by simpa using a,λx b e=>c ?_];rw[V0];exact#[x,b,by simp[e]]
 .rintro⟨c,d⟩;split at c;.rename_i a;cases c;rw[aaC<|by simp[a],aaC];rw[V0];rintro⟨x,b,e⟩;exact d x b (by simpa using e)
  .cases c
def sH{c:Bool}:Xv c t=.ok (m,r)↔jm t=U (m,r)/\¬(c=true/\m≠.one):=by
 unfold Xv jm;cases t with
 |nil=>simp[bA]|cons a s=>
  simp only;cases b:Tt a with
  |none=>simp[bA]|some a=>
   erw[Qm,QS,SR];split;.rename_i h;erw[bA,false_iff];rintro⟨⟨rfl,rfl⟩,a⟩;exact a h
   .rename_i h;constructor;.intro e;cases e;exact#[#[G,G],h]
    .rintro⟨⟨rfl,rfl⟩,_⟩;rfl
def v7{c:Bool}(h:eN c m k t=U (d,r)):Us c m k t=.ok (d,r):=by
 delta eN at h;delta Us;split at h
 .rename_i a;simp only;split at h;.rename_i l;have#[#[v,s],b,e]:=omap.mp h;cases e;have#[e,f]:=Bs b;simp only;rw[e];simp only;rw[aaD f]
  .cases h
 .rename_i b;cases h;split;.rename_i a;exact absurd rfl<|b a
  .rfl
def Nl{c:Bool}(hk:aI k)(h:Us c m k t=.ok (d,r))(hr:iA r):eN c m k t=U (d,r):=by
 delta Us at h;delta eN;split at h
 .rename_i a;simp only;split at h
  .rename_i l;simp only;split at h;.exact absurd h (by simp[bA])
   .rename_i v s b;split at h;.rename_i e;cases h;erw[aI]at hk;rw[x6 hk b e hr];rfl
    .exact absurd h (by simp[bA])
  .exact absurd h (by simp[bA])
 .rename_i b;cases h;split;.rename_i a;exact absurd rfl<|b a
  .rfl
def qV{c:Bool}:fP c m k=true↔(c=true/\m≠.one)\/(m=.keyed/\(QI k).isNone=true):=by unfold fP;simp
def nX{c:Bool}{h:Td}:d0 kp c t=U ((h,k),r)↔∃b f g i,cN 1 999 t=U (h.number,b)/\fY b=U (h.name,f)/\jm f=U (h.mode,g)/\kp g=U (k,i)/\fP c h.mode k=false/\eN c h.mode k i=U (h.dflt,r):=by
 unfold d0;constructor
 .intro e;have#[#[n,b],j,e]:=aH.mp e;have#[#[a,f],l,e]:=aH.mp e;have#[#[m,g],a,e]:=aH.mp e;have#[#[d,i],m,e]:=aH.mp e;simp only at e;split at e;.cases e
  .rename_i n;have#[#[d,p],o,e]:=omap.mp e;cases e;exact#[b,f,g,i,j,l,a,m,by simpa using n,o]
 .rintro⟨b,f,g,i,j,l,a,m,n,o⟩;erw[j,l,a,m,o,n,P4,Qm,P1,aaF]
inductive uM(f depth used:Nat)(t3 t4:Qv)(k:Sa):Prop
 |mk(b:Bool)(r:Qv)(fs':Qh)(_:t3=Q3 b::r)(_:depth<6)(_:SI f (depth+1) b [] used r=.ok (fs',t4))(_:k=.group b fs')
inductive uN(f depth:Nat)(c:Bool)(before:List Td)(used:Nat)(h:Td)(k:Sa)(t5 s:Qv)(fs:Qh):Prop
 |mk(r:Qv)(rest:Qh)(_:t5=59::r)(_:SI f depth c (h::before) (used+Q0 k) r=.ok (rest,s))(_:fs=.cons h k rest)
inductive FE(f depth:Nat)(c:Bool)(before:List Td)(used:Nat)(t s:Qv)(fs:Qh):Prop
 |mk(h:Td)(k:Sa)(t1 t2 t3 t4 t5:Qv)(_:WT before t=.ok (h.number,t1))(_:Xu before t1=.ok (h.name,t2))(_:Xv c t2=.ok (h.mode,t3))(_:uM f depth used t3 t4 k\/(∃l,TV used t3=.ok (l,t4)/\k=.leaf l))(_:¬(h.mode=.keyed/\(QI k).isNone=true))(_:Us c h.mode k t4=.ok (h.dflt,t5))(_:uN f depth c before used h k t5 s fs\/(t5=Rp c::s/\fs=.cons h k .nil))
def Ia{f d:Nat}{c:Bool}{m:Nat}:SI (f+1) d c before m t=.ok (fs,s)↔
    FE f d c before m t s fs:=by
 have v:∀(b:Bool)(o r:Qv)(k:Sa)(j:Qv),(if Vacola.DEEP<=d then UG 7 o else(do let(fs,s)<-SI f (d+1) b [] m r;.ok (Zt b fs,s):Except aah<|Sa×Qv))=.ok (k,j)↔d<6/\∃i,SI f (d+1) b [] m r=.ok (i,j)/\k=.group b i:=by
  intro b o r k j;split;.rename_i h;have h:6<=d:=h;erw[bA,false_iff];lia
  .rename_i h;have h:¬6<=d:=h;rw[aW];constructor;.rintro⟨⟨i,e⟩,g,q⟩;cases q;exact#[∅,i,g,G]
   .rintro⟨_,i,g,rfl⟩;exact#[(i,j),g,G]
 have B:∀(o:Qv)(k:Sa)(j:Qv),((TV m o).map λx=>(Kind.leaf x.1,x.2))=.ok (k,j)↔∃l,TV m o=.ok (l,j)/\k=.leaf l:=by
  intro o k j;cases e:TV m o with
  |error e=>simp[Except.map]|ok x=>
   have#[l,u]:=x;erw[Except.map,Zb,SR];constructor;.rintro⟨rfl,rfl⟩;exact#[l,#[G,G],G]
   .rintro⟨n,⟨rfl,rfl⟩,rfl⟩;exact#[G,G]
 have C:∀(h:Td)(k:Sa)(p:Qv),(match p with
   |[]=>UG 1 p
   |a::r=>if a=59 then(do let(n,s)<-SI f d c (h::before) (m+Q0 k) r;.ok (YD h k n,s))else if a=Rp c then .ok (YD h k .nil,r)else UG 1 p:Except aah<|Qh×Qv)=.ok (fs,s)↔
   (uN f d c before m h k p s fs\/(p=Rp c::s/\fs=.cons h k .nil)):=by
  intro h k p
  have u:Rp c≠59:=by cases c<;>decide
  cases p with
  |nil=>
   erw[bA,false_iff]
   rintro(⟨m,n,g,_⟩|⟨g,_⟩)<;>cases g
  |cons a r=>
   simp only
   split
   .rename_i d
    subst d
    rw[aW]
    constructor
    .rintro⟨⟨n,w⟩,g,q⟩
     cases q
     exact .inl #[r,n,G,g,G]
    .rintro(⟨m,n,g,q,rfl⟩|⟨g,_⟩)
     .cases g
      exact#[(n,s),q,G]
     .exact absurd (Ue g).1.symm u
   .rename_i d
    split
    .rename_i u
     subst u
     constructor
     .intro e;cases e;exact .inr #[G,G]
     .rintro(⟨m,n,g,_⟩|⟨g,rfl⟩)
      .exact absurd (Ue g).1 d
      .rw[(Ue g).2]
    .rename_i u
     erw[bA,false_iff]
     rintro(⟨m,n,g,_⟩|⟨g,_⟩)
     .cases g;exact d rfl
     .cases g;exact u rfl
 refine Iff.trans aW ?_;constructor
 .rintro⟨⟨n,w⟩,g,e⟩;have#[#[a,x],q,e]:=aW.mp e;have#[#[m,o],y,e]:=aW.mp e;have#[#[k,j],u,e]:=aW.mp e;simp only at e;split at e;.exact absurd e (by simp[bA])
  .rename_i z;have#[#[d,p],A,e]:=aW.mp e;refine#[{number:=n,name:=a,mode:=m,dflt:=d},k,w,x,o,j,p,g,q,y,?_,z,A,(C _ _ _).mp e];split at u;.rename_i r;have#[m,i,d,e]:=(v _ _ _ _ _).mp u;exact .inl #[false,r,i,G,m,d,e]
   .rename_i r;have#[m,i,d,e]:=(v _ _ _ _ _).mp u;exact .inl #[true,r,i,G,m,d,e]
   .exact .inr<|(B _ _ _).mp u
 .rintro⟨h,k,w,x,o,j,p,g,q,y,u,z,A,m⟩;refine#[(h.number,w),g,?_];rw[aW];refine#[(h.name,x),q,?_];rw[aW];refine#[(h.mode,o),y,?_];rw[aW];refine#[(k,j),?_,?_]
  .rcases u with⟨b,r,i,rfl,d,e,g⟩|⟨l,d,e⟩;.cases b with|false=>exact(v _ _ _ _ _).mpr #[d,i,e,g]|true=>exact(v _ _ _ _ _).mpr #[d,i,e,g]
   .split;.exfalso;have:=(oF.mp d).1;cases this
    .exfalso;have:=(oF.mp d).1;cases this
    .exact(B _ _ _).mpr #[l,d,e]
  .simp only;rw[aaC z,aW];exact#[(h.dflt,p),A,(C _ _ _).mpr m]
def iL{a:Type}(p:ag a)(b:a->Qv):Prop:=∀t x r,p t=U (x,r)->t=b x++r
def iL.le{a:Type}{p:ag a}{b:a->Qv}(h:iL p b):Le p:=by intro t x r e;have:=h t x r e;rw[this,P5];lia
def NX{a:Type}{p:ag a}{d:a->Qv}{c:Nat}(b:iL p d):∀(n:Nat)(t:Qv)(xs:List a)(r:Qv),t.length<=n->bR p c t=U (xs,r)->t=xs.flatMap (λx=>c::d x)++r:=by
 intro n;induction n with
 |zero=>intro t xs r a h;rw[Qj.mp<|Tx.mp a,gY]at h;cases h;exact Qj.mp<|Tx.mp a|succ n g=>
  intro t xs r a h;cases t with
  |nil=>rw[gY]at h;cases h;rfl|cons d s=>
   by_cases e:d=c;.subst e;rw[fC b.le]at h;unfold aT at h;have#[#[x,d],f,h]:=aH.mp h;have#[#[y,i],j,h]:=omap.mp h;cases h;have k:=b s x d f;have l:=b.le s x d f;erw[P0]at a;have:=g d y i ∅ j;erw[UK,QT,QL];rw[<-this,<-k]
   .rw[gb e]at h;cases h;rfl
def N2{a:Type}{p:ag a}{b:a->Qv}{c:Nat}(d:iL p b){t r:Qv}{xs:List a}(h:aT p c t=U (xs,r)):∃x ys,xs=x::ys/\t=b x++(ys.flatMap (λx=>c::b x)++r):=by unfold aT at h;have#[#[x,a],b,h]:=aH.mp h;have#[#[y,e],f,h]:=omap.mp h;cases h;refine#[x,y,G,?_];have g:=d t x a b;have b:=NX d _ a y e (Qg _) f;rw[<-b,<-g]
def NV{a:Type}{p:ag a}{c:Nat}{P:a->Prop}(hl:Le p)(hp:∀t x r,p t=U (x,r)->P x):∀(n:Nat)(t:Qv)(xs:List a)(r:Qv),t.length<=n->bR p c t=U (xs,r)->∀x∈xs,P x:=by
 intro n;induction n with
 |zero=>intro t xs r b h;rw[Qj.mp<|Tx.mp b,gY]at h;cases h;intro x a;cases a|succ n g=>
  intro t xs r b h;cases t with
  |nil=>rw[gY]at h;cases h;intro x a;cases a|cons d s=>
   by_cases e:d=c
   .subst e;rw[fC hl]at h;unfold aT at h;have#[#[x,d],f,h]:=aH.mp h;have#[#[y,i],j,h]:=omap.mp h;cases h;have k:=hl s x d f;erw[P0]at b;intro z b;rcases Qp.mp b with rfl|b;.exact hp _ _ _ f
    .exact g d y i ∅ j z b
   .rw[gb e]at h;cases h;intro x a;cases a
def pM{a:Type}{p:ag a}{c:Nat}{P:a->Prop}(hl:Le p)(hp:∀t x r,p t=U (x,r)->P x){t r:Qv}{xs:List a}(h:aT p c t=U (xs,r)):∀x∈xs,P x:=by
 unfold aT at h;have#[#[x,b],d,h]:=aH.mp h;have#[#[y,e],f,h]:=omap.mp h;cases h;intro z a;rcases Qp.mp a with rfl|a;.exact hp _ _ _ d
 .exact NV hl hp _ b y e (Qg _) f z a
noncomputable def lH(x:Td×Sa):Qv:=Um x.1++(QM x.2++Ri x.1)
theorem BU:∀(ys:List<|Td×Sa)(x:Td×Sa),RB (ofList (x::ys))=lH x++ys.flatMap (λx=>59::lH x)|[],x=>by simp[ofList,RB,lH]|y::ys,x=>by have a:=BU ys y;erw[ofList]at a⊢;rw[RB,a];simp[lH]
def yn{t r:Qv}{m:ZL}(h:jm t=U (m,r)):t=Ul m::r:=by
 unfold jm at h
 split at h
 .rename_i c a
  have#[c,a,b]:=omap.mp h
  cases b
  unfold Tt at a
  repeat' split at a
  all_goals first|(rename_i e;cases a;subst e;rfl)|(cases a)
 .cases h
def sI{t r n:Qv}(h:fY t=U (n,r)):t=n++r/\R8 n=true:=by
 unfold fY at h;split at h;.cases h;exact#[(jA _ _).symm,‹_›]
 .cases h
def oE{t r:Qv}{l:Xl}(h:dg t=U (l,r)):t=V2 l++r/\gQ l:=by
 delta dg at h;split at h;.cases h;exact#[G,trivial]
 .have#[#[n,s],a,b]:=omap.mp h;cases b;have#[c,d,e]:=gU.mp a;refine#[?_,d,e];erw[V2,QT];rw[<-(iY c).1]
 .have#[#[n,s],a,b]:=omap.mp h;cases b;have#[c,d,e]:=gU.mp a;refine#[?_,d,e];erw[V2,QT];rw[<-(iY c).1]
 .cases h
def vZ{c:Bool}{m:ZL}{k:Sa}{t r:Qv}{d:Option Lit}(h:eN c m k t=U (d,r)):(∀h:Td,h.dflt=d->t=Ri h++r)/\(∀v,d=U v->c=false/\m=.one/\∃l,k=.leaf l/\Rn l v=true):=by
 delta eN at h;split at h
 .split at h
  .rename_i l;have#[#[v,s],a,b]:=omap.mp h;cases b;refine#[λh e=>?_,λb e=>?_];.unfold Ri;rw[e];erw[QT];rw[<-sA a]
   .cases e;exact#[G,G,l,G,(oP a).2]
  .cases h
 .cases h;exact#[λh e=>(by unfold Ri;rw[e];rfl),λv e=>by cases e]
def dD(c:Bool)(x:Td×Sa):Prop:=R8 x.1.name=true/\1<=x.1.number/\x.1.number<=999/\aI x.2/\(c=true->x.1.mode=.one)/\(x.1.mode=.keyed->(QI x.2).isSome=true)/\
      (∀d,x.1.dflt=U d->c=false/\x.1.mode=.one/\∃l,x.2=.leaf l/\Rn l d=true)
def nW{a:ag Sa}{c:Bool}(j:iL a QM)(l:∀t k r,a t=U (k,r)->aI k):iL (d0 a c) lH/\∀t x r,d0 a c t=U (x,r)->dD c x:=by
 constructor;.rintro t⟨h,k⟩r e;have#[m,n,o,p,a,b,g,d,i,f]:=nX.mp e;have q:=(iY (gU.mp a).1).1;have s:=(sI b).1;have u:=yn g;have v:=j _ _ _ d;have j:=(vZ f).1 h rfl;erw[lH,Um,QL,QT,Rk];rw[<-j,<-v,<-u,<-s];exact q
 .rintro t⟨h,k⟩r e;have#[m,n,o,p,a,b,g,d,i,f]:=nX.mp e;have e:=gU.mp a;have g:¬((c=true/\h.mode≠.one)\/(h.mode=.keyed/\(QI k).isNone=true)):=by rw[<-qV,i];simp
  refine#[(sI b).2,e.2.1,e.2.2,l _ _ _ d,λb=>?_,λa=>?_,(vZ f).2]
  .by_cases a:h.mode=.one;.exact a
   .exact absurd (.inl #[b,a]) g
  .cases b:QI k with|some _=>rfl|none=>exact absurd (.inr #[a,by simp[b]]) g
theorem tG:∀(xs:List Nat)(a:Nat),c8 (a::xs)=true->∀x∈xs,a<x
 |[],_,_,x,h=>by cases h|b::xs,a,c,x,h=>by
  erw[c8,QH,decide_eq_true_eq]at c;rcases Qp.mp h with rfl|h;.exact c.1
  .exact S2 c.1<|tG xs b c.2 x h
def tH{a:Nat}{xs:List Nat}(h:c8 (a::xs)=true):c8 xs=true:=by cases xs with|nil=>rfl|cons b xs=>erw[c8,QH]at h;exact h.2
theorem Di{c:Bool}:∀(xs:List<|Td×Sa),(∀x∈xs,dD c x)->c8 (xs.map λx=>x.1.number)=true->(xs.map λx=>x.1.name).Nodup->cV c (ofList xs)
 |[],_,_,_=>by simp[ofList,cV]|x::xs,d,f,b=>by
  erw[ofList,cV];have#[a,e,g,h,i,j,k]:=d x (by simp);refine#[a,e,g,h,i,j,k,?_,?_,Di xs (λy a=>d y<|by simp[a]) (tH f) ?_];.intro y a;rw[oO]at a;rw[Ql,RI]at b;intro e;exact b.1<|Ro.mpr #[y,a,e]
  .intro y a;rw[oO]at a;exact tG _ _ f _<|Ro.mpr #[y,a,G]
  .rw[Ql,RI]at b;exact b.2
def ij{a:ag Sa}{c:Bool}{r u:Qv}{k:Sa}:de a c r=U (k,u)↔∃xs,aT (d0 a c) 59 r=U (xs,Rp c::u)/\jf xs=true/\k=.group c (ofList xs):=by
 unfold de;constructor
 .intro h;have#[#[xs,a],b,h]:=aH.mp h;have#[f,d,h]:=aH.mp h;have:=bL.mp d;simp only at this;subst this;by_cases e:jf xs=true;.have a:(if jf xs=true then U (Zt c<|ofList xs,f)else O)=U (k,u):=h;rw[aaD e]at a;cases a;exact#[xs,b,e,G]
  .have a:(if jf xs=true then U (Zt c<|ofList xs,f)else O)=U (k,u):=h;rw[aaC e]at a;cases a
 .rintro⟨xs,b,d,rfl⟩;rw[b];erw[P4,aN,aaE];rw[aaD d]
def jg{xs:List (Td×Sa)}:jf xs=true↔c8 (xs.map λx=>x.1.number)=true/\(xs.map λx=>x.1.name).Nodup:=by unfold jf;simp
def n6{a:ag Sa}{c:Bool}(d:iL a QM)(e:∀t k r,a t=U (k,r)->aI k){r u:Qv}{k:Sa}(h:de a c r=U (k,u)):Q3 c::r=QM k++u/\aI k:=by
 have#[b,a,f,rfl]:=ij.mp h;have#[b,g]:=nW (c:=c) d e;have#[x,e,rfl,d]:=N2 b a;have e:=pM b.le g a;have#[a,b]:=jg.mp f;constructor;.erw[QM,BU];rw[d];simp
 .erw[aI];refine#[by simp[ofList],Di _ e a b]
def su{t r:Qv}{k:Sa}:((dg t).map λx=>(Kind.leaf x.1,x.2))=U (k,r)↔∃l,dg t=U (l,r)/\k=.leaf l:=by
 rw[omap];constructor;.rintro⟨⟨l,s⟩,a,b⟩;cases b;exact#[l,a,G]
 .rintro⟨l,a,rfl⟩;exact#[(l,r),a,G]
def jS{d:Nat}{t r:Qv}{k:Sa}:bj d t=U (k,r)↔(∃e b s,d=e+1/\t=Q3 b::s/\de (bj e) b s=U (k,r))\/(∃l,dg t=U (l,r)/\k=.leaf l):=by
 cases d with
 |zero=>
  rw[bj,su];constructor;.exact .inr
  .rintro(⟨e,_,_,h,_⟩|h);.cases h
   .exact h
 |succ e=>
  unfold bj;constructor
  .intro h;split at h;.exact .inl #[e,false,_,G,G,h]
   .exact .inl #[e,true,_,G,G,h]
   .exact .inr<|su.mp h
  .rintro(⟨c,b,s,a,rfl,h⟩|⟨l,h,rfl⟩);.cases a;cases b with|false=>exact h|true=>exact h
   .split;.cases h
    .cases h
    .exact su.mpr #[l,h,G]
def gO:∀d,iL (bj d) QM/\∀t k r,bj d t=U (k,r)->aI k:=by
 intro d;induction d with
 |zero=>
  refine#[λt k r h=>?_,λt k r h=>?_]
  .rcases jS.mp h with⟨e,_,_,c,_⟩|⟨l,a,rfl⟩;.cases c
   .erw[QM];exact(oE a).1
  .rcases jS.mp h with⟨e,_,_,c,_⟩|⟨l,a,rfl⟩;.cases c
   .erw[aI];exact(oE a).2
 |succ d f=>
  refine#[λt k r h=>?_,λt k r h=>?_]
  .rcases jS.mp h with⟨e,b,s,c,rfl,a⟩|⟨l,a,rfl⟩;.cases c;exact(n6 f.1 f.2 a).1
   .erw[QM];exact(oE a).1
  .rcases jS.mp h with⟨e,b,s,c,rfl,a⟩|⟨l,a,rfl⟩;.cases c;exact(n6 f.1 f.2 a).2
   .erw[aI];exact(oE a).2
def BK{t:Qv}{fs:Qh}(h:d6 t=U fs):WS fs=t/\aI (.group false fs)/\t.length<=2000/\R3 fs<=40:=by
 unfold d6 at h;split at h;.cases h
 .rename_i a;have#[r,d,h]:=aH.mp h;have#[#[k,u],b,h]:=aH.mp h;simp only at h;split at h;.cases h
  .rename_i a;erw[not_or,ne_eq,YK,VE]at a;cases h;have#[c,e]:=n6 (gO 5).1 (gO 5).2 b;have#[f,_,_,rfl]:=ij.mp b;rw[a.1,Rr]at c;refine#[?_,e,∅,a.2];rw[bL.mp d];exact c.symm
def mO(a:List Td)(xs:List<|Td×Sa):Prop:=(∀h,a.head?=U h->∀x,xs.head?=U x->h.number<x.1.number)/\c8 (xs.map λx=>x.1.number)=true/\(∀h∈a,∀x∈xs,h.name≠x.1.name)/\(xs.map λx=>x.1.name).Nodup
def pj{a:List Td}{x:Td×Sa}{xs:List (Td×Sa)}:mO a (x::xs)↔(∀h,a.head?=U h->h.number<x.1.number)/\(∀h∈a,h.name≠x.1.name)/\mO (x.1::a) xs:=by
 constructor
 .rintro⟨f,c,d,b⟩;rw[Ql,RI]at b;refine#[λh e=>f h e x G,λh e=>d h e x<|by simp,λh e y a=>?_,tH c,λh e y a=>?_,b.2];.cases e;cases xs with|nil=>cases a|cons z i=>cases a;erw[Ql,c8,QH,decide_eq_true_eq]at c;exact c.1
  .rcases Qp.mp e with rfl|e;.intro j;exact b.1<|Ro.mpr ⟨y,a,j.symm⟩
   .exact d h e y (by simp[a])
 .rintro⟨f,c,d,b,g,k⟩;refine⟨λh e y a=>?_,?_,λh e y a=>?_,?_⟩;.cases a;exact f h e
  .cases xs with|nil=>rfl|cons z i=>erw[Ql,c8,QH,decide_eq_true_eq]at b⊢;exact#[d x.1 G z G,b]
  .rcases Qp.mp a with rfl|a;.exact c h e
   .exact g h (by simp[e]) y a
  .rw[Ql,RI];refine#[λb=>?_,k];have#[y,a,e]:=Ro.mp b;exact g x.1 (by simp) y a e.symm
def G8(c:Bool):Rp c≠59:=by cases c<;>decide
def G9(c:Bool):QD (Rp c)=false:=by cases c<;>decide
def tS{a:Type}{p:ag a}{c:Nat}(hl:Le p){t r:Qv}{xs:List a}:aT p c t=U (xs,r)↔∃x u,p t=U (x,u)/\((∃s ys,u=c::s/\aT p c s=U (ys,r)/\xs=x::ys)\/((∀s,u=c::s->False)/\r=u/\xs=[x])):=by
 conv=>lhs;unfold aT
 rw[aH];constructor
 .rintro⟨⟨x,u⟩,f,g⟩;have#[#[ys,d],a,b]:=omap.mp g;cases b;refine#[x,u,f,?_];rcases vR u c with⟨s,rfl⟩|b;.simp only at a;rw[fC hl]at a;exact .inl ⟨s,ys,G,a,G⟩
  .refine .inr ⟨b,?_⟩;cases u with|nil=>cases a;exact#[G,G]|cons d s=>simp only at a;rw[gb λe=>b s<|by rw[e]]at a;cases a;exact#[G,G]
 .rintro⟨x,u,f,g⟩;refine#[(x,u),f,?_];rcases g with⟨s,ys,rfl,a,rfl⟩|⟨b,rfl,rfl⟩;.simp only;rw[fC hl,a];rfl
  .cases f:r with|nil=>rfl|cons d s=>simp only;rw[gb λe=>b s<|by rw[f,e]];rfl
def Ks{lo hi:Nat}:Le<|cN lo hi:=by intro t x r h;have:=(iY (gU.mp h).1).1;rw[this,P5];lia
def CB{t b c d:Qv}{n:Nat}{a:Qv}{m:ZL}(e:cN 1 999 t=U (n,b))(f:fY b=U (a,c))(g:jm c=U (m,d)):d.length<t.length:=by have b:=Ks _ _ _ e;have c:=(sI f).1;have d:=yn g;rw[c,d,P5,P0]at b;lia
def NU:∀(f d:Nat)(c:Bool)(m:List Td)(a:Nat)(t:Qv)(fs:Qh)(s:Qv),t.length<f->d<=5->
    (SI f (6-d) c m a t=.ok (fs,s)↔∃xs,aT (d0 (bj d) c) 59 t=U (xs,Rp c::s)/\fs=ofList xs/\mO m xs/\a+R3 fs<=40):=by
 intro f;induction f with
 |zero=>intro d c m a t fs s h;exact absurd h ∅|succ f z=>
  intro d c m a t fs s ht N;have#[kb,P]:=gO d;have#[v,fw]:=nW (c:=c) kb P;rw[Ia];constructor
  .rintro⟨h,k,A,B,i,g,Q,h1,h2,h3,h4,h5,h6,R⟩;have#[n,S]:=sQ.mp h1;have#[o,T]:=sJ.mp h2;have#[p,o2]:=sH.mp h3;have H:=CB n o p;have C:bj d i=U (k,g)/\a+Q0 k<=40:=by
    rcases h4 with⟨b,r,ab,rfl,ak,D,rfl⟩|⟨l,I,rfl⟩;.obtain⟨e,rfl⟩:∃e,d=e+1:=#[d-1,∅];rw[show 6-(e+1)+1=6-e by lia]at D;erw[P0]at H;have#[xs,w,rfl,#[_,x,_,x4],x5]:=(z e b [] a r ab g ∅ ∅).mp D;exact#[jS.mpr<|.inl #[e,b,r,G,G,ij.mpr #[xs,w,jg.mpr #[x,x4],G]],by simpa[Q0]using x5]
    .have#[l1,l2]:=oF.mp I;exact#[jS.mpr<|.inr #[l,l1,G],by erw[Q0];lia]
   have ac:iA Q:=by
    rcases R with⟨r,V,rfl,_⟩|⟨rfl,_⟩;.exact lg (by decide)
    .exact lg<|G9 c
   have E:fP c h.mode k=false:=by
    cases j:fP c h.mode k with
    |false=>rfl|true=>
     rcases qV.mp j with j|j;.exact absurd j o2
     .exact absurd j h5
   have q:d0 (bj d) c t=U ((h,k),Q):=nX.mpr #[A,B,i,g,n,o,p,C.1,E,Nl (P _ _ _ C.1) h6 ac];rcases R with⟨r,V,rfl,D,rfl⟩|⟨rfl,rfl⟩;.have J:=v.le _ _ _ q;erw[P0]at J;have#[xs,w,rfl,F,x]:=(z d c (h::m) (a+Q0 k) r V s ∅ N).mp D;refine#[(h,k)::xs,(tS v.le).mpr #[(h,k),_,q,.inl #[r,xs,G,w,G]],G,pj.mpr #[S,T,F],?_];erw[R3];lia
   .refine#[[(h,k)],(tS v.le).mpr #[(h,k),_,q,.inr #[λs e=>G8 c (Ue e).1,G,G]],G,pj.mpr #[S,T,?_],?_];.exact#[λ_ _ _ e=>(by cases e),G,λ_ _ _ e=>(by cases e),Vw]
    .erw[R3];lia
  .rintro⟨xs,w,rfl,F,x⟩;have#[#[h,k],u,q,ad]:=(tS v.le).mp w;have#[A,B,i,g,n,o,p,C,j,W]:=nX.mp q;have H:=CB n o p;have J:=v.le _ _ _ q;have E:¬((c=true/\h.mode≠.one)\/(h.mode=.keyed/\(QI k).isNone=true)):=by rw[<-qV,j];simp
   have X:a+Q0 k<=40->(uM f (6-d) a i g k\/(∃l,TV a i=.ok (l,g)/\k=.leaf l)):=by
    intro Y;rcases jS.mp C with⟨e,b,r,rfl,rfl,hg⟩|⟨l,I,rfl⟩;.have#[y,K,y2,rfl]:=ij.mp hg;have#[g1,g2]:=jg.mp y2;erw[P0]at H;refine .inl #[b,r,ofList y,G,∅,?_,G];rw[show 6-(e+1)+1=6-e by lia];refine(z e b [] a r _ g ∅ ∅).mpr #[y,K,G,#[λh e=>(by cases e),g1,λh e=>(by cases e),g2],?_];simpa[Q0]using Y
    .refine .inr #[l,oF.mpr #[I,?_],G];erw[Q0]at Y;lia
   have Z:¬(c=true/\h.mode≠.one):=λe=>E<|.inl e;have aa:¬(h.mode=.keyed/\(QI k).isNone=true):=λe=>E<|.inr e;rcases ad with⟨r,y,rfl,K,rfl⟩|⟨hn,rfl,rfl⟩;.have#[L,M,z3]:=pj.mp F;erw[ofList,R3]at x;refine#[h,k,A,B,i,g,_,sQ.mpr #[n,L],sJ.mpr #[o,M],sH.mpr #[p,Z],X ∅,aa,v7 W,.inl #[r,ofList y,G,?_,G]];erw[P0]at J;exact(z d c (h::m) (a+Q0 k) r _ s ∅ N).mpr #[y,K,G,z3,∅]
   .have#[L,M,z3]:=pj.mp F;erw[ofList,R3]at x;exact#[h,k,A,B,i,g,_,sQ.mpr #[n,L],sJ.mpr #[o,M],sH.mpr #[p,Z],X ∅,aa,v7 W,.inr #[G,G]]
def OI{c b:Type}{x:Except c b}{y:Option b}(h:∀a,x=.ok a↔y=U a):y=x.toOption:=by cases x with|ok a=>exact(h a).mp rfl|error e=>cases y with|none=>rfl|some a=>exact absurd ((h a).mpr G) (by simp)
def tP(t:Qv):d6 t=(Th t).toOption:=by
 refine OI λv=>?_;unfold Th d6;split;.rename_i h;rw[aaD (show 2000<t.length from h)];simp
 .rename_i h;rw[aaC (show¬2000<t.length from h)];split
  .rename_i r;rw[aW];erw[aN,aaE,P4];have j:=NU ((123::r).length+1) 5 false [] 0 r;constructor
   .rintro⟨⟨w,s⟩,c,a⟩;simp only at a;split at a
    .rename_i l;cases a;have#[b,d,rfl,#[_,f,_,m],x]:=(j _ s (by erw[P0];lia) ∅).mp c;have g:de (bj 5) false r=U (.group false<|ofList b,s):=ij.mpr #[b,d,jg.mpr #[f,m],G];rw[g];erw[P4];rw[aaC];.rfl
     .rintro(e|e);.exact e l
      .erw[Q0]at e;lia
    .exact absurd a (by simp[bA])
   .intro c;have#[#[k,u],g,a]:=aH.mp c;simp only at a;split at a;.cases a
    .rename_i i;erw[not_or,ne_eq,YK,VE]at i;cases a;have#[b,d,f,rfl]:=ij.mp g;have#[n,o]:=jg.mp f;refine#[(ofList b,u),(j _ u (by erw[P0];lia) ∅).mpr #[b,d,G,#[λh e=>(by cases e),n,λh e=>(by cases e),o],?_],?_];.have:=i.2;erw[Q0]at this;lia
     .simp only;rw[aaD i.1];rfl
  .rename_i p;have:aN 123 t=O:=by cases q:aN 123 t with|none=>rfl|some r=>exact absurd (bL.mp q)<|p r
   rw[this];simp[bA]
end
abbrev HK:=Td×Sa
noncomputable def posOf(n:Nat)(L:List HK):Option Nat:=L.findIdx? λx=>x.1.number==n
def cj(L:List HK):Prop:=L.Pairwise λa b=>a.1.number<b.1.number
theorem dc:∀{c:Bool}{fs:Qh},cV c fs->cj fs.list|c,.nil,_=>Wb|c,.cons h k r,a=>by erw[cV]at a;exact UZ (λx b=>a.2.2.2.2.2.2.2.2.1 x b)<|dc a.2.2.2.2.2.2.2.2.2
theorem Dh:∀{c:Bool}{fs:Qh},cV c fs->(fs.list.map λx=>x.1.name).Nodup|c,.nil,_=>Vw|c,.cons h k r,a=>by erw[cV]at a;erw[PZ,Ql,RI];refine#[λb=>?_,Dh a.2.2.2.2.2.2.2.2.2];have#[y,d,e]:=Ro.mp b;exact a.2.2.2.2.2.2.2.1 y d e
theorem gn:∀{c:Bool}{fs:Qh},cV c fs->∀x∈fs.list,dD c x
 |c,.nil,_,x,b=>by simp[PZ]at b|c,.cons h k r,a,x,b=>by
  erw[cV]at a;rcases Qp.mp b with rfl|b;.exact#[a.1,a.2.1,a.2.2.1,a.2.2.2.1,a.2.2.2.2.1,a.2.2.2.2.2.1,a.2.2.2.2.2.2.1]
  .exact gn a.2.2.2.2.2.2.2.2.2 x b
theorem iC{n:Nat}:∀{L:List HK}{p:Nat},cj L->(posOf n L=U p↔∃x,L[p]?=U x/\x.1.number=n)
 |[],p,_=>by simp[posOf]|x::L,p,a=>by
  cases a with|cons c a=>
  have b:=λp=>iC (n:=n) (p:=p) a;unfold posOf at b⊢;rw[List.findIdx?_cons];by_cases a:x.1.number=n
  .rw[aaD<|by simp[a]];constructor;.intro e;cases e;exact#[x,G,a]
   .rintro⟨y,d,e⟩;induction p with|zero=>rfl|succ p=>have:=c y<|List.mem_of_getElem? (by simpa using d);lia
  .rw[aaC<|by simp[a]];induction p with|zero=>erw[List.getElem?_cons_zero,SS,Nat.add_eq_zero_iff,aao,and_false,exists_false,QS,exists_eq_left',false_iff];simpa using a|succ p=>rw[List.getElem?_cons_succ,<-b p];simp
def pos_none{n:Nat}:posOf n L=O↔∀x∈L,x.1.number≠n:=by unfold posOf;rw[List.findIdx?_eq_none_iff];simp
theorem qk{a:Type}{n:Nat}:∀{L:List HK}{ss:List a},ss.length=L.length->cj L->((L.zip ss).find? λx=>x.1.1.number==n)=(posOf n L).bind λp=>(L[p]?).bind λx=>(ss[p]?).map λo=>(x,o)
 |[],ss,_,_=>by simp[posOf]|x::L,[],h,_=>by cases h|x::L,s::ss,h,a=>by
  cases a with|cons a b=>
  have a:=qk (n:=n) (L:=L) (ss:=ss) (by simpa using h) b;unfold posOf at a⊢;rw[Tc,List.find?_cons,List.findIdx?_cons];simp only;cases b:(x.1.number==n)with|true=>rfl|false=>erw[P1,aaF];rw[a];cases List.findIdx? (λx=>x.fst.number==n) L<;>simp
noncomputable def eO(x:HK)(fs:Qh)(ss:List<|List Sk):Option<|List Sk:=match SJ x.1.number fs ss with|some ((_,j),o)=>(o.mapM λv=>Qc x.2 j v).bind λp=>if QK x.1.mode p then U p else O|none=>Qr x.1 x.2
theorem pG:∀(gs fs:Qh)(ss:List<|List Sk),Vz gs fs ss=gs.list.mapM λx=>eO x fs ss|.nil,fs,ss=>by rfl|.cons h k r,fs,ss=>by rw[Vz,pG r fs ss];show((eO (h,k) fs ss).bind λo=>Y7 (λa=>o::a)<|r.list.mapM λx=>eO x fs ss)=_;erw[PZ,RV];induction eO (h,k) fs ss with|none=>rfl|some o=>erw[P4];cases r.list.mapM λx=>eO x fs ss<;>rfl
noncomputable def cu(L:List HK)(p:Nat)(y:Sk):List<|List Sk:=(L.map λ_=>[]).set p [y]
def nc{p:Nat}:cu (x::L) (p+1) y=[]::cu L p y:=G
def ke{L:List HK}:cu (x::L) 0 y=[y]::L.map λ_=>[]:=G
def BX{L:List HK}{p:Nat}:(cu L p y).length=L.length:=by simp[cu]
theorem BW:∀{L:List HK}{p:Nat}{y:Sk},p<L.length->((cu L p y).filter λo=>!o.isEmpty).length=1
 |[],p,y,h=>absurd h (by simp)|x::L,0,y,_=>by
  rw[ke];have:(L.map λ_=>([]:List Sk)).filter (λo=>!o.isEmpty)=[]:=by rw[YI];intro o a;have#[_,_,rfl]:=Ro.mp a;simp
  simp[this]
 |x::L,p+1,y,h=>by rw[nc];erw[List.filter_cons,U2,QR,P1,aaF];exact BW (by simpa using h)
def pN{L:List HK}{p q:Nat}(h:q<L.length):(cu L p y)[q]?=U (if q=p then[y]else[]):=by
 unfold cu;rw[List.getElem?_set];by_cases e:p=q;.subst e;simp[h]
 .rw[aaC e,aaC λa=>e a.symm];simp[h]
noncomputable def ue(n:Nat)(k:Sa)(fs:Qh)(ss:List<|List Sk):Option<|List Sk:=match SJ n fs ss with|some ((_,j),o)=>o.mapM λv=>Qc k j v|none=>U []
def Oz{fs:Qh}(hr:cj fs.list){p:Nat}{g:Td}(hp:fs.list[p]?=U (g,j)){n:Nat}:
    ue n k fs (cu fs.list p y)=if n=g.number then(Qc k j y).map λz=>[z]else U []:=by
 unfold ue SJ;rw[qk BX hr];by_cases a:n=g.number
 .subst a;rw[aaD G,(iC hr).mpr #[(g,j),hp,G]];have b:p<fs.list.length:=by rcases List.getElem?_eq_some_iff.mp hp with⟨h,_⟩;exact h
  erw[P4,hp,pN b,aaE,Qm];erw[RV,Yx];cases Qc k j y<;>rfl
 .rw[aaC a];cases d:posOf n fs.list with
  |none=>rfl|some q=>
   have#[x,c,e]:=(iC hr).mp d;have b:q<fs.list.length:=by rcases List.getElem?_eq_some_iff.mp c with⟨h,_⟩;exact h
   have d:q≠p:=by rintro rfl;rw[c]at hp;cases hp;exact a e.symm
   erw[P4,c,pN b,aaC d,Qm];rfl
theorem Bv{fs:Qh}(hr:cj fs.list){p:Nat}{g:Td}(hp:fs.list[p]?=U (g,j)):∀(gs:Qh),cj gs.list->
  SV gs fs (cu fs.list p y)=match posOf g.number gs.list with
   |none=>U<|gs.list.map λ_=>[]
   |some q=>(gs.list[q]?).bind λx=>(Qc x.2 j y).map λz=>cu gs.list q z
 |.nil,_=>by rfl
 |.cons h k r,a=>by
  erw[PZ]at a
  cases a with
  |cons b a=>
  have c:=Bv hr hp (y:=y) r a
  show((ue h.number k fs<|cu fs.list p y).bind λo=>Y7 (λa=>o::a)<|SV r fs<|cu fs.list p y)=_
  rw[Oz hr hp,c]
  erw[PZ]
  by_cases a:h.number=g.number
  .have c:posOf g.number r.list=O:=pos_none.mpr λx d=>by
    have:=b x d
    simp only at this
    lia
   have b:posOf g.number ((h,k)::r.list)=U 0:=by
    unfold posOf
    rw[List.findIdx?_cons,aaD<|by simp[a]]
   rw[aaD a,c,b]
   erw[List.getElem?_cons_zero,P4]
   induction Qc k j y with
   |none=>rfl
   |some z=>
    erw[Qm,P4,ke]
  .rw[aaC a]
   have b:posOf g.number ((h,k)::r.list)=(posOf g.number r.list).map (·+1):=by
    unfold posOf
    rw[List.findIdx?_cons,aaC<|by simp[a]]
   rw[b]
   induction posOf g.number r.list with
   |none=>simp
   |some q=>
    erw[Qm,P4,List.getElem?_cons_succ]
    induction r.list[q]? with
    |none=>rfl
    |some x=>
     erw[P4]
     induction Qc x.2 j y with
     |none=>rfl
     |some z=>rfl
def Br{gs fs:Qh}(a:cj gs.list)(hr:cj fs.list){p:Nat}{g:Td}(hp:fs.list[p]?=U (g,j)):
    Qc (.group true gs) (.group true fs) (.group<|cu fs.list p y)=(posOf g.number gs.list).bind λq=>(gs.list[q]?).bind λx=>(Qc x.2 j y).map λz=>.group<|cu gs.list q z:=by
 rw[PU,Bv hr hp gs a]
 cases c:posOf g.number gs.list with
 |none=>
  erw[P4,UT]
  rw[aaC]
  have:(gs.list.map λ_=>([]:List Sk)).filter (λo=>!o.isEmpty)=[]:=by
   rw[YI]
   intro o b
   have#[_,_,rfl]:=Ro.mp b
   simp
  rw[this]
  simp
 |some q=>
  have#[x,b,_]:=(iC a).mp c
  have a:q<gs.list.length:=by
   rcases List.getElem?_eq_some_iff.mp b with⟨h,_⟩
   exact h
  erw[b,P4]
  induction Qc x.2 j y with
  |none=>rfl
  |some z=>
   erw[Qm,P4]
   rw[aaD<|BW a]
theorem BV:∀{fs:Qh}{p:Nat}{g:Td}{j:Sa}{y:Sk},fs.list[p]?=U (g,j)->Qz fs (cu fs.list p y)=[g.name++(58::P6 j y)]|.nil,p,g,j,y,h=>by simp[PZ]at h|.cons a k r,0,g,j,y,h=>by erw[PZ,List.getElem?_cons_zero,QS,SR]at h;have#[rfl,rfl]:=h;erw[PZ,ke,Qz,ZX,P1,aaF,pQ,Ql,SE,Qd]|.cons a k r,p+1,g,j,y,h=>by erw[PZ,List.getElem?_cons_succ]at h;erw[PZ,nc,U2,aaE];exact BV h
def N7{fs:Qh}{p:Nat}{g:Td}(h:fs.list[p]?=U (g,j)):P6 (.group true fs) (.group<|cu fs.list p y)=60::(g.name++(58::(P6 j y++[62]))):=by erw[P6,BV h,Qd,Q3,Rp,aaE,QL,QT]
abbrev Ob:=Nat×List Nat×List Sk
noncomputable def cG(n:Nat)(x:Ob):Ob:=(x.1,n::x.2.1,x.2.2)
noncomputable def jT(l o:Xl):Option Ob:=(Ug l o).map λx=>(x.number,x.path,[x.value])
noncomputable def je(gs fs:Qh):Option Ob:=(fs.list.find? λx=>(gs.byNumber (x.1.number:Int)).isNone).map λx=>(3,[x.1.number],[QG x.2])
mutual
noncomputable def aP:Sa->Sa->Option Ob|.leaf l,.leaf o=>jT l o|.group false a,.group false b=>dS a b|.group true a,.group true b=>(je a b).or<|fZ a b|_,a=>U (1,[],[QG a])
noncomputable def dS:Qh->Qh->Option Ob
 |.nil,_=>O|.cons h k r,a=>(match a.byNumber (h.number:Int)with
   |none=>if(Qr h k).isNone then U (4,[h.number],[])else O
   |some (g,j)=>match R1 h g k j with
    |some (n,o)=>U (n,[h.number],o)
    |none=>(aP k j).map (cG h.number):Option Ob).or<|dS r a
noncomputable def fZ:Qh->Qh->Option Ob
 |.nil,_=>O|.cons h k r,a=>(match a.byNumber (h.number:Int)with
   |none=>O
   |some (_,j)=>(aP k j).map (cG h.number):Option Ob).or<|fZ r a
end
def PK{l o:Xl}:aP (.leaf l) (.leaf o)=jT l o:=G
def PL{gs fs:Qh}:aP (.group false gs) (.group false fs)=dS gs fs:=G
def PM{gs fs:Qh}:aP (.group true gs) (.group true fs)=(je gs fs).or (fZ gs fs):=G
noncomputable def eE:List Nat->Sa->List Sk->Sk
 |[],k,o=>o.headD<|QG k
 |n::p,.group c a,o=>match a.byNumber (n:Int)with
  |none=>QG<|.group c a
  |some (_,k)=>SW c a n (if p=[]then o else[eE p k o])
 |_::_,k,_=>QG k
noncomputable def hG(old:Sa)(x:Ob):ZJ:={number:=x.1,path:=x.2.1,value:=eE x.2.1 old x.2.2}
def pk{n:Nat}{c:Bool}{fs:Qh}(e:fs.byNumber (n:Int)=U (h,k)):eE (n::p) (.group c fs) o=SW c fs n (if p=[]then o else[eE p k o]):=by rw[eE,e]
def xF{x:ZJ}(h:Ug l o=U x):x.path=[]:=by
 delta Ug at h
 repeat' split at h
 all_goals first|(cases h;rfl)|(cases h)
def xY{c:Bool}{fs:Qh}{n:Nat}(e:fs.byNumber (n:Int)=U (g,j)){y:Option Ob}(hs:∀x,y=U x->x.2.1=[]->∃v,x.2.2=[v]):
    (y.map<|hG j).map (aae c fs n)=(y.map<|cG n).map (hG<|.group c fs):=by
 induction y with
 |none=>rfl|some x=>
  have#[m,p,o]:=x;erw[Qm,QS];unfold aae hG cG;simp only;rw[pk e];by_cases a:p=[];.subst a;have#[v,b]:=hs _ rfl rfl;simp only at b;subst b;rfl
  .rw[aaC a]
def sW{a b:Type}{f:a->b}{x y:Option a}:(x.or y).map f=(x.map f).or (y.map f):=by induction x<;>rfl
mutual
theorem sU:(new old:Sa)->Rw new old=(aP new old).map (hG old)/\∀x,aP new old=U x->x.2.1=[]->∃v,x.2.2=[v]
 |.leaf l,.leaf o=>by
  change Ug l o=(jT l o).map (hG<|.leaf o)/\∀x,jT l o=U x->_;unfold jT;constructor;.cases h:Ug l o with|none=>rfl|some x=>have c:=xF h;have#[n,p,v]:=x;simp only at c;subst c;rfl
  .intro x b _;have#[y,_,rfl]:=omap.mp b;exact#[_,G]
 |.group false d,.group false a=>by exact#[(jt d a).1,λx b c=>absurd c<|(jt d a).2 x b]|.group true d,.group true a=>by
  change(Vacolk.goneObstacle d a).or (Wg d a)=((je d a).or<|fZ d a).map _/\∀x,(je d a).or (fZ d a)=U x->_;rw[sW];constructor
  .congr 1
   .unfold Vacolk.goneObstacle je;rw[Wj];cases h:a.list.find? λx=>(d.byNumber (x.1.number:Int)).isNone with
    |none=>rfl|some x=>
     erw[Qm,Wr,QS,hG];have e:=List.mem_of_find?_eq_some h;have f:∃y,a.byNumber (x.1.number:Int)=U y:=by
      unfold Xm;have:(a.list.find? λy=>(y.1.number:Int)==(x.1.number:Int)).isSome:=by rw[List.find?_isSome];exact#[x,e,by simp]
      exact QV.mp this
     have#[#[g,h],e]:=f;rw[pk e,aaD G]
   .exact(sT d a).1
  .intro x b c;cases e:je d a with|some y=>rw[e]at b;cases b;unfold je at e;have#[z,_,rfl]:=omap.mp e;cases c|none=>rw[e]at b;exact absurd c<|(sT d a).2 x b
 |.leaf l,.group c a=>by exact#[G,λx b _=>by cases b;exact#[_,G]]|.group c a,.leaf l=>by induction c<;>(exact#[G,λx b _=>by cases b;exact#[_,G]])|.group false d,.group true a=>by exact#[G,λx b _=>by cases b;exact#[_,G]]|.group true d,.group false a=>by exact#[G,λx b _=>by cases b;exact#[_,G]]
theorem jt:(gs fs:Qh)->UL gs fs=(dS gs fs).map (hG<|.group false fs)/\∀x,dS gs fs=U x->x.2.1≠[]
 |.nil,fs=>by erw[UL,dS];exact#[G,λx a=>by cases a]|.cons h k r,fs=>by
  have#[c,b]:=jt r fs;erw[UL,dS];rw[c,sW];cases e:fs.byNumber (h.number:Int)with
  |none=>
   simp only;constructor
   .congr 1;split;.erw[Qm,hG,eE,e,QG]
    .rfl
   .intro x a;split at a;.cases a;simp
    .exact b x a
  |some y=>have#[g,j]:=y;have#[c,d]:=sU k j;simp only;cases f:R1 h g k j with|some z=>have#[n,o]:=z;erw[Qm,Z9];refine#[?_,λx a=>by cases a;simp];erw[hG,pk e,aaE]|none=>simp only;rw[c,xY e d];refine#[G,λx a=>?_];cases c:aP k j with|none=>rw[c]at a;exact b x a|some w=>rw[c]at a;cases a;simp[cG]
theorem sT:(gs fs:Qh)->Wg gs fs=(fZ gs fs).map (hG<|.group true fs)/\∀x,fZ gs fs=U x->x.2.1≠[]|.nil,fs=>by erw[Wg,fZ];exact#[G,λx a=>by cases a]|.cons h k r,fs=>by have#[c,b]:=sT r fs;erw[Wg,fZ];rw[c,sW];cases e:fs.byNumber (h.number:Int)with|none=>exact#[G,λx a=>b x a]|some y=>have#[g,j]:=y;have#[c,d]:=sU k j;simp only;rw[c,xY e d];refine#[G,λx a=>?_];cases c:aP k j with|none=>rw[c]at a;exact b x a|some w=>rw[c]at a;cases a;simp[cG]
end
noncomputable def aG(n:Nat)(L:List HK):Option HK:=L.find? λx=>x.1.number==n
def iU{n:Nat}{fs:Qh}:fs.byNumber (n:Int)=aG n fs.list:=by unfold Xm aG;congr 1;funext x;rw[Rt];simp;lia
def rQ{n:Nat}(h:x.1.number=n):aG n (x::L)=U x:=by unfold aG;rw[List.find?_cons,show(x.1.number==n)=true by simp[h]]
def mq{n:Nat}(h:x.1.number≠n):aG n (x::L)=aG n L:=by unfold aG;rw[List.find?_cons,show(x.1.number==n)=false by simp[h]]
def find_none{n:Nat}(h:∀x∈L,x.1.number≠n):aG n L=O:=by unfold aG;rw[List.find?_eq_none];intro x a;simp[h x a]
def ig{n:Nat}(h:aG n L=U x):x∈L/\x.1.number=n:=by refine#[List.mem_of_find?_eq_some h,?_];have:=List.find?_some h;simpa using this
def jO(hr:cj L)(h:x∈L):aG x.1.number L=U x:=by
 induction L with
 |nil=>cases h|cons y L a=>
  cases hr with|cons b c=>
  rcases Qp.mp h with rfl|h;.exact rQ rfl
  .have:=b x h;rw[mq ∅];exact a c h
theorem jd{a b:Type}{f g:a->Option b}:∀{L:List a},(∀x∈L,f x=g x)->L.findSome? f=L.findSome? g|[],_=>rfl|x::L,h=>by rw[List.findSome?_cons,List.findSome?_cons,h x<|by simp,jd λy a=>h y<|by simp[a]]
theorem rR{a b:Type}:∀{L:List a},L.findSome? (λ_=>(O:Option b))=O|[]=>rfl|x::L=>by rw[List.findSome?_cons];exact rR
def merge{c:Type}{f:HK->HK->Option c}:∀(n:Nat)(A B:List HK),A.length+B.length<=n->cj A->cj B->
    A.findSome? (λa=>(aG a.1.number B).bind<|f a)=B.findSome? λb=>(aG b.1.number A).bind λa=>f a b:=by
 intro n;induction n with
 |zero=>intro A B c _ _;have d:A=[]:=Qj.mp ∅;have e:B=[]:=Qj.mp ∅;rw[d,e];rfl|succ n g=>
  intro A B c d e;induction A with
  |nil=>have:∀b∈B,((aG b.1.number []).bind λa=>f a b)=(λ_=>O) b:=λb _=>rfl;rw[jd this,rR];rfl|cons a A=>
   induction B with
   |nil=>have:∀x∈a::A,((aG x.1.number []).bind<|f x)=(λ_=>O) x:=λb _=>rfl;rw[jd this,rR];rfl|cons b B=>
    cases d with|cons d i=>
    cases e with|cons e j=>
    erw[P0]at c;rcases Xr a.1.number b.1.number with h|h|h
    .have k:aG a.1.number (b::B)=O:=find_none λx c=>by
      rcases Qp.mp c with rfl|c;.lia
      .have:=e x c;lia
     rw[List.findSome?_cons,k];erw[UT];rw[g A (b::B) (by erw[P0];lia) i<|UZ e j];refine jd λx c=>?_;rw[mq];rcases Qp.mp c with rfl|c;.lia
     .have:=e x c;lia
    .rw[List.findSome?_cons,List.findSome?_cons,rQ h.symm,rQ h];erw[P4];have h:A.findSome? (λa=>(aG a.1.number (b::B)).bind<|f a)=A.findSome? λa=>(aG a.1.number B).bind<|f a:=jd λx c=>by have:=d x c;rw[mq ∅]
     have l:B.findSome? (λb=>(aG b.1.number (a::A)).bind λa=>f a b)=B.findSome? λb=>(aG b.1.number A).bind λa=>f a b:=jd λx c=>by have:=e x c;rw[mq ∅]
     rw[h,l,g A B ∅ i j]
    .have k:aG b.1.number (a::A)=O:=find_none λx c=>by
      rcases Qp.mp c with rfl|c;.lia
      .have:=d x c;lia
     conv=>rhs;rw[List.findSome?_cons,k]
     erw[UT];rw[<-g (a::A) B (by erw[P0];lia) (UZ d i) j];refine jd λx c=>?_;rw[mq];rcases Qp.mp c with rfl|c;.lia
     .have:=d x c;lia
theorem sS:∀(gs fs:Qh),fZ gs fs=gs.list.findSome? λx=>(aG x.1.number fs.list).bind λy=>(aP x.2 y.2).map (cG x.1.number)|.nil,fs=>by simp[fZ,PZ]|.cons h k r,fs=>by rw[fZ,sS r fs];erw[PZ,List.findSome?_cons,iU];induction aG h.number fs.list with|none=>rfl|some y=>have#[g,j]:=y;erw[P4];cases(aP k j).map (cG h.number)<;>rfl
def Ku{gs fs:Qh}(a:cj gs.list)(b:cj fs.list):fZ gs fs=fs.list.findSome? λy=>(aG y.1.number gs.list).bind λx=>(aP x.2 y.2).map<|cG y.1.number:=by rw[sS,merge _ gs.list fs.list (Qg _) a b (f:=λx y=>(aP x.2 y.2).map<|cG x.1.number)];refine jd λy a=>?_;cases h:aG y.1.number gs.list with|none=>rfl|some x=>erw[P4];rw[(ig h).2]
noncomputable def iZ(x:HK)(fs:Qh):Option Ob:=match aG x.1.number fs.list with
 |none=>if(Qr x.1 x.2).isNone then U (4,[x.1.number],[])else O|some y=>match R1 x.1 y.1 x.2 y.2 with
  |some z=>U (z.1,[x.1.number],z.2)
  |none=>(aP x.2 y.2).map<|cG x.1.number
theorem sR:∀(gs fs:Qh),dS gs fs=gs.list.findSome? λx=>iZ x fs|.nil,fs=>by simp[dS,PZ]|.cons h k r,fs=>by rw[dS,sR r fs];erw[PZ,List.findSome?_cons,iU];unfold iZ;induction aG h.number fs.list with|none=>simp only;split<;>rfl|some y=>have#[g,j]:=y;simp only;induction R1 h g k j with|none=>simp only;cases(aP k j).map (cG h.number)<;>rfl|some z=>rfl
section
set_option tactic.hygienic true
theorem mF:∀(fs:Qh),(Rh fs).length=fs.list.length|.nil=>rfl|.cons h k r=>by simp[Rh,PZ,mF r]
theorem xO:∀(fs:Qh),Rh fs=fs.list.map λx=>if x.1.mode=.one then[QG x.2]else[]|.nil=>rfl|.cons h k r=>by simp[Rh,PZ,xO r]
theorem uJ{n:Nat}:∀{fs:Qh}{ss:List (List Sk)}{p:Nat},posOf n fs.list=U p->ss.length=fs.list.length->ZI n o fs ss=ss.set p o
 |.nil,ss,p,h,_=>by simp[posOf,PZ]at h|.cons h k r,[],p,_,b=>by simp[PZ]at b|.cons h k r,s::ss,p,a,b=>by
  erw[PZ]at a b;unfold posOf at a;rw[List.findIdx?_cons]at a;change(if h.number=n then o::ss else s::ZI n o r ss)=_;split at a;.rename_i c;cases a;rw[aaD<|by simpa using c];rfl
  .rename_i c;rw[aaC<|by simpa using c];have#[q,c,rfl]:=omap.mp a;rw[uJ c<|by simpa using b];rfl
def Iz{fs:Qh}{n p:Nat}(hp:posOf n fs.list=U p):SW true fs n [v]=.group (cu fs.list p v):=by unfold SW;rw[aaD G,uJ hp<|by simp];rfl
def IA{fs:Qh}{n p:Nat}(hp:posOf n fs.list=U p):SW false fs n o=.group ((Rh fs).set p o):=by unfold SW;rw[aaC<|by simp,uJ hp<|mF fs]
def JB:QG (.group true<|.cons h k r)=.group (cu (YD h k r).list 0<|QG k):=by rfl
mutual
noncomputable def aU:Sa->Sk->Prop|.leaf l,.lit v=>Rn l v=true|.group false a,.group b=>cU a b|.group true a,.group b=>hV a b|_,_=>False
noncomputable def cU:Qh->List (List Sk)->Prop|.nil,a=>a=[]|.cons h k r,o::a=>QK h.mode o=true/\(o.length<=5000/\∀v∈o,aU k v)/\cU r a|.cons _ _ _,[]=>False
noncomputable def hV:Qh->List (List Sk)->Prop|.nil,_=>False|.cons h k r,o::a=>(∃y,o=[y]/\aU k y/\a=r.list.map λ_=>[])\/(o=[]/\hV r a)|.cons _ _ _,[]=>False
end
def CZ:aU (.group false fs) (.group ss)=cU fs ss:=G
def O4:aU (.group true fs) (.group ss)=hV fs ss:=G
def CY:aU (.leaf l) (.lit v)=(Rn l v=true):=G
def O5{h:Td}{o:List Sk}:cU (.cons h k r) (o::ss)=(QK h.mode o=true/\(o.length<=5000/\∀v∈o,aU k v)/\cU r ss):=by rfl
theorem ur:∀{fs:Qh}{ss:List (List Sk)},cU fs ss->ss.length=fs.list.length|.nil,ss,h=>by rw[h];rfl|.cons _ _ r,[],h=>by erw[cU]at h|.cons _ _ r,o::ss,h=>by erw[PZ,P0,ur h.2.2]
theorem nq:∀{fs:Qh}{ss:List (List Sk)}{p:Nat}{x:HK}{o:List Sk},cU fs ss->fs.list[p]?=U x->ss[p]?=U o->QK x.1.mode o=true/\o.length<=5000/\∀v∈o,aU x.2 v|.nil,ss,p,x,o,_,a,_=>by simp[PZ]at a|.cons _ _ r,[],p,x,o,h,_,_=>by erw[cU]at h|.cons h k r,s::ss,0,x,o,c,a,b=>by erw[PZ,List.getElem?_cons_zero,QS]at a b;subst a b;exact#[c.1,c.2.1]|.cons h k r,s::ss,p+1,x,o,c,a,b=>by erw[PZ,List.getElem?_cons_succ]at a b;exact nq c.2.2 a b
theorem uu:∀{fs:Qh}{ss:List (List Sk)},ss.length=fs.list.length->(∀(p:Nat)(x:HK)(o:List Sk),fs.list[p]?=U x->ss[p]?=U o->QK x.1.mode o=true/\o.length<=5000/\∀v∈o,aU x.2 v)->cU fs ss|.nil,[],_,_=>by rfl|.nil,s::ss,h,_=>by simp[PZ]at h|.cons _ _ r,[],h,_=>by simp[PZ]at h|.cons c k r,s::ss,h,a=>by have b:=a 0 (c,k) s rfl rfl;exact#[b.1,b.2,uu (by simpa[PZ]using h) λp x o b c=>a (p+1) x o (by simpa[PZ]using b)<|by simpa using c]
theorem qa:∀{fs:Qh}{ss:List (List Sk)},hV fs ss↔∃p x y,fs.list[p]?=U x/\aU x.2 y/\ss=cu fs.list p y
 |.nil,ss=>by simp[hV,PZ]|.cons h k r,[]=>by erw[hV,false_iff];rintro⟨p,x,y,b,_,a⟩;have:=congrArg SG a;rw[BX]at this;simp[PZ]at this|.cons h k r,o::ss=>by
  erw[hV];have d:=qa (fs:=r) (ss:=ss);constructor
  .rintro(⟨y,rfl,c,rfl⟩|⟨rfl,e⟩);.exact#[0,(h,k),y,G,c,G]
   .have#[p,x,y,b,c,rfl]:=d.mp e;exact#[p+1,x,y,b,c,G]
  .rintro⟨p,x,y,b,c,a⟩;induction p with|zero=>erw[PZ,List.getElem?_cons_zero,QS]at b;subst b;erw[PZ,ke,Xa]at a;exact .inl #[y,a.1,c,a.2]|succ p=>erw[PZ,List.getElem?_cons_succ]at b;erw[PZ,nc,Xa]at a;exact .inr #[a.1,d.mpr #[p,x,y,b,c,a.2]]
def B3:QK m [v]=true:=by induction m<;>rfl
def ub(h:m≠.one):QK m []=true:=by induction m with|one=>exact absurd rfl h|_=>rfl
mutual
theorem qc:(k:Sa)->(c:Bool)->(h:Td)->dD c (h,k)->∀o,Qr h k=U o->QK h.mode o=true/\o.length<=5000/\∀v∈o,aU k v
 |.leaf l,c,h,f,o,a=>by
  unfold Qr at a;split at a;.have#[v,b,rfl]:=omap.mp a;have#[d,e,rfl]:=omap.mp b;have#[_,_,j,g,i]:=f.2.2.2.2.2.2 d e;cases g;refine#[B3,by simp,λw d=>?_];rw[RN.mp d];exact i
  .rename_i e;cases a;exact#[ub e,by simp,λv b=>by cases b]
 |.group true g,c,h,f,o,a=>by
  unfold Qr at a;split at a;.simp[RT]at a
  .rename_i e;cases a;exact#[ub e,by simp,λv b=>by cases b]
 |.group false g,c,h,f,o,a=>by
  unfold Qr at a;split at a;.have#[v,b,rfl]:=omap.mp a;have#[i,j,rfl]:=omap.mp b;refine#[B3,by simp,λw d=>?_];rw[RN.mp d];have d:=f.2.2.2.1;erw[aI]at d;exact C0 g false d.2 i j
  .rename_i e;cases a;exact#[ub e,by simp,λv b=>by cases b]
theorem C0:(fs:Qh)->(c:Bool)->cV c fs->∀ss,SH fs=U ss->cU fs ss|.nil,c,_,ss,h=>by erw[SH]at h;cases h;rfl|.cons d k r,c,a,ss,h=>by erw[SH]at h;have#[o,e,h]:=aH.mp h;have#[f,g,rfl]:=omap.mp h;erw[cV]at a;have b:=qc k c d #[a.1,a.2.1,a.2.2.1,a.2.2.2.1,a.2.2.2.2.1,a.2.2.2.2.2.1,a.2.2.2.2.2.2.1] o e;exact#[b.1,b.2,C0 r c a.2.2.2.2.2.2.2.2.2 f g]
end
theorem oR{a b:Type}{f:a->Option b}:∀{l:List a}{r:List b},l.mapM f=U r->∀y∈r,∃x∈l,f x=U y
 |[],r,h,y,c=>by simp at h;rw[h]at c;cases c|a::l,r,h,y,c=>by
  rw[RV]at h;have#[b,d,h]:=aH.mp h;have#[e,b,h]:=aH.mp h;cases h;rcases Qp.mp c with rfl|c;.exact#[a,by simp,d]
  .have#[x,g,e]:=oR b y c;exact#[x,by simp[g],e]
theorem fu{a b:Type}{f:a->Option b}:∀{l:List a}{r:List b},l.mapM f=U r->r.length=l.length/\∀(p:Nat)(x:a)(y:b),l[p]?=U x->r[p]?=U y->f x=U y|[],r,h=>by simp at h;rw[h];exact#[G,λp x y c=>by simp at c]|a::l,r,h=>by rw[RV]at h;have#[b,d,h]:=aH.mp h;have#[b,a,h]:=aH.mp h;cases h;have#[b,e]:=fu a;refine#[by simp[b],λp x y c a=>?_];induction p with|zero=>simp at c a;subst c a;exact d|succ p=>exact e p x y (by simpa using c) (by simpa using a)
def dh{c:Bool}{fs:Qh}(a:cV c fs){p:Nat}(h:fs.list[p]?=U x):dD c x:=gn a x<|List.mem_of_getElem? h
theorem tE:∀{L:List HK}{n:Nat},cj L->(∀x∈L,n<x.1.number)->(∀x∈L,x.1.number<=999)->L.length+n<=999\/L=[]
 |[],_,_,_,_=>.inr rfl|x::L,n,a,d,c=>by
  left;cases a with|cons a b=>
  have e:=d x (by simp);have d:=c x (by simp);rcases tE (n:=x.1.number) b a (λy a=>c y<|by simp[a])with h|h;.erw[P0];lia
  .subst h;erw[P0,Qs];lia
def qj{c:Bool}{fs:Qh}(h:cV c fs):fs.list.length<=999:=by
 rcases tE (n:=0) (dc h) (λx a=>(gn h x a).2.1) (λx a=>(gn h x a).2.2.1)with h|h;.lia
 .rw[h];simp
def uF{c:Bool}{fs:Qh}(h:cV c fs):fs.list.length<=1000000:=QW (qj h) (by decide)
def qd:(n:Nat)->(a c:Sa)->sizeOf a<=n->aI a->aI c->∀x y,aU c x->Qc a c x=U y->aU a y:=by
 intro n;induction n with
 |zero=>intro a c t;cases a<;>simp at t|succ n i=>
  intro a c t m s x y u b;match a,c,x with
  |.leaf l,.leaf o,.lit v=>
   rw[PQ]at b;split at b;.rename_i a;cases b;erw[QH]at a;exact a.2
   .cases b
  |.group false A,.group false c,.group H=>
   have#[d,a,rfl]:=omap.mp b;erw[aI]at m s;rw[pG]at a;have#[d,e]:=fu a;refine uu d λp z o a d=>?_;have l:=e p z o a d;have B:sizeOf z.2<=n:=by
    have C:=List.mem_of_getElem? a;have:∀(c:Qh)(z:HK),z∈c.list->sizeOf z.2<sizeOf c:=by
     intro c;induction c using XG (motive_1:=λ_=>True)with
     |leaf=>trivial|group=>trivial|nil=>intro z a;simp[PZ]at a|cons h k r _ i=>
      intro z a;rcases Qp.mp a with rfl|a;.simp;lia
      .have:=i z a;simp;lia
    have:=this A z C;simp at t;lia
   unfold eO at l;split at l
   .rename_i g j d d;have#[q,D,E]:=aH.mp l;split at E;.rename_i w;cases E;unfold SJ at d;rw[qk (ur u)<|dc s.2]at d;have#[e,_,d]:=aH.mp d;have#[g,f,d]:=aH.mp d;have#[I,F,e]:=omap.mp d;cases e;refine#[w,by rw[(fu D).1];exact(nq u f F).2.1,λv e=>?_];have#[w,d,I]:=oR D v e;exact i z.2 j B (dh m.2 a).2.2.2.1 (dh s.2 f).2.2.2.1 w v ((nq u f F).2.2 w d) I
    .cases E
   .exact qc z.2 false z.1 (dh m.2 a) o l
  |.group true A,.group true c,.group H=>
   erw[aI]at m s;have#[p,z,w,a,d,rfl]:=qa.mp u;rw[Br (dc m.2) (dc s.2) (g:=z.1) (j:=z.2) a]at b;have#[q,D,b]:=aH.mp b;have#[g,f,b]:=aH.mp b;have#[e,j,rfl]:=omap.mp b;refine qa.mpr #[q,g,e,f,?_,G];have B:sizeOf g.2<=n:=by
    have C:=List.mem_of_getElem? f;have:∀(c:Qh)(z:HK),z∈c.list->sizeOf z.2<sizeOf c:=by
     intro c;induction c using XG (motive_1:=λ_=>True)with
     |leaf=>trivial|group=>trivial|nil=>intro z a;simp[PZ]at a|cons h k r _ i=>
      intro z a;rcases Qp.mp a with rfl|a;.simp;lia
      .have:=i z a;simp;lia
    have:=this A g C;simp at t;lia
   exact i g.2 z.2 B (dh m.2 f).2.2.2.1 (dh s.2 a).2.2.2.1 w e d j
  |.leaf _,.leaf _,.group _=>cases b|.leaf _,.group _ _,_=>cases b|.group _ _,.leaf _,_=>cases‹Bool›<;>cases b|.group false _,.group true _,_=>cases b|.group true _,.group false _,_=>cases b|.group false _,.group false _,.lit _=>cases b|.group true _,.group true _,.lit _=>cases b
theorem BS:∀{k:Sa}{x:Sk}{t r:Qv},aM k t=U (x,r)->r.length<t.length
 |.leaf l,x,t,r,h=>by
  have#[#[v,s],a,e]:=omap.mp h;cases e;have:=sA a;have a:0<(RA v).length:=by
   induction v with
   |str s=>simp[RA,Z1]|num z=>
    erw[RA,RK];split;.simp
    .exact Ui.mpr (rB _ _<|S8 _).2.1
  rw[this,P5];simp only;lia
 |.group false a,x,t,r,h=>by
  have:=val_back (.group false a) t x r h;have#[u,b,h]:=aH.mp h;have#[#[c,w],d,h]:=aH.mp h;simp only at h;split at h;.cases h;erw[P6]at this;rw[this];erw[P5,P0];lia
  .cases h
 |.group true a,x,t,r,h=>by have:=val_back (.group true a) t x r h;have#[u,b,h]:=aH.mp h;have#[#[c,w],d,h]:=aH.mp h;have#[v,_,e]:=omap.mp h;cases e;erw[P6]at this;rw[this];erw[P5,P0];lia
def NZ{c:Nat}(hl:Le p):∀(n:Nat)(t:Qv)(xs:List Sk)(r:Qv),t.length<=n->bR p c t=U (xs,r)->xs.length<=t.length:=by
 intro n;induction n with
 |zero=>intro t xs r a h;rw[Qj.mp<|Tx.mp a,gY]at h;cases h;simp|succ n e=>
  intro t xs r a h;induction t with
  |nil=>rw[gY]at h;cases h;simp|cons d s=>
   by_cases b:d=c;.subst b;rw[fC hl]at h;unfold aT at h;have#[#[x,d],f,h]:=aH.mp h;have#[#[y,g],i,h]:=omap.mp h;cases h;have j:=hl s x d f;erw[P0]at a⊢;have:=e d y g ∅ i;lia
   .rw[gb b]at h;cases h;simp
def N4(a:Back (λt=>aM k t) k){c:Nat}{t r:Qv}{xs:List Sk}(h:aT (λt=>aM k t) c t=U (xs,r)):xs.length<=t.length:=by unfold aT at h;have#[#[x,b],d,h]:=aH.mp h;have#[#[y,e],f,h]:=omap.mp h;cases h;have g:=BS d;have d:=NZ a.le _ b y e (Qg _) f;erw[P0];lia
def N1{b:Type}{p:ag b}{c:Nat}{P:b->Prop}(hl:Le p){n:Nat}(hp:∀t x r,t.length<=n->p t=U (x,r)->P x){t r:Qv}{xs:List b}(i:t.length<=n)(h:aT p c t=U (xs,r)):∀x∈xs,P x:=by
 let a:ag b:=λu=>if u.length<=n then p u else O
 have g:Le a:=λu x r e=>by
  erw[a]at e;split at e;.exact hl u x r e
  .cases e
 have j:∀(m:Nat)(u:Qv),u.length<=m->u.length<=n->bR a c u=bR p c u:=by
  intro m;induction m with
  |zero=>intro u b _;rw[Qj.mp<|Tx.mp b];rfl|succ m k=>
   intro u b l;induction u with
   |nil=>rfl|cons d s=>
    by_cases f:d=c
    .subst f;rw[fC g,fC hl];erw[P0]at b l;unfold aT;have:a s=p s:=by erw[a];rw[aaD ∅]
     rw[this];cases b:p s with|none=>rfl|some x=>have:=hl s x.1 x.2 b;erw[P4];rw[k x.2 ∅ ∅]
    .rw[gb f,gb f]
 have d:aT a c t=aT p c t:=by
  unfold aT;have:a t=p t:=by erw[a];rw[aaD i]
  rw[this];cases b:p t with|none=>rfl|some x=>have:=hl t x.1 x.2 b;erw[P4];rw[j _ x.2 (Qg _) ∅]
 rw[<-d]at h;exact pM g (λu x r e=>by
  erw[a]at e
  split at e
  .rename_i a
   exact hp u x r a e
  .cases e) h
theorem ua:∀{fs:Qh}{ss:List (List Sk)},d9 (aD fs) ss=true->∀(p:Nat)(x:HK)(o:List Sk),fs.list[p]?=U x->ss[p]?=U o->QK x.1.mode o=true|.nil,ss,_,p,x,o,a,_=>by simp[PZ]at a|.cons _ _ r,[],_,p,x,o,_,b=>by simp at b|.cons h k r,s::ss,c,0,x,o,a,b=>by rw[jw,QH]at c;erw[PZ,List.getElem?_cons_zero,QS]at a b;subst a b;exact c.1|.cons h k r,s::ss,c,p+1,x,o,a,b=>by rw[jw,QH]at c;erw[PZ,List.getElem?_cons_succ]at a b;exact ua c.2 p x o a b
mutual
theorem C3:(k:Sa)->∀t x r,t.length<=5000->aM k t=U (x,r)->aU k x
 |.leaf l,t,x,r,a,h=>by have#[#[v,s],f,e]:=omap.mp h;cases e;exact(oP f).2|.group false c,t,x,r,a,h=>by
  have#[u,g,h]:=aH.mp h;have i:u.length<=5000:=by rw[bL.mp g]at a;erw[P0]at a;lia
  have#[#[j,w],b,h]:=aH.mp h;simp only at h;split at h
  .rename_i m;cases h;have l:j.length=c.list.length/\∀(p:Nat)(x:HK)(o:List Sk),c.list[p]?=U x->j[p]?=U o->o.length<=5000/\∀v∈o,aU x.2 v:=by
    delta eA at b;split at b;.cases b;rw[fg];refine#[by simp,λp x o _ d=>?_];rw[List.getElem?_map]at d;have#[_,_,rfl]:=omap.mp d;exact#[by simp,λv f=>by cases f]
    .have#[#[q,s],f,n]:=aH.mp b;have#[q,_,e]:=omap.mp n;cases e;exact(qb c).1 _ _ _ _ (QW (by have:=congrArg SG<|jA Qa u;rw[P5]at this;lia) i) f
   exact uu l.1 λp x o f d=>#[ua m p x o f d,l.2 p x o f d]
  .cases h
 |.group true c,t,x,r,a,h=>by
  have#[u,g,h]:=aH.mp h;have i:u.length<=5000:=by rw[bL.mp g]at a;erw[P0]at a;lia
  have#[#[j,w],b,h]:=aH.mp h;have#[v,_,e]:=omap.mp h;cases e;exact(qb c).2 _ _ _ _ (QW (by have:=congrArg SG<|jA Qa u;rw[P5]at this;lia) i) b
theorem qb:(fs:Qh)->(∀n t ss r,t.length<=5000->bD (aD fs) n t=U (ss,r)->ss.length=fs.list.length/\∀(p:Nat)(x:HK)(o:List Sk),fs.list[p]?=U x->ss[p]?=U o->o.length<=5000/\∀v∈o,aU x.2 v)/\(∀n t ss r,t.length<=5000->cJ (aD fs) n t=U (ss,r)->hV fs ss)
 |.nil=>#[λn t ss r _ h=>by simp[aD,bD]at h,λn t ss r _ h=>by simp[aD,cJ]at h]|.cons a k l=>by
  have m:=C3 k;have#[q,A]:=qb l;constructor
  .intro n t ss r d h;erw[aD,bD]at h;split at h
   .have#[u,i,h]:=aH.mp h;have g:u.length<=5000:=by rw[bL.mp i]at d;erw[P0]at d;lia
    have#[#[a,w],b,h]:=aH.mp h;have c:w.length<=u.length:=N3 (val_back k).le _ _ _ b;have s:a.length<=5000/\∀v∈a,aU k v:=#[QW (N4 (val_back k) b) g,N1 (val_back k).le (n:=5000) (λt x r a e=>m t x r a e) g b];simp only at h;split at h
    .rename_i a;have B:(a.dropWhile Qa).length<=5000:=by have f:=congrArg SG<|jA Qa a;rw[P5]at f;erw[P0]at c;lia
     have#[#[y,z],f,e]:=omap.mp h;cases e;have#[j,k]:=q _ _ _ _ B f;refine#[by simp[PZ,j],λp x o c a=>?_];induction p with|zero=>erw[PZ,List.getElem?_cons_zero,QS]at c a;subst c a;exact s|succ p=>exact k p x o (by simpa[PZ]using c) (by simpa using a)
    .cases h;refine#[by simp[PZ,fg],λp x o c a=>?_];induction p with|zero=>erw[PZ,List.getElem?_cons_zero,QS]at c a;subst c a;exact s|succ p=>rw[List.getElem?_cons_succ,List.getElem?_map]at a;have#[_,_,rfl]:=omap.mp a;exact#[by simp,λv b=>by cases b]
   .have#[#[y,z],f,e]:=omap.mp h;cases e;have#[j,k]:=q _ _ _ _ d f;refine#[by simp[PZ,j],λp x o c a=>?_];induction p with|zero=>erw[List.getElem?_cons_zero,QS]at a;subst a;exact#[by simp,λv b=>by cases b]|succ p=>exact k p x o (by simpa[PZ]using c) (by simpa using a)
  .intro n t ss r d h;erw[aD,cJ]at h;split at h
   .have#[u,i,h]:=aH.mp h;have g:u.length<=5000:=by rw[bL.mp i]at d;erw[P0]at d;lia
    have#[#[v,w],b,e]:=omap.mp h;cases e;erw[hV];exact .inl #[v,G,m _ _ _ g b,fg l]
   .have#[#[y,z],f,e]:=omap.mp h;cases e;erw[hV];exact .inr #[trivial,A _ _ _ _ d f]
end
def uv(h:eF fs t=U v):aU (.group false fs) v:=by
 unfold eF at h;split at h;.cases h
 .rename_i a;have#[#[x,r],a,h]:=aH.mp h;simp only at h;split at h;.cases h;exact C3 _ _ _ _ ∅ a
  .cases h
end
section
open Vacola (Lit)
noncomputable def b0:Xl->Int|.bit=>1|.int n=>2^(n-1)-1|.text n=>n
noncomputable def jU:Xl->Int|.bit=>0|.int n=>-(2^(n-1))|.text _=>0
noncomputable def beyond:Xl->Lit|.text n=>.str<|QA (n+1) 97|l=>.num<|b0 l+1
def yV{m n:Nat}(a:2<=m)(b:2<=n):(2:Int)^(m-1)-1<2^(n-1)-1↔m<n:=by
 have a:(2:Nat)^(m-1)<2^(n-1)↔m<n:=by rw[Nat.pow_lt_pow_iff_right ∅];lia
 have e:(2:Int)^(m-1)<2^(n-1)↔(2:Nat)^(m-1)<2^(n-1):=by
  constructor;.intro h;exact_mod_cast h
  .intro h;exact_mod_cast h
 rw[<-a,<-e];lia
def pow_two{m:Nat}(a:2<=m):(2:Int)<=2^(m-1):=by have:(2:Nat)^1<=2^(m-1):=Tv ∅ ∅;exact_mod_cast this
def Jz(hl:gQ l)(a:gQ o):jT l o=if Rj o l=false then U (1,[],[QG<|.leaf o])else if b0 l<b0 o then U (2,[],[.lit<|beyond l])else O:=by
 unfold jT Ug;induction l with
 |bit=>induction o with|bit=>rfl|int n=>rfl|text n=>rfl
 |int m=>
  induction o with
  |bit=>
   have:=pow_two hl.1;have b:¬b0 (.int m)<b0 .bit:=by erw[b0];lia
   erw[show Rj .bit (.int m)=true from G,WX,aaF,Rz];rw[aaC b]
  |int n=>
   erw[show Rj (.int n) (.int m)=true from G,WX,aaF];by_cases h:m<n
   .rw[aaD h,aaD (show b0 (.int m)<b0 (.int n)from(yV hl.1 a.1).mpr h)];have e:beyond (.int m)=.num (2^(m-1)):=by show Lit.num (2^(m-1)-1+1)=_;congr 1;lia
    rw[e];rfl
   .rw[aaC h,aaC (show¬b0 (.int m)<b0 (.int n)fromλe=>h<|(yV hl.1 a.1).mp e)];rfl
  |text n=>rfl
 |text m=>
  induction o with
  |bit=>rfl|int n=>rfl|text n=>
   erw[show Rj (.text n) (.text m)=true from G,WX,aaF];by_cases h:m<n;.rw[aaD h,aaD (show b0 (.text m)<b0 (.text n) by erw[b0];lia)];rfl
   .rw[aaC h,aaC (show¬b0 (.text m)<b0 (.text n) by erw[b0];lia)];rfl
def wG{z:Int}(hl:∀n,l≠.text n):Rn l (.num z)=(decide (jU l<=z)&&decide (z<=b0 l)):=by induction l with|bit=>show(z==0||z==1)=(decide ((0:Int)<=z)&&decide (z<=1));rw[Rt,We,QH,beq_iff_eq,beq_iff_eq,decide_eq_true_eq,decide_eq_true_eq];lia|int n=>change(decide _&&decide _)=_;erw[jU,b0];congr 1;apply decide_eq_decide.mpr;constructor<;>intro h<;>lia|text n=>exact absurd rfl<|hl n
def kY{h:Td}(e:QI k=U (h,l)):∃r,k=.group false (.cons h (.leaf l) r)/\h.mode=.one:=by
 match k,e with
 |.group false (.cons a (.leaf b) r),e=>
  change(if a.mode=.one then U (a,b)else O)=_ at e;split at e;.rename_i a;cases e;exact#[r,G,a]
  .cases e
 |.leaf _,e=>cases e|.group true _,e=>cases e|.group false .nil,e=>cases e|.group false (.cons _ (.group _ _) _),e=>cases e
noncomputable def bZ(k:Sa):Nat:=match k with|.group _ (.cons h _ _)=>h.number|_=>0
def xw(hk:(QI k).isSome=true)(b:(QI j).isSome=true):UQ k≠UQ j↔bZ k≠bZ j:=by have#[#[h,l],e]:=QV.mp hk;have#[#[c,d],a]:=QV.mp b;have#[r,rfl,b]:=kY e;have#[b,rfl,c]:=kY a;unfold UQ;rw[e,a];simp[bZ]
def k7{h:Td}:Rh (.cons h k r)=(if h.mode=.one then[QG k]else[])::Rh r:=by erw[Rh]
def oG:QG (.group false fs)=.group (Rh fs):=G
noncomputable def iT(k:Sa):Sk:=match k with
 |.group _ a=>.group ((Rh a).set 0 [.lit (match a with
  |.cons _ (.leaf<|.text _) _=>.str [97]
  |_=>.num 1)])
 |.leaf _=>QG k
def OS(hk:m=.keyed->(QI k).isSome=true):SO m k=if m=.keyed then[QG k,iT k]else[QG k,QG k]:=by
 by_cases a:m=.keyed
 .rw[aaD a];have#[#[h,l],e]:=QV.mp<|hk a;have#[r,rfl,b]:=kY e;subst a;have c:QG (.group false<|.cons h (.leaf l) r)=.group ([QG<|.leaf l]::Rh r):=by rw[oG,k7,aaD b]
  delta SO;rw[e,c];simp only;congr 1;have b:iT (.group false<|.cons h (.leaf l) r)=.group ([.lit<|Vacolk.secondKey l]::Rh r):=by induction l<;>(unfold iT;erw[k7,Vv];rfl)
  rw[b]
 .rw[aaC a];induction m<;>first|exact absurd rfl a|rfl
noncomputable def iy(h g:Td)(k j:Sa):Option<|Nat×List Sk:=
 if h.mode=.one/\g.mode≠.one then U (5,[])
 else if h.mode=.opt/\(g.mode=.many\/g.mode=.keyed)then U (6,SO g.mode j)
 else if h.mode=.keyed/\¬(if g.mode=.keyed then bZ j=bZ k else g.mode≠.many)then U (7,SO g.mode j)
 else O
def J8{h g:Td}(hk:h.mode=.keyed->(QI k).isSome=true)(d:g.mode=.keyed->(QI j).isSome=true):R1 h g k j=iy h g k j:=by
 unfold R1 iy;by_cases c:h.mode=.one/\g.mode≠.one;.rw[aaD c,aaD c]
 .rw[aaC c,aaC c];have e:((h.mode=.one\/h.mode=.opt)/\(g.mode=.many\/g.mode=.keyed))↔(h.mode=.opt/\(g.mode=.many\/g.mode=.keyed)):=by
   constructor
   .rintro⟨b|b,a⟩;.exfalso;apply c;refine#[b,?_];rcases a with a|a<;>rw[a]<;>simp
    .exact#[b,a]
   .rintro⟨b,a⟩;exact#[.inr b,a]
  erw[e];by_cases c:h.mode=.opt/\(g.mode=.many\/g.mode=.keyed);.rw[aaD c,aaD c]
  .rw[aaC c,aaC c];have f:(h.mode=.keyed/\(g.mode=.many\/(g.mode=.keyed/\UQ k≠UQ j)))↔(h.mode=.keyed/\¬(if g.mode=.keyed then bZ j=bZ k else g.mode≠.many)):=by
    constructor
    .rintro⟨b,a⟩;refine#[b,?_];rcases a with a|⟨a,i⟩;.rw[aaC<|by rw[a];simp];simpa using a
     .rw[aaD a];intro e;exact(xw (hk b)<|d a).mp i e.symm
    .rintro⟨b,a⟩;refine#[b,?_];by_cases c:g.mode=.keyed;.rw[aaD c]at a;exact .inr #[c,(xw (hk b)<|d c).mpr λe=>a e.symm]
     .rw[aaC c]at a;exact .inl (by simpa using a)
   erw[f]
theorem B1:∀(hs gs fs:Qh),S5 hs gs fs=hs.list.all λz=>match aG z.1.number fs.list,aG z.1.number gs.list with
   |some x,U y=>QZ z.2 y.2 x.2
   |some _,O=>false
   |none,U y=>TN z.1 z.2 y.1 y.2
   |none,O=>true
 |.nil,gs,fs=>by simp[S5,PZ]
 |.cons h k r,gs,fs=>by
  rw[S5,B1 r gs fs]
  erw[PZ,Tz,iU]
  cases aG h.number fs.list<;>cases aG h.number gs.list<;>rfl
theorem B2:∀(hs gs fs:Qh),U0 hs gs fs=hs.list.all λz=>match aG z.1.number fs.list,aG z.1.number gs.list with
   |some x,U y=>QZ z.2 y.2 x.2
   |_,_=>true
 |.nil,gs,fs=>by simp[U0,PZ]
 |.cons h k r,gs,fs=>by
  rw[U0,B2 r gs fs]
  erw[PZ,Tz,iU]
  cases aG h.number fs.list<;>cases aG h.number gs.list<;>rfl
noncomputable def gh(gs hs:Qh)(x:HK):Bool:=match aG x.1.number gs.list,aG x.1.number hs.list with|some y,U z=>QZ z.2 y.2 x.2|_,_=>false
def Oi{hs gs fs:Qh}(d:cj hs.list)(e:cj fs.list):QZ (.group true hs) (.group true gs) (.group true fs)=fs.list.all (gh gs hs):=by
 rw[PX,B2,Rt,QH,RX,RX,RX];erw[iU,QH];constructor;.rintro⟨a,f⟩x b;have#[c,g]:=a x b;have#[y,a]:=QV.mp c;have#[z,c]:=QV.mp g;have#[g,h]:=ig c;have:=f z g;rw[h,jO e b,a]at this;unfold gh;rw[a,c];exact this
 .intro h;refine#[λx b=>?_,λz c=>?_];.have:=h x b;unfold gh at this;cases a:aG x.1.number gs.list with|none=>rw[a]at this;cases this|some y=>cases c:aG x.1.number hs.list with|none=>rw[a,c]at this;cases this|some z=>exact#[G,G]
  .cases b:aG z.1.number fs.list with|none=>rfl|some x=>cases a:aG z.1.number gs.list with|none=>rfl|some y=>have#[e,f]:=ig b;have:=h x e;unfold gh at this;rw[f,a,jO d c]at this;exact this
def NT{m:ZL}{h:Td}{p q:List Sk}(hp:Qr h k=U p)(b:QK h.mode q=true)(c:∀x∈q,P6 k x≠[]):
    (name++(58::Qd 44 (q.map λv=>P6 k v))=name++(58::Qd 44 (p.map λv=>P6 k v)))↔(q.map λv=>P6 k v)=p.map λv=>P6 k v:=by
 rw[List.append_cancel_left_eq,Xa];erw[true_and];unfold Qr at hp;split at hp;.rename_i d;have#[v,_,rfl]:=omap.mp hp;rw[d]at b;erw[QK,beq_iff_eq]at b;have#[w,rfl]:=YH.mp b;simp[Qd]
 .cases hp;erw[SE,Qd];induction q with|nil=>simp[Qd]|cons w q=>erw[Ql,reduceCtorEq,iff_false];have e:=c w (by simp);induction q with|nil=>simpa[Qd]using e|cons a q=>erw[Ql];rw[iH _ _<|by simp];simp
noncomputable def tO(h:Td)(k:Sa)(g:Td)(j:Sa):Bool:=match Qr g j,Qr h k with
 |some o,U p=>match(o.mapM λv=>Qc k j v).bind λq=>if QK h.mode q then U q else O with
  |some q=>(q.map λv=>P6 k v)==p.map λv=>P6 k v
  |none=>false
 |_,_=>false
def NS:TN h k g j=tO h k g j:=by unfold TN tO;induction Qr g j with|none=>rfl|some o=>induction Qr h k with|none=>rfl|some p=>simp only;induction o.mapM λv=>Qc k j v with|none=>rfl|some q=>erw[P4];cases a:QK h.mode q with|true=>simp|false=>simp
end
section
set_option tactic.hygienic true
theorem ki:∀(fs:Qh),aD fs=fs.list.map λx=>(x.1,λt=>aM x.2 t)|.nil=>by simp[aD,PZ]|.cons h k r=>by erw[aD,PZ,Ql,ki r]
theorem pR:∀{T:gC}{n t:Qv},(∀x∈T,x.1.name≠n)->bD T n t=O|[],n,t,_=>rfl|(h,p)::T,n,t,a=>by rw[bD,aaC<|a _ QE,pR λx b=>a x<|Qk _ b];rfl
theorem tW:∀{T:gC}{n t:Qv}{j:Nat}{h:Td}{p:ag Sk},T[j]?=U (h,p)->h.name=n->(∀i,i<j->∀x,T[i]?=U x->x.1.name≠n)->
  bD T n t=(aN 58 t).bind λs=>(aT p 44 s).bind λx=>match x.2 with
   |59::r=>(bD (T.drop<|j+1) (r.takeWhile Qa)<|r.dropWhile Qa).map λy=>(QA j []++x.1::y.1,y.2)
   |_=>U (QA j []++x.1::(T.drop<|j+1).map λ_=>[],x.2)
 |[],n,t,j,h,p,a,_,_=>by simp at a
 |(g,q)::T,n,t,0,h,p,a,b,_=>by
  simp at a
  have#[rfl,rfl]:=a
  rw[bD,aaD b]
  erw[List.replicate_zero,Rk,R0,Zo,aay]
  all_goals rfl
 |(g,q)::T,n,t,j+1,h,p,a,b,c=>by
  have d:¬g.name=n:=c 0 ∅ (g,q) rfl
  rw[bD,aaC d,tW (T:=T) (j:=j) (by simpa using a) b λi b x a=>c (i+1) ∅ x (by simpa using a)]
  induction aN 58 t with
  |none=>rfl
  |some s=>
   erw[P4]
   induction aT p 44 s with
   |none=>rfl
   |some x=>
    erw[P4,Zo]
    split
    .rename_i r _
     induction bD (T.drop<|j+1) (r.takeWhile Qa) (r.dropWhile Qa)with
     |none=>rfl
     |some y=>simp[RH]
    .simp[RH]
theorem Cv:∀{T:gC}{n t:Qv},(∀x∈T,x.1.name≠n)->cJ T n t=O|[],n,t,_=>rfl|(h,p)::T,n,t,a=>by rw[cJ,aaC<|a _ QE,Cv λx b=>a x<|Qk _ b];rfl
theorem uf:∀{fs:Qh}{n t:Qv}{j:Nat}{x:HK},fs.list[j]?=U x->x.1.name=n->(∀i,i<j->∀x,fs.list[i]?=U x->x.1.name≠n)->
  cJ (aD fs) n t=(aN 58 t).bind λs=>(aM x.2 s).map λy=>(cu fs.list j y.1,y.2)|.nil,n,t,j,x,a,_,_=>by simp[PZ]at a|.cons h k r,n,t,0,x,a,b,_=>by simp[PZ]at a;subst a;rw[aD,cJ,aaD b];erw[PZ,ke,ki,Se];rfl|.cons h k r,n,t,j+1,x,a,b,c=>by have d:¬h.name=n:=c 0 ∅ (h,k) rfl;erw[PZ,List.getElem?_cons_succ]at a;rw[aD,cJ,aaC d,uf (fs:=r) (j:=j) a b λi b x a=>c (i+1) ∅ x (by simpa[PZ]using a)];induction aN 58 t with|none=>rfl|some s=>erw[P4];induction aM x.2 s with|none=>rfl|some y=>simp[PZ,nc]
def oY{L:List HK}{p:Nat}(h:(L.findIdx? λx=>x.1.name==n)=U p):∃x,L[p]?=U x/\x.1.name=n/\∀i,i<p->∀y,L[i]?=U y->y.1.name≠n:=by have#[a,b,c]:=List.findIdx?_eq_some_iff_getElem.mp h;refine#[L[p],by simp[a],by simpa using b,λi a y b=>?_];have:=c i a;have#[a,e]:=List.getElem?_eq_some_iff.mp b;rw[e]at this;simpa using this
def yr{L:List HK}(h:(L.findIdx? λx=>x.1.name==n)=O):∀x∈L,x.1.name≠n:=by intro x a e;have:=List.findIdx?_eq_none_iff.mp h x a;simp[e]at this
def yt{L:List HK}(a:(L.map λx=>x.1.name).Nodup){i j:Nat}(b:L[i]?=U x)(c:L[j]?=U y)(e:x.1.name=y.1.name):i=j:=by
 have#[d,f]:=List.getElem?_eq_some_iff.mp b;have#[b,g]:=List.getElem?_eq_some_iff.mp c;have c:i<(L.map λx=>x.1.name).length:=by rw[Qe];exact d
 have d:j<(L.map λx=>x.1.name).length:=by rw[Qe];exact b
 exact(aad a (h₀:=c) (h₁:=d)).mp (by rw[aac,aac,f,g];exact e)
end
end
open PySem PySem.Spec PyProof.Rows
section
set_option tactic.hygienic true
abbrev Key:=Sum Int QQ
noncomputable def iq:Key->P7->Bool|.inl k,v=>Value.isInt k v|.inr x,v=>aav x v
noncomputable def Jj(w:RO):Key->Int|.inl k=>hashInt k|.inr x=>hashStr w x
theorem ir:∀{k:Key}{v:P7},iq k v=true->(∃i t,k=Tu i/\v=VX i t)\/(∃x t,k=Xn x/\v=Yo x t)|.inl i,v,h=>by have#[t,e]:=Value.isInt_shape (k:=i) (v:=v) h;exact .inl #[i,t,G,e]|.inr x,v,h=>by have#[t,e]:=Value.isStrOf_shape (x:=x) (v:=v) h;exact .inr #[x,t,G,e]
def Jk(i:Int)(t:Tok):iq (.inl i) (.int i t)=true:=by simp[iq,Value.isInt]
def Jl(x:QQ)(t:Tok):iq (.inr x) (.str x t)=true:=by simp[iq,aav]
def Jm(a b:Int):decide ((Tu a:Key)=Tu b)=(a==b):=by
 by_cases e:a=b;.subst e;simp
 .have h:¬(Tu a:Key)=Tu b:=λq=>e (Xg q);rw[decide_eq_false h];exact(beq_eq_false_iff_ne.mpr e).symm
def Jp(a b:QQ):decide ((Xn a:Key)=Xn b)=decide (a=b):=by
 by_cases e:a=b;.subst e;simp
 .have h:¬(Xn a:Key)=Xn b:=λq=>e (Sum.inr.inj q);rw[decide_eq_false h,decide_eq_false e]
def Jn(a:Int)(b:QQ):decide ((Tu a:Key)=Xn b)=false:=decide_eq_false λq=>nomatch q
def Jo(a:QQ)(b:Int):decide ((Xn a:Key)=Tu b)=false:=decide_eq_false λq=>nomatch q
noncomputable def bz(prog:Rb)(w:RO):W6 prog w Key where
 is:=iq
 hash:=Jj w
 inj:=λv a b c d=>by
  rcases ir c with⟨i,t,rfl,rfl⟩|⟨x,t,rfl,rfl⟩
  .rcases ir d with⟨j,u,rfl,e⟩|⟨y,u,rfl,e⟩
   .injection e with c _;rw[c]
   .exact nomatch e
  .rcases ir d with⟨j,u,rfl,e⟩|⟨y,u,rfl,e⟩
   .exact nomatch e
   .injection e with c _;rw[c]
 byValue:=λk v h=>by
  rcases ir h with⟨i,t,rfl,rfl⟩|⟨x,t,rfl,rfl⟩<;>rfl
 pyHash:=λd h=>by
  rcases ir d with⟨i,t,rfl,rfl⟩|⟨x,t,rfl,rfl⟩
  .exact wpAny_pyHash_int h
  .exact wpAny_pyHash_str h
 eqBool:=λf d h=>by
  rcases ir f with⟨i,t,rfl,rfl⟩|⟨x,t,rfl,rfl⟩
  .rcases ir d with⟨j,u,rfl,rfl⟩|⟨y,u,rfl,rfl⟩
   .rw[Jm]at h;exact wpAny_eqBool_int h
   .rw[Jn]at h;exact Yq i t y u _ _ _ _ h
  .rcases ir d with⟨j,u,rfl,rfl⟩|⟨y,u,rfl,rfl⟩
   .rw[Jo]at h;exact Yp x t j u _ _ _ _ h
   .rw[Jp]at h;exact wpAny_eqBool_str h
 «strs»:=λk x t v h=>by
  rcases ir h with⟨i,u,rfl,e⟩|⟨y,u,rfl,e⟩
  .exact nomatch e
  .injection e with c _
   subst c
   induction v<;>rfl
def J1(prog:Rb)(w:RO)(i:Int)(t:Tok):(bz prog w).is (.inl i) (.int i t)=true:=Jk i t
def J2(prog:Rb)(w:RO)(x:QQ)(t:Tok):(bz prog w).is (.inr x) (.str x t)=true:=Jl x t
set_option genInjectivity true in
inductive V where
 |ao|bl (b:Bool)|int (i:Int)|str (x:QQ)|eL (b:Array UInt8)|jP (b:UInt64)|ref (a:P2)|ty (n:String)
 deriving DecidableEq
def RelV:V->P7->Prop|.ao,u=>u=UX|.bl b,u=>u=Zf b|.int i,u=>∃t,u=VX i t|.str x,u=>∃t,u=Yo x t|.eL b,u=>∃t,u=Value.bytes b t|.jP b,u=>∃t,u=Value.float b t|.ref a,u=>u=QY a|.ty n,u=>u=XS n
abbrev Vals:List V->List P7->Prop:=Paired RelV
def Vals.length{xs:List V}{us:List P7}(r:Vals xs us):xs.length=us.length:=Qy r
def Vals.get:∀{xs:List V}{us:List P7}{i:Nat}{x:V},Vals xs us->xs[i]?=U x->∃u,us[i]?=U u/\RelV x u:=by intro xs us i x a e;induction a generalizing i with|nil=>cases e|cons r t a=>induction i with|zero=>cases e;exact#[_,G,r]|succ i=>exact a e
def Vals.set(r:RelV x u):∀{xs:List V}{us:List P7}(i:Nat),Vals xs us->Vals (xs.set i x) (us.set i u):=by intro xs us i a;induction a generalizing i with|nil=>exact .nil|cons h t a=>induction i with|zero=>exact .cons r t|succ i=>exact .cons h<|a i
def Vals.append:∀{xs ys:List V}{us a:List P7},Vals xs us->Vals ys a->Vals (xs++ys) (us++a):=by intro _ _ _ _ a s;induction a with|nil=>exact s|cons r t a=>exact .cons r a
def Vals.take:∀{xs:List V}{us:List P7}(n:Nat),Vals xs us->Vals (xs.take n) (us.take n):=by intro xs us n a;induction a generalizing n with|nil=>induction n<;>exact .nil|cons h t a=>induction n with|zero=>exact .nil|succ n=>exact .cons h<|a n
def Vals.drop:∀{xs:List V}{us:List P7}(n:Nat),Vals xs us->Vals (xs.drop n) (us.drop n):=by intro xs us n a;induction a generalizing n with|nil=>induction n<;>exact .nil|cons h t a=>induction n with|zero=>exact .cons h t|succ n=>exact a n
def dA:Option V->Option P7->Prop|some v,U u=>RelV v u|none,O=>True|_,_=>False
def KV{κ:Type}:List (κ×V)->List (κ×P7)->Prop:=Paired λ(p:κ×V)(q:κ×P7)=>p.1=q.1/\RelV p.2 q.2
noncomputable def kV:Key->V|.inl i=>.int i|.inr x=>.str x
inductive HO where
 |lst(xs:List V)
 |tup(xs:List V)
 |dK(kvs:List (Key×V))|dT (kvs:List (List Key×V))
 |set(S:Int->Bool)(n:Nat)
 |ins(C dx:P2)(fs:List (QQ×V))
 |own(x:P2)
 |xd(fs:List (QQ×V))
 |met(f x:P2)
 |pJ(lo hi:Int)
 |c7(o:S1)(u:HO)
 |jz(ps:Array P7)
 |ext(φ:Q7->Prop)
abbrev Hp:=P2->Option HO
noncomputable def upd(H:Hp)(a:P2)(o:HO):Hp:=λb=>if b=a then U o else H b
def ah:upd H a o a=U o:=by unfold upd;rw[aaD G]
def aq(h:b≠a):upd H a o b=H b:=by unfold upd;rw[aaC h]
def cR:upd (upd H a o) a u=upd H a u:=by funext b;unfold upd;split<;>rfl
def Kj{H:Hp}{a b:P2}{o u:HO}(h:H a=U o)(h':H b=U u)(d:o≠u):a≠b:=by intro e;subst e;rw[h]at h';exact d<|QO h'
def bT{H:Hp}{a b:P2}{o:HO}(h:H a=U o)(h':H b=O):a≠b:=by intro e;subst e;rw[h]at h';cases h'
section
variable(P:Rb)(w:RO)
noncomputable def bV(H:Hp)(h:Q7)(a:P2):HO->Prop
 |.lst xs=>xs.length<=Qq/\∃(its:List P7)(n:Nat),Vals xs its/\h.get? a=U {cls:=.type '4',data:=.seq its.toArray n}|.tup xs=>xs.length<=Qq/\∃its:List P7,Vals xs its/\Xz h a its.toArray|.dK kvs=>kvs.length<=Qq/\(a==Vh)=false/\∃b,KV kvs b/\h.DictOf (bz P w) a b|.dT kvs=>kvs.length<=Qq/\(a==Vh)=false/\∃xs:List<|List Key×P2×P7,
   Paired (λ(p:List Key×V)(q:List Key×P2×P7)=>p.1=q.1/\H q.2.1=U (.tup<|p.1.map kV)/\RelV p.2 q.2.2) kvs xs/\
   ∃o es ep,h.get? a=U o/\o.ExactDict/\o.data=.dict es ep/\es.toList=xs.map (entryOfKey<|Sy<|bz P w)/\(xs.map (·.1)).Nodup
 |.set S n=>h.SetOf (intKind P w) a S n|.ins C dx fs=>H dx=U (.own a)/\fs.length<=1000/\dx≠a/\h.get? a=U (Tf C dx)/\
   ∃mA,h.Ns1 dx mA/\(∀f,dA (fs.lookup f)<|mA f)/\Yz mA (fs.map (·.1))
 |.own _=>∃o,h.get? a=U o|.xd fs=>∃mA,h.Ns1 a mA/\∀f,dA (fs.lookup f)<|mA f|.pJ lo hi=>∃t u v,h.get? a=U {cls:=.type 'H',data:=.fields (Rc [.int lo t,.int hi u,.int 1 v])}|.c7 o u=>h.get? a=U o/\bV H h a u|.jz ps=>h.get? a=U {cls:=.none,data:=.fields ps}|.met f x=>h.get? a=U (WM (.ref f)<|.ref x)|.ext b=>b h/\(∃o,h.get? a=U o)/\∀h1 h2:Q7,b h1->(∀o,h1.get? a=U o->h2.get? a=U o)->b h2
def bt(H:Hp)(h:Q7):Prop:=∀a o,H a=U o->bV P w H h a o
end
section
variable{P:Rb}{w:RO}{H H':Hp}{h h':Q7}{a:P2}{o:HO}
def bV.lt(x:bV P w H h a o):a<h.objs.size:=by induction o with|lst xs=>have#[_,_,_,_,e]:=x;exact Qi e|tup xs=>have#[_,_,_,p]:=x;exact p.lt|dK kvs=>have#[_,_,_,_,o,_,_,e,_]:=x;exact Qi e|dT kvs=>have#[_,_,_,_,o,_,_,e,_]:=x;exact Qi e|set S n=>have#[o,_,_,_,e,_]:=x;exact Qi e|ins C dx fs=>have#[_,_,_,e,_]:=x;exact Qi e|own y=>have#[_,e]:=x;exact Qi e|xd fs=>have#[_,#[_,_,_,e,_],_]:=x;exact Qi e|pJ lo hi=>have#[_,_,_,e]:=x;exact Qi e|c7 b u=>have#[e,_]:=x;exact Qi e|jz ps=>exact Qi (show h.get? a=U _ from x)|met f y=>exact Qi (show h.get? a=U _ from x)|ext b=>have#[_,#[_,e],_]:=x;exact Qi e
def Paired.oT{c d:Type}{F e:c->d->Prop}:∀{g:List c}{h:List d},Paired F g h->(∀a b,F a b->e a b)->Paired e g h:=by intro _ _ c f;induction c with|nil=>exact .nil|cons r t c=>exact .cons (f _ _ r) c
def Paired.imp'{c d:Type}{F e:c->d->Prop}(f:∀a b,F a b->e a b){g:List c}{h:List d}(r:Paired F g h):Paired e g h:=Paired.oT r f
def bV.bO(x:bV P w H h a o)(k:∀b u,(b=a\/H b=U (.own a))->h.get? b=U u->h'.get? b=U u)(j:∀b,H b=U (.own a)->H' b=U (.own a))(i:∀b xs,H b=U (.tup xs)->H' b=U (.tup xs)):bV P w H' h' a o:=by induction o with|lst xs=>have#[z,its,n,r,e]:=x;exact#[z,its,n,r,k _ _ (.inl G) e]|tup xs=>have#[z,its,r,g,e,c]:=x;exact#[z,its,r,g,k _ _ (.inl G) e,c]|dK kvs=>have#[z,y,l,r,g,es,ep,e,c]:=x;exact#[z,y,l,r,g,es,ep,k _ _ (.inl G) e,c]|dT kvs=>have#[z,y,xs,r,g,es,ep,e,c]:=x;exact#[z,y,xs,Paired.oT r λp q z=>#[z.1,i _ _ z.2.1,z.2.2],g,es,ep,k _ _ (.inl G) e,c]|set S n=>have#[g,es,ep,t,e,c]:=x;exact#[g,es,ep,t,k _ _ (.inl G) e,c]|ins C dx fs=>have#[d,z,ne,e,mA,#[i,es,ep,l,c],r]:=x;exact#[j _ d,z,ne,k _ _ (.inl G) e,mA,#[i,es,ep,k _ _ (.inr d) l,c],r]|own y=>have#[g,e]:=x;exact#[g,k _ _ (.inl G) e]|xd fs=>have#[mA,#[i,es,ep,e,c],r]:=x;exact#[mA,#[i,es,ep,k _ _ (.inl G) e,c],r]|pJ lo hi=>have#[t,u,v,e]:=x;exact#[t,u,v,k _ _ (.inl G) e]|c7 g u i=>have#[e,q]:=x;exact#[k _ _ (.inl G) e,i q]|jz ps=>have e:h.get? a=U {cls:=.none,data:=.fields ps}:=x;show h'.get? a=U {cls:=.none,data:=.fields ps};exact k a _ (.inl G) e|met f y=>have e:h.get? a=U (WM (.ref f)<|.ref y):=x;show h'.get? a=U (WM (.ref f)<|.ref y);exact k a _ (.inl G) e|ext g=>have#[p,#[o,e],st]:=x;exact#[st _ _ p λo q=>k _ _ (.inl G) q,#[o,k _ _ (.inl G) e],st]
def bt.lt(x:bt P w H h)(e:H a=U o):a<h.objs.size:=(x a o e).lt
def bt.fresh(x:bt P w H h)(e:h.objs.size<=a):H a=O:=by cases q:H a with|none=>rfl|some u=>exact absurd (Qx (x.lt q) e)<|RP _
def bt.kept(x:bt P w H h)(k:∀b u,h.get? b=U u->h'.get? b=U u):bt P w H h':=λa o e=>
 (x a o e).bO (λb u _ q=>k b u q) (λ_ q=>q) λ_ _ q=>q
def bt.laid(x:bt P w H h)(k:∀b u,h.get? b=U u->h'.get? b=U u)(hp:h.objs.size<=a)(new:bV P w (upd H a o) h' a o):bt P w (upd H a o) h':=λb u e=>by
 have d:=x.fresh hp
 by_cases f:b=a
 .subst f;rw[ah]at e;cases e;exact new
 .rw[aq f]at e
  exact(x b u e).bO (λc v _ q=>k c v q) (λc q=>by rw[aq<|bT q d];exact q) λc xs q=>by rw[aq<|bT q d];exact q
end
def Rd(H:Hp)(a:P2)(u:HO):Prop:=H a=U u\/∃o,H a=U (.c7 o u)
def Rd.ok(r:Rd H a u)(x:bt P w H h):bV P w H h a u:=by
 rcases r with r|⟨o,r⟩;.exact x a u r
 .have#[_,q]:=x a _ r;exact q
def nG:Option HO->Prop|some (.lst _)=>True|some (.dK _)=>True|some (.dT _)=>True|some (.set _ _)=>True|some (.ins _ _ _)=>True|some (.ext _)=>True|_=>False
section
variable{P:Rb}{w:RO}{H:Hp}{h h':Q7}{x e:P2}{o':HO}
def bt.write(ok:bt P w H h)(a:nG<|H x)(g:e=x\/H e=U (.own x))(k:∀b u,b≠e->h.get? b=U u->h'.get? b=U u)(j:∃u,h'.get? e=U u)(new:bV P w (upd H x o') h' x o'):bt P w (upd H x o') h':=λb u q=>by
 have i:∀c y,H c=U (.own y)->c≠x:=λc y r z=>by subst z;rw[r]at a;exact a
 have l:∀c xs,H c=U (.tup xs)->c≠x:=λc xs r z=>by subst z;rw[r]at a;exact a
 by_cases a:b=x
 .subst a;rw[ah]at q;cases q;exact new
 .rw[aq a]at q
  by_cases d:b=e
  .have f:H b=U (.own x):=by
    rcases g with z|z
    .exact absurd (d.trans z) a
    .rw[d];exact z
   rw[q]at f;cases f
   have#[v,f]:=j
   exact#[v,by rw[d];exact f]
  .refine(ok b u q).bO (λc v f r=>k c v ?_ r) (λc r=>by rw[aq<|i c b r];exact r) λc xs r=>by rw[aq<|l c xs r];exact r
   rcases f with rfl|f
   .exact d
   .rintro rfl
    rcases g with z|z
    .exact i c b f z
    .rw[f]at z;cases z;exact a rfl
end
structure Un(fs ex:List P2)(H H':Hp)(h h':Q7):Prop where
 keep:∀b o,h.get? b=U o->H b=O->b∉fs->b∉ex->h'.get? b=U o
 slot:∀b o,h.get? b=U o->H b=O->b∈fs->b∉ex->∃sl,h'.get? b=U {o with slots:=sl}
 free:∀b o,h.get? b=U o->H b=O->b∉ex->H' b=O
 there:∀b o,h.get? b=U o->b∉ex->∃o',h'.get? b=U o'
 fF:∀b xs,H b=U (.tup xs)->H' b=U (.tup xs)
 eQ:∀b o u,H b=U (.c7 o u)->H' b=U (.c7 o u)
 fE:∀b ps,H b=U (.jz ps)->∃more,H' b=U (.jz (ps++more))
section
variable{fs fs' ex ex':List P2}{H H1 H2:Hp}{h h1 h2 h':Q7}{a x e:P2}{o:HO}
def Un.any(u:Un fs ex H H1 h h1)(q:h.get? b=U ob)(n:H b=O)(a:b∉ex):∃c,h1.get? b=U {ob with slots:=c}:=by
 by_cases c:b∈fs;.exact u.slot b ob q n c a
 .exact#[ob.slots,u.keep b ob q n c a]
def Un.kept(k:∀b u,h.get? b=U u->h'.get? b=U u):Un fs ex H H h h':=
 #[λb a q _ _ _=>k b a q,λb a q _ _ _=>#[a.slots,k b a q],λ_ _ _ n _=>n,λb a q _=>#[a,k b a q],λ_ _ q=>q,λ_ _ _ q=>q,λ_ ps q=>#[#[],by rw[q];simp]]
def Un.refl:Un fs ex H H h h:=Un.kept λ_ _ q=>q
def Un.laid(k:∀b u,h.get? b=U u->h'.get? b=U u)(hp:h.objs.size<=a)(c:H a=O):Un fs ex H (upd H a o) h h' where
 keep:=λb u q _ _ _=>k b u q
 slot:=λb u q _ _ _=>#[u.slots,k b u q]
 free:=λb u q n _=>by rw[aq<|QC<|Qx (Qi q) hp];exact n
 there:=λb u q _=>#[u,k b u q]
 fF:=λb xs q=>by rw[aq<|bT q c];exact q
 eQ:=λb u xs q=>by rw[aq<|bT q c];exact q
 fE:=λb ps q=>#[#[],by rw[aq<|bT q c,q];simp]
def Un.write(a:nG<|H x)(c:e=x\/H e=U (.own x))(k:∀b u,b≠e->h.get? b=U u->h'.get? b=U u)(g:∃u,h'.get? e=U u):Un fs ex H (upd H x o) h h':=by
 have d:∀b,H b=O->b≠x:=λb n z=>by subst z;rw[n]at a;exact a
 have f:∀b,H b=O->b≠e:=λb n z=>by
  subst z;rcases c with r|r;.exact d b n r
  .rw[n]at r;cases r
 have c:∀b u,H b=U u->¬nG (U u)->b≠x:=λb u q nm z=>by subst z;rw[q]at a;exact nm a
 refine#[λb u q n _ _=>k b u (f b n) q,λb u q n _ _=>#[u.slots,k b u (f b n) q],λb u q n _=>by rw[aq<|d b n];exact n,λb u q _=>?_,
  λb xs q=>by rw[aq<|c b _ q λz=>z];exact q,λb u xs q=>by rw[aq<|c b _ q λz=>z];exact q,λb ps q=>#[#[],by rw[aq<|c b _ q λz=>z,q];simp]]
 by_cases a:b=e;.subst a;exact g
 .exact#[u,k b u a q]
end
noncomputable def p3(h:Q7)(H:Hp):List P2:=(Uy h.objs.size).filter λa=>(H a).isSome
noncomputable def il(h:Q7)(H:Hp):Q7:=PySem.W.hideAll h<|p3 h H
def IF(h:Q7)(H:Hp):(il h H).objs.size=h.objs.size:=PySem.W.hideAll_size _ _
def IE{h:Q7}(e:h.get? b=U o)(n:H b=O):(il h H).get? b=U o:=
 PySem.W.hideAll_get _ e λa=>by
  have q:(H b).isSome=true:=(aap.mp a).2
  rw[n]at q;simp at q
def Kw{h:Q7}(e:(il h H).get? b=U o):h.get? b=U o/\H b=O:=by have a:h.get? b=U o:=PySem.W.of_hideAll (p3 h H) e;refine#[a,?_];cases q:H b with|none=>rfl|some x=>have c:b∈p3 h H:=aap.mpr #[Sr.mpr<|Qi a,by simp[q]];have z:(il h H).get? b=O:=PySem.W.hideAll_none (p3 h H) c;rw[z]at e;cases e
structure Mod(K:PY)(mg:QQ->Option P7)(base:Q7):Prop where
 mE:K.In base
 glob:base.Ns WZ mg
 blt:∃mb,base.Ns builtinsNs mb/\∀x:QQ,x≠'P'->mb x=Uu x
 nolimit:base.NoLimit
structure Cx where
 prog:Rb
 w:RO
 K:PY
 mg:QQ->Option P7
 base:Q7
 A:Rq
 N:List QQ
 aX:P9
 fh:Hp
 env:WI
 outer:List WI
 stack:List WI
 ex:List P2
 fn:QQ->Bool
 calm:Bool
 pn:List (P2×S1)
 xe:P7->P9->Prop
noncomputable def bh(l:List WI):List P2:=l.filterMap (·.frame)
noncomputable abbrev Cx.fs(X:Cx):List P2:=bh X.outer
def fN(a:Ry)(x:QQ):Prop:=a.names.lookup x=U .local\/a.names.lookup x=U .cell\/a.names.lookup x=U .free
def Loc(a:Ry)(x:QQ):Prop:=a.names.lookup x=U .local\/a.names.lookup x=U .cell
def Look(env:WI)(h:Q7)(m:QQ->Option P7)(x:QQ)(u:P7):Prop:=
 (env.kindOf x=U .local/\m x=U u)\/((env.kindOf x=U .cell\/env.kindOf x=U .free)/\∃c,env.cells.lookup x=U c/\h.IsCell c (U u))
structure Cx.Ok(X:Cx):Prop where
 mod:Mod X.K X.mg X.base
 kind:X.env.scope.kind=.function
 glob:X.env.globals=WZ
 blt:X.env.builtins=builtinsNs
 above:X.aX.heap.objs.size<=X.env.locals
 inj:∀x y c,X.env.cells.lookup x=U c->X.env.cells.lookup y=U c->x=y
 has:∀x,(X.env.kindOf x=U .cell\/X.env.kindOf x=U .free)->∃c,X.env.cells.lookup x=U c
 kH:∀x c,X.fn x=true->X.env.cells.lookup x=U c->X.aX.heap.objs.size<=c
 hd:X.calm=true->X.A.handled=O
 frames:X.A.frames=U X.stack
 nh:X.stack=X.outer\/(X.stack=X.env::X.outer/\X.env.frame=U X.env.locals)
 mj:∀b∈X.ex,b≠X.env.locals/\∀x c,X.env.cells.lookup x=U c->c≠b
 bs:∀b o,X.base.get? b=U o->X.aX.heap.get? b=U o/\X.fh b=O
 fQ:X.base.objs.size<=X.aX.heap.objs.size
 lh:∀b o,X.base.get? b=U o->b∉X.ex
 kM:∀b∈X.ex,b∉X.fs
 ez:X.aX.heap.FunFrames X.base X.outer
 jc:∀b∈X.fs,X.fh b=O
structure Inv(X:Cx)(aa:List (P2×S1))(σ:List (Option V))(H:Hp)(s:P9):Prop where
 ok:X.Ok
 os:s.os=X.aX.os
 bare:WB s.gens
 base:Un X.fs X.ex X.fh H X.aX.heap s.heap
 loc:∃m,s.heap.Ns X.env.locals m/\∀(i:Nat)(x:QQ)(v:V),X.N[i]?=U x->σ[i]?=U (U v)->fN X.env.scope x->∃u,RelV v u/\Look X.env s.heap m x u
 cell:∀x c,X.env.cells.lookup x=U c->∃v,s.heap.IsCell c v
 free:H X.env.locals=O
 dO:∀x c,X.env.cells.lookup x=U c->H c=O
 pin:∀p∈X.pn++aa,s.heap.get? p.1=U p.2/\H p.1=O/\p.1≠X.env.locals/\p.1∉X.fs/\∀v,p.2.data≠.cell v
 ay:bt X.prog X.w H s.heap
 len:σ.length=X.N.length
section
variable{X:Cx}{aa:List (P2×S1)}{σ:List (Option V)}{H H':Hp}{s:P9}{h':Q7}
def Cx.Ok.Kn(ok:X.Ok)(e:X.base.get? b=U o):b∉X.fs:=λa=>by
 have:=(ok.ez.mem a).1
 rw[e]at this;cases this
def Inv.bs(I:Inv X aa σ H s):∀b o,X.base.get? b=U o->s.heap.get? b=U o/\H b=O:=λb o e=>
 #[I.base.keep b o (I.ok.bs b o e).1 (I.ok.bs b o e).2 (I.ok.Kn e)<|I.ok.lh b o e,I.base.free b o (I.ok.bs b o e).1 (I.ok.bs b o e).2<|I.ok.lh b o e]
def Inv.bk(I:Inv X aa σ H s):∀b o,X.base.get? b=U o->s.heap.get? b=U o:=λb o e=>(I.bs b o e).1
def Inv.mod(I:Inv X aa σ H s):Mod X.K X.mg X.base:=I.ok.mod
def Inv.bJ(I:Inv X aa σ H s):X.K.In s.heap:=I.ok.mod.mE.keeps I.bk
def Inv.lt(I:Inv X aa σ H s):X.env.locals<s.heap.objs.size:=let⟨_,a,_⟩:=I.loc;a.lt
def Inv.sz(I:Inv X aa σ H s):X.aX.heap.objs.size<=s.heap.objs.size:=QW I.ok.above<|Xs I.lt
def Inv.Kp(I:Inv X aa σ H s)(h:s.heap.objs.size<=a):a∉X.fs:=λb=>by
 have#[_,o,c,_]:=I.ok.ez.mem b
 exact absurd (Qx (Qi c)<|QW I.sz h)<|RP _
def Inv.iW(I:Inv X aa σ H s):∀x c,X.env.cells.lookup x=U c->c≠X.env.locals:=λx c e z=>by
 have#[v,o,a,b]:=I.cell x c e
 have#[m,#[o',es,ep,d,f,_],_]:=I.loc
 rw[z,d]at a;cases a;rw[f]at b;cases b
def Inv.ez(I:Inv X aa σ H s):s.heap.FunFrames X.base X.outer:=by
 have all:∀(l:List WI),(∀b∈bh l,b∈X.fs)->X.aX.heap.FunFrames X.base l->s.heap.FunFrames X.base l:=by intro l;induction l with|nil=>intro _ _;trivial|cons env r f=>intro d c;have#[g,#[L,o,a,h,i,j],k]:=c;have c:L∈X.fs:=d L (by unfold bh;rw[Uj,a];exact QE);have#[m,e]:=I.base.slot L o i (I.ok.jc L c) c λz=>I.ok.kM L z c;exact#[g,#[L,_,a,h,e,j],f (λb c=>d b<|by unfold bh;rw[Uj,a];exact Qk _ c) k]
 exact all X.outer (λ_ c=>c) I.ok.ez
def Inv.stack(I:Inv X aa σ H s):s.heap.FunFrames X.base X.stack:=by
 rcases I.ok.nh with e|⟨e,a⟩;.rw[e];exact I.ez
 .rw[e];have#[m,b,_]:=I.loc;refine .cons (by rw[I.ok.kind];decide) a b ?_ I.ez;exact Q7.get?_none_of_le<|QW I.ok.fQ I.ok.above
def Inv.t7(I:Inv X aa σ H s):∀b∈bh X.stack,b∈X.env.locals::X.fs:=λb a=>by
 rcases I.ok.nh with e|⟨e,c⟩
 .rw[e]at a;exact Qk _ a
 .rw[e]at a
  unfold bh at a
  rw[Uj,c]at a
  exact a
def Inv.pT(I:Inv X aa σ H s):∀b∈bh X.stack,H b=O:=λb a=>by
 rcases Qp.mp (I.t7 b a)with e|a
 .rw[e];exact I.free
 .have#[_,o,c,_]:=I.ok.ez.mem a
  exact I.base.free b o c (I.ok.jc b a) λz=>I.ok.kM b z a
def Inv.step{g':Array GenState}{t':Nat}{d':Drawn}{ch:List P2}(I:Inv X aa σ H s)(hch:∀b∈ch,(b∈X.ex\/X.aX.heap.objs.size<=b)/\b≠X.env.locals/\(∀x c,X.env.cells.lookup x=U c->c≠b)/\∀p∈X.pn++aa,p.1≠b)(keep:∀b o,b≠X.env.locals->b∉X.fs->b∉ch->s.heap.get? b=U o->H b=O->h'.get? b=U o)(slot:∀b o,b≠X.env.locals->b∈X.fs->b∉ch->s.heap.get? b=U o->H b=O->∃sl,h'.get? b=U {o with slots:=sl})(free:∀b o,b∉ch->s.heap.get? b=U o->H b=O->H' b=O)(there:∀b o,b∉ch->s.heap.get? b=U o->∃o',h'.get? b=U o')(fF:∀b xs,H b=U (.tup xs)->H' b=U (.tup xs))(eQ:∀b o u,H b=U (.c7 o u)->H' b=U (.c7 o u))(fE:∀b ps,H b=U (.jz ps)->∃more,H' b=U (.jz<|ps++more))(ns:∀m,s.heap.Ns X.env.locals m->h'.Ns X.env.locals m)(ay:bt X.prog X.w H' h')(hg:WB g'):
    Inv X aa σ H' {s with heap:=h',gens:=g',drawn:=d',toks:=t'}:=by
 have neL:∀b o,X.aX.heap.get? b=U o->b≠X.env.locals:=λb o e=>QC<|Qx (Qi e) I.ok.above;have neC:∀b o,X.aX.heap.get? b=U o->b∉X.ex->b∉ch:=λb o e hx hb=>by
  rcases(hch b hb).1 with z|z;.exact hx z
  .exact absurd (Qx (Qi e) z)<|RP _
 have cellK:∀x c,X.env.cells.lookup x=U c->∀v,s.heap.IsCell c v->h'.IsCell c v:=λx c e v z1=>e3 z1 λo ho hd=>by
  have nch:c∉ch:=λz=>(hch c z).2.2.1 x c e rfl;by_cases hc:c∈X.fs;.have#[sl,q]:=slot c o (I.iW x c e) hc nch ho (I.dO x c e);exact#[_,q,hd]
  .exact#[o,keep c o (I.iW x c e) hc nch ho<|I.dO x c e,hd]
 refine#[I.ok,I.os,hg,#[λb o e n hb hx=>?_,λb o e n hb hx=>?_,λb o e n hx=>?_,λb o e hx=>?_,λb xs e=>fF b xs<|I.base.fF b xs e,λb o xs e=>eQ b o xs<|I.base.eQ b o xs e,λb ps e=>?_],?_,λx c e=>?_,?_,λx c e=>?_,λp hp=>?_,ay,I.len];.exact keep b o (neL b o e) hb (neC b o e hx) (I.base.keep b o e n hb hx)<|I.base.free b o e n hx
 .have#[sl,e1]:=I.base.slot b o e n hb hx;have#[sl',e2]:=slot b _ (neL b o e) hb (neC b o e hx) e1<|I.base.free b o e n hx;exact#[sl',e2]
 .have#[o',e1]:=I.base.there b o e hx;exact free b o' (neC b o e hx) e1<|I.base.free b o e n hx
 .have#[o',e1]:=I.base.there b o e hx;exact there b o' (neC b o e hx) e1
 .have#[m1,e1]:=I.base.fE b ps e;have#[m2,e2]:=fE b _ e1;exact#[m1++m2,by rw[e2,Array.append_assoc]]
 .have#[m,hn,hl]:=I.loc;refine#[m,ns m hn,λi x v e1 e2 e3=>?_];have#[u,r,l]:=hl i x v e1 e2 e3;refine#[u,r,?_];rcases l with l|⟨k,c,e,z⟩;.exact .inl l
  .exact .inr #[k,c,e,cellK x c e _ z]
 .have#[v,z]:=I.cell x c e;exact#[v,cellK x c e v z]
 .have#[m,#[o,_,_,ho,_],_]:=I.loc;exact free _ o (λz=>(hch _ z).2.1 G) ho I.free
 .have#[v,o,ho,hd]:=I.cell x c e;exact free c o (λz=>(hch c z).2.2.1 x c e G) ho<|I.dO x c e
 .have#[e,n,ne,nf,d]:=I.pin p hp;have nch:p.1∉ch:=λz=>(hch p.1 z).2.2.2 p hp rfl;exact#[keep p.1 p.2 ne nf nch e n,free p.1 p.2 nch e n,ne,nf,d]
def Inv.un{t':Nat}(I:Inv X aa σ H s)(u:Un X.fs [] H H' s.heap h')(ay:bt X.prog X.w H' h'):Inv X aa σ H' {s with heap:=h',toks:=t'}:=by
 have#[m,#[o,es,ep,c,r],_]:=id I.loc;have#[a,d]:=u.any c I.free (by simp);exact I.step (g':=s.gens) (d':=s.drawn) (ch:=[]) (λ_ z=>nomatch z) (λb o _ a _ e n=>u.keep b o e n a<|by simp) (λb o _ a _ e n=>u.slot b o e n a<|by simp) (λb o _ e n=>u.free b o e n<|by simp) (λb o _ e=>u.there b o e<|by simp) u.fF u.eQ u.fE (λa f=>by
  have#[o',g,h,a,i]:=f
  rw[c]at a;cases a
  exact#[_,g,h,d,i]) ay I.bare
def Inv.call{g':Array GenState}{t':Nat}{d':Drawn}{ch:List P2}(I:Inv X aa σ H s)(u:Un (bh X.stack) ch H H' s.heap h')(ay:bt X.prog X.w H' h')(g:WB g')(a:∀b∈ch,(b∈X.ex\/X.aX.heap.objs.size<=b)/\b≠X.env.locals/\(∀x c,X.env.cells.lookup x=U c->c≠b)/\∀p∈X.pn++aa,p.1≠b):
    Inv X aa σ H' {s with heap:=h',gens:=g',drawn:=d',toks:=t'}:=by
 have#[m,#[o,es,ep,f,r],_]:=id I.loc;have#[h,d]:=u.any f I.free λz=>(a _ z).2.1 rfl;exact I.step (ch:=ch) a (λb o d h a e n=>u.keep b o e n (λz=>(Qp.mp<|I.t7 b z).elim d h) a) (λb o _ _ a e n=>u.any e n a) (λb o a e n=>u.free b o e n a) (λb o a e=>u.there b o e a) u.fF u.eQ u.fE (λa h=>by
  have#[o',i,j,a,k]:=h
  rw[f]at a;cases a
  exact#[_,i,j,d,k]) ay g
def Inv.turned{t':Nat}{it:P2}(I:Inv X aa σ H s)(k:∀b o,b≠it->s.heap.get? b=U o->h'.get? b=U o)(a:H it=O)(d:it≠X.env.locals)(h1:it∈X.ex\/X.aX.heap.objs.size<=it)(h2:∀x c,X.env.cells.lookup x=U c->c≠it)(g:∀p∈X.pn++aa,p.1≠it):Inv X aa σ H {s with heap:=h',toks:=t'}:=by
 have f:∀b u,H b=U u->b≠it:=λb u e z=>by rw[z,a]at e;cases e
 refine I.step (g':=s.gens) (d':=s.drawn) (ch:=[it]) (λb h=>?_) (λb o _ _ a e _=>k b o (λz=>a<|by simp[z]) e) (λb o _ _ a e _=>#[o.slots,k b o (λz=>a<|by simp[z]) e]) (λ_ _ _ _ n=>n)
  (λb o a e=>#[o,k b o (λz=>a<|by simp[z]) e]) (λ_ _ e=>e) (λ_ _ _ e=>e) (λb ps e=>#[#[],by rw[e];simp]) (λm i=>?_) (λb u e=>?_) I.bare
 .have e:b=it:=by simpa using h
  subst e;exact#[h1,d,h2,g]
 .have#[o,es,ep,g,r]:=i;exact#[o,es,ep,k _ o (Q4 d) g,r]
 .refine(I.ay b u e).bO (λc v a q=>k c v ?_ q) (λ_ q=>q) λ_ _ q=>q;rcases a with z|z;.rw[z];exact f b u e
  .exact f c _ z
def Inv.tok(I:Inv X aa σ H s)(t:Nat):Inv X aa σ H {s with toks:=t}:=I.un (h':=s.heap) (t':=t) Un.refl I.ay
def Inv.kept{t':Nat}(I:Inv X aa σ H s)(k:∀b u,s.heap.get? b=U u->h'.get? b=U u):Inv X aa σ H {s with heap:=h',toks:=t'}:=I.un (Un.kept k)<|I.ay.kept k
def Inv.laid{t':Nat}(I:Inv X aa σ H s)(k:∀b u,s.heap.get? b=U u->h'.get? b=U u)(hp:s.heap.objs.size<=a)(new:bV X.prog X.w (upd H a o) h' a o):
    Inv X aa σ (upd H a o) {s with heap:=h',toks:=t'}:=I.un (Un.laid k hp<|I.ay.fresh hp)<|I.ay.laid k hp new
def Inv.write{t':Nat}(I:Inv X aa σ H s)(a:nG<|H x)(c:e=x\/H e=U (.own x))(k:∀b u,b≠e->s.heap.get? b=U u->h'.get? b=U u)(d:∃u,h'.get? e=U u)(new:bV X.prog X.w (upd H x o) h' x o):Inv X aa σ (upd H x o) {s with heap:=h',toks:=t'}:=I.un (Un.write a c k d)<|I.ay.write a c k d new
def Inv.weak{a:List (Option V)}(I:Inv X aa σ H s)(hl:a.length=σ.length)(w:∀(i:Nat)v,a[i]?=U (U v)->σ[i]?=U (U v)):Inv X aa a H s:=
 #[I.ok,I.os,I.bare,I.base,let⟨m,a,b⟩:=I.loc;#[m,a,λi x v a c d=>b i x v a (w i v c) d],I.cell,I.free,I.dO,I.pin,I.ay,hl.trans I.len]
def Inv.yT(I:Inv X aa σ H s)(h:∀p∈a,s.heap.get? p.1=U p.2/\H p.1=O/\p.1≠X.env.locals/\p.1∉X.fs/\∀v,p.2.data≠.cell v):Inv X a σ H s:=
 #[I.ok,I.os,I.bare,I.base,I.loc,I.cell,I.free,I.dO,λp a=>(RW.mp a).elim (λz=>I.pin p<|Si _ z)<|h p,I.ay,I.len]
def sM{N:List QQ}(hN:N.Nodup){i j:Nat}{x:QQ}(a:N[i]?=U x)(b:N[j]?=U x):i=j:=by have#[h1,c]:=List.getElem?_eq_some_iff.mp a;have#[h2,d]:=List.getElem?_eq_some_iff.mp b;exact(aad hN).mp<|c.trans d.symm
def B0{M:Model}{A:Rq}{E:P7->P9->Prop}{i:Nat}{x:QQ}{v:V}{u:P7}{Q:Unit->P9->Prop}(I:Inv X aa σ H s)(hN:X.N.Nodup)(hi:X.N[i]?=U x)(t:Loc X.env.scope x)(r:RelV v u)(h:∀s',Inv X aa (σ.set i<|U v) H s'->(∃a,Vo a s.heap s'.heap/\(a=X.env.locals\/X.env.cells.lookup x=U a))->Q () s')(hf:X.fn x=true\/X.env.scope.names.lookup x=U .local:=by assumption):Qn M A (Zu X.env x u) Q E s:=by
 have#[m,J,Y]:=id I.loc;have j:(X.env.scope.kind==.class||(X.env.scope.kind==.module&&X.env.locals !=X.env.globals))=false:=by rw[I.ok.kind];rfl
 have Z:i<σ.length:=by rw[I.len];exact(List.getElem?_eq_some_iff.mp hi).1
 have K:=I.iW;have ab:∀{a:P2}{h':Q7},(∃o,s.heap.get? a=U o/\H a=O)->Vo a s.heap h'->bt X.prog X.w H h':=λ{a h'}l f b n e=>by
  have#[_,_,g]:=l;refine(I.ay b n e).bO (λc F l q=>(f.2 c ?_).trans q) (λ_ q=>q) λ_ _ q=>q;rintro rfl;rcases l with rfl|l;.rw[g]at e;cases e
  .rw[g]at l;cases l
 rcases t with B|B
 .refine wpAny_storeName_local B J (λh' g f=>?_) j;have#[z,_,_,D,_]:=id J;refine h _ #[I.ok,I.os,I.bare,#[λb o e n C t=>?_,λb o e n C t=>?_,I.base.free,λb o e t=>?_,I.base.fF,I.base.eQ,I.base.fE],#[_,g,λj y L g w M=>?_],λy c e=>?_,I.free,I.dO,λp N=>?_,ab #[z,D,I.free] f,by simpa using I.len] #[_,f,.inl G];.exact(f.2 b<|QC<|Qx (Qi e) I.ok.above).trans<|I.base.keep b o e n C t
  .have#[P,g]:=I.base.slot b o e n C t;exact#[P,(f.2 b<|QC<|Qx (Qi e) I.ok.above).trans g]
  .have#[o',g]:=I.base.there b o e t;exact#[o',(f.2 b<|QC<|Qx (Qi e) I.ok.above).trans g]
  .by_cases D:j=i;.subst D;rw[hi]at g;cases g;rw[List.getElem?_set_self Z]at w;cases w;exact#[u,r,.inl #[B,by simp]]
   .rw[List.getElem?_set_ne<|Q4 D]at w;have#[R,S,q]:=Y j y L g w M;refine#[R,S,?_];rcases q with⟨k,e⟩|⟨k,c,e,z⟩;.refine .inl #[k,?_];have:y≠x:=λe=>D<|sM hN g<|e▸hi;simp[this,e]
    .exact .inr #[k,c,e,z.sameBut f<|K y c e]
  .have#[F,z]:=I.cell y c e;exact#[F,z.sameBut f<|K y c e]
  .have#[e,n,ne,T,d]:=I.pin p N;exact#[(f.2 p.1 ne).trans e,n,ne,T,d]
 .have W:X.fn x=true:=by
   rcases hf with z|z;.exact z
   .rw[z]at B;cases B
  have#[c,l]:=I.ok.has x<|.inl B;have#[F,z]:=I.cell x c l;refine wpAny_storeName_cell I.ok.kind B l z λh' ac f=>?_;have#[oc,ad,ak]:=id z;refine h {s with heap:=h'} #[I.ok,I.os,I.bare,#[λb o e n C t=>?_,λb o e n C t=>?_,I.base.free,λb o e t=>?_,I.base.fF,I.base.eQ,I.base.fE],#[m,J.sameBut f<|Q4<|K x c l,λj y L g w M=>?_],λy z e=>?_,I.free,I.dO,λp N=>?_,ab #[oc,ad,I.dO x c l] f,by simpa using I.len] #[c,f,.inr l];.exact(f.2 b<|QC<|Qx (Qi e)<|I.ok.kH x c W l).trans<|I.base.keep b o e n C t
  .have#[P,g]:=I.base.slot b o e n C t;exact#[P,(f.2 b<|QC<|Qx (Qi e)<|I.ok.kH x c W l).trans g]
  .have#[o',g]:=I.base.there b o e t;exact#[o',(f.2 b<|QC<|Qx (Qi e)<|I.ok.kH x c W l).trans g]
  .by_cases D:j=i;.subst D;rw[hi]at g;cases g;rw[List.getElem?_set_self Z]at w;cases w;exact#[u,r,.inr #[.inl B,c,l,ac]]
   .rw[List.getElem?_set_ne<|Q4 D]at w;have#[R,S,q]:=Y j y L g w M;refine#[R,S,?_];rcases q with q|⟨k,z,e,t⟩;.exact .inl q
    .refine .inr #[k,z,e,t.sameBut f ?_];rintro rfl;exact D<|sM hN g<|I.ok.inj _ _ _ e l▸hi
  .by_cases j:z=c;.subst j;exact#[_,ac]
   .have#[g,l]:=I.cell y z e;exact#[g,l.sameBut f j]
  .have#[e,n,ne,T,d]:=I.pin p N;refine#[(f.2 p.1 ?_).trans e,n,ne,T,d];intro q;rw[q,ad]at e;have f:oc=p.2:=QO e;exact d F (by rw[<-f];exact ak)
def pU{E:P7->P9->Prop}{i:Nat}{Q:Unit->P9->Prop}(I:Inv X aa σ H s)(hN:X.N.Nodup)(hi:X.N[i]?=U x)(a:Loc X.env.scope x)(r:RelV v u)(h:∀s',Inv X aa (σ.set i<|U v) H s'->Q () s')(b:X.fn x=true\/X.env.scope.names.lookup x=U .local:=by assumption):Qn M A (Zu X.env x u) Q E s:=
 B0 I hN hi a r (λs' a _=>h s' a) b
def Inv.l6{s':P9}(I:Inv X aa σ H s)(a:s'.os=s.os)(u:Un (bh X.stack) ch H H' s.heap s'.heap)(ay:bt X.prog X.w H' s'.heap)(d:WB s'.gens)(f:∀b∈ch,(b∈X.ex\/X.aX.heap.objs.size<=b)/\b≠X.env.locals/\(∀x c,X.env.cells.lookup x=U c->c≠b)/\∀p∈X.pn++aa,p.1≠b):Inv X aa σ H' s':=by have#[h',g,h,i,o']:=s';have e:o'=s.os:=a;subst e;exact I.call (g':=g) (t':=i) (d':=h) u ay d f
end
abbrev XK:=P7->Option P2->Hp->Prop
abbrev St:=List<|Option V
abbrev VK:=V->Hp->Prop
abbrev TE:=St->Hp->VK->Prop
abbrev TT:=St->Hp->(Bool->Hp->Prop)->Prop
abbrev TA:=St->Hp->(List V->Hp->Prop)->Prop
structure Ends where
 lk:St->Hp->Prop
 rt:VK
 bk:St->Hp->Prop:=λ_ _=>False
 ct:St->Hp->Prop:=λ_ _=>False
abbrev TS:=Ends->St->Hp->Prop
def EP(X:Cx)(aa:List<|P2×S1)(σ:St)(Q:VK)(u:P7)(s':P9):Prop:=∃v H',Inv X aa σ H' s'/\RelV v u/\Q v H'
def TP(X:Cx)(aa:List<|P2×S1)(σ:St)(Q:Bool->Hp->Prop)(b:Bool)(s':P9):Prop:=∃H',Inv X aa σ H' s'/\Q b H'
def AP(X:Cx)(aa:List<|P2×S1)(σ:St)(Q:List V->Hp->Prop)(us:List P7)(s':P9):Prop:=∃a H',Inv X aa σ H' s'/\Vals a us/\Q a H'
def SP(X:Cx)(aa:List<|P2×S1)(D:Ends)(f:Flow)(s':P9):Prop:=
 match f with|.next=>∃a H',Inv X aa a H' s'/\D.lk a H'|.brk=>∃a H',Inv X aa a H' s'/\D.bk a H'|.cont=>∃a H',Inv X aa a H' s'/\D.ct a H'|.ret u=>∃v a H',Inv X aa a H' s'/\RelV v u/\D.rt v H'
def PE(X:Cx)(e:P8)(t:TE):Prop:=
 ∀(aa:List<|P2×S1)(s:P9)(σ:St)(H:Hp)(Q:VK),Inv X aa σ H s->t σ H Q->Qn (Qt X.prog X.w) X.A (Sj e X.env) (EP X aa σ Q) X.xe s
def PT(X:Cx)(e:P8)(t:TT):Prop:=
 ∀(aa:List<|P2×S1)(s:P9)(σ:St)(H:Hp)(Q:Bool->Hp->Prop),Inv X aa σ H s->t σ H Q->Qn (Qt X.prog X.w) X.A (isTrue e X.env<|Sj e X.env) (TP X aa σ Q) X.xe s
def PW(X:Cx)(e:P8)(t:TT):Prop:=
 ∀(a:Sem P7)(aa:List<|P2×S1)(s:P9)(σ:St)(H:Hp)(Q:Bool->Hp->Prop),Inv X aa σ H s->t σ H Q->Qn (Qt X.prog X.w) X.A (isTrue e X.env a) (TP X aa σ Q) X.xe s
def PW.pt(h:PW X e t):PT X e t:=h _
def PA(X:Cx)(es:List P8)(t:TA):Prop:=
 ∀(pos:SK)(aa:List<|P2×S1)(s:P9)(σ:St)(H:Hp)(Q:List V->Hp->Prop),Inv X aa σ H s->t σ H Q->Qn (Qt X.prog X.w) X.A (spliced<|TM pos<|QJ es X.env) (AP X aa σ Q) X.xe s
def PS(X:Cx)(st:RY)(t:TS):Prop:=
 ∀(aa:List<|P2×S1)(s:P9)(σ:St)(H:Hp)(D:Ends),Inv X aa σ H s->t D σ H->Qn (Qt X.prog X.w) X.A (exec st X.env) (SP X aa D) X.xe s
def fi(X:Cx)(st:List RY)(t:TS):Prop:=
 ∀(aa:List<|P2×S1)(s:P9)(σ:St)(H:Hp)(D:Ends),Inv X aa σ H s->t D σ H->Qn (Qt X.prog X.w) X.A (execs st X.env) (SP X aa D) X.xe s
def az{b:Type}{t:Sem b}{Q c:b->P9->Prop}{M:Model}{A:Rq}{E:P7->P9->Prop}{s:P9}(h:Qn M A t Q E s)(d:∀a s,Q a s->c a s):Qn M A t c E s:=R9 h d λ_ _ x=>x
section
variable{X:Cx}
def ni(i:Nat):TE:=λσ H Q=>∃v,σ[i]?=U (U v)/\Q v H
def tC(v:V):TE:=λ_ H Q=>Q v H
def mT{i:Nat}(hN:X.N[i]?=U x)(a:fN X.env.scope x)(hd:(x==('5':QQ))=false:=by decide)(g:(x==("__classdict__":QQ))=false:=by decide):PE X (.Name x pos)<|ni i:=by
 intro aa s σ H Q I h;have#[v,e,h]:=h;have#[m,j,b]:=I.loc;have#[u,r,l]:=b i x v hN e a;have b:EP X aa σ Q u s:=#[v,H,I,r,h];rcases l with⟨a,k⟩|⟨a,c,d,f⟩;.exact wpAny_Name (aai I.ok.kind a j k b) hd
 .rcases a with a|a;.exact wpAny_Name (aat I.ok.kind a d f b) hd
  .exact wpAny_Name (wpAny_loadName_free I.ok.kind a d f b g) hd
def sY{i j pos}:PE X (.Constant (.int i) j pos)<|tC<|.int i:=λ_ _ _ H _ I h=>wpAny_Constant_int #[.int i,H,I.tok _,#[_,G],h]
def yN{b j pos}:PE X (.Constant (.bool b) j pos)<|tC<|.bl b:=λ_ _ _ H _ I h=>Constant_bool #[.bl b,H,I,G,h]
def Ma{j pos}:PE X (.Constant .none j pos)<|tC .ao:=λ_ _ _ H _ I h=>Zi #[.ao,H,I,G,h]
def Me{x j pos}:PE X (.Constant (.str x) j pos)<|tC<|.str x:=λ_ _ _ H _ I h=>Calls.Constant_str #[.str x,H,I.tok _,#[_,G],h]
def Gl(X:Cx)(x:QQ):Prop:=X.env.kindOf x=U .globalImplicit
def kZ{E:P7->P9->Prop}{Q:P7->P9->Prop}(I:Inv X aa σ H s)(a:Gl X x)(b:X.mg x=U u)(h:Q u s)(hd:(x==('5':QQ))=false:=by decide):Qn (Qt X.prog X.w) X.A (Sj (.Name x pos) X.env) Q E s:=
 XX I.ok.kind a (Calls.loadGlobal_global (by rw[I.ok.glob];exact I.mod.glob.keeps I.bk) b h) hd
def jj{E:P7->P9->Prop}{Q:P7->P9->Prop}(I:Inv X aa σ H s)(a:Gl X x)(b:X.mg x=O)(c:Uu x=U u)(h:Q u s)(d:x≠'P':=by decide)(hd:(x==('5':QQ))=false:=by decide):Qn (Qt X.prog X.w) X.A (Sj (.Name x pos) X.env) Q E s:=by have#[e,h1,h2]:=I.mod.blt;exact XX I.ok.kind a (Calls.loadGlobal_builtin (by rw[I.ok.glob];exact I.mod.glob.keeps I.bk) b (by rw[I.ok.blt];exact h1.keeps I.bk) ((h2 x d).trans c) h) hd
def L7(a:Gl X x)(b:X.mg x=U u)(r:RelV v u)(hd:(x==('5':QQ))=false:=by decide):PE X (.Name x pos)<|tC v:=
 λ_ _ _ H _ I h=>kZ I a b #[v,H,I,r,h] hd
variable{a b:P8}{ta tb:TE}{pos:SK}
def PC(X:Cx)(op:Ys)(a b:P8)(t:TE):Prop:=
 ∀(aa:List<|P2×S1)(s:P9)(σ:St)(H:Hp)(Q:VK),Inv X aa σ H s->t σ H Q->
  Qn (Qt X.prog X.w) X.A (Sj a X.env) (λv c=>Qn (Qt X.prog X.w) X.A (Sj b X.env) (λu d=>Qn (Qt X.prog X.w) X.A (RD op v u) (EP X aa σ Q) X.xe d) X.xe c) X.xe s
def Ca(ta:TE):TE:=λσ H Q=>ta σ H λx H1=>Q (.bl<|decide (x=.ao)) H1
def Ce(ta:TE):TE:=λσ H Q=>ta σ H λx H1=>Q (.bl<|!decide (x=.ao)) H1
def RelV.lj(r:RelV x v):(v==UX)=decide (x=.ao):=by induction x with|ao=>cases r;rfl|bl _=>cases r;rfl|int _=>have#[t,rfl]:=r;rfl|str _=>have#[t,rfl]:=r;rfl|eL _=>have#[t,rfl]:=r;rfl|jP _=>have#[t,rfl]:=r;rfl|ref _=>cases r;rfl|ty _=>cases r;rfl
def LV{j pos'}(b:PE X a ta):PC X .Is a (.Constant .none j pos')<|Ca ta:=by intro aa s σ H Q I h;refine az (b aa s σ H _ I h) λv c b=>e5 b λx H1 b c d=>?_;exact Zi<|is_none_gen #[.bl _,H1,b,by rw[c.lj];rfl,d]
def LW{j pos'}(b:PE X a ta):PC X .IsNot a (.Constant .none j pos')<|Ce ta:=by intro aa s σ H Q I h;refine az (b aa s σ H _ I h) λv c b=>e5 b λx H1 b c d=>?_;exact Zi<|isnot_none_gen #[.bl _,H1,b,by rw[c.lj];rfl,d]
def tB(t:TE):TT:=λσ H Q=>t σ H λx H1=>∃c,x=.bl c/\Q c H1
def L4(h:PC X op a b t)(h1:UI op b=false:=by rfl):PE X (.Compare a [op] [b] pos) t:=λaa s σ H Q I c=>wpAny_Compare1 (h aa s σ H Q I c) h1
def MH{op:Ys}{t:TE}(h:PC X op a b t)(h1:UI op b=false:=by rfl):PT X (.Compare a [op] [b] pos)<|tB t:=by intro aa s σ H Q I e;refine Z3 (az (h aa s σ H _ I e) λv k h1=>az h1 λu l h2=>az h2 λc m f=>e5 f λx H1 g i j=>?_) h1;have#[d,rfl,q]:=j;cases i;exact Sv #[H1,g,q]
def MK{e:P8}{t:TE}(h:PE X e t)(b:∀a,isTrue e X.env a=(do let v<-a;ZM e.pos;U5 [v] (truthy v)):=by intro _;rfl):PT X e<|tB t:=by intro aa s σ H Q I c;refine isTrue_plain (az (h aa s σ H _ I c) λv k f=>e5 f λx H1 g i j=>?_)<|b _;have#[d,rfl,q]:=j;cases i;exact Sv #[H1,g,q]
variable{tA tB':TT}{rest:List P8}
def B4(t u:TT):TT:=λσ H Q=>t σ H λc H1=>if c=true then u σ H1 Q else Q false H1
def Cg(t u:TT):TT:=λσ H Q=>t σ H λc H1=>if c=true then Q true H1 else u σ H1 Q
def Cd(t:TT):TT:=λσ H Q=>t σ H λc H1=>Q (!c) H1
def MQ(b:PT X a tA):PW X (.BoolOp .And [a] pos) tA:=by intro d aa s σ H Q I h;refine isTrue_and<|az (b aa s σ H Q I h) λc b e=>?_;induction c with|true=>exact isTrue_and_nil e|false=>exact e
def MS(b:PT X a tA):PW X (.BoolOp .Or [a] pos) tA:=by intro d aa s σ H Q I h;refine isTrue_or<|az (b aa s σ H Q I h) λc b e=>?_;induction c with|false=>exact isTrue_or_nil e|true=>exact e
def MP(f:PT X a tA)(g:PW X (.BoolOp .And (b::rest) pos) tB'):PW X (.BoolOp .And (a::b::rest) pos)<|B4 tA tB':=by intro i aa s σ H Q I h;refine isTrue_and<|az (f aa s σ H _ I h) λc j k=>e3 k λH1 d e=>?_;induction c with|true=>exact g i aa j σ H1 Q d e|false=>exact#[H1,d,e]
def MR(f:PT X a tA)(g:PW X (.BoolOp .Or (b::rest) pos) tB'):PW X (.BoolOp .Or (a::b::rest) pos)<|Cg tA tB':=by intro i aa s σ H Q I h;refine isTrue_or<|az (f aa s σ H _ I h) λc j k=>e3 k λH1 d e=>?_;induction c with|true=>exact#[H1,d,e]|false=>exact g i aa j σ H1 Q d e
def MJ(b:PT X a tA):PT X (.UnaryOp .Not a pos)<|Cd tA:=by intro aa s σ H Q I h;exact isTrue_not<|b aa s σ H (λc H1=>Q (!c) H1) I h
def B5(ta tb:TE):TE:=λσ H Q=>ta σ H λx H1=>∃c,x=.bl c/\if c=true then tb σ H1 Q else Q (.bl false) H1
def Ci(ta tb:TE):TE:=λσ H Q=>ta σ H λx H1=>∃c,x=.bl c/\if c=true then Q (.bl true) H1 else tb σ H1 Q
def Cf(ta:TE):TE:=λσ H Q=>ta σ H λx H1=>∃c,x=.bl c/\Q (.bl<|!c) H1
def yO{op}(h:PE X a t):PE X (.BoolOp op [a] pos) t:=λaa s σ H Q I b=>BoolOp_one<|h aa s σ H Q I b
def LX(f:PE X a ta)(g:PE X (.BoolOp .And (b::rest) pos) tb):PE X (.BoolOp .And (a::b::rest) pos)<|B5 ta tb:=by intro aa s σ H Q I h;refine BoolOp_and<|az (f aa s σ H _ I h) λv i j=>e5 j λx H1 e k d=>?_;have#[c,rfl,d]:=d;cases k;refine Sv ?_;induction c with|true=>exact g aa i σ H1 Q e d|false=>exact#[.bl false,H1,e,G,d]
def Mc(f:PE X a ta)(g:PE X (.BoolOp .Or (b::rest) pos) tb):PE X (.BoolOp .Or (a::b::rest) pos)<|Ci ta tb:=by intro aa s σ H Q I h;refine BoolOp_or<|az (f aa s σ H _ I h) λv i j=>e5 j λx H1 e k d=>?_;have#[c,rfl,d]:=d;cases k;refine Sv ?_;induction c with|false=>exact g aa i σ H1 Q e d|true=>exact#[.bl true,H1,e,G,d]
def Mb(d:PE X a ta):PE X (.UnaryOp .Not a pos)<|Cf ta:=by intro aa s σ H Q I h;refine UnaryOp_<|az (d aa s σ H _ I h) λv i e=>e5 e λx H1 f g b=>?_;have#[c,rfl,b]:=b;cases g;exact not_of<|Sv #[.bl<|!c,H1,f,G,b]
def Ou(t:TT)(ta tb:TE):TE:=λσ H Q=>t σ H λc H1=>if c=true then ta σ H1 Q else tb σ H1 Q
def L8{c:P8}(hc:PT X c tA)(i:PE X a ta)(j:PE X b tb):PE X (.IfExp c a b pos)<|Ou tA ta tb:=by intro aa s σ H Q I h;refine wpAny_IfExp<|az (hc aa s σ H _ I h) λd e k=>e3 k λH1 f g=>?_;induction d with|true=>exact i aa e σ H1 Q f g|false=>exact j aa e σ H1 Q f g
end
def af(K:PY)(H:Hp)(a:P2)(xs:List V):Prop:=
 Rd H a (.lst xs)\/
  ∃(o:S1)(its:Array P7)(n:Nat),K.lookup a=U o/\o.cls=.type '4'/\o.dict=O/\o.data=.seq its n/\its.size<=Qq/\Vals xs its.toList
def aR(K:PY)(H:Hp)(a:P2)(xs:List V):Prop:=
 Rd H a (.tup xs)\/
  ∃(o:S1)(its:Array P7)(n:Nat),K.lookup a=U o/\o.cls=.type 'D'/\o.data=.seq its n/\its.size<=Qq/\Vals xs its.toList
noncomputable def FG:P7->Option V|.none=>U .ao|.bool b=>U<|.bl b|.int i _=>U<|.int i|.str x _=>U<|.str x|.bytes b _=>U<|.eL b|.float b _=>U<|.jP b|.ref a=>U<|.ref a|.type n=>U<|.ty n|_=>O
def RelV.abs(r:RelV x u):FG u=U x:=by induction x with|ao=>cases r;rfl|bl _=>cases r;rfl|int _=>have#[t,rfl]:=r;rfl|str _=>have#[t,rfl]:=r;rfl|eL _=>have#[t,rfl]:=r;rfl|jP _=>have#[t,rfl]:=r;rfl|ref _=>cases r;rfl|ty _=>cases r;rfl
def RelV.inj(r:RelV x u)(q:RelV y u):x=y:=QO<|r.abs.symm.trans q.abs
def Vals.inj:∀{xs ys:List V}{us:List P7},Vals xs us->Vals ys us->xs=ys:=by intro _ ys _ a;induction a generalizing ys with|nil=>intro w;cases w;rfl|cons r t a=>intro w;cases w with|cons b c=>rw[r.inj b,a c]
section
variable{X:Cx}{aa:List (P2×S1)}{σ:St}{H:Hp}{s:P9}{a:P2}{xs ys:List V}
def af.of{K:PY}(h:H a=U (.lst xs)):af K H a xs:=.inl<|.inl h
def aR.of{K:PY}(h:H a=U (.tup xs)):aR K H a xs:=.inl<|.inl h
def Inv.list(I:Inv X aa σ H s)(h:af X.K H a xs):∃its:List P7,Vals xs its/\PlainL s.heap a its.toArray/\xs.length<=Qq:=by
 rcases h with h|⟨o,its,n,b,c,d,f,g,r⟩;.have#[z,its,n,r,e]:=h.ok I.ay;exact#[its,r,#[_,n,e,G,G,G],z]
 .refine#[its.toList,r,#[o,n,I.bJ a o b,c,d,by simpa using f],?_];have e:=r.length;erw[WD]at e;lia
def Inv.tuple(I:Inv X aa σ H s)(h:aR X.K H a xs):∃its:List P7,Vals xs its/\Xz s.heap a its.toArray/\xs.length<=Qq:=by
 rcases h with h|⟨o,its,n,b,c,d,f,r⟩;.have#[z,its,r,p]:=h.ok I.ay;exact#[its,r,p,z]
 .refine#[its.toList,r,#[o,I.bJ a o b,c,n,by simpa using d],?_];have e:=r.length;erw[WD]at e;lia
def Inv.oN(I:Inv X aa σ H s)(h:af X.K H a xs)(h':af X.K H a ys):xs=ys:=by
 have#[its,r,#[o,n,e,_,_,d],_]:=I.list h;have#[f,g,#[o',i,b,_,_,c],_]:=I.list h';rw[e]at b;cases b;rw[d]at c;injection c with b _;have:its=f:=by simpa using congrArg Array.toList b
 subst this;exact r.inj g
end
section
variable{X:Cx}{aa:List (P2×S1)}{σ:St}{H:Hp}{s:P9}{E:P7->P9->Prop}
end
section
variable{X:Cx}{st:RY}{rest:List RY}{t u:TS}{e:P8}{te:TE}{pos:SK}
def pX:TS:=λD σ H=>D.lk σ H
def Co(t u:TS):TS:=λD σ H=>t {D with lk:=u D} σ H
def MF:fi X [] pX:=λ_ _ σ H _ I h=>VA #[σ,H,I,h]
def ME(h1:PS X st t)(h2:fi X rest u):fi X (st::rest)<|Co t u:=by intro aa s σ H D I h;refine wpAny_execs_cons<|az (h1 aa s σ H {D with lk:=u D} I h) λf a q=>?_;induction f with|next=>have#[b,H',c,q]:=q;exact h2 aa a b H' D c q|ret v=>exact q|brk=>exact q|cont=>exact q
def lA(h1:PS X st t):fi X [st] t:=by intro aa s σ H D I h;refine wpAny_execs_cons<|az (h1 aa s σ H D I h) λf a q=>?_;induction f with|next=>exact VA q|ret v=>exact q|brk=>exact q|cont=>exact q
def Mz:PS X (.Pass pos) pX:=λ_ _ σ H _ I h=>wpAny_Pass #[σ,H,I,h]
def Inv.quiet(I:Inv X aa σ H s):interactive X.env=false:=by simp[interactive,I.ok.kind]
def B8(te:TE):TS:=λD σ H=>te σ H λ_ H1=>D.lk σ H1
def Mw(a:PE X e te)(hs:VP e O pos.line X.env=pure false:=by rfl):PS X (.Expr e pos)<|B8 te:=by intro aa s σ H D I h;exact wpAny_Expr_any (az (a aa s σ H _ I h) λv b a=>e5 a λx H1 a c b=>#[σ,H1,a,b]) I.quiet hs
def Ck(te:TE):TS:=λD σ H=>te σ H D.rt
def mU(a:PE X e te):PS X (.Return (U e) pos)<|Ck te:=by intro aa s σ H D I h;exact wpAny_Return_some<|az (a aa s σ H _ I h) λv b a=>e5 a λx H1 a b c=>#[x,σ,H1,a,b,c]
def Cn:TS:=λD _ H=>D.rt .ao H
def MC:PS X (.Return O pos) Cn:=λ_ _ σ H _ I h=>wpAny_Return_none #[.ao,σ,H,I,G,h]
def B9(c:TT)(t u:TS):TS:=λD σ H=>c σ H λb H1=>if b=true then t D σ H1 else u D σ H1
def My{c:P8}{a b:List RY}{tc:TT}(hc:PT X c tc)(i:fi X a t)(j:fi X b u):PS X (.If c a b pos)<|B9 tc t u:=by intro aa s σ H D I h;refine wpAny_If<|az (hc aa s σ H _ I h) λd e k=>e3 k λH1 f g=>?_;induction d with|true=>exact i aa e σ H1 D f g|false=>exact j aa e σ H1 D f g
end
abbrev TG:=V->St->Hp->(St->Hp->Prop)->Prop
abbrev kG:=List V->St->Hp->(St->Hp->Prop)->Prop
def PG(X:Cx)(a:P8)(t:TG):Prop:=
 ∀(aa:List<|P2×S1)(s:P9)(σ:St)(H:Hp)(v:V)(u:P7)(Q:St->Hp->Prop),Inv X aa σ H s->RelV v u->t v σ H Q->
  Qn (Qt X.prog X.w) X.A (Yb a X.env u) (λ_ s'=>∃a H',Inv X aa a H' s'/\Q a H') X.xe s
def nI(X:Cx)(ts:List P8)(t:kG):Prop:=
 ∀(aa:List<|P2×S1)(s:P9)(σ:St)(H:Hp)(a:List V)(b:List P7)(Q:St->Hp->Prop),Inv X aa σ H s->Vals a b->t a σ H Q->
  Qn (Qt X.prog X.w) X.A (assignInOrder ((Wy ts X.env).map (·.2)) b) (λ_ s'=>∃a H',Inv X aa a H' s'/\Q a H') X.xe s
abbrev qz:=V->V->V->Hp->(Hp->Prop)->Prop
def uX(X:Cx)(t:qz):Prop:=
 ∀(aa:List<|P2×S1)(s:P9)(σ:St)(H:Hp)(o i v:V)(a b u:P7)(Q:Hp->Prop),Inv X aa σ H s->RelV o a->RelV i b->RelV v u->t o i v H Q->
  Qn (Qt X.prog X.w) X.A (setItem a b u) (λ_ s'=>∃H',Inv X aa σ H' s'/\Q H') X.xe s
abbrev nL:=V->V->Hp->VK->Prop
def uW(X:Cx)(op:aam)(t:nL):Prop:=
 ∀(aa:List<|P2×S1)(s:P9)(σ:St)(H:Hp)(x y:V)(v u:P7)(Q:VK),Inv X aa σ H s->RelV x v->RelV y u->t x y H Q->
  Qn (Qt X.prog X.w) X.A (inplaceOp op v u) (EP X aa σ Q) X.xe s
section
variable{X:Cx}{pos:SK}
def fU(i:Nat):TG:=λv σ H Q=>Q (σ.set i<|U v) H
def tj{i:Nat}(hN:X.N.Nodup)(hi:X.N[i]?=U x)(a:Loc X.env.scope x)(b:X.fn x=true\/X.env.scope.names.lookup x=U .local:=by assumption):PG X (.Name x pos)<|fU i:=by intro aa s σ H v u Q I r h;exact wpAny_assign_Name<|pU I hN hi a r (λs' a=>#[_,H,a,h]) b
def wN:kG:=λa σ H Q=>a=[]/\Q σ H
def rS(t:TG)(u:kG):kG:=λa σ H Q=>∃v r,a=v::r/\t v σ H λa H'=>u r a H' Q
def Mj:nI X [] wN:=by intro aa s σ H a b Q I r h;have#[e,h]:=h;subst e;cases r;exact assignInOrder_nil #[σ,H,I,h]
def yQ{e:P8}{es:List P8}{t:TG}{u:kG}(h1:PG X e t)(h2:nI X es u)(hs:(Wy (e::es) X.env).map (·.2)=Yb e X.env::(Wy es X.env).map (·.2):=by rfl):nI X (e::es)<|rS t u:=by intro aa s σ H a b Q I r h;have#[v,b,a,h]:=h;subst a;cases r with|cons r a=>rw[hs];refine assignInOrder_cons<|az (h1 aa s σ H _ _ _ I r h) λ_ b c=>e4 c λc H1 d f=>?_;exact h2 aa b c H1 _ _ Q d a f
def wQ(K:PY)(n:Nat)(t:kG):TG:=λv σ H Q=>∃a xs,v=.ref a/\aR K H a xs/\xs.length=n/\t xs σ H Q
def Mi{k:Nat}{n:Nat}(hc:X.calm=true)(h:nI X es t)(f:(Wy es X.env).length=n:=by rfl)(g:(Wy es X.env).findIdx? (·.1)=O:=by rfl):PG X (.Tuple es k pos)<|wQ X.K n t:=by intro aa s σ H v u Q I r c;have#[a,xs,d,i,j,c]:=c;subst d;cases r;have#[its,d,l,m]:=I.tuple i;refine assign_Tuple_tuple (I.ok.hd hc) l (by simp[f,<-j,d.length]) g λh' f=>?_;have g:Inv X aa σ H {s with heap:=h'}:=I.kept (t':=s.toks) λb o e=>f b o (QC<|Qi e) e;exact h aa _ σ H xs _ Q g (by simpa using d) c
def wO(to a:TE)(t:qz):TG:=λv σ H Q=>to σ H λo H1=>a σ H1 λi H2=>t o i v H2 λa=>Q σ a
def Mh{o i:P8}{to c:TE}{t:qz}(d:PE X o to)(hi:PE X i c)(hs:uX X t)(e:∀v,Yb (.Subscript o i pos) X.env v=(do
      let a<-U5 [v] (Sj o X.env)
      let b<-U5 [v,a] (Sj i X.env)
      ZM pos
      U5 [v,a,b] (setItem a b v)
      release [v,a,b] []):=by intro _;rfl):PG X (.Subscript o i pos)<|wO to c t:=by intro aa s σ H v u Q I r h;rw[e];refine Qb<|Sg<|az (d aa s σ H _ I h) λa c d=>e5 d λx H1 d e f=>?_;refine Qb<|Sg<|az (hi aa c σ H1 _ d f) λb c d=>e5 d λy H2 d f g=>?_;refine Qb<|Vl<|Qb<|Sg<|az (hs aa c σ H2 x y v a b u _ d e f r g) λ_ b a=>e3 a λa b c=>?_;exact wpAny_release #[σ,a,b,c]
def kh(te:TE)(g:TG):TS:=λD σ H=>te σ H λx H1=>g x σ H1 D.lk
def Mu{tg e:P8}{te:TE}{g:TG}(a:PE X e te)(b:PG X tg g)(hs:swapsWithSole [tg] e pos.line X.env=pure false:=by rfl)(c:swappedStores [tg] e X.env=pure O:=by rfl)(h1:(Wy [tg] X.env).map (·.2)=[Yb tg X.env]:=by rfl):PS X (.Assign [tg] e pos)<|kh te g:=by intro aa s σ H D I h;refine wpAny_Assign_stores (az (a aa s σ H _ I h) λv a d=>e5 d λx H1 d f i=>?_) hs c;rw[h1];exact az (b aa a σ H1 x v _ d f i) λ_ a q=>q
def yX{i:Nat}{x:QQ}{e:P8}{te:TE}{pos':SK}(hN:X.N.Nodup)(hi:X.N[i]?=U x)(a:Loc X.env.scope x)(b:PE X e te)(hs:VP e (U<|.Name x pos') pos.line X.env=pure false:=by rfl)(c:X.fn x=true\/X.env.scope.names.lookup x=U .local:=by assumption):
    PS X (.Assign [.Name x pos'] e pos) (kh te<|fU i):=by intro aa s σ H D I h;refine wpAny_Assign_Name (az (b aa s σ H _ I h) λv d b=>e5 b λy H1 b d f=>?_) hs;exact pU b hN hi a d (λb a=>#[_,H1,a,f]) c
def B6(i:Nat)(te:TE)(a:nL):TS:=λD σ H=>∃x,σ[i]?=U (U x)/\te σ H λy H1=>a x y H1 λz H2=>D.lk (σ.set i<|U z) H2
def Mv{i:Nat}{x:QQ}{e:P8}{te:TE}{op:aam}{a:nL}{pos':SK}(hN:X.N.Nodup)(hi:X.N[i]?=U x)(b:Loc X.env.scope x)(f:PE X e te)(g:uW X op a)(j:X.fn x=true\/X.env.scope.names.lookup x=U .local:=by assumption):
    PS X (.AugAssign (.Name x pos') op e pos) (B6 i te a):=by
 intro aa s σ H D I h;have#[v,a,h]:=h;have#[m,n,d]:=I.loc;have o:fN X.env.scope x:=by rcases b with k|k;exact .inl k;exact .inr<|.inl k
 have#[u,r,l]:=d i x v hi a o;refine wpAny_AugAssign_Name ?_;have d:Qn (Qt X.prog X.w) X.A (Sj e X.env) (λw a=>Qn (Qt X.prog X.w) X.A (inplaceOp op u w) (λr o=>Qn (Qt X.prog X.w) X.A (Zu X.env x r) (λ_=>SP X aa D .next) X.xe o) X.xe a) X.xe s:=by refine az (f aa s σ H _ I h) λw a f=>e5 f λy H1 f o p=>?_;refine az (g aa a σ H1 v y u w _ f r o p) λz f a=>e5 a λo H2 a f g=>?_;exact pU a hN hi b f (λf a=>#[_,H2,a,g]) j
 rcases l with⟨a,f⟩|⟨a,c,g,j⟩;.exact aai I.ok.kind a n f d
 .rcases a with a|a;.exact aat I.ok.kind a g j d
  .rcases b with k|k;.have:X.env.scope.names.lookup x=U .free:=a;rw[k]at this;cases this
   .have:X.env.scope.names.lookup x=U .free:=a;rw[k]at this;cases this
def xf(f:Int->Int->Int):nL:=λx y H Q=>∃i j,x=.int i/\y=.int j/\Q (.int<|f i j) H
def Jc:uW X .Add<|xf λi j=>i+j:=by intro aa s σ H x y v u Q I a b h;have#[i,j,c,d,q]:=h;subst c;subst d;have#[t,rfl]:=a;have#[a,rfl]:=b;exact Z8 #[.int _,H,I.tok _,#[_,G],q]
end
section
variable{X:Cx}{pos:SK}
def lL(c:TT)(tb:TS):TS:=λD σ H=>∃W:Nat->St->Hp->Prop,(∃m,W m σ H)/\∀m σ H,W m σ H->
 c σ H λb H1=>if b=true then∃N:St->Hp->Prop,(∀a H',N a H'->∃d,d<m/\W d a H')/\tb {D with lk:=N,ct:=N,bk:=D.lk} σ H1 else D.lk σ H1
def MD{c:P8}{a:List RY}{tc:TT}{tb:TS}(hp:Xh (Qt X.prog X.w) X.A X.env X.xe)(hc:PT X c tc)(d:fi X a tb):PS X (.While c a [] pos)<|lL tc tb:=by
 intro aa s σ H D I h;have#[W,#[e,g],i]:=h;refine wpAny_While<|codeAny_whileLoop (λn s'=>∃a H',Inv X aa a H' s'/\W n a H') ?_ e #[σ,H,I,g];rintro n a⟨e,H1,g,j⟩;refine T8 hp<|az (hc aa a e H1 _ g<|i n e H1 j) λb a g=>e3 g λH2 o g=>?_;induction b with
 |true=>have#[N,p,g]:=g;rw[aaD G];refine T8 hp<|az (d aa a e H2 _ o g) λf a i=>?_;induction f with|next=>have#[a,d,j,k]:=i;have#[l,m,n]:=p a d k;exact#[l,m,a,d,j,n]|cont=>have#[a,d,j,k]:=i;have#[l,m,n]:=p a d k;exact#[l,m,a,d,j,n]|brk=>exact i|ret v=>exact i
 |false=>rw[aaC Qu];exact VA #[e,H2,o,g]
end
structure It where
 go:Nat->Hp->Prop
 kq:Nat->Hp->V->Hp->Prop
 stop:Nat->Hp->Prop
def eJ(X:Cx)(aa:List<|P2×S1)(H:Hp)(b:P2):Prop:=
 H b=O/\b≠X.env.locals/\b∉X.fs/\(b∈X.ex\/X.aX.heap.objs.size<=b)/\(∀x c,X.env.cells.lookup x=U c->c≠b)/\∀p∈X.pn++aa,p.1≠b
def Inv.kO{s:P9}(I:Inv X aa σ H s)(a:s.heap.objs.size<=b)(d:H' b=O):eJ X aa H' b:=by
 refine#[d,TZ<|Qx I.lt a,I.Kp a,.inr<|QW I.sz a,λx c e z=>?_,λp d z=>?_];.have#[v,q]:=I.cell x c e;exact absurd (Qx q.lt<|by rw[z];exact a)<|RP _
 .exact absurd (Qx (Qi (I.pin p d).1)<|by rw[z];exact a)<|RP _
structure Turn(P:Rb)(w:RO)(K:PY)(tg:P8)(J:It)(fp:List P2)(it:P2)(tn:Nat->Q7->Prop):Prop where
 mem:it∈fp
 obj:∀i h,tn i h->∀b∈fp,∃o,h.get? b=U o/\∀v,o.data≠.cell v
 keep:∀i h h',tn i h->(∀b∈fp,∀o,h.get? b=U o->h'.get? b=U o)->tn i h'
 item:∀(X:Cx),X.prog=P->X.w=w->X.K=K->X.calm=true->∀(i:Nat)(aa:List (P2×S1))(s:P9)(σ:St)(H:Hp)(E:P7->P9->Prop),Inv X aa σ H s->(∀b∈fp,eJ X aa H b)->tn i s.heap->J.go i H->
  Qn (Qt P w) X.A (XA (.ref it)) (λr s1=>∃u,r=U u/\
   Qn (Qt P w) X.A (WG tg (.ref it) u) (λ_ s2=>∃x H',Inv X aa σ H' s2/\RelV x u/\J.kq i H x H'/\tn (i+1) s2.heap/\∀b∈fp,H' b=O) E s1) E s
 done:∀(X:Cx),X.prog=P->X.w=w->X.K=K->X.calm=true->∀(i:Nat)(aa:List (P2×S1))(s:P9)(σ:St)(H:Hp)(E:P7->P9->Prop),Inv X aa σ H s->(∀b∈fp,eJ X aa H b)->tn i s.heap->J.stop i H->
  Qn (Qt P w) X.A (XA (.ref it)) (λr s1=>r=O/\Inv X aa σ H s1) E s
 self:∀(A:Rq)(i:Nat)(s:P9)(Q:P7->P9->Prop)(E:P7->P9->Prop),tn i s.heap->Q (.ref it) s->Qn (Qt P w) A (pyIter (.ref it)) Q E s
abbrev TI:=St->Hp->(It->Hp->Prop)->Prop
def qu(X:Cx)(aa:List<|P2×S1)(σ:St)(tg:P8)(R:It->Hp->Prop)(e:P7)(a:P9):Prop:=
 ∃(it:P2)(c:List P2)(d:Nat->Q7->Prop)(J:It)(H':Hp),e=.ref it/\Inv X aa σ H' a/\Turn X.prog X.w X.K tg J c it d/\d 0 a.heap/\(∀b∈c,eJ X aa H' b)/\R J H'
def PI(X:Cx)(tg a:P8)(b:TI):Prop:=
 ∀(aa:List<|P2×S1)(s:P9)(σ:St)(H:Hp)(R:It->Hp->Prop),Inv X aa σ H s->b σ H R->
  Qn (Qt X.prog X.w) X.A (Sj a X.env) (λv a=>Qn (Qt X.prog X.w) X.A (pyIter v) (qu X aa σ tg R) X.xe a) X.xe s
def rT{E:P7->P9->Prop}{s:P9}{o:S1}{Q:Unit->P9->Prop}(b:s.heap.get? it=U o)(hc:o.cls=.type n)(hd:o.data=.fields vs)(c:['I',"zip",'n','T',"odict_iterator",']','f'].contains n=false)(a:Q () s):Qn M A (WG tg (.ref it) u) Q E s:=by
 unfold WG;cases tg<;>first
  |exact Qo a
  |(induction u<;>first
    |exact Qo a
    |(refine Qb (wpAny_load b ?_)
      rw[hc,hd]
      show Qn M A (if(['I',"zip",'n','T',"odict_iterator",']','f'].contains n&&vs[0]?==U (VB _))=true then _ else _) Q E s
      rw[aaC<|by intro h;rw[c,aaB]at h;cases h]
      exact Qo a))
noncomputable def fH(K:PY)(a:P2):It:=
 #[λi H=>∃xs x,af K H a xs/\xs[i]?=U x,λi H x H'=>H'=H/\∀xs,af K H a xs->xs[i]?=U x,λi H=>∃xs,af K H a xs/\xs.length<=i]
noncomputable def jG(lo:Int)(n:Nat):It:=#[λi _=>i<n,λi H x H'=>H'=H/\x=.int (lo+i),λi _=>n<=i]
def OO{P:Rb}{w:RO}{K:PY}{tg:P8}(a it:P2):Turn P w K tg (fH K a) [it] it (λi h=>h.IsListIter it a i) where
 mem:=by simp
 obj:=λi h st b f=>by
  have e:b=it:=by simpa using f
  subst e
  have#[o,e,c,d]:=st
  exact#[o,e,λv z=>by rw[d]at z;cases z]
 keep:=λi h h' st k=>st.at λo e=>k it (by simp) o e
 item:=by
  intro X l m n D i aa s σ H E I g st q
  subst l m n
  have#[xs,x,j,r]:=q
  have#[its,t,p,J]:=I.list j
  have#[u,F,L]:=t.get r
  have#[y,z,M,A,B,C]:=g it (by simp)
  refine U4 st p.isList (x:=u) (by simpa using F) λh' F N=>?_
  have Q:Inv X aa σ H {s with heap:=h'}:=I.turned (t':=s.toks) (λb o f e=>(N.2 b f).trans e) y z A B C
  have#[o,e,c,d]:=id F
  exact#[u,G,rT (s:={s with heap:=h'}) e c d (by decide) #[x,H,Q,L,#[G,λys L=>by rw[I.oN L j];exact r],F,λb f=>(g b f).1]]
 done:=by
  intro X l m n D i aa s σ H E I g st q
  subst l m n
  have#[xs,j,r]:=q
  have#[its,t,p,J]:=I.list j
  have#[y,z,M,A,B,C]:=g it (by simp)
  have g:=t.length
  exact Vg (I.ok.hd D) st p.isList (by simp;lia) λh' g=>#[G,I.turned (t':=s.toks) (λb o f e=>g b o f e) y z A B C]
 self:=λ_ _ _ _ _ st h=>wpAny_pyIter_listiter st h
def OP{P:Rb}{w:RO}{K:PY}{tg:P8}(it:P2)(lo:Int)(n:Nat):Turn P w K tg (jG lo n) [it] it (λi h=>IsRangeIter h it (lo+(i:Nat)*1) ((n:Int)-(i:Nat)) 1) where
 mem:=by simp
 obj:=λi h st b a=>by
  have e:b=it:=by simpa using a
  subst e
  exact#[_,st,λv z=>by
   have c:Data.fields _=Data.cell v:=z
   cases c]
 keep:=λi h h' st k=>k it (by simp) _ st
 item:=by
  intro X d f g j i aa s σ H E I c st l
  subst d f g
  have#[m,p,y,q,r,u]:=c it (by simp)
  have W:=Walks.range (prog:=X.prog) (w:=X.w) (I.ok.hd j) it lo 1 n
  refine W.item i s _ _ l st λv h' tk z x A=>?_
  have#[t,rfl]:=z
  have z:Inv X aa σ H {s with heap:=h',toks:=tk}:=I.turned (λb o a e=>A b o (by simpa using a) e) m p q r u
  refine#[_,G,rT (s:={s with heap:=h',toks:=tk}) (n:="range_iterator") x G G (by decide) #[.int<|lo+i,H,z,#[t,?_],#[G,G],x,λb a=>(c b a).1]]
  rw[Int.mul_one]
 done:=by
  intro X d f g j i aa s σ H E I c st l
  subst d f g
  have#[m,p,y,q,r,u]:=c it (by simp)
  exact wpAny_pyNext_range_end (I.ok.hd j) st (by have:n<=i:=l;lia) λh' c=>#[G,I.turned (t':=s.toks) (λb o a e=>c b o a e) m p q r u]
 self:=λ_ _ _ _ _ st h=>wpAny_pyIter_rangeiter st h
section
variable{X:Cx}{tg:P8}
def gL(K:PY)(tll:TE):TI:=λσ H R=>tll σ H λx H1=>∃a,x=.ref a/\(∃xs,af K H1 a xs)/\R (fH K a) H1
def Mm{l:P8}{tll:TE}(hl:PE X l tll):PI X tg l<|gL X.K tll:=by
 intro aa s σ H R I h;refine az (hl aa s σ H _ I h) λv c f=>e5 f λx H1 d g i=>?_;have#[a,e,#[xs,j],q]:=i;subst e;cases g;have#[its,m,p,n]:=d.list j;refine V4 p.isList ?_;refine#[c.heap.objs.size,[c.heap.objs.size],_,_,H1,G,d.kept (t':=c.toks) λb o e=>Q7.get?_push_of_some _ e,OO a _,#[_,Q7.get?_push_size _ G,G,G],λb k=>?_,q];have e:b=c.heap.objs.size:=by simpa using k
 subst e;exact d.kO (Qg _)<|d.ay.fresh<|Qg _
def y8{s:P9}{R:It->Hp->Prop}{E:P7->P9->Prop}{lo hi:Int}{tk:Nat}(I:Inv X aa σ H s)(h1:-(2^62)<=lo)(h2:lo<2^62)(a:-(2^62)<=hi)(c:hi<2^62)(q:R (jG lo (hi-lo).toNat) H):Qn (Qt X.prog X.w) X.A (pyIter<|.ref s.heap.objs.size) (qu X aa σ tg R) E {s with heap:=s.heap.push {cls:=.type 'H',data:=.fields (Rc [.int lo t,.int hi u,.int 1 v])},toks:=tk}:=by
 refine wpAny_pyIter_range (IsRange.new ..) (small_one h1 h2 a c) ?_;have a:Inv X aa σ H {s with heap:=s.heap.push {cls:=.type 'H',data:=.fields (Rc [.int lo t,.int hi u,.int 1 v])},toks:=tk}:=I.kept λb o e=>Q7.get?_push_of_some _ e;refine#[(s.heap.push {cls:=.type 'H',data:=.fields (Rc [.int lo t,.int hi u,.int 1 v])}).objs.size,[(s.heap.push {cls:=.type 'H',data:=.fields (Rc [.int lo t,.int hi u,.int 1 v])}).objs.size],_,_,H,G,
  a.kept (t':=tk) λb o e=>Q7.get?_push_of_some _ e,OP _ lo (hi-lo).toNat,?_,λb c=>?_,q]
 .have d:lo+((0:Nat):Int)*1=lo:=by simp
  have f:(((hi-lo).toNat:Nat):Int)-((0:Nat):Int)=Builtin.Range.rangeSize lo hi 1:=by rw[rangeSize_one];split<;>lia
  show IsRangeIter _ _ (lo+((0:Nat):Int)*1) ((((hi-lo).toNat:Nat):Int)-((0:Nat):Int)) 1;rw[d,f];exact Q7.get?_push_size _ rfl
 .have e:b=(s.heap.push {cls:=.type 'H',data:=.fields (Rc [.int lo t,.int hi u,.int 1 v])}).objs.size:=by simpa using c
  subst e;exact a.kO (Qg _)<|a.ay.fresh<|Qg _
def kQ(ta:TA):TI:=λσ H R=>ta σ H λa H1=>∃j:Int,a=[.int j]/\-(2^62)<=j/\j<2^62/\R (jG 0 j.toNat) H1
def kR(ta:TA):TI:=λσ H R=>ta σ H λa H1=>∃i j:Int,a=[.int i,.int j]/\(-(2^62)<=i/\i<2^62/\-(2^62)<=j/\j<2^62)/\R (jG i (j-i).toNat) H1
def Mn{a:P8}{ta:TA}{p pos:SK}(c:Gl X 'H')(d:X.mg 'H'=O)(f:PA X [a] ta)(hs:QJ [a] X.env=[(false,Sj a X.env)]:=by rfl):PI X tg (.Call (.Name 'H' p) [a] [] pos)<|kQ ta:=by intro aa s σ H R I h;refine Call_<|jj I c d boot_range<|R7 (az (f pos aa s σ H _ I h) λn o g=>e5 g λu H1 i k b=>?_) hs G;have#[j,e,b,l,q]:=b;subst e;cases k with|cons r m=>cases m;have#[t,rfl]:=r;exact call_range_1<|y8 i ∅ ∅ b l (by simpa using q)
def Mo{a b:P8}{ta:TA}{p pos:SK}(g:Gl X 'H')(k:X.mg 'H'=O)(l:PA X [a,b] ta)(hs:QJ [a,b] X.env=[(false,Sj a X.env),(false,Sj b X.env)]:=by rfl)(f:QJ [b] X.env=[(false,Sj b X.env)]:=by rfl):
    PI X tg (.Call (.Name 'H' p) [a,b] [] pos) (kR ta):=by intro aa s σ H R I h;refine Call_<|jj I g k boot_range<|R7 (az (l pos aa s σ H _ I h) λy z m=>e5 m λA H1 n o c=>?_) (by rw[hs,f]) (by rw[f];rfl);have#[i,j,e,#[c,u,v,w],q]:=c;subst e;cases o with|cons r d=>cases d with|cons x d=>cases d;have#[t,rfl]:=r;have#[B,rfl]:=x;exact call_range_2<|y8 n c u v w q
def gi(a:TI)(g:TG)(tb:TS):TS:=λD σ H=>a σ H λJ H1=>∃W:Nat->Nat->St->Hp->Prop,(∃m,W 0 m σ H1)/\∀i m σ H,W i m σ H->
 (J.stop i H/\D.lk σ H)\/(J.go i H/\∃N:St->Hp->Prop,(∀a H',N a H'->∃b,b<m/\W (i+1) b a H')/\∀x H',J.kq i H x H'->g x σ H' λa H2=>tb {D with lk:=N,ct:=N,bk:=D.lk} a H2)
noncomputable def eV(a:List P2)(h:Q7):List<|P2×S1:=a.filterMap λb=>(h.get? b).map λo=>(b,o)
def oU{h:Q7}(a:b∈c)(e:h.get? b=U o):(b,o)∈eV c h:=Uz.mpr #[b,a,by rw[e];rfl]
def Kx{h:Q7}(hp:p∈eV a h):p.1∈a/\h.get? p.1=U p.2:=by have#[b,a,e]:=Uz.mp hp;cases q:h.get? b with|none=>rw[q]at e;cases e|some o=>rw[q]at e;have c:(b,o)=p:=QO e;subst c;exact#[a,q]
def Inv.pinned{s:P9}(I:Inv X aa σ H s)(c:∀b∈a,eJ X aa H b)(f:∀b∈a,∃o,s.heap.get? b=U o/\∀v,o.data≠.cell v):Inv X (aa++eV a s.heap) σ H s:=
 I.yT λp a=>(RW.mp a).elim (λz=>I.pin p<|RF _ z) λz=>by
  have#[a,e]:=Kx z
  have#[g,h,i,_]:=c p.1 a
  have#[o,c,d]:=f p.1 a
  rw[e]at c;cases c
  exact#[e,g,h,i,d]
def Inv.p8(I:Inv X (aa++pl) σ H s):Inv X aa σ H s:=I.yT λp a=>I.pin p<|RF _<|Si _ a
def Mx{z:P8}{F:List RY}{K:TI}{g:TG}{tb:TS}{pos:SK}(hp:Xh (Qt X.prog X.w) X.A X.env X.xe)(hc:X.calm=true)(hi:PI X tg z K)(hg:PG X tg g)(a:fi X F tb)(hs:∀x,TH z X.env x=pure x:=by intro _;rfl):PS X (.For tg z F [] pos)<|gi K g tb:=by
 intro aa s σ H D I h;refine wpAny_For (az (hi aa s σ H _ I h) λv s1 h1=>az h1 λa3 s2 h2=>?_) hs;have#[it,p,L,J,H2,e,I2,T,ab,M,W,#[m0,w0],ac]:=h2;subst e;have A:∀{H':Hp},(∀b∈p,H' b=O)->∀b∈p,eJ X aa H' b:=λhn b a=>#[hn b a,(M b a).2];refine codeAny_forLoop_any (λn s'=>∃i q H',Inv X aa q H' s'/\L i s'.heap/\(∀b∈p,H' b=O)/\W i n q H') ?_ m0 #[0,σ,H2,I2,ab,λb a=>(M b a).1,w0];rintro n P⟨i,t,y,Q,R,S,w3⟩;rcases ac i n t y w3 with⟨ad,qn⟩|⟨go,N,hN,ak⟩;.refine T8 hp (az (T.done X G G G hc i aa P t y X.xe Q (A S) R ad) λr s4 al=>e2 al λB I4=>?_);subst B;exact VA #[t,y,I4,qn]
 .refine T8 hp (az (T.item X G G G hc i aa P t y X.xe Q (A S) R go) λr s4 am=>e3 am λu B h4=>?_);subst B;refine T8 hp<|az h4 λ_ V ap=>e7 ap λx Y I5 r5 y5 C av=>?_;have a0:=I5.pinned (A av)<|T.obj _ _ C;refine T8 hp<|az (hg _ V t Y x u _ a0 r5<|ak x Y y5) λ_ s6 a1=>e4 a1 λa2 H6 I6 q6=>?_;refine T8 hp<|az (a _ s6 a2 H6 _ I6 q6) λf E l=>?_;have Z:∀{c:St}{j:Hp},Inv X (aa++eV p V.heap) c j E->N c j->∃m,m<n/\∃i q H',Inv X aa q H' E/\L i E.heap/\(∀b∈p,H' b=O)/\W i m q H':=λ{c j}k w=>by have#[m',hm,w7]:=hN c j w;refine#[m',hm,i+1,c,j,k.p8,T.keep _ _ _ C λb a o e=>(k.pin (b,o)<|RF _<|RF _<|oU a e).1,λb a=>?_,w7];have#[o,e,d]:=T.obj _ _ C b a;exact(k.pin (b,o)<|RF _<|RF _<|oU a e).2.1
  induction f with|next=>have#[c,j,k,w]:=l;exact Z k w|cont=>have#[c,j,k,w]:=l;exact Z k w|brk=>have#[c,j,k,l]:=l;exact#[c,j,k.p8,l]|ret v=>have#[x7,c,j,k,r7,l]:=l;exact#[x7,c,j,k.p8,r7,l]
end
abbrev R2:=V->V->Hp->VK->Prop
def aZ(X:Cx)(f:P7->P7->Sem P7)(r:R2):Prop:=
 ∀(aa:List<|P2×S1)(s:P9)(σ:St)(H:Hp)(x y:V)(v u:P7)(Q:VK),Inv X aa σ H s->RelV x v->RelV y u->r x y H Q->
  Qn (Qt X.prog X.w) X.A (f v u) (EP X aa σ Q) X.xe s
def qJ(X:Cx)(f:P7->Sem P7)(r:V->Hp->VK->Prop):Prop:=
 ∀(aa:List<|P2×S1)(s:P9)(σ:St)(H:Hp)(x:V)(v:P7)(Q:VK),Inv X aa σ H s->RelV x v->r x H Q->
  Qn (Qt X.prog X.w) X.A (f v) (EP X aa σ Q) X.xe s
def bU(X:Cx)(f:P7)(r:List V->Hp->VK->Prop):Prop:=
 ∀(aa:List<|P2×S1)(s:P9)(σ:St)(H:Hp)(xs:List V)(a:List P7)(Q:VK),Inv X aa σ H s->Vals xs a->r xs H Q->
  Qn (Qt X.prog X.w) X.A (call f a) (EP X aa σ Q) X.xe s
def jy(r:R2)(ta tb:TE):TE:=λσ H Q=>ta σ H λx H1=>tb σ H1 λy H2=>r x y H2 Q
def Cs(r:V->Hp->VK->Prop)(ta:TE):TE:=λσ H Q=>ta σ H λx H1=>r x H1 Q
def rI(C:Int->Int->Prop)(g:Int->Int->V):R2:=λx y H Q=>∃i j,x=.int i/\y=.int j/\C i j/\Q (g i j) H
def iE(g:Int->Int->V):R2:=λx y H Q=>∃i j,x=.int i/\y=.int j/\Q (g i j) H
def rU(g:Int->V):V->Hp->VK->Prop:=λx H Q=>∃i,x=.int i/\Q (g i) H
section
variable{X:Cx}{a b c:P8}{ta tb tc:TE}{pos:SK}
def qW(d:PE X a ta)(e:PE X b tb){aa:List (P2×S1)}{s:P9}{σ:St}{H:Hp}{R:V->V->Hp->Prop}(I:Inv X aa σ H s)(h:ta σ H λx H1=>tb σ H1 λy H2=>R x y H2){Q:P7->P9->Prop}{f:P7->P7->Sem P7}(g:∀v u c x y H2,Inv X aa σ H2 c->RelV x v->RelV y u->R x y H2->Qn (Qt X.prog X.w) X.A (f v u) Q X.xe c):
    Qn (Qt X.prog X.w) X.A (Sj a X.env) (λv i=>Qn (Qt X.prog X.w) X.A (Sj b X.env) (λu j=>Qn (Qt X.prog X.w) X.A (f v u) Q X.xe j) X.xe i) X.xe s:=by refine az (d aa s σ H _ I h) λv d i=>e5 i λx H1 i j k=>?_;refine az (e aa d σ H1 _ i k) λu c d=>e5 d λy H2 d e i=>?_;exact g v u c x y H2 d j e i
def yP(c:aZ X (Vt op) r)(d:PE X a ta)(e:PE X b tb):PE X (.BinOp a op b pos)<|jy r ta tb:=by intro aa s σ H Q I h;exact wpAny_BinOp<|qW d e I h λv u d x y H2 e f g q=>c aa d σ H2 x y v u Q e f g q
def tf{op:UnaryOp}{r:V->Hp->VK->Prop}(b:qJ X (unaryOp op) r)(c:PE X a ta):PE X (.UnaryOp op a pos)<|Cs r ta:=by intro aa s σ H Q I h;exact UnaryOp_<|az (c aa s σ H _ I h) λv c d=>e5 d λx H1 d e f=>b aa c σ H1 x v Q d e f
def Lu{f:P7->P7->Sem P7}{C:Int->Int->Prop}{g:Int->Int->Int}(a:∀(i j:Int)(t u:Tok)(s:P9)(Q:P7->P9->Prop)(E:P7->P9->Prop),C i j->Q (.int (g i j) s.toks) {s with toks:=s.toks+1}->Qn (Qt X.prog X.w) X.A (f (.int i t)<|.int j u) Q E s):
    aZ X f (rI C λi j=>.int<|g i j):=by intro aa s σ H x y v u Q I b c h;have#[i,j,rfl,rfl,d,q]:=h;have#[t,rfl]:=b;have#[b,rfl]:=c;exact a i j t b s _ _ d #[.int<|g i j,H,I.tok _,#[_,G],q]
def yD{f:P7->P7->Sem P7}{g:Int->Int->Int}(a:∀(i j:Int)(t u:Tok)(s:P9)(Q:P7->P9->Prop)(E:P7->P9->Prop),Q (.int (g i j) s.toks) {s with toks:=s.toks+1}->Qn (Qt X.prog X.w) X.A (f (.int i t)<|.int j u) Q E s):
    aZ X f (iE λi j=>.int<|g i j):=by intro aa s σ H x y v u Q I b c h;have#[i,j,rfl,rfl,q]:=h;have#[t,rfl]:=b;have#[b,rfl]:=c;exact a i j t b s _ _ #[.int<|g i j,H,I.tok _,#[_,G],q]
def pq{f:P7->P7->Sem P7}{g:Int->Int->Bool}(a:∀(i j:Int)(t u:Tok)(s:P9)(Q:P7->P9->Prop)(E:P7->P9->Prop),Q (.bool<|g i j) s->Qn (Qt X.prog X.w) X.A (f (.int i t)<|.int j u) Q E s):
    aZ X f (iE λi j=>.bl<|g i j):=by intro aa s σ H x y v u Q I b c h;have#[i,j,rfl,rfl,q]:=h;have#[t,rfl]:=b;have#[b,rfl]:=c;exact a i j t b s _ _ #[.bl<|g i j,H,I,G,q]
def lQ(i j:Int):Prop:=(-(2^64)<i/\i<2^64)\/(-(2^64)<j/\j<2^64)
def lQ.ok{i j:Int}(h:lQ i j):IntMulOk i j:=by
 rcases h with⟨h1,h2⟩|⟨h1,h2⟩;.exact .of_left<|intBits_le_64 h1 h2
 .exact .of_right<|intBits_le_64 h1 h2
def Lw:aZ X (Vt .Add)<|iE λi j=>.int<|i+j:=yD λ_ _ _ _ _ _ _ q=>add_int q
def yE:aZ X (Vt .Sub)<|iE λi j=>.int<|i-j:=yD λ_ _ _ _ _ _ _ q=>sub_int q
def LG:aZ X (Vt .Mult)<|rI lQ λi j=>.int<|i*j:=Lu λ_ _ _ _ _ _ _ a q=>mul_int q a.ok
def OV{f:P7->Sem P7}{g:Int->Int}(a:∀(i:Int)(t:Tok)(s:P9)(Q:P7->P9->Prop)(E:P7->P9->Prop),Q (.int (g i) s.toks) {s with toks:=s.toks+1}->Qn (Qt X.prog X.w) X.A (f<|.int i t) Q E s):
    qJ X f (rU λi=>.int<|g i):=by intro aa s σ H x v Q I b h;have#[i,rfl,q]:=h;have#[t,rfl]:=b;exact a i t s _ _ #[.int<|g i,H,I.tok _,#[_,G],q]
def uo:qJ X (unaryOp .USub)<|rU λi=>.int (-i):=OV λ_ _ _ _ _ q=>neg_int q
end
noncomputable def m7:V->V->Bool
 |.ao,.ao=>true|.ao,.int _=>true|.int _,.ao=>true|.ao,.bl _=>true|.bl _,.ao=>true|.ao,.str _=>true|.str _,.ao=>true
 |.int _,.int _=>true|.bl _,.bl _=>true|.str _,.str _=>true|.eL _,.eL _=>true
 |.int _,.str _=>true|.str _,.int _=>true|.bl _,.str _=>true|.str _,.bl _=>true
 |_,_=>false
def yY:R2:=λx y H Q=>m7 x y=true/\Q (.bl<|decide (x=y)) H
def yZ:R2:=λx y H Q=>m7 x y=true/\Q (.bl<|!decide (x=y)) H
def vW{i j:Int}:decide (V.int i=V.int j)=(i==j):=by rw[Rt];simp
def vU{i j:Bool}:decide (V.bl i=V.bl j)=(i==j):=by rw[Rt];simp
def vY:decide (V.str i=V.str j)=(i==j):=by rw[Rt];simp
def vV{i j:Array UInt8}:decide (V.eL i=V.eL j)=(i.toList==j.toList):=by rw[Rt];cases i;cases j;simp
section
variable{X:Cx}{a b c:P8}{ta tb tc:TE}{pos:SK}
def bF{k a:Bool}(I:Inv X aa σ H s)(q:Q (.bl k) H)(e:k=a):EP X aa σ Q (.bool a) s:=by subst e;exact#[.bl k,H,I,G,q]
def Ly:aZ X (RD .Eq) yY:=by
 intro aa s σ H x y v u Q I d a h;have#[c,q]:=h;induction x with
 |ao=>cases d;induction y with|ao=>cases a;exact PySem.EqNone.eq_none_none<|bF I q (by simp)|bl j=>cases a;exact PySem.EqNone.eq_none_bool<|bF I q (by simp)|int j=>have#[b,rfl]:=a;exact PySem.EqNone.eq_none_int<|bF I q (by simp)|str j=>have#[b,rfl]:=a;exact PySem.EqNone.eq_none_str<|bF I q (by simp)|_=>exact absurd (show false=true from c) Qu
 |bl i=>cases d;induction y with|ao=>cases a;exact PySem.EqNone.eq_bool_none<|bF I q (by simp)|bl j=>cases a;exact eq_bool<|bF I q vU|str j=>have#[b,rfl]:=a;exact PySem.EqMixed.eq_bool_str<|bF I q (by simp)|_=>exact absurd (show false=true from c) Qu
 |int i=>have#[t,rfl]:=d;induction y with|ao=>cases a;exact PySem.EqNone.eq_int_none<|bF I q (by simp)|int j=>have#[b,rfl]:=a;exact eq_int<|bF I q vW|str j=>have#[b,rfl]:=a;exact PySem.EqMixed.eq_int_str<|bF I q (by simp)|_=>exact absurd (show false=true from c) Qu
 |str i=>have#[t,rfl]:=d;induction y with|ao=>cases a;exact PySem.EqNone.eq_str_none<|bF I q (by simp)|bl j=>cases a;exact PySem.EqMixed.eq_str_bool<|bF I q (by simp)|int j=>have#[b,rfl]:=a;exact PySem.EqMixed.eq_str_int<|bF I q (by simp)|str j=>have#[b,rfl]:=a;exact eq_str<|bF I q vY|_=>exact absurd (show false=true from c) Qu
 |eL i=>have#[t,rfl]:=d;induction y with|eL j=>have#[b,rfl]:=a;exact PySem.W.eq_bytes<|bF I q vV|_=>exact absurd (show false=true from c) Qu
 |_=>induction y<;>exact absurd (show false=true from c) Qu
def LH:aZ X (RD .NotEq) yZ:=by
 intro aa s σ H x y v u Q I d a h;have#[c,q]:=h;induction x with
 |ao=>cases d;induction y with|ao=>cases a;exact PySem.EqNone.ne_none_none<|bF I q (by simp)|bl j=>cases a;exact PySem.EqNone.ne_none_bool<|bF I q (by simp)|int j=>have#[b,rfl]:=a;exact PySem.EqNone.ne_none_int<|bF I q (by simp)|str j=>have#[b,rfl]:=a;exact PySem.EqNone.ne_none_str<|bF I q (by simp)|_=>exact absurd (show false=true from c) Qu
 |bl i=>cases d;induction y with|ao=>cases a;exact PySem.EqNone.ne_bool_none<|bF I q (by simp)|bl j=>cases a;exact ne_bool<|bF I q<|congrArg not vU|str j=>have#[b,rfl]:=a;exact PySem.EqMixed.ne_bool_str<|bF I q (by simp)|_=>exact absurd (show false=true from c) Qu
 |int i=>have#[t,rfl]:=d;induction y with|ao=>cases a;exact PySem.EqNone.ne_int_none<|bF I q (by simp)|int j=>have#[b,rfl]:=a;exact ne_int<|bF I q<|congrArg not vW|str j=>have#[b,rfl]:=a;exact PySem.EqMixed.ne_int_str<|bF I q (by simp)|_=>exact absurd (show false=true from c) Qu
 |str i=>have#[t,rfl]:=d;induction y with|ao=>cases a;exact PySem.EqNone.ne_str_none<|bF I q (by simp)|bl j=>cases a;exact PySem.EqMixed.ne_str_bool<|bF I q (by simp)|int j=>have#[b,rfl]:=a;exact PySem.EqMixed.ne_str_int<|bF I q (by simp)|str j=>have#[b,rfl]:=a;exact ne_str<|bF I q<|congrArg not vY|_=>exact absurd (show false=true from c) Qu
 |eL i=>have#[t,rfl]:=d;induction y with|eL j=>have#[b,rfl]:=a;exact PySem.W.ne_bytes<|bF I q<|congrArg not vV|_=>exact absurd (show false=true from c) Qu
 |_=>induction y<;>exact absurd (show false=true from c) Qu
def LF:aZ X (RD .Lt)<|iE λi j=>.bl<|decide (i<j):=pq λ_ _ _ _ _ _ _ q=>lt_int q
def LD:aZ X (RD .LtE)<|iE λi j=>.bl<|decide (i<=j):=pq λ_ _ _ _ _ _ _ q=>le_int q
def LB:aZ X (RD .Gt)<|iE λi j=>.bl<|decide (j<i):=pq λ_ _ _ _ _ _ _ q=>gt_int q
def LA:aZ X (RD .GtE)<|iE λi j=>.bl<|decide (j<=i):=pq λ_ _ _ _ _ _ _ q=>aaw q
def L5(c:aZ X (RD op) r)(d:PE X a ta)(e:PE X b tb)(f:UI op b=false):PE X (.Compare a [op] [b] pos)<|jy r ta tb:=by intro aa s σ H Q I h;exact wpAny_Compare1 (qW d e I h λv u d x y H2 e g i q=>c aa d σ H2 x y v u Q e g i q) f
def pY(t:TE):TT:=λσ H Q=>t σ H λx H'=>∃k,x=.bl k/\Q k H'
def MI{op:Ys}{r:R2}(d:aZ X (RD op) r)(f:PE X a ta)(g:PE X b tb)(i:UI op b=false):PT X (.Compare a [op] [b] pos)<|pY<|jy r ta tb:=by
 intro aa s σ H Q I h;refine Z3 (az (f aa s σ H _ I h) λv j l=>e5 l λx H1 m n o=>az (g aa j σ H1 _ m o) λu p q=>e5 q λy H2 t w A=>
  az (d aa p σ H2 x y v u _ t n w A) λc K B=>e5 B λz C D E F=>e3 F λk e J=>?_) i
 subst e;cases E;exact Sv #[C,D,J]
def ud(r b:R2)(ta tb tc:TE):TE:=λσ H Q=>ta σ H λx H1=>tb σ H1 λy H2=>r x y H2 λz a=>∃k,z=.bl k/\
 (if k=true then tc σ a λc d=>b y c d Q else Q (.bl false) a)
def L3{op f:Ys}{r g:R2}(n:aZ X (RD op) r)(o:aZ X (RD f) g)(p:PE X a ta)(q:PE X b tb)(hc:PE X c tc)(t:lastMarks [op,f] [b,c]=false:=by with_unfolding_all rfl):PE X (.Compare a [op,f] [b,c] pos)<|ud r g ta tb tc:=by
 intro aa s σ H Q I h;refine Compare_chain (az (p aa s σ H _ I h) λv w A=>e5 A λx H1 B C D=>chain_link (az (q aa w σ H1 _ B D) λu E F=>e5 F λy H2 J i K=>
  az (n aa E σ H2 x y v u _ J C i K) λd L M=>e5 M λz j l N P=>e3 P λk e m=>?_)) t
 subst e;cases N;refine Sv ?_;induction k with|false=>exact ite_ff #[.bl false,j,l,G,m]|true=>exact ite_tt<|chain_last<|az (hc aa L σ j _ l m) λR S T=>e5 T λV W Y Z q4=>o aa S σ W y V u R Q Y i Z q4
def MG{op f:Ys}{r g:R2}(n:aZ X (RD op) r)(o:aZ X (RD f) g)(p:PE X a ta)(q:PE X b tb)(hc:PE X c tc)(t:lastMarks [op,f] [b,c]=false:=by with_unfolding_all rfl):PT X (.Compare a [op,f] [b,c] pos)<|pY<|ud r g ta tb tc:=by
 intro aa s σ H Q I h;refine isTrue_chain (az (p aa s σ H _ I h) λv w A=>e5 A λx H1 B C D=>test_link (az (q aa w σ H1 _ B D) λu E F=>e5 F λy H2 J i K=>
  az (n aa E σ H2 x y v u _ J C i K) λd L M=>e5 M λz j l N P=>e3 P λk e m=>?_)) t
 subst e;cases N;refine Sv ?_;induction k with|false=>have#[k',R,S]:=m;cases R;exact ite_ff #[j,l,S]|true=>refine ite_tt<|test_last<|az (hc aa L σ j _ l m) λT V W=>e5 W λY Z I4 r4 q4=>az (o aa V σ Z y Y u T _ I4 i r4 q4) λd' s5 ab=>e5 ab λz2 H5 I5 r5 ac=>e3 ac λk2 e2 q5=>?_;subst e2;cases r5;exact Sv #[H5,I5,q5]
def oM:(sizeLine:Nat)<2^63:=by rw[aaj];decide
def vals1(r:Vals [x] us):∃u,us=[u]/\RelV x u:=by cases r with|cons a b=>cases b;exact#[_,G,a]
def vals2(r:Vals [x,y] us):∃u a,us=[u,a]/\RelV x u/\RelV y a:=by cases r with|cons a b=>cases b with|cons b c=>cases c;exact#[_,_,G,a,b]
def GP:bU X (.type "str") λxs H Q=>∃i,xs=[.int i]/\i.natAbs.log2<1920/\Q (.str<|toString i) H:=by intro aa s σ H xs a Q I r h;have#[i,rfl,a,q]:=h;have#[u,rfl,t,rfl]:=vals1 r;exact PySem.P.str_of_int a #[.str _,H,I.tok _,#[_,G],q]
def GN:bU X (.builtin "ord") λxs H Q=>∃x,xs=[.str x]/\x.length=1/\Q (.int (x.cps.getD 0 0:Nat)) H:=by intro aa s σ H xs a Q I r h;have#[x,rfl,a,q]:=h;have#[u,rfl,t,rfl]:=vals1 r;exact ord_of_one a #[.int _,H,I.tok _,#[_,G],q]
end
structure jH(h:Q7)(x dx C:P2)(mA:QQ->Option P7):Prop where
 obj:h.get? x=U (Tf C dx)
 ns:h.Ns1 dx mA
 ne:dx≠x
def JN{h:Q7}{mA:QQ->Option P7}(n:h.Ns1 dx mA):∃b,h.get? dx=U b/\∀name,V7 name b=U (mA name):=by
 have#[o,es,ep,b,c,d,_,f]:=n;refine#[o,b,λname=>?_];have e:=f name;unfold Ww findBy at e;rw[<-Array.find?_toList]at e;unfold V7;rw[c];dsimp only;split;.rename_i y q;rw[q]at e;exact congrArg U e
 .rename_i q;rw[q]at e;have a:es.toList.any (·.refKey)=false:=by rw[ZY];intro y b;have#[z,t,c]:=d y<|Ua.mp b;simp[DictEntry.refKey,c]
  have b:¬es.toList.any (·.refKey)=true:=by rw[a];exact Qu
  rw[aaC b];exact congrArg U e
def jH.look{mA:QQ->Option P7}(I:jH h x dx C mA):∃a,PySem.W.InstAt h x (Tf C dx) C (U a)/\∀name,V7 name a=U (mA name):=
 let⟨a,b,hl⟩:=JN I.ns
 #[a,#[I.obj,G,G,b],hl]
section
variable{prog:Rb}{w:RO}{A:Rq}{E:P7->P9->Prop}{s:P9}{K:PY}{x dx C f:P2}{mA:QQ->Option P7}{name:QQ}{v:P7}
def get_map{a:Bool}{Q:P7->P9->Prop}(X:K.In s.heap)(I:jH s.heap x dx C mA)(b:VJ K C name=true)(c:WN K C=true)(d:SA K (.ref C) name=U O)(e:mA name=U v)(f:Ze v=true)(h:Q v {s with toks:=s.toks+1}):
    Qn (Qt prog w) A (ZP (.ref x) name a) Q E s:=by have#[g,J,a]:=I.look;exact PySem.W.get_value X J (Wm b).1 (PySem.W.findObj_own c d G<|by rw[a,e]) f h
def Iu{Q:P7×List P7->P9->Prop}(X:K.In s.heap)(I:jH s.heap x dx C mA)(a:VJ K C name=true)(b:SA K (.ref C) name=U (U<|.ref f))(c:Yc K (.ref f)=true)(d:mA name=O)(h:Q (.ref f,[.ref x]) s):
    Qn (Qt prog w) A (getMethod (.ref x) name pl) Q E s:=by have#[e,J,g]:=I.look;exact PySem.W.method_fn X J (Wm a).1 (Wm a).2 b (beq_iff_eq.mp c) (by show(V7 name e).map (·.isSome)=U false;rw[g,d];rfl) h
def N6{ns:List QQ}{Q:Unit->P9->Prop}(X:K.In s.heap)(I:jH s.heap x dx C mA)(hs:SA K (.ref C) 'w'=U (U<|.builtin "object.__setattr__"))(hp:Y4 K C=true)(a:Xp K C name=U O)(c:WN K C=true)(d:Yz mA ns)(hsz:ns.length<=Qq)(h:∀h',jH h' x dx C (λy=>if y=name then U v else mA y)->Vo dx s.heap h'->Q () {s with heap:=h',toks:=s.toks+2}):
    Qn (Qt prog w) A (setAttr (.ref x) name v) Q E s:=by have#[e,J,f]:=I.look;refine PySem.W.set_plain X J hs<|PySem.W.osa_open (s:={s with toks:=s.toks+1}) (r:=O) X J hp a λb=>?_;have#[f,a,e]:=PySem.W.any_some c;have c:s.heap.get? x=U #[.ref C,U dx,.plain,#[]]:=I.obj;refine Qb<|Qo<|Qb<|Qb<|wpAny_loadPart c<|Qb<|PySem.W.Looks.here (s:={s with toks:=s.toks+1}) (PySem.W.looks_clsIn X a) ?_;rw[e];refine Qo (a:=U dx)<|Qb<|Qo<|Qb ?_;refine wpAny_nsSet1 (s:={s with toks:=s.toks+1}) I.ns λh' a c=>?_;have#[i,j,k,e,f,g]:=a.count<|Zd name v d;refine Qb<|wpAny_lookBehind e (by rw[f];exact pastItsLine_dict<|QW g<|by rw[P0];lia) ?_;exact Qo<|h _ #[(c.2 _<|Q4 I.ne).trans I.obj,a,I.ne] c
def JT{R:Ye->P9->Prop}(X:K.In s.heap)(a:Zy K C=true)(hi:SA K (.ref C) ':'=U (U<|.ref f))(b:PySem.W.typeIn K (.ref f)=U (.type "function"))(h:Vm (Qt prog w) (A.under<|.builtin 'J' #[.ref C::vs,kw]) (.call (.ref f) #[.ref (s.heap.objs.size+1)::vs,kw]) (PySem.W.InitBack (s.heap.objs.size+1) R)
      {s with heap:=(s.heap.push Sm).push (Tf C s.heap.objs.size)}):
    Vm (Qt prog w) A (.call (.ref C) #[vs,kw]) R s:=by have#[c,g,d,t,e]:=s;exact PySem.W.make_core (PySem.W.makes_of X a) (PySem.W.looks_findIn X hi) (λa=>PySem.W.bind_fn X a b) (.inl G) h
end
noncomputable def bb(f:QQ)(v:V):List (QQ×V)->List (QQ×V)|[]=>[(f,v)]|(g,x)::r=>if g=f then(g,v)::r else(g,x)::bb f v r
theorem yc(f g:QQ)(v:V):∀fs:List<|QQ×V,(bb f v fs).lookup g=if g=f then U v else fs.lookup g
 |[]=>by
  show TU g [(f,v)]=_;by_cases h:g=f;.have a:(g==f)=true:=beq_iff_eq.mpr h;erw[TU,a,aaD h]
  .have a:(g==f)=false:=beq_eq_false_iff_ne.mpr h;erw[TU,a,aaC h]
 |(k,x)::r=>by
  have c:=yc f g v r;rw[show bb f v ((k,x)::r)=(if k=f then(k,v)::r else(k,x)::bb f v r)from G];by_cases b:k=f
  .rw[aaD b];by_cases h:g=k;.have a:(g==k)=true:=beq_iff_eq.mpr h;erw[TU,a,aaD<|h.trans b]
   .have a:(g==k)=false:=beq_eq_false_iff_ne.mpr h;erw[TU,a,aaC λe:g=f=>h<|e.trans b.symm]
  .rw[aaC b];by_cases h:g=k;.have a:(g==k)=true:=beq_iff_eq.mpr h;erw[TU,a,aaC λe:g=f=>b<|h.symm.trans e]
   .have a:(g==k)=false:=beq_eq_false_iff_ne.mpr h;erw[TU,a];exact c
theorem sr(f:QQ)(v:V):∀fs:List<|QQ×V,f∈(bb f v fs).map (·.1)/\∀g,g∈fs.map (·.1)->g∈(bb f v fs).map (·.1)
 |[]=>#[by simp[bb],λg h=>by simp at h]|(k,x)::r=>by
  have#[i1,b]:=sr f v r;rw[show bb f v ((k,x)::r)=(if k=f then(k,v)::r else(k,x)::bb f v r)from G];by_cases a:k=f;.rw[aaD a];subst a;exact#[by simp,λg h=>by simpa using h]
  .rw[aaC a];refine#[?_,λg h=>?_];.rw[Ql];exact Qk _ i1
   .rw[Ql]at h⊢;rcases Qp.mp h with e|e;.exact Qp.mpr<|.inl e
    .exact Qk _<|b g e
theorem xT(f:QQ)(v:V):∀fs:List<|QQ×V,(bb f v fs).length<=fs.length+1
 |[]=>by simp[bb]|(k,x)::r=>by
  have a:=xT f v r;rw[show bb f v ((k,x)::r)=(if k=f then(k,v)::r else(k,x)::bb f v r)from G];by_cases a:k=f;.rw[aaD a,P0,P0];lia
  .rw[aaC a,P0,P0];lia
def dA.some_of(r:dA (U v) o):∃u,o=U u/\RelV v u:=by induction o with|none=>exact(show False from r).elim|some u=>exact#[u,G,r]
def dA.none_of(r:dA O o):o=O:=by induction o with|none=>rfl|some u=>exact(show False from r).elim
def IB(r:RelV v u):Ze u=true:=by induction v with|ao=>cases(show u=UX from r);rfl|bl b=>cases(show u=Zf b from r);rfl|int i=>have#[t,e]:=(show∃t,u=VX i t from r);cases e;rfl|str x=>have#[t,e]:=(show∃t,u=Yo x t from r);cases e;rfl|eL b=>have#[t,e]:=(show∃t,u=Value.bytes b t from r);cases e;rfl|jP b=>have#[t,e]:=(show∃t,u=Value.float b t from r);cases e;rfl|ref a=>cases(show u=QY a from r);rfl|ty n=>cases(show u=XS n from r);rfl
section
variable{P:Rb}{w:RO}{H H':Hp}{h h':Q7}{a C dx:P2}{fs fs':List (QQ×V)}
def rX(ay:bt P w H h)(e:H a=U (.ins C dx fs)):∃mA,jH h a dx C mA/\(∀f,dA (fs.lookup f)<|mA f)/\Yz mA (fs.map (·.1))/\fs.length<=1000/\H dx=U (.own a):=by have#[d,z,ne,b,mA,n,r,q]:=(show bV P w H h a (.ins C dx fs)from ay a _ e);exact#[mA,#[b,n,ne],r,q,z,d]
end
structure ed(K:PY)(C:P2):Prop where
 pg:VJ K C Str.empty=true
 hd:WN K C=true
 po:Y4 K C=true
 sa:SA K (.ref C) 'w'=U (U (.builtin "object.__setattr__"))
def ed.get{K:PY}{C:P2}(c:ed K C)(f:QQ):VJ K C f=true:=c.pg
def fJ(K:PY)(C:P2)(f:QQ):Prop:=SA K (.ref C) f=U O
def fJ.OB{K:PY}{C:P2}{f:QQ}(n:fJ K C f):Xp K C f=U O:=by unfold Xp;rw[show SA K (.ref C) f=U O from n];rfl
structure Meth(K:PY)(C:P2)(m:QQ)(f:P2):Prop where
 at_:SA K (.ref C) m=U (U (.ref f))
 fn:Yc K (.ref f)=true
 kp:R4 K (.ref f)=true
section
variable{X:Cx}{aa:List (P2×S1)}{σ:St}{H:Hp}{s:P9}{a C dx:P2}{fs:List (QQ×V)}{f:QQ}{v:V}{A:Rq}{E:P7->P9->Prop}
def wR{b:Bool}{Q:P7->P9->Prop}(I:Inv X aa σ H s)(e:H a=U (.ins C dx fs))(c:ed X.K C)(n:fJ X.K C f)(l:fs.lookup f=U v)(h:∀u s',Inv X aa σ H s'->RelV v u->Q u s'):Qn (Qt X.prog X.w) A (ZP (.ref a) f b) Q E s:=by have#[mA,g,r,_,_,_]:=rX I.ay e;have#[u,i,d]:=dA.some_of (v:=v) (o:=mA f) (by rw[<-l];exact r f);exact get_map I.bJ g (c.get f) c.hd n i (IB d)<|h u _ (I.tok _) d
def Iv{Q:P7×List P7->P9->Prop}(I:Inv X aa σ H s)(e:H a=U (.ins C dx fs))(c:ed X.K C)(k:Meth X.K C m g)(l:fs.lookup m=O)(h:Q (.ref g,[.ref a]) s):Qn (Qt X.prog X.w) A (getMethod (.ref a) m pl) Q E s:=by have#[mA,b,r,_,_,_]:=rX I.ay e;have d:mA m=O:=dA.none_of (by rw[<-l];exact r m);exact Iu I.bJ b (c.get m) k.at_ k.fn d h
def BQ{Q:Unit->P9->Prop}(I:Inv X aa σ H s)(e:H a=U (.ins C dx fs))(c:ed X.K C)(n:fJ X.K C f)(hl:fs.length<1000)(k:RelV y u)(h:∀s',Inv X aa σ (upd H a<|.ins C dx<|bb f y fs) s'->Q () s'):Qn (Qt X.prog X.w) A (setAttr (.ref a) f u) Q E s:=by
 have#[mA,d,r,i,_,j]:=rX I.ay e;have l:(fs.map (·.1)).length<=Qq:=by rw[Qe,aaj];lia
 refine N6 I.bJ d c.sa c.po n.OB c.hd i l λh' d l=>h _ ?_;have m:∃o,h'.get? dx=U o:=let⟨o,_,_,p,_⟩:=d.ns;#[o,p];refine I.write (x:=a) (e:=dx) (by rw[e];exact X0) (.inr j) (λb q p z=>(l.2 b p).trans z) m ?_;refine#[by rw[aq d.ne];exact j,?_,d.ne,d.obj,_,d.ns,λg=>?_,λg d=>?_];.have:=xT f y fs;lia
 .show dA ((bb f y fs).lookup g) (if g=f then U u else mA g);rw[yc];by_cases q:g=f;.rw[aaD q,aaD q];exact k
  .rw[aaC q,aaC q];exact r g
 .by_cases q:g=f;.rw[q];exact(sr f y fs).1
  .refine(sr f y fs).2 g (i g λz=>d ?_);show(if g=f then U u else mA g)=O;rw[aaC q];exact z
def Inv.made(I:Inv X aa σ H s):Inv X aa σ (upd (upd H s.heap.objs.size<|.own<|s.heap.objs.size+1) (s.heap.objs.size+1)<|.ins C s.heap.objs.size [])
    {s with heap:=(s.heap.push Sm).push (Tf C s.heap.objs.size)}:=by
 have a:(s.heap.push Sm).get? s.heap.objs.size=U Sm:=Q7.get?_push_size s.heap rfl;have c:((s.heap.push Sm).push<|Tf C s.heap.objs.size).get? (s.heap.objs.size+1)=U (Tf C s.heap.objs.size):=by have:=Q7.get?_push_size (s.heap.push Sm) (o:=Tf C s.heap.objs.size) rfl;rwa[RU]at this
 have d:(s.heap.push Sm).Ns s.heap.objs.size λ_=>O:=#[Sm,#[],_,a,G,(λe f=>absurd f<|by simp),λ_=>rfl];have f:=I.laid (a:=s.heap.objs.size) (o:=.own<|s.heap.objs.size+1) (h':=s.heap.push Sm) (t':=s.toks) (λb u q=>Q7.get?_push_of_some _ q) (Qg _) #[_,a];refine f.laid (a:=s.heap.objs.size+1) (o:=.ins C s.heap.objs.size []) (t':=s.toks) (λb u q=>Q7.get?_push_of_some _ q) (Uh<|RU _ _) ?_;have ne:s.heap.objs.size≠s.heap.objs.size+1:=QC<|S8 _;refine#[by rw[aq ne,ah],Q9 _,ne,c,λ_=>O,(YR d).at λo q=>Q7.get?_push_of_some _ q,λ_=>X0,λy a=>absurd G a]
def vw{Q:P7->P9->Prop}(a:Vn e f env (Sj e env)=Sj e env)(h:Qn (Qt prog w) A (Sj e env) (λo b=>Qn (Qt prog w) A (ZP o f true) Q E b) E s):Qn (Qt prog w) A (Sj (.Attribute e f pos) env) Q E s:=
 Attribute_any_ h (by rw[arm_eval_Attribute,a])
end
def DC(X:Cx)(op:aam)(a:V->V->Hp->VK->Prop):Prop:=
 ∀(aa:List<|P2×S1)(s:P9)(σ:St)(H:Hp)(x y:V)(u v:P7)(Q:VK),Inv X aa σ H s->RelV x u->RelV y v->a x y H Q->Qn (Qt X.prog X.w) X.A (inplaceOp op u v) (EP X aa σ Q) X.xe s
section
variable{X:Cx}{o e value:P8}{f:QQ}{pos pos' tpos:SK}{ta tv:TE}
def pA:V->V->Hp->VK->Prop:=λx y H Q=>∃i j,x=.int i/\y=.int j/\Q (.int<|i+j) H
def IM:DC X .Add pA:=by rintro aa s σ H x y u v Q I a b⟨i,j,rfl,rfl,q⟩;have#[t,rfl]:=(show∃t,u=VX i t from a);have#[a,rfl]:=(show∃a,v=VX j a from b);exact Z8 #[.int<|i+j,H,I.tok _,#[_,G],q]
end
section
variable{X:Cx}{aa:List (P2×S1)}{σ:St}{H:Hp}{s:P9}{A:Rq}{E:P7->P9->Prop}{Q:P7->P9->Prop}{c:P7}{b:Bool}
end
structure cB(k:Nat)(A:Rq):Prop where
 hd:A.handled=O
 dp:A.depth+3*k+5<recursionLimit
 un:A.units+16*k+200<Uq
def cB.deeper{k:Nat}{A:Rq}(r:cB (k+1) A)(env:WI):cB k<|A.deeper env:=
 #[r.hd,by have:=r.dp;show A.depth+1+3*k+5<_;lia,by have:=r.un;show A.units+3+16*k+200<_;lia]
def JS{A:Rq}:(A.under<|.builtin 'J' #[.ref C::us,kw]).depth=A.depth+1:=by first|rfl|simp[Yt,Code.weight,Code.isCreation,Code.isGuard,Code.isCaller,Code.frames,YF,guardIds]
def JU{A:Rq}:(A.under<|.builtin 'J' #[.ref C::us,kw]).units=A.units+1:=by first|rfl|simp[Yt,Code.cUnits,Code.frames,YF]
def cB.make{k:Nat}{A:Rq}(r:cB (k+1) A)(C:P2)(us:List P7)(a:List<|QQ×P7):cB k<|A.under<|.builtin 'J' #[.ref C::us,a]:=
 #[r.hd,by have:=r.dp;rw[JS];lia,by have:=r.un;rw[JU];lia]
def cB.depth{k:Nat}{A:Rq}(r:cB k A):A.depth<recursionLimit:=by have:=r.dp;lia
def cB.units{k:Nat}{A:Rq}(r:cB k A):A.units+64<Uq:=by have:=r.un;lia
def eZ:TA:=λ_ H Q=>Q [] H
def dG(ta:TE)(tr:TA):TA:=λσ H Q=>ta σ H λx H1=>tr σ H1 λxs H2=>Q (x::xs) H2
section
variable{X:Cx}{e:P8}{es:List P8}{te:TE}{t:TA}{pos:SK}
def gX:PA X [] eZ:=λ_ _ _ _ H Q I h=>Tq #[[],H,I,.nil,h]
def fA(a:PE X e te)(hr:PA X es t)(hs:QJ (e::es) X.env=(false,Sj e X.env)::QJ es X.env:=by rfl):PA X (e::es)<|dG te t:=by intro pos aa s σ H Q I h;rw[hs];show Qn _ _ (spliced ((false,Sj e X.env)::TM pos (QJ es X.env))) _ _ s;refine S7<|az (a aa s σ H _ I h) λu a b=>e5 b λx H1 b c d=>?_;exact az (hr pos aa a σ H1 _ b d) λb d a=>e5 a λxs H2 a b d=>#[x::xs,H2,a,.cons c b,d]
def Cr(t:TA):TE:=λσ H Q=>t σ H λxs H1=>xs.length<=Qq/\∀p,H1 p=O->Q (.ref p) (upd H1 p<|.tup xs)
def Cb(t:TA):TE:=λσ H Q=>t σ H λxs H1=>xs.length<=Qq/\∀p,H1 p=O->Q (.ref p) (upd H1 p<|.lst xs)
def Mf{a}(h:PA X es t):PE X (.Tuple es a pos)<|Cr t:=by intro aa s σ H Q I a;refine wpAny_Tuple_spliced<|az (h pos aa s σ H _ I a) λd a c=>e6 c λxs H1 c r z q=>#[by rw[<-r.length];exact z,?_];have f:H1 a.heap.objs.size=O:=c.ay.fresh<|Qg _;refine#[.ref a.heap.objs.size,upd H1 a.heap.objs.size<|.tup xs,c.laid (t':=a.toks) (λb u e=>Q7.get?_push_of_some _ e) (Qg _) ?_,G,q _ f];exact#[z,d,r,#[_,Q7.get?_push_size _ G,G,_,G]]
def sZ(h:PA X es t):PE X (.List es pos)<|Cb t:=by intro aa s σ H Q I a;refine wpAny_List_spliced<|az (h pos aa s σ H _ I a) λd a c=>e6 c λxs H1 c r z q=>#[by rw[<-r.length];exact z,?_];have f:H1 a.heap.objs.size=O:=c.ay.fresh<|Qg _;refine#[.ref a.heap.objs.size,upd H1 a.heap.objs.size<|.lst xs,c.laid (t':=a.toks) (λb u e=>Q7.get?_push_of_some _ e) (Qg _) ?_,G,q _ f];exact#[z,d,0,r,Q7.get?_push_size _ G]
end
abbrev Sp:=List V->Hp->VK->XK->Prop
abbrev gu:=List WI->Hp->P9->XK->P7->P9->Prop
structure jF(P:Rb)(w:RO)(K:PY)(mg:QQ->Option P7)(base:Q7)(A:Rq)(outer:List WI)(s:P9)(H:Hp):Prop where
 frames:A.frames=U outer
 mod:Mod K mg base
 bs:∀b o,base.get? b=U o->s.heap.get? b=U o/\H b=O
 fQ:base.objs.size<=s.heap.objs.size
 ez:s.heap.FunFrames base outer
 jc:∀b∈bh outer,H b=O
 ay:bt P w H s.heap
 bare:WB s.gens
def CE(outer:List WI)(P:Rb)(w:RO)(H:Hp)(s:P9)(Q:VK)(u:P7)(s':P9):Prop:=
 ∃v H',s'.os=s.os/\WB s'.gens/\Un (bh outer) [] H H' s.heap s'.heap/\bt P w H' s'.heap/\RelV v u/\Q v H'
def CR(CX:gu)(outer:List WI)(P:Rb)(w:RO)(H:Hp)(s:P9)(Q:VK)(E:XK)(r:Ye)(s':P9):Prop:=
 match r with|.ok (.ret u)=>CE outer P w H s Q u s'|.ok _=>False|.error e=>CX outer H s E e s'
structure ia(P:Rb)(w:RO)(K:PY)(mg:QQ->Option P7)(base:Q7)(CX:gu)(k:Nat)(f:P2)(fd:TY)(ps:List QQ)(sp:Sp):Prop where
 len:∀vs H Q E,sp vs H Q E->vs.length=ps.length
 run:∀(A:Rq)(outer:List WI)(s:P9)(H:Hp)(args:Args)(us:List P7)(vs:List V)(Q:VK)(E:XK),cB k A->jF P w K mg base A outer s H->BindsTo s fd args (ps.zip us)->Vals vs us->sp vs H Q E->
  Vm (Qt P w) A (.call (.ref f) args) (CR CX outer P w H s Q E) s
def jF.make{P:Rb}{w:RO}{K:PY}{mg:QQ->Option P7}{base:Q7}{A:Rq}{a:List WI}{s:P9}{H:Hp}(e:jF P w K mg base A a s H)(C:P2)(us:List P7)(b:List<|QQ×P7):
    jF P w K mg base (A.under<|.builtin 'J' #[.ref C::us,b]) a s H:=#[by first|exact e.frames|(simpa[Yt,Code.envs,YF,pushEnvs]using e.frames),e.mod,e.bs,e.fQ,e.ez,e.jc,e.ay,e.bare]
section
variable{X:Cx}{aa:List (P2×S1)}{σ:St}{H:Hp}{s s':P9}
def Inv.rH(I:Inv X aa σ H s):jF X.prog X.w X.K X.mg X.base X.A X.stack s H:=
 #[I.ok.frames,I.ok.mod,I.bs,QW I.ok.fQ I.sz,I.stack,I.pT,I.ay,I.bare]
def Inv.after(I:Inv X aa σ H s)(h:CE X.stack X.prog X.w H s Q u s'):EP X aa σ Q u s':=by have#[v,H',a,c,e,f,r,q]:=h;have#[i,g,d,t,j]:=s';obtain rfl:j=s.os:=a;exact#[v,H',I.call (h':=i) (g':=g) (d':=d) (t':=t) (ch:=[]) e f c λb z=>absurd z<|by simp,r,q]
end
def Binds(K:PY)(fd:TY)(ps:List QQ)(ds:List P7):Prop:=
 ∀(s:P9)(a:List P7),K.In s.heap->(a++ds).length=ps.length->BindsTo s fd #[a,[]] (ps.zip<|a++ds)
def Binds.all{K:PY}{fd:TY}{ps:List QQ}(h:∀us:List P7,us.length=ps.length->bindArgs fd #[us,[]]=pure (ps.zip us)):Binds K fd ps []:=λs us _ a=>by
 rw[Rr]at a⊢
 exact .of_eq<|h us a
def Passes(CX:gu)(X:Cx)(E:XK):Prop:=∀(aa:List<|P2×S1)(σ:St)(H:Hp)(s:P9)(e:P7)(s':P9),Inv X aa σ H s->CX X.stack H s E e s'->X.xe e s'
section
variable{X:Cx}{CX:gu}{k:Nat}{f C:P2}{fd:TY}{ps:List QQ}{sp:Sp}{dvs:List V}{ds:List P7}{E:XK}{x m:QQ}{p pos apos:SK}{e o:P8}{es:List P8}{ta:TE}{t:TA}
def BF(F:ia X.prog X.w X.K X.mg X.base CX k f fd ps sp)(hr:cB k X.A)(b:Binds X.K fd ps ds)(hd:Vals dvs ds)(c:Passes CX X E)(I:Inv X aa σ H s)(r:Vals vs us)(h:sp (vs++dvs) H Q E):Qn (Qt X.prog X.w) X.A (call (.ref f) us) (EP X aa σ Q) X.xe s:=by
 have a:Vals (vs++dvs)<|us++ds:=r.append hd;have d:(us++ds).length=ps.length:=by rw[<-a.length];exact F.len _ _ _ _ h
 refine YN<|VI (F.run X.A X.stack s H #[us,[]] (us++ds) (vs++dvs) Q E hr I.rH (b s us I.bJ d) a h) λr s' a=>?_;induction r with|error e=>exact c aa σ H s e s' I a|ok b=>induction b with|ret u=>exact I.after a|next=>exact Rx a|brk=>exact Rx a|cont=>exact Rx a
structure Mk(K:PY)(C f:P2):Prop where
 makes:Zy K C=true
 init:SA K (.ref C) ':'=U (U (.ref f))
 fn:Yc K (.ref f)=true
 kp:R4 K (.ref C)=true
def NF(M:Mk X.K C f)(F:ia X.prog X.w X.K X.mg X.base CX k f fd ps sp)(hr:cB (k+1) X.A)(d:Binds X.K fd ps ds)(hd:Vals dvs ds)(g:Passes CX X E)(I:Inv X aa σ H s)(r:Vals vs us)(h:∀x dx,H x=O->H dx=O->dx≠x->sp (.ref x::(vs++dvs)) (upd (upd H dx<|.own x) x<|.ins C dx []) (λv H2=>v=.ao/\Q (.ref x) H2) E):
    Qn (Qt X.prog X.w) X.A (call (.ref C) us) (EP X aa σ Q) X.xe s:=by
 have a:=h (s.heap.objs.size+1) s.heap.objs.size (I.ay.fresh<|Zj _) (I.ay.fresh<|Qg _)<|QC<|S8 _;have b:=Inv.made (C:=C) I;have c:Vals (V.ref (s.heap.objs.size+1)::(vs++dvs)) (QY (s.heap.objs.size+1)::(us++ds)):=.cons rfl<|r.append hd;have i:(QY (s.heap.objs.size+1)::us++ds).length=ps.length:=by have e:=c.length;rw[F.len _ _ _ _ a]at e;exact e.symm
 refine YN (JT (f:=f) I.bJ M.makes M.init (beq_iff_eq.mp M.fn) (VI (F.run _ X.stack _ _ #[QY (s.heap.objs.size+1)::us,[]] (QY (s.heap.objs.size+1)::(us++ds)) _ _ E (hr.make C us [])
  (b.rH.make C us []) (d _ (QY (s.heap.objs.size+1)::us) b.bJ i) c a) λr s' a=>?_))
 induction r with|error e=>exact g aa σ _ _ e s' b a|ok c=>induction c with|ret u=>have#[v,H',c,d,g,i]:=b.after a;subst g;exact#[d,#[V.ref<|s.heap.objs.size+1,H',c,G,i]]|next=>exact Rx a|brk=>exact Rx a|cont=>exact Rx a
end
section
variable{X:Cx}{CX:gu}{k:Nat}{f C:P2}{fd:TY}{ps ks:List QQ}{sp:Sp}{E:XK}{x m:QQ}{p pos apos kpos:SK}{e o:P8}{es:List P8}{kws:List XT}{te ta:TE}{t tk:TA}{nm:Option QQ}
variable{g:List P7->List P7->List P7}{gV:List V->List V->List V}
end
structure lU(N P:List QQ)(sc:Ry):Prop where
 kind:sc.kind=.function
 co:sc.isCoroutine=false
 gen:sc.isGenerator=false
 nd:N.Nodup
 pre:N.take P.length=P
 par:∀x∈P,sc.names.lookup x=U .local\/sc.names.lookup x=U .cell
 Ko:∀y∈sc.names,y.2≠.free
theorem vE{b:QQ->Option TJ}:∀{a:List (QQ×P7)}{m:QQ->Option P7},(∀v,(x,v)∉a)->Zw b a m x=m x
 |[],_,_=>rfl|(n,v)::r,m,h=>by
  unfold Zw;rw[vE λw a=>h w<|Qk _ a];split
  .have:x≠n:=by rintro rfl;exact h v QE
   simp[this]
  .rfl
theorem vC{b:QQ->Option TJ}:∀{a:List (QQ×P7)}{m:QQ->Option P7},(∀v,(x,v)∉a)->Zx b a m x=m x
 |[],_,_=>rfl|(n,v)::r,m,h=>by
  unfold Zx;rw[vC λw a=>h w<|Qk _ a];split;.rfl
  .have:x≠n:=by rintro rfl;exact h v QE
   simp[this]
theorem vD{a:QQ->Option TJ}:∀{P:List QQ}{vs:List P7}{i:Nat}{m:QQ->Option P7},P.Nodup->P[i]?=U x->vs[i]?=U v->a x=U .local->
  Zw a (P.zip vs) m x=U v|[],_,_,_,_,h,_,_=>by simp at h|_::_,[],_,_,_,_,h,_=>by simp at h|p::P,w::vs,0,m,b,h1,h2,c=>by simp at h1 h2;subst h1;subst h2;show Zw a ((p,w)::P.zip vs) m p=_;unfold Zw;rw[vE λv d=>(RI.mp b).1 (XO d).1,aaD c];simp|p::P,w::vs,i+1,m,b,h1,h2,c=>by show Zw a ((p,w)::P.zip vs) m x=_;unfold Zw;exact vD (i:=i) (RI.mp b).2 (by simpa using h1) (by simpa using h2) c
theorem vB{a:QQ->Option TJ}:∀{P:List QQ}{vs:List P7}{i:Nat}{m:QQ->Option P7},P.Nodup->P[i]?=U x->vs[i]?=U v->a x≠U .local->
  Zx a (P.zip vs) m x=U v|[],_,_,_,_,h,_,_=>by simp at h|_::_,[],_,_,_,_,h,_=>by simp at h|p::P,w::vs,0,m,b,h1,h2,c=>by simp at h1 h2;subst h1;subst h2;show Zx a ((p,w)::P.zip vs) m p=_;unfold Zx;rw[vC λv d=>(RI.mp b).1 (XO d).1,aaC c];simp|p::P,w::vs,i+1,m,b,h1,h2,c=>by show Zx a ((p,w)::P.zip vs) m x=_;unfold Zx;exact vB (i:=i) (RI.mp b).2 (by simpa using h1) (by simpa using h2) c
noncomputable def start(N:List QQ)(vs:List V):St:=vs.map U++QA (N.length-vs.length) O
noncomputable def dJ(CX:gu)(P:Rb)(w:RO)(K:PY)(mg:QQ->Option P7)(base:Q7)(N:List QQ)(a:QQ)(scope:Ry)(f:P2)(b:P7)(A:Rq)(outer:List WI)(s:P9)(H:Hp)(E:XK):Cx where
 prog:=P
 w:=w
 K:=K
 mg:=mg
 base:=base
 A:=A.deeper<|XE a scope s.heap.objs.size f b
 N:=N
 aX:=s
 fh:=H
 env:=XE a scope s.heap.objs.size f b
 outer:=outer
 stack:=XE a scope s.heap.objs.size f b::outer
 ex:=[]
 calm:=true
 fn:=λ_=>true
 pn:=[]
 xe:=λe s'=>Qn (Qt P w) (A.deeper<|XE a scope s.heap.objs.size f b) (ZO (XE a scope s.heap.objs.size f b) e) (λ_ a=>CX outer H s E e a) (λb a=>CX outer H s E b a) s'
def vN{a:Ry}{n:Nat}(h:a.names.lookup x=U .cell):∃c,(Sz n a.names []).lookup x=U c:=by have q:=Yd a.names n []<|.inl h;exact QV.mp q
def Ja{CX:gu}{P:Rb}{w:RO}{K:PY}{mg:QQ->Option P7}{base:Q7}{N ps:List QQ}{g:QQ}{scope:Ry}{f:P2}{j:P7}{A:Rq}{l:List WI}{s m:P9}{H:Hp}{E:XK}{us:List P7}{vs:List V}(S:lU N ps scope)(hd:A.handled=O)(d:jF P w K mg base A l s H)(hl:vs.length=ps.length)(r:Vals vs us)(x:InCallC s s.heap.objs.size (Zw (XE g scope s.heap.objs.size f j).kindOf (ps.zip us) λ_=>O) (Sz (s.heap.objs.size+1) scope.names []) (Zx (XE g scope s.heap.objs.size f j).kindOf (ps.zip us) λ_=>O) m):
    Inv (dJ CX P w K mg base N g scope f j A l s H E) [] (start N vs) H m:=by
 have m:ps.length<=N.length:=by have:=congrArg SG S.pre;rw[RC]at this;lia
 have#[h1,tk,rfl,n]:=x.done;have m:∀b:P2,b∉(dJ CX P w K mg base N g scope f j A l s H E).ex:=λb z=>absurd (show b∈([]:List P2)from z) (by simp);refine#[#[d.mod,S.kind,G,G,Qg _,λy z c h1 h2=>?_,λy g=>?_,λy c _ h=>?_,λ_=>hd,Around.frames_deeper d.frames,.inr #[G,G],λb z=>absurd z<|m b,d.bs,d.fQ,λb _ _=>m b,λb z=>absurd z<|m b,d.ez,d.jc],
  rfl,d.bare,Un.kept n,#[_,x.toInCall.ns,λi y v h1 h2 j=>?_],λy c h=>#[_,x.cell y c h],d.ay.fresh<|Qg _,λy c h=>?_,λp j=>absurd (show p∈([]:List<|P2×S1)from j)<|by simp,d.ay.kept n,?_]
 .exact name_of_addr x.apart (Rg h1)<|Rg h2
 .have g:scope.names.lookup y=U .cell\/scope.names.lookup y=U .free:=g;rcases g with g|g;.exact vN g
  .exact absurd rfl<|S.Ko _<|Rg g
 .exact Xs<|x.above y c<|Rg h
 .have hi:i<vs.length:=by
   unfold start at h2;by_cases hi:i<vs.length;.exact hi
   .rw[List.getElem?_append_right<|by simpa using hi]at h2;rw[List.getElem?_replicate]at h2;split at h2<;>cases h2
  have l:vs[i]?=U v:=by unfold start at h2;rw[List.getElem?_append_left<|by simpa using hi,List.getElem?_map]at h2;cases e:vs[i]? with|none=>rw[e]at h2;cases h2|some a=>rw[e]at h2;cases h2;rfl
  have#[u,g,m]:=r.get l;have j:ps[i]?=U y:=by rw[<-S.pre,List.getElem?_take_of_lt ∅];exact h1
  have l:ps.Nodup:=by rw[<-S.pre];exact S.nd.sublist<|List.take_sublist _ _
  refine#[u,m,?_];rcases S.par y (List.mem_of_getElem? j)with k|k;.exact .inl #[k,vD l j g k]
  .have#[c,e]:=vN (n:=s.heap.objs.size+1) k;refine .inr #[.inl k,c,e,?_];have q:=x.cell y c e;rw[vB l j g<|by show scope.names.lookup y≠_;rw[k];decide]at q;exact q
 .exact d.ay.fresh<|Xs<|x.above y c<|Rg h
 .unfold start;show _=N.length;rw[P5,Qe,UY];lia
def Ij{CX:gu}{P:Rb}{w:RO}{K:PY}{mg:QQ->Option P7}{base:Q7}{k:Nat}{f:P2}{name a:QQ}{h:Arguments}{g:List RY}{scope:Ry}{i j l m c n q:P7}{p z:Option P2}{B:Array (Option P7)}{N ps:List QQ}{sp:Sp}(lk:K.lookup f=U #[q,z,.func<|Vc name a h g scope i j l m p c n,B])(C:XC K c a=true)(S:lU N ps scope)(len:∀vs H Q E,sp vs H Q E->vs.length=ps.length)(D:∀(A:Rq)(d:List WI)(s:P9)(H:Hp)(vs:List V)(Q:VK)(E:XK),cB k (A.deeper<|XE a scope s.heap.objs.size f c)->sp vs H Q E->
      ∃t,fi (dJ CX P w K mg base N a scope f c A d s H E) g t/\t {lk:=λ_ H'=>Q .ao H',rt:=Q} (start N vs) H):
    ia P w K mg base CX (k+1) f (Vc name a h g scope i j l m p c n) ps sp:=by
 refine#[len,λA d s H j l vs Q E h g m r i=>?_];have p:=len _ _ _ _ i;have j:K.In s.heap:=g.mod.mE.keeps λb o e=>(g.bs b o e).1;have z:s.heap.NoLimit:=g.mod.nolimit.keeps λb o e=>(g.bs b o e).1;have B:∀y∈ps.zip l,scope.names.lookup y.1=U .local\/(scope.names.lookup y.1=U .cell/\((Sz (s.heap.objs.size+1) scope.names []).lookup y.1).isSome=true):=λ⟨n,v⟩l=>by
  rcases S.par n (XO l).1 with q|q;.exact .inl q
  .exact .inr ⟨q,Yd _ _ _<|.inl q⟩
 refine codeAny_call_function h.depth (j _ _ lk) rfl S.co S.gen rfl (PySem.W.codeRec_of j C)<|m _ _ _ _ ?_;refine wpAny_newFunctionEnv_cells S.kind B λenv n l x=>?_;subst n;refine#[z.keeps x.toInCall.keep,codeAny_func ?_];have#[t,j,m]:=D A d s H vs Q E (h.deeper _) i;have I:Inv (dJ CX P w K mg base N a scope f c A d s H E) [] (start N vs) H l:=Ja S h.hd g p r x;refine R9 (j [] l (start N vs) H _ I m) (λj s' g=>?_) λe s' g=>g;have i:∀{h:St}{H':Hp}{v:V}{u:P7},Inv (dJ CX P w K mg base N a scope f c A d s H E) [] h H' s'->RelV v u->Q v H'->CE d P w H s Q u s':=
  λ{h H' v u}J a q=>#[v,H',J.os,J.bare,J.base,J.ay,a,q]
 induction j with|ret u=>have#[v,h,H',J,a,q]:=g;exact i J a q|next=>have#[h,H',J,q]:=g;exact i (v:=V.ao) (u:=UX) J rfl q|brk=>have#[_,_,_,q]:=g;exact Rx q|cont=>have#[_,_,_,q]:=g;exact Rx q
section
variable{X:Cx}{x:QQ}{p pos:SK}{e:P8}{es:List P8}{t:TA}{id T:String}{r:List V->Hp->VK->Prop}
def B7(r:List V->Hp->VK->Prop)(t:TA):TE:=λσ H Q=>t σ H λa H1=>r a H1 Q
def LY(hc:bU X (.builtin id) r)(a:Gl X x)(b:X.mg x=O)(c:Uu x=U (.builtin id))(d:PA X (e::es) t)(f:x≠'P':=by decide)(g:(x==('5':QQ))=false:=by decide)(i:QJ (e::es) X.env=(false,Sj e X.env)::QJ es X.env:=by rfl)(j:(TM pos<|QJ es X.env).any (·.1)=false:=by rfl):PE X (.Call (.Name x p) (e::es) [] pos)<|B7 r t:=by intro aa s σ H Q I h;refine Tp<|jj I a b c ?_ f g;exact Ws (az (d pos aa s σ H _ I h) λa b c=>e5 c λc H1 d f g=>hc aa b σ H1 c a Q d f g) i j
def L1(hc:bU X (.type T) r)(a:Gl X x)(b:X.mg x=O)(c:Uu x=U (.type T))(d:PA X (e::es) t)(f:x≠'P':=by decide)(g:(x==('5':QQ))=false:=by decide)(i:QJ (e::es) X.env=(false,Sj e X.env)::QJ es X.env:=by rfl)(j:(TM pos<|QJ es X.env).any (·.1)=false:=by rfl):PE X (.Call (.Name x p) (e::es) [] pos)<|B7 r t:=by intro aa s σ H Q I h;refine Tp<|jj I a b c ?_ f g;exact R7 (az (d pos aa s σ H _ I h) λa b c=>e5 c λc H1 d f g=>hc aa b σ H1 c a Q d f g) i j
end
noncomputable def lexLt:List Int->List Int->Bool|[],[]=>false|[],_::_=>true|_::_,[]=>false|x::xs,y::ys=>if x=y then lexLt xs ys else decide (x<y)
def JI(x y:Int)(xs ys:List Int):lexLt (x::xs) (y::ys)=if x=y then lexLt xs ys else decide (x<y):=G
def HA(A:Rq)(s:P9)(a:Int)(t:Tok)(c:Int)(u:Tok):∃e,Zg A s (.int a t) (.int c u) e/\(e=true↔a=c):=
 #[(a==c),Yr a t c u,by simp]
section
open PySem.SeqAt
open PySem.MeetsSeq PySem.MeetsSeq2 PySem.MeetsSeq3
end
section
variable{prog:Rb}{w:RO}{A:Rq}{E:P7->P9->Prop}{s:P9}
noncomputable def cp(n d:Nat):Option Int->Nat|none=>d|some v=>if v<0 then(v+(n:Int)).toNat else min v.toNat n
def NG(n d:Nat):cp n d O=d:=G
def tL(n d k:Nat):cp n d (U (k:Int))=min k n:=by show(if(k:Int)<0 then((k:Int)+(n:Int)).toNat else min (k:Int).toNat n)=min k n;rw[aaC ∅,VU]
end
abbrev TO:=St->Hp->(Option Int->Hp->Prop)->Prop
def PO(X:Cx)(e:Option P8)(t:TO):Prop:=
 ∀(aa:List<|P2×S1)(s:P9)(σ:St)(H:Hp)(Q:Option Int->Hp->Prop),Inv X aa σ H s->t σ H Q->
  Qn (Qt X.prog X.w) X.A (evalPart e X.env) (λu s'=>∃o H',Inv X aa σ H' s'/\IsPart u o/\Q o H') X.xe s
def Cc:TO:=λ_ H Q=>Q O H
def Cj(t:TE):TO:=λσ H Q=>t σ H λx H1=>∃i,x=.int i/\Q (U i) H1
def intsAre_of{ns:List Int}:∀{us:List P7},Vals (ns.map V.int) us->Ux us ns:=by induction ns with|nil=>intro us r;rw[SE]at r;cases r;exact .nil|cons n ns a=>intro us r;rw[Ql]at r;cases r with|cons b c=>have#[t,e]:=b;subst e;exact .cons n t<|a c
section
variable{X:Cx}{e:P8}{te:TE}{lo hi:Option P8}{tll th:TO}{pos p2:SK}
def Ms:PO X O Cc:=by intro aa s σ H Q I h;rw[evalPart_none];exact Qo #[O,H,I,.none,h]
def Mt(h:PE X e te):PO X (U e)<|Cj te:=by intro aa s σ H Q I a;rw[evalPart_some];refine az (h aa s σ H _ I a) λu g b=>e5 b λx H1 c d f=>?_;have#[i,rfl,q]:=f;have#[t,rfl]:=d;exact#[U i,H1,c,.int i t,q]
def kF(X:Cx)(r:V->Option Int->Option Int->Hp->VK->Prop):Prop:=
 ∀(aa:List<|P2×S1)(s:P9)(σ:St)(H:Hp)(x:V)(v a b:P7)(lo hi:Option Int)(sl:P2)(Q:VK),Inv X aa σ H s->RelV x v->s.heap.IsSliceOf sl a b .none->IsPart a lo->IsPart b hi->r x lo hi H Q->
  ∃T id,Wv (.type T) "__getitem__"=pure (U<|.builtin id)/\s.TypeIs v T/\Qn (Qt X.prog X.w) X.A (getItem v<|.ref sl) (EP X aa σ Q) X.xe s
def Cp(r:V->Option Int->Option Int->Hp->VK->Prop)(te:TE)(tll th:TO):TE:=λσ H Q=>te σ H λx H1=>tll σ H1 λl H2=>th σ H2 λu a=>r x l u a Q
def Md{r:V->Option Int->Option Int->Hp->VK->Prop}(hr:kF X r)(a:PE X e te)(hl:PO X lo tll)(d:PO X hi th):PE X (.Subscript e (.Slice lo hi O p2) pos)<|Cp r te tll th:=by intro aa s σ H Q I h;refine Subscript_<|az (a aa s σ H _ I h) λv a c=>e5 c λx H1 c g f=>?_;refine wpAny_Slice<|az (hl aa a σ H1 _ c f) λc a f=>e5 f λl H2 f i j=>az (d aa a σ H2 _ f j) λd a f=>e5 f λu f j k m=>?_;rw[evalPart_none];refine Qo ?_;have n:Inv X aa σ f {a with heap:=a.heap.push {cls:=.type "slice",data:=.fields (Rc [c,d,.none])}}:=j.kept (t':=a.toks) λb j q=>Q7.get?_push_of_some _ q;have#[T,id,j,o,p]:=hr aa {a with heap:=a.heap.push {cls:=.type "slice",data:=.fields (Rc [c,d,.none])}} σ f x v c d l u a.heap.objs.size Q n g (Heap.IsSliceOf.new ..) i k m;show Qn (Qt X.prog X.w) X.A (subscriptTail e (.Slice lo hi O p2) v<|.ref a.heap.objs.size) (EP X aa σ Q) X.xe {a with heap:=a.heap.push {cls:=.type "slice",data:=.fields (Rc [c,d,.none])}};exact tail_any (ops:=[.ref a.heap.objs.size,v]) o j p (by with_unfolding_all rfl)
noncomputable def fS(xs:List V)(lo hi:Option Int):List V:=(xs.drop<|cp xs.length 0 lo).take<|cp xs.length xs.length hi-cp xs.length 0 lo
def Hm(xs:List V)(lo hi:Option Int):(fS xs lo hi).length<=xs.length:=by unfold fS;rw[RC,S4];lia
end
noncomputable def gN(n:Nat)(i:Int):Option Nat:=if 0<=i then(if i<n then U i.toNat else O)else if-(n:Int)<=i then U (i+n).toNat else O
noncomputable def fO{a:Type}(xs:List a)(i:Int):Option a:=(gN xs.length i).bind λj=>xs[j]?
def xp{n:Nat}{i:Int}{j:Nat}(h:gN n i=U j):seqIndex? i n=U j/\j<n/\-(n:Int)<=i/\i<n:=by
 unfold gN at h;by_cases a:0<=i
 .rw[aaD a]at h;by_cases h1:i<n;.rw[aaD h1]at h;have e:i.toNat=j:=QO h;exact#[by rw[Ym a h1,e],∅,∅,h1]
  .rw[aaC h1]at h;cases h
 .rw[aaC a]at h;by_cases h1:-(n:Int)<=i;.rw[aaD h1]at h;have e:(i+n).toNat=j:=QO h;exact#[by rw[ZN ∅ h1,e],∅,h1,∅]
  .rw[aaC h1]at h;cases h
def vt{a:Type}{xs:List a}{i:Int}{v:a}(h:fO xs i=U v):∃j,seqIndex? i xs.length=U j/\xs[j]?=U v/\j<xs.length/\-(xs.length:Int)<=i/\i<xs.length:=by unfold fO at h;cases e:gN xs.length i with|none=>rw[e]at h;cases h|some j=>rw[e]at h;have#[h1,h2,a,b]:=xp e;exact#[j,h1,h,h2,a,b]
def aV{a:Type}{xs:List a}{j:Nat}{v:a}(h:xs[j]?=U v):fO xs (j:Int)=U v:=by
 have a:j<xs.length:=(List.getElem?_eq_some_iff.mp h).1;have e:gN xs.length (j:Int)=U j:=by unfold gN;rw[aaD ∅,aaD ∅];simp
 unfold fO;rw[e];exact h
def uY(b:P8):Prop:=∀o i,subscripted b false o i=operate [o,i] (getItem o i)
def iQ(X:Cx)(r:R2):Prop:=
 ∀(value a:P8)(aa:List<|P2×S1)(s:P9)(σ:St)(H:Hp)(x y:V)(v u:P7)(Q:VK),Inv X aa σ H s->RelV x v->RelV y u->r x y H Q->
  subscripted a false v u=operate [v,u] (getItem v u)->Qn (Qt X.prog X.w) X.A (subscriptTail value a v u) (EP X aa σ Q) X.xe s
section
variable{X:Cx}{a b:P8}{ta tb:TE}{pos:SK}
def L9(hr:iQ X r)(c:PE X a ta)(d:PE X b tb)(hs:uY b):PE X (.Subscript a b pos)<|jy r ta tb:=by intro aa s σ H Q I h;exact Subscript_<|qW c d I h λv u c x y H2 d e f q=>hr a b aa c σ H2 x y v u Q d e f q<|hs _ _
def MX(K:PY):R2:=λx y H Q=>∃p xs i v,x=.ref p/\y=.int i/\af K H p xs/\fO xs i=U v/\Q v H
def MY(K:PY):R2:=λx y H Q=>∃p xs i v,x=.ref p/\y=.int i/\aR K H p xs/\fO xs i=U v/\Q v H
def Jg:iQ X<|MX X.K:=by
 intro value d aa s σ H x y v u Q I a b h c;have#[p,xs,i,z,rfl,rfl,d,e,q]:=h;cases a;have#[t,rfl]:=b;have#[its,r,a,b]:=I.list d;have#[j,h1,h2,b,g,k]:=vt e;have#[w,d,b]:=r.get h2;have l:=r.length;have e:=oM;have e:EP X aa σ Q w s:=#[z,H,I,b,q];by_cases f:0<=i
 .have b:i.toNat=j:=by rw[Ym f k]at h1;exact QO h1
  exact item_listR a.isList f ∅ (by rw[b];simpa using d) e c
 .have b:(i+(its.toArray.size:Int)).toNat=j:=by rw[ZN ∅ g]at h1;rw[Qw,<-l];exact QO h1
  exact ZU (x:=w) a.isList.typeIs slot_list_getitem.lookup
   (wpAny_getItem_list_neg (Q:=λr s'=>r=w/\EP X aa σ Q r s') a.isList ∅ (by rw[Qw]<;>lia) ∅ (by rw[b];simpa using d) #[G,e]) c
def Ji:iQ X<|MY X.K:=by
 intro value d aa s σ H x y v u Q I a b h c;have#[p,xs,i,z,rfl,rfl,d,e,q]:=h;cases a;have#[t,rfl]:=b;have#[its,r,a,b]:=I.tuple d;have#[j,h1,h2,b,d,f]:=vt e;have#[w,b,d]:=r.get h2;have e:=r.length;have f:=oM;have f:EP X aa σ Q w s:=#[z,H,I,d,q];exact ZU (x:=w) a.typeIs slot_tuple_getitem.lookup
  (getItem_tuple (j:=j) (Q:=λr s'=>r=w/\EP X aa σ Q r s') a ∅ ∅ (by rw[Qw,<-e];exact h1) (by simpa using b) #[G,f]) c
def JV(its:List P7)(n j:Nat)(u:P7):V9 (·.setIfInBounds j u) {cls:=.type '4',data:=.seq its.toArray n}={cls:=.type '4',data:=.seq (its.set j u).toArray n}:=by simp[V9]
def Inv.lst{s:P9}{xs:List V}(I:Inv X aa σ H s)(h:H p=U (.lst xs)):
    ∃(its:List P7)(n:Nat),Vals xs its/\s.heap.get? p=U {cls:=.type '4',data:=.seq its.toArray n}/\xs.length<=Qq:=by have#[z,its,n,r,e]:=I.ay p _ h;exact#[its,n,r,e,z]
def Inv.JR{s:P9}{xs ys:List V}{its its':List P7}{n a:Nat}{f:S1->S1}(I:Inv X aa σ H s)(h:H p=U (.lst xs))(d:s.heap.get? p=U {cls:=.type '4',data:=.seq its.toArray n})(c:f {cls:=.type '4',data:=.seq its.toArray n}={cls:=.type '4',data:=.seq its'.toArray a})(r:Vals ys its')(hz:ys.length<=Qq)(t:Nat):
    Inv X aa σ (upd H p<|.lst ys) {s with heap:=s.heap.update p f,toks:=t}:=by
 have e:(s.heap.update p f).get? p=U {cls:=.type '4',data:=.seq its'.toArray a}:=by rw[Q7.get?_update_self f d<|by rw[c]<;>rfl,c]
 refine I.write (x:=p) (e:=p) (by rw[h];trivial) (.inl G) (λb u c q=>(Q7.get?_update_other _ _<|Q4 c).trans q) #[_,e] ?_;exact#[hz,its',a,r,e]
def pE:V->V->V->Hp->(Hp->Prop)->Prop:=λo i v H Q=>∃p xs k j,o=.ref p/\i=.int k/\H p=U (.lst xs)/\gN xs.length k=U j/\Q (upd H p<|.lst<|xs.set j v)
def set_list:uX X pE:=by
 intro aa s σ H o i v c d u Q I a b g h;have#[p,xs,k,j,rfl,rfl,c,f,q]:=h;cases a;have#[t,rfl]:=b;have#[its,n,r,a,l]:=I.lst c;have#[h1,h2,d,e]:=xp f;have b:=r.length;have f:=oM;have f:Inv X aa σ (upd H p<|.lst<|xs.set j v) {s with heap:=s.heap.update p (V9 (·.setIfInBounds j u))}:=
  I.JR c a (JV its n j u) (r.set g j) (by rw[T5];exact l) s.toks
 by_cases g:0<=k
 .have c:k.toNat=j:=by rw[Ym g e]at h1;exact QO h1
  exact PySem.W.ki_setAt a g ∅ (by rw[Qw,<-b];exact e) (by rw[c];exact#[_,f,q])
 .have c:(k+(its.toArray.size:Int)).toNat=j:=by rw[ZN ∅ d]at h1;rw[Qw,<-b];exact QO h1
  exact PySem.W.ki_setBack a ∅ (by rw[Qw,<-b];exact d) ∅ (by rw[c];exact#[_,f,q])
def Od(lo hi:Option Int)(n:Nat):(Vr lo hi O n).1=((cp n 0 lo:Nat):Int)/\(Vr lo hi O n).2.1=((cp n n hi:Nat):Int)/\(Vr lo hi O n).2.2=1:=by
 refine#[?_,?_,G]
 .induction lo with
  |none=>simp[Vr,cp]|some i=>
   erw[Vr,cp,TB,show(1:Int)>0 by decide,aaE];by_cases h:i<0;.erw[h,aaE]<;>lia
   .erw[h,aaF]<;>lia
 .induction hi with
  |none=>simp[Vr,cp]|some i=>
   erw[Vr,cp,TB,show(1:Int)>0 by decide,aaE];by_cases h:i<0;.erw[h,aaE]<;>lia
   .erw[h,aaF]<;>lia
def Oa(its:List P7)(lo hi:Option Int):slicePick its.toArray lo hi O=((its.drop<|cp its.length 0 lo).take<|cp its.length its.length hi-cp its.length 0 lo).toArray:=by have#[h1,h2,h3]:=Od lo hi its.toArray.size;unfold slicePick;rw[h1,h2,h3];erw[sliceRange_one,pick_run,Qw]<;>rfl
def tw(K:PY):V->Option Int->Option Int->Hp->VK->Prop:=λx lo hi H Q=>∃a xs,x=.ref a/\af K H a xs/\∀p,H p=O->Q (.ref p) (upd H p<|.lst<|fS xs lo hi)
def N9:kF X<|tw X.K:=by intro aa s σ H x v g i lo hi j Q I c d e f h;have#[a,xs,rfl,g,q]:=h;cases c;have#[its,r,c,i]:=I.list g;have g:=r.length;refine#['4',_,slot_list_getitem.lookup,c.isList.typeIs,?_];refine wpAny_getItem_list_slice c.isList d e f .none (by simp) ?_ (by rw[Qw]<;>lia);rw[Oa,<-g];refine#[.ref s.heap.objs.size,_,I.laid (t':=s.toks) (o:=.lst<|fS xs lo hi) (λb c q=>Q7.get?_push_of_some _ q) (Qg _) ?_,G,q _<|I.ay.fresh<|Qg _];exact#[QW (Hm xs lo hi) i,_,0,(r.drop<|cp xs.length 0 lo).take<|cp xs.length xs.length hi-cp xs.length 0 lo,Q7.get?_push_size _ G]
noncomputable def ja:V->Bool|.ao=>true|.bl _=>true|.int _=>true|.str _=>true|_=>false
noncomputable def gH:V->V->Bool|.ao,.ao=>true|.bl a,.bl b=>a==b|.bl a,.int b=>(if a then 1 else 0)==b|.int a,.bl b=>a==(if b then 1 else 0)|.int a,.int b=>a==b|.str a,.str b=>a==b|_,_=>false
def Hz(e:RelV y u)(c:RelV x v)(f:ja y=true)(fx:ja x=true):Zg A s u v<|gH y x:=by
 induction y with
 |ao=>cases e;induction x with|ao=>cases c;exact SeqAt.EqAt.same _|bl b=>cases c;exact SeqAt.EqAt.none_bool b|int b=>have#[t,rfl]:=c;exact SeqAt.EqAt.none_int b t|str b=>have#[t,rfl]:=c;exact SeqAt.EqAt.none_str b t|_=>exact absurd (show false=true from fx) Qu
 |bl a=>cases e;induction x with|ao=>cases c;exact SeqAt.EqAt.bool_none a|bl b=>cases c;exact SeqAt.EqAt.bool_bool a b|int b=>have#[t,rfl]:=c;exact SeqAt.EqAt.bool_int a b t|str b=>have#[t,rfl]:=c;exact SeqAt.EqAt.bool_str a b t|_=>exact absurd (show false=true from fx) Qu
 |int a=>have#[d,rfl]:=e;induction x with|ao=>cases c;exact SeqAt.EqAt.int_none a d|bl b=>cases c;exact SeqAt.EqAt.int_bool a d b|int b=>have#[t,rfl]:=c;exact Yr a d b t|str b=>have#[t,rfl]:=c;exact Yq a d b t|_=>exact absurd (show false=true from fx) Qu
 |str a=>have#[d,rfl]:=e;induction x with|ao=>cases c;exact SeqAt.EqAt.str_none a d|bl b=>cases c;exact SeqAt.EqAt.str_bool a d b|int b=>have#[t,rfl]:=c;exact Yp a d b t|str b=>have#[t,rfl]:=c;exact SeqAt.EqAt.str_str a d b t|_=>exact absurd (show false=true from fx) Qu
 |_=>exact absurd (show false=true from f) Qu
noncomputable def dY(x:V)(u:P7):Bool:=match u with|.none=>gH .ao x|.bool b=>gH (.bl b) x|.int i _=>gH (.int i) x|.str z _=>gH (.str z) x|_=>false
def wd(r:RelV y u)(f:ja y=true):dY x u=gH y x:=by induction y with|ao=>cases r;rfl|bl b=>cases r;rfl|int i=>have#[t,rfl]:=r;rfl|str z=>have#[t,rfl]:=r;rfl|_=>exact absurd (show false=true from f) Qu
def l5:∀{xs:List V}{us:List P7},Vals xs us->xs.all ja=true->us.any (dY x)=xs.any λy=>gH y x:=by intro _ _ a f;induction a with|nil=>rfl|cons r t a=>rw[Tz,QH]at f;rw[VT,VT,wd r f.1,a f.2]
def mH(b:RelV x v)(fx:ja x=true):∀{xs:List V}{us:List P7},Vals xs us->xs.all ja=true->∀u∈us,Zg A s u v<|dY x u:=by
 intro _ _ c f d a;induction c with
 |nil=>cases a|cons r t c=>
  rw[Tz,QH]at f;rcases Qp.mp a with rfl|a;.rw[wd r f.1];exact Hz r b f.1 fx
  .exact c f.2 a
noncomputable def gM(x:V)(xs:List V):Bool:=xs.any λy=>gH y x
def ju(K:PY)(neg:Bool):R2:=λx y H Q=>∃p xs,y=.ref p/\(af K H p xs\/aR K H p xs)/\ja x=true/\xs.all ja=true/\Q (.bl (if neg then !gM x xs else gM x xs)) H
def LC:aZ X (RD .In)<|ju X.K false:=by
 intro aa s σ H x y v u Q I d b h;have#[p,xs,rfl,a,e,fs,q]:=h;cases b;rcases a with a|a;.have#[its,r,b,f]:=I.list a;refine SeqAt.in_listAt (dY x) b.isList (λw c=>mH d e r fs w<|by simpa using c) #[.bl _,H,I,G,?_];rw[show its.toArray.any (dY x)=its.any (dY x) by simp,l5 r fs];exact q
 .have#[its,r,b,f]:=I.tuple a;refine SeqAt.in_tupleAt (dY x) b (λw c=>mH d e r fs w<|by simpa using c) #[.bl _,H,I,G,?_];rw[show its.toArray.any (dY x)=its.any (dY x) by simp,l5 r fs];exact q
def LJ:aZ X (RD .NotIn)<|ju X.K true:=by
 intro aa s σ H x y v u Q I d b h;have#[p,xs,rfl,a,e,fs,q]:=h;cases b;rcases a with a|a;.have#[its,r,b,f]:=I.list a;refine SeqAt.notIn_listAt (dY x) b.isList (λw c=>mH d e r fs w<|by simpa using c) #[.bl _,H,I,G,?_];rw[show its.toArray.any (dY x)=its.any (dY x) by simp,l5 r fs];exact q
 .have#[its,r,b,f]:=I.tuple a;refine SeqAt.notIn_tupleAt (dY x) b (λw c=>mH d e r fs w<|by simpa using c) #[.bl _,H,I,G,?_];rw[show its.toArray.any (dY x)=its.any (dY x) by simp,l5 r fs];exact q
def GK:bU X (.builtin "len") λxs H Q=>∃p ys,xs=[.ref p]/\(af X.K H p ys\/aR X.K H p ys)/\Q (.int ys.length) H:=by
 intro aa s σ H xs a Q I r h;have#[p,ys,rfl,a,q]:=h;have#[u,rfl,b]:=vals1 r;cases b;have b:=oM;rcases a with a|a;.have#[its,b,c,e]:=I.list a;have d:=b.length;exact Calls.call_len_list c.isList (by erw[Qw]<;>lia) #[.int ys.length,H,I.tok _,#[s.toks+1,by rw[Qw,d]],q]
 .have#[its,b,c,e]:=I.tuple a;have d:=b.length;exact len_tuple c (by erw[Qw]<;>lia) #[.int ys.length,H,I.tok _,#[s.toks+1,by rw[Qw,d]],q]
def bU.or{r a:List V->Hp->VK->Prop}(h:bU X f r)(h':bU X f a):bU X f λxs H Q=>r xs H Q\/a xs H Q:=by
 intro aa s σ H xs a Q I b q;rcases q with q|q;.exact h aa s σ H xs a Q I b q
 .exact h' aa s σ H xs a Q I b q
def GQ:bU X (.type 'D') λxs H Q=>∃p ys,xs=[.ref p]/\((af X.K H p ys/\∀l,H l=O->Q (.ref l) (upd H l<|.tup ys))\/(aR X.K H p ys/\Q (.ref p) H)):=by
 intro aa s σ H xs a Q I r h;have#[p,ys,rfl,h]:=h;have#[u,rfl,a]:=vals1 r;cases a;rcases h with⟨a,q⟩|⟨a,q⟩
 .have#[its,c,d,f]:=I.list a;have g:=c.length;refine call_tuple_list d.isList (λh' i=>?_) (by erw[Qw]<;>lia);have g:Inv X aa σ H {s with heap:=h'}:=I.kept (t':=s.toks) i;have i:Inv X aa σ (upd H h'.objs.size<|.tup ys) {s with heap:=h'.push {cls:=.type 'D',data:=.seq its.toArray}}:=
   g.laid (t':=s.toks) (λb o e=>Q7.get?_push_of_some _ e) (Qg _) (show bV X.prog X.w _ _ _ (.tup ys)from#[f,its,c,IsTup.new _ _])
  exact#[.ref h'.objs.size,_,i,G,q _<|g.ay.fresh<|Qg _]
 .have#[its,c,d,f]:=I.tuple a;exact call_tuple_same d #[.ref p,H,I,G,q]
def p6(K:PY)(T:String)(x:V)(H:Hp):Prop:=match x with
 |.str _=>T="str"|.int _=>T="int"|.ref p=>(T='4'/\∃xs,af K H p xs)\/(T='D'/\∃o,K.lookup p=U o/\o.cls=.type 'D'/\o.dict=O)\/
   (T='7'/\((∃kvs,H p=U (.dK kvs))\/∃kvs,H p=U (.dT kvs)))\/(T='_'/\∃S n,H p=U (.set S n))
 |_=>False
def uj{s:P9}(I:Inv X aa σ H s)(r:RelV x v)(ty:p6 X.K T x H):
    s.TypeIs v T/\∀a,v=.ref a->∃b,s.heap.get? a=U b/\b.dict=O:=by
 induction x with
 |str z=>have#[t,rfl]:=r;cases(show T="str"from ty);exact#[typeIs_str s z t,λ_ e=>nomatch e]|int i=>have#[t,rfl]:=r;cases(show T="int"from ty);exact#[typeIs_int s i t,λ_ e=>nomatch e]|ref p=>
  cases r;rcases ty with⟨rfl,xs,g⟩|⟨rfl,o,b,h,d⟩|⟨rfl,b⟩|⟨rfl,S,n,b⟩;.have#[its,_,f,_]:=I.list g;refine#[f.isList.typeIs,λa e=>?_];cases e;have#[o,n,e,c,d,_]:=f;exact#[o,e,d]
  .refine#[#[o,I.bJ p o b,h],λa e=>?_];cases e;exact#[o,I.bJ _ o b,d]
  .have z:∃o,s.heap.get? p=U o/\o.ExactDict:=by
    rcases b with⟨kvs,b⟩|⟨kvs,b⟩;.have#[_,_,_,_,o,_,_,e,ex,_]:=I.ay p _ b;exact#[o,e,ex]
    .have#[_,_,_,_,o,_,_,e,ex,_]:=I.ay p _ b;exact#[o,e,ex]
   have#[o,e,ex]:=z;refine#[#[o,e,ex.1],λa d=>?_];cases d;exact#[o,e,ex.2.1]
  .have#[o,_,_,_,e,ex,_]:=I.ay p _ b;refine#[#[o,e,ex.1],λa d=>?_];cases d;exact#[o,e,ex.2.1]
 |_=>exact Rx ty
variable{o e:P8}{es:List P8}{to:TE}{t:TA}{name:QQ}{apos cpos:SK}{T id:String}{r:V->List V->Hp->VK->Prop}
end
def lW(X:Cx)(id:String)(r:V->List V->Hp->VK->Prop):Prop:=
 ∀(aa:List<|P2×S1)(s:P9)(σ:St)(H:Hp)(x:V)(xs:List V)(v:P7)(a:List P7)(Q:VK),Inv X aa σ H s->RelV x v->Vals xs a->r x xs H Q->
  Qn (Qt X.prog X.w) X.A (call (.builtin id) (v::a)) (EP X aa σ Q) X.xe s
def Vals.one:∀{x:V}{us:List P7},Vals [x] us->∃u,us=[u]/\RelV x u:=by intro _ _ a;cases a with|cons r t=>cases t;exact#[_,G,r]
def Vals.eraseIdx:∀{xs:List V}{us:List P7}(i:Nat),Vals xs us->Vals (xs.eraseIdx i) (us.eraseIdx i):=by intro xs us i a;induction a generalizing i with|nil=>exact .nil|cons h t a=>induction i with|zero=>exact t|succ i=>exact .cons h<|a i
theorem Vals.rep(h:Vals xs us):∀k:Nat,Vals (QA k xs).flatten (QA k us).flatten|0=>.nil|k+1=>by rw[RH,RH,VM,VM];exact Vals.append h<|Vals.rep h k
theorem xQ{a:Type}:∀(l:List a)(i:Nat),(l.eraseIdx i).length<=l.length|[],_=>Qg _|_::_,0=>Zj _|_::r,i+1=>Nat.succ_le_succ<|xQ r i
theorem foldl_rep(its:List P7):∀(k:Nat)(acc:List P7),
  ZE (λa b=>a++b) acc.toArray (QA k its.toArray)=(acc++(QA k its).flatten).toArray
 |0,acc=>by simp|k+1,acc=>by
  have e:acc.toArray++its.toArray=(acc++its).toArray:=by simp
  have a:(acc++its)++(QA k its).flatten=acc++(QA (k+1) its).flatten:=by rw[RH,VM,QL]
  rw[<-a,<-foldl_rep its k (acc++its),<-e,RH,XP]
section
variable{X:Cx}{aa:List (P2×S1)}{σ:St}{H:Hp}{s:P9}{l b:P2}{xs ys zs:List V}
def Inv.oQ{its its':List P7}{n:Nat}{f:Array P7->Array P7}{t':Nat}(I:Inv X aa σ H s)(a:H l=U (.lst xs))(e:s.heap.get? l=U {cls:=.type '4',data:=.seq its.toArray n})(b:f its.toArray=its'.toArray)(c:Vals ys its')(hz:ys.length<=Qq):
    Inv X aa σ (upd H l<|.lst ys) {s with heap:=s.heap.update l<|V9 f,toks:=t'}:=by have q:=PySem.IsL.update e f;rw[b]at q;refine I.write (x:=l) (e:=l) (by rw[a];exact trivial) (.inl G) (λd u a b=>(Q7.get?_update_other s.heap (V9 f)<|Q4 a).trans b) #[_,q] ?_;exact#[hz,its',_,c,q]
def Inv.x9{its:List P7}{t':Nat}(I:Inv X aa σ H s)(a:Vals ys its)(hz:ys.length<=Qq):
    Inv X aa σ (upd H s.heap.objs.size<|.lst ys) {s with heap:=s.heap.push {cls:=.type '4',data:=.seq its.toArray},toks:=t'}:=
 I.laid (λ_ _ q=>Q7.get?_push_of_some _ q) (Qg _) #[hz,its,0,a,Q7.get?_push_size _ G]
def Inv.fresh(I:Inv X aa σ H s):H s.heap.objs.size=O:=I.ay.fresh<|Qg _
def Inv.iu(I:Inv X aa σ H s)(a:H l=U (.lst xs)):xs.length<=Qq/\∃(its:List P7)(n:Nat),Vals xs its/\xs.length=its.length/\s.heap.get? l=U {cls:=.type '4',data:=.seq its.toArray n}:=by have#[z,its,n,r,e]:=I.ay l _ a;exact#[z,its,n,r,r.length,e]
def sN{n:Nat}(h:n<=Qq):Su n=false:=by unfold Su;exact decide_eq_false ∅
end
section
variable{X:Cx}
def MU:V->List V->Hp->VK->Prop:=λx a H Q=>∃l xs y,x=.ref l/\a=[y]/\H l=U (.lst xs)/\xs.length<Qq/\Q .ao (upd H l<|.lst<|xs++[y])
def Kc:lW X "list.append" MU:=by intro aa s σ H x a v d Q I b c h;have#[l,xs,y,rfl,rfl,a,d,q]:=h;cases b;have#[u,rfl,b]:=c.one;have#[z,its,n,r,c,e]:=I.iu a;refine VW YS #[_,e,G] F.entry_list_append (F.args_list_append_2 _ _) (PySem.list_append l its.toArray n u<|by rw[Qw];lia) #[e,?_];refine#[.ao,_,I.oQ (its':=its++[u]) a e (by simp) (r.append<|.cons b .nil) ?_,G,q];rw[P5,QB];lia
def MW:V->List V->Hp->VK->Prop:=λx a H Q=>∃l b xs zs,x=.ref l/\a=[.ref b]/\H l=U (.lst xs)/\H b=U (.lst zs)/\xs.length+zs.length<=Qq/\Q .ao (upd H l<|.lst<|xs++zs)
def Ke:lW X "list.extend" MW:=by
 intro aa s σ H x c v f Q I a d h;have#[l,b,xs,zs,rfl,rfl,c,f,g,q]:=h;cases a;have#[u,rfl,a]:=d.one;cases a;have#[z,its,n,r,a,e]:=I.iu c;have#[j,a,d,g,k,i]:=I.iu f;have f:its.toArray.size+a.toArray.size<=Qq:=by rw[Qw,Qw];lia
 have j:¬(!its.toArray.isEmpty&&Su (its.toArray.size+a.toArray.size))=true:=by rw[sN f,Ya];exact Qu
 refine VW WA #[_,e,G] Z6 (ZT _ _)
  (AutoSeq1.list_extend_list_list_0 l its.toArray n b a.toArray d j (by rw[Qw];lia) ∅) #[e,i,?_]
 refine#[.ao,_,I.oQ (its':=its++a) c e (by simp) (r.append g) ?_,G,q];rw[P5];lia
def MZ:V->List V->Hp->VK->Prop:=λx a H Q=>∃l xs i k y,x=.ref l/\a=[.int i]/\H l=U (.lst xs)/\-(2^63)<=i/\i<2^63/\seqIndex? i xs.length=U k/\xs[k]?=U y/\Q y (upd H l<|.lst<|xs.eraseIdx k)
def Kf:lW X "list.pop" MZ:=by
 intro aa s σ H x a v d Q I b c h;have#[l,xs,i,k,y,rfl,rfl,a,h1,h2,d,f,q]:=h;cases b;have#[u,rfl,b]:=c.one;have#[t,rfl]:=b;have#[z,its,n,r,b,e]:=I.iu a;have#[w,c,g]:=r.get f;refine VW ZA #[_,e,G] F.entry_list_pop (F.args_list_pop_2 _ _)
  (MeetsSeq.list_pop_at l its.toArray n i t k w (fitsIndex_both h1 h2) (by rw[Qw,<-b];exact d) (by rw[<-Array.getElem?_toList];exact c)<|by rw[Qw];lia) #[e,?_]
 refine#[y,_,I.oQ (its':=its.eraseIdx k) a e ?_ (r.eraseIdx k) ?_,g,q];.show its.toArray.eraseIdxIfInBounds k=(its.eraseIdx k).toArray;rw[List.eraseIdxIfInBounds_toArray]
 .have:=xQ xs k;lia
def pB:R2:=λx y H Q=>∃l b xs zs,x=.ref l/\y=.ref b/\H l=U (.lst xs)/\H b=U (.lst zs)/\xs.length+zs.length<=Qq/\∀p,H p=O->Q (.ref p) (upd H p<|.lst<|xs++zs)
def Lx:aZ X (Vt .Add) pB:=by
 intro aa s σ H x y v u Q I a c h;have#[l,b,xs,zs,rfl,rfl,d,f,g,q]:=h;cases a;cases c;have#[z,its,n,r,a,e]:=I.iu d;have#[g,a,i,c,j,d]:=I.iu f;refine PySem.P.add_list e d ?_ (by rw[Qw,Qw];lia);have d:its.toArray++a.toArray=(its++a).toArray:=by simp
 rw[d];exact#[.ref _,_,I.x9 (t':=s.toks) (r.append c)<|by rw[P5];lia,G,q _ I.fresh]
def tu:R2:=λx y H Q=>∃l k xs,x=.ref l/\y=.int k/\H l=U (.lst xs)/\-(2^63)<=k/\k<2^63/\xs.length*k.toNat<=Qq/\
 ∀p,H p=O->Q (.ref p) (upd H p<|.lst (QA k.toNat xs).flatten)
def len_rep{a:Type}(xs:List a)(k:Nat):(QA k xs).flatten.length=k*xs.length:=by induction k with|zero=>simp|succ k a=>rw[RH,VM,P5,a,Nat.succ_mul,Nat.add_comm]
def LK:aZ X (Vt .Mult) tu:=by
 intro aa s σ H x y v u Q I rx ry h;have#[l,k,xs,rfl,rfl,hH,h1,h2,hz,q]:=h;cases rx;have#[t,rfl]:=ry;have#[z,its,n,r,hl,e]:=I.iu hH;have hlen:its.toArray.size*k.toNat<=sizeLine:=by rw[Qw,<-hl];exact hz
 have hcap:¬its.toArray.size*k.toNat>(2^63-1)/8:=by
  have:(sizeLine:Nat)<=(2^63-1)/8:=by decide
  lia
 have hfit:¬(!Builtin.List.listFitsIndex k)=true:=by rw[fitsIndex_both h1 h2];exact Qu
 have hlong:¬Su (its.toArray.size*k.toNat)=true:=by rw[sN hlen];exact Qu
 have hnew:ZE (λx1 x2=>x1++x2) #[] (QA (if its.toArray.isEmpty=true then 0 else k.toNat) its.toArray)=(QA k.toNat its).flatten.toArray:=by
  have f0:∀m:Nat,ZE (λx1 x2=>x1++x2) #[] (QA m its.toArray)=(QA m its).flatten.toArray:=λm=>by have:=foldl_rep its m [];rw[Rk]at this;exact this
  rw[f0];induction its with|nil=>simp|cons a r'=>rw[aaC<|by simp]
 refine wpAny_binaryOp_repeat_ref (T:='4') (U:="int") (by decide) #[_,e,G] (λs'=>typeIs_int s' k t) noFill_list_mul F.fills_int_mul F.slot_int_rmul repeat_list F.slot_int_index.lookup
  (VW F.slot_int_rmul (typeIs_int s k t) F.entry_int_rmul (F.args_int_rmul_2 _ _) (int___rmul___int_list k t l its.toArray n)
   #[e,G,#[_,e,G],VW F.slot_list_mul #[_,e,G] F.entry_list_mul (F.args_list_mul_2 _ _) (AutoListH.list___mul___list_int_3 l its.toArray n k t hfit hcap hlong) #[e,?_]])
 rw[hnew];exact#[.ref _,_,I.x9 (t':=s.toks) (r.rep k.toNat)<|by rw[len_rep,YW];exact hz,G,q _ I.fresh]
end
section
variable{prog:Rb}{w:RO}{A:Rq}{E:P7->P9->Prop}{s:P9}
end
section
variable{X:Cx}
end
theorem Vals.ints:∀{ns:List Int}{us:List P7},Vals (ns.map V.int) us->Ux us ns|[],us,h=>by rw[SE]at h;cases h;exact IntsAre.nil|n::ns,us,h=>by rw[Ql]at h;cases h with|cons r t=>have#[k,rfl]:=r;exact IntsAre.cons n k<|Vals.ints t
def Vals.Np(r:Vals [V.ref a] us):us=[QY a]:=by cases r with|cons r t=>cases t;cases r;rfl
section
variable{prog:Rb}{w:RO}{A:Rq}{E:P7->P9->Prop}{s:P9}{l:P2}{its:List P7}{ns:List Int}{Q:P7->P9->Prop}
def Oq(c:A.handled=O)(hl:s.heap.IsList l its.toArray)(hi:Ux its ns)(h:∀h' tk t',(∀b o,s.heap.get? b=U o->h'.get? b=U o)->Q (.int ns.sum t') {s with heap:=h',toks:=tk}):Qn (Qt prog w) A (call (.builtin "sum") [.ref l]) Q E s:=by
 have#[xs,e]:=hi.allInts.items;have a:numsOf (intItems xs).toList=ns:=by rw[<-e];exact hi.numsOf
 rw[nums_intItems]at a;rw[e]at hl;refine PySem.sum_intListG c hl λh' tk t' c=>?_;have:=h h' tk t' c;rw[preSum_eq,SX<|by simp,a];exact this
end
section
variable{X:Cx}
def Nb(K:PY):List V->Hp->VK->Prop:=λb H Q=>∃(a:P2)(ns:List Int),b=[V.ref a]/\af K H a (ns.map V.int)/\Q (.int ns.sum) H
def Hj(hc:X.calm=true):bU X (.builtin "sum")<|Nb X.K:=by intro aa s σ H b c Q I r h;have#[a,ns,rfl,b,q]:=h;have#[its,c,d,_]:=I.list b;rw[Vals.Np r];exact Oq (I.ok.hd hc) d.isList c.ints λh' tk c b=>#[.int _,H,I.kept b,#[_,G],q]
end
section
variable{X:Cx}
end
section
variable{X:Cx}
end
section
variable{X:Cx}
end
mutual
inductive Dp(K:PY)(H:Hp):V->Yf->Prop
 |ao:Dp K H .ao .none
 |bl(b:Bool):Dp K H (.bl b) (.bool b)
 |int(i:Int):Dp K H (.int i) (.int i)
 |str(x:QQ):Dp K H (.str x) (.str x)
 |lst{a:P2}{xs:List V}{ds:List Yf}:af K H a xs->jE K H xs ds->Dp K H (.ref a) (.list ds)
 |tup{a:P2}{xs:List V}{ds:List Yf}:aR K H a xs->jE K H xs ds->Dp K H (.ref a) (.tuple ds)
inductive jE(K:PY)(H:Hp):List V->List Yf->Prop
 |nil:jE K H [] []
 |cons{v:V}{vs:List V}{d:Yf}{ds:List Yf}:Dp K H v d->jE K H vs ds->jE K H (v::vs) (d::ds)
end
section
variable{X:Cx}{aa:List (P2×S1)}{σ:St}{H:Hp}{s:P9}
mutual
theorem Dp.reads(I:Inv X aa σ H s):∀(d:Yf)(v:V)(u:P7),Dp X.K H v d->RelV v u->∃a,Reads s.heap u d a
 |.none,_,_,h,r=>by cases h;cases r;exact#[_,Reads.none]|.bool b,_,_,h,r=>by cases h;cases r;exact#[_,Reads.bool b]|.int i,_,_,h,r=>by cases h;have#[t,rfl]:=r;exact#[_,Reads.int i t]|.str x,_,_,h,r=>by cases h;have#[t,rfl]:=r;exact#[_,Reads.str x t]|.list ds,_,_,h,r=>by cases h with|lst c e=>cases r;have#[its,f,#[o,n,g,j,_,k],_]:=I.list c;have#[a,l]:=Dp.readsAll I ds _ its e f;exact#[_,Reads.list g j k l]
 |.tuple ds,_,_,h,r=>by cases h with|tup c e=>cases r;have#[its,f,#[o,g,j,n,k],_]:=I.tuple c;have#[a,l]:=Dp.readsAll I ds _ its e f;exact#[_,Reads.tuple g j k l]
 |.dict _,_,_,h,_=>by cases h
theorem Dp.readsAll(I:Inv X aa σ H s):∀(ds:List Yf)(vs:List V)(us:List P7),jE X.K H vs ds->Vals vs us->∃a,ReadsAll s.heap us ds a|[],_,_,h,r=>by cases h;cases r;exact#[_,ReadsAll.nil]|d::ds,_,_,h,r=>by cases h with|cons h1 h2=>cases r with|cons b c=>have#[a,e]:=Dp.reads I d _ _ h1 b;have#[b,a]:=Dp.readsAll I ds _ _ h2 c;exact#[_,ReadsAll.cons e a]
end
end
section
variable{X:Cx}
def MV(K:PY):R2:=λx y H Q=>∃d e,Dp K H x d/\Dp K H y e/\YA d=true/\YA e=true/\Q (.bl<|Y6 d e) H
def Lz(a:X.A.units+64<Uq):aZ X (RD .Eq)<|MV X.K:=by intro aa s σ H x y v u Q I b c h;have#[d,e,f,g,i,j,q]:=h;have#[l,k]:=Dp.reads I d x v f b;have#[f,b]:=Dp.reads I e y u g c;exact SeqAt.compareEq_shaped k b i j a #[.bl _,H,I,G,q]
end
abbrev uL(h:Q7)(c:P2)(v:Option P7):Prop:=h.IsCell c v
noncomputable def Nq(scope a:Ry):Ry:=
 {scope with names:=scope.names.map λ(n,k)=>if(k==.free&&a.kind==.function&&a.names.lookup n==U .cell)then(n,.cell)else(n,k)}
noncomputable def dj(cells:List<|QQ×P2):List (QQ×TJ)->List (QQ×P2)->List (QQ×P2)|[],acc=>acc|(n,k)::r,acc=>if k==.free then dj cells r ((n,(cells.lookup n).getD 0)::acc)else dj cells r acc
theorem vP(env:WI)(f:QQ×TJ->List (QQ×P2)->Sem (ForInStep<|List<|QQ×P2))(b:∀n k c,f (n,k) c=if k==.free then(do let a<-cellOf env n;pure (.yield ((n,a)::c)))else pure (.yield c)):
  ∀(names:List<|QQ×TJ)(acc:List<|QQ×P2),(∀y∈names,y.2=.free->∃c,env.cells.lookup y.1=U c)->forIn names acc f=pure (dj env.cells names acc)
 |[],acc,_=>by rw[aax];rfl|(n,k)::r,acc,h=>by
  rw[List.forIn_cons,b];have d:=λacc=>vP env f b r acc λy b=>h y<|Qk _ b;unfold dj;by_cases b:(k==UM)=true
  .rw[aaD b,aaD b];have#[c,g]:=h (n,k) QE (by simpa using b);have e:cellOf env n=pure c:=by unfold cellOf;rw[g]
   rw[e];have i:(env.cells.lookup n).getD 0=c:=by rw[g];rfl
   rw[i];exact d _
  .rw[aaC b,aaC b];exact d _
def Ha{scope:Ry}{env:WI}(h:∀y∈scope.names,y.2=.free->∃c,env.cells.lookup y.1=U c):closureFor scope env=pure (dj env.cells scope.names []):=by erw[closureFor];rw[vP env _ (λn k c=>rfl) scope.names [] h];rfl
theorem mem_lookup{a:Type}:∀{l:List (QQ×a)}{n:QQ}{c:a},(n,c)∈l->∃b,l.lookup n=U b
 |(k,v)::r,n,c,h=>by
  rw[Rm];cases a:n==k with
  |true=>exact#[_,G]|false=>
   rcases Qp.mp h with e|h;.cases e;simp at a
   .exact mem_lookup h
theorem nR{cells:List (QQ×P2)}:∀{names:List (QQ×TJ)}{acc:List (QQ×P2)}{n:QQ}{c:P2},(n,c)∈dj cells names acc->(n,c)∈acc\/((n,.free)∈names/\c=(cells.lookup n).getD 0)
 |[],_,_,_,h=>.inl h|(m,k)::r,acc,n,c,h=>by
  unfold dj at h;split at h
  .rename_i a;have a:k=.free:=by simpa using a
   rcases nR h with h|⟨h1,h2⟩
   .rcases Qp.mp h with e|h;.cases e;exact .inr #[a▸QE,G]
    .exact .inl h
   .exact .inr #[Qk _ h1,h2]
  .rcases nR h with h|⟨h1,h2⟩;.exact .inl h
   .exact .inr #[Qk _ h1,h2]
theorem rh:∀{names:List (QQ×TJ)}{acc:List (QQ×P2)}{p:QQ×P2},p∈acc->p∈dj cells names acc
 |[],_,_,h=>h|(m,k)::r,acc,p,h=>by
  unfold dj;split;.exact rh<|Qk _ h
  .exact rh h
theorem rj{cells:List (QQ×P2)}:∀{names:List (QQ×TJ)}{acc:List (QQ×P2)}{n:QQ},(n,.free)∈names->(n,(cells.lookup n).getD 0)∈dj cells names acc
 |(m,k)::r,acc,n,h=>by
  unfold dj;rcases Qp.mp h with e|h;.cases e;exact rh QE
  .split;.exact rj h
   .exact rj h
theorem l8:∀{names:List (QQ×TJ)}{h:Q7}{acc:List (QQ×P2)}{x:QQ}{c:P2},(x,c)∈Sz h.objs.size names acc->
  (x,c)∈acc\/((x,.cell)∈names/\h.objs.size<=c/\uL (VQ h names) c O)
 |[],_,_,_,_,h=>.inl h|(n,k)::r,h,acc,x,c,a=>by
  unfold Sz at a;unfold VQ;split at a
  .rename_i b;rw[aaD b];have b:k=.cell:=by simpa using b
   rw[<-RU h {cls:=.type "cell",data:=.cell O}]at a;rcases l8 a with a|⟨h1,h2,d⟩
   .rcases Qp.mp a with e|a;.cases e;exact .inr #[b▸QE,Qg _,_,WE r _ _ _<|Q7.get?_push_size _ G,G]
    .exact .inl a
   .rw[RU]at h2;exact .inr #[Qk _ h1,UP h2,d]
  .rename_i b;rw[aaC b];rcases l8 a with a|⟨h1,h2,d⟩;.exact .inl a
   .exact .inr #[Qk _ h1,h2,d]
theorem nQ:∀{names:List (QQ×TJ)}{n:Nat}{acc:List (QQ×P2)}{p:QQ×P2},p∈acc->p∈Sz n names acc
 |[],_,_,_,h=>h|(m,k)::r,n,acc,p,h=>by
  unfold Sz;split;.exact nQ<|Qk _ h
  .exact nQ h
theorem rf:∀{names:List (QQ×TJ)}{n:Nat}{acc:List (QQ×P2)}{x:QQ},(x,.cell)∈names->∃c,(x,c)∈Sz n names acc
 |(m,k)::r,n,acc,x,h=>by
  unfold Sz;rcases Qp.mp h with e|h;.cases e;exact#[n,nQ QE]
  .split;.exact rf h
   .exact rf h
theorem rg:∀{names:List (QQ×TJ)}{h:Q7}{acc:List (QQ×P2)}{x y:QQ}{c:P2},(∀p∈acc,p.2<h.objs.size)->(∀x y c,(x,c)∈acc->(y,c)∈acc->x=y)->
  (x,c)∈Sz h.objs.size names acc->(y,c)∈Sz h.objs.size names acc->x=y
 |[],_,_,_,_,_,_,hi,h1,h2=>hi _ _ _ h1 h2|(n,k)::r,h,acc,x,y,c,d,hi,h1,h2=>by
  unfold Sz at h1 h2;split at h1
  .rename_i f;rw[aaD f]at h2;rw[<-RU h {cls:=.type "cell",data:=.cell O}]at h1 h2;refine rg (h:=h.push _) (λp g=>?_) (λx y c a b=>?_) h1 h2
   .rw[RU];rcases Qp.mp g with rfl|g;.exact S8 _
    .exact UO<|d p g
   .rcases Qp.mp a with e|a<;>rcases Qp.mp b with g|b;.cases e;cases g;rfl
    .cases e;exact absurd (d _ b)<|RP _
    .cases g;exact absurd (d _ a)<|RP _
    .exact hi _ _ _ a b
  .rename_i f;rw[aaC f]at h2;exact rg d hi h1 h2
def Kk{M:Model}{A:Rq}{E:P7->P9->Prop}{s:P9}{scope:Ry}{b:P2}{a:List (QQ×P2)}{d:QQ}{e:Option P2}{f:P7}{g:WI}{i:P2}{Q:WI->P9->Prop}(h:Q (newEnv scope s.heap.objs.size b (Sz (s.heap.objs.size+1) scope.names a) d e f (U g) i)
      {s with heap:=VQ (s.heap.push {cls:=.type '7',data:=.dict #[]}) scope.names}):
    Qn M A (newFunctionEnv scope b a [] d e f (U g) i) Q E s:=by erw[newFunctionEnv,WK,aaE];refine Qb<|wpAny_alloc ?_;refine Qb<|wpAny_layCells _ (λn k c=>rfl) scope.names a _ _ ?_;rw[show({s with heap:=s.heap.push {cls:=.type '7',data:=.dict #[]}}:P9).heap.objs.size=s.heap.objs.size+1 from RU ..];rw[aax];exact Qb<|Qo<|Qo h
theorem sD{a:Ry}:∀{names:List (QQ×TJ)}{x:QQ}{k:TJ},
  (names.map λ(n,k)=>if(k==UM&&a.kind==.function&&a.names.lookup n==U .cell)then(n,XJ)else(n,k)).lookup x=U k->
  ∃b,names.lookup x=U b/\(k=b\/(b=.free/\k=.cell))
 |[],_,_,h=>by simp at h|(n,d)::r,x,k,h=>by
  have e:=@sD a r x k;have h':TU x ((if(d==UM&&a.kind==.function&&a.names.lookup n==U .cell)=true then(n,XJ)else(n,d))::(r.map _))=U k:=h;cases c:x==n with
  |true=>
   erw[Rm,c];by_cases b:(d==UM&&a.kind==.function&&a.names.lookup n==U .cell)=true;.rw[aaD b]at h';erw[Rm,c]at h';cases h';erw[QH,beq_iff_eq]at b;exact#[d,G,.inr #[b.1.1,G]]
   .rw[aaC b]at h';erw[Rm,c]at h';cases h';exact#[_,G,.inl G]
  |false=>
   erw[Rm,c];by_cases b:(d==UM&&a.kind==.function&&a.names.lookup n==U .cell)=true;.rw[aaD b]at h';erw[Rm,c]at h';exact e h'
   .rw[aaC b]at h';erw[Rm,c]at h';exact e h'
structure iM(N:List QQ)(sc scope:Ry)(own:List (QQ×Nat)):Prop where
 kind:scope.kind=.function
 uniq:∀y∈scope.names,scope.names.lookup y.1=U y.2
 ix:∀p∈own,N[p.2]?=U p.1
 free:∀y∈scope.names,y.2=.free->sc.names.lookup y.1=U .cell\/sc.names.lookup y.1=U .free
 own:∀y∈scope.names,y.2=.local\/y.2=.cell->y.1∈own.map (·.1)\/y.1∉N
noncomputable def wipe(σ:St):List Nat->St|[]=>σ|v::a=>(wipe σ a).set v O
theorem uH(σ:St):∀vs:List Nat,(wipe σ vs).length=σ.length|[]=>rfl|v::vs=>by unfold wipe;rw[T5,uH σ vs]
theorem uI{i:Nat}:∀{vs:List Nat},(wipe σ vs)[i]?=U (U x)->σ[i]?=U (U x)/\i∉vs
 |[],h=>#[h,by simp]|v::vs,h=>by
  unfold wipe at h;by_cases hi:v=i
  .subst hi;by_cases a:v<(wipe σ vs).length;.rw[List.getElem?_set_self a]at h;cases h
   .rw[List.getElem?_eq_none<|by simpa using a]at h;cases h
  .rw[List.getElem?_set_ne hi]at h;have#[h1,h2]:=uI h;exact#[h1,by erw[Qp,not_or];exact#[λe=>hi e.symm,h2]]
noncomputable abbrev Cx.cD(X:Cx)(s:P9)(H:Hp)(scope:Ry)(a:WI)(b:List P2):Cx:={X with aX:=s,fh:=H,env:=a,outer:=X.stack,ex:=b,fn:=λx=>scope.names.lookup x==U .cell,pn:=[],xe:=λ_ _=>False}
section
variable{X:Cx}{aa:List (P2×S1)}{σ:St}{H:Hp}{s:P9}
def FR{scope:Ry}{d:List (QQ×Nat)}(I:Inv X aa σ H s)(ok:iM X.N X.env.scope scope d)(hN:X.N.Nodup)(v:∀b∈l,eJ X aa H b/\b<s.heap.objs.size):
    Inv (X.cD s H scope (XR scope (Sz (s.heap.objs.size+1) scope.names<|dj X.env.cells scope.names []) s.heap.objs.size X.env) l) [] (wipe σ (d.map (·.2))) H {s with heap:=VQ (s.heap.push {cls:=.type '7',data:=.dict #[]}) scope.names}:=by
 have n:∀y∈scope.names,y.2=.free->∃c,X.env.cells.lookup y.1=U c:=λy h e=>by
  rcases ok.free y h e with k|k;.exact I.ok.has _<|.inl k
  .exact I.ok.has _<|.inr k
 generalize j:XR scope (Sz (s.heap.objs.size+1) scope.names<|dj X.env.cells scope.names []) s.heap.objs.size X.env=d;have B:∀b o,s.heap.get? b=U o->(VQ (s.heap.push {cls:=.type '7',data:=.dict #[]}) scope.names).get? b=U o:=λb o e=>WE _ _ _ _<|Q7.get?_push_of_some _ e;have C:d.locals=s.heap.objs.size:=by rw[<-j];rfl
 have q:d.cells=Sz (s.heap.objs.size+1) scope.names (dj X.env.cells scope.names []):=by rw[<-j];rfl
 have F:d.scope=Nq scope X.env.scope:=by rw[<-j];rfl
 rw[<-RU s.heap {cls:=.type '7',data:=.dict #[]}]at q;have t:∀{y c},(y,c)∈dj X.env.cells scope.names []->X.env.cells.lookup y=U c/\c<s.heap.objs.size:=λ{y c}f=>by
  rcases nR f with f|⟨h1,rfl⟩;.cases f
  .have#[c,g]:=n _ h1 rfl;rw[g];have#[w,z]:=I.cell _ _ g;exact#[G,z.lt]
 have J:∀{y c},d.cells.lookup y=U c->(X.env.cells.lookup y=U c/\c<s.heap.objs.size)\/(s.heap.objs.size+1<=c/\uL (VQ (s.heap.push {cls:=.type '7',data:=.dict #[]}) scope.names) c O):=λ{y c}e=>by
  rw[q]at e;rcases l8 (Rg e)with f|⟨_,h2,g⟩;.exact .inl<|t f
  .rw[RU]at h2;exact .inr #[h2,g]
 have L:∀{y},scope.names.lookup y=U .free->∃c,d.cells.lookup y=U c/\X.env.cells.lookup y=U c:=λ{y}D=>by
  have h:(y,UM)∈scope.names:=Rg D;have#[E,g]:=mem_lookup<|nQ (names:=scope.names) (n:=(s.heap.push {cls:=.type '7',data:=.dict #[]}).objs.size)<|rj (cells:=X.env.cells) (acc:=[]) h;rw[<-q]at g;refine#[E,g,?_];rw[q]at g;rcases l8 (Rg g)with f|⟨h1,_,_⟩;.exact(t f).1
  .have:=ok.uniq _ h1;rw[D]at this;cases this
 have M:(X.cD s H scope d l).Ok:=by
  refine#[I.ok.mod,by show d.scope.kind=_;rw[F];exact ok.kind,by show d.globals=_;rw[<-j];exact I.ok.glob,by show d.builtins=_;rw[<-j];exact I.ok.blt,by show s.heap.objs.size<=d.locals;rw[C];exact Qg _,
   λy z c j l=>?_,λy h=>?_,λy c z e=>?_,I.ok.hd,I.ok.frames,.inl G,λb n=>#[?_,λy c e z=>?_],I.bs,QW I.ok.fQ I.sz,λb o e n=>?_,λb n z=>?_,I.stack,I.pT]
  .have j:d.cells.lookup y=U c:=j;have l:d.cells.lookup z=U c:=l;rw[q]at j l;refine rg (λp x=>?_) (λy z c a b=>I.ok.inj y z c (t a).1 (t b).1) (Rg j)<|Rg l;rw[RU];exact UO (t (y:=p.1) (c:=p.2) x).2
  .show∃c,d.cells.lookup y=U c;have A:∀k,d.kindOf y=U k->(k=.cell\/k=.free)->∃c,d.cells.lookup y=U c:=λk u K=>by
    unfold Env.kindOf at u;rw[F]at u;have#[t,e,r]:=sD u;have:t=.cell\/t=.free:=by
     rcases r with rfl|⟨rfl,_⟩;.exact K
     .exact .inr rfl
    rcases this with rfl|rfl;.have#[c,f]:=rf (n:=(s.heap.push {cls:=.type '7',data:=.dict #[]}).objs.size) (acc:=dj X.env.cells scope.names []) (Rg e);have#[E,g]:=mem_lookup f;exact#[E,by rw[q];exact g]
    .have#[c,h1,_]:=L e;exact#[c,h1]
   rcases h with h|h;.exact A _ h<|.inl G
   .exact A _ h<|.inr G
  .have z:(scope.names.lookup y==U XJ)=true:=z;have z:scope.names.lookup y=U .cell:=by simpa using z
   have e:d.cells.lookup y=U c:=e;rw[q]at e;rcases l8 (Rg e)with f|⟨_,h2,_⟩
   .rcases nR f with f|⟨h1,_⟩;.cases f
    .have q:=ok.uniq _ h1;rw[z]at q;cases q
   .rw[RU]at h2;exact UP h2
  .show b≠d.locals;rw[C];exact QC (v b n).2
  .have e:d.cells.lookup y=U c:=e;rcases J e with⟨h1,_⟩|⟨h1,_⟩;.exact(v b n).1.2.2.2.2.1 y c h1 z
   .have h2:s.heap.objs.size+1<=b:=by rw[<-z];exact h1
    exact absurd (Qx (v b n).2<|UP h2)<|RP _
  .rcases(v b n).1.2.2.2.1 with z|z;.exact I.ok.lh b o e z
   .exact absurd (Qx (Qi e)<|QW I.ok.fQ z)<|RP _
  .rcases Qp.mp (I.t7 b z)with z|z;.exact(v b n).1.2.1 z
   .exact(v b n).1.2.2.1 z
 refine⟨M,G,I.bare,Un.kept B,⟨λ_=>O,?_,λi y v j l f=>?_⟩,λy c e=>?_,?_,λy c e=>?_,λp x=>?_,I.ay.kept B,by rw[uH];exact I.len⟩;.show Heap.Ns _ d.locals _;rw[C];exact Heap.Ns.keeps (Heap.Ns.new ..) λb o e=>WE _ _ _ _ e
 .have#[l,M]:=uI l;have h:scope.names.lookup y=U .free/\(d.kindOf y=U .cell\/d.kindOf y=U .free):=by
   have A:∀k,d.scope.names.lookup y=U k->k=.local\/k=.cell\/k=.free->scope.names.lookup y=U .free/\(d.kindOf y=U .cell\/d.kindOf y=U .free):=λk u K=>by
    have n:=u;rw[F]at u;have#[t,e,r]:=sD u;have u:¬(t=.local\/t=.cell):=λF=>by
     rcases ok.own _ (Rg e) F with g|g;.have#[p,x,F]:=Ro.mp g;have f:=ok.ix p x;have:p.1=y:=F;rw[this]at f;exact M<|Ro.mpr #[p,x,sM hN f j]
     .exact g<|List.mem_of_getElem? j
    rcases r with rfl|⟨rfl,rfl⟩
    .rcases K with rfl|rfl|rfl;.exact absurd (.inl G) u
     .exact absurd (.inr G) u
     .exact#[e,.inr n]
    .exact#[e,.inl n]
   have f:fN d.scope y:=f;rcases f with f|f|f;.exact A _ f<|.inl G
   .exact A _ f<|.inr<|.inl G
   .exact A _ f<|.inr<|.inr G
  have#[m,n,D]:=I.loc;have f:fN X.env.scope y:=(ok.free _ (Rg h.1) G).elim (λk=>.inr<|.inl k) λk=>.inr<|.inr k;have#[w,r,q]:=D i y v j l f;refine#[w,r,.inr #[h.2,?_]];have#[c,h1,h2]:=L h.1;rcases q with⟨k,_⟩|⟨_,E,g,z⟩;.have k:X.env.scope.names.lookup y=U .local:=k;rcases ok.free _ (Rg h.1) rfl with t|t<;>rw[show X.env.scope.names.lookup y=_ from t]at k<;>cases k
  .rw[h2]at g;cases g;exact#[c,h1,z.keeps B]
 .have e:d.cells.lookup y=U c:=e;rcases J e with⟨h1,_⟩|⟨_,z⟩;.have#[w,z]:=I.cell y c h1;exact#[w,z.keeps B]
  .exact#[_,z]
 .show H d.locals=O;rw[C];exact I.ay.fresh<|Qg _
 .have e:d.cells.lookup y=U c:=e;rcases J e with⟨h1,_⟩|⟨h1,_⟩;.exact I.dO y c h1
  .exact I.ay.fresh<|UP h1
 .exact absurd (show p∈([]:List<|P2×S1)++[]from x) (by simp)
def FJ{E:P7->P9->Prop}{xs:List V}{Q:P7->P9->Prop}(I:Inv X aa σ H s)(a:H D=U (.lst xs))(hz:xs.length<Qq)(r:RelV y v)(h:∀s',Inv X aa σ (upd H D<|.lst<|xs++[y]) s'->Q .none s'):Qn (Qt X.prog X.w) X.A (call (.builtin "list.append") [.ref D,v]) Q E s:=by have#[d,its,n,c,e]:=I.ay D _ a;have d:=c.length;refine append_at (hsz:=by rw[Qw];lia) e λh' f d=>?_;refine h {s with heap:=h'}<|I.write (t':=s.toks) (by rw[a];trivial) (.inl G) (λb u a q=>(f.2 b a).trans q) #[_,d] #[by rw[P5];exact hz,its++[v],n+1,c.append<|.cons r .nil,?_];rw[d];simp
def DF(X:Cx)(a:List P8)(t:TT):Prop:=
 ∀(aa:List<|P2×S1)(s:P9)(σ:St)(H:Hp)(Q:Bool->Hp->Prop),Inv X aa σ H s->t σ H Q->
  Qn (Qt X.prog X.w) X.A (forIn a true λc r=>if r=true then do let ok<-isTrue c X.env (Sj c X.env);pure (VV ok)else pure (VV r)) (TP X aa σ Q) X.xe s
def dH:TT:=λ_ H Q=>Q true H
def ML:DF X [] dH:=λ_ _ _ H _ I h=>wpAny_tests_nil #[H,I,h]
end
def uh{b:Type}{t:Sem b}{Q c:b->P9->Prop}{M:Model}{A:Rq}{E:P7->P9->Prop}{s:P9}(h:Qn M A t Q (λ_ _=>False) s)(d:∀a s,Q a s->c a s):Qn M A t c E s:=R9 h d λ_ _ z=>Rx z
theorem Hc{R:Ye->P9->Prop}(I:Nat->P9->Prop)(j:∀n s,I n s->Qn (Qt prog w) A (XA it) (λr a=>match r with
 |none=>R (.ok .next) a|some v=>Qn (Qt prog w) A (WG target it v) (λ_ d=>Qn (Qt prog w) A (Yb target env v) (λ_ f=>
   Qn (Qt prog w) A (forIn ifs true λc r=>if r=true then do let ok<-isTrue c env (Sj c env);pure (VV ok)else pure (VV r)) (λok b=>
    if ok=true then Qn (Qt prog w) A (Sj elt env) (λx g=>
     Qn (Qt prog w) A (call (.builtin "list.append") [acc,x]) (λ_ i=>∃m,m<n/\I m i) (XQ (Qt prog w) A env λe s'=>R (.error e) s') g) (XQ (Qt prog w) A env λe s'=>R (.error e) s') b
    else∃m,m<n/\I m b) (XQ (Qt prog w) A env λe s'=>R (.error e) s') f) (XQ (Qt prog w) A env λe s'=>R (.error e) s') d) (XQ (Qt prog w) A env λe s'=>R (.error e) s') a) (XQ (Qt prog w) A env λe s'=>R (.error e) s') s)(n:Nat)(h:I n s):
 Vm (Qt prog w) A (.compLoop (.ListComp elt [#[target,iter,ifs,0]] scope pos) 0 it acc env) R s:=by
 refine codeAny_loop rfl I (λn s k=>?_) n h
 show Qn _ A ((compTurn (.ListComp elt [#[target,iter,ifs,0]] scope pos) 0 it acc env).onRaise λx=>do US x env;theTreesLotGoes x) _ _ s
 refine wpAny_noted ?_
 rw[compTurn_list]
 refine Qb<|Vl<|Qb<|R9 (j n s k) (λr a j=>?_) λ_ _ h'=>h'
 induction r with
 |none=>exact Qo j
 |some v=>
 refine Qb<|R9 j (λ_ d a=>?_) λ_ _ h'=>h'
 refine Qb<|R9 a (λ_ f a=>Qb<|R9 a (λok b a=>?_) λ_ _ h'=>h') λ_ _ h'=>h'
 induction ok with
 |false=>exact Qo #[G,a]
 |true=>
 exact Qb<|Qb<|R9 a (λx g a=>Qb<|R9 a (λ_ i a=>Qo<|Qo #[G,a]) λ_ _ h'=>h') λ_ _ h'=>h'
section
variable{X:Cx}
def eY(a:TI)(g:TG)(d:TT)(te:TE)(vs:List Nat):TE:=λσ H Q=>a σ H λJ H1=>∀D,H1 D=O->∃W:Nat->Nat->Hp->Prop,(∃m,W 0 m<|upd H1 D<|.lst [])/\∀i m H,W i m H->
 (J.stop i H/\Q (.ref D) H)\/(J.go i H/\∃a:Hp->Prop,(∀H',a H'->∃c,c<m/\W (i+1) c H')/\∀x H',J.kq i H x H'->g x (wipe σ vs) H' λc H2=>wipe c vs=wipe σ vs/\d c H2 λb d=>
  if b=true then te c d λy c=>∃acc,c D=U (.lst acc)/\acc.length<Qq/\a (upd c D<|.lst<|acc++[y])else a d)
def Ot{scope:Ry}{pos a:SK}{l:Nat}{env:WI}(hk:env.scope.kind=.function)(b:env.scope.names.lookup y=U .local)(hl:(a.line==pos.line)=true)(c:(scope.names.any λ(n,k)=>n==y&&(k==.local||k==.cell))=false):VP (.ListComp elt gs scope pos) (U<|.Name y a) l env=pure true:=by
 have d:env.kindOf y=U .local:=b;have b:env.blockKind=.function:=by unfold Env.blockKind;rw[hk];rfl
 unfold VP;erw[b,d,c,show(Expr.Name y a).pos=a from G,show(Expr.ListComp elt gs scope pos).pos=pos from G,hl];rfl
end
noncomputable def nN(N:List QQ)(a scope:Ry)(own:List<|QQ×Nat):Bool:=
 (match scope.kind with|.function=>true|_=>false)&&(scope.names.all λy=>decide (scope.names.lookup y.1=U y.2))&&(own.all λp=>decide (N[p.2]?=U p.1))&&
  (scope.names.all λy=>match y.2 with
 |.free=>(match a.names.lookup y.1 with|some .cell=>true|some .free=>true|_=>false)|.local=>decide (y.1∈own.map (·.1))||decide (y.1∉N)
 |.cell=>decide (y.1∈own.map (·.1))||decide (y.1∉N)
 |_=>true)
def FP(h:nN N sc scope own=true):iM N sc scope own:=by
 unfold nN at h;erw[QH,RX,decide_eq_true_eq]at h;have#[#[#[h1,h2],a],b]:=h;refine#[?_,h2,a,λy a e=>?_,λy a e=>?_]
 .split at h1;.assumption
  .cases h1
 .have q:=b y a;erw[e]at q;split at q<;>first|exact .inl (by assumption)|exact .inr (by assumption)|cases q
 .have q:=b y a;rcases e with e|e<;>(erw[e,We,decide_eq_true_eq]at q;exact q)
section
variable{prog:Rb}{w:RO}{A:Rq}{R:Ye->P9->Prop}{s:P9}{elt t0 i0 t1 i1:P8}{ifs0 ifs1:List P8}{scope:Ry}{pos:SK}{it acc:P7}{env:WI}
end
section
variable{X:Cx}
end
section
variable{κ:Type}[DecidableEq κ]
noncomputable def dX(kvs:List<|κ×V)(k:κ):Option V:=(kvs.find? λa=>decide (a.1=k)).map (·.2)
noncomputable def putK(kvs:List<|κ×V)(k:κ)(v:V):List<|κ×V:=
 if(kvs.any λa=>decide (a.1=k))=true then kvs.map (λa=>if a.1=k then(a.1,v)else a)else kvs++[(k,v)]
def CV{p:κ×V}{r:List (κ×V)}{k:κ}(e:p.1=k):dX (p::r) k=U p.2:=by simp[dX,List.find?_cons,e]
def CU{p:κ×V}{r:List (κ×V)}{k:κ}(e:¬p.1=k):dX (p::r) k=dX r k:=by simp[dX,List.find?_cons,e]
def JD(kvs:List<|κ×V)(k:κ)(v:V):(putK kvs k v).length<=kvs.length+1:=by
 unfold putK;split;.rw[Qe];lia
 .rw[P5,P0,Qs];lia
def dA.xg{o:Option V}{u:Option P7}(r:dA o u):o.isSome=u.isSome:=by
 induction o with
 |none=>induction u with
  |none=>rfl
  |some _=>exact(show False from r).elim
 |some _=>induction u with
  |none=>exact(show False from r).elim
  |some _=>rfl
def dA.getD{o:Option V}{u:Option P7}(r:dA o u)(a:RelV d d'):RelV (o.getD d)<|u.getD d':=by
 induction o with
 |none=>induction u with
  |none=>exact a
  |some _=>exact(show False from r).elim
 |some _=>induction u with
  |none=>exact(show False from r).elim
  |some _=>exact r
def KV.val{kvs:List (κ×V)}{vs:List (κ×P7)}(r:KV kvs vs)(k:κ):dA (dX kvs k)<|YE vs k:=by
 unfold KV at r;induction r with
 |nil=>exact X0|@cons p q ps a h t d=>
  have#[h1,h2]:=h;by_cases e:p.1=k
  .have c:q.1=k:=h1.symm.trans e;have b:YE (q::a) k=U q.2:=by simp[YE,List.find?_cons,c]
   rw[CV e,b];exact h2
  .have c:¬q.1=k:=λz=>e (h1.trans z);have b:YE (q::a) k=YE a k:=by simp[YE,List.find?_cons,c]
   rw[CU e,b];exact d
def KV.any{kvs:List (κ×V)}{vs:List (κ×P7)}(r:KV kvs vs)(k:κ):(kvs.any λa=>decide (a.1=k))=vs.any λa=>decide (a.1=k):=by unfold KV at r;induction r with|nil=>rfl|cons h t a=>rw[VT,VT,a,h.1]
def KV.Nu{kvs:List (κ×V)}{vs:List (κ×P7)}(r:KV kvs vs)(k:κ)(b:RelV y u):
    KV (kvs.map λa=>if a.1=k then(a.1,y)else a) (vs.map λa=>if a.1=k then(a.1,u)else a):=by
 unfold KV at r⊢;induction r with
 |nil=>exact .nil|@cons p q ps c h t a=>
  rw[Ql,Ql];refine .cons ?_ a;have#[h1,h2]:=h;by_cases e:p.1=k;.rw[aaD e,aaD<|h1.symm.trans e];exact#[h1,b]
  .rw[aaC e,aaC λz=>e<|h1.trans z];exact#[h1,h2]
def KV.put(r:KV kvs vs)(k:κ)(a:RelV y u):KV (putK kvs k y)<|stored vs k u:=by
 unfold putK stored;rw[r.any k];by_cases e:(vs.any λb=>decide (b.1=k))=true;.rw[aaD e,aaD e];exact r.Nu k a
 .rw[aaC e,aaC e];exact Wi r #[G,a]
def KV.length{kvs:List (κ×V)}{vs:List (κ×P7)}(r:KV kvs vs):kvs.length=vs.length:=Qy r
end
def oz(r:RelV (kV k) u):(bz P w).is k u=true:=by induction k with|inl i=>have#[t,e]:=(show∃t,u=VX i t from r);subst e;exact J1 P w i t|inr x=>have#[t,e]:=(show∃t,u=Yo x t from r);subst e;exact J2 P w x t
theorem xm:∀{ks:List Key}{us:List P7},Vals (ks.map kV) us->ItemsAre (bz P w) ks us|[],_,r=>by rw[SE]at r;cases r;exact .nil|k::ks,_,r=>by rw[Ql]at r;cases r with|cons h t=>exact .cons (oz h)<|xm t
abbrev KT(H:Hp):List (List Key×V)->List (List Key×P2×P7)->Prop:=Paired λp q=>p.1=q.1/\H q.2.1=U (.tup<|p.1.map kV)/\RelV p.2 q.2.2
def KT.val{H:Hp}{kvs:List (List Key×V)}{xs:List (List Key×P2×P7)}(r:KT H kvs xs)(k:List Key):dA (dX kvs k) ((aak xs k).map (·.2)):=by
 induction r with
 |nil=>exact X0|@cons p q ps a h t d=>
  have#[h1,_,h2]:=h;by_cases e:p.1=k
  .have c:q.1=k:=h1.symm.trans e;have b:aak (q::a) k=U q.2:=by simp[aak,List.find?_cons,c]
   rw[CV e,b];exact h2
  .have c:¬q.1=k:=λz=>e (h1.trans z);have b:aak (q::a) k=aak a k:=by simp[aak,List.find?_cons,c]
   rw[CU e,b];exact d
section
variable{P:Rb}{w:RO}{H:Hp}{h:Q7}{a:P2}
def Ao(ok:bt P w H h)(e:Rd H a u):bV P w H h a u:=e.ok ok
def rE{kvs:List (Key×V)}(ok:bt P w H h)(e:Rd H a<|.dK kvs):kvs.length<=Qq/\(a==Vh)=false/\∃vs,KV kvs vs/\h.DictOf (bz P w) a vs:=
 show bV P w H h a (.dK kvs)from Ao ok e
def mD{ks:List Key}(ok:bt P w H h)(e:H a=U (.tup<|ks.map kV)):(Sy<|bz P w).is h ks a:=by have#[_,its,r,o,h1,h2,n,b]:=(show bV P w H h a (.tup<|ks.map kV)from ok a _ e);exact#[o,its.toArray,n,h1,h2,b,by simpa using xm r]
def rG{kvs:List (List Key×V)}(ok:bt P w H h)(e:Rd H a<|.dT kvs):kvs.length<=Qq/\(a==Vh)=false/\
    ∃xs,KT H kvs xs/\h.DictOfH (Sy<|bz P w) a xs:=by
 have#[z,y,xs,r,o,es,ep,h1,h2,b,c,d]:=(show bV P w H h a (.dT kvs)from Ao ok e);refine#[z,y,xs,r,o,es,ep,h1,h2,b,c,λx b=>?_,d];have all:∀{l:List (List Key×V)}{m:List (List Key×P2×P7)},KT H l m->∀x∈m,(Sy<|bz P w).is h x.1 x.2.1:=by
  intro l m q;induction q with
  |nil=>intro x b;exact nomatch b|@cons p q ps f c t d=>
   intro x b;rcases Qp.mp b with e|b;.subst e;exact mD ok (by rw[<-c.1];exact c.2.1)
   .exact d x b
 exact all r x b
end
def ee(H:Hp)(a:P2)(y:V)(r:Option V):Prop:=
 (∃kvs k,Rd H a (.dK kvs)/\y=kV k/\r=dX kvs k)\/∃kvs k b,Rd H a (.dT kvs)/\y=.ref b/\H b=U (.tup<|k.map kV)/\r=dX kvs k
def ee.k{H:Hp}{a:P2}{kvs:List (Key×V)}{k:Key}(e:H a=U (.dK kvs)):ee H a (kV k)<|dX kvs k:=.inl #[kvs,k,.inl e,G,G]
def ee.t{k:List Key}(e:H a=U (.dT kvs))(c:H b=U (.tup<|k.map kV)):ee H a (.ref b)<|dX kvs k:=.inr #[kvs,k,b,.inl e,G,c,G]
section
variable{X:Cx}{aa:List (P2×S1)}{σ:St}{H:Hp}{s:P9}{a:P2}{y v:V}{u r:P7}{o:Option V}{A:Rq}{E:P7->P9->Prop}
def Inv.big(I:Inv X aa σ H s):Vh<s.heap.objs.size:=by have h:WZ<s.heap.objs.size:=(I.mod.glob.keeps I.bk).lt;exact S2 (by decide) h
def Hq{Q:P7->P9->Prop}(m:A.units+1<Uq)(I:Inv X aa σ H s)(g:ee H a y o)(j:RelV y u)(h:∀s',Inv X aa σ H s'->Q (.bool<|!o.isSome) s'):
    Qn (Qt X.prog X.w) A (RD .NotIn u<|.ref a) Q E s:=by
 rcases g with⟨kvs,k,e,c,l⟩|⟨kvs,k,b,e,c,n,l⟩;.subst c;have#[z,d,p,f,i]:=rE I.ay e;refine wpAny_notIn_of (oz j) d i.mapOf ?_;rw[<-(f.val k).xg,<-l];exact h _<|I.tok _
 .subst c;cases(show u=QY b from j);have#[z,d,xs,f,i]:=rG I.ay e;refine wpAny_notIn_heap (tupleKind_room_in1 m) (mD I.ay n) d i ?_;have q:=(f.val k).xg;rw[Option.isSome_map]at q;rw[<-q,<-l];exact h _<|I.tok _
end
section
variable{X:Cx}{aa:List (P2×S1)}{σ:St}{H:Hp}{s:P9}{a:P2}{kvs:List (Key×V)}{k:Key}{u:P7}{A:Rq}{E:P7->P9->Prop}
end
def lK(ty td:TE):TE:=λσ H Q=>ty σ H λy H1=>td σ H1 λx H2=>∃a o,x=.ref a/\ee H2 a y o/\Q (.bl<|!o.isSome) H2
section
variable{X:Cx}{o i e value:P8}{pos pos' tpos:SK}{td ty tv:TE}
def LU(b:X.A.units+1<Uq)(hi:PE X i ty)(c:PE X o td):PC X .NotIn i o<|lK ty td:=by intro aa s σ H Q I h;refine az (hi aa s σ H _ I h) λv d e=>e5 e λy H1 f j k=>az (c aa d σ H1 _ f k) λu w l=>e5 l λx H2 m n p=>e5 p λa q ex g r=>?_;subst ex;obtain rfl:u=QY a:=n;exact Hq b m g j λz t=>#[.bl<|!q.isSome,H2,t,G,r]
end
section
variable{X:Cx}{pos:SK}
end
noncomputable def eT(kvs more:List<|Key×V):List<|Key×V:=more.foldl (λacc a=>putK acc a.1 a.2) kvs
def KV.merge:∀{a:List (Key×V)}{b:List (Key×P7)}{kvs:List (Key×V)}{vs:List (Key×P7)},KV a b->KV kvs vs->KV (eT kvs a) (merged vs b):=by
 intro a b kvs vs r;unfold KV at r;induction r generalizing kvs vs with
 |nil=>intro q;exact q|@cons p q ps b h t a=>
  intro b;have e:KV (putK kvs p.1 p.2)<|stored vs q.1 q.2:=by have:=b.put p.1 h.2;rw[<-h.1];exact this
  exact a e
theorem xR:∀(more kvs:List<|Key×V),(eT kvs more).length<=kvs.length+more.length|[],kvs=>by show kvs.length<=kvs.length+0;lia|p::r,kvs=>by have h1:=xR r<|putK kvs p.1 p.2;have h2:=JD kvs p.1 p.2;show(eT (putK kvs p.1 p.2) r).length<=_;rw[P0];lia
structure M1(X:Cx)(o:P8)(m:QQ)(apos:SK)(e:P8)(cpos:SK):Prop where
 base:Vn o m X.env (Sj o X.env)=Sj o X.env
 wk:((TM cpos (QJ [e] X.env)).all (λx=>!x.1)&&(W5 cpos (Vs [] X.env)).all (λx=>x.1.isSome)
  &&decide (([e]:List P8).length+([]:List XT).length+(if([]:List XT).isEmpty then 0 else 1)<30))=true
 line:(apos.endLine==cpos.line)=true
 trees:TM cpos (QJ [e] X.env)=[(false,Sj e X.env)]
def uP(H:Hp)(a:P2):Prop:=(∃kvs,Rd H a<|.dK kvs)\/∃kvs,Rd H a<|.dT kvs
def Je{s:P9}(I:Inv X aa σ H s)(d:uP H a):
    s.TypeIs (.ref a) '7'/\(∀b,QY a=.ref b->∃c,s.heap.get? b=U c/\c.dict=O)/\(a==Vh)=false:=by
 rcases d with⟨kvs,e⟩|⟨kvs,e⟩;.have#[_,g,h,_,f]:=rE I.ay e;refine#[f.typeIs,λb q=>?_,g];cases q;have#[c,_,_,h1,h2,_]:=f;exact#[c,h1,h2.2.1]
 .have#[_,g,xs,_,f]:=rG I.ay e;refine#[f.typeIs,λb q=>?_,g];cases q;have#[c,_,_,h1,h2,_]:=f;exact#[c,h1,h2.2.1]
section
variable{X:Cx}{aa:List (P2×S1)}{σ:St}{H:Hp}{s:P9}{a:P2}{y d:V}{u r:P7}{o:Option V}{A:Rq}{E:P7->P9->Prop}
def Ho{Q:P7->P9->Prop}(m:A.units+1<Uq)(I:Inv X aa σ H s)(g:ee H a y o)(j:RelV y u)(h:∀c s',Inv X aa σ H s'->RelV (o.getD .ao) c->Q c s'):
    Qn (Qt X.prog X.w) A (call (.builtin "dict.get") [.ref a,u]) Q E s:=by
 rcases g with⟨kvs,k,e,d,l⟩|⟨kvs,k,b,e,d,n,l⟩;.subst d;have#[z,f,p,i,c]:=rE I.ay e;refine call_meetsIn V3 c.typeIs Yi (X6 _ _) (meets_dict_get (bz X.prog X.w) a (oz j) f) #[_,c.mapOf,h _ _ (I.tok _) ?_];rw[l];exact(i.val k).getD rfl
 .subst d;cases(show u=QY b from j);have#[z,f,xs,i,c]:=rG I.ay e;refine call_meetsIn V3 c.typeIs Yi (X6 _ _) (meetsH_dict_get (Sy<|bz X.prog X.w) a b f) #[tupleKind_room_in1 m,k,xs,mD I.ay n,c,h _ _ (I.tok _) ?_];rw[l];exact(i.val k).getD rfl
end
def gZ(td ty:TE):TE:=λσ H Q=>td σ H λx H1=>∃a,x=.ref a/\uP H1 a/\ty σ H1 λy H2=>∃o,ee H2 a y o/\Q (o.getD .ao) H2
section
variable{X:Cx}{o e f:P8}{apos cpos:SK}{td ty tx:TE}
def L6(c:X.A.units+1<Uq)(f:PE X o td)(i:PE X e ty)(m:M1 X o "get" apos e cpos):PE X (.Call (.Attribute o "get" apos) [e] [] cpos)<|gZ td ty:=by intro aa s σ H Q I h;refine wpAny_Call_method m.base m.wk m.line PySem.F.plainAttrs_dict V3 PySem.F.type_dict_get<|az (f aa s σ H _ I h) λu j k=>e5 k λx H1 b l n=>e4 n λa ex d p=>?_;subst ex;obtain rfl:u=QY a:=l;have#[t1,q,_]:=Je b d;refine#[t1,q,?_];rw[m.trees];refine UJ rfl<|Tr<|S7<|az (i aa j σ H1 _ b p) λC D r=>e5 r λy H2 t v w=>e3 w λE g z=>Tq ?_;exact Ho c t g v λF J A B=>#[_,H2,A,B,z]
end
section
variable{X:Cx}{aa:List (P2×S1)}{σ:St}{H:Hp}{s:P9}{a:P2}{kvs:List (Key×V)}{A:Rq}{E:P7->P9->Prop}
end
section
variable{X:Cx}{aa:List (P2×S1)}{σ:St}{H:Hp}{s:P9}{a:P2}{y:V}{u:P7}{A:Rq}{E:P7->P9->Prop}
end
def JK:Wv (.type '4') "keys"=pure O:=am_miss_of_fast (by first|decide+kernel|rfl)
def p7:entryFor table 'X'=U V6.«dict.update.loop»:=entryFor_of_tree (by kernel_rfl)
def hU:plainId 'X'=true:=by decide+kernel
section
variable{prog:Rb}{w:RO}{A:Rq}{E:P7->P9->Prop}
section
local macro_rules|`(#[$a,*])=>`(List.toArray [$a,*])
def yh{s:P9}{o:S1}{k:Nat}{Q:Option P7->P9->Prop}(i:s.heap.get? a=U o)(hc:o.cls=.type '4')(f:o.data=.seq xs k)(hd:o.dict=O)(m:A.handled=O)(h:∀h' tk,(∀b j,s.heap.get? b=U j->h'.get? b=U j)->Q O {s with heap:=h',toks:=tk}):Qn (Qt prog w) A (getAttr? (.ref a) "keys") Q E s:=by
 have#[c,j,l,n]:=o;simp only at hc f hd;subst hc f hd;have#[f,g,d,tk,p]:=s;have j:∀l,(⟨f,g,d,l,p⟩:P9).TypeIs (.ref a) '4':=λ_=>⟨_,i,G⟩;have p:=JK;have q:(["__module__",'P',"__qualname__","__doc__","__annotations__"]:List QQ).contains "keys"=false:=by decide+kernel
 have r:("keys":QQ).length+100<=Qq:=by first|size_fits|decide+kernel
 have f:=sub_AttributeError;have f:=UN.lookup;have f:=UN.bind<|.ref a;have f:=am_list_getattr_none;unfold getAttr? getAttrBy? getAttrBy;repeat (any_goals (first|assumption|exact j _|((with_reducible show Qn _ _ (call (U1 "list.__getattribute__") _ _) _ _ _);refine VW UN (j _) am_entry_list_getattribute (PySem.F.args_list_getattribute_2 _ _) (meets_getattribute_miss_list a xs k n "keys" _ p q r) ⟨i,m,λh' l e f=>?_⟩)|wp_step))
 have#[i,j,l]:=f.there;show Qn _ _ (getattributeRaised _ _ _ _ _ _ _) _ _ _;unfold getattributeRaised;repeat (any_goals (first|assumption|wp_step))
 all_goals first|exact h _ _ f.keeps|(dsimp only;repeat (any_goals (first|assumption|exact h _ _ f.keeps|wp_step)))
end
theorem CS{R:Ye->P9->Prop}{items:Array P7}(v:A.handled=O)(x:l≠I)(d:S≠I)(y:S≠l):
  ∀(rest:List<|Key×P7)(i:Nat)(acc:List<|Key×P7)(f:Int)(t:Tok)(s:P9),items.size=i+rest.length->acc.length+rest.length<=Qq->
   (∀(j:Nat)(q:Key×P7),rest[j]?=U q->∃(b:P2)(u:P7),items[i+j]?=U (.ref b)/\b≠S/\b≠I/\Xz s.heap b (Rc [u,q.2])/\iq q.1 u=true)->
   s.heap.IsListIter I l i->s.heap.IsList l items->s.heap.DictOf (bz prog w) S acc->
   (∀h' tk,h'.DictOf (bz prog w) S (merged acc rest)->(∀b o,b≠S->b≠I->s.heap.get? b=U o->h'.get? b=U o)->R (.ok<|.ret res) {s with heap:=h',toks:=tk})->
   Vm (Qt prog w) A (.builtin 'X' #[[.ref S,.ref I,.int f t,res],[]]) R s
 |[],i,acc,f,t,s,a,z,h,m,g,n,p=>by refine T9 p7 ?_;rw[Tj hU _];show Qn _ A.in1 (XA (.ref I)>>=_) _ _ s;refine Qb<|Vg (A:=A.in1) v m g (by first|exact Array.getElem?_eq_none (Uh a)|(simp at a;simp;lia)) λh' B=>?_;show Qn _ A.in1 (Xj S []>>=_) _ _ _;refine Qb<|Qo<|Qo ?_;exact p h' s.toks (n.extBut B d) λb o _ r e=>B b o r e|q::rest,i,acc,f,t,s,a,z,h,m,g,n,p=>by
  have#[b,u,r,E,B,C,D]:=h 0 q rfl;rw[P0]at a z;refine T9 p7 ?_;rw[Tj hU _];show Qn _ A.in1 (XA (.ref I)>>=_) _ _ s;refine Qb<|U4 (x:=.ref b) m g (by simpa using r) λh1 r a=>?_;have m:Xz h1 b<|Rc [u,q.2]:=C.extBut a.extBut B;have B:h1.IsList l items:=g.extBut a.extBut x;have z:h1.DictOf (bz prog w) S acc:=n.extBut a.extBut d;have#[o,g,C,n,E]:=id m;show Qn _ A.in1 (U5 [QY b] _>>=_) _ _ _;refine Qb<|Sg ?_;refine Qb<|wpAny_tryCatch ?_;unfold Xy;refine Qb<|Wt (T:='D') #[o,g,C] ?_;rw[aaD (by first|decide|rfl|simp)];refine Qb<|WY g E<|Qo ?_;show Qn _ A.in1 (U5 [u,q.2]<|dictSet S u q.2) _ _ _;refine Sg<|wpAny_dictSet_pairs (knd:=bz prog w) (k:=q.1) D z (λh2 m g=>?_) ∅;refine Qo #[UH hU _,CS (items:=items) v x d y rest (i+1) (stored acc q.1 q.2) (f+1) 0 _ (show items.size=i+1+rest.length by lia) ?_ (λj n e=>?_) ?_ ?_ m λh' tk v k=>?_];.have z:=stored_length_le acc q.1 q.2;lia
  .have#[x,z,C,f,m,D,E]:=h (j+1) n (by simpa using e);refine#[x,z,?_,f,m,(D.extBut a.extBut m).extBut g.extBut f,E];rw[show i+1+j=i+(j+1) by lia];exact C
  .exact r.at λo' e=>g.extBut I o' (Q4 d) e
  .exact B.extBut g.extBut<|Q4 y
  .exact p h' tk v λc d f h e=>k c d f h<|g.extBut c d f<|a.extBut c d h e
section
local macro_rules|`(#[$a,*])=>`(List.toArray [$a,*])
def GI{s:P9}{a:S1}{items:Array P7}{n:Nat}{prs:List (Key×P7)}{Q:P7->P9->Prop}(m:A.handled=O)(hl:s.heap.get? l=U a)(hc:a.cls=.type '4')(hd:a.dict=O)(g:a.data=.seq items n)(hsz:items.size=prs.length)(x:prs.length<=Qq)(y:∀(j:Nat)(q:Key×P7),prs[j]?=U q->∃(b:P2)(u:P7),items[j]?=U (.ref b)/\Xz s.heap b (Rc [u,q.2])/\iq q.1 u=true)(h:∀h' tk,h'.DictOf (bz prog w) s.heap.objs.size (merged [] prs)->(∀b o,s.heap.get? b=U o->h'.get? b=U o)->Q (.ref s.heap.objs.size) {s with heap:=h',toks:=tk}):
    Qn (Qt prog w) A (call (.type '7') [.ref l]) Q E s:=by
 refine callType_codes (Q₁:=λd f=>d=.ref s.heap.objs.size/\f={s with heap:=s.heap.push {cls:=.type '7',data:=.dict #[]}}) Yh (XD _) X5 (kt_code_dict_new _ ⟨G,G⟩) ?_;rintro d f⟨rfl,rfl⟩;have i:(s.heap.push {cls:=.type '7',data:=.dict #[]}).DictOf (bz prog w) s.heap.objs.size []:=Heap.DictOf.new s.heap;have d:∀b o,s.heap.get? b=U o->(s.heap.push {cls:=.type '7',data:=.dict #[]}).get? b=U o:=λb o e=>Q7.get?_push_of_some _ e;refine⟨i.typeIs,XW _ _,?_⟩;unfold V6.«dict.__init__»;refine Qb ?_;unfold Xi;refine Qb<|Z2 i.typeIs ?_;show Qn _ _ (pure (s.heap.objs.size,[QY l])) _ _ _;refine Qo ?_;show Qn _ _ (Ud "dict.__init__" s.heap.objs.size (.ref l) [] .none) _ _ _;unfold Ud;refine Qb<|Wt (T:='4') ⟨a,d _ _ hl,hc⟩ ?_;rw[aaD (by first|decide|rfl|simp)];refine Qb<|yh (d _ _ hl) hc g hd m λh1 z f=>?_;rw[aaD (show(O:Option P7).isNone=true from G)];refine Qb<|wpAny_rule ?_;have p:h1.IsList l items:=⟨a,f _ _<|d _ _ hl,hc,n,g⟩;have a:s.heap.objs.size<h1.objs.size:=by have e:(s.heap.push {cls:=.type '7',data:=.dict #[]}).get? s.heap.objs.size=U {cls:=.type '7',data:=.dict #[]}:=Q7.get?_push_size _ rfl;exact Qi<|f _ _ e
 refine Qb<|V4 p ?_;have g:∀b o,h1.get? b=U o->(h1.push {cls:=.type 'R',data:=.fields (Rc [.ref l,.int 0 0])}).get? b=U o:=λb o e=>Q7.get?_push_of_some _ e;have t:l<s.heap.objs.size:=Qi hl;have v:=CS (prog:=prog) (w:=w) (A:=A.in1) (R:=wants (λr B=>r=.none/\Q (.ref s.heap.objs.size) B) E) (S:=s.heap.objs.size) (I:=h1.objs.size) (l:=l) (items:=items) (res:=UX) m
  (QC<|S2 t a) (QC a) (TZ t) prs 0 [] 0 0
  {s with heap:=h1.push {cls:=.type 'R',data:=.fields (Rc [.ref l,.int 0 0])},toks:=z} (by rw[hsz,R0]) (by rw[Qs,R0];exact x)
  (λj q e=>by
   have#[b,u,x,m,B]:=y j q e
   have t:b<s.heap.objs.size:=m.lt
   exact⟨b,u,by rw[R0];exact x,QC t,QC<|S2 t a,m.keeps λc o z=>g _ _<|f _ _<|d _ _ z,B⟩)
  ⟨_,Q7.get?_push_size _ G,G,G⟩ (p.at λo e=>g _ _ e) ((i.at λo e=>f _ _ e).at λo e=>g _ _ e)
  (λh' tk i k=>⟨G,h h' tk i λb o e=>k b o (QC<|Qi e) (QC<|S2 (Qi e) a)<|g _ _<|f _ _<|d _ _ e⟩)
 first
  |exact Qo ⟨UH hU _,v⟩
  |exact Qb<|Qo<|Qo ⟨UH hU _,v⟩
end
end
section
variable{X:Cx}
def yM{s:P9}(I:Inv X aa σ H s):∀{ps:List P2}{kvs:List (Key×V)},Paired (λp a=>aR X.K H p [kV a.1,a.2]) ps kvs->
    ∃prs:List<|Key×P7,KV kvs prs/\prs.length=ps.length/\∀(j:Nat)(q:Key×P7),prs[j]?=U q->∃(b:P2)(u:P7),ps[j]?=U b/\Xz s.heap b (Rc [u,q.2])/\iq q.1 u=true:=by intro _ _ c;induction c with|nil=>exact#[[],.nil,G,λj q e=>by simp at e]|@cons p a _ _ h t c=>have#[prs,r,d,f]:=c;have#[its,c,g,_]:=I.tuple h;have#[u,y,i,k,l]:=vals2 c;subst i;refine#[(a.1,y)::prs,.cons #[G,l] r,by rw[P0,P0,d],λj q e=>?_];induction j with|zero=>have c:(a.1,y)=q:=QO e;subst c;exact#[p,u,G,g,oz (P:=X.prog) (w:=X.w) k]|succ j=>have#[b,a,c,d,g]:=f j q (by simpa using e);exact#[b,a,by simpa using c,d,g]
theorem pH:∀{ps:List P2}{us:List P7},Vals (ps.map V.ref) us->us=ps.map QY|[],us,r=>by rw[SE]at r;cases r;rfl|p::ps,us,r=>by rw[Ql]at r;cases r with|cons h t=>cases h;rw[Ql,<-pH t]
def GG(h:X.calm=true):bU X (.type '7') (λxs H Q=>∃(a:P2)(ps:List P2)(kvs:List<|Key×V),xs=[.ref a]/\af X.K H a (ps.map V.ref)/\Paired (λp c=>aR X.K H p [kV c.1,c.2]) ps kvs/\
    ∀p,H p=O->Q (.ref p) (upd H p<|.dK<|eT [] kvs)):=by
 intro aa s σ H xs c Q I r q;have#[a,ps,kvs,ex,d,i,q]:=q;subst ex;have#[u,c,f]:=vals1 r;subst c;cases f;have#[its,f,j,c]:=I.list d;have d:=pH f;subst d;rw[Qe]at c;have#[f,g,d,l]:=yM I i;have#[o,n,i,m,t,v]:=j;refine GI (prs:=f) (I.ok.hd h) i m t v (by simp[d]) (by rw[d];exact c) (λj h e=>?_) λh' tk i k=>?_;.have#[b,u,m,n,t]:=l j h e;exact#[b,u,by simp[m],n,t]
 .have h:(s.heap.objs.size==Vh)=false:=beq_eq_false_iff_ne.mpr (TZ I.big);have j:(eT [] kvs).length<=Qq:=by refine QW (xR kvs []) ?_;rw[Qs,R0,g.length,d];exact c
  exact#[.ref s.heap.objs.size,upd H s.heap.objs.size<|.dK<|eT [] kvs,I.laid (t':=tk) k (Qg _) (show bV X.prog X.w _ _ _ (.dK<|eT [] kvs)from#[j,h,merged [] f,KV.merge g .nil,i]),G,q _<|I.ay.fresh<|Qg _]
end
section
variable{X:Cx}{aa:List (P2×S1)}{σ:St}{H:Hp}{s:P9}{h':Q7}
def Inv.OR{t':Nat}{ch:List P2}(I:Inv X aa σ H s)(k:∀b o,b∉ch->s.heap.get? b=U o->h'.get? b=U o)(d:∀b∈ch,eJ X aa H b):Inv X aa σ H {s with heap:=h',toks:=t'}:=by
 have f:∀b u,H b=U u->b∉ch:=λb u e z=>by have q:=(d b z).1;rw[q]at e;cases e
 refine I.step (g':=s.gens) (d':=s.drawn) (ch:=ch) (λb a=>#[(d b a).2.2.2.1,(d b a).2.1,(d b a).2.2.2.2.1,(d b a).2.2.2.2.2]) (λb o _ _ a e _=>k b o a e) (λb o _ _ a e _=>#[o.slots,k b o a e])
  (λ_ _ _ _ n=>n) (λb o a e=>#[o,k b o a e]) (λ_ _ e=>e) (λ_ _ _ e=>e) (λb ps e=>#[#[],by rw[e];simp]) (λm g=>?_) (λb u e=>?_) I.bare
 .have#[o,es,ep,h,r]:=g;exact#[o,es,ep,k _ o (λz=>(d _ z).2.1 G) h,r]
 .refine(I.ay b u e).bO (λc v a q=>k c v ?_ q) (λ_ q=>q) λ_ _ q=>q;rcases a with z|z;.rw[z];exact f b u e
  .exact f c _ z
def Inv.CH{t':Nat}{ch:List P2}{T:P2}{a:HO}(I:Inv X aa σ H s)(k:∀b o,b∉ch->s.heap.get? b=U o->h'.get? b=U o)(f:∀b∈ch,eJ X aa H b)(h:s.heap.objs.size<=T)(new:bV X.prog X.w (upd H T a) h' T a):Inv X aa σ (upd H T a) {s with heap:=h',toks:=t'}:=by
 have g:H T=O:=I.ay.fresh h;have i:∀b u,H b=U u->b∉ch:=λb u e z=>by have q:=(f b z).1;rw[q]at e;cases e
 refine I.step (g':=s.gens) (d':=s.drawn) (ch:=ch) (λb a=>#[(f b a).2.2.2.1,(f b a).2.1,(f b a).2.2.2.2.1,(f b a).2.2.2.2.2]) (λb o _ _ d e _=>k b o d e) (λb o _ _ d e _=>#[o.slots,k b o d e])
  (λb o _ e n=>?_) (λb o d e=>#[o,k b o d e]) (λb xs e=>?_) (λb o u e=>?_) (λb ps e=>#[#[],?_]) (λm j=>?_) (λb u e=>?_) I.bare
 .rw[aq<|QC<|Qx (Qi e) h];exact n
 .rw[aq<|bT e g];exact e
 .rw[aq<|bT e g];exact e
 .rw[aq<|bT e g,e];simp
 .have#[o,es,ep,h,r]:=j;exact#[o,es,ep,k _ o (λz=>(f _ z).2.1 G) h,r]
 .by_cases a:b=T;.subst a;rw[ah]at e;cases e;exact new
  .rw[aq a]at e;refine(I.ay b u e).bO (λc v d q=>k c v ?_ q) (λc q=>by rw[aq<|bT q g];exact q) λc xs q=>by rw[aq<|bT q g];exact q
   rcases d with z|z;.rw[z];exact i b u e
   .exact i c _ z
end
section
variable{X:Cx}
def yR{s:P9}{R:It->Hp->Prop}{a:Nat->Q7->Prop}{tk:Nat}(I:Inv X aa σ H s)(o:S1)(T:Turn X.prog X.w X.K tg J [s.heap.objs.size] s.heap.objs.size a)(st:a 0<|s.heap.push o)(q:R J H):qu X aa σ tg R (.ref s.heap.objs.size) {s with heap:=s.heap.push o,toks:=tk}:=by
 refine#[s.heap.objs.size,[s.heap.objs.size],a,J,H,G,I.kept λb a e=>Q7.get?_push_of_some _ e,T,st,λb a=>?_,q];have e:b=s.heap.objs.size:=by simpa using a
 subst e;exact I.kO (Qg _)<|I.ay.fresh<|Qg _
end
section
variable{X:Cx}{tg:P8}
end
section
variable{X:Cx}{tg:P8}
end
noncomputable def uR(x:QQ):It:=#[λi _=>i<x.cps.size,λi H v H'=>H'=H/\∃c,x.cps[i]?=U c/\v=.str ⟨#[c]⟩,λi _=>x.cps.size<=i]
def CG{P:Rb}{w:RO}{K:PY}{tg:P8}(it:P2)(x:QQ)(t:Tok)(ty:String)(g:ty="str_ascii_iterator"\/ty="str_iterator"):
    Turn P w K tg (uR x) [it] it (λi h=>h.IsStrIter it ty x t i) where
 mem:=by simp
 obj:=λi h st b a=>by
  have e:b=it:=by simpa using a
  subst e
  have#[o,e,c,d]:=st
  exact#[o,e,λv z=>by rw[d]at z;cases z]
 keep:=λi h h' st k=>let⟨o,f,r⟩:=st;#[o,k it (by simp) o f,r]
 item:=by
  intro X y z B f i aa s σ H E I j st C
  subst y z B
  have#[l,m,F,n,p,q]:=j it (by simp)
  have W:Walks X.prog X.w X.A it [it] [it] x.cps.size (SignAt x) λi h=>h.IsStrIter it ty x t i:=by
   rcases g with e|e
   .rw[e];exact Walks.strAscii (I.ok.hd f) it x t
   .rw[e];exact Walks.strWide (I.ok.hd f) it x t
  have J:['I',"zip",'n','T',"odict_iterator",']','f'].contains ty=false:=by
   rcases g with e|e
   .rw[e];decide
   .rw[e];decide
  refine W.item i s _ _ C st λv h' tk L D M=>?_
  have#[c,u,N,rfl]:=L
  have L:Inv X aa σ H {s with heap:=h',toks:=tk}:=I.turned (λb o a e=>M b o (by simpa using a) e) l m n p q
  have#[S,e,M,R]:=id D
  exact#[_,G,rT (s:={s with heap:=h',toks:=tk}) e M R J #[.str ⟨#[c]⟩,H,L,#[u,G],#[G,c,N,G],D,λb a=>(j b a).1]]
 done:=by
  intro X y z B f i aa s σ H E I j st C
  subst y z B
  have#[l,m,F,n,p,q]:=j it (by simp)
  have y:x.cps[i]?=O:=Array.getElem?_eq_none C
  rcases g with e|e
  .rw[e]at st
   exact wpAny_pyNext_ascii_end (I.ok.hd f) st y λh' j=>#[G,I.turned (t':=s.toks) (λb o a e=>j b o a e) l m n p q]
  .rw[e]at st
   exact wpAny_pyNext_wide_end (I.ok.hd f) st y λh' j=>#[G,I.turned (t':=s.toks) (λb o a e=>j b o a e) l m n p q]
 self:=λA i s Q E st h=>by
  rcases g with e|e
  .rw[e]at st;exact wpAny_pyIter_striter_ascii st h
  .rw[e]at st;exact wpAny_pyIter_striter_wide st h
def kS(te:TE):TI:=λσ H R=>te σ H λv H1=>∃x,v=.str x/\R (uR x) H1
def Mp{X:Cx}{tg e:P8}{te:TE}(d:PE X e te):PI X tg e<|kS te:=by
 intro aa s σ H R I h;refine az (d aa s σ H _ I h) λv a f=>e5 f λy H1 b g i=>e3 i λx ex q=>?_;subst ex;have#[t,rfl]:=g;cases c:x.cps.all (·<128);.exact wpAny_pyIter_wide c<|yR (tk:=a.toks) b _ (CG _ x t "str_iterator"<|.inr G) #[_,Q7.get?_push_size _ G,G,G] q
 .exact wpAny_pyIter_ascii c<|yR (tk:=a.toks) b _ (CG _ x t "str_ascii_iterator"<|.inl G) #[_,Q7.get?_push_size _ G,G,G] q
section
variable{prog:Rb}{w:RO}{A:Rq}{E:P7->P9->Prop}{s:P9}
end
section
variable{X:Cx}{aa:List (P2×S1)}{σ:St}{H:Hp}{s:P9}{d:P2}{o:S1}
end
section
variable{P:Rb}{w:RO}{K:PY}{tg:P8}{d:P2}{o:S1}{es:Array DictEntry}{ep:Nat}
end
section
variable{X:Cx}{tg e:P8}{td:TE}{apos cpos:SK}
end
noncomputable def uQ(K:PY)(a:P2):It:=
 #[λi H=>∃(xs:List V)(x:V),af K H a xs/\xs[i]?=U x,λi H v H'=>∃T x,v=.ref T/\H T=O/\H'=upd H T (.tup [.int (i:Nat),x])/\∀xs,af K H a xs->xs[i]?=U x,λi H=>∃xs:List V,af K H a xs/\xs.length<=i]
def ON{P:Rb}{w:RO}{K:PY}{c:List P8}{d:Nat}{tpos:SK}(a e it:P2):
    Turn P w K (.Tuple c d tpos) (uQ K a) [e,it] e (λi h=>(∃f,IsEnum h e it ((i:Nat):Int) f)/\h.IsListIter it a i/\e≠it) where
 mem:=by simp
 obj:=λi h st b c=>by
  have#[#[f,d],#[o,n,r,g],_]:=st
  have t:b=e\/b=it:=by simpa using c
  rcases t with z|z
  .rw[z];exact#[_,d,λv q=>nomatch q]
  .rw[z];exact#[o,n,λv q=>by rw[g]at q;cases q]
 keep:=λi h h' st k=>let⟨⟨f,d⟩,hi,g⟩:=st;#[#[f,k e (by simp) _ d],hi.at λo q=>k it (by simp) o q,g]
 item:=by
  intro X y B C r i aa s σ H E I j st D
  subst y B C
  have#[#[f,d],l,g]:=st
  have#[xs,x,m,F]:=D
  have#[its,J,p,N]:=I.list m
  have#[u,L,R]:=J.get F
  have M:e<s.heap.objs.size:=Qi d
  have S:it<s.heap.objs.size:=by have#[_,q,_]:=l;exact Qi q
  refine wpAny_pyNext_enum_item d l p.isList (x:=u) (by simpa using L) g λh' n T V L W=>?_
  refine#[_,G,wpAny_letOwnedTupleGo_enum (s:={s with heap:=h',toks:=s.toks+1}) n λn Y L=>?_]
  have Z:n.get? s.heap.objs.size=U {cls:=.type 'D',data:=.seq (Rc [.int i s.toks,u])}:=(L.2 _<|TZ M).trans V
  have V:bV X.prog X.w (upd H s.heap.objs.size<|.tup [.int (i:Nat),x]) n s.heap.objs.size<|.tup [.int (i:Nat),x]:=
   #[by show 2<=Qq;decide,[.int i s.toks,u],.cons #[_,G]<|.cons R .nil,#[_,Z,G,_,G]]
  have R:Inv X aa σ (upd H s.heap.objs.size<|.tup [.int (i:Nat),x]) {s with heap:=n,toks:=s.toks+1}:=
   I.CH (ch:=[e,it]) (λb n c q=>(L.2 b λz=>c<|by simp[z]).trans<|W b n (λz=>c<|by simp[z]) (λz=>c<|by simp[z]) q) j (Qg _) V
  refine#[.ref s.heap.objs.size,_,R,G,#[_,x,G,I.ay.fresh<|Qg _,G,λys n=>by rw[I.oN n m];exact F],#[#[u,?_],T.at λo q=>(L.2 it<|Q4 g).trans q,g],λb c=>?_]
  .have n:((i+1:Nat):Int)=(i:Int)+1:=by lia
   rw[n];exact Y
  .have n:b<s.heap.objs.size:=by
    have t:b=e\/b=it:=by simpa using c
    rcases t with z|z
    .rw[z];exact M
    .rw[z];exact S
   rw[aq<|QC n]
   exact(j b c).1
 done:=by
  intro X y B C r i aa s σ H E I j st D
  subst y B C
  have#[#[f,d],l,g]:=st
  have#[xs,m,F]:=D
  have#[its,J,p,N]:=I.list m
  have#[f,g,y,m,n,t]:=j it (by simp)
  have j:=J.length
  exact wpAny_pyNext_enum_end (I.ok.hd r) d l p.isList (by simp;lia) λh' j=>#[G,I.turned (t':=s.toks) (λb o c q=>j b o c q) f g m n t]
 self:=λA i s Q E st h=>let⟨⟨_,d⟩,_⟩:=st;wpAny_pyIter_enum d h
def jR(K:PY)(ta:TA):TI:=λσ H R=>ta σ H λb H1=>∃a xs,b=[.ref a]/\af K H1 a xs/\R (uQ K a) H1
def Ml{X:Cx}{e:P8}{ta:TA}{p pos tpos:SK}{i:List P8}{j:Nat}(k:Gl X 'I')(l:X.mg 'I'=O)(m:PA X [e] ta)(hs:QJ [e] X.env=[(false,Sj e X.env)]:=by rfl):
    PI X (.Tuple i j tpos) (.Call (.Name 'I' p) [e] [] pos) (jR X.K ta):=by
 intro aa s σ H R I h;refine Call_<|jj I k l boot_enumerate<|R7 (az (m pos aa s σ H _ I h) λD c n=>e5 n λE H1 d o t=>?_) hs G;have#[a,xs,ex,u,q]:=t;subst ex;cases o with
 |cons r v=>
  cases v;cases r;have#[its,F,w,J]:=d.list u;refine call_enumerate_list w.isList λh' f x K y=>wpAny_pyIter_enum f ?_;have A:Inv X aa σ H1 {c with heap:=h'}:=d.kept (t':=c.toks) y;refine#[c.heap.objs.size+1,[c.heap.objs.size+1,c.heap.objs.size],_,_,H1,G,A,ON a (c.heap.objs.size+1) c.heap.objs.size,#[#[.none,f],x,aao _],λb B=>?_,q];have C:b=c.heap.objs.size+1\/b=c.heap.objs.size:=by simpa using B
  have g:c.heap.objs.size<=b:=by
   rcases C with z|z;.rw[z];exact S9 _ _
   .rw[z];exact Qg _
  exact d.kO g<|d.ay.fresh g
def FT:Uu "zip"=U (.type "zip"):=by decide+kernel
noncomputable def uS(K:PY)(a b:P2):It:=
 #[λi H=>∃(xs ys:List V)(x y:V),af K H a xs/\af K H b ys/\xs[i]?=U x/\ys[i]?=U y,
  λi H v H'=>∃T x y,v=.ref T/\H T=O/\H'=upd H T (.tup [x,y])/\(∀xs,af K H a xs->xs[i]?=U x)/\∀ys,af K H b ys->ys[i]?=U y,
  λi H=>∃xs ys:List V,af K H a xs/\af K H b ys/\(xs.length<=i\/ys.length<=i)]
def OQ{P:Rb}{w:RO}{K:PY}{d:List P8}{e:Nat}{tpos:SK}{a b z f g i1 j:P2}(D:ZipApart z f g i1 j a b):
    Turn P w K (.Tuple d e tpos) (uS K a b) [z,f,g,i1,j] z (λi h=>IsZip h z f g .none/\IsPair h f (.ref i1) (.ref j)/\(∃x y,IsPair h g x y)/\h.IsListIter i1 a i/\h.IsListIter j b i) where
 mem:=by simp
 obj:=λi h st c B=>by
  have#[n,m,#[x,y,r],#[d,N,_,e],#[t,R,_,C]]:=st
  have S:c=z\/c=f\/c=g\/c=i1\/c=j:=by simpa using B
  rcases S with q|q|q|q|q
  .rw[q];exact#[_,n,λv q=>nomatch q]
  .rw[q];exact#[_,m,λv q=>nomatch q]
  .rw[q];exact#[_,r,λv q=>nomatch q]
  .rw[q];exact#[d,N,λv q=>by rw[e]at q;cases q]
  .rw[q];exact#[t,R,λv q=>by rw[C]at q;cases q]
 keep:=λi h h' st k=>by
  have#[n,m,#[x,y,r],h1,h2]:=st
  exact#[k z (by simp) _ n,k f (by simp) _ m,#[x,y,k g (by simp) _ r],h1.at λo q=>k i1 (by simp) o q,h2.at λo q=>k j (by simp) o q]
 item:=by
  intro X T V W B i aa s σ H E I C st Y
  subst T V W
  have#[n,m,#[x0,y0,r],h1,h2]:=st
  have#[xs,ys,x,y,F,J,hx,hy]:=Y
  have#[its,Z,p,_]:=I.list F
  have#[ac,ab,p2,_]:=I.list J
  have#[u,d,e]:=Z.get hx
  have#[L,t,ak]:=ab.get hy
  have ad:z<s.heap.objs.size:=Qi n
  refine wpAny_pyNext_zip_item D n m r h1 h2 p.isList p2.isList (x:=u) (y:=L) (by simpa using d) (by simpa using t) λh' d al am ap hT t M=>?_
  refine#[_,G,wpAny_letOwnedTupleGo_zip (s:={s with heap:=h'}) d λd av t=>?_]
  have a0:d.get? s.heap.objs.size=U {cls:=.type 'D',data:=.seq (Rc [u,L])}:=(t.2 _<|TZ ad).trans hT
  have a1:bV X.prog X.w (upd H s.heap.objs.size<|.tup [x,y]) d s.heap.objs.size<|.tup [x,y]:=
   #[by show 2<=Qq;decide,[u,L],.cons e<|.cons ak .nil,#[_,a0,G,_,G]]
  have I1:Inv X aa σ (upd H s.heap.objs.size<|.tup [x,y]) {s with heap:=d}:=
   I.CH (t':=s.toks) (ch:=[z,f,g,i1,j]) (λc o e q=>(t.2 c λd=>e<|by simp[d]).trans<|M c o (λd=>e<|by simp[d]) (λd=>e<|by simp[d]) (λd=>e<|by simp[d]) (λd=>e<|by simp[d]) q) C (Qg _) a1
  refine#[.ref s.heap.objs.size,_,I1,G,#[_,x,y,G,I.ay.fresh<|Qg _,G,λl hl=>by rw[I.oN hl F];exact hx,λl hl=>by rw[I.oN hl J];exact hy],#[av,?_,#[u,L,?_],?_,?_],λc L=>?_]
  .exact(t.2 _ D.TIz).trans<|M _ _ D.TIz D.TITO D.TIi1 D.TIi2 m
  .exact(t.2 _ D.TOz).trans al
  .exact am.at λo q=>(t.2 _ D.i1z).trans q
  .exact ap.at λo q=>(t.2 _ D.i2z).trans q
  .have t:c<s.heap.objs.size:=by
    have S:c=z\/c=f\/c=g\/c=i1\/c=j:=by simpa using L
    rcases S with q|q|q|q|q
    .rw[q];exact ad
    .rw[q];exact Qi m
    .rw[q];exact Qi r
    .rw[q];have#[_,N,_]:=h1;exact Qi N
    .rw[q];have#[_,R,_]:=h2;exact Qi R
   rw[aq<|QC t]
   exact(C c L).1
 done:=by
  intro X T V W B i aa s σ H E I C st Y
  subst T V W
  have#[n,m,#[x0,y0,r],h1,h2]:=st
  have#[xs,ys,F,J,t]:=Y
  have#[its,Z,p,_]:=I.list F
  have#[ac,ab,p2,_]:=I.list J
  have F:=Z.length
  have F:=ab.length
  have F:its.toArray[i]?=O\/ac.toArray[i]?=O:=by
   rcases t with q|q
   .exact .inl (by simp;lia)
   .exact .inr (by simp;lia)
  exact wpAny_pyNext_zip_end (I.ok.hd B) D n m r h1 h2 p.isList p2.isList F λh' M=>#[G,I.OR (t':=s.toks) (ch:=[z,f,g,i1,j]) (λc o e q=>
   M c o (λd=>e<|by simp[d]) (λd=>e<|by simp[d]) (λd=>e<|by simp[d]) (λd=>e<|by simp[d]) q) C]
 self:=λA i s Q E st h=>wpAny_pyIter_zip st.1 h
def kT(K:PY)(ta:TA):TI:=λσ H R=>ta σ H λc H1=>∃a b xs ys,c=[.ref a,.ref b]/\af K H1 a xs/\af K H1 b ys/\R (uS K a b) H1
def Mq{X:Cx}{e f:P8}{ta:TA}{p pos tpos:SK}{m:List P8}{n:Nat}(o:Gl X "zip")(t:X.mg "zip"=O)(u:PA X [e,f] ta)(hs:QJ [e,f] X.env=(false,Sj e X.env)::QJ [f] X.env:=by rfl)(v:(TM pos<|QJ [f] X.env).any (·.1)=false:=by rfl):
    PI X (.Tuple m n tpos) (.Call (.Name "zip" p) [e,f] [] pos) (kT X.K ta):=by
 intro aa s σ H R I h;refine Call_<|jj I o t FT<|R7 (az (u pos aa s σ H _ I h) λP d w=>e5 w λQ H1 g x y=>?_) hs v;have#[a,b,xs,ys,ex,A,B,q]:=y;subst ex;cases x with
 |cons r i=>
  cases i with
  |cons C i=>
   cases i;cases r;cases C;have#[its,S,j,_]:=g.list A;have#[T,V,p2,_]:=g.list B;have D:a<d.heap.objs.size:=j.lt;have E:b<d.heap.objs.size:=p2.lt;refine call_zip_2 j.isList p2.isList λh' k F J h1 h2 W K=>wpAny_pyIter_zip k ?_;have L:Inv X aa σ H1 {d with heap:=h'}:=g.kept (t':=d.toks) K;refine#[d.heap.objs.size+4,[d.heap.objs.size+4,d.heap.objs.size+2,d.heap.objs.size+3,d.heap.objs.size,d.heap.objs.size+1],_,_,H1,G,L,OQ<|PySem.W.ktu_apart d.heap.objs.size a b D E,#[k,F,#[_,_,J],h1,h2],λc M=>?_,q];have N:c=d.heap.objs.size+4\/c=d.heap.objs.size+2\/c=d.heap.objs.size+3\/c=d.heap.objs.size\/c=d.heap.objs.size+1:=by simpa using M
   have l:d.heap.objs.size<=c:=by
    rcases N with z|z|z|z|z;.rw[z];exact S9 _ _
    .rw[z];exact S9 _ _
    .rw[z];exact S9 _ _
    .rw[z];exact Qg _
    .rw[z];exact S9 _ _
   exact g.kO l<|g.ay.fresh l
section
namespace Bits
end Bits
end
section
open PySem.Builtin PySem.Builtin.Str PySem.StrLaws
noncomputable abbrev tl(x:QQ):List Nat:=x.cps.toList
def JC(x:QQ):x.length=(tl x).length:=by simp[tl,Str.length]
noncomputable def eD(n:Nat):List Nat:=(Vu 10 n).map ZG
def iJ(n:Nat):tl (Str.ofString<|toString ((n:Nat):Int))=eD n:=PySem.W.KIN.signs_num n
def v9:∀d:Nat,d<10->(YB d).toNat=48+d:=by decide
def jr{n:Nat}(h:n<10):eD n=[48+n]:=by unfold eD;rw[YG h];show[(YB n).toNat]=_;rw[v9 n h]
def js{n:Nat}(h:10<=n):eD n=eD (n/10)++[48+n%10]:=by have a:n%10<10:=W8 n (by decide);have t:Vu 10 (n/10)++Vu 10 (n%10)=Vu 10 (10*(n/10)+n%10):=Nat.toDigits_append_toDigits (by decide) ∅ a;rw[Nat.div_add_mod]at t;show(Vu 10 n).map ZG=_;rw[<-t,Sf,YG a];show(Vu 10<|n/10).map ZG++[(YB<|n%10).toNat]=_;rw[v9 _ a]<;>rfl
def jq{n k:Nat}(hk:0<k)(h:n<10^k):(eD n).length<=k:=by
 have z:=PyProof.Rows.toString_length_le (v:=(n:Int)) ∅ hk (by
  have e:((10:Int)^k)=((10^k:Nat):Int):=by
   first
    |exact(aaA 10 k).symm
    |simp
  rw[e]
  first|exact Wc.mpr h|lia)
 rw[JC,iJ]at z;exact z
end
section
variable{X:Cx}{aa:List (P2×S1)}{σ:St}{H:Hp}{s:P9}{Q:VK}
end
section
variable{X:Cx}
end
section
variable{X:Cx}{o e:P8}{to te:TE}
end
section
variable{X:Cx}
end
namespace Att
open PySem.W PySem.Calls
section
variable{prog:Rb}{w:RO}{A:Rq}{E:P7->P9->Prop}{s:P9}{K:PY}
end
end Att
def C4:∀{vs:List P7}{ns:List Int},Ux vs ns->Vals (ns.map V.int) vs:=by intro _ _ a;induction a with|nil=>exact .nil|cons n t h a=>exact .cons #[t,G] a
noncomputable def inClass(s:RY)(j:Nat):RY:=match s with|.ClassDef _ _ _ a _ _ _ _ _ _ _=>a.getD j<|.Pass #[0,0,0,0]|_=>.Pass #[0,0,0,0]
noncomputable def md(s:RY):Arguments:=match s with|.FunctionDef _ a _ _ _ _ _ _ _ _=>a|_=>{posonlyargs:=[],args:=[],vararg:=O,kwonlyargs:=[],kw_defaults:=[],kwarg:=O,defaults:=[]}
noncomputable def ie(s:RY):List RY:=match s with|.FunctionDef _ _ b _ _ _ _ _ _ _=>b|_=>[]
noncomputable def dk(s:RY):Ry:=match s with|.FunctionDef _ _ _ _ _ _ a _ _ _=>a|_=>{kind:=.function,names:=[],isGenerator:=false,isCoroutine:=false}
structure iO(K:PY)(x qual:QQ)(st:RY)(f:P2)(fd:TY):Prop where
 ex:∃(oc:P7)(od:Option P2)(kV doc pm:P7)(an:Option P2)(cdv ct:P7)(osl:Array (Option P7)),
  fd=Vc x qual (md st) (ie st) (dk st) .none kV doc pm an cdv ct/\K.lookup f=U ⟨oc,od,.func fd,osl⟩/\XC K cdv qual=true
 kp:R4 K (.ref f)=true
section
variable{P:Rb}{w:RO}{K:PY}{mg:QQ->Option P7}{base:Q7}
def iO.binds{x i:QQ}{st:RY}{f:P2}{fd:TY}{ps:List QQ}(F:iO K x i st f fd)(h:∀(a b c:P7)(d:Option P2)(e g:P7)(us:List P7),us.length=ps.length->bindArgs (Vc x i (md st) (ie st) (dk st) .none a b c d e g) #[us,[]]=pure (ps.zip us)):Binds K fd ps []:=by have#[i,j,a,b,c,d,e,g,k,rfl,lk,l]:=F.ex;exact .all<|h a b c d e g
end
section
variable{X:Cx}
end
section
variable{κ:Type}[DecidableEq κ]
end
end
local macro_rules | `(tactic| lia) => `(tactic| first | assumption | lia (config := {}) | omega (config := {}))
structure dI(h:Q7)(e T:P2)(cls:P7)(od:Option P2)(fl:P7):Prop where
 ob:∃oe vs,h.get? e=U oe/\oe.cls=cls/\oe.dict=od/\oe.data=.fields vs/\vs[1]?=U (.ref T)
 tb:∃ot ts,h.get? T=U ot/\ot.data=.fields ts/\ts[3]?=U fl
 ne:T≠e
def dI.keep{h h':Q7}(x:dI h e T cls a fl)(f:∀o,h.get? e=U o->h'.get? e=U o)(g:∀o,h.get? T=U o->h'.get? T=U o):dI h' e T cls a fl:=by have#[#[i,j,a,b],#[k,l,c,d],n]:=x;exact#[#[i,j,f _ a,b],#[k,l,g _ c,d],n]
section
variable{M:Model}{A:Rq}{E:P7->P9->Prop}{s:P9}
def nZ{a:Option P2}{Q:Unit->P9->Prop}(x:dI s.heap e T cls c fl)(h:∀h',dI h' e T cls c (a.elim .none λf=>VB f)->(∀b,b≠T->h'.get? b=s.heap.get? b)->Q () {s with heap:=h'}):Qn M A (Wl (.ref e) a) Q E s:=by have#[#[m,o,d,p,q,g,i],#[k,l,j,c,r],n]:=x;unfold Wl;refine Qb<|UR d g i ?_;rw[aaD<|by simp];have k:3<l.size:=(Array.getElem?_eq_some_iff.mp r).1;refine YM j c k ?_;have l:∀b,b≠T->(s.heap.update T (Uw (·.setIfInBounds 3 (a.elim .none λf=>VB f)))).get? b=s.heap.get? b:=λb a=>Q7.get?_update_other _ _<|Q4 a;refine h _ #[#[m,o,(l e<|Q4 n).trans d,p,q,g,i],#[_,_,Q7.get?_update_self _ j<|Wq<|VC c _,VC c _,?_],n] l;simp[k]
def Dm{env env':WI}{oe:S1}{vs:Array P7}{d:Bool}{Q:Unit->P9->Prop}(g:A.frames=U (env::outer))(hl:s.heap.FunFrames base (env::outer))(c:env.frame=U L)(j:env'.frame=U L)(f:s.heap.get? e=U oe)(hd:oe.data=.fields vs)(hsz:1<vs.size)(h:∀h' T,s.heap.get? T=O->dI h' e T oe.cls oe.dict (VB L)->(∀b o,s.heap.get? b=U o->b≠e->b∉bh (env::outer)->h'.get? b=U o)->
      (∀b o,s.heap.get? b=U o->b≠e->∃i,h'.get? b=U {o with slots:=i})->Q () {s with heap:=h'}):
    Qn M A (do let a<-WH env';let pl<-entryPlaceOf L d;let b<-Yj head a .none (VB L) .none pl;setField (.ref e) 1 b) Q E s:=by
 have m:e∉bh (env::outer):=λk=>by have#[_,o,d,l]:=hl.mem k;rw[f]at d;injection d with d;exact l vs<|d▸hd
 have d:WH env'=WH env:=by unfold WH;rw[j,c]
 rw[d];refine Qb<|wpAny_frameOf_fun g hl c λg j=>Qb<|wpAny_entryPlaceOf λpl k=>?_;unfold Yj newFields;refine Qb<|wpAny_newObj_type ?_<|k.sizeOk5 _ _ _ _ _;generalize d:({cls:=.type "traceback",dict:=O,data:=.fields ([head,QY L,.none,VB L,.none]++(if pl.isEmpty then QA 6 UX else pl)).toArray}:S1)=rec;have l:g.get? e=U oe:=(j.2.1 e m).trans f;have f:(g.push rec).get? e=U oe:=Q7.get?_push_of_some _ l;refine YM f hd hsz ?_;have m:g.objs.size≠e:=TZ<|Qi l;have p:s.heap.get? g.objs.size=O:=by refine Q7.get?_none_of_le ?_;rw[j.1];exact Qg _
 have l:=VC hd (·.setIfInBounds 1 (QY g.objs.size));have r:=Q7.get?_update_self (Uw (·.setIfInBounds 1 (QY g.objs.size))) f<|Wq l;have t:((g.push rec).update e (Uw (·.setIfInBounds 1 (QY g.objs.size)))).get? g.objs.size=U rec:=by rw[Q7.get?_update_other _ _<|Q4 m];exact Q7.get?_push_size g (by rw[<-d];rfl)
 have n:∀b o,b≠e->g.get? b=U o->((g.push rec).update e (Uw (·.setIfInBounds 1 (QY g.objs.size)))).get? b=U o:=λb o f q=>by rw[Q7.get?_update_other _ _<|Q4 f];exact Q7.get?_push_of_some _ q
 refine h _ g.objs.size p #[#[_,_,r,Obj.cls_mapFields _ _,?_,l,by simp[hsz]],#[rec,_,t,by rw[<-d],?_],m] (λb o q f c=>n b o f<|(j.2.1 b c).trans q) λb o q f=>?_;.have#[c,d,g,i]:=oe;induction g<;>rfl
 .rcases k with rfl|⟨_,_,_,_,_,_,_,rfl⟩<;>simp
 .have#[i,c]:=j.2.2 b o q;exact#[i,n b _ f c]
def Kq{env env':WI}{oe:S1}{Q:Unit->P9->Prop}(f:A.frames=U (env::outer))(hl:s.heap.FunFrames base (env::outer))(g:env.frame=U L)(a:env'.frame=U L)(c:s.heap.get? e=U oe)(hd:oe.data=.fields vs)(d:vs[1]?=U .none)(h:∀h' T,s.heap.get? T=O->dI h' e T oe.cls oe.dict (VB L)->(∀b o,s.heap.get? b=U o->b≠e->b∉bh (env::outer)->h'.get? b=U o)->
      (∀b o,s.heap.get? b=U o->b≠e->∃i,h'.get? b=U {o with slots:=i})->Q () {s with heap:=h'}):Qn M A (US (.ref e) env') Q E s:=by unfold US;erw[a];refine Qb<|UR c hd d ?_;rw[aaC<|by decide];exact Dm f hl g a c hd (Array.getElem?_eq_some_iff.mp d).1 h
def sO{env env':WI}{Q:Unit->P9->Prop}(m:A.frames=U (env::outer))(hl:s.heap.FunFrames base (env::outer))(p:env.frame=U L)(i:env'.frame=U L)(x:dI s.heap e T cls c fl)(d:(fl==VB L)=false)(g:T∉bh (env::outer))(h:∀h' a,s.heap.get? a=O->dI h' e a cls c (VB L)->(∀b o,s.heap.get? b=U o->b≠e->b≠T->b∉bh (env::outer)->h'.get? b=U o)->
      (∀b o,s.heap.get? b=U o->b≠e->b≠T->∃f,h'.get? b=U {o with slots:=f})->Q () {s with heap:=h'}):Qn M A (US (.ref e) env') Q E s:=by
 have#[#[u,v,j,q,r,k,l],#[w,t,f,g,c],n]:=x;unfold US;erw[i];refine Qb<|UR j k l ?_;rw[aaD<|by simp];refine Qb<|UR f g c ?_;rw[aaC<|by rw[d];exact Qu];refine Qb<|YM f g (Array.getElem?_eq_some_iff.mp c).1 ?_;have d:∀b,b≠T->(s.heap.update T (Uw (·.setIfInBounds 3 .none))).get? b=s.heap.get? b:=λb c=>Q7.get?_update_other _ _<|Q4 c;have u:(s.heap.update T (Uw (·.setIfInBounds 3 .none))).FunFrames base (env::outer):=hl.of_keeps λb o c v=>by refine#[o,(d b λz=>?_).trans c,G];rw[z,f]at c;injection c with c;exact v t<|c▸g
 refine Dm (s:={s with heap:=s.heap.update T (Uw (·.setIfInBounds 3 .none))}) m u p i ((d e<|Q4 n).trans j) k (Array.getElem?_eq_some_iff.mp l).1 λh' a c i j k=>?_;have l:s.heap.get? a=O:=by
  by_cases z:a=T;.exfalso;rw[z]at c;rw[Q7.get?_update_self _ f<|Wq<|VC g _]at c;cases c
  .exact(d a z).symm.trans c
 rw[q,r]at i;exact h h' a l i (λb o q a c f=>j b o ((d b c).trans q) a f) λb o q a c=>k b o ((d b c).trans q) a
def yu{env:WI}{Q:Unit->P9->Prop}(a:env.frame=U L)(x:dI s.heap e T cls c fl)(b:(fl==VB L)=true)(h:Q () s):Qn M A (US (.ref e) env) Q E s:=by have#[#[k,l,c,m,o,d,f],#[p,q,g,i,j],n]:=x;unfold US;erw[a];refine Qb<|UR c d f ?_;rw[aaD<|by simp];refine Qb<|UR g i j ?_;rw[aaD b];exact Qo h
end
def bH(P:Rb)(w:RO):gu:=λouter H s E e a=>∃(c T:P2)(cls:P7)(d:Option P2)(b:Hp),e=.ref c/\a.os=s.os/\WB a.gens/\Un (bh outer) [] H b s.heap a.heap/\bt P w b a.heap/\
 dI a.heap c T cls d .none/\b c=O/\b T=O/\s.heap.get? c=O/\s.heap.get? T=O/\E cls d b
def OH{h:Q7}(x:bV P w H h a o):∃u,h.get? a=U u:=by induction o with|lst b=>have#[_,_,_,_,e]:=x;exact#[_,e]|tup b=>have#[_,_,_,b,e,_]:=x;exact#[_,e]|dK c=>have#[_,_,_,_,b,_,_,e,_]:=x;exact#[_,e]|dT c=>have#[_,_,_,_,b,_,_,e,_]:=x;exact#[_,e]|set S n=>have#[b,_,_,_,e,_]:=x;exact#[_,e]|ins C d c=>have#[_,_,_,e,_]:=x;exact#[_,e]|own y=>exact x|xd c=>have#[_,#[_,_,_,e,_],_]:=x;exact#[_,e]|pJ c d=>have#[_,_,_,e]:=x;exact#[_,e]|c7 b u=>have#[e,_]:=x;exact#[_,e]|jz b=>exact#[_,(show h.get? a=U _ from x)]|met f y=>exact#[_,(show h.get? a=U _ from x)]|ext b=>have#[_,e,_]:=x;exact e
def jQ{h:Q7}(x:bt P w H h)(n:h.get? a=O):H a=O:=by cases q:H a with|none=>rfl|some u=>have#[o,e]:=OH<|x a u q;rw[n]at e;cases e
def wZ{h h':Q7}(x:bt P w H h)(k:∀b o,H b≠O->h.get? b=U o->h'.get? b=U o):bt P w H h':=λa o e=>
 (x a o e).bO (λb u a q=>k b u (by
  rcases a with rfl|a
  .exactλz=>by rw[z]at e;cases e
  .exactλz=>by rw[z]at a;cases a) q) (λ_ q=>q) λ_ _ q=>q
structure FX(X:Cx):Prop where
 st:X.stack=X.env::X.outer
 fr:X.env.frame=U X.env.locals
 ex:X.ex=[]
section
variable{X:Cx}{aa:List (P2×S1)}{σ:St}{H:Hp}{s:P9}
def FX.bh(fx:FX X):bh X.stack=X.env.locals::X.fs:=by unfold Z.bh;rw[fx.st,Uj,fx.fr];rfl
def iB(I:Inv X aa σ H s)(fx:FX X)(n:s.heap.get? b=O):X.aX.heap.get? b=O:=by cases q:X.aX.heap.get? b with|none=>rfl|some o=>have#[a,e]:=I.base.there b o q (by rw[fx.ex];simp);rw[n]at e;cases e
def sL(I:Inv X aa σ H s){o:S1}(e:s.heap.get? b=U o)(d:o.data=.fields vs):b∉bh X.stack:=λa=>by
 have#[_,u,q,c]:=I.stack.mem a
 rw[e]at q
 injection q with q
 exact c vs<|q▸d
def um(I:Inv X aa σ H s)(fx:FX X){h':Q7}(m1:X.aX.heap.get? ea=O)(m2:X.aX.heap.get? T=O)(k1:∀b o,s.heap.get? b=U o->b≠ea->b≠T->b∉bh X.stack->h'.get? b=U o)(k2:∀b o,s.heap.get? b=U o->b≠ea->b≠T->∃f,h'.get? b=U {o with slots:=f}):Un X.fs [] X.fh H X.aX.heap h':=by
 have a:=I.base;rw[fx.ex]at a;have ne:∀{b o},X.aX.heap.get? b=U o->b≠ea/\b≠T/\b≠X.env.locals:=λ{b o}q=>
  #[λz=>(by rw[z,m1]at q;cases q),λz=>(by rw[z,m2]at q;cases q),QC<|Qx (Qi q) I.ok.above]
 refine#[λb o q n d c=>?_,λb o q n d c=>?_,λb o q n c=>a.free b o q n c,λb o q c=>?_,a.fF,a.eQ,a.fE];.refine k1 b o (a.keep b o q n d c) (ne q).1 (ne q).2.1 ?_;rw[fx.bh];exactλz=>(Qp.mp z).elim (ne q).2.2 d
 .have#[f,e]:=a.slot b o q n d c;have#[g,d]:=k2 b _ e (ne q).1 (ne q).2.1;exact#[g,d]
 .have#[g,e]:=a.there b o q c;have#[f,d]:=k2 b g e (ne q).1 (ne q).2.1;exact#[_,d]
def rW(I:Inv X aa σ H s){h':Q7}(n1:H ea=O)(n2:H T=O)(k1:∀b o,s.heap.get? b=U o->b≠ea->b≠T->b∉bh X.stack->h'.get? b=U o):bt X.prog X.w H h':=
 wZ I.ay λb o a q=>k1 b o q (λz=>a<|by rw[z];exact n1) (λz=>a<|by rw[z];exact n2) λz=>a<|I.pT b z
def leave{E':P7->P9->Prop}(I:Inv X aa σ H s)(fx:FX X)(x:dI s.heap ea T cls h fl)(n1:H ea=O)(n2:H T=O)(m1:X.aX.heap.get? ea=O)(m2:X.aX.heap.get? T=O)(u:E cls h H):
    Qn (Qt X.prog X.w) X.A (ZO X.env<|.ref ea) (λ_ a=>bH X.prog X.w X.outer X.fh X.aX E (.ref ea) a) E' s:=by
 unfold ZO;have n:T∉bh X.stack:=by have#[_,#[d,e,b,c,_],_]:=x;exact sL I b c
 have i:∀(c:P2)(d:Q7),s.heap.get? c=O\/c=T->(∃e,dI d ea c cls h e)->(∀b o,s.heap.get? b=U o->b≠ea->b≠T->b∉bh X.stack->d.get? b=U o)->
   (∀b o,s.heap.get? b=U o->b≠ea->b≠T->∃f,d.get? b=U {o with slots:=f})->
   Qn (Qt X.prog X.w) X.A (Wl (.ref ea) O) (λ_ a=>bH X.prog X.w X.outer X.fh X.aX E (.ref ea) a) E' {s with heap:=d}:=λc d a g j k=>e2 g λe l=>by
  refine nZ (s:={s with heap:=d}) l λe v p=>?_
  have r:∀b o,s.heap.get? b=U o->b≠T->b≠c:=λb o q g z=>by
   rcases a with a|a
   .rw[z,a]at q;cases q
   .exact g<|z.trans a
  have t:∀b o,s.heap.get? b=U o->b≠ea->b≠T->b∉bh X.stack->e.get? b=U o:=λb o q m g w=>(p b<|r b o q g).trans<|j b o q m g w
  have w:∀b o,s.heap.get? b=U o->b≠ea->b≠T->∃f,e.get? b=U {o with slots:=f}:=λb o q m g=>by
   have#[f,e]:=k b o q m g
   exact#[f,(p b<|r b o q g).trans e]
  have e:H c=O:=by
   rcases a with a|a
   .exact jQ I.ay a
   .rw[a];exact n2
  have f:X.aX.heap.get? c=O:=by
   rcases a with a|a
   .exact iB I fx a
   .rw[a];exact m2
  exact#[ea,c,cls,h,H,G,I.os,I.bare,um I fx m1 m2 t w,rW I n1 n2 t,v,n1,e,m1,f,u]
 cases e:fl==VB X.env.locals with|false=>have f:=I.stack;rw[fx.st]at f;rw[fx.st]at n i;exact Qb<|sO (by rw[<-fx.st];exact I.ok.frames) f fx.fr fx.fr x e n λd c a l j k=>i c d (.inl a) #[_,l] j k|true=>refine Qb<|yu fx.fr x e ?_;exact i T s.heap (.inr G) #[_,x] (λb o q _ _ _=>q) λb o q _ _=>#[o.slots,q]
def leave_new{E':P7->P9->Prop}{oe:S1}(I:Inv X aa σ H s)(fx:FX X)(b:s.heap.get? ea=U oe)(hd:oe.data=.fields vs)(c:vs[1]?=U .none)(n1:H ea=O)(m1:X.aX.heap.get? ea=O)(k:E oe.cls oe.dict H):
    Qn (Qt X.prog X.w) X.A (ZO X.env<|.ref ea) (λ_ a=>bH X.prog X.w X.outer X.fh X.aX E (.ref ea) a) E' s:=by
 unfold ZO;have a:=I.stack;rw[fx.st]at a;refine Qb<|Kq (by rw[<-fx.st];exact I.ok.frames) a fx.fr fx.fr b hd c λg a c b e l=>?_;rw[<-fx.st]at e;refine nZ (s:={s with heap:=g}) b λg m h=>?_;have i:∀b o,s.heap.get? b=U o->b≠a:=λb o q z=>by rw[z,c]at q;cases q
 have j:∀b o,s.heap.get? b=U o->b≠ea->b≠a->b∉bh X.stack->g.get? b=U o:=λb o q d _ f=>(h b<|i b o q).trans<|e b o q d f;have n:∀b o,s.heap.get? b=U o->b≠ea->b≠a->∃f,g.get? b=U {o with slots:=f}:=λb o q d _=>by have#[f,e]:=l b o q d;exact#[f,(h b<|i b o q).trans e]
 have b:=iB I fx c;have d:=jQ I.ay c;exact#[ea,a,_,_,H,G,I.os,I.bare,um I fx m1 b j n,rW I n1 d j,m,n1,d,m1,b,k]
end
section
variable{P:Rb}{w:RO}{K:PY}{mg:QQ->Option P7}{base:Q7}{N:List QQ}{qual:QQ}{scope:Ry}{f:P2}{cd:P7}{A:Rq}{outer:List WI}{s₀:P9}{H₀:Hp}{E:XK}
def n4:FX<|dJ (bH P w) P w K mg base N qual scope f cd A outer s₀ H₀ E:=#[G,G,G]
def LS:Passes (bH P w) (dJ (bH P w) P w K mg base N qual scope f cd A outer s₀ H₀ E) E:=by intro aa σ H s e a I h;have#[n,T,o,p,b,rfl,c,d,e,g,x,i,j,k,l,m]:=h;have J:Inv (dJ (bH P w) P w K mg base N qual scope f cd A outer s₀ H₀ E) aa σ b a:=I.l6 (ch:=[]) c e g d (λb z=>absurd z<|by simp);have a:FX<|dJ (bH P w) P w K mg base N qual scope f cd A outer s₀ H₀ E:=n4;exact leave J a x i j (iB I a k) (iB I a l) m
def LR:Xh (Qt P w) (dJ (bH P w) P w K mg base N qual scope f cd A outer s₀ H₀ E).A (dJ (bH P w) P w K mg base N qual scope f cd A outer s₀ H₀ E).env (dJ (bH P w) P w K mg base N qual scope f cd A outer s₀ H₀ E).xe:=
 PassesOwn.leaving
end
noncomputable abbrev dn:List P7:=[.type 'S',.type "BaseException",.type "object"]
structure lS(K:PY)(C:P2):Prop where
 ex:∃nm q N bs hdct sn sub ab col dd k0 k1 k2 k3 k5,K.lookup C=U (SN nm q C N bs dn hdct sn sub ab col dd k0 k1 k2 k3 k5 '-')/\
  ∃o es ep,K.lookup N=U o/\o.data=.dict es ep/\StrKeys es/\Ww es ':'=O
 kp:R4 K (.ref C)=true
def kE(X:Cx)(E:XK):Prop:=∀(aa:List<|P2×S1)(d:St)(H:Hp)(s:P9)(a:P2)(b:S1)(c:Array P7),Inv X aa d H s->s.heap.get? a=U b->b.data=.fields c->c[1]?=U .none->H a=O->
 X.aX.heap.get? a=O->E b.cls b.dict H->X.xe (.ref a) s
section
variable{P:Rb}{w:RO}{K:PY}{mg:QQ->Option P7}{base:Q7}{N:List QQ}{qual:QQ}{scope:Ry}{f:P2}{cd:P7}{A:Rq}{outer:List WI}{s₀:P9}{H₀:Hp}{E:XK}
def Nc:kE (dJ (bH P w) P w K mg base N qual scope f cd A outer s₀ H₀ E) E:=λaa h H s i j k I a b c d e g=>
 leave_new I n4 a b c d e g
end
def BJ(C:P2)(E:XK)(t:TA):TS:=λ_ a H=>t a H λa b=>a.length<=Qq/\E (.ref C) O b
section
variable{X:Cx}{E:XK}{C:P2}{x:QQ}{e:P8}{es:List P8}{t:TA}{np cpos pos:SK}
def MA(i:kE X E)(fx:X.ex=[])(hc:X.calm=true)(a:lS X.K C)(c:Gl X x)(f:X.mg x=U (.ref C))(g:PA X (e::es) t)(hs:QJ (e::es) X.env=(false,Sj e X.env)::QJ es X.env)(j:(TM cpos<|QJ (e::es) X.env).any (·.1)=false)(k:(x==('5':QQ))=false):
    PS X (.Raise (U<|.Call (.Name x np) (e::es) [] cpos) O pos) (BJ C E t):=by
 intro aa s d H D I h;have#[l,q,m,n,p,r,u,v,w,y,z,A,B,D,F,lk,o,b,J,K,L,M,N]:=a.ex;refine wpAny_Raise_call_sub (C:=C) (N:=m) (nm:=l) (q:=q) (bs:=n) (hdct:=p) (sn:=r) (sub:=u) (ab:=v) (col:=w) (dd:=y) (k0:=z) (k1:=A) (k2:=B) (k3:=D) (k5:=F) (mN:=Ww b)
  XM (I.ok.hd hc) j N (kZ I c f #[G,?_] k)
 rw[hs];show Qn _ _ (evalArgs (.ref C) true ((false,Sj e X.env)::TM cpos (QJ es X.env)) []) _ _ _;have a:=g cpos aa s d H _ I h;rw[hs]at a;refine Tr<|az a λc f a=>e6 a λc g a r z q=>#[G,by rw[<-r.length];exact z,a.bJ _ _ lk,#[o,b,J,a.bJ _ _ K,L,M,λ_=>rfl],λh b c=>?_];have#[k,j,_,_]:=c.there;have k:Inv X aa d g {f with heap:=h}:=a.kept (t':=f.toks) c.keeps;have h:X.aX.heap.get? b=O:=by cases l:X.aX.heap.get? b with|none=>rfl|some m=>have#[n,f]:=a.base.there b m l (by rw[fx];simp);rw[c.new]at f;cases f
 exact i aa d g _ b _ _ k j rfl rfl (jQ a.ay c.new) h q
end
def wM{P:Rb}{w:RO}{K:PY}{mg:QQ->Option P7}{base:Q7}{x qual:QQ}{a:RY}{f:P2}{d:TY}{N c:List QQ}{k:Nat}{sp:Sp}(F:iO K x qual a f d)(S:lU N c<|dk a)(len:∀vs H Q E,sp vs H Q E->vs.length=c.length)(e:∀(b:P7)(A:Rq)(outer:List WI)(s:P9)(H:Hp)(vs:List V)(Q:VK)(E:XK),cB k (A.deeper<|XE qual (dk a) s.heap.objs.size f b)->sp vs H Q E->
      ∃t,fi (dJ (bH P w) P w K mg base N qual (dk a) f b A outer s H E) (ie a) t/\t {lk:=λ_ g=>Q .ao g,rt:=Q} (start N vs) H):ia P w K mg base (bH P w) (k+1) f d c sp:=by have#[c,d,g,h,i,j,b,l,m,rfl,lk,a]:=F.ex;exact Ij lk a S len λA outer s H vs Q E a c=>e b A outer s H vs Q E a c
inductive BO|add|sub|mul
inductive CO|lt|le|gt|ge|eq|ne|n9|pf
inductive Tg|name (i:Nat)|pair (i j:Nat)
mutual
inductive Ex(F:Type):Type
 |var(i:Nat)
 |con(v:V)
 |glob(g:F)
 |fld(e:Ex F)(f:QQ)
 |bin(op:BO)(a b:Ex F)
 |neg(a:Ex F)
 |cmp(c:Cm F)
 |l4(a b:Ex F)
 |mS(a b:Ex F)
 |mL(a:Ex F)
 |mx(t:Ts F)(a b:Ex F)
 |call(f:F)(as:cy F)
 |kJ(i:Nat)(as:cy F)
 |eU(o:Ex F)(m:F)(name:QQ)(as:cy F)
 |len(a:Ex F)
 |tupleOf(a:Ex F)
 |dictOf(a:Ex F)
 |lx(a:Ex F)
 |strOf(a:Ex F)
 |sumOf(a:Ex F)
 |k8(a:Ex F)
 |append(o a:Ex F)
 |extend(o a:Ex F)
 |lz(o a:Ex F)
 |get(o a:Ex F)
 |ix(a b:Ex F)
 |sl(a:Ex F)(lo hi:kB F)
 |lst(as:cy F)
 |tup(as:cy F)
 |lc(e:Ex F)(tg:Tg)(it:iP F)(own:List Nat)
inductive kB(F:Type):Type
 |no
 |yes(e:Ex F)
inductive cy(F:Type):Type
 |nil
 |cons(e:Ex F)(r:cy F)
inductive Cm(F:Type):Type
 |rel(op:CO)(a b:Ex F)
 |my(a:Ex F)
 |mK(a:Ex F)
 |mI(a b:Ex F)
 |chain(o p:CO)(a b c:Ex F)
inductive Ts(F:Type):Type
 |val(e:Ex F)
 |cmp(c:Cm F)
 |and(a b:Ts F)
 |or(a b:Ts F)
 |not(a:Ts F)
inductive iP(F:Type):Type
 |list(e:Ex F)
 |range(a b:Ex F)
 |lC(a:Ex F)
 |enum(e:Ex F)
 |zip(a b:Ex F)
 |str(e:Ex F)
end
inductive Hx|bl (b:Bool)|neg (n:Int)|jW (n:Int) (i:Nat) (f:QQ)
structure Hd(F:Type) where
 c:F
 h:Hx
mutual
inductive Sx(F:Type):Type
 |set(i:Nat)(e:Ex F)
 |mv(o:Ex F)(f:QQ)(e:Ex F)
 |mC(o i e:Ex F)
 |aug(i:Nat)(e:Ex F)
 |mm(o:Ex F)(f:QQ)(e:Ex F)
 |drop(e:Ex F)
 |ret(e:Ex F)
 |m3
 |pass
 |ite(t:Ts F)(a b:eK F)
 |nD(t:Ts F)(b:eK F)
 |loop(tg:Tg)(it:iP F)(b:eK F)
 |j6(c:F)(as:cy F)
 |mX(c:F)(as:cy F)
 |kj(e:Ex F)(hs:List (Hd F))
 |kl(i:Nat)(e:Ex F)(hs:List (Hd F))
inductive eK(F:Type):Type
 |nil
 |cons(s:Sx F)(r:eK F)
end
structure aO(F:Type) where
 K:PY
 gv:F->V
 fa:F->Option P2
 fn:F->Sp
 me:F->P2×Sp
 fo:P2->QQ->Prop
 xc:F->P2
 dM:F->Prop
 xo:F->QQ×Prop
def lB:BO->R2
 |.add=>λx y H Q=>match x,y with
  |.int i,.int j=>Q (.int<|i+j) H
  |.ref l,.ref b=>pB (.ref l) (.ref b) H Q
  |_,_=>False
 |.sub=>λx y H Q=>match x,y with
  |.int i,.int j=>Q (.int<|i-j) H
  |_,_=>False
 |.mul=>λx y H Q=>match x,y with
  |.int i,.int j=>lQ i j/\Q (.int<|i*j) H
  |.ref l,.int k=>tu (.ref l) (.int k) H Q
  |_,_=>False
def pD(g:Int->Int->Bool):R2:=λx y H Q=>match x,y with|.int i,.int j=>Q (.bl<|g i j) H|_,_=>False
def pC(K:PY):R2:=λx y H Q=>match x,y with|.int i,.int j=>Q (.bl<|decide (j<=i)) H|.ref a,.ref b=>∃c d:List Int,aR K H a (c.map V.int)/\aR K H b (d.map V.int)/\Q (.bl<|!lexLt c d) H|_,_=>False
def tm(K:PY):R2:=λx y H Q=>match x,y with|.ref a,.ref b=>∃c d:List Int,af K H a (c.map V.int)/\af K H b (d.map V.int)/\Q (.bl<|decide (c=d)) H|x,y=>yY x y H Q
def mW(K:PY):CO->R2|.lt=>pD λi j=>decide (i<j)|.le=>pD λi j=>decide (i<=j)|.gt=>pD λi j=>decide (j<i)|.ge=>pC K|.eq=>tm K|.ne=>yZ|.n9=>ju K false|.pf=>ju K true
def jx(t:TE):TT:=λa H Q=>t a H λx a=>match x with|.bl k=>Q k a|_=>False
def aY{F:Type}(Γ:aO F)(H:Hp)(x:V)(f:QQ)(v:V):Prop:=∃a C c b,x=.ref a/\H a=U (.ins C c b)/\Γ.fo C f/\b.lookup f=U v
def tq:V->Hp->VK->Prop:=λx H Q=>∃s:QQ,x=.str s/\s.length=1/\Q (.int (s.cps.getD 0 0:Nat)) H
def tD:V->Hp->VK->Prop:=λx H Q=>∃i:Int,x=.int i/\i.natAbs.log2<1920/\Q (.str<|toString i) H
def tV(i:Nat):TE:=λa H Q=>match a[i]? with|some (U v)=>Q v H|_=>False
def gT(K:PY):Tg->TG|.name i=>fU i|.pair i j=>wQ K 2<|rS (fU i)<|rS (fU j) wN
mutual
noncomputable def au{F:Type}(Γ:aO F)(E:XK):Ex F->TE
 |.var i=>tV i|.con v=>tC v|.glob g=>tC<|Γ.gv g|.fld e f=>λh H Q=>au Γ E e h H λx g=>∃v,aY Γ g x f v/\Q v g|.bin c a b=>jy (lB c) (au Γ E a)<|au Γ E b|.neg a=>Cs (rU λi=>.int (-i))<|au Γ E a|.cmp c=>lD Γ E c|.l4 a b=>B5 (au Γ E a)<|au Γ E b|.mS a b=>Ci (au Γ E a)<|au Γ E b|.mL a=>Cf<|au Γ E a|.mx t a b=>λh H Q=>dF Γ E t h H λc g=>if c=true then au Γ E a h g Q else au Γ E b h g Q|.call f j=>λh H Q=>dq Γ E j h H λc g=>Γ.fn f c g Q E|.kJ i j=>λh H Q=>∃f a,h[i]?=U (U<|.ref a)/\Γ.fa f=U a/\dq Γ E j h H λc g=>Γ.fn f c g Q E|.eU o m f j=>λh H Q=>au Γ E o h H λx g=>∃a k d,x=.ref a/\g a=U (.ins (Γ.me m).1 k d)/\d.lookup f=O/\dq Γ E j h g λc f=>(Γ.me m).2 (x::c) f Q E|.len a=>λh H Q=>au Γ E a h H λx g=>∃p c,x=.ref p/\(af Γ.K g p c\/aR Γ.K g p c)/\Q (.int c.length) g|.tupleOf a=>λh H Q=>au Γ E a h H λx g=>∃p c,x=.ref p/\af Γ.K g p c/\∀l,g l=O->Q (.ref l) (upd g l<|.tup c)|.dictOf a=>λh H Q=>au Γ E a h H λx g=>∃(p:P2)(ps:List P2),x=.ref p/\af Γ.K g p (ps.map V.ref)/\
   ((∃k:List<|Key×V,Paired (λq m=>aR Γ.K g q [kV m.1,m.2]) ps k/\k.length<=1000/\∀d,g d=O->Q (.ref d) (upd g d<|.dK<|eT [] k))\/
    (∃k:List<|List Key×V,Paired (λq m=>∃b,aR Γ.K g q [.ref b,m.2]/\g b=U (.tup<|m.1.map kV)) ps k/\k.length<=1000/\(k.map (·.1)).Nodup/\∀d,g d=O->Q (.ref d) (upd g d<|.dT k)))
 |.lx a=>λh H Q=>au Γ E a h H λx g=>tq x g Q|.strOf a=>λh H Q=>au Γ E a h H λx g=>tD x g Q|.sumOf a=>λh H Q=>au Γ E a h H λx g=>∃(p:P2)(ns:List Int),x=.ref p/\af Γ.K g p (ns.map V.int)/\Q (.int ns.sum) g|.k8 a=>λh H Q=>au Γ E a h H λx g=>∃(p:P2)(bs:List P2)(ks:List<|List Key),x=.ref p/\af Γ.K g p (bs.map V.ref)/\Paired (λb k=>g b=U (.tup<|k.map kV)) bs ks/\ks.length<=1000/\Q (.int ks.eraseDups.length) g|.append o a=>λh H Q=>au Γ E o h H λx g=>∃l,x=.ref l/\(∃d,af Γ.K g l d)/\au Γ E a h g λy f=>∃c,f l=U (.lst c)/\c.length<Qq/\Q .ao (upd f l<|.lst<|c++[y])|.extend o a=>λh H Q=>au Γ E o h H λx g=>∃l,x=.ref l/\(∃d,af Γ.K g l d)/\au Γ E a h g λy f=>∃b c m,y=.ref b/\f l=U (.lst c)/\(f b=U (.lst m)\/f b=U (.tup m))/\c.length+m.length<=Qq/\Q .ao (upd f l<|.lst<|c++m)|.lz o a=>λh H Q=>au Γ E o h H λx g=>∃l,x=.ref l/\(∃d,af Γ.K g l d)/\au Γ E a h g λy f=>∃(k:Nat)(c:List V)(z:V),y=.int k/\f l=U (.lst c)/\c[k]?=U z/\Q z (upd f l<|.lst<|c.eraseIdx k)|.get o a=>gZ (au Γ E o)<|au Γ E a|.ix a b=>λh H Q=>au Γ E a h H λx g=>au Γ E b h g λy f=>∃p i c v,x=.ref p/\y=.int i/\(af Γ.K f p c\/aR Γ.K f p c)/\fO c i=U v/\Q v f|.sl a b c=>Cp (tw Γ.K) (au Γ E a) (lE Γ E b)<|lE Γ E c|.lst j=>Cb<|dq Γ E j|.tup j=>Cr<|dq Γ E j|.lc e a b c=>eY (iF Γ E b) (gT Γ.K a) dH (au Γ E e) c
noncomputable def lE{F:Type}(Γ:aO F)(E:XK):kB F->TO|.no=>Cc|.yes e=>Cj<|au Γ E e
noncomputable def dq{F:Type}(Γ:aO F)(E:XK):cy F->TA|.nil=>eZ|.cons e r=>dG (au Γ E e)<|dq Γ E r
noncomputable def lD{F:Type}(Γ:aO F)(E:XK):Cm F->TE|.rel c a b=>jy (mW Γ.K c) (au Γ E a)<|au Γ E b|.my a=>Ca<|au Γ E a|.mK a=>Ce<|au Γ E a|.mI a b=>lK (au Γ E a)<|au Γ E b|.chain o p a b c=>ud (mW Γ.K o) (mW Γ.K p) (au Γ E a) (au Γ E b)<|au Γ E c
noncomputable def dF{F:Type}(Γ:aO F)(E:XK):Ts F->TT|.val e=>jx<|au Γ E e|.cmp c=>jx<|lD Γ E c|.and a b=>B4 (dF Γ E a)<|dF Γ E b|.or a b=>Cg (dF Γ E a)<|dF Γ E b|.not a=>Cd<|dF Γ E a
noncomputable def iF{F:Type}(Γ:aO F)(E:XK):iP F->TI|.list e=>gL Γ.K<|au Γ E e|.range a b=>kR<|dG (au Γ E a)<|dG (au Γ E b) eZ|.lC a=>kQ<|dG (au Γ E a) eZ|.enum e=>jR Γ.K<|dG (au Γ E e) eZ|.zip a b=>kT Γ.K<|dG (au Γ E a)<|dG (au Γ E b) eZ|.str e=>kS<|au Γ E e
end
def pF(h:Hx)(D:Ends)(c:Option P2)(H:Hp):Prop:=match h with|.bl b=>D.rt (.bl b) H|.neg n=>∀p,H p=O->D.rt (.ref p) (upd H p<|.lst [.int (-n)])|.jW n _ f=>∃d a z,c=U d/\H d=U (.xd a)/\a.lookup f=U (V.int z)/\∀p,H p=O->D.rt (.ref p) (upd H p<|.lst [.int (-n-z)])
noncomputable def fB{F:Type}(Γ:aO F)(D:Ends):List (Hd F)->XK|[]=>λ_ _ _=>False|h::r=>λa b H=>∃g,Γ.dM g/\a=.ref (Γ.xc g)/\((Γ.xc g=Γ.xc h.c/\pF h.h D b H)\/(Γ.xc g≠Γ.xc h.c/\fB Γ D r a b H))
mutual
noncomputable def f9{F:Type}(Γ:aO F)(E:XK):Sx F->TS
 |.set i e=>kh (au Γ E e)<|fU i|.mv o f e=>λD g H=>au Γ E e g H λy h=>au Γ E o g h λx c=>∃a C d b,x=.ref a/\c a=U (.ins C d b)/\Γ.fo C f/\b.length<1000/\D.lk g (upd c a<|.ins C d<|bb f y b)|.mC o i e=>kh (au Γ E e)<|wO (au Γ E o) (au Γ E i) pE|.aug i e=>B6 i (au Γ E e)<|xf λi j=>i+j|.mm o f e=>λD g H=>au Γ E o g H λx h=>∃a C d b v,x=.ref a/\h a=U (.ins C d b)/\Γ.fo C f/\b.lookup f=U v/\
   au Γ E e g h λy c=>pA v y c λz c=>∃d b,c a=U (.ins C d b)/\b.length<1000/\D.lk g (upd c a<|.ins C d<|bb f z b)
 |.drop e=>B8<|au Γ E e|.ret e=>Ck<|au Γ E e|.m3=>Cn|.pass=>pX|.ite t a b=>B9 (dF Γ E t) (iG Γ E a)<|iG Γ E b|.nD t b=>lL (dF Γ E t)<|iG Γ E b|.loop a c b=>gi (iF Γ E c) (gT Γ.K a)<|iG Γ E b|.j6 c a=>BJ (Γ.xc c) E<|dq Γ E a|.mX c a=>λ_ g H=>dq Γ E a g H λa h=>∃v,a=[v]/\(Γ.xo c).2/\∀d,h d=O->E (.ref<|Γ.xc c) (U d) (upd h d<|.xd [((Γ.xo c).1,v)])|.kj e a=>λD g H=>au Γ (fB Γ D a) e g H D.rt|.kl i e a=>λD g H=>au Γ (fB Γ D a) e g H λv h=>D.lk (g.set i<|U v) h
noncomputable def iG{F:Type}(Γ:aO F)(E:XK):eK F->TS|.nil=>pX|.cons s r=>Co (f9 Γ E s)<|iG Γ E r
end
structure bK(F:Type) where
 gl:List (QQ×F)
 fn:List (QQ×F)
 me:List (QQ×F)
 ex:List (QQ×F)
 fT:List (QQ×F)
noncomputable def gm(a:Ry)(x:QQ):Bool:=match a.names.lookup x with|some .local=>true|some .cell=>true|some .free=>true|_=>false
noncomputable def bC(a:Ry)(x:QQ):Bool:=match a.names.lookup x with|some .globalImplicit=>true|_=>false
noncomputable def fX(a:Ry)(x:QQ):Bool:=match a.names.lookup x with|some .local=>true|some .cell=>true|_=>false
noncomputable def idx:List QQ->QQ->Option Nat|[],_=>O|y::r,x=>if y=x then U 0 else(idx r x).map (·+1)
noncomputable def bN(x:QQ):Bool:=!(x==('5':QQ))&&!(x==("__classdict__":QQ))
noncomputable def dW:P8->Bool|.Call (.Name _ _) [] [] _=>false|_=>true
section
variable{F:Type}
noncomputable def kW:Tg->Bool|.name _=>false|.pair _ _=>true
noncomputable def ownOf(N:List QQ):P8->List (QQ×Nat)|.Name x _=>(idx N x).toList.map λi=>(x,i)|.Tuple [.Name x _,.Name y _] _ _=>((idx N x).toList.map λi=>(x,i))++(idx N y).toList.map λi=>(y,i)|_=>[]
noncomputable def jo:P8->Bool|.ListComp .. =>false|.SetComp .. =>false|.DictComp .. =>false|_=>true
noncomputable def uc(a:Ry)(x:QQ)(b pos:SK)(c:Ry):Bool:=
 (match a.kind with|.function=>true|_=>false)&&decide (a.names.lookup x=U .local)&&(b.line==pos.line)&&!(c.names.any λ(n,k)=>n==x&&(k==.local||k==.cell))
end
def iN(X:Cx)(fa:P2)(sp:Sp)(E:XK):Prop:=∀(aa:List<|P2×S1)(s:P9)(a:St)(H:Hp)(Q:VK)(b:List P7)(c:List V),Inv X aa a H s->Vals c b->sp c H Q E->
 Qn (Qt X.prog X.w) X.A (call (.ref fa) b) (EP X aa a Q) X.xe s
structure cW(X Y:Cx):Prop where
 prog:Y.prog=X.prog
 w:Y.w=X.w
 K:Y.K=X.K
 mg:Y.mg=X.mg
 base:Y.base=X.base
 A:Y.A=X.A
 stack:Y.stack=X.stack
def cW.refl(X:Cx):cW X X:=#[G,G,G,G,G,G,G]
def cW.trans(a:cW X Y)(b:cW Y Z):cW X Z:=#[b.prog.trans a.prog,b.w.trans a.w,b.K.trans a.K,b.mg.trans a.mg,b.base.trans a.base,b.A.trans a.A,b.stack.trans a.stack]
noncomputable def nO:List QQ:=["len",'D','7',"ord","str","sum",'_','H','I',"zip"]
structure Sd{F:Type}(Γ:aO F)(nm:bK F)(N:List QQ)(E:XK)(top:Bool)(sc:Ry)(X:Cx):Prop where
 hK:X.K=Γ.K
 hN:X.N=N
 nd:N.Nodup
 calm:X.calm=true
 m8:top=true->X.env.scope=sc
 nr:∀x,gm sc x=true->fN X.env.scope x
 cM:∀x,bC sc x=true->Gl X x
 gv:∀x g,nm.gl.lookup x=U g->∃u,X.mg x=U u/\RelV (Γ.gv g) u
 fn:∀x g,nm.fn.lookup x=U g->∃a,Γ.fa g=U a/\X.mg x=U (.ref a)
 fv:∀g a,Γ.fa g=U a->R4 X.K (.ref a)=true/\∀E' Y,cW X Y->Passes (bH X.prog X.w) Y E'->iN Y a (Γ.fn g) E'
 me:∀m g,nm.me.lookup m=U g->ed X.K (Γ.me g).1/\∃f,Meth X.K (Γ.me g).1 m f/\∀E' Y,cW X Y->Passes (bH X.prog X.w) Y E'->iN Y f (Γ.me g).2 E'
 ps:Passes (bH X.prog X.w) X E
 fo:∀C f,Γ.fo C f->ed X.K C/\fJ X.K C f
 blt:∀b,b∈nO->X.mg b=O
 un:X.A.units+64<Uq
def cP(h:bN x=true):(x==('5':QQ))=false/\(x==("__classdict__":QQ))=false:=by unfold bN at h;simpa using h
section
variable{X:Cx}
def PE.imp(h:PE X e t)(k:∀σ H Q,t' σ H Q->t σ H Q):PE X e t':=λaa s σ H Q I q=>h aa s σ H Q I<|k σ H Q q
def LN:aZ X (Vt .Add)<|lB .add:=by
 intro aa s a H x y v u Q I b c q;induction x<;>induction y<;>first
  |exact Lw aa s a H _ _ v u Q I b c #[_,_,G,G,q]
  |exact Lx aa s a H _ _ v u Q I b c q
  |exact Rx q
def LQ:aZ X (Vt .Sub)<|lB .sub:=by
 intro aa s a H x y v u Q I b c q;induction x<;>induction y<;>first
  |exact yE aa s a H _ _ v u Q I b c #[_,_,G,G,q]
  |exact Rx q
def LP:aZ X (Vt .Mult)<|lB .mul:=by
 intro aa s a H x y v u Q I b c q;induction x<;>induction y<;>first
  |exact LG aa s a H _ _ v u Q I b c #[_,_,G,G,q]
  |exact LK aa s a H _ _ v u Q I b c q
  |exact Rx q
def or_int{f:P7->P7->Sem P7}{g:Int->Int->Bool}(h:aZ X f<|iE λi j=>.bl<|g i j):aZ X f<|pD g:=by
 intro aa s a H x y v u Q I b c q;induction x<;>induction y<;>first
  |exact h aa s a H _ _ v u Q I b c #[_,_,G,G,q]
  |exact Rx q
def qo(X:Cx):Prop:=aZ X (RD .GtE) λx y H Q=>∃a b,∃c d:List Int,x=.ref a/\y=.ref b/\aR X.K H a (c.map V.int)/\aR X.K H b (d.map V.int)/\Q (.bl<|!lexLt c d) H
def LO(d:qo X):aZ X (RD .GtE)<|pC X.K:=by
 intro aa s a H x y v u Q I b c q;induction x<;>induction y<;>first
  |exact LA aa s a H _ _ v u Q I b c #[_,_,G,G,q]
  |(have#[e,f,g,h,q]:=q;exact d aa s a H _ _ v u Q I b c #[_,_,e,f,G,G,g,h,q])
  |exact Rx q
def ql(X:Cx):Prop:=aZ X (RD .Eq) λx y H Q=>∃a b,∃c d:List Int,x=.ref a/\y=.ref b/\af X.K H a (c.map V.int)/\af X.K H b (d.map V.int)/\Q (.bl<|decide (c=d)) H
theorem rF{K:PY}{H:Hp}:∀ns:List Int,jE K H (ns.map V.int) (ns.map Ut)|[]=>.nil|n::r=>.cons (.int n)<|rF r
theorem we:∀ns ms:List Int,aal (ns.map Ut) (ms.map Ut)=decide (ns=ms)|[],[]=>rfl|[],m::ms=>rfl|n::ns,[]=>rfl|n::ns,m::ms=>by erw[Ql,aal,Y6,we ns ms];rw[Rt];simp
theorem lay_ints:∀ns:List Int,Zh (ns.map Ut)=true|[]=>rfl|n::r=>by erw[Ql,Zh,XH,lay_ints r,Yy]
theorem v8:∀ns:List Int,Xx (ns.map Ut)<=1|[]=>by simp[Xx]|n::r=>by have:=v8 r;erw[Ql,Xx,WV];lia
def shaped_ints(ns:List Int):YA (.list<|ns.map Ut)=true:=by
 have h:=v8 ns;have a:WV (.list<|ns.map Ut)<=64:=by erw[WV];lia
 show(XH (.list<|ns.map Ut)&&decide (WV (.list<|ns.map Ut)<=64))=true;rw[QH];exact#[by erw[XH,lay_ints],decide_eq_true a]
def HB(e:X.A.units+64<Uq):ql X:=by intro aa s f H x y v u Q I g h q;have#[a,b,c,d,rfl,rfl,i,j,q]:=q;refine Lz e aa s f H _ _ v u Q I g h #[_,_,.lst i<|rF c,.lst j<|rF d,shaped_ints c,shaped_ints d,?_];erw[Y6,we];exact q
def or_eq(d:ql X):aZ X (RD .Eq)<|tm X.K:=by
 intro aa s a H x y v u Q I b c q;induction x<;>induction y<;>first
  |exact Ly aa s a H _ _ v u Q I b c q
  |(have#[e,f,g,h,q]:=q;exact d aa s a H _ _ v u Q I b c #[_,_,e,f,G,G,g,h,q])
end
section
variable{F:Type}{Γ:aO F}{nm:bK F}{N:List QQ}{E:XK}{top:Bool}{sc:Ry}{X:Cx}
def LZ(b:Gl X x)(c:X.mg x=U (.ref fa))(hk:R4 X.K (.ref fa)=true)(hc:iN X fa sp E)(d:PA X (e::a) t)(f:(x==('5':QQ))=false)(g:QJ (e::a) X.env=(false,Sj e X.env)::QJ a X.env)(i:(TM pos<|QJ a X.env).any (·.1)=false):
    PE X (.Call (.Name x p) (e::a) [] pos) λσ H Q=>t σ H λvs H1=>sp vs H1 Q E:=by intro aa s σ H Q I h;refine Tp<|kZ I b c ?_ f;exact Wz (h₀:=X.base) I.ok.mod.mE hk (az (d pos aa s σ H _ I h) λb c a=>e5 a λvs H1 a r q=>#[a.bJ,hc aa c σ H1 Q b vs a r q]) g i
def L0(a:Gl X x)(b:X.mg x=U (.ref fa))(hk:R4 X.K (.ref fa)=true)(hc:iN X fa sp E)(c:(x==('5':QQ))=false):
    PE X (.Call (.Name x p) [] [] pos) λσ H Q=>sp [] H Q E:=by intro aa s σ H Q I h;refine Tp<|kZ I a b ?_ c;exact Wn I.bJ hk<|hc aa s σ H Q [] [] I .nil h
def gF(h:dW o=true):Vn o f env whole=whole:=by
 cases o with
 |Call a b c p=>
  cases a with
  |Name x q=>
   induction b with
   |nil=>induction c with|nil=>cases h|cons _ _=>rfl
   |cons _ _=>rfl
  |_=>rfl
 |_=>rfl
def HC{b pos:SK}{a:List P8}(d:dW o=true)(e:(TM pos<|QJ a env).all (!·.1)=true)(g:a.length<30)(hl:(b.endLine==pos.line)=true):
    Sj (.Call (.Attribute o name b) a [] pos) env=(do
     let c<-Sj o env
     ZM b.atName
     let(f,first)<-U5 [c] (getMethod c name (do return (<-importBound o env).getD true))
     callWith pos f first (TM pos<|QJ a env) (W5 pos<|Vs [] env)):=by
 have h:Sj (.Call (.Attribute o name b) a [] pos) env=(do
   let c<-Vn o name env (Sj o env)
   ZM b.atName
   methodCall o name b pos env c (a.length+0) (TM pos<|QJ a env) (W5 pos<|Vs [] env)):=G
 rw[h,gF d];have b:methodCallForm (a.length+0) (TM pos<|QJ a env) (W5 pos<|Vs [] env)=true:=by
  delta methodCallForm;rw[e];have:a.length+0+0<30:=by lia
  have a:W5 pos (Vs [] env)=[]:=G;simp[a,g]
 delta methodCall;rw[b];delta calleeOf methodCallPos;erw[hl,aaE,QR,Bool.false_or,pure_bind]
end
structure More(X:Cx):Prop where
 ge:qo X
 eq:ql X
 HE:lW X "list.extend" λx vs H Q=>∃l b xs zs,x=.ref l/\vs=[.ref b]/\H l=U (.lst xs)/\H b=U (.tup zs)/\xs.length+zs.length<=Qq/\Q .ao (upd H l (.lst (xs++zs)))
 Ht:bU X (.type '7') λxs H Q=>∃(a:P2)(ps:List P2)(kvs:List (List Key×V)),xs=[.ref a]/\af X.K H a (ps.map V.ref)/\
  Paired (λq kv=>∃b,aR X.K H q [.ref b,kv.2]/\H b=U (.tup (kv.1.map kV))) ps kvs/\kvs.length<=1000/\(kvs.map (·.1)).Nodup/\∀p,H p=O->Q (.ref p) (upd H p (.dT kvs))
 sx:∀(p pos p' pos':SK)(e:P8)(te:TE),Gl X "len"->Gl X '_'->PE X e te->(∀es,QJ (e::es) X.env=(false,Sj e X.env)::QJ es X.env)->PE X (.Call (.Name "len" p) [.Call (.Name '_' p') [e] [] pos'] [] pos)
  λσ H Q=>te σ H λx H1=>∃(q:P2)(bs:List P2)(ks:List (List Key)),x=.ref q/\af X.K H1 q (bs.map V.ref)/\Paired (λb k=>H1 b=U (.tup (k.map kV))) bs ks/\ks.length<=1000/\Q (.int ks.eraseDups.length) H1
section
variable{F:Type}{Γ:aO F}{nm:bK F}{N:List QQ}{E:XK}{top:Bool}{sc:Ry}{X:Cx}
def tM{id:String}{r:List V->Hp->VK->Prop}{x:QQ}{p pos:SK}{e:P8}{te:TE}(hc:bU X (.builtin id) r)(b:Gl X x)(c:X.mg x=O)(d:Uu x=U (.builtin id))(f:PE X e te)(g:x≠'P')(h:(x==('5':QQ))=false)(hs:∀a,QJ (e::a) X.env=(false,Sj e X.env)::QJ a X.env):PE X (.Call (.Name x p) [e] [] pos) λσ H Q=>te σ H λy H1=>r [y] H1 Q:=
 LY hc b c d (fA f gX<|hs []) g h (hs []) rfl
def tN{r:List V->Hp->VK->Prop}(hc:bU X (.type T) r)(b:Gl X x)(c:X.mg x=O)(d:Uu x=U (.type T))(f:PE X e te)(g:x≠'P')(h:(x==('5':QQ))=false)(hs:∀a,QJ (e::a) X.env=(false,Sj e X.env)::QJ a X.env):PE X (.Call (.Name x p) [e] [] pos) λσ H Q=>te σ H λy H1=>r [y] H1 Q:=
 L1 hc b c d (fA f gX<|hs []) g h (hs []) rfl
def nV{o e:P8}(hs:∀a,QJ (e::a) env=(false,Sj e env)::QJ a env):
    ((TM b<|QJ [e] env).all (λx=>!x.1)&&(W5 b<|Vs [] env).all (λx=>x.1.isSome)&&decide (([e]:List P8).length+([]:List XT).length+(if([]:List XT).isEmpty then 0 else 1)<30))=true:=by rw[hs];rfl
def NH{b pos:SK}(d:PE X o to)(f:PE X e te)(g:dW o=true)(hl:(b.endLine==pos.line)=true)(hs:∀c,QJ (e::c) X.env=(false,Sj e X.env)::QJ c X.env):
    PE X (.Call (.Attribute o "append" b) [e] [] pos) λσ H Q=>to σ H λx H1=>∃l,x=.ref l/\(∃ys,af X.K H1 l ys)/\te σ H1 λy a=>∃xs,a l=U (.lst xs)/\xs.length<Qq/\Q .ao (upd a l<|.lst<|xs++[y]):=by intro aa s σ H Q I h;refine Wu (gF g) (nV (o:=o) hs) hl rfl<|az (d aa s σ H _ I h) λv d b=>e5 b λx H1 b c g=>e4 g λl g h i=>?_;subst g;have#[g,j]:=uj (T:='4') b c (show p6 X.K '4' (V.ref l) H1 from .inl #[G,h]);refine#['4',_,VL,YS,PySem.F.type_list_append,g,j,?_];rw[hs];refine UJ rfl<|Tr<|S7<|az (f aa d σ H1 _ b i) λb d f=>e5 f λy a f g h=>e4 h λxs h i j=>Tq ?_;exact Kc aa d σ a (.ref l) [y] v [b] Q f c (.cons g .nil) #[l,xs,y,G,G,h,i,j]
def NP{b pos:SK}(m:PE X o to)(n:PE X e te)(p:dW o=true)(hl:(b.endLine==pos.line)=true)(hs:∀c,QJ (e::c) X.env=(false,Sj e X.env)::QJ c X.env):
    PE X (.Call (.Attribute o "pop" b) [e] [] pos) λσ H Q=>to σ H λx H1=>∃l,x=.ref l/\(∃ys,af X.K H1 l ys)/\te σ H1 λy a=>∃(k:Nat)(xs:List V)(z:V),y=.int k/\a l=U (.lst xs)/\xs[k]?=U z/\Q z (upd a l<|.lst<|xs.eraseIdx k):=by
 intro aa s σ H Q I h;refine Wu (gF p) (nV (o:=o) hs) hl rfl<|az (m aa s σ H _ I h) λv q r=>e5 r λx H1 d f t=>e4 t λl u w A=>?_;subst u;have#[B,C]:=uj (T:='4') d f (show p6 X.K '4' (V.ref l) H1 from .inl #[G,w]);refine#['4',_,VL,ZA,PySem.F.type_list_pop,B,C,?_];rw[hs];refine UJ rfl<|Tr<|S7<|az (n aa q σ H1 _ d A) λD E F=>e5 F λy a g J K=>e7 K λk xs z L i j M=>Tq ?_;subst L;have R:k<xs.length:=(List.getElem?_eq_some_iff.mp j).1;have N:xs.length<=Qq:=by have#[P,_]:=g.iu i;exact P
 have S:xs.length<=2^24:=N;exact Kf aa E σ a (.ref l) [.int k] v [D] Q g f (.cons J .nil) #[l,xs,k,k,z,G,G,i,∅,∅,Ym ∅ ∅,j,M]
def NI(M:More X){g pos:SK}(u:PE X o to)(w:PE X e te)(z:dW o=true)(hl:(g.endLine==pos.line)=true)(hs:∀i,QJ (e::i) X.env=(false,Sj e X.env)::QJ i X.env):
    PE X (.Call (.Attribute o "extend" g) [e] [] pos) λσ H Q=>to σ H λx H1=>∃l,x=.ref l/\(∃ys,af X.K H1 l ys)/\te σ H1 λy a=>∃b xs c,y=.ref b/\a l=U (.lst xs)/\(a b=U (.lst c)\/a b=U (.tup c))/\xs.length+c.length<=Qq/\Q .ao (upd a l<|.lst<|xs++c):=by
 intro aa s σ H Q I h;refine Wu (gF z) (nV (o:=o) hs) hl rfl<|az (u aa s σ H _ I h) λv A B=>e5 B λx H1 j f C=>e4 C λl D E F=>?_;subst D;have#[J,K]:=uj (T:='4') j f (show p6 X.K '4' (V.ref l) H1 from .inl #[G,E]);refine#['4',_,VL,WA,PySem.F.type_list_extend,J,K,?_];rw[hs];refine UJ rfl<|Tr<|S7<|az (w aa A σ H1 _ j F) λk m L=>e5 L λy a n p N=>e8 N λb xs c P q d r t=>Tq ?_;subst P;rcases d with d|d;.exact Ke aa m σ a (.ref l) [.ref b] v [k] Q n f (.cons p .nil) #[l,b,xs,c,G,G,q,d,r,t]
 .exact M.HE aa m σ a (.ref l) [.ref b] v [k] Q n f (.cons p .nil) #[l,b,xs,c,G,G,q,d,r,t]
def NN(c:X.A.units+1<Uq){a pos:SK}(d:PE X o to)(f:PE X e te)(g:dW o=true)(hl:(a.endLine==pos.line)=true)(hs:∀b,QJ (e::b) X.env=(false,Sj e X.env)::QJ b X.env):
    PE X (.Call (.Attribute o "get" a) [e] [] pos) (gZ to te):=
 L6 c d f #[gF g,nV (o:=o) hs,hl,by rw[hs];rfl]
end
structure gq(X:Cx)(scope:Ry)(E:XK)(Y:Cx):Prop where
 dC:cW X Y
 N:Y.N=X.N
 calm:Y.calm=X.calm
 env:∃cl C,Y.env=XR scope cl C X.env
 fn:Y.fn=λx=>scope.names.lookup x==U .cell
 ps:Passes (bH X.prog X.w) Y E
def uT(E:XK)(X:Cx):Prop:=∀(d b c:P8)(a:Ry)(own:List<|QQ×Nat)(h:SK)(e:TI)(g:TG)(f:TE),PI X b c e->iM X.N X.env.scope a own->
 (∀Y,gq X a E Y->PG Y b g)->(∀Y,gq X a E Y->PE Y d f)->(∀x,TH c X.env x=pure x)->
 PE X (.ListComp d [#[b,c,[],0]] a h) (eY e g dH f (own.map (·.2)))
def LsOk(E:XK)(X:Cx):Prop:=∀(i:Nat)(y:QQ)(e f:SK)(d b c:P8)(a:Ry)(own:List<|QQ×Nat)(h:SK)(j:TI)(g:TG)(k:TE),X.N.Nodup->X.N[i]?=U y->X.env.scope.names.lookup y=U .local->
 VP (.ListComp d [#[b,c,[],0]] a h) (U<|.Name y e) f.line X.env=pure true->PI X b c j->iM X.N X.env.scope a own->
 (∀Y,gq X a E Y->PG Y b g)->(∀Y,gq X a E Y->PE Y d k)->(∀x,TH c X.env x=pure x)->
 PS X (.Assign [.Name y e] (.ListComp d [#[b,c,[],0]] a h) f) (kh (eY j g dH k (own.map (·.2)))<|fU i)
section
variable{F:Type}{Γ:aO F}{nm:bK F}{N:List QQ}{E:XK}{top:Bool}{sc:Ry}{X:Cx}
def mZ{a:Ry}(h:a.names.lookup x=U k):(relabel a env).names.lookup x=U k\/(k=.free/\(relabel a env).names.lookup x=U .cell):=by
 unfold relabel;dsimp only;generalize a.names=l at h;induction l with
 |nil=>cases h|cons p r c=>
  have#[n,a]:=p;rw[Ql];cases a:x==n with
  |true=>
   erw[Rm,a]at h;cases h;dsimp only;split;.rename_i b;refine .inr #[?_,by erw[Rm,a]];erw[QH,beq_iff_eq]at b;exact b.1.1
   .exact .inl (by erw[Rm,a])
  |false=>erw[Rm,a]at h;have:=c h;dsimp only;split<;>simpa only[Rm,a]using this
def Sd.cD(S:Sd Γ nm N E true sc X)(B:gq X scope E Y)(a:iM X.N X.env.scope scope own):Sd Γ nm N E false scope Y:=by
 have#[b,C,a]:=B.env;have c:Y.env.scope=relabel scope X.env:=by rw[a];rfl
 refine#[B.dC.K.trans S.hK,B.N.trans S.hN,S.nd,B.calm.trans S.calm,λh=>(by cases h),λx h=>?_,λx h=>?_,λx g h=>(by rw[B.dC.mg];exact S.gv x g h),λx g h=>(by rw[B.dC.mg];exact S.fn x g h),
  λg a h=>?_,λm g h=>?_,(by rw[B.dC.prog,B.dC.w];exact B.ps),λC f h=>(by rw[B.dC.K];exact S.fo C f h),λb h=>(by rw[B.dC.mg];exact S.blt b h),(by rw[B.dC.A];exact S.un)]
 .rw[c];unfold gm at h;split at h
  .rename_i e;rcases mZ (env:=X.env) e with q|⟨q,_⟩;.exact .inl q
   .cases q
  .rename_i e;rcases mZ (env:=X.env) e with q|⟨q,_⟩;.exact .inr<|.inl q
   .cases q
  .rename_i e;rcases mZ (env:=X.env) e with q|⟨_,q⟩;.exact .inr<|.inr q
   .exact .inr<|.inl q
  .cases h
 .unfold bC at h;split at h
  .rename_i e;show Y.env.scope.names.lookup x=_;rw[c];rcases mZ (env:=X.env) e with q|⟨q,_⟩;.exact q
   .cases q
  .cases h
 .have#[b,c]:=S.fv g a h;rw[B.dC.K,B.dC.prog,B.dC.w];exact#[b,λa Z d e=>c a Z (B.dC.trans d) e]
 .have#[b,f,c,i]:=S.me m g h;rw[B.dC.K,B.dC.prog,B.dC.w];exact#[b,f,c,λa Z d e=>i a Z (B.dC.trans d) e]
def pW(t:TE):jx t=pY t:=by funext σ H Q;unfold jx pY;congr 1;funext x H1;apply propext;induction x<;>simp
end
section
variable{F:Type}{Γ:aO F}{X:Cx}
def NK(fo:∀C f,Γ.fo C f->ed X.K C/\fJ X.K C f)(b:PE X e c)(d:dW e=true):PE X (.Attribute e f pos) λσ H Q=>c σ H λx H1=>∃v,aY Γ H1 x f v/\Q v H1:=by intro aa s σ H Q I h;refine vw (gF d)<|az (b aa s σ H _ I h) λu t g=>e5 g λx H1 i j k=>e3 k λv m q=>e8 m λa C w y n o ok l=>?_;subst n;obtain rfl:u=QY a:=j;exact wR i o (fo C f ok).1 (fo C f ok).2 l λz A p r=>#[v,H1,p,r,q]
def one(r:V->Hp->VK->Prop):List V->Hp->VK->Prop:=λa H Q=>match a with|[x]=>r x H Q|_=>False
def kI{r:List V->Hp->VK->Prop}{a:V->Hp->VK->Prop}(h:bU X f r)(k:∀x H Q,a x H Q->r [x] H Q):bU X f<|one a:=by intro aa s a H b c Q I d q;match b,q with|[x],q=>exact h aa s a H [x] c Q I d<|k x H Q q|[],q=>exact Rx q|_::_::_,q=>exact Rx q
def Hg:bU X (.builtin "len") (one λx H Q=>∃p xs,x=.ref p/\(af X.K H p xs\/aR X.K H p xs)/\Q (.int xs.length) H):=
 kI GK λx H Q a=>e5 a λp xs e h q=>#[p,xs,by rw[e],h,q]
def Hl:bU X (.type 'D') (one λx H Q=>∃p xs,x=.ref p/\af X.K H p xs/\∀l,H l=O->Q (.ref l) (upd H l<|.tup xs)):=
 kI GQ λx H Q a=>e5 a λp xs e h q=>#[p,xs,by rw[e],.inl #[h,q]]
def Hf(M:More X)(hc:X.calm=true):bU X (.type '7') (one λx H1 Q=>∃(p:P2)(c:List P2),x=.ref p/\af X.K H1 p (c.map V.ref)/\
      ((∃a:List<|Key×V,Paired (λq e=>aR X.K H1 q [kV e.1,e.2]) c a/\a.length<=1000/\∀d,H1 d=O->Q (.ref d) (upd H1 d<|.dK<|eT [] a))\/
       (∃a:List<|List Key×V,Paired (λq e=>∃b,aR X.K H1 q [.ref b,e.2]/\H1 b=U (.tup<|e.1.map kV)) c a/\a.length<=1000/\(a.map (·.1)).Nodup/\∀d,H1 d=O->Q (.ref d) (upd H1 d<|.dT a)))):=by
 refine kI ((GG hc).or M.Ht) λx H Q q=>?_;obtain⟨p,c,e,h,⟨a,d,f,q⟩|⟨a,d,f,g,q⟩⟩:=q;.exact .inl #[p,c,a,by rw[e],h,d,q]
 .exact .inr #[p,c,a,by rw[e],h,d,f,g,q]
def Hh:bU X (.builtin "ord")<|one tq:=kI GN λx H Q a=>e4 a λs e h q=>#[s,by rw[e],h,q]
def Hi:bU X (.type "str")<|one tD:=kI GP λx H Q a=>e4 a λi e h q=>#[i,by rw[e],h,q]
def Hk(hc:X.calm=true):bU X (.builtin "sum") (one λx H Q=>∃(p:P2)(ns:List Int),x=.ref p/\af X.K H p (ns.map V.int)/\Q (.int ns.sum) H):=
 kI (Hj hc) λx H Q a=>e5 a λp ns e h q=>#[p,ns,by rw[e],h,q]
def Jh:iQ X λx y H Q=>∃p i xs v,x=.ref p/\y=.int i/\(af X.K H p xs\/aR X.K H p xs)/\fO xs i=U v/\Q v H:=by
 intro a b aa s c H x y v u Q I d e q f;obtain⟨p,i,xs,z,g,j,h|h,k,q⟩:=q;.exact Jg a b aa s c H x y v u Q I d e #[p,xs,i,z,g,j,h,k,q] f
 .exact Ji a b aa s c H x y v u Q I d e #[p,xs,i,z,g,j,h,k,q] f
end
section
set_option backward.match.sparseCases false
structure Rules(E:XK)(X:Cx):Prop where
 more:∀Y,cW X Y->Y.calm=X.calm->More Y
 lc:uT E X
section
variable{F:Type}
noncomputable def xh:P8->Bool|.Tuple _ _ _=>true|_=>false
noncomputable def mP:P8->Bool|.Name .. =>true|.Constant .. =>true|.Attribute .. =>true|.BinOp .. =>true|.UnaryOp .. =>true|.Compare .. =>true|.BoolOp .. =>true|.IfExp .. =>true|.Call .. =>true|.Subscript .. =>true|.List .. =>true|.Tuple .. =>true|.ListComp .. =>true|_=>false
def bB{e:P8}(h:mP e=true)(a:List P8)(env:WI):QJ (e::a) env=(false,Sj e env)::QJ a env:=by cases e<;>first|rfl|cases h
def lq{e:P8}(h:mP e=true)(op:Ys):UI op e=false:=by cases e<;>first|rfl|cases h
def Kz{e:P8}(h:mP e=true):uY e:=λo i=>by
 cases e<;>first|rfl|cases h
structure Cq(Γ:aO F)(nm:bK F)(N:List QQ)(E:XK)(top:Bool)(sc:Ry)(X:Cx):Prop where
 sd:Sd Γ nm N E top sc X
 mo:More X
 rl:top=true->Rules E X
structure bu(nm:bK F)(N:List QQ)(top:Bool)(sc:Ry)(e:P8)(x:Ex F):Prop where
 pe:∀{Γ:aO F}{E:XK}{X:Cx},Cq Γ nm N E top sc X->PE X e (au Γ E x)
 fm:mP e=true
inductive cY(nm:bK F)(N:List QQ)(top:Bool)(sc:Ry):List P8->cy F->Prop
 |nil:cY nm N top sc [] .nil
 |cons{e x es r}(a:bu nm N top sc e x)(b:cY nm N top sc es r):cY nm N top sc (e::es) (.cons x r)
variable{nm:bK F}{N:List QQ}{top:Bool}{sc:Ry}{Γ:aO F}{E:XK}{X:Cx}
def Cq.CN(C:Cq Γ nm N E top sc X):X.A.units+1<Uq:=by have:=C.sd.un;lia
def cY.pa{a:List P8}{r:cy F}(h:cY nm N top sc a r)(C:Cq Γ nm N E top sc X):PA X a<|dq Γ E r:=by induction h with|nil=>exact gX|cons a _ b=>exact fA (a.pe C) b<|bB a.fm _ _
def cY.any{a:List P8}{r:cy F}(h:cY nm N top sc a r)(pos:SK)(env:WI):(TM pos<|QJ a env).any (·.1)=false:=by induction h with|nil=>rfl|cons a _ b=>rw[bB a.fm];exact b
def cY.Il{a:List P8}{r:cy F}(h:cY nm N top sc a r)(pos:SK)(env:WI):(TM pos<|QJ a env).all (!·.1)=true:=by induction h with|nil=>rfl|cons a _ b=>rw[bB a.fm];exact b
def Ga{x:QQ}{p pos:SK}{fa:P2}{sp:Sp}{a:List P8}{r:cy F}(h:cY nm N top sc a r)(C:Cq Γ nm N E top sc X)(c:Gl X x)(d:X.mg x=U (.ref fa))(hk:R4 X.K (.ref fa)=true)(hc:iN X fa sp E)(e:(x==('5':QQ))=false):PE X (.Call (.Name x p) a [] pos) λσ H Q=>dq Γ E r σ H λvs H1=>sp vs H1 Q E:=by induction h with|nil=>exact L0 c d hk hc e|cons a b=>exact LZ c d hk hc ((cY.cons a b).pa C) e (bB a.fm _ _)<|b.any pos X.env
def Gb{x:QQ}{p pos:SK}{i:Nat}{d:List P8}{r:cy F}(h:cY nm N top sc d r)(C:Cq Γ nm N E top sc X)(hi:X.N[i]?=U x)(n:fN X.env.scope x)(e:bN x=true)(hc:∀g a,Γ.fa g=U a->R4 X.K (.ref a)=true/\iN X a (Γ.fn g) E):
    PE X (.Call (.Name x p) d [] pos) λσ H Q=>∃g a,σ[i]?=U (U<|.ref a)/\Γ.fa g=U a/\dq Γ E r σ H λvs H1=>Γ.fn g vs H1 Q E:=by intro aa s σ H Q I q;have#[g,a,o,t,q]:=q;have#[f,j]:=hc g a t;refine Tp<|az (mT hi n (cP e).1 (cP e).2 aa s σ H (λv H1=>v=.ref a/\H1=H) I #[_,o,G,G]) λu k w=>e6 w λv H1 c y z A=>?_;subst z A;obtain rfl:u=QY a:=y;induction h with|nil=>exact Wn c.bJ f<|j aa k σ _ Q [] [] c .nil q|cons l b=>exact Wz (h₀:=X.base) I.ok.mod.mE f (az ((cY.cons l b).pa C pos aa k σ _ _ c q) λB D J=>e5 J λvs K m r L=>#[m.bJ,j aa D σ K Q B vs m r L]) (bB l.fm _ _)<|b.any pos X.env
def Gv{o:P8}{y:Ex F}{m:QQ}{i pos:SK}{D fa:P2}{sp:Sp}{e:List P8}{r:cy F}(h:cY nm N top sc e r)(t:bu nm N top sc o y)(C:Cq Γ nm N E top sc X)(c:ed X.K D)(f:Meth X.K D m fa)(hc:iN X fa sp E)(v:dW o=true)(w:e.length<30)(hl:(i.endLine==pos.line)=true):PE X (.Call (.Attribute o m i) e [] pos) λσ H Q=>au Γ E y σ H λx H1=>∃a j fs,x=.ref a/\H1 a=U (.ins D j fs)/\fs.lookup m=O/\dq Γ E r σ H1 λvs g=>sp (x::vs) g Q E:=by intro aa s σ H Q I q;refine PySem.W.methodCall_KW (az (t.pe C aa s σ H _ I q) λu k z=>e5 z λx H1 d A B=>e7 B λa j fs J K l q=>?_)<|HC v (h.Il pos X.env) w hl;subst J;obtain rfl:u=QY a:=A;refine Iv d K c f l ?_;induction h with|nil=>exact Wn (first:=[.ref a]) d.bJ f.kp<|hc aa k σ H1 Q [.ref a] [.ref a] d (.cons G .nil) q|cons n b=>exact Wz (first:=[.ref a]) (h₀:=X.base) I.ok.mod.mE f.kp (az ((cY.cons n b).pa C pos aa k σ H1 _ d q) λL M P=>e5 P λvs g p r R=>#[p.bJ,hc aa M σ g Q (.ref a::L) (.ref a::vs) p (.cons G r) R]) (bB n.fm _ _)<|b.any pos X.env
abbrev dy(nm:bK F)(N:List QQ)(top:Bool)(sc:Ry):Type:=(e:P8)->Option (Subtype<|bu nm N top sc e)
noncomputable def fR:(N:List QQ)->(x:QQ)->Option {i:Nat//N[i]?=U x}|[],_=>O|y::r,x=>if h:y=x then U #[0,congrArg U h]else(fR r x).bind λi=>U #[i.1+1,i.2]
noncomputable def cA(f:dy nm N top sc):(a:List P8)->Option (Subtype<|cY nm N top sc a)|[]=>U #[_,.nil]|e::a=>(f e).bind λx=>(cA f a).bind λr=>U #[_,.cons x.2 r.2]
noncomputable def cO(f:dy nm N top sc):(o:Option P8)->Option {r:kB F//∀{Γ:aO F}{E:XK}{X:Cx},Cq Γ nm N E top sc X->PO X o (lE Γ E r)}|none=>U #[.no,λ_=>Ms]|some e=>(f e).bind λx=>U #[.yes x.1,λC=>Mt<|x.2.pe C]
noncomputable def vH(f:dy nm N top sc):(vs:List P8)->Option {x:Ex F//∀{Γ:aO F}{E:XK}{X:Cx}(p:SK),Cq Γ nm N E top sc X->PE X (.BoolOp .And vs p) (au Γ E x)}|[]=>O|[e]=>(f e).bind λx=>U #[x.1,λ_ C=>yO<|x.2.pe C]|e::a::b=>(f e).bind λx=>(vH f (a::b)).bind λr=>U #[.l4 x.1 r.1,λp C=>LX (x.2.pe C)<|r.2 p C]
noncomputable def vI(f:dy nm N top sc):(vs:List P8)->Option {x:Ex F//∀{Γ:aO F}{E:XK}{X:Cx}(p:SK),Cq Γ nm N E top sc X->PE X (.BoolOp .Or vs p) (au Γ E x)}|[]=>O|[e]=>(f e).bind λx=>U #[x.1,λ_ C=>yO<|x.2.pe C]|e::a::b=>(f e).bind λx=>(vI f (a::b)).bind λr=>U #[.mS x.1 r.1,λp C=>Mc (x.2.pe C)<|r.2 p C]
abbrev DE(nm:bK F)(N:List QQ)(top:Bool)(sc:Ry)(e:P8)(t:Ts F):Prop:=∀{Γ:aO F}{E:XK}{X:Cx},Cq Γ nm N E top sc X->PT X e (dF Γ E t)
abbrev CT(nm:bK F)(N:List QQ)(top:Bool)(sc:Ry):Type:=(e:P8)->Option (Subtype<|DE nm N top sc e)
noncomputable def vJ(f:CT nm N top sc):(vs:List P8)->Option {x:Ts F//∀{Γ:aO F}{E:XK}{X:Cx}(p:SK),Cq Γ nm N E top sc X->PW X (.BoolOp .And vs p) (dF Γ E x)}|[]=>O|[e]=>(f e).bind λx=>U #[x.1,λ_ C=>MQ<|x.2 C]|e::a::b=>(f e).bind λx=>(vJ f (a::b)).bind λr=>U #[.and x.1 r.1,λp C=>MP (x.2 C)<|r.2 p C]
noncomputable def vK(f:CT nm N top sc):(vs:List P8)->Option {x:Ts F//∀{Γ:aO F}{E:XK}{X:Cx}(p:SK),Cq Γ nm N E top sc X->PW X (.BoolOp .Or vs p) (dF Γ E x)}|[]=>O|[e]=>(f e).bind λx=>U #[x.1,λ_ C=>MS<|x.2 C]|e::a::b=>(f e).bind λx=>(vK f (a::b)).bind λr=>U #[.or x.1 r.1,λp C=>MR (x.2 C)<|r.2 p C]
noncomputable def F7:(op:aam)->Option {o:BO//∀X:Cx,aZ X (Vt op) (lB o)}|.Add=>U #[.add,λ_=>LN]|.Sub=>U #[.sub,λ_=>LQ]|.Mult=>U #[.mul,λ_=>LP]|_=>O
noncomputable def rb:(op:Ys)->Option {o:CO//∀{X:Cx}{K:PY},X.K=K->More X->aZ X (RD op) (mW K o)}|.Lt=>U #[.lt,λh M=>or_int LF]|.LtE=>U #[.le,λh M=>or_int LD]|.Gt=>U #[.gt,λh M=>or_int LB]|.GtE=>U #[.ge,λh M=>h▸(LO M.ge)]|.Eq=>U #[.eq,λh M=>h▸(or_eq M.eq)]|.NotEq=>U #[.ne,λh M=>LH]|_=>O
def two{a b:P8}{op:Ys}{p:SK}{t:TE}(h:PC X op a b t)(c:UI op b=false):PE X (.Compare a [op] [b] p) t/\PT X (.Compare a [op] [b] p) (jx t):=#[L4 h c,(pW t).symm▸MH h c]
def ui{a b:P8}{op:Ys}{p:SK}{r:R2}{c d:TE}(ok:aZ X (RD op) r)(e:PE X a c)(f:PE X b d)(g:UI op b=false):PE X (.Compare a [op] [b] p) (jy r c d)/\PT X (.Compare a [op] [b] p) (jx<|jy r c d):=#[L5 ok e f g,(pW _).symm▸MI ok e f g]
def IP{K:PY}(h:X.K=K):aZ X (RD .In)<|ju K false:=h▸LC
def Kl{K:PY}(h:X.K=K):aZ X (RD .NotIn)<|ju K true:=h▸LJ
noncomputable def cC(f:dy nm N top sc)(a:P8)(ops:List Ys)(bs:List P8):Option {c:Cm F//∀{Γ:aO F}{E:XK}{X:Cx}(p:SK),Cq Γ nm N E top sc X->PE X (.Compare a ops bs p) (lD Γ E c)/\PT X (.Compare a ops bs p) (jx<|lD Γ E c)}:=
 match ops,bs with
 |[d],[b]=>(match d,b with
  |.Is,.Constant .none _ _=>(f a).bind λx=>U #[.my x.1,λp C=>two (LV<|x.2.pe C) G]
  |.IsNot,.Constant .none _ _=>(f a).bind λx=>U #[.mK x.1,λp C=>two (LW<|x.2.pe C) G]
  |.In,b=>if xh b=true then(f a).bind λx=>(f b).bind λy=>U #[.rel .n9 x.1 y.1,λp C=>ui (IP C.sd.hK) (x.2.pe C) (y.2.pe C)<|lq y.2.fm _]else O
  |.NotIn,b=>if xh b=true then(f a).bind λx=>(f b).bind λy=>U #[.rel .pf x.1 y.1,λp C=>ui (Kl C.sd.hK) (x.2.pe C) (y.2.pe C)<|lq y.2.fm _]
   else(f a).bind λx=>(f b).bind λy=>U #[.mI x.1 y.1,λp C=>two (LU C.CN (x.2.pe C)<|y.2.pe C)<|lq y.2.fm _]
  |d,b=>(rb d).bind λo=>(f a).bind λx=>(f b).bind λy=>U #[.rel o.1 x.1 y.1,λp C=>ui (o.2 C.sd.hK C.mo) (x.2.pe C) (y.2.pe C)<|lq y.2.fm _])
 |[o,p],[b,c]=>(rb o).bind λd=>(rb p).bind λe=>(f a).bind λx=>(f b).bind λy=>(f c).bind λz=>U #[.chain d.1 e.1 x.1 y.1 z.1,λq C=>#[L3 (d.2 C.sd.hK C.mo) (e.2 C.sd.hK C.mo) (x.2.pe C) (y.2.pe C) (z.2.pe C)<|lq z.2.fm _,(pW _).symm▸MG (d.2 C.sd.hK C.mo) (e.2 C.sd.hK C.mo) (x.2.pe C) (y.2.pe C) (z.2.pe C) (lq z.2.fm _)]]|_,_=>O
noncomputable def yz:P8->Bool|.Name .. =>true|.Call .. =>true|.Attribute .. =>true|.Subscript .. =>true|_=>false
def O3{e:P8}{t:TE}(h:yz e=true)(a:PE X e t):PT X e<|jx t:=by rw[pW];cases e<;>first|exact MK a|cases h
noncomputable def cT(f:dy nm N top sc):Nat->CT nm N top sc
 |0,_=>O|n+1,e=>match e with
  |.BoolOp .And a p=>(vJ (cT f n) a).bind λx=>U #[x.1,λC=>(x.2 p C).pt]
  |.BoolOp .Or a p=>(vK (cT f n) a).bind λx=>U #[x.1,λC=>(x.2 p C).pt]
  |.UnaryOp .Not a _=>(cT f n a).bind λx=>U #[.not x.1,λC=>MJ<|x.2 C]
  |.Compare a b c p=>(cC f a b c).bind λc=>U #[.cmp c.1,λC=>(c.2 p C).2]
  |e=>if h:yz e=true then(f e).bind λx=>U #[.val x.1,λC=>O3 h<|x.2.pe C]else O
structure jJ(N:List QQ)(ok:QQ->Bool)(tg:P8)(g:Tg):Prop where
 pg:∀{X:Cx}{K:PY},X.N=N->N.Nodup->X.calm=true->X.K=K->(∀x,ok x=true->Loc X.env.scope x/\(X.fn x=true\/X.env.scope.names.lookup x=U .local))->PG X tg (gT K g)
 tp:kW g=true->∃es k p,tg=.Tuple es k p
noncomputable def vL(N:List QQ)(ok:QQ->Bool):(a:P8)->Option (Subtype<|jJ N ok a)
 |.Name x _=>if a:ok x=true then(fR N x).bind λi=>U #[.name i.1,λc d e f b=>tj (c▸d) (c▸i.2) (b _ a).1 (b _ a).2,nofun]else O|.Tuple [.Name x _,.Name y _] _ _=>if a:ok x=true/\ok y=true then(fR N x).bind λi=>(fR N y).bind λj=>U #[.pair i.1 j.1,λc d e f b=>by
   subst c f
   exact Mi e<|yQ (tj d i.2 (b _ a.1).1 (b _ a.1).2)<|yQ (tj d j.2 (b _ a.2).1 (b _ a.2).2) Mj,λ_=>#[_,_,_,G]]else O
 |_=>O
def oK{K:PY}(h:X.K=K){a e:P8}{t:TE}(b:PE X e t):PI X a e<|gL K t:=by subst h;exact Mm b
noncomputable def yy:P8->Bool|.Name .. =>true|.Attribute .. =>true|.Subscript .. =>true|_=>false
def Jf{e:P8}(h:yy e=true)(env:WI)(x:P7):TH e env x=pure x:=by cases e<;>first|rfl|cases h
abbrev lX(nm:bK F)(N:List QQ)(top:Bool)(sc:Ry)(b a:P8)(r:iP F):Prop:=∀{Γ:aO F}{E:XK}{X:Cx},Cq Γ nm N E top sc X->PI X b a (iF Γ E r)/\∀x,TH a X.env x=pure x
def IG(C:Cq Γ nm N E top sc X){ok:QQ->Bool}{g:Tg}{b:P8}(c:jJ N ok b g)(hp:kW g=true){x:QQ}(d:x='I'){p q:SK}(e:bC sc x=true){a:P8}{u:Ex F}(A:bu nm N top sc a u):PI X b (.Call (.Name x p) [a] [] q)<|iF Γ E<|.enum u:=by subst d;have#[b,k,d,rfl]:=c.tp hp;have#[K,b,c,d,f,h,i,j,k]:=Γ;obtain rfl:X.K=K:=C.sd.hK;exact Ml (C.sd.cM _ e) (C.sd.blt _<|by decide) (fA (A.pe C) gX<|bB A.fm [] _) (by rw[bB A.fm];rfl)
def IJ(C:Cq Γ nm N E top sc X){ok:QQ->Bool}{g:Tg}{c:P8}(d:jJ N ok c g)(hp:kW g=true){x:QQ}(e:x="zip"){p q:SK}(f:bC sc x=true){a b:P8}{u v:Ex F}(A:bu nm N top sc a u)(B:bu nm N top sc b v):PI X c (.Call (.Name x p) [a,b] [] q)<|iF Γ E<|.zip u v:=by subst e;have#[c,k,e,rfl]:=d.tp hp;have#[K,c,d,e,h,i,j,k,l]:=Γ;obtain rfl:X.K=K:=C.sd.hK;exact Mq (C.sd.cM _ f) (C.sd.blt _<|by decide) (fA (A.pe C) (fA (B.pe C) gX<|bB B.fm [] _)<|bB A.fm _ _) (bB A.fm _ _) (by rw[bB B.fm];rfl)
def II(C:Cq Γ nm N E top sc X){c:P8}{x:QQ}(d:x='H'){p q:SK}(e:bC sc x=true){a b:P8}{u v:Ex F}(A:bu nm N top sc a u)(B:bu nm N top sc b v):PI X c (.Call (.Name x p) [a,b] [] q)<|iF Γ E<|.range u v:=by subst d;exact Mo (C.sd.cM _ e) (C.sd.blt _<|by decide) (fA (A.pe C) (fA (B.pe C) gX<|bB B.fm [] _)<|bB A.fm _ _) (by rw[bB A.fm,bB B.fm];rfl) (by rw[bB B.fm];rfl)
def IH(C:Cq Γ nm N E top sc X){b:P8}{x:QQ}(c:x='H'){p q:SK}(d:bC sc x=true){a:P8}{u:Ex F}(A:bu nm N top sc a u):PI X b (.Call (.Name x p) [a] [] q)<|iF Γ E<|.lC u:=by subst c;exact Mn (C.sd.cM _ d) (C.sd.blt _<|by decide) (fA (A.pe C) gX<|bB A.fm [] _) (by rw[bB A.fm];rfl)
noncomputable def F5(f:dy nm N top sc){ok:QQ->Bool}{b:P8}(g:Subtype<|jJ N ok b)(x:QQ)(p q:SK)(d:bC sc x=true)(hp:kW g.1=true):(c:List P8)->Option (Subtype<|lX nm N top sc b<|.Call (.Name x p) c [] q)|[a]=>if c:x='I'then(f a).bind λu=>U #[.enum u.1,λC=>#[IG C g.2 hp c d u.2,λ_=>rfl]]else O|[a,b]=>if c:x="zip"then(f a).bind λu=>(f b).bind λv=>U #[.zip u.1 v.1,λC=>#[IJ C g.2 hp c d u.2 v.2,λ_=>rfl]]else O|_=>O
noncomputable def F4(f:dy nm N top sc){c:P8}(x:QQ)(p q:SK)(d:bC sc x=true):(as:List P8)->Option (Subtype<|lX nm N top sc c<|.Call (.Name x p) as [] q)|[a,b]=>if c:x='H'then(f a).bind λu=>(f b).bind λv=>U #[.range u.1 v.1,λC=>#[II C c d u.2 v.2,λ_=>rfl]]else(f<|.Call (.Name x p) [a,b] [] q).bind λu=>U #[.list u.1,λC=>#[oK C.sd.hK<|u.2.pe C,λ_=>rfl]]|[a]=>if c:x='H'then(f a).bind λu=>U #[.lC u.1,λC=>#[IH C c d u.2,λ_=>rfl]]else if x="str"then(f<|.Call (.Name x p) [a] [] q).bind λu=>U #[.str u.1,λC=>#[Mp<|u.2.pe C,λ_=>rfl]]else(f<|.Call (.Name x p) [a] [] q).bind λu=>U #[.list u.1,λC=>#[oK C.sd.hK<|u.2.pe C,λ_=>rfl]]|as=>(f<|.Call (.Name x p) as [] q).bind λu=>U #[.list u.1,λC=>#[oK C.sd.hK<|u.2.pe C,λ_=>rfl]]
noncomputable def cI(f:dy nm N top sc){ok:QQ->Bool}{a:P8}(g:Subtype<|jJ N ok a):(c:P8)->Option (Subtype<|lX nm N top sc a c)|.Call (.Name x p) b [] q=>if a:bC sc x=true then(if hp:kW g.1=true then F5 f g x p q a hp b else F4 f x p q a b)else O|e=>if h:yy e=true then(if kW g.1=true then O else(f e).bind λu=>U #[.list u.1,λC=>#[oK C.sd.hK<|u.2.pe C,Jf h _]])else O
def Ov{i:Nat}{σ:St}{H:Hp}{Q:VK}(q:tV i σ H Q):ni i σ H Q:=by
 unfold tV at q;split at q;.exact#[_,by assumption,q]
 .exact q.elim
def GC(C:Cq Γ nm N E top sc X){x:QQ}{p:SK}{i:Nat}(a:bN x=true)(b:gm sc x=true)(hi:N[i]?=U x):PE X (.Name x p)<|au Γ E<|.var i:=
 PE.imp (mT (by rw[C.sd.hN];exact hi) (C.sd.nr x b) (cP a).1 (cP a).2) λ_ _ _ q=>Ov q
def Gi(C:Cq Γ nm N E top sc X){x:QQ}{p:SK}{g:F}(a:bN x=true)(b:bC sc x=true)(h:nm.gl.lookup x=U g):PE X (.Name x p)<|au Γ E<|.glob g:=by have#[u,c,d]:=C.sd.gv x g h;exact L7 (C.sd.cM x b) c d (cP a).1
def Gf(C:Cq Γ nm N E top sc X){x:QQ}{p q:SK}{g:F}{a:List P8}{r:cy F}(b:bN x=true)(c:bC sc x=true)(d:nm.fn.lookup x=U g)(A:cY nm N top sc a r):PE X (.Call (.Name x p) a [] q)<|au Γ E<|.call g r:=by have#[a,e,f]:=C.sd.fn _ g d;have#[d,h]:=C.sd.fv g a e;exact Ga A C (C.sd.cM _ c) f d (h E X (cW.refl X) C.sd.ps) (cP b).1
def Gg(C:Cq Γ nm N E top sc X){x:QQ}{p q:SK}{i:Nat}{a:List P8}{r:cy F}(b:bN x=true)(c:gm sc x=true)(hi:N[i]?=U x)(A:cY nm N top sc a r):PE X (.Call (.Name x p) a [] q)<|au Γ E<|.kJ i r:=
 Gb A C (by rw[C.sd.hN];exact hi) (C.sd.nr _ c) b λg a b=>#[(C.sd.fv g a b).1,(C.sd.fv g a b).2 E X (cW.refl X) C.sd.ps]
def Gu(C:Cq Γ nm N E top sc X){m:QQ}{p q:SK}{g:F}{o:P8}{y:Ex F}{a:List P8}{r:cy F}(b:nm.me.lookup m=U g)(c:bu nm N top sc o y)(A:cY nm N top sc a r)(d:dW o=true)(e:a.length<30)(hl:(p.endLine==q.line)=true):PE X (.Call (.Attribute o m p) a [] q)<|au Γ E<|.eU y g m r:=by have#[a,i,f,h]:=C.sd.me m g b;exact Gv A c C a f (h E X (cW.refl X) C.sd.ps) d e hl
def Gp(C:Cq Γ nm N E top sc X){x:QQ}{p q:SK}{a:P8}{u:Ex F}(b:bN x=true)(c:bC sc x=true)(A:bu nm N top sc a u)(d:x="len"):PE X (.Call (.Name x p) [a] [] q)<|au Γ E<|.len u:=by subst d;have#[K,d,e,f,g,h,i,j,k]:=Γ;obtain rfl:X.K=K:=C.sd.hK;exact tM Hg (C.sd.cM _ c) (C.sd.blt _<|by decide) PySem.boot_len (A.pe C) (by decide) (cP b).1 λb=>bB A.fm b _
def GB(C:Cq Γ nm N E top sc X){x:QQ}{p q:SK}{a:P8}{u:Ex F}(b:bN x=true)(c:bC sc x=true)(A:bu nm N top sc a u)(d:x='D'):PE X (.Call (.Name x p) [a] [] q)<|au Γ E<|.tupleOf u:=by subst d;have#[K,d,e,f,g,h,i,j,k]:=Γ;obtain rfl:X.K=K:=C.sd.hK;exact tN Hl (C.sd.cM _ c) (C.sd.blt _<|by decide) (by decide+kernel) (A.pe C) (by decide) (cP b).1 λb=>bB A.fm b _
def Gd(C:Cq Γ nm N E top sc X){x:QQ}{p q:SK}{a:P8}{u:Ex F}(b:bN x=true)(c:bC sc x=true)(A:bu nm N top sc a u)(d:x='7'):PE X (.Call (.Name x p) [a] [] q)<|au Γ E<|.dictOf u:=by subst d;have#[K,d,e,f,g,h,i,j,k]:=Γ;obtain rfl:X.K=K:=C.sd.hK;exact tN (Hf C.mo C.sd.calm) (C.sd.cM _ c) (C.sd.blt _<|by decide) (by decide+kernel) (A.pe C) (by decide) (cP b).1 λb=>bB A.fm b _
def Gw(C:Cq Γ nm N E top sc X){x:QQ}{p q:SK}{a:P8}{u:Ex F}(b:bN x=true)(c:bC sc x=true)(A:bu nm N top sc a u)(d:x="ord"):PE X (.Call (.Name x p) [a] [] q)<|au Γ E<|.lx u:=by subst d;exact tM Hh (C.sd.cM _ c) (C.sd.blt _<|by decide) (by decide+kernel) (A.pe C) (by decide) (cP b).1 λb=>bB A.fm b _
def Gz(C:Cq Γ nm N E top sc X){x:QQ}{p q:SK}{a:P8}{u:Ex F}(b:bN x=true)(c:bC sc x=true)(A:bu nm N top sc a u)(d:x="str"):PE X (.Call (.Name x p) [a] [] q)<|au Γ E<|.strOf u:=by subst d;exact tN Hi (C.sd.cM _ c) (C.sd.blt _<|by decide) (by decide+kernel) (A.pe C) (by decide) (cP b).1 λb=>bB A.fm b _
def GA(C:Cq Γ nm N E top sc X){x:QQ}{p q:SK}{a:P8}{u:Ex F}(b:bN x=true)(c:bC sc x=true)(A:bu nm N top sc a u)(d:x="sum"):PE X (.Call (.Name x p) [a] [] q)<|au Γ E<|.sumOf u:=by subst d;have#[K,d,e,f,g,h,i,j,k]:=Γ;obtain rfl:X.K=K:=C.sd.hK;exact tM (Hk C.sd.calm) (C.sd.cM _ c) (C.sd.blt _<|by decide) (by decide+kernel) (A.pe C) (by decide) (cP b).1 λb=>bB A.fm b _
def Gr(C:Cq Γ nm N E top sc X){x:QQ}{p q c d:SK}{a:P8}{u:Ex F}(e:bC sc x=true)(f:bC sc '_'=true)(A:bu nm N top sc a u)(g:x="len"){b:P8}(h:b=.Call (.Name '_' c) [a] [] d):PE X (.Call (.Name x p) [b] [] q)<|au Γ E<|.k8 u:=by subst g h;have#[K,c,d,g,h,i,j,k,l]:=Γ;obtain rfl:X.K=K:=C.sd.hK;exact C.mo.sx _ _ _ _ _ _ (C.sd.cM _ e) (C.sd.cM _ f) (A.pe C) λc=>bB A.fm c _
noncomputable def O0:(e:P8)->Option {a:P8×SK×SK//e=.Call (.Name '_' a.2.1) [a.1] [] a.2.2}|.Call (.Name x p) [a] [] q=>if h:x='_'then U #[(a,p,q),by subst h;rfl]else O|_=>O
noncomputable def F1(f:dy nm N top sc)(x:QQ)(p q:SK)(d:bN x=true)(c:bC sc x=true)(a:P8):Option {u:Ex F//∀{Γ:aO F}{E:XK}{X:Cx},Cq Γ nm N E top sc X->PE X (.Call (.Name x p) [a] [] q) (au Γ E u)}:=
 if b:x="len"then(match O0 a with
 |some v=>if e:bC sc '_'=true then(f v.1.1).bind λu=>U #[.k8 u.1,λC=>Gr C c e u.2 b v.2]else O|none=>(f a).bind λu=>U #[.len u.1,λC=>Gp C d c u.2 b])
 else(f a).bind λu=>
 if b:x='D'then U #[.tupleOf u.1,λC=>GB C d c u.2 b]
 else if b:x='7'then U #[.dictOf u.1,λC=>Gd C d c u.2 b]
 else if b:x="ord"then U #[.lx u.1,λC=>Gw C d c u.2 b]
 else if b:x="str"then U #[.strOf u.1,λC=>Gz C d c u.2 b]
 else if b:x="sum"then U #[.sumOf u.1,λC=>GA C d c u.2 b]
 else O
def F9(C:Cq Γ nm N E top sc X){m:QQ}{p q:SK}{o a:P8}{y u:Ex F}(b:bu nm N top sc o y)(A:bu nm N top sc a u)(c:dW o=true)(hl:(p.endLine==q.line)=true)(d:m="append"):PE X (.Call (.Attribute o m p) [a] [] q)<|au Γ E<|.append y u:=by subst d;have#[K,d,e,f,g,h,i,j,k]:=Γ;obtain rfl:X.K=K:=C.sd.hK;exact NH (b.pe C) (A.pe C) c hl λb=>bB A.fm b _
def Ge(C:Cq Γ nm N E top sc X){m:QQ}{p q:SK}{o a:P8}{y u:Ex F}(b:bu nm N top sc o y)(A:bu nm N top sc a u)(c:dW o=true)(hl:(p.endLine==q.line)=true)(d:m="extend"):PE X (.Call (.Attribute o m p) [a] [] q)<|au Γ E<|.extend y u:=by subst d;have#[K,d,e,f,g,h,i,j,k]:=Γ;obtain rfl:X.K=K:=C.sd.hK;exact NI C.mo (b.pe C) (A.pe C) c hl λb=>bB A.fm b _
def Gx(C:Cq Γ nm N E top sc X){m:QQ}{p q:SK}{o a:P8}{y u:Ex F}(b:bu nm N top sc o y)(A:bu nm N top sc a u)(c:dW o=true)(hl:(p.endLine==q.line)=true)(d:m="pop"):PE X (.Call (.Attribute o m p) [a] [] q)<|au Γ E<|.lz y u:=by subst d;have#[K,d,e,f,g,h,i,j,k]:=Γ;obtain rfl:X.K=K:=C.sd.hK;exact NP (b.pe C) (A.pe C) c hl λb=>bB A.fm b _
def Gh(C:Cq Γ nm N E top sc X){m:QQ}{p q:SK}{o a:P8}{y u:Ex F}(b:bu nm N top sc o y)(A:bu nm N top sc a u)(c:dW o=true)(hl:(p.endLine==q.line)=true)(d:m="get"):PE X (.Call (.Attribute o m p) [a] [] q)<|au Γ E<|.get y u:=by subst d;exact NN C.CN (b.pe C) (A.pe C) c hl λb=>bB A.fm b _
abbrev qp(nm:bK F)(N:List QQ)(top:Bool)(sc:Ry)(e:P8)(u:Ex F):Prop:=∀{Γ:aO F}{E:XK}{X:Cx},Cq Γ nm N E top sc X->PE X e (au Γ E u)
noncomputable def F6(f:dy nm N top sc)(o:P8)(m:QQ)(p q:SK)(b:dW o=true)(hl:(p.endLine==q.line)=true):(c:List P8)->Option (Subtype<|qp nm N top sc<|.Call (.Attribute o m p) c [] q)
 |[a]=>(f o).bind λy=>(f a).bind λu=>
  if hm:m="append"then U #[.append y.1 u.1,λC=>F9 C y.2 u.2 b hl hm]
  else if hm:m="extend"then U #[.extend y.1 u.1,λC=>Ge C y.2 u.2 b hl hm]
  else if hm:m="get"then U #[.get y.1 u.1,λC=>Gh C y.2 u.2 b hl hm]
  else if hm:m="pop"then U #[.lz y.1 u.1,λC=>Gx C y.2 u.2 b hl hm]
  else O
 |_=>O
noncomputable def F3(f:dy nm N top sc)(x:QQ)(p q:SK)(b:List P8):Option<|Subtype<|qp nm N top sc<|.Call (.Name x p) b [] q:=
 if c:bN x=true then(if d:bC sc x=true then(match(nm.fn.lookup x).attach with
 |some g=>(cA f b).bind λr=>U #[.call g.1 r.1,λC=>Gf C c d g.2 r.2]|none=>(match b with
  |[a]=>F1 f x p q c d a
  |_=>O))
 else if a:gm sc x=true then(fR N x).bind λi=>(cA f b).bind λr=>U #[.kJ i.1 r.1,λC=>Gg C c a i.2 r.2]
 else O)else O
noncomputable def F2(f:dy nm N top sc)(o:P8)(m:QQ)(p q:SK)(a:List P8):Option<|Subtype<|qp nm N top sc<|.Call (.Attribute o m p) a [] q:=
 if h:dW o=true/\(p.endLine==q.line)=true/\a.length<30 then(match(nm.me.lookup m).attach with|some g=>(f o).bind λy=>(cA f a).bind λr=>U #[.eU y.1 g.1 m r.1,λC=>Gu C g.2 y.2 r.2 h.1 h.2.2 h.2.1]|none=>F6 f o m p q h.1 h.2.1 a)else O
def Gy(C:Cq Γ nm N E top sc X){a:P8}{lo hi:Option P8}{p q:SK}{u:Ex F}{l h:kB F}(A:bu nm N top sc a u)(L:PO X lo<|lE Γ E l)(H:PO X hi<|lE Γ E h):PE X (.Subscript a (.Slice lo hi O p) q)<|au Γ E<|.sl u l h:=by have#[K,b,c,d,e,f,g,i,j]:=Γ;obtain rfl:X.K=K:=C.sd.hK;exact Md N9 (A.pe C) L H
def Gj(C:Cq Γ nm N E top sc X){a b:P8}{q:SK}{u v:Ex F}(A:bu nm N top sc a u)(B:bu nm N top sc b v):PE X (.Subscript a b q)<|au Γ E<|.ix u v:=by have#[K,c,d,e,f,g,h,i,j]:=Γ;obtain rfl:X.K=K:=C.sd.hK;exact L9 Jh (A.pe C) (B.pe C)<|Kz B.fm
structure nH(nm:bK F)(N:List QQ)(sc:Ry)(elt tg it:P8)(scope:Ry)(x:Ex F):Prop where
 lc:∀{Γ:aO F}{E:XK}{X:Cx},Cq Γ nm N E true sc X->∃wi g te,au Γ E x=eY wi g dH te ((ownOf N tg).map (·.2))/\PI X tg it wi/\iM X.N X.env.scope scope (ownOf N tg)/\(∀Y,gq X scope E Y->PG Y tg g)/\(∀Y,gq X scope E Y->PE Y elt te)/\∀x,TH it X.env x=pure x
def Ju{b:Ry}{c a d:P8}{g:Tg}{i:iP F}{y:Ex F}(e:nN N sc b (ownOf N a)=true)(f:jJ N (λx=>decide (b.names.lookup x=U .local)) a g)(I:lX nm N true sc a d i)(Y:bu nm N false b c y):nH nm N sc c a d b (.lc y g i ((ownOf N a).map (·.2))):=by
 refine⟨λ{Γ E X}C=>?_⟩;have c:iM X.N X.env.scope b<|ownOf N a:=by rw[C.sd.hN,C.sd.m8 G];exact FP e
 refine#[_,_,_,G,(I C).1,c,λY B=>?_,λZ B=>?_,(I C).2]
 .have a:=C.sd.cD B c;refine f.pg a.hN a.nd a.calm a.hK λx a=>?_;have q:Y.env.scope.names.lookup x=U .local:=by
   have#[d,D,b]:=B.env;rw[b];rcases mZ (env:=X.env) (of_decide_eq_true a)with q|⟨q,_⟩;.exact q
   .cases q
  exact#[.inl q,.inr q]
 .exact Y.pe #[C.sd.cD B c,(C.rl G).more Z B.dC B.calm,nofun]
noncomputable def cL(f:dy nm N true sc){a:Ry}(e:dy nm N false a)(c b d:P8):Option<|Subtype<|nH nm N sc c b d a:=
 if h:nN N sc a (ownOf N b)=true then(vL N (λx=>decide (a.names.lookup x=U .local)) b).bind λg=>(cI f g d).bind λi=>(e c).bind λy=>U #[_,Ju h g.2 i.2 y.2]else O
def Gn(C:Cq Γ nm N E top sc X)(e:top=true){a:Ry}{b c d:P8}{p:SK}{x:Ex F}(L:nH nm N sc b c d a x):PE X (.ListComp b [#[c,d,[],0]] a p)<|au Γ E x:=by subst e;have#[f,g,h,e,i,j,k,l,m]:=L.lc C;rw[e];exact(C.rl G).lc b c d a _ p f g h i j k l m
noncomputable def cE(nm:bK F)(N:List QQ):Nat->(top:Bool)->(sc:Ry)->dy nm N top sc
 |0,_,_,_=>O|n+1,top,sc,e=>match e with
  |.Name x p=>if a:bN x=true then(if b:gm sc x=true then(fR N x).bind λi=>U #[.var i.1,λC=>GC C a b i.2,G]else if b:bC sc x=true then(nm.gl.lookup x).attach.bind λg=>U #[.glob g.1,λC=>Gi C a b g.2,G]else O)else O
  |.Constant c _ _=>(match c with
   |.int i=>U #[.con<|.int i,λ_=>sY,G]
   |.str x=>U #[.con<|.str x,λ_=>Me,G]
   |.bool b=>U #[.con<|.bl b,λ_=>yN,G]
   |.none=>U #[.con .ao,λ_=>Ma,G]
   |_=>O)
  |.Attribute o f _=>if a:dW o=true then(cE nm N n top sc o).bind λx=>U #[.fld x.1 f,λC=>NK C.sd.fo (x.2.pe C) a,G]else O
  |.BinOp a d b _=>(F7 d).bind λo=>(cE nm N n top sc a).bind λx=>(cE nm N n top sc b).bind λy=>U #[.bin o.1 x.1 y.1,λC=>yP (o.2 _) (x.2.pe C)<|y.2.pe C,G]
  |.UnaryOp d a _=>(cE nm N n top sc a).bind λx=>(match d with
   |.USub=>U #[.neg x.1,λC=>tf uo<|x.2.pe C,G]
   |.Not=>U #[.mL x.1,λC=>Mb<|x.2.pe C,G]
   |_=>O)
  |.Compare a e f p=>(cC (cE nm N n top sc) a e f).bind λc=>U #[.cmp c.1,λC=>(c.2 p C).1,G]
  |.BoolOp d c p=>(match d with
   |.And=>(vH (cE nm N n top sc) c).bind λx=>U #[x.1,λC=>x.2 p C,G]
   |.Or=>(vI (cE nm N n top sc) c).bind λx=>U #[x.1,λC=>x.2 p C,G])
  |.IfExp t a b _=>(cT (cE nm N n top sc) n t).bind λu=>(cE nm N n top sc a).bind λx=>(cE nm N n top sc b).bind λy=>U #[.mx u.1 x.1 y.1,λC=>L8 (u.2 C) (x.2.pe C)<|y.2.pe C,G]
  |.Call (.Name x p) c [] q=>(F3 (cE nm N n top sc) x p q c).bind λx=>U #[x.1,λC=>x.2 C,G]
  |.Call (.Attribute o m p) c [] q=>(F2 (cE nm N n top sc) o m p q c).bind λx=>U #[x.1,λC=>x.2 C,G]
  |.Subscript a (.Slice d e O _) _=>(cE nm N n top sc a).bind λx=>(cO (cE nm N n top sc) d).bind λl=>(cO (cE nm N n top sc) e).bind λh=>U #[.sl x.1 l.1 h.1,λC=>Gy C x.2 (l.2 C)<|h.2 C,G]
  |.Subscript a b _=>(cE nm N n top sc a).bind λx=>(cE nm N n top sc b).bind λy=>U #[.ix x.1 y.1,λC=>Gj C x.2 y.2,G]
  |.List c _=>(cA (cE nm N n top sc) c).bind λr=>U #[.lst r.1,λC=>sZ<|r.2.pa C,G]
  |.Tuple c _ _=>(cA (cE nm N n top sc) c).bind λr=>U #[.tup r.1,λC=>Mf<|r.2.pa C,G]
  |.ListComp a [⟨b,c,[],0⟩] d _=>if e:top=true then(cL (cE nm N n true sc) (cE nm N n false d) a b c).bind λx=>U #[x.1,λC=>Gn C e x.2,G]else O
  |_=>O
inductive lY(N:List QQ):Option QQ->P8->Hx->Prop
 |bl(b:Bool)(a)(p:SK):lY N O (.Constant (.bool b) a p) (.bl b)
 |neg(n:Int)(a)(p r t:SK):lY N O (.List [.UnaryOp .USub (.Constant (.int n) a p) r] t) (.neg n)
 |jW(y:QQ)(n:Int)(a)(p r p' q' r' t:SK)(i:Nat)(hy:bN y=true)(hi:N[i]?=U y):lY N (U y) (.List [.BinOp (.UnaryOp .USub (.Constant (.int n) a p) r) .Sub (.Attribute (.Name y p') '(' q') r'] t) (.jW n i '(')
inductive gw(nm:bK F)(N:List QQ)(sc:Ry):RQ->Hd F->Prop
 |mk(x:QQ)(np:SK)(name:Option QQ)(e:P8)(rp pos:SK)(g:F)(h:Hx)(hn:bN x=true)(hg:bC sc x=true)(hl:∀y,name=U y->sc.names.lookup y=U .local)(hk:(nm.ex.lookup x).or (nm.fT.lookup x)=U g)(hx:lY N name e h):gw nm N sc (.ExceptHandler (U (.Name x np)) name [.Return (U e) rp] pos) ⟨g,h⟩
noncomputable def cX(N:List QQ):(name:Option QQ)->(e:P8)->Option (Subtype<|lY N name e)|none,.Constant (.bool b) _ _=>U #[_,.bl b _ _]|none,.List [.UnaryOp .USub (.Constant (.int n) _ _) _] _=>U #[_,.neg n _ _ _ _]|some y,.List [.BinOp (.UnaryOp .USub (.Constant (.int n) _ _) _) .Sub (.Attribute (.Name x _) f _) _] _=>if h:x=y/\bN y=true/\f='('then(fR N y).bind λi=>U #[.jW n i.1 '(',by have#[rfl,a,rfl]:=h;exact .jW _ n _ _ _ _ _ _ _ _ a i.2]else O|_,_=>O
noncomputable def ya(sc:Ry):Option QQ->Bool|none=>true|some y=>decide (sc.names.lookup y=U .local)
def JM{o:Option QQ}(h:ya sc o=true)(y:QQ)(e:o=U y):sc.names.lookup y=U .local:=by subst e;exact of_decide_eq_true h
noncomputable def cH(nm:bK F)(N:List QQ)(sc:Ry):(h:RQ)->Option (Subtype<|gw nm N sc h)|.ExceptHandler (U<|.Name x _) a [.Return (U e) _] _=>if h:bN x=true/\bC sc x=true/\ya sc a=true then((nm.ex.lookup x).or<|nm.fT.lookup x).attach.bind λg=>(cX N a e).bind λy=>U #[_,.mk x _ a e _ _ g.1 y.1 h.1 h.2.1 (JM h.2.2) g.2 y.2]else O|_=>O
noncomputable def qZ(nm:bK F)(N:List QQ)(sc:Ry):(hs:List RQ)->Option (Subtype<|Paired (gw nm N sc) hs)|[]=>U #[[],.nil]|h::r=>(cH nm N sc h).bind λx=>(qZ nm N sc r).bind λy=>U #[x.1::y.1,.cons x.2 y.2]
structure vi(Γ:aO F)(nm:bK F)(N:List QQ)(E:XK)(sc:Ry)(X:Cx):Prop where
 ro:∀(x:QQ)(g:F)(e:P8)(te:TE)(np cpos pos:SK),nm.fT.lookup x=U g->bC sc x=true->bN x=true->PE X e te->(∀es,QJ (e::es) X.env=(false,Sj e X.env)::QJ es X.env)->
  PS X (.Raise (U (.Call (.Name x np) [e] [] cpos)) O pos) (λ_ σ H=>dG te eZ σ H λvs H1=>∃v,vs=[v]/\(Γ.xo g).2/\∀d,H1 d=O->E (.ref (Γ.xc g)) (U d) (upd H1 d (.xd [((Γ.xo g).1,v)])))
 tr:∀(e:P8)(y:Ex F)(h:RQ)(hs:List RQ)(l:List (Hd F))(rp pos:SK),bu nm N false sc e y->Paired (gw nm N sc) (h::hs) l->PS X (.Try [.Return (U e) rp] (h::hs) [] [] pos) (f9 Γ E (.kj y l))
 ts:∀(x:QQ)(i:Nat)(e:P8)(y:Ex F)(h:RQ)(hs:List RQ)(l:List (Hd F))(np rp pos:SK),fX sc x=true->jo e=true->N[i]?=U x->bu nm N false sc e y->Paired (gw nm N sc) (h::hs) l->
  PS X (.Try [.Assign [.Name x np] e rp] (h::hs) [] [] pos) (f9 Γ E (.kl i y l))
structure Ss(Γ:aO F)(nm:bK F)(N:List QQ)(E:XK)(sc:Ry)(X:Cx):Prop where
 cq:Cq Γ nm N E true sc X
 ls:LsOk E X
 ra:kE X E
 ex:X.ex=[]
 xr:vi Γ nm N E sc X
 own:Xh (Qt X.prog X.w) X.A X.env X.xe
 fn:∀x,X.fn x=true
 exc:∀x g,nm.ex.lookup x=U g->X.mg x=U (.ref (Γ.xc g))/\lS X.K (Γ.xc g)
def yb(h:X.env.scope=sc){x:QQ}(a:fX sc x=true):Loc X.env.scope x:=by
 rw[h];delta fX at a;split at a;.exact .inl (by assumption)
 .exact .inr (by assumption)
 .cases a
def mJ{e t:P8}{l:Nat}{env:WI}(h:jo e=true):VP e (U t) l env=pure false:=by cases e<;>first|rfl|cases h
def Km{e:P8}{l:Nat}{env:WI}(h:jo e=true):VP e O l env=pure false:=by cases e<;>first|rfl|cases h
def FK{o i:P8}{p:SK}{env:WI}(h:mP i=true)(v:P7):Yb (.Subscript o i p) env v=(do
      let a<-U5 [v] (Sj o env)
      let b<-U5 [v,a] (Sj i env)
      ZM p
      U5 [v,a,b] (setItem a b v)
      release [v,a,b] []):=by cases i<;>first|rfl|cases h
def NM(fo:∀C f,Γ.fo C f->ed X.K C/\fJ X.K C f){o b:P8}{f:QQ}{pos h:SK}{e g:TE}(i:PE X o e)(j:PE X b g)(hs:jo b=true):PS X (.Assign [.Attribute o f h] b pos)
    (λD σ H=>g σ H λy H1=>e σ H1 λx c=>∃a C d fs,x=.ref a/\c a=U (.ins C d fs)/\Γ.fo C f/\fs.length<1000/\D.lk σ (upd c a<|.ins C d<|bb f y fs)):=by intro aa s σ H D I h;refine X3 (az (j aa s σ H _ I h) λu b e=>e5 e λy H1 e g q=>az (i aa b σ H1 _ e q) λb h e=>?_)<|mJ hs;have#[x,c,h,i,a,C,d,fs,j,k,ok,l,m]:=e;subst j;obtain rfl:b=QY a:=i;exact BQ h k (fo C f ok).1 (fo C f ok).2 l g λc b=>#[σ,_,b,m]
def NJ(fo:∀C f,Γ.fo C f->ed X.K C/\fJ X.K C f){o g:P8}{f:QQ}{pos k:SK}{h i:TE}(l:PE X o h)(m:PE X g i):PS X (.AugAssign (.Attribute o f k) .Add g pos)
    (λD σ H=>h σ H λx H1=>∃a C j fs v,x=.ref a/\H1 a=U (.ins C j fs)/\Γ.fo C f/\fs.lookup f=U v/\
     i σ H1 λy c=>pA v y c λz d=>∃e b,d a=U (.ins C e b)/\b.length<1000/\D.lk σ (upd d a<|.ins C e<|bb f z b)):=by intro aa s σ H D I h;refine wpAny_AugAssign_AttributeAny<|az (l aa s σ H _ I h) λg i h=>?_;have#[x,H1,i,k,a,C,j,fs,v,n,p,ok,l,q]:=h;subst n;obtain rfl:g=QY a:=k;refine wR i p (fo C f ok).1 (fo C f ok).2 l λu g h i=>az (m aa g σ H1 _ h q) λg h j=>e5 j λy c j k l=>az (IM aa h σ c v y u g _ j i k l) λg h c=>e5 c λz d c g h=>e5 h λe b d h i=>?_;exact BQ c d (fo C f ok).1 (fo C f ok).2 h g λc b=>#[σ,_,b,i]
abbrev qr(nm:bK F)(N:List QQ)(sc:Ry)(st:RY)(x:Sx F):Prop:=∀{Γ:aO F}{E:XK}{X:Cx},Ss Γ nm N E sc X->PS X st (f9 Γ E x)
abbrev uV(nm:bK F)(N:List QQ)(sc:Ry)(ss:List RY)(x:eK F):Prop:=∀{Γ:aO F}{E:XK}{X:Cx},Ss Γ nm N E sc X->fi X ss (iG Γ E x)
noncomputable def jL(f:(s:RY)->Option (Subtype<|qr nm N sc s)):(ss:List RY)->Option (Subtype<|uV nm N sc ss)|[]=>U #[.nil,λ_=>MF]|s::r=>(f s).bind λx=>(jL f r).bind λy=>U #[.cons x.1 y.1,λS=>ME (x.2 S)<|y.2 S]
def Ss.nd(S:Ss Γ nm N E sc X):X.N.Nodup:=by rw[S.cq.sd.hN];exact S.cq.sd.nd
def Ss.at (S:Ss Γ nm N E sc X){i:Nat}{x:QQ}(h:N[i]?=U x):X.N[i]?=U x:=by rw[S.cq.sd.hN];exact h
def Ss.loc(S:Ss Γ nm N E sc X){x:QQ}(h:fX sc x=true):Loc X.env.scope x:=yb (S.cq.sd.m8 G) h
def NO(S:Ss Γ nm N E sc X){x:QQ}{b p pos:SK}{a:Ry}{c d f:P8}{i:Nat}{u:Ex F}(h:uc sc x b p a=true)(hi:N[i]?=U x)(L:nH nm N sc c d f a u):PS X (.Assign [.Name x b] (.ListComp c [#[d,f,[],0]] a p) pos)<|f9 Γ E<|.set i u:=by
 have#[j,g,k,e,l,m,n,o,q]:=L.lc S.cq;have g:=S.cq.sd.m8 rfl;unfold uc at h;erw[QH,decide_eq_true_eq,ZZ]at h;have#[#[#[j,k],r],s]:=h;have h:X.env.scope.kind=.function:=by
  rw[g];split at j;.assumption
  .cases j
 show PS X _ (kh (au Γ E u)<|fU i);rw[e];exact S.ls i x b pos c d f a _ p _ _ _ S.nd (S.at hi) (by rw[g];exact k) (Ot h (by rw[g];exact k) r s) l m n o q
def NL(S:Ss Γ nm N E sc X){a c:P8}{b:List RY}{p:SK}{g:Tg}{i:iP F}{x:eK F}(d:jJ N (fX sc) a g)(I:lX nm N true sc a c i)(B:uV nm N sc b x):PS X (.For a c b [] p)<|f9 Γ E<|.loop g i x:=
 Mx S.own S.cq.sd.calm (I S.cq).1 (d.pg S.cq.sd.hN S.cq.sd.nd S.cq.sd.calm S.cq.sd.hK λx a=>#[S.loc a,.inl<|S.fn x]) (B S) (I S.cq).2
def NQ(S:Ss Γ nm N E sc X){x:QQ}{p q pos:SK}{a:List P8}{g:F}{e:P8}{r:cy F}(c:bN x=true)(d:bC sc x=true)(b:nm.ex.lookup x=U g)(A:cY nm N true sc (e::a) r):PS X (.Raise (U<|.Call (.Name x p) (e::a) [] q) O pos)<|f9 Γ E<|.j6 g r:=by have#[f,h]:=S.exc _ g b;have i:=A.pa S.cq;have j:=A.any q X.env;cases A with|cons a b=>exact MA S.ra S.ex S.cq.sd.calm h (S.cq.sd.cM _ d) f i (bB a.fm _ _) j (cP c).1
noncomputable def F8(nm:bK F)(N:List QQ)(sc:Ry)(f:dy nm N true sc)(x:QQ)(p q pos:SK)(h:bN x=true/\bC sc x=true):(a:List P8)->Option (Subtype<|qr nm N sc<|.Raise (U<|.Call (.Name x p) a [] q) O pos)
 |[]=>O|e::a=>(match(nm.fT.lookup x).attach with
  |some g=>(match a with
   |[]=>(f e).bind λu=>U #[.mX g.1<|.cons u.1 .nil,λS=>S.xr.ro _ g.1 _ _ _ _ _ g.2 h.2 h.1 (u.2.pe S.cq) λa=>bB u.2.fm a _]
   |_=>O)
  |none=>(nm.ex.lookup x).attach.bind λg=>(cA f (e::a)).bind λr=>U #[.j6 g.1 r.1,λS=>NQ S h.1 h.2 g.2 r.2])
noncomputable def cS(nm:bK F)(N:List QQ)(sc:Ry)(d:Nat):Nat->(s:RY)->Option (Subtype<|qr nm N sc s)
 |0,_=>O|n+1,s=>match s with
  |.Assign [.Name x b] (.ListComp e [⟨c,j,[],0⟩] a p) _=>if h:fX sc x=true/\uc sc x b p a=true then(fR N x).bind λi=>(cL (cE nm N d true sc) (cE nm N d false a) e c j).bind λu=>U #[.set i.1 u.1,λS=>NO S h.2 i.2 u.2]else O
  |.Assign [t] e p=>if hc:jo e=true then(cE nm N d true sc e).bind λv=>(match t with
   |.Name x _=>if h:fX sc x=true then(fR N x).bind λi=>U #[.set i.1 v.1,λS=>yX S.nd (S.at i.2) (S.loc h) (v.2.pe S.cq) (mJ hc)<|.inl<|S.fn _]else O
   |.Attribute o f _=>(cE nm N d true sc o).bind λy=>U #[.mv y.1 f v.1,λS=>NM S.cq.sd.fo (y.2.pe S.cq) (v.2.pe S.cq) hc]
   |.Subscript o i q=>(cE nm N d true sc o).bind λy=>(cE nm N d true sc i).bind λz=>U #[.mC y.1 z.1 v.1,λ{Γ E X}S=>Mu (v.2.pe S.cq) (Mh (y.2.pe S.cq) (z.2.pe S.cq) set_list<|FK z.2.fm) (show VP e (U<|.Subscript o i q) p.line X.env=pure false from mJ hc) G G]
   |_=>O)else O
  |.AugAssign t .Add e _=>(cE nm N d true sc e).bind λv=>(match t with
   |.Name x _=>if h:fX sc x=true then(fR N x).bind λi=>U #[.aug i.1 v.1,λS=>Mv S.nd (S.at i.2) (S.loc h) (v.2.pe S.cq) Jc<|.inl<|S.fn _]else O
   |.Attribute o f _=>(cE nm N d true sc o).bind λy=>U #[.mm y.1 f v.1,λS=>NJ S.cq.sd.fo (y.2.pe S.cq)<|v.2.pe S.cq]
   |_=>O)
  |.Expr e _=>if hc:jo e=true then(cE nm N d true sc e).bind λv=>U #[.drop v.1,λS=>Mw (v.2.pe S.cq)<|Km hc]else O
  |.Return (U e) _=>(cE nm N d true sc e).bind λv=>U #[.ret v.1,λS=>mU<|v.2.pe S.cq]
  |.Return O _=>U #[.m3,λ_=>MC]
  |.Pass _=>U #[.pass,λ_=>Mz]
  |.If t a b _=>(cT (cE nm N d true sc) d t).bind λu=>(jL (cS nm N sc d n) a).bind λx=>(jL (cS nm N sc d n) b).bind λy=>U #[.ite u.1 x.1 y.1,λS=>My (u.2 S.cq) (x.2 S)<|y.2 S]
  |.While t b [] _=>(cT (cE nm N d true sc) d t).bind λu=>(jL (cS nm N sc d n) b).bind λx=>U #[.nD u.1 x.1,λS=>MD S.own (u.2 S.cq)<|x.2 S]
  |.For c j b [] _=>(vL N (fX sc) c).bind λg=>(cI (cE nm N d true sc) g j).bind λi=>(jL (cS nm N sc d n) b).bind λx=>U #[.loop g.1 i.1 x.1,λS=>NL S g.2 i.2 x.2]
  |.Raise (U<|.Call (.Name x p) a [] q) O b=>if h:bN x=true/\bC sc x=true then F8 nm N sc (cE nm N d true sc) x p q b h a else O
  |.Try [.Return (U e) _] (h::a) [] [] _=>(cE nm N d false sc e).bind λv=>(qZ nm N sc (h::a)).bind λl=>U #[.kj v.1 l.1,λS=>S.xr.tr _ _ _ _ _ _ _ v.2 l.2]
  |.Try [.Assign [.Name x _] e _] (h::a) [] [] _=>if hc:fX sc x=true/\jo e=true then(fR N x).bind λi=>(cE nm N d false sc e).bind λv=>(qZ nm N sc (h::a)).bind λl=>U #[.kl i.1 v.1 l.1,λS=>S.xr.ts _ _ _ _ _ _ _ _ _ _ hc.1 hc.2 i.2 v.2 l.2]else O
  |_=>O
end
end
def kC(X:Cx)(E:XK):Prop:=∀(aa:List<|P2×S1)(c:St)(H:Hp)(s:P9)(a T:P2)(cls:P7)(b:Option P2)(fl:P7),Inv X aa c H s->dI s.heap a T cls b fl->H a=O->H T=O->
 X.aX.heap.get? a=O->X.aX.heap.get? T=O->E cls b H->X.xe (.ref a) s
structure DH(X Y:Cx):Prop where
 prog:Y.prog=X.prog
 w:Y.w=X.w
 K:Y.K=X.K
 mg:Y.mg=X.mg
 base:Y.base=X.base
 A:Y.A=X.A
 N:Y.N=X.N
 aX:Y.aX=X.aX
 fh:Y.fh=X.fh
 env:Y.env=X.env
 outer:Y.outer=X.outer
 stack:Y.stack=X.stack
 ex:Y.ex=X.ex
 fn:Y.fn=X.fn
 calm:Y.calm=X.calm
def Inv.By{X Y:Cx}(e:DH X Y)(I:Inv X p σ H s)(h:∀z,z∈Y.pn++q->z∈X.pn++p):Inv Y q σ H s:=by have#[a,b,c,d,f,g,i,j,k,l,m,n,o,r,t,u,v]:=X;have#[a,b,c,d,f,g,i,j,k,l,m,n,o,r,t,u,v]:=Y;have#[a,b,c,d,f,g,i,j,k,l,m,n,o,r,t]:=e;simp only at a b c d f g i j k l m n o r t;subst a b c d f g i j k l m n o r t;have#[#[a,b,c,d,f,g,i,j,k,l,m,n,o,r,t,u,v,w],x,y,A,B,C,D,E,F,J,K]:=I;exact#[#[a,b,c,d,f,g,i,j,k,l,m,n,o,r,t,u,v,w],x,y,A,B,C,D,E,λz a=>F z<|h z a,J,K]
def OW{a h h':Q7}(u:Un fs ex e H a h)(k1:∀b o,(∃c,a.get? b=U c)->b∉ex->b∉fs->h.get? b=U o->h'.get? b=U o)(k2:∀b o,(∃c,a.get? b=U c)->b∉ex->h.get? b=U o->∃d,h'.get? b=U {o with slots:=d}):Un fs ex e H a h':=by
 refine#[λb o q n c a=>k1 b o #[o,q] a c<|u.keep b o q n c a,λb o q n c a=>?_,u.free,λb o q a=>?_,u.fF,u.eQ,u.fE];.have#[d,e]:=u.slot b o q n c a;have#[f,c]:=k2 b _ #[o,q] a e;exact#[f,c]
 .have#[f,e]:=u.there b o q a;have#[d,c]:=k2 b f #[o,q] a e;exact#[_,c]
section
variable{X:Cx}
def ko(X:Cx)(a:WI)(use:Option<|P7->Sem Unit)(Qf:P7->P9->Prop)(D C:P2):P7->P9->Prop:=
 XQ (Qt X.prog X.w) X.A a λe a=>YO (Qt X.prog X.w) X.A X.xe use Qf (.ref D) C (.error e) a
def FQ{c:P9}{use:Option (P7->Sem Unit)}{Qf:P7->P9->Prop}{pos:SK}(p:Inv X aa σ r c)(fx:FX X)(K:kC X E)(f3:∀b∈i,eJ X aa r b/\b<c.heap.objs.size)(a:XR scope cl c.heap.objs.size X.env=ce)(j:∀b∈i,∃o,(b,o)∈pl):
    gq X scope E {X.cD c r scope ce i with pn:=pl,xe:=ko X ce use Qf D c.heap.objs.size}:=by
 refine#[#[G,G,G,G,G,G,G],G,G,#[_,_,a.symm],G,?_];intro h k m g e f d l;have#[h,T,y,A,k,rfl,e,m,n,q,x,B,L,C,M,N]:=l;have J:=d.l6 (ch:=[]) e n q m (λb z=>absurd z<|by simp);have F:ce.locals=c.heap.objs.size:=by rw[<-a];rfl
 have I:ce.frame=U X.env.locals:=by rw[<-a];exact fx.fr
 have m:∀b∈i,∃o,g.heap.get? b=U o/\f.heap.get? b=U o:=λb a=>by have#[o,l]:=j b a;exact#[o,(d.pin (b,o)<|Si _ l).1,(J.pin (b,o)<|Si _ l).1]
 have s:∀b,g.heap.get? b=O->c.heap.get? b=O:=λb e=>by
  cases q:c.heap.get? b with
  |none=>rfl|some o=>
   by_cases a:b∈i;.have#[j,g,_]:=m b a;rw[e]at g;cases g
   .have#[j,g]:=d.base.there b o q a;rw[e]at g;cases g
 have P:∀b,f.heap.get? b=O->c.heap.get? b=O:=λb e=>by
  cases q:c.heap.get? b with
  |none=>rfl|some o=>
   by_cases a:b∈i;.have#[j,_,g]:=m b a;rw[e]at g;cases g
   .have#[j,g]:=J.base.there b o q a;rw[e]at g;cases g
 have#[m,d,_]:=J.loc;have d:f.heap.Ns ce.locals m:=d;rw[F]at d;have#[j,Q,R,t,v,S,V]:=d;have H:∀{b:P2}{o:S1}{j:Array P7},f.heap.get? b=U o->o.data=.fields j->c.heap.objs.size≠b:=λ{b o j}q d z=>by rw[<-z,t]at q;injection q with q;rw[q,d]at v;cases v
 have w:f.heap.FunFrames X.base X.stack:=J.ez;have W:∀{b:P2}{o:S1}{j:Array P7},f.heap.get? b=U o->o.data=.fields j->b∉bh X.stack:=λ{b o j}q d l=>by have#[_,u,n,e]:=w.mem l;rw[q]at n;injection n with n;exact e j<|n▸d
 have n:=x;have#[#[oe,j,Y,ab,ac,Z,h1],#[ot,ts,d,l,ad],ak]:=n;have j:T∉bh X.stack:=W d l;have n:c.heap.objs.size≠h:=H Y Z;have W:c.heap.objs.size≠T:=H d l;have d:X.A.frames=U X.stack:=J.ok.frames;rw[fx.st]at d w j;show Qn (Qt X.prog X.w) X.A (US (.ref h) ce) (λ_ l=>YO (Qt X.prog X.w) X.A X.xe use Qf (.ref D) c.heap.objs.size (.error<|.ref h) l) _ f;refine sO (env:=X.env) (env':=ce) d w fx.fr I x (by simp[VB]) j λj d e H w x=>?_;rw[<-fx.st]at w;have I:c.heap.objs.size≠d:=λz=>by rw[<-z,t]at e;cases e
 have#[l,j]:=x _ _ t n W;refine#[m,#[_,Q,R,j,v,S,V],λj l m t=>?_];have m:dI j h d y A<|VB X.env.locals:=H.keep (λo q=>(l.2 h<|Q4 n).trans q) λo q=>(l.2 d<|Q4 I).trans q;unfold PySem.passOn;have#[#[H,I,n,_,_,t,v],_,_]:=id m;refine Qb<|UR (s:={f with heap:=j}) n t v ?_;rw[aaC<|by simp];refine Qb<|nZ (s:={f with heap:=j}) m λj Q H=>wpAny_throw ?_;have I:∀b o,f.heap.get? b=U o->b≠h->b≠T->b≠c.heap.objs.size->b∉bh X.stack->j.get? b=U o:=λb o q m n t R=>by
  have v:b≠d:=λz=>by rw[z,e]at q;cases q
  exact(H b v).trans<|(l.2 b t).trans<|w b o q m n R
 have R:∀b o,f.heap.get? b=U o->b≠h->b≠T->b≠c.heap.objs.size->∃w,j.get? b=U {o with slots:=w}:=λb o q m n t=>by
  have v:b≠d:=λz=>by rw[z,e]at q;cases q
  have#[w,g]:=x b o q m n;exact#[w,(H b v).trans<|(l.2 b t).trans g]
 have g:∀{b},(∃l,c.heap.get? b=U l)->b≠h/\b≠T/\b≠c.heap.objs.size:=λ{b}m=>e2 m λl q=>
  #[λz=>(by rw[z,s h C]at q;cases q),λz=>(by rw[z,s T M]at q;cases q),QC<|Qi q]
 have u:Un (bh X.stack) i r k c.heap j:=OW J.base (λb o a l m q=>I b o q (g a).1 (g a).2.1 (g a).2.2 m) λb o a l q=>R b o q (g a).1 (g a).2.1 (g a).2.2;have g:k c.heap.objs.size=O:=by have z:k ce.locals=O:=J.free;rw[F]at z;exact z
 have c:bt X.prog X.w k j:=wZ J.ay λb o a q=>I b o q (λz=>a<|by rw[z];exact B) (λz=>a<|by rw[z];exact L) (λz=>a<|by rw[z];exact g) λz=>a<|J.pT b z;have g:Inv X aa σ k {f with heap:=j}:=p.l6 (ch:=i) (s':={f with heap:=j}) J.os u c J.bare λb a=>#[(f3 b a).1.2.2.2.1,(f3 b a).1.2.1,(f3 b a).1.2.2.2.2.1,(f3 b a).1.2.2.2.2.2];exact K aa σ k {f with heap:=j} h d y A _ g Q B (jQ J.ay e) (iB p fx<|s h C) (iB p fx<|P d e) N
def xE{own:List (QQ×Nat)}{use:Option (P7->Sem Unit)}{Qf:P7->P9->Prop}(hc:X.calm=true)(hN:X.N.Nodup)(I:Inv X aa σ H s)(hi:PI X tg iter wi)(ok:iM X.N X.env.scope scope own)(fx:FX X)(fly:kC X E)(hg:∀Y,gq X scope E Y->PG Y tg g)(he:∀Y,gq X scope E Y->PE Y elt te)(hs:∀x,TH iter X.env x=pure x)(h:eY wi g dH te (own.map (·.2)) σ H Q)(hRR:∀D C s' m H',Inv X aa σ H' s'->Q (.ref D) H'->s'.heap.Ns C m->eJ X aa H' C->YO (Qt X.prog X.w) X.A X.xe use Qf (.ref D) C (.ok .next) s'):
    Qn (Qt X.prog X.w) X.A (comprehension (.ListComp elt [#[tg,iter,[],0]] scope pos) scope X.env pos' (newList []) false (Sj iter X.env) use) Qf X.xe s:=by
 have hfree:∀y∈scope.names,y.2=.free->∃c,X.env.cells.lookup y.1=U c:=λy hy e=>by
  rcases ok.free y hy e with k|k;.exact I.ok.has _<|.inl k
  .exact I.ok.has _<|.inr k
 refine wpAny_comprehension_free (use:=use) rfl hs (Ha hfree) ok.kind (λy hy e=>by rw[ok.uniq y hy,e])
  (az (hi aa s σ H _ I h) λxv s1 hx=>az hx λitv s2 h2=>?_)
 have#[it,fp,tn,J,H2,e,I2,T,st2,f2,q]:=h2;subst e;refine wpAny_newObj_type (Kk ?_) (by show 0<=Qq;decide);generalize hD:s2.heap.objs.size=D;have hDn:H2 D=O:=I2.ay.fresh<|Uh hD;have#[W,#[m0,w0],turn]:=q D hDn;generalize hs3:({s2 with heap:=s2.heap.push {cls:=.type '4',data:=.seq ([]:List P7).toArray}}:P9)=s3;have I3:Inv X aa σ (upd H2 D<|.lst []) s3:=by rw[<-hs3];refine I2.laid (t':=s2.toks) (λb o e=>Q7.get?_push_of_some _ e) (Uh hD) #[Q9 _,[],0,.nil,?_];rw[<-hD];exact Q7.get?_push_size _ rfl
 have h3:s3.heap=s2.heap.push {cls:=.type '4',data:=.seq ([]:List P7).toArray}:=by rw[<-hs3]
 have sz:∀b∈fp,b<s2.heap.objs.size:=λb hb=>by have#[o,e,_]:=T.obj _ _ st2 b hb;exact Qi e
 have f3:∀b∈fp,eJ X aa (upd H2 D<|.lst []) b/\b<s3.heap.objs.size:=λb hb=>by have hlt:=sz b hb;refine#[#[?_,(f2 b hb).2],by rw[h3,RU];exact UO hlt];rw[aq<|by rw[<-hD];exact QC hlt];exact(f2 b hb).1
 have st3:tn 0 s3.heap:=T.keep _ _ _ st2 λb _ o e=>by rw[h3];exact Q7.get?_push_of_some _ e
 have I4:=FR I3 ok hN f3;show Vm _ _ (.compStart (.ListComp elt [#[tg,iter,[],0]] scope pos) 0 (.ref it) (.ref D)<|XR scope (Sz (s3.heap.objs.size+1) scope.names<|dj X.env.cells scope.names []) s3.heap.objs.size X.env) (YO (Qt X.prog X.w) X.A X.xe use Qf (.ref D) s3.heap.objs.size) {s3 with heap:=pushCells (s3.heap.push {cls:=.type '7',data:=.dict #[]}) scope.names};have nfp:∀b∈fp,(upd H2 D<|.lst []) b=O:=λb hb=>(f3 b hb).1.1;generalize hce:XR scope (Sz (s3.heap.objs.size+1) scope.names<|dj X.env.cells scope.names []) s3.heap.objs.size X.env=ce at I4⊢;have cL:ce.locals=s3.heap.objs.size:=by subst hce;rfl
 generalize hH3:upd H2 D (.lst [])=H3 at I3 I4 w0 nfp f3;generalize hs4:({s3 with heap:=pushCells (s3.heap.push {cls:=.type '7',data:=.dict #[]}) scope.names}:P9)=s4 at I4⊢;have st4:tn 0 s4.heap:=T.keep _ _ _ st3 λb _ o e=>by rw[<-hs4];exact WE _ _ _ _<|Q7.get?_push_of_some _ e
 have stat:∀{σ':St}{H':Hp}{s':P9},Inv (X.cD s3 H3 scope ce fp) [] σ' H' s'->(∀b∈fp,H' b=O)->∀b∈fp,eJ (X.cD s3 H3 scope ce fp) [] H' b:=λ{σ' H' s'}I' hn b hb=>
  #[hn b hb,(I'.ok.mj b hb).1,I'.ok.kM b hb,.inl hb,λx c e=>(I'.ok.mj b hb).2 x c e,λp hp=>absurd (show p∈([]:List<|P2×S1)++[]from hp)<|by simp]
 have loop:Vm (Qt X.prog X.w) X.A (.compLoop (.ListComp elt [#[tg,iter,[],0]] scope pos) 0 (.ref it) (.ref D) ce) (YO (Qt X.prog X.w) X.A X.xe use Qf (.ref D) s3.heap.objs.size) s4:=by
  refine Hc (λn s'=>∃i H',Inv (X.cD s3 H3 scope ce fp) [] (wipe σ (own.map (·.2))) H' s'/\tn i s'.heap/\(∀b∈fp,H' b=O)/\W i n H') ?_ m0 #[0,H3,I4,st4,nfp,w0];rintro n s5⟨i,H5,I5,st5,n5,w5⟩;rcases turn i n H5 w5 with⟨stop,qq⟩|⟨go,Nx,hNx,step⟩
  .have td:=T.done (X.cD s3 H3 scope ce fp) rfl rfl rfl hc i [] s5 _ H5 (λ_ _=>False) I5 (stat I5 n5) st5 stop;refine uh td λr s6 z2=>e2 z2 λhr I6=>?_;subst hr;have I7:Inv X aa σ H5 s6:=I3.l6 (ch:=fp) I6.os I6.base I6.ay I6.bare λb hb=>#[(f3 b hb).1.2.2.2.1,(f3 b hb).1.2.1,(f3 b hb).1.2.2.2.2.1,(f3 b hb).1.2.2.2.2.2];have nC:H5 s3.heap.objs.size=O:=by have z:H5 ce.locals=O:=I6.free;rw[cL]at z;exact z
   have#[m,hn,_]:=I6.loc;have hn:s6.heap.Ns ce.locals m:=hn;rw[cL]at hn;exact hRR D s3.heap.objs.size s6 m H5 I7 qq hn<|I3.kO (Qg _) nC
  .have ti:=T.item (X.cD s3 H3 scope ce fp) rfl rfl rfl hc i [] s5 _ H5 (λ_ _=>False) I5 (stat I5 n5) st5 go;refine uh ti λr s6 z3=>e3 z3 λu hr h6=>?_;subst hr;refine uh h6 λ_ s7 z4=>e7 z4 λx H7 I7 r7 y7 st7 n7=>?_;have I7':=I7.pinned (stat I7 n7)<|T.obj _ _ st7;have B:=FQ (use:=use) (Qf:=Qf) (D:=D) (pos:=pos) I3 fx fly f3 hce (pl:=eV fp s7.heap) λb hb=>let⟨o,e,_⟩:=T.obj _ _ st7 b hb;#[o,oU hb e];have toB:∀{σ':St}{H':Hp}{s':P9},Inv {X.cD s3 H3 scope ce fp with pn:=eV fp s7.heap,xe:=ko X ce use Qf D s3.heap.objs.size} [] σ' H' s'->Inv (X.cD s3 H3 scope ce fp) ([]++eV fp s7.heap) σ' H' s':=λ{σ' H' s'}I'=>
    Inv.By (X:={X.cD s3 H3 scope ce fp with pn:=eV fp s7.heap,xe:=ko X ce use Qf D s3.heap.objs.size}) (Y:=X.cD s3 H3 scope ce fp) #[G,G,G,G,G,G,G,G,G,G,G,G,G,G,G] I' λp hp=>by simpa using hp
   have I7b:Inv {X.cD s3 H3 scope ce fp with pn:=eV fp s7.heap,xe:=ko X ce use Qf D s3.heap.objs.size} [] (wipe σ (own.map (·.2))) H7 s7:=
    Inv.By (Y:={X.cD s3 H3 scope ce fp with pn:=eV fp s7.heap,xe:=ko X ce use Qf D s3.heap.objs.size}) (X:=X.cD s3 H3 scope ce fp) #[G,G,G,G,G,G,G,G,G,G,G,G,G,G,G] I7' λp hp=>by simpa using hp
   refine az (hg _ B _ s7 _ H7 x u _ I7b r7<|step x H7 y7) λ_ s8 z5=>e5 z5 λσ8 H8 I8 hw8 q8=>?_;refine az (ML (X:={X.cD s3 H3 scope ce fp with pn:=eV fp s7.heap,xe:=ko X ce use Qf D s3.heap.objs.size}) _ s8 σ8 H8 _ I8 q8) λb s9 z6=>e3 z6 λH9 I9 q9=>?_;have fin:∀{s':P9}{H':Hp},Inv (X.cD s3 H3 scope ce fp) ([]++eV fp s7.heap) σ8 H' s'->Nx H'->∃m,m<n/\∃i H',Inv (X.cD s3 H3 scope ce fp) [] (wipe σ (own.map (·.2))) H' s'/\tn i s'.heap/\(∀b∈fp,H' b=O)/\W i m H':=λ{s' H'}I' lk=>by
    have#[m',hm,w']:=hNx H' lk;have pin':∀b∈fp,∀o,s7.heap.get? b=U o->s'.heap.get? b=U o/\H' b=O:=λb hb o e=>
     let z:=I'.pin (b,o)<|RF _<|RF _<|oU hb e
     #[z.1,z.2.1]
    have hl:(wipe σ (own.map (·.2))).length=σ8.length:=by rw[<-hw8,uH]
    refine#[m',hm,i+1,H',(I'.p8 (aa:=[])).weak hl λj v e=>?_,T.keep _ _ _ st7 λb hb o e=>(pin' b hb o e).1,λb hb=>?_,w'];.rw[<-hw8]at e;exact(uI e).1
    .have#[o,e,_]:=T.obj _ _ st7 b hb;exact(pin' b hb o e).2
   induction b with|false=>erw[P1,aaF]at q9⊢;exact fin (toB I9) q9|true=>erw[aaE]at q9⊢;refine az (he _ B _ s9 σ8 H9 _ I9 q9) λz s10 z7=>e5 z7 λyv H10 I10 r10 z8=>e4 z8 λacc hD10 hz10 lk=>?_;exact FJ (X:={X.cD s3 H3 scope ce fp with pn:=eV fp s7.heap,xe:=ko X ce use Qf D s3.heap.objs.size}) I10 hD10 hz10 r10 λs11 I11=>fin (toB I11) lk
 exact codeAny_compStart_list loop<|T.self X.A 0 _ _ _ st4 loop
def Jx(hc:X.calm=true)(hN:X.N.Nodup)(fx:FX X)(a:kC X E):uT E X:=by intro f i j k l m n g o b ok c d e aa s p H Q I h;rw[eval_ListComp];refine xE hc hN I b ok fx a c d e h λD C a m b c q d f=>#[m,d,λe d=>?_];have#[g,h,e,i,j,k]:=f;exact#[.ref D,b,c.turned (t':=a.toks) (λb o a e=>(d.2 b a).trans e) g h i j k,G,q]
def JQ(hc:X.calm=true)(fx:FX X)(l:kC X E):LsOk E X:=by
 intro i y b x m c a d n e o g p j r k q t ok u v w aa s f H D I h;rw[exec_Assign_Name_used _ _ _ _ q];refine Qb<|Vl<|Qb ?_;show Qn _ X.A (do let _<-comprehension (.ListComp m [#[c,a,[],0]] d e) d X.env (firstIterPos [#[c,a,[],0]] e) (newList []) false (Sj a X.env) (U<|Yb (.Name y b) X.env)) _ _ s;have h:eY o g dH p (n.map (·.2)) f H λx a=>fU i x f a D.lk:=h;refine Qb<|az (xE (Qf:=λ_ a=>SP X aa D .next a) hc j I t ok fx l u v w h λL C a m g c q h f=>?_) λ_ a d=>Qo<|Qo d;show Qn _ _ (Yb (.Name y b) X.env<|.ref L) _ _ _;refine wpAny_assign_Name<|B0 (v:=V.ref L) c j r (.inl k) G (λb i a=>e3 a λa j e=>?_)<|.inr k;have#[k,c,o,l,d,n]:=f;have f:C≠a:=by
  rcases e with z|z;.rw[z];exact c
  .exactλe=>d y a z e.symm
 refine#[m,h.sameBut j f,λf a=>?_];exact#[_,g,i.turned (t':=b.toks) (λb o f e=>(a.2 b f).trans e) k c l d n,q]
end
section
set_option genSizeOf false
set_option genInjectivity false
inductive FA
 |a
 |b
 |c
 |d
 |e
 |f
 |g
 |h
 |i
 |j
 |k
 |l
 |m
 |n
 |o
 |p
inductive FB
 |a
 |b
 |c
 |d
 |e
 |f
 |g
 |h
 |i
 |j
 |k
 |l
 |m
structure F where
 a:FA
 b:FB
end
local macro_rules(kind:=scientific)|x=>match x.isScientificLit? with
 | some (m,_,e)=>let c(n:Nat):=Lean.mkIdent (.mkSimple (String.singleton (Char.ofNat (97+n))));`(F.mk .$(c (m/10^e)) .$(c (m%10^e)))
 | _=>Lean.Macro.throwUnsupported
section
set_option genSizeOf false
set_option genInjectivity false
noncomputable section
noncomputable def top(i:Nat):RY:=PySem.Challenge.pw_growingschemas_s01_answers.main.body.getD i<|.Pass #[0,0,0,0]
noncomputable def nm:bK F where
 gl:=("END",12.0)::("QUOTE",12.1)::("COMMA",12.2)::("MINUS",12.3)::("COLON",12.4)::("SEMICOLON",12.5)::("EQUALS",12.6)::("BACKSLASH",12.7)::("UNDERSCORE",12.8)::("ZERO",12.9)::("NINE",12.10)::("SMALL_A",12.11)::("SMALL_F",12.12)::("SMALL_Z",13.0)::("ONE",13.1)::("MAYBE",13.2)::("MANY",13.3)::("KEYED",13.4)::("BIT",13.5)::("WHOLE",13.6)::("TEXT",13.7)::("RECORD",13.8)::("CHOICE",13.9)::("RECORD_END",13.10)::("CHOICE_END",13.11)::("MOST_DIGITS",13.12)::("UNLIKE",14.0)::("NARROWER",14.1)::("GONE",14.2)::("UNFILLED",14.3)::("MAY_BE_MISSING",14.4)::("MAY_BE_MANY",14.5)::("KEYS",14.6)::("MOST_BYTES_rows",14.7)::("MOST_BYTES_schemas",14.8)::("MOST_DEPTH",14.9)::("MOST_LEAVES",14.10)::("MOST_NUMBER",14.11)::("MOST_NAME_SIGNS",14.12)::("MOST_VERSIONS",15.0)::("MOST_ROWS",15.1)::("CALLS",15.2)::("BEGIN",15.3)::[]
 fn:=("is_digit",1.0)::('|',1.1)::("is_name_sign",1.2)::('r',1.3)::("take_digits",1.4)::('z',1.5)::('t',1.6)::("number_value",1.7)::("fits",1.8)::("take_literal",1.9)::('h',1.10)::("take_quoted",1.11)::("take_byte",1.12)::("take_sixteenth",3.0)::("is_group",3.1)::("least_value",3.2)::('k',3.3)::('l',3.4)::("fills_in",3.5)::("filling_of",3.6)::("suits_mode",3.7)::("keys_rise",3.8)::("key_worth",3.9)::('{',3.10)::("read_row",3.11)::("read_value",3.12)::("read_field",4.0)::('s',4.1)::("read_choice",4.2)::("first_obstacle",4.3)::("compare_kinds",4.4)::("compare_leaves",4.5)::("first_beyond",4.6)::('~',4.7)::('}',4.8)::("look_at_added",4.9)::("compare_fields",4.10)::("keys_are_kept",4.11)::('y',4.12)::("obstacle_row",5.0)::("value_on_path",5.1)::("parse_row",5.2)::("take_value",5.3)::("take_record",5.4)::('q',5.5)::("take_position",5.6)::('p',5.7)::("take_choice",5.8)::("row_text",5.9)::("field_text",5.10)::("write_value",5.11)::("write_record",5.12)::("write_field",6.0)::("write_choice",6.1)::("leaf_kind",6.2)::("group_kind",6.3)::("half_of_range",6.4)::("parse_schema",6.5)::("count_leaves",6.6)::("take_group",6.7)::("check_numbers",6.8)::("check_names",6.9)::("take_field",6.10)::('`',6.11)::("take_name",6.12)::("take_mode",7.0)::("take_kind",7.1)::("check_mode",7.2)::("has_key",7.3)::('Y',7.4)::("read_along",7.5)::("is_straight",7.6)::('m',7.7)::('d',7.8)::('a',7.9)::('g',7.10)::('v',7.11)::("begin",7.12)::("step",8.0)::("why",8.1)::("versions",8.2)::("show",8.3)::("compare",8.4)::("read",8.5)::("through",8.6)::("straight",8.7)::("put",8.8)::('?',8.9)::("row",8.10)::("origin",8.11)::("drop",8.12)::("tell_obstacle",9.0)::("counted",9.1)::("answers",9.2)::("call_at",9.3)::("length_of",9.4)::('o',9.5)::("answer_of",9.6)::("Scanner",10.0)::("LeafValue",10.1)::("Obstacle",10.2)::("Kind",10.3)::("Field",10.4)::("Schema",10.5)::("Chain",10.6)::("KeptRow",10.7)::("Call",10.8)::[]
 me:=[('b',2.0),('^',2.1),('Q',2.2),('A',2.3),('W',2.4),('8',2.5),('L',2.6),('O',2.7),('G',2.8),("way",2.9),("row_at",2.10),("read_on",2.11)]
 ex:=[("BadText",11.0),("NoVersions",11.1),("NoSuchVersion",11.2),("NoSuchRow",11.3),("RowsFull",11.4),("ChainFull",11.5),("Unreadable",11.6)]
 fT:=[("Obstructed",11.7)]
structure Dt where
 k:Bool
 s:RY
 n:List QQ
 p:Nat
 c:eK F
noncomputable def qn:F->QQ×QQ|0.0=>(':',"Obstructed.__init__")|1.0=>("is_digit","is_digit")|1.1=>('|','|')|1.2=>("is_name_sign","is_name_sign")|1.3=>('r','r')|0.1=>(':',"Scanner.__init__")|2.0=>('b',"Scanner.peek")|2.1=>('^',"Scanner.take")|2.2=>('Q',"Scanner.skip")|2.3=>('A',"Scanner.expect")|2.4=>('W',"Scanner.expect_end")|1.4=>("take_digits","take_digits")|1.5=>('z','z')|0.2=>(':',"LeafValue.__init__")|1.6=>('t','t')|1.7=>("number_value","number_value")|1.8=>("fits","fits")|1.9=>("take_literal","take_literal")|1.10=>('h','h')|1.11=>("take_quoted","take_quoted")|1.12=>("take_byte","take_byte")|3.0=>("take_sixteenth","take_sixteenth")|3.1=>("is_group","is_group")|3.2=>("least_value","least_value")|3.3=>('k','k')|3.4=>('l','l')|3.5=>("fills_in","fills_in")|3.6=>("filling_of","filling_of")|3.7=>("suits_mode","suits_mode")|3.8=>("keys_rise","keys_rise")|3.9=>("key_worth","key_worth")|3.10=>('{','{')|3.11=>("read_row","read_row")|3.12=>("read_value","read_value")|4.0=>("read_field","read_field")|4.1=>('s','s')|4.2=>("read_choice","read_choice")|0.3=>(':',"Obstacle.__init__")|4.3=>("first_obstacle","first_obstacle")|4.4=>("compare_kinds","compare_kinds")|4.5=>("compare_leaves","compare_leaves")|4.6=>("first_beyond","first_beyond")|4.7=>('~','~')|4.8=>('}','}')|4.9=>("look_at_added","look_at_added")|4.10=>("compare_fields","compare_fields")|4.11=>("keys_are_kept","keys_are_kept")|4.12=>('y','y')|5.0=>("obstacle_row","obstacle_row")|5.1=>("value_on_path","value_on_path")|5.2=>("parse_row","parse_row")|5.3=>("take_value","take_value")|5.4=>("take_record","take_record")|5.5=>('q','q')|5.6=>("take_position","take_position")|5.7=>('p','p')|5.8=>("take_choice","take_choice")|5.9=>("row_text","row_text")|5.10=>("field_text","field_text")|5.11=>("write_value","write_value")|5.12=>("write_record","write_record")|6.0=>("write_field","write_field")|6.1=>("write_choice","write_choice")|0.4=>(':',"Kind.__init__")|2.5=>('8',"Kind.field_numbered")|0.5=>(':',"Field.__init__")|0.6=>(':',"Schema.__init__")|6.2=>("leaf_kind","leaf_kind")|6.3=>("group_kind","group_kind")|6.4=>("half_of_range","half_of_range")|6.5=>("parse_schema","parse_schema")|6.6=>("count_leaves","count_leaves")|6.7=>("take_group","take_group")|6.8=>("check_numbers","check_numbers")|6.9=>("check_names","check_names")|6.10=>("take_field","take_field")|6.11=>('`','`')|6.12=>("take_name","take_name")|7.0=>("take_mode","take_mode")|7.1=>("take_kind","take_kind")|7.2=>("check_mode","check_mode")|7.3=>("has_key","has_key")|7.4=>('Y','Y')|7.5=>("read_along","read_along")|7.6=>("is_straight","is_straight")|7.7=>('m','m')|7.8=>('d','d')|7.9=>('a','a')|7.10=>('g','g')|7.11=>('v','v')|0.7=>(':',"Chain.__init__")|2.6=>('L',"Chain.last_version")|2.7=>('O',"Chain.last_schema")|2.8=>('G',"Chain.schema_at")|2.9=>("way","Chain.way")|2.10=>("row_at","Chain.row_at")|0.8=>(':',"KeptRow.__init__")|2.11=>("read_on","KeptRow.read_on")|0.9=>(':',"Call.__init__")|7.12=>("begin","begin")|8.0=>("step","step")|8.1=>("why","why")|8.2=>("versions","versions")|8.3=>("show","show")|8.4=>("compare","compare")|8.5=>("read","read")|8.6=>("through","through")|8.7=>("straight","straight")|8.8=>("put","put")|8.9=>('?','?')|8.10=>("row","row")|8.11=>("origin","origin")|8.12=>("drop","drop")|9.0=>("tell_obstacle","tell_obstacle")|9.1=>("counted","counted")|9.2=>("answers","answers")|9.3=>("call_at","call_at")|9.4=>("length_of","length_of")|9.5=>('o','o')|9.6=>("answer_of","answer_of")|_=>("","")
section
open Ex renaming var->v,con->k,glob->g,fld->f,bin->b,neg->n,cmp->m,l4->A,mS->qB,mL->N,mx->qD,call->c,kJ->C,eU->M,len->l,tupleOf->T,dictOf->D,lx->o,strOf->S,sumOf->u,k8->z,append->a,extend->e,lz->p,get->qC,ix->x,sl->L,lst->h,tup->t,lc->y
open Cm renaming rel->q,my->i,mK->j,mI->H,chain->K
open Ts renaming val->qH,cmp->B,and->E,or->P,not->Q
open Sx renaming set->s,mv->J,mC->I,aug->qA,mm->R,drop->d,ret->r,m3->W,ite->X,nD->w,loop->Y,j6->Z,mX->qE,kj->qF,kl->qG
local macro_rules
  | `([$a, $b, $c,*]) => `(.cons $a [$b, $c,*])
  | `([$a, $b]) => `(.cons $a (.cons $b .nil))
  | `([$a]) => `(.cons $a .nil)
  | `([]) => `(.nil)
@[reducible] noncomputable def dat:F->Dt|0.0=>#[true,inClass (top 8) 0,['C','('],2,.nil]|1.0=>#[true,top 35,["sign"],1,[r<|m<|K .le .le (g 12.9) (v 0)<|g 12.10]]|1.1=>#[true,top 36,["sign"],1,[r<|m<|K .le .le (g 12.11) (v 0)<|g 13.0]]|1.2=>#[true,top 37,["sign"],1,[r<|qB (c 1.1 [v 0])<|qB (c 1.0 [v 0])<|m<|q .eq (v 0)<|g 12.8]]|1.3=>#[true,top 38,["byte"],1,[r<|A (m<|K .le .le (k<|.int 32) (v 0)<|k<|.int 126)<|A (m<|q .ne (v 0)<|g 12.1)<|m<|q .ne (v 0)<|g 12.7]]|0.1=>#[true,inClass (top 41) 0,['C','.'],2,[J (v 0) '.'<|v 1,J (v 0) ';'<|k<|.int 0]]|2.0=>#[true,inClass (top 41) 1,['C'],1,[X (B<|q .lt (f (v 0) ';')<|l<|f (v 0) '.') [r<|x (f (v 0) '.')<|f (v 0) ';'] [],r<|g 12.0]]|2.1=>#[true,inClass (top 41) 2,['C',"sign"],1,[s 1<|M (v 0) 2.0 'b' [],X (B<|q .eq (v 1)<|g 12.0) [Z 11.0 [k<|.str "the text ends too early"]] [],R (v 0) ';'<|k<|.int 1,r<|v 1]]|2.2=>#[true,inClass (top 41) 3,['C',"sign"],2,[X (B<|q .ne (M (v 0) 2.0 'b' [])<|v 1) [r<|k<|.bl false] [],R (v 0) ';'<|k<|.int 1,r<|k<|.bl true]]|2.3=>#[true,inClass (top 41) 4,['C',"sign"],2,[X (Q<|qH<|M (v 0) 2.2 'Q' [v 1]) [Z 11.0 [k<|.str "another sign is due here"]] []]]|2.4=>#[true,inClass (top 41) 5,['C'],1,[X (B<|q .ne (M (v 0) 2.0 'b' [])<|g 12.0) [Z 11.0 [k<|.str "something stands behind the end"]] []]]|1.4=>#[true,top 42,['2',"start",'(',"length"],1,[s 1<|f (v 0) ';',s 2<|k<|.int 0,w (qH<|c 1.0 [M (v 0) 2.0 'b' []]) [s 2<|b .sub (b .add (b .mul (v 2)<|k<|.int 10)<|M (v 0) 2.1 '^' [])<|g 12.9,X (B<|q .gt (b .sub (f (v 0) ';')<|v 1)<|g 13.12) [Z 11.0 [k<|.str "too many digits"]] []],s 3<|b .sub (f (v 0) ';')<|v 1,X (B<|q .eq (v 3)<|k<|.int 0) [Z 11.0 [k<|.str "a digit is due here"]] [],X (E (B<|q .gt (v 3)<|k<|.int 1)<|B<|q .eq (x (f (v 0) '.')<|v 1)<|g 12.9) [Z 11.0 [k<|.str "a zero in front"]] [],r<|v 2]]|1.5=>#[true,top 43,['2',"start"],1,[s 1<|f (v 0) ';',w (qH<|c 1.2 [M (v 0) 2.0 'b' []]) [d<|M (v 0) 2.1 '^' []],r<|T<|L (f (v 0) '.') (.yes<|v 1)<|.yes<|f (v 0) ';']]|0.2=>#[true,inClass (top 45) 0,['C','[','c'],3,[J (v 0) '['<|v 1,J (v 0) 'c'<|v 2]]|1.6=>#[true,top 46,["letters"],1,[r<|c 10.1 [T<|v 0,b .add (b .add (h [g 12.1])<|v 0)<|h [g 12.1]]]]|1.7=>#[true,top 47,['(',"sign"],1,[r<|c 10.1 [v 0,y (o<|v 1) (.name 1) (.str<|S<|v 0) [1]]]]|1.8=>#[true,top 48,['[',','],2,[X (B<|q .eq (f (v 1) ')')<|g 13.7) [r<|m<|q .le (l<|v 0)<|f (v 1) '6'] [],r<|m<|K .le .le (f (v 1) 'F') (v 0)<|f (v 1) '6']]|1.9=>#[true,top 49,['2',',',"start",'['],2,[s 2<|f (v 0) ';',X (B<|q .eq (f (v 1) ')')<|g 13.7) [s 3<|c 1.11 [v 0]] [s 3<|c 1.10 [v 0]],X (Q<|qH<|c 1.8 [v 3,v 1]) [Z 11.0 [k<|.str "the literal is out of its kind's range"]] [],r<|c 10.1 [v 3,L (f (v 0) '.') (.yes<|v 2)<|.yes<|f (v 0) ';']]]|1.10=>#[true,top 50,['2','('],1,[X (Q<|qH<|M (v 0) 2.2 'Q' [g 12.3]) [r<|c 1.4 [v 0]] [],s 1<|c 1.4 [v 0],X (B<|q .eq (v 1)<|k<|.int 0) [Z 11.0 [k<|.str "a zero below zero"]] [],r<|n<|v 1]]|1.11=>#[true,top 51,['2',"taken"],1,[d<|M (v 0) 2.3 'A' [g 12.1],s 1<|h [],w (Q<|qH<|M (v 0) 2.2 'Q' [g 12.1]) [d<|a (v 1)<|c 1.12 [v 0]],r<|T<|v 1]]|1.12=>#[true,top 52,['2',"sign","greater","byte"],1,[s 1<|M (v 0) 2.1 '^' [],X (qH<|c 1.3 [v 1]) [r<|v 1] [],X (B<|q .ne (v 1)<|g 12.7) [Z 11.0 [k<|.str "this byte has to be written by its number"]] [],s 2<|c 3.0 [v 0],s 3<|b .add (b .mul (v 2)<|k<|.int 16)<|c 3.0 [v 0],X (qH<|c 1.3 [v 3]) [Z 11.0 [k<|.str "this byte has to stand as itself"]] [],r<|v 3]]|3.0=>#[true,top 53,['2',"sign"],1,[s 1<|M (v 0) 2.1 '^' [],X (qH<|c 1.0 [v 1]) [r<|b .sub (v 1)<|g 12.9] [],X (B<|K .le .le (g 12.11) (v 1)<|g 12.12) [r<|b .add (b .sub (v 1)<|g 12.11)<|k<|.int 10] [],Z 11.0 [k<|.str "a digit of base sixteen is due here"]]]|3.1=>#[true,top 55,[','],1,[r<|qB (m<|q .eq (f (v 0) ')')<|g 13.8)<|m<|q .eq (f (v 0) ')')<|g 13.9]]|3.2=>#[true,top 56,[',','B'],1,[X (B<|q .eq (f (v 0) ')')<|g 13.8) [r<|y (c 3.3 [v 1]) (.name 1) (.list<|f (v 0) '+') [1]] [],X (B<|q .eq (f (v 0) ')')<|g 13.9) [r<|t [k<|.int 0,c 3.2 [f (x (f (v 0) '+')<|k<|.int 0) ',']]] [],X (B<|q .eq (f (v 0) ')')<|g 13.7) [r<|c 1.6 [h []]] [],r<|c 1.7 [k<|.int 0]]]|3.3=>#[true,top 57,['B'],1,[X (B<|q .eq (f (v 0) '<')<|g 13.1) [r<|h [c 3.2 [f (v 0) ',']]] [],r<|h []]]|3.4=>#[true,top 58,[',','9'],1,[s 1<|c 3.2 [v 0],X (B<|q .eq (f (f (x (f (v 0) '+')<|k<|.int 0) ',') ')')<|g 13.7) [I (v 1) (k<|.int 0)<|h [c 1.6 [h [g 12.11]]]] [I (v 1) (k<|.int 0)<|h [c 1.7 [k<|.int 1]]],r<|v 1]]|3.5=>#[true,top 59,['<',',',"default","filling"],3,[X (B<|q .ne (v 0)<|g 13.1) [r<|h []] [],s 3<|c 3.6 [v 1,v 2],X (B<|i<|v 3) [r<|k .ao] [],r<|h [v 3]]]|3.6=>#[true,top 60,[',',"default",'9','B'],2,[X (B<|q .ne (f (v 0) ')')<|g 13.8) [r<|v 1] [],s 2<|h [],Y (.name 3) (.list<|f (v 0) '+') [X (B<|i<|f (v 3) 'K') [r<|k .ao] [],d<|a (v 2)<|f (v 3) 'K'],r<|v 2]]|3.7=>#[true,top 61,['/','<'],2,[X (B<|q .eq (v 1)<|g 13.1) [r<|m<|q .eq (l<|v 0)<|k<|.int 1] [],X (B<|q .eq (v 1)<|g 13.2) [r<|m<|q .le (l<|v 0)<|k<|.int 1] [],X (B<|q .eq (v 1)<|g 13.4) [r<|c 3.8 [v 0]] [],r<|k<|.bl true]]|3.8=>#[true,top 62,['/',"k"],1,[Y (.name 1) (.range (k<|.int 1)<|l<|v 0) [X (B<|q .ge (c 3.9 [x (v 0)<|b .sub (v 1)<|k<|.int 1])<|c 3.9 [x (v 0)<|v 1]) [r<|k<|.bl false] []],r<|k<|.bl true]]|3.9=>#[true,top 63,['9'],1,[r<|f (x (x (v 0)<|k<|.int 0)<|k<|.int 0) '[']]|3.10=>#[true,top 65,['j','i'],2,[X (B<|q .eq (f (v 0) ')')<|g 13.6) [r<|qB (m<|q .eq (f (v 1) ')')<|g 13.5)<|m<|q .eq (f (v 1) ')')<|g 13.6] [],r<|A (m<|q .n9 (f (v 0) ')')<|t [g 13.5,g 13.7])<|m<|q .eq (f (v 1) ')')<|f (v 0) ')']]|3.11=>#[true,top 66,["row","old_schema","new_schema"],3,[r<|c 3.12 [v 0,f (v 1) 'M',f (v 2) 'M']]]|3.12=>#[true,top 67,['9','i','j','B'],3,[X (E (B<|q .eq (f (v 1) ')')<|g 13.8)<|B<|q .eq (f (v 2) ')')<|g 13.8) [r<|y (c 4.0 [v 0,v 1,v 3]) (.name 3) (.list<|f (v 2) '+') [3]] [],X (E (B<|q .eq (f (v 1) ')')<|g 13.9)<|B<|q .eq (f (v 2) ')')<|g 13.9) [r<|c 4.2 [v 0,v 1,v 2]] [],X (E (qH<|c 3.10 [v 2,v 1])<|qH<|c 1.8 [f (v 0) '[',v 2]) [r<|v 0] [],Z 11.6 [k<|.str "this kind can't read that value"]]]|4.0=>#[true,top 68,["record",'i','B','Z','/'],3,[s 3<|qC (f (v 1) '*')<|f (v 2) '(',X (B<|i<|v 3) [s 4<|f (v 2) 'K',X (B<|i<|v 4) [Z 11.6 [k<|.str "a field has no filling"]] [],r<|v 4] [],r<|c 4.1 [x (v 0)<|v 3,f (x (f (v 1) '+')<|v 3) ',',v 2]]]|4.1=>#[true,top 69,['/',"old_kind",'B',"read",'9'],3,[s 3<|y (c 3.12 [v 4,v 1,f (v 2) ',']) (.name 4) (.list<|v 0) [4],X (Q<|qH<|c 3.7 [v 3,f (v 2) '<']) [Z 11.6 [k<|.str "the occurrences don't suit the new mode"]] [],r<|v 3]]|4.2=>#[true,top 70,["choice",'i','j',"taken",'Z'],3,[s 3<|x (f (v 1) '+')<|x (v 0)<|k<|.int 0,s 4<|qC (f (v 2) '*')<|f (v 3) '(',X (B<|i<|v 4) [Z 11.6 [k<|.str "the taken field is gone"]] [],r<|t [v 4,c 3.12 [x (v 0)<|k<|.int 1,f (v 3) ',',f (x (f (v 2) '+')<|v 4) ',']]]]|0.3=>#[true,inClass (top 79) 0,['C','(','U','/'],4,[J (v 0) '('<|v 1,J (v 0) 'U'<|v 2,J (v 0) '/'<|v 3]]|4.3=>#[true,top 80,["old_schema","new_schema"],2,[r<|c 4.4 [f (v 0) 'M',f (v 1) 'M',h []]]]|4.4=>#[true,top 81,['i','j','U'],3,[X (E (Q<|qH<|c 3.1 [v 0])<|Q<|qH<|c 3.1 [v 1]) [r<|c 4.5 [v 0,v 1,v 2]] [],X (B<|q .ne (f (v 0) ')')<|f (v 1) ')') [r<|c 10.2 [g 14.0,v 2,h [c 3.2 [v 0]]]] [],X (B<|q .eq (f (v 0) ')')<|g 13.9) [r<|c 4.7 [v 0,v 1,v 2]] [],r<|c 4.8 [v 0,v 1,v 2]]]|4.5=>#[true,top 82,['i','j','U'],3,[X (Q<|qH<|c 3.10 [v 1,v 0]) [r<|c 10.2 [g 14.0,v 2,h [c 3.2 [v 0]]]] [],X (B<|q .lt (f (v 1) '6')<|f (v 0) '6') [r<|c 10.2 [g 14.1,v 2,h [c 4.6 [v 1]]]] [],r<|k .ao]]|4.6=>#[true,top 83,[','],1,[X (B<|q .eq (f (v 0) ')')<|g 13.7) [r<|c 1.6 [b .mul (h [g 12.11])<|b .add (f (v 0) '6')<|k<|.int 1]] [],r<|c 1.7 [b .add (f (v 0) '6')<|k<|.int 1]]]|4.7=>#[true,top 84,['i','j','U','B',"new_field","found"],3,[Y (.name 3) (.list<|f (v 0) '+') [X (B<|H (f (v 3) '(')<|f (v 1) '*') [r<|c 10.2 [g 14.2,b .add (v 2)<|h [f (v 3) '('],h [c 3.2 [f (v 3) ',']]]] []],Y (.name 3) (.list<|f (v 0) '+') [s 4<|M (v 1) 2.5 '8' [f (v 3) '('],s 5<|c 4.4 [f (v 3) ',',f (v 4) ',',b .add (v 2)<|h [f (v 3) '(']],X (B<|j<|v 5) [r<|v 5] []],r<|k .ao]]|4.8=>#[true,top 85,['i','j','U','B',"old_field","found"],3,[Y (.name 3) (.list<|f (v 1) '+') [s 4<|M (v 0) 2.5 '8' [f (v 3) '('],X (B<|i<|v 4) [s 5<|c 4.9 [v 3,b .add (v 2)<|h [f (v 3) '(']]] [s 5<|c 4.10 [v 4,v 3,b .add (v 2)<|h [f (v 3) '(']]],X (B<|j<|v 5) [r<|v 5] []],r<|k .ao]]|4.9=>#[true,top 86,['B','U'],2,[X (B<|i<|f (v 0) 'K') [r<|c 10.2 [g 14.3,v 1,h []]] [],r<|k .ao]]|4.10=>#[true,top 87,['i','j','U'],3,[X (E (B<|q .eq (f (v 1) '<')<|g 13.1)<|B<|q .ne (f (v 0) '<')<|g 13.1) [r<|c 10.2 [g 14.4,v 2,h []]] [],X (E (B<|q .eq (f (v 1) '<')<|g 13.2)<|P (B<|q .eq (f (v 0) '<')<|g 13.3)<|B<|q .eq (f (v 0) '<')<|g 13.4) [r<|c 10.2 [g 14.5,v 2,c 4.12 [v 0]]] [],X (E (B<|q .eq (f (v 1) '<')<|g 13.4)<|Q<|qH<|c 4.11 [v 0,v 1]) [r<|c 10.2 [g 14.6,v 2,c 4.12 [v 0]]] [],r<|c 4.4 [f (v 0) ',',f (v 1) ',',v 2]]]|4.11=>#[true,top 88,['i','j'],2,[X (B<|q .eq (f (v 0) '<')<|g 13.4) [r<|m<|q .eq (f (x (f (f (v 0) ',') '+')<|k<|.int 0) '(')<|f (x (f (f (v 1) ',') '+')<|k<|.int 0) '('] [],r<|m<|q .ne (f (v 0) '<')<|g 13.3]]|4.12=>#[true,top 89,['B'],1,[X (B<|q .eq (f (v 0) '<')<|g 13.4) [r<|h [c 3.2 [f (v 0) ','],c 3.4 [f (v 0) ',']]] [],r<|h [c 3.2 [f (v 0) ','],c 3.2 [f (v 0) ',']]]]|5.0=>#[true,top 90,["old_schema","obstacle"],2,[r<|c 5.1 [f (v 0) 'M',f (v 1) 'U',f (v 1) '/']]]|5.1=>#[true,top 91,[',','U',"last_occurrences",'Z','/',"record"],3,[s 3<|qC (f (v 0) '*')<|x (v 1)<|k<|.int 0,X (B<|i<|v 3) [r<|c 3.2 [v 0]] [],s 4<|v 2,X (B<|q .gt (l<|v 1)<|k<|.int 1) [s 4<|h [c 5.1 [f (x (f (v 0) '+')<|v 3) ',',L (v 1) (.yes<|k<|.int 1) .no,v 2]]] [],X (B<|q .eq (f (v 0) ')')<|g 13.9) [r<|t [v 3,x (v 4)<|k<|.int 0]] [],s 5<|c 3.2 [v 0],I (v 5) (v 3)<|v 4,r<|v 5]]|5.2=>#[true,top 94,['.',"schema",'2',"row"],2,[X (B<|q .gt (l<|v 0)<|g 14.7) [Z 11.0 [k<|.str "the row's text is too long"]] [],s 2<|c 10.0 [v 0],s 3<|c 5.3 [v 2,f (v 1) 'M'],d<|M (v 2) 2.4 'W' [],r<|v 3]]|5.3=>#[true,top 95,['2',','],2,[X (B<|q .eq (f (v 1) ')')<|g 13.8) [r<|c 5.4 [v 0,v 1]] [],X (B<|q .eq (f (v 1) ')')<|g 13.9) [r<|c 5.8 [v 0,v 1]] [],r<|c 1.9 [v 0,v 1]]]|5.4=>#[true,top 96,['2',',',"record",'B','/'],2,[d<|M (v 0) 2.3 'A' [g 13.8],s 2<|y (h []) (.name 3) (.list<|f (v 1) '+') [3],X (Q<|qH<|M (v 0) 2.2 'Q' [g 13.10]) [d<|c 5.5 [v 2,v 0,v 1],d<|M (v 0) 2.3 'A' [g 13.10]] [],Y (.pair 3 4) (.zip (f (v 1) '+')<|v 2) [X (Q<|qH<|c 3.7 [v 4,f (v 3) '<']) [Z 11.0 [k<|.str 'e']] []],r<|v 2]]|5.5=>#[true,top 97,["record",'2',',',"last","going",'Z'],3,[s 3<|n<|k<|.int 1,s 4<|k<|.bl true,w (qH<|v 4) [s 5<|c 5.6 [v 1,v 2],X (B<|q .le (v 5)<|v 3) [Z 11.0 [k<|.str "the fields are out of order"]] [],I (v 0) (v 5)<|c 5.7 [v 1,f (x (f (v 2) '+')<|v 5) ','],s 3<|v 5,s 4<|M (v 1) 2.2 'Q' [g 12.5]]]]|5.6=>#[true,top 98,['2',',','Z'],2,[s 2<|qC (f (v 1) '3')<|c 1.5 [v 0],X (B<|i<|v 2) [Z 11.0 [k<|.str "there's no such field"]] [],d<|M (v 0) 2.3 'A' [g 12.4],r<|v 2]]|5.7=>#[true,top 99,['2',',','/'],2,[s 2<|h [c 5.3 [v 0,v 1]],w (qH<|M (v 0) 2.2 'Q' [g 12.2]) [d<|a (v 2)<|c 5.3 [v 0,v 1]],r<|v 2]]|5.8=>#[true,top 100,['2',',','Z',"taken"],2,[d<|M (v 0) 2.3 'A' [g 13.9],s 2<|c 5.6 [v 0,v 1],s 3<|c 5.3 [v 0,f (x (f (v 1) '+')<|v 2) ','],d<|M (v 0) 2.3 'A' [g 13.11],r<|t [v 2,v 3]]]|5.9=>#[true,top 101,["row","schema",'.'],2,[s 2<|h [],d<|c 5.11 [v 0,f (v 1) 'M',v 2],r<|v 2]]|5.10=>#[true,top 102,['B','/','.'],2,[s 2<|h [],d<|c 6.0 [v 0,v 1,v 2],r<|v 2]]|5.11=>#[true,top 103,['9',',','.'],3,[X (B<|q .eq (f (v 1) ')')<|g 13.8) [d<|c 5.12 [v 0,v 1,v 2]] [X (B<|q .eq (f (v 1) ')')<|g 13.9) [d<|c 6.1 [v 0,v 1,v 2]] [d<|e (v 2)<|f (v 0) 'c']]]]|5.12=>#[true,top 104,["record",',','.',"first",'B','/'],3,[d<|a (v 2)<|g 13.8,s 3<|k<|.bl true,Y (.pair 4 5) (.zip (f (v 1) '+')<|v 0) [X (B<|q .gt (l<|v 5)<|k<|.int 0) [X (Q<|qH<|v 3) [d<|a (v 2)<|g 12.5] [],s 3<|k<|.bl false,d<|c 6.0 [v 4,v 5,v 2]] []],d<|a (v 2)<|g 13.10]]|6.0=>#[true,top 105,['B','/','.',"k",'9'],3,[d<|e (v 2)<|f (v 0) 'V',d<|a (v 2)<|g 12.4,Y (.pair 3 4) (.enum<|v 1) [X (B<|q .gt (v 3)<|k<|.int 0) [d<|a (v 2)<|g 12.2] [],d<|c 5.11 [v 4,f (v 0) ',',v 2]]]]|6.1=>#[true,top 106,["choice",',','.'],3,[d<|a (v 2)<|g 13.9,d<|c 6.0 [x (f (v 1) '+')<|x (v 0)<|k<|.int 0,h [x (v 0)<|k<|.int 1],v 2],d<|a (v 2)<|g 13.11]]|0.4=>#[true,inClass (top 108) 0,['C',')','F','6','+',"k",'B'],5,[J (v 0) ')'<|v 1,J (v 0) 'F'<|v 2,J (v 0) '6'<|v 3,J (v 0) '+'<|v 4,J (v 0) '*'<|D<|y (t [f (v 6) '(',v 5]) (.pair 5 6) (.enum<|v 4) [5,6],J (v 0) '3'<|D<|y (t [f (v 6) 'V',v 5]) (.pair 5 6) (.enum<|v 4) [5,6]]]|2.5=>#[true,inClass (top 108) 1,['C','(','Z'],2,[s 2<|qC (f (v 0) '*')<|v 1,X (B<|i<|v 2) [r<|k .ao] [],r<|x (f (v 0) '+')<|v 2]]|0.5=>#[true,inClass (top 109) 0,['C','(','V','<',',',"default"],6,[J (v 0) '('<|v 1,J (v 0) 'V'<|v 2,J (v 0) '<'<|v 3,J (v 0) ','<|v 4,J (v 0) 'K'<|c 3.5 [v 3,v 4,v 5]]]|0.6=>#[true,inClass (top 110) 0,['C','.','M'],3,[J (v 0) '.'<|v 1,J (v 0) 'M'<|v 2]]|6.2=>#[true,top 111,[')',"size","half"],2,[X (B<|q .eq (v 0)<|g 13.5) [r<|c 10.3 [v 0,k<|.int 0,k<|.int 1,h []]] [],X (B<|q .eq (v 0)<|g 13.6) [s 2<|c 6.4 [v 1],r<|c 10.3 [v 0,n<|v 2,b .sub (v 2)<|k<|.int 1,h []]] [],r<|c 10.3 [v 0,k<|.int 0,v 1,h []]]]|6.3=>#[true,top 112,[')','+'],2,[r<|c 10.3 [v 0,k<|.int 0,k<|.int 0,v 1]]]|6.4=>#[true,top 113,["size","half","k"],1,[s 1<|k<|.int 1,Y (.name 2) (.range (k<|.int 1)<|v 0) [s 1<|b .mul (v 1)<|k<|.int 2],r<|v 1]]|6.5=>#[true,top 120,['.','2','M'],1,[X (B<|q .gt (l<|v 0)<|g 14.8) [Z 11.0 [k<|.str "the schema is too long"]] [],s 1<|c 10.0 [v 0],X (B<|q .ne (M (v 1) 2.0 'b' [])<|g 13.8) [Z 11.0 [k<|.str "a schema is a record"]] [],s 2<|c 6.7 [v 1,k<|.int 1],d<|M (v 1) 2.4 'W' [],X (B<|q .gt (c 6.6 [v 2])<|g 14.10) [Z 11.0 [k<|.str "too many leaves"]] [],r<|c 10.5 [v 0,v 2]]]|6.6=>#[true,top 121,[',','B'],1,[X (Q<|qH<|c 3.1 [v 0]) [r<|k<|.int 1] [],r<|u<|y (c 6.6 [f (v 1) ',']) (.name 1) (.list<|f (v 0) '+') [1]]]|6.7=>#[true,top 122,['2',"depth",')','+','B'],2,[X (B<|q .gt (v 1)<|g 14.9) [Z 11.0 [k<|.str "groups stand too deep in one another"]] [],s 2<|M (v 0) 2.1 '^' [],s 3<|h [c 6.10 [v 0,v 2,v 1]],w (qH<|M (v 0) 2.2 'Q' [g 12.5]) [d<|a (v 3)<|c 6.10 [v 0,v 2,v 1]],d<|M (v 0) 2.3 'A' [qD (B<|q .eq (v 2)<|g 13.8) (g 13.10)<|g 13.11],d<|c 6.8 [y (f (v 4) '(') (.name 4) (.list<|v 3) [4]],d<|c 6.9 [y (f (v 4) 'V') (.name 4) (.list<|v 3) [4]],r<|c 6.3 [v 2,v 3]]]|6.8=>#[true,top 123,['1',"k"],1,[Y (.name 1) (.range (k<|.int 1)<|l<|v 0) [X (B<|q .ge (x (v 0)<|b .sub (v 1)<|k<|.int 1)<|x (v 0)<|v 1) [Z 11.0 [k<|.str "numbers have to rise"]] []]]]|6.9=>#[true,top 124,["names"],1,[X (B<|q .ne (z<|v 0)<|l<|v 0) [Z 11.0 [k<|.str "two fields have one name"]] []]]|6.10=>#[true,top 125,['2',"group_letter","depth",'(','V','<',',',"default"],3,[s 3<|c 6.11 [v 0,k<|.int 1,g 14.11],s 4<|c 6.12 [v 0],s 5<|c 7.0 [v 0],s 6<|c 7.1 [v 0,b .add (v 2)<|k<|.int 1],d<|c 7.2 [v 5,v 6,v 1],s 7<|k .ao,X (qH<|M (v 0) 2.2 'Q' [g 12.6]) [d<|c 7.4 [v 5,v 6,v 1],s 7<|c 1.9 [v 0,v 6]] [],r<|c 10.4 [v 3,v 4,v 5,v 6,v 7]]]|6.11=>#[true,top 126,['2','F','6','('],3,[s 3<|c 1.4 [v 0],X (P (B<|q .lt (v 3)<|v 1)<|B<|q .gt (v 3)<|v 2) [Z 11.0 [k<|.str "the number is out of its range"]] [],r<|v 3]]|6.12=>#[true,top 127,['2','V'],1,[X (Q<|qH<|c 1.1 [M (v 0) 2.0 'b' []]) [Z 11.0 [k<|.str "a name begins with a letter"]] [],s 1<|c 1.5 [v 0],X (B<|q .gt (l<|v 1)<|g 14.12) [Z 11.0 [k<|.str "the name is too long"]] [],r<|v 1]]|7.0=>#[true,top 128,['2','<'],1,[s 1<|M (v 0) 2.1 '^' [],X (B<|q .pf (v 1)<|t [g 13.1,g 13.2,g 13.3,g 13.4]) [Z 11.0 [k<|.str "a mode is due here"]] [],r<|v 1]]|7.1=>#[true,top 129,['2',"depth",')'],2,[s 2<|M (v 0) 2.0 'b' [],X (P (B<|q .eq (v 2)<|g 13.8)<|B<|q .eq (v 2)<|g 13.9) [r<|c 6.7 [v 0,v 1]] [],d<|M (v 0) 2.1 '^' [],X (B<|q .eq (v 2)<|g 13.5) [r<|c 6.2 [v 2,k<|.int 0]] [],X (B<|q .eq (v 2)<|g 13.6) [r<|c 6.2 [v 2,c 6.11 [v 0,k<|.int 2,k<|.int 64]]] [],X (B<|q .eq (v 2)<|g 13.7) [r<|c 6.2 [v 2,c 6.11 [v 0,k<|.int 1,k<|.int 999]]] [],Z 11.0 [k<|.str "a kind is due here"]]]|7.2=>#[true,top 130,['<',',',"group_letter"],3,[X (E (B<|q .eq (v 2)<|g 13.9)<|B<|q .ne (v 0)<|g 13.1) [Z 11.0 [k<|.str "this mode can't stand in a choice"]] [],X (E (B<|q .eq (v 0)<|g 13.4)<|Q<|qH<|c 7.3 [v 1]) [Z 11.0 [k<|.str "there is no key"]] []]]|7.3=>#[true,top 131,[',',"first"],1,[X (B<|q .ne (f (v 0) ')')<|g 13.8) [r<|k<|.bl false] [],s 1<|x (f (v 0) '+')<|k<|.int 0,r<|A (m<|q .eq (f (v 1) '<')<|g 13.1)<|N<|c 3.1 [f (v 1) ',']]]|7.4=>#[true,top 132,['<',',',"group_letter"],3,[X (P (B<|q .ne (v 2)<|g 13.8)<|P (B<|q .ne (v 0)<|g 13.1)<|qH<|c 3.1 [v 1]) [Z 11.0 [k<|.str "no default may stand here"]] []]]|7.5=>#[true,top 134,["row","way","k"],2,[Y (.name 2) (.range (k<|.int 1)<|l<|v 1) [s 0<|c 3.11 [v 0,x (v 1)<|b .sub (v 2)<|k<|.int 1,x (v 1)<|v 2]],r<|v 0]]|7.6=>#[true,top 135,["way","last","k"],1,[s 1<|x (v 0)<|b .sub (l<|v 0)<|k<|.int 1,Y (.name 2) (.lC<|b .sub (l<|v 0)<|k<|.int 2) [X (Q<|qH<|c 7.7 [f (x (v 0)<|v 2) 'M',f (x (v 0)<|b .add (v 2)<|k<|.int 1) 'M',f (v 1) 'M']) [r<|k<|.bl false] []],r<|k<|.bl true]]|7.7=>#[true,top 136,['i',"between",'j'],3,[X (E (Q<|qH<|c 3.1 [v 0])<|E (Q<|qH<|c 3.1 [v 1])<|Q<|qH<|c 3.1 [v 2]) [r<|k<|.bl true] [],X (P (B<|q .ne (f (v 0) ')')<|f (v 1) ')')<|B<|q .ne (f (v 1) ')')<|f (v 2) ')') [r<|k<|.bl false] [],X (B<|q .eq (f (v 2) ')')<|g 13.9) [r<|c 7.8 [v 0,v 1,v 2]] [],r<|c 7.9 [v 0,v 1,v 2]]]|7.8=>#[true,top 137,['i',"between",'j','B',"between_field","new_field"],3,[Y (.name 3) (.list<|f (v 0) '+') [s 4<|M (v 1) 2.5 '8' [f (v 3) '('],s 5<|M (v 2) 2.5 '8' [f (v 3) '('],X (P (B<|i<|v 4)<|B<|i<|v 5) [r<|k<|.bl false] [],X (Q<|qH<|c 7.7 [f (v 3) ',',f (v 4) ',',f (v 5) ',']) [r<|k<|.bl false] []],r<|k<|.bl true]]|7.9=>#[true,top 138,['i',"between",'j','B'],3,[Y (.name 3) (.list<|f (v 2) '+') [X (Q<|qH<|c 7.10 [M (v 0) 2.5 '8' [f (v 3) '('],M (v 1) 2.5 '8' [f (v 3) '('],v 3]) [r<|k<|.bl false] []],r<|k<|.bl true]]|7.10=>#[true,top 139,['i',"between",'j'],3,[X (B<|i<|v 1) [r<|m<|i<|v 0] [],X (B<|i<|v 0) [r<|c 7.11 [v 1,v 2]] [],r<|c 7.7 [f (v 0) ',',f (v 1) ',',f (v 2) ',']]]|7.11=>#[true,top 140,["between",'j','/'],2,[X (P (B<|i<|f (v 0) 'K')<|B<|i<|f (v 1) 'K') [r<|k<|.bl false] [],qG 2 (c 4.1 [f (v 0) 'K',f (v 0) ',',v 1]) [#[11.6,(.bl false)]],r<|m<|q .eq (c 5.10 [v 1,v 2])<|c 5.10 [v 1,f (v 1) 'K']]]|0.7=>#[true,inClass (top 144) 0,['C'],1,[J (v 0) '0'<|h [],J (v 0) '?'<|h []]]|2.6=>#[true,inClass (top 144) 1,['C'],1,[r<|b .sub (l<|f (v 0) '0')<|k<|.int 1]]|2.7=>#[true,inClass (top 144) 2,['C'],1,[r<|x (f (v 0) '0')<|M (v 0) 2.6 'L' []]]|2.8=>#[true,inClass (top 144) 3,['C','>'],2,[X (P (B<|q .lt (v 1)<|k<|.int 0)<|B<|q .ge (v 1)<|l<|f (v 0) '0') [Z 11.2 [k<|.str "there's no such version"]] [],r<|x (f (v 0) '0')<|v 1]]|2.9=>#[true,inClass (top 144) 4,['C',"start","end"],3,[d<|M (v 0) 2.8 'G' [v 1],d<|M (v 0) 2.8 'G' [v 2],X (B<|q .lt (v 2)<|v 1) [Z 11.2 [k<|.str "a way doesn't lead back"]] [],r<|L (f (v 0) '0') (.yes<|v 1)<|.yes<|b .add (v 2)<|k<|.int 1]]|2.10=>#[true,inClass (top 144) 5,['C',';'],2,[X (P (B<|q .lt (v 1)<|k<|.int 0)<|B<|q .ge (v 1)<|l<|f (v 0) '?') [Z 11.3 [k<|.str "there's no such row"]] [],r<|x (f (v 0) '?')<|v 1]]|0.8=>#[true,inClass (top 145) 0,['C','>','.','9'],4,[J (v 0) '>'<|v 1,J (v 0) '.'<|v 2,J (v 0) '@'<|v 1,J (v 0) '9'<|v 3]]|2.11=>#[true,inClass (top 145) 1,['C','E',"last"],2,[s 2<|M (v 1) 2.6 'L' [],J (v 0) '9'<|c 7.5 [f (v 0) '9',M (v 1) 2.9 "way" [f (v 0) '@',v 2]],J (v 0) '@'<|v 2]]|0.9=>#[true,inClass (top 146) 0,['C','(','1','.'],4,[J (v 0) '('<|v 1,J (v 0) '1'<|v 2,J (v 0) '.'<|v 3]]|7.12=>#[true,top 147,['E','N',"schema"],2,[s 2<|c 6.5 [f (v 1) '.'],J (v 0) '0'<|h [v 2],J (v 0) '?'<|h [],r<|h [k<|.int 0]]]|8.0=>#[true,top 148,['E','N',"schema","obstacle"],2,[s 2<|c 6.5 [f (v 1) '.'],X (B<|q .ge (l<|f (v 0) '0')<|g 15.0) [Z 11.5 [k<|.str "there are as many versions as may be"]] [],s 3<|c 4.3 [M (v 0) 2.7 'O' [],v 2],X (B<|j<|v 3) [qE 11.7 [f (v 3) '(']] [],d<|a (f (v 0) '0')<|v 2,r<|h [M (v 0) 2.6 'L' []]]]|8.1=>#[true,top 149,['E','N'],2,[r<|c 9.0 [M (v 0) 2.7 'O' [],c 6.5 [f (v 1) '.']]]]|8.2=>#[true,top 150,['E','N'],2,[r<|h [l<|f (v 0) '0']]]|8.3=>#[true,top 151,['E','N'],2,[r<|c 9.1 [f (M (v 0) 2.8 'G' [x (f (v 1) '1')<|k<|.int 0]) '.']]]|8.4=>#[true,top 152,['E','N','i','j'],2,[s 2<|M (v 0) 2.8 'G' [x (f (v 1) '1')<|k<|.int 0],s 3<|M (v 0) 2.8 'G' [x (f (v 1) '1')<|k<|.int 1],r<|c 9.0 [v 2,v 3]]]|8.5=>#[true,top 153,['E','N','i','j','9'],2,[s 2<|M (v 0) 2.8 'G' [x (f (v 1) '1')<|k<|.int 0],s 3<|M (v 0) 2.8 'G' [x (f (v 1) '1')<|k<|.int 1],s 4<|c 5.2 [f (v 1) '.',v 2],r<|c 9.1 [c 5.9 [c 3.11 [v 4,v 2,v 3],v 3]]]]|8.6=>#[true,top 154,['E','N',"way",'9'],2,[s 2<|M (v 0) 2.9 "way" [x (f (v 1) '1')<|k<|.int 0,x (f (v 1) '1')<|k<|.int 1],s 3<|c 5.2 [f (v 1) '.',x (v 2)<|k<|.int 0],r<|c 9.1 [c 5.9 [c 7.5 [v 3,v 2],x (v 2)<|b .sub (l<|v 2)<|k<|.int 1]]]]|8.7=>#[true,top 155,['E','N'],2,[X (qH<|c 7.6 [M (v 0) 2.9 "way" [x (f (v 1) '1')<|k<|.int 0,x (f (v 1) '1')<|k<|.int 1]]) [r<|h [k<|.int 1]] [],r<|h [k<|.int 0]]]|8.8=>#[true,top 156,['E','N','9'],2,[s 2<|c 5.2 [f (v 1) '.',M (v 0) 2.7 'O' []],X (B<|q .ge (l<|f (v 0) '?')<|g 15.1) [Z 11.4 [k<|.str "there are as many rows as may be"]] [],d<|a (f (v 0) '?')<|c 10.7 [M (v 0) 2.6 'L' [],f (v 1) '.',v 2],r<|h [b .sub (l<|f (v 0) '?')<|k<|.int 1]]]|8.9=>#[true,top 157,['E','N'],2,[r<|h [l<|f (v 0) '?']]]|8.10=>#[true,top 158,['E','N',"kept"],2,[s 2<|M (v 0) 2.10 "row_at" [x (f (v 1) '1')<|k<|.int 0],d<|M (v 2) 2.11 "read_on" [v 0],r<|c 9.1 [c 5.9 [f (v 2) '9',M (v 0) 2.7 'O' []]]]]|8.11=>#[true,top 159,['E','N',"kept"],2,[s 2<|M (v 0) 2.10 "row_at" [x (f (v 1) '1')<|k<|.int 0],r<|b .add (h [f (v 2) '>'])<|c 9.1 [f (v 2) '.']]]|8.12=>#[true,top 160,['E','N',';'],2,[s 2<|x (f (v 1) '1')<|k<|.int 0,d<|M (v 0) 2.10 "row_at" [v 2],d<|p (f (v 0) '?')<|v 2,r<|h [k<|.int 0]]]|9.0=>#[true,top 161,['i','j',"obstacle",'.'],2,[s 2<|c 4.3 [v 0,v 1],X (B<|i<|v 2) [r<|h [k<|.int 0,k<|.int 0,k<|.int 0]] [],s 3<|c 5.9 [c 5.0 [v 0,v 2],v 0],r<|b .add (b .add (h [f (v 2) '('])<|c 9.1 [f (v 2) 'U'])<|c 9.1 [v 3]]]|9.1=>#[true,top 162,['1'],1,[r<|b .add (h [l<|v 0])<|v 0]]|9.2=>#[true,top 165,["calls",'E',"answered",';','N',"answer"],1,[s 1<|c 10.6 [],s 2<|h [],s 3<|k<|.int 0,w (B<|q .lt (v 3)<|l<|v 0) [s 4<|c 9.3 [v 0,v 3],qA 3<|c 9.4 [v 4],s 5<|c 9.5 [v 1,v 4],d<|a (v 2)<|l<|v 5,d<|e (v 2)<|v 5],r<|v 2]]|9.3=>#[true,top 166,["calls",';','(',"behind_numbers",'.',"start"],2,[s 2<|x (v 0)<|v 1,s 3<|b .add (b .add (v 1)<|k<|.int 1)<|x (x (g 15.2)<|v 2)<|k<|.int 1,s 4<|k .ao,X (qH<|x (x (g 15.2)<|v 2)<|k<|.int 2) [s 5<|b .add (v 3)<|k<|.int 1,s 4<|L (v 0) (.yes<|v 5)<|.yes<|b .add (v 5)<|x (v 0)<|v 3] [],r<|c 10.8 [v 2,L (v 0) (.yes<|b .add (v 1)<|k<|.int 1)<|.yes<|v 3,v 4]]]|9.4=>#[true,top 167,['N',"length"],1,[s 1<|b .add (k<|.int 1)<|l<|f (v 0) '1',X (B<|j<|f (v 0) '.') [qA 1<|b .add (k<|.int 1)<|l<|f (v 0) '.'] [],r<|v 1]]|9.5=>#[true,top 168,['E','N',"refusal"],2,[qF (c 9.6 [v 0,v 1]) [#[11.0,(.neg 1)],#[11.1,(.neg 2)],#[11.2,(.neg 3)],#[11.3,(.neg 3)],#[11.4,(.neg 4)],#[11.5,(.neg 5)],#[11.6,(.neg 6)],#[11.7,(.jW 10 2 '(')]]]]|9.6=>#[true,top 169,['E','N',"answer"],2,[X (E (B<|q .ne (f (v 1) '(')<|g 15.3)<|B<|q .eq (l<|f (v 0) '0')<|k<|.int 0) [Z 11.1 [k<|.str "there are no versions"]] [],s 2<|x (x (g 15.2)<|f (v 1) '(')<|k<|.int 0,r<|C 2 [v 0,v 1]]]|_=>#[false,top 0,[],0,.nil]
end
@[reducible] noncomputable def isFn(f:F):Bool:=(dat f).k
@[reducible] noncomputable def pz(f:F):QQ:=(qn f).1
@[reducible] noncomputable def mV(f:F):QQ:=(qn f).2
@[reducible] noncomputable def du(f:F):RY:=(dat f).s
@[reducible] noncomputable def iD(f:F):List QQ:=(dat f).n.take (dat f).p
@[reducible] noncomputable def jY(f:F):List QQ:=(dat f).n
@[reducible] noncomputable def l9:F->F|0.0=>11.7|0.1=>10.0|2.0=>10.0|2.1=>10.0|2.2=>10.0|2.3=>10.0|2.4=>10.0|0.2=>10.1|0.3=>10.2|0.4=>10.3|2.5=>10.3|0.5=>10.4|0.6=>10.5|0.7=>10.6|2.6=>10.6|2.7=>10.6|2.8=>10.6|2.9=>10.6|2.10=>10.6|0.8=>10.7|2.11=>10.7|0.9=>10.8|_=>1.0
@[reducible] noncomputable def kU:F->Option F|10.0=>U 0.1|10.1=>U 0.2|10.2=>U 0.3|10.3=>U 0.4|10.4=>U 0.5|10.5=>U 0.6|10.6=>U 0.7|10.7=>U 0.8|10.8=>U 0.9|_=>O
noncomputable def d4:F->Bool|10.0=>true|10.1=>true|10.2=>true|10.3=>true|10.4=>true|10.5=>true|10.6=>true|10.7=>true|10.8=>true|_=>false
noncomputable def isExc:F->Bool|11.0=>true|11.1=>true|11.2=>true|11.3=>true|11.4=>true|11.5=>true|11.6=>true|11.7=>true|_=>false
@[reducible] noncomputable def rm:F->Option Int|12.0=>U (-1)|12.1=>U<|34|12.2=>U<|44|12.3=>U<|45|12.4=>U<|58|12.5=>U<|59|12.6=>U<|61|12.7=>U<|92|12.8=>U<|95|12.9=>U<|48|12.10=>U<|57|12.11=>U<|97|12.12=>U<|102|13.0=>U<|122|13.1=>U<|33|13.2=>U<|63|13.3=>U<|42|13.4=>U<|37|13.5=>U<|98|13.6=>U<|105|13.7=>U<|116|13.8=>U<|123|13.9=>U<|60|13.10=>U<|125|13.11=>U<|62|13.12=>U<|19|14.0=>U<|1|14.1=>U<|2|14.2=>U<|3|14.3=>U<|4|14.4=>U<|5|14.5=>U<|6|14.6=>U<|7|14.7=>U<|4000|14.8=>U<|2000|14.9=>U<|6|14.10=>U<|40|14.11=>U<|999|14.12=>U<|12|15.0=>U<|16|15.1=>U<|100|15.3=>U<|0|_=>O
noncomputable def aC:F->List QQ|10.0=>['.',';']|10.1=>['[','c']|10.2=>['(','U','/']|10.3=>[')','F','6','+','*','3']|10.4=>['(','V','<',',','K']|10.5=>['.','M']|10.6=>['0','?']|10.7=>['>','.','@','9']|10.8=>['(','1','.']|_=>[]
end
end
noncomputable def eB:List Int->List Int->Bool|[],[]=>true|[],_::_=>false|_::_,[]=>true|x::a,y::b=>if x=y then eB a b else decide (y<=x)
def xV(x y:Int)(xs ys:List Int):eB (x::xs) (y::ys)=if x=y then eB xs ys else decide (y<=x):=G
def JH:eB [] []=true:=G
def JG(y:Int)(ys:List Int):eB [] (y::ys)=false:=G
def JF(x:Int)(xs:List Int):eB (x::xs) []=true:=G
theorem xW:∀xs ys:List Int,eB xs ys=!lexLt xs ys
 |[],[]=>rfl|[],_::_=>rfl|_::_,[]=>rfl|x::xs,y::ys=>by
  rw[xV,JI];by_cases h:x=y;.rw[aaD h,aaD h,xW xs ys]
  .rw[aaC h,aaC h];by_cases a:x<y;.rw[decide_eq_true a,decide_eq_false ∅];rfl
   .rw[decide_eq_false a,decide_eq_true ∅];rfl
def Ng(A:Rq)(s:P9)(a:Int)(t:Tok)(c:Int)(u:Tok)(prog:Rb)(w:RO)(E:P7->P9->Prop)(Q:P7->P9->Prop)(h:Q (.bool<|decide (c<=a)) s):
    Qn (Qt prog w) A (richCompare .GtE (.int a t)<|.int c u) Q E s:=
 (aaw h:Qn (Qt prog w) A (RD .GtE (.int a t)<|.int c u) Q E s)
section
open PySem.SeqAt
open PySem.MeetsSeq PySem.MeetsSeq2 PySem.MeetsSeq3
def OM(l b:P2)(items j:Array P7)(n n2:Nat)(dd a:Option P2)(sl c:Array<|Option P7)(ns ms:List Int)(hi:Ux items.toList ns)(H:Ux j.toList ms):
    Meets (V6.«tuple.__ge__» #[[.ref l,.ref b],[]])
     (λ_ R s=>s.heap.get? l=U {cls:=.type 'D',dict:=dd,data:=.seq items n,slots:=sl}/\s.heap.get? b=U {cls:=.type 'D',dict:=a,data:=.seq j n2,slots:=c}/\
      R (.ok<|.ret<|.bool<|eB ns ms) s):=
 .of_wp λprog w A R s h=>by
  have#[p,g,d,r,v]:=s;have#[hl,a,h]:=h
  have c:=XN
  have c:items.size=ns.length:=by rw[<-hi.length];simp
  have c:j.size=ms.length:=by rw[<-H.length];simp
  wp_walk using WJ hl,WJ a,Wk _ (λa b D=>b.1=O/\D=#[p,g,d,r,v]/\∃(z B:List P7)(k m:List Int),a=z.zip B/\
   Ux z k/\Ux B m/\k.length+j.size=m.length+items.size/\R (.ok<|.ret<|.bool<|eB k m) #[p,g,d,r,v]) _
  case turn=>
   rintro⟨y,x⟩a b D⟨E,rfl,z,B,k,m,f,F,C,o,i⟩
   induction F with
   |nil=>rw[List.zip_nil_left]at f;cases f
   |cons a t q=>
    induction C with
    |nil=>rw[List.zip_nil_right]at f;cases f
    |cons c u y=>
     rw[Tc]at f
     injection f with e I
     injection e with e x
     subst e x
     rw[xV]at i
     erw[P0]at o
     have#[e,J,x]:=HA A.in1 #[p,g,d,r,v] a t c u
     refine Qb<|J prog w _ _ ?_
     induction e with
     |true=>
      rw[aaD<|x.mp G]at i
      wp_walk
      exact#[G,G,_,_,_,_,I,q,y,∅,i]
     |false=>
      rw[aaC λq=>absurd (x.mpr q) Qu]at i
      have e:=Ng A.in1 #[p,g,d,r,v] a t c u prog w
      wp_walk using e
      exact#[_,G,by simpa using i]
  case fin=>
   rintro⟨d,e⟩D⟨E,rfl,z,B,k,m,f,F,C,o,i⟩
   simp only at E
   subst E
   have d:eB k m=decide (j.size<=items.size):=by
    induction F with
    |nil=>
     induction C with
     |nil=>
      erw[Qs]at o
      rw[JH]
      exact(decide_eq_true ∅).symm
     |cons c u e=>
      erw[Qs,P0]at o
      rw[JG]
      exact(decide_eq_false ∅).symm
    |cons a t d=>
     induction C with
     |nil=>
      erw[Qs,P0]at o
      rw[JF]
      exact(decide_eq_true ∅).symm
     |cons c u e=>
      rw[Tc]at f
      cases f
   rw[d]at i
   wp_walk
   exact#[_,G,by simpa[Builtin.Tuple.tupleCompareSizes]using i]
  case h=>
   exact#[G,G,items.toList,j.toList,ns,ms,G,hi,H,∅,h]
end
section
variable{prog:Rb}{w:RO}{A:Rq}{E:P7->P9->Prop}{s:P9}
def Iq{items a:Array P7}{Q:P7->P9->Prop}(hl:Xz s.heap l items)(j:Xz s.heap b a)(hi:Ux items.toList ns)(k:Ux a.toList ms)(m:A.units<Uq)(h:Q (.bool<|eB ns ms) s):Qn (Qt prog w) A (RD .GtE (.ref l)<|.ref b) Q E s:=by
 have#[#[f,o,g,p],c,d,n,e]:=id hl;have#[#[u,q,v,r],f,g,t,i]:=id j;simp only at d e g i;subst d e g i;exact richCompare_meets_room (op:=.GtE) #[_,c,G] #[_,f,G] PySem.F.slot_tuple_ge PySem.F.entry_tuple_ge (PySem.F.args_tuple_ge_2 _ _) (OM l b items a n t o q p r ns ms hi k)
  #[c,f,show Zf (eB ns ms)≠Value.notImplemented/\Q (.bool<|eB ns ms) s from#[(λx=>nomatch x),h]] m
end
def Ip(e:X.A.units<Uq):qo X:=by intro aa s a H x y v u Q I f g h;have#[a,b,c,d,rfl,rfl,i,j,q]:=h;cases f;cases g;have#[a,b,f,_]:=I.tuple i;have#[g,h,i,_]:=I.tuple j;have j:Ux a.toArray.toList c:=intsAre_of b;have a:Ux g.toArray.toList d:=intsAre_of h;exact Iq f i j a e #[.bl<|eB c d,H,I,G,by rw[xW];exact q]
section
open PySem.SeqAt
open PySem.MeetsSeq PySem.MeetsSeq2 PySem.MeetsSeq3
def JJ(l b:P2)(xs ys:Array P7)(n n2:Nat)(dd:Option P2)(sl:Array<|Option P7)(a:¬(!xs.isEmpty&&Su (xs.size+ys.size))=true)(c:xs.size<=Qq)(e:xs.size+ys.size<=Qq+1):
    Meets (V6.«list.extend» ⟨[.ref l,.ref b],[]⟩) (λ_ R s=>s.heap.get? l=U {cls:=.type '4',dict:=O,data:=.seq xs n,slots:=#[]}/\s.heap.get? b=U {cls:=.type 'D',dict:=dd,data:=.seq ys n2,slots:=sl}/\
     R (.ok<|.ret UX) {s with heap:=s.heap.update l<|V9 λx=>x++ys,toks:=s.toks}):=
 .of_wp λprog w A R s h=>by
  have#[a,g,d,f,i]:=s
  have#[a,d,h]:=h
  have f:=XN
  have f:=AutoSeq1.sub_tuple_list
  have f:(xs++ys).size<=Qq+1:=by rw[Array.size_append];exact e
  wp_walk using(wpAny_updateSeq a G (hz:=c) (_hz':=f)),WJ a,WJ d
  exact⟨_,G,h⟩
end
def HF:lW X "list.extend" λx vs H Q=>∃l b xs a,x=.ref l/\vs=[.ref b]/\H l=U (.lst xs)/\H b=U (.tup a)/\xs.length+a.length<=Qq/\Q .ao (upd H l<|.lst<|xs++a):=by
 intro aa s d H x vs v f Q I c e h;have#[l,b,xs,a,rfl,rfl,d,i,f,q]:=h;cases c;have#[u,rfl,a]:=e.one;cases a;have#[z,a,n,r,c,e]:=I.iu d;have#[o,c,f,j,k,g,m,h]:=I.ay b _ i;have i:=f.length;have i:a.toArray.size+c.toArray.size<=Qq:=by rw[Qw,Qw];lia
 have o:¬(!a.toArray.isEmpty&&Su (a.toArray.size+c.toArray.size))=true:=by rw[sN i,Ya];exact Qu
 have#[s,i,t,p]:=j;simp only at g h;subst g h;refine VW WA ⟨_,e,G⟩ Z6 (ZT _ _)
  (JJ l b a.toArray c.toArray n m i p o (by rw[Qw];lia) ∅) ⟨e,k,?_⟩
 refine⟨.ao,_,I.oQ (its':=a++c) d e (by simp) (r.append f) ?_,G,q⟩;rw[P5];lia
section
variable{prog:Rb}{w:RO}{A:Rq}{E:P7->P9->Prop}
def oj{h h':Q7}(x:(Sy<|bz prog w).is h k a)(e:∀o,h.get? a=U o->h'.get? a=U o):(Sy<|bz prog w).is h' k a:=by have#[o,b,n,c,r]:=x;exact#[o,b,n,e _ c,r]
def rD{h h':Q7}(x:h.DictOfH (Sy<|bz prog w) d xs)(e:∀o,h.get? d=U o->h'.get? d=U o)(k:∀q∈xs,∀o,h.get? q.2.1=U o->h'.get? q.2.1=U o):
    h'.DictOfH (Sy<|bz prog w) d xs:=by have#[o,a,b,c,f,g,i,j,l]:=x;exact#[o,a,b,e _ c,f,g,i,λq a=>oj (j q a)<|k q a,l]
theorem CQ{R:Ye->P9->Prop}{items:Array P7}(v:A.handled=O)(x:A.units+1<Uq)(y:l≠I)(f:S≠I)(B:S≠l):
  ∀(rest:List<|List Key×P2×P7)(i:Nat)(acc:List<|List Key×P2×P7)(g:Int)(t:Tok)(s:P9),items.size=i+rest.length->acc.length+rest.length<=Qq->((acc++rest).map (·.1)).Nodup->
   (∀q∈acc++rest,q.2.1≠S/\q.2.1≠I/\(Sy<|bz prog w).is s.heap q.1 q.2.1)->
   (∀(j:Nat)(q:List Key×P2×P7),rest[j]?=U q->∃(b:P2),items[i+j]?=U (.ref b)/\b≠S/\b≠I/\Xz s.heap b (Rc [.ref q.2.1,q.2.2]))->
   s.heap.IsListIter I l i->s.heap.IsList l items->s.heap.DictOfH (Sy<|bz prog w) S acc->
   (∀h' tk,h'.DictOfH (Sy<|bz prog w) S (acc++rest)->(∀b o,b≠S->b≠I->s.heap.get? b=U o->h'.get? b=U o)->R (.ok<|.ret res) {s with heap:=h',toks:=tk})->
   Vm (Qt prog w) A (.builtin 'X' #[[.ref S,.ref I,.int g t,res],[]]) R s
 |[],i,acc,g,t,s,a,C,h,c,u,k,d,n,m=>by refine T9 p7 ?_;rw[Tj hU _];show Qn _ A.in1 (XA (.ref I)>>=_) _ _ s;refine Qb<|Vg (A:=A.in1) v k d (by first|exact Array.getElem?_eq_none (Uh a)|(simp at a;simp;lia)) λh' p=>?_;show Qn _ A.in1 (Xj S []>>=_) _ _ _;refine Qb<|Qo<|Qo ?_;rw[Rr]at m c;exact m h' s.toks (rD n (λo q=>p S o f q) λq e o z=>p _ o (c q e).2.1 z) λb o _ r e=>p b o r e|q::rest,i,acc,g,t,s,a,C,h,c,u,k,d,n,m=>by
  have#[b,r,E,p,D]:=u 0 q rfl;have#[H,E,F]:=c q<|RF _ QE;rw[P0]at a C;refine T9 p7 ?_;rw[Tj hU _];show Qn _ A.in1 (XA (.ref I)>>=_) _ _ s;refine Qb<|U4 (x:=.ref b) k d (by simpa using r) λk C a=>?_;have H:Xz k b<|Rc [.ref q.2.1,q.2.2]:=D.extBut a.extBut p;have D:k.IsList l items:=d.extBut a.extBut y;have J:k.DictOfH (Sy<|bz prog w) S acc:=rD n (λo z=>a.extBut S o f z) λp r o z=>a.extBut _ o (c p<|Si _ r).2.1 z;have K:(Sy<|bz prog w).is k q.1 q.2.1:=oj F λo z=>a.extBut _ o E z;have#[o,d,k,n,E]:=id H;show Qn _ A.in1 (U5 [QY b] _>>=_) _ _ _;refine Qb<|Sg ?_;refine Qb<|wpAny_tryCatch ?_;unfold Xy;refine Qb<|Wt (T:='D') #[o,d,k] ?_;rw[aaD (by first|decide|rfl|simp)];refine Qb<|WY d E<|Qo ?_;show Qn _ A.in1 (U5 [QY q.2.1,q.2.2]<|dictSet S (.ref q.2.1) q.2.2) _ _ _;have n:aak acc q.1=O:=by refine atKey_none_of_get λj p z=>?_;have d:(q.1,p)∈acc:=List.mem_of_getElem? z;rw[Sf,Xk]at h;exact h.2.2 q.1 (Ro.mpr #[_,d,G]) q.1 (by simp) rfl
  refine Sg<|wpAny_dictSet_heap (knd:=Sy<|bz prog w) (k:=q.1) (hsz:=by lia) x K J λE k d=>?_;rw[storedH_new n]at k;have n:acc++[(q.1,q.2.1,q.2.2)]++rest=acc++q::rest:=by rw[QL];rfl
  refine Qo #[UH hU _,CQ (items:=items) v x y f B rest (i+1) (acc++[(q.1,q.2.1,q.2.2)]) (g+1) 0 _ (show items.size=i+1+rest.length by lia) ?_ (by rw[n];exact h) (λp r=>?_) (λj x e=>?_) ?_ ?_ k λh' tk g k=>?_];.rw[P5,QB];lia
  .rw[n]at r;have#[h,v,y]:=c p r;exact#[h,v,oj y λo z=>d.extBut _ o h<|a.extBut _ o v z]
  .have#[p,r,c,h,v]:=u (j+1) x (by simpa using e);refine#[p,?_,c,h,(v.extBut a.extBut h).extBut d.extBut c];rw[show i+1+j=i+(j+1) by lia];exact r
  .exact C.at λc e=>d.extBut I c (Q4 f) e
  .exact D.extBut d.extBut<|Q4 B
  .rw[n]at g;exact m h' tk g λc f g h e=>k c f g h<|d.extBut c f g<|a.extBut c f h e
def GH{s:P9}{a:S1}{items:Array P7}{n:Nat}{prs:List (List Key×P2×P7)}{Q:P7->P9->Prop}(k:A.handled=O)(u:A.units+2<Uq)(v:(prs.map (·.1)).Nodup)(x:∀q∈prs,(Sy<|bz prog w).is s.heap q.1 q.2.1)(hl:s.heap.get? l=U a)(hc:a.cls=.type '4')(hd:a.dict=O)(g:a.data=.seq items n)(hsz:items.size=prs.length)(y:prs.length<=Qq)(B:∀(j:Nat)(q:List Key×P2×P7),prs[j]?=U q->∃(b:P2),items[j]?=U (.ref b)/\Xz s.heap b (Rc [.ref q.2.1,q.2.2]))(h:∀h' tk,h'.DictOfH (Sy<|bz prog w) s.heap.objs.size prs->(∀b o,s.heap.get? b=U o->h'.get? b=U o)->Q (.ref s.heap.objs.size) {s with heap:=h',toks:=tk}):
    Qn (Qt prog w) A (call (.type '7') [.ref l]) Q E s:=by
 refine callType_codes (Q₁:=λc d=>c=.ref s.heap.objs.size/\d={s with heap:=s.heap.push {cls:=.type '7',data:=.dict #[]}}) Yh (XD _) X5 (kt_code_dict_new _ #[G,G]) ?_;rintro c d⟨rfl,rfl⟩;have i:(s.heap.push {cls:=.type '7',data:=.dict #[]}).DictOfH (Sy<|bz prog w) s.heap.objs.size []:=Heap.DictOfH.new s.heap;have d:∀b o,s.heap.get? b=U o->(s.heap.push {cls:=.type '7',data:=.dict #[]}).get? b=U o:=λb o e=>Q7.get?_push_of_some _ e;refine#[i.typeIs,XW _ _,?_];unfold V6.«dict.__init__»;refine Qb ?_;unfold Xi;refine Qb<|Z2 i.typeIs ?_;show Qn _ _ (pure (s.heap.objs.size,[QY l])) _ _ _;refine Qo ?_;show Qn _ _ (Ud "dict.__init__" s.heap.objs.size (.ref l) [] .none) _ _ _;unfold Ud;refine Qb<|Wt (T:='4') #[a,d _ _ hl,hc] ?_;rw[aaD (by first|decide|rfl|simp)];refine Qb<|yh (d _ _ hl) hc g hd k λc z f=>?_;rw[aaD (show(O:Option P7).isNone=true from G)];refine Qb<|wpAny_rule ?_;have p:c.IsList l items:=#[a,f _ _<|d _ _ hl,hc,n,g];have a:s.heap.objs.size<c.objs.size:=by have e:(s.heap.push {cls:=.type '7',data:=.dict #[]}).get? s.heap.objs.size=U {cls:=.type '7',data:=.dict #[]}:=Q7.get?_push_size _ rfl;exact Qi<|f _ _ e
 refine Qb<|V4 p ?_;have g:∀b o,c.get? b=U o->(c.push {cls:=.type 'R',data:=.fields (Rc [.ref l,.int 0 0])}).get? b=U o:=λb o e=>Q7.get?_push_of_some _ e;have m:l<s.heap.objs.size:=Qi hl;have t:=CQ (prog:=prog) (w:=w) (A:=A.in1) (R:=wants (λr C=>r=.none/\Q (.ref s.heap.objs.size) C) E) (S:=s.heap.objs.size) (I:=c.objs.size) (l:=l) (items:=items) (res:=UX) k u
  (QC<|S2 m a) (QC a) (TZ m) prs 0 [] 0 0
  {s with heap:=c.push {cls:=.type 'R',data:=.fields (Rc [.ref l,.int 0 0])},toks:=z} (by rw[hsz,R0]) (by rw[Qs,R0];exact y) v
  (λq k=>by
   have z:=x q k
   have c:q.2.1<s.heap.objs.size:=by
    have#[o,_,_,m,_]:=z
    exact Qi m
   exact#[QC c,QC<|S2 c a,oj z λo e=>g _ _<|f _ _<|d _ _ e])
  (λj q e=>by
   have#[b,m,r]:=B j q e
   have c:b<s.heap.objs.size:=r.lt
   exact#[b,by rw[R0];exact m,QC c,QC<|S2 c a,r.keeps λc o z=>g _ _<|f _ _<|d _ _ z])
  #[_,Q7.get?_push_size _ G,G,G] (p.at λo e=>g _ _ e) (rD i (λo e=>g _ _<|f _ _ e) λq k=>nomatch k)
  (λh' tk c k=>#[G,h h' tk c λb o e=>k b o (QC<|Qi e) (QC<|S2 (Qi e) a)<|g _ _<|f _ _<|d _ _ e])
 first
  |exact Qo #[UH hU _,t]
  |exact Qb<|Qo<|Qo #[UH hU _,t]
end
section
variable{X:Cx}
def yL{s:P9}(I:Inv X aa σ H s):∀{c:List P2}{d:List (List Key×V)},Paired (λq a=>∃b,aR X.K H q [.ref b,a.2]/\H b=U (.tup<|a.1.map kV)) c d->
    ∃prs:List<|List Key×P2×P7,Paired (λ(p:List Key×V)(q:List Key×P2×P7)=>p.1=q.1/\H q.2.1=U (.tup<|p.1.map kV)/\RelV p.2 q.2.2) d prs/\prs.length=c.length/\
     ∀(j:Nat)(q:List Key×P2×P7),prs[j]?=U q->∃(b:P2),c[j]?=U b/\Xz s.heap b (Rc [.ref q.2.1,q.2.2]):=by intro _ _ c;induction c with|nil=>exact#[[],.nil,G,λj q e=>by simp at e]|@cons p a _ _ h t c=>have#[prs,r,d,f]:=c;have#[b,c,g]:=h;have#[k,h,i,_]:=I.tuple c;have#[u,y,c,k,l]:=vals2 h;subst c;cases k;refine#[(a.1,b,y)::prs,.cons #[G,g,l] r,by rw[P0,P0,d],λj q e=>?_];induction j with|zero=>have c:(a.1,b,y)=q:=QO e;subst c;exact#[p,G,i]|succ j=>have#[a,c,d]:=f j q (by simpa using e);exact#[a,by simpa using c,d]
def xx{H:Hp}:∀{a:List (List Key×V)}{prs:List (List Key×P2×P7)},Paired (λ(p:List Key×V)(q:List Key×P2×P7)=>p.1=q.1/\H q.2.1=U (.tup<|p.1.map kV)/\RelV p.2 q.2.2) a prs->
    a.map (·.1)=prs.map (·.1)/\∀q∈prs,H q.2.1=U (.tup<|q.1.map kV):=by
 intro _ _ a;induction a with
 |nil=>exact#[G,λq a=>nomatch a]|cons h t b=>
  have#[c,d]:=b;refine#[by rw[Ql,Ql,c,h.1],λq a=>?_];rcases Qp.mp a with rfl|a;.rw[<-h.1];exact h.2.1
  .exact d q a
def Hu(i:X.calm=true)(j:X.A.units+2<Uq):bU X (.type '7') λxs H Q=>∃(a:P2)(d:List P2)(c:List<|List Key×V),xs=[.ref a]/\af X.K H a (d.map V.ref)/\
    Paired (λq e=>∃b,aR X.K H q [.ref b,e.2]/\H b=U (.tup<|e.1.map kV)) d c/\c.length<=1000/\(c.map (·.1)).Nodup/\∀p,H p=O->Q (.ref p) (upd H p<|.dT c):=by
 intro aa s e H xs f Q I r q;have#[a,d,c,e,f,k,l,m,q]:=q;subst e;have#[u,d,e]:=vals1 r;subst d;cases e;have#[g,d,r,e]:=I.list f;have f:=pH d;subst f;rw[Qe]at e;have#[f,g,h,t]:=yL I k;have#[d,k]:=xx g;have#[o,n,u,v,w,x]:=r;refine GH (prs:=f) (I.ok.hd i) j (by rw[<-d];exact m) (λz d=>mD I.ay<|k z d) u v w x (by simp[h]) (by rw[h];exact e) (λj h e=>?_) λn i m k=>?_;.have#[b,n,o]:=t j h e;exact#[b,by simp[n],o]
 .have h:(s.heap.objs.size==Vh)=false:=beq_eq_false_iff_ne.mpr (TZ I.big);have j:c.length<=Qq:=QW l (by decide);have#[l,n,o,r,t,u,v,_,w]:=m;have e:H s.heap.objs.size=O:=I.ay.fresh<|Qg _;refine#[.ref s.heap.objs.size,upd H s.heap.objs.size<|.dT c,I.laid (t':=i) k (Qg _) (show bV X.prog X.w _ _ _ (.dT c)from#[j,h,f,Paired.oT g λp z d=>#[d.1,?_,d.2.2],l,n,o,r,t,u,v,w]),G,q _ e];rw[aq<|bT d.2.1 e];exact d.2.1
end
def eqL{a b:Type}{u v:a->b}{l:List a}(h:l.map u=l.foldr (λf r=>v f::r) []):∀p∈l,u p=v p:=by rw[List.foldr_cons_eq_append,Rr]at h;exact List.map_inj_left.mp h
noncomputable def aaQ:List FA:=List.map (λf=>f.a) [0.0,1.0,2.0,3.0,4.0,5.0,6.0,7.0,8.0,9.0,10.0,11.0,12.0,13.0,14.0,15.0]
noncomputable def allB:List FB:=List.map (λf=>f.b) [0.0,0.1,0.2,0.3,0.4,0.5,0.6,0.7,0.8,0.9,0.10,0.11,0.12]
noncomputable def aaK(q:F->Bool):List F:=(aaQ.flatMap λa=>allB.map λb=>#[a,b]).filter q
def aaO{q:F->Bool}{f:F}(h:q f=true):f∈aaK q:=by
 refine aap.mpr #[List.mem_flatMap.mpr #[f.a,?_,Ro.mpr #[f.b,?_,G]],h];.induction f.a<;>(repeat first|exact .head _|apply List.Mem.tail)
 .induction f.b<;>(repeat first|exact .head _|apply List.Mem.tail)
def eqF(q:F->Bool){a:Type}(u v:F->a)(h:(aaK q).map u=(aaK q).foldr (λf r=>v f::r) [])(f:F)(b:q f=true):u f=v f:=eqL h f<|aaO b
noncomputable def rdB:F->Bool|0.0=>false|f=>isFn f
def aaP{f:F}(c:isFn f=true)(d:f≠0.0):rdB f=true:=by rcases f with⟨a,b⟩;induction a<;>first|exact c|(induction b<;>first|exact c|exact absurd G d)
def cs(f:F)(h:isFn f=true):(f≠0.0->(jL (cS nm (jY f) (dk<|du f) 30 30)<|ie<|du f).map (·.1)=U (dat f).c)/\lU (jY f) (iD f) (dk<|du f):=
 #[λa=>eqF rdB (λf=>(jL (cS nm (jY f) (dk<|du f) 30 30)<|ie<|du f).map (·.1)) (λf=>U (dat f).c) (by kernel_rfl) f<|aaP h a,
  eqF isFn (λf=>(dk<|du f).kind) (λ_=>.function) (by kernel_rfl) f h,
  eqF isFn (λf=>(dk<|du f).isCoroutine) (λ_=>false) (by kernel_rfl) f h,
  eqF isFn (λf=>(dk<|du f).isGenerator) (λ_=>false) (by kernel_rfl) f h,
  of_decide_eq_true (eqF isFn (λf=>decide (jY f).Nodup) (λ_=>true) (by kernel_rfl) f h),
  eqF isFn (λf=>(jY f).take (iD f).length) (λf=>iD f) (by kernel_rfl) f h,
  of_decide_eq_true (eqF isFn (λf=>decide (∀x∈iD f,(dk<|du f).names.lookup x=U .local\/(dk<|du f).names.lookup x=U .cell)) (λ_=>true) (by kernel_rfl) f h),
  of_decide_eq_true (eqF isFn (λf=>decide (∀y∈(dk<|du f).names,y.2≠.free)) (λ_=>true) (by kernel_rfl) f h)]
def lV(X:Cx):Prop:=∀(p c d f:SK)(e:P8)(a:TE),Gl X "len"->Gl X '_'->PE X e a->(∀b,QJ (e::b) X.env=(false,Sj e X.env)::QJ b X.env)->PE X (.Call (.Name "len" p) [.Call (.Name '_' d) [e] [] f] [] c)
    λb H Q=>a b H λx a=>∃(q:P2)(bs:List P2)(ks:List<|List Key),x=.ref q/\af X.K a q (bs.map V.ref)/\Paired (λb k=>a b=U (.tup<|k.map kV)) bs ks/\ks.length<=1000/\Q (.int ks.eraseDups.length) a
def Kb{X:Cx}(hc:X.calm=true)(a:X.A.units+64<Uq)(hl:lV X):More X:=
 #[Ip ∅,HB a,HF,Hu hc ∅,hl]
structure Facts(K:PY)(mg:QQ->Option P7)(ad:F->P2)(fd:F->TY):Prop where
 fn:∀f,isFn f=true->iO K (pz f) (mV f) (du f) (ad f) (fd f)
 bd:∀f,isFn f=true->Binds K (fd f) (iD f) []
 J0:∀x g,nm.fn.lookup x=U g->mg x=U (.ref (ad g))
 Js:∀g,d4 g=true->R4 K (.ref (ad g))=true
 J7:∀g i,kU g=U i->Mk K (ad g) (ad i)
 cls:∀g,d4 g=true->ed K (ad g)
 me:∀x g,nm.me.lookup x=U g->Meth K (ad (l9 g)) x (ad g)/\d4 (l9 g)=true/\isFn g=true
 con:∀x g,nm.gl.lookup x=U g->∃u,mg x=U u/\RelV (match rm g with|some i=>V.int i|none=>V.ref (ad g)) u
 fo:∀g,d4 g=true->∀f∈aC g,fJ K (ad g) f
 ex:∀x g,nm.ex.lookup x=U g->mg x=U (.ref (ad g))/\lS K (ad g)
 blt:∀b,b∈nO->mg b=O
 Ii:∀x g,nm.fn.lookup x=U g->isFn g=true\/d4 g=true
section
variable{P:Rb}{w:RO}{K:PY}{mg:QQ->Option P7}{base:Q7}{ad:F->P2}{fd:F->TY}{sp:F->Nat->Sp}
@[reducible] noncomputable def iw(C:P2)(b:Sp):Sp:=λc H Q E=>∀x a,H x=O->H a=O->a≠x->b (.ref x::c) (upd (upd H a<|.own x) x<|.ins C a []) (λv a=>v=.ao/\Q (.ref x) a) E
@[reducible] noncomputable def iV(ad:F->P2)(sp:F->Nat->Sp)(g:F)(k:Nat):Sp:=match kU g with|some i=>λa H Q E=>1<=k/\iw (ad g) (sp i<|k-1) a H Q E|none=>sp g k
@[reducible] noncomputable def Gk(K:PY)(ad:F->P2)(sp:F->Nat->Sp)(k:Nat):aO F where
 K:=K
 gv:=λg=>match rm g with|some i=>V.int i|none=>V.ref<|ad g
 fa:=λg=>if isFn g=true\/d4 g=true then U (ad g)else O
 fn:=λg=>iV ad sp g k
 me:=λg=>(ad<|l9 g,sp g k)
 fo:=λC f=>∃g,d4 g=true/\C=ad g/\f∈aC g
 xc:=ad
 dM:=λg=>isExc g=true
 xo:=λ_=>('(',2<=k)
def Good(P:Rb)(w:RO)(K:PY)(mg:QQ->Option P7)(base:Q7)(ad:F->P2)(fd:F->TY)(sp:F->Nat->Sp)(k:Nat):Prop:=
 ∀j,j<=k->∀f,isFn f=true->ia P w K mg base (bH P w) j (ad f) (fd f) (iD f) (sp f j)
def qS(P:Rb)(w:RO)(K:PY)(mg:QQ->Option P7)(base:Q7)(ad:F->P2)(fd:F->TY)(sp:F->Nat->Sp):Prop:=
 ∀(k:Nat)(N:List QQ)(E:XK)(a:Ry)(X:Cx),Good P w K mg base ad fd sp k->Sd (Gk K ad sp k) nm N E true a X->(∀Y,cW X Y->Y.calm=X.calm->More Y)->FX X->kE X E->Xh (Qt X.prog X.w) X.A X.env X.xe->X.prog=P->X.w=w->X.K=K->X.mg=mg->X.base=base->cB k X.A->(∀x,X.fn x=true)->
  (∀x,X.env.scope.names.lookup x=a.names.lookup x)->vi (Gk K ad sp k) nm N E a X
def Ih:kC (dJ (bH P w) P w K mg base N qual scope f cd A outer a b E) E:=
 λaa g H s h T i j k I x a b c d e=>leave I n4 x a b c d e
def Jd:∀g:F,d4 g=true->∃i,kU g=U i/\isFn i=true/\isFn g=false:=by intro g h;(rcases g with⟨a,b⟩;induction a<;>first|(cases h;done)|cases b)<;>first|exact#[_,G,G,G]|cases h
def IT:∀g:F,isFn g=true->kU g=O:=by intro g h;(rcases g with⟨a,b⟩;induction a<;>first|(cases h;done)|cases b)<;>first|rfl|cases h
def GL(T:Facts K mg ad fd){k:Nat}(c:Good P w K mg base ad fd sp k)(h:(Gk K ad sp k).fa g=U a){Y:Cx}(b:Y.prog=P)(e2:Y.w=w)(e3:Y.K=K)(e4:Y.mg=mg)(e5:Y.base=base)(hr:cB k Y.A)(hp:Passes (bH P w) Y E'):
    iN Y a ((Gk K ad sp k).fn g) E':=by
 subst b e2 e3 e4 e5;simp only at h;split at h
 .rename_i e;cases h;intro aa s b H Q f d I r q;by_cases b:isFn g=true
  .have f:sp g k d H Q E':=by erw[iV,IT g b]at q;exact q
   have i:sp g k (d++[]) H Q E':=by rw[Rr];exact f
   exact BF (c k (Qg _) g b) hr (T.bd g b) .nil hp I r i
  .have f:d4 g=true:=e.resolve_left b;have#[i,b,d,_]:=Jd g f;erw[iV,b]at q;have#[e,q]:=q;have f:cB (k-1+1) Y.A:=by rw[W7 e];exact hr
   exact NF (T.J7 g i b) (c (k-1) (Nat.sub_le _ _) i d) f (T.bd i d) .nil hp I r λx b c d e=>by rw[Rr];exact q x b c d e
 .cases h
def Jt(T:Facts K mg ad fd){k:Nat}(h:(Gk K ad sp k).fa g=U a):R4 K (.ref a)=true:=by
 simp only at h;split at h
 .rename_i c;cases h;by_cases b:isFn g=true;.exact(T.fn g b).kp
  .exact T.Js g<|c.resolve_left b
 .cases h
def Hs(T:Facts K mg ad fd)(h:∀X:Cx,X.prog=P->X.w=w->X.K=K->X.mg=mg->X.calm=true->X.A.units+64<Uq->lV X)(L:qS P w K mg base ad fd sp){k:Nat}(v:Good P w K mg base ad fd sp k)(f:F)(d:isFn f=true){N a:List QQ}(hN:jY f=N)(b:iD f=a)(M:(jL (cS nm N (dk<|du f) 30 30)<|ie<|du f).map (·.1)=U c)(g:lU N a<|dk<|du f)(e:∀vs H Q E,sp f (k+1) vs H Q E->vs.length=a.length)(R:∀vs H Q E,sp f (k+1) vs H Q E->iG (Gk K ad sp k) E c {lk:=λ_ y=>Q .ao y,rt:=Q} (start N vs) H):
    ia P w K mg base (bH P w) (k+1) (ad f) (fd f) (iD f) (sp f<|k+1):=by
 subst hN b;refine wM (T.fn f d) g e λa A e s H vs Q E l S=>?_;generalize d:dJ (bH P w) P w K mg base (jY f) (mV f) (dk<|du f) (ad f) a A e s H E=X;have j:X.prog=P:=by rw[<-d];rfl
 have n:X.w=w:=by rw[<-d];rfl
 have e:X.K=K:=by rw[<-d];rfl
 have i:X.mg=mg:=by rw[<-d];rfl
 have z:X.base=base:=by rw[<-d];rfl
 have s:X.env.scope=dk (du f):=by rw[<-d];rfl
 have o:cB k X.A:=by rw[<-d];exact l
 have b:Passes (bH P w) X E:=by rw[<-d];exact LS
 have t:FX X:=by rw[<-d];exact n4
 have D:kC X E:=by rw[<-d];exact Ih
 have p:X.calm=true:=by rw[<-d];rfl
 have m:∀Y,cW X Y->Y.calm=X.calm->lV Y:=λY l a=>h Y (l.prog.trans j) (l.w.trans n) (l.K.trans e) (l.mg.trans i) (a.trans p) (by rw[l.A];exact o.units);have A:∀Y,cW X Y->Y.calm=X.calm->More Y:=λY l a=>Kb (a.trans p) (by rw[l.A];exact o.units)<|m Y l a;have u:Sd (Gk K ad sp k) nm (jY f) E true (dk<|du f) X:=by
  refine#[e,by rw[<-d];rfl,g.nd,p,λ_=>s,λx h=>?_,λx h=>?_,λx g h=>by rw[i];exact T.con x g h,λx g h=>#[ad g,?_,by rw[i];exact T.J0 x g h],λg a h=>#[by rw[e];exact Jt T h,λJ Y l a=>?_],
   λm g h=>?_,by rw[j,n];exact b,λC b h=>?_,λb h=>by rw[i];exact T.blt b h,o.units]
  .rw[s];unfold gm at h;split at h;.exact .inl (by assumption)
   .exact .inr<|.inl (by assumption)
   .exact .inr<|.inr (by assumption)
   .cases h
  .unfold bC at h;split at h;.show X.env.scope.names.lookup x=_;rw[s];assumption
   .cases h
  .simp only;rw[aaD<|T.Ii x g h]
  .rw[j,n]at a;exact GL T v h (l.prog.trans j) (l.w.trans n) (l.K.trans e) (l.mg.trans i) (l.base.trans z) (by rw[l.A];exact o) a
  .have#[b,B,C]:=T.me m g h;refine#[by rw[e];exact T.cls _ B,ad g,by rw[e];exact b,λJ Y l a=>?_];rw[j,n]at a;intro aa W Z y m us V I r q;have#[W,Z,y3,y4,y5,y6,y7]:=l;have l:=W.trans j;have W:=Z.trans n;have Z:=y3.trans e;have z4:=y4.trans i;have z5:=y5.trans z;have ab:cB k Y.A:=by rw[y6];exact o
   have Y:sp g k (V++[]) y m J:=by rw[Rr];exact q
   subst l W Z z4 z5;exact BF (v k (Qg _) g C) ab (T.bd g C) .nil a I r Y
  .have#[g,a,rfl,l]:=h;rw[e];exact#[T.cls g a,T.fo g a _ l]
 have q:Ss (Gk K ad sp k) nm (jY f) E (dk<|du f) X:=by
  have a:kE X E:=by rw[<-d];exact Nc
  have l:Xh (Qt X.prog X.w) X.A X.env X.xe:=by rw[<-d];exact LR
  have m:∀x,X.fn x=true:=λx=>by rw[<-d];rfl
  refine#[#[u,A X (cW.refl X) G,λ_=>#[A,Jx p (by rw[u.hN];exact u.nd) t D]],JQ p t D,a,t.ex,L k _ E _ X v u A t a l j n e i z o m λx=>by rw[s],l,m,λx g h=>?_];.have#[b,B]:=T.ex x g h;rw[e,i];exact#[b,B]
 have#[z,_,rfl]:=SS.mp M;exact#[_,z.2 q,R vs H Q E S]
end
section
open Vacola (Lit)
abbrev Kd:=Sa
noncomputable def bv(t:List Nat):List V:=t.map λ(c:Nat)=>V.int (c:Int)
def bE(t:List Nat):(bv t).length=t.length:=Qe ..
def qX(s t:List Nat):bv (s++t)=bv s++bv t:=Sf ..
def nP{i c:Nat}(h:t[i]?=U c):(bv t)[i]?=U (V.int c):=by unfold bv;rw[List.getElem?_map,h];rfl
def aj(H a:Hp):Prop:=∀b o,H b=U o->a b=U o
def aj.refl(H:Hp):aj H H:=λ_ _ h=>h
def aj.trans(a:aj H H1)(b:aj H1 c):aj H c:=λc o h=>b c o<|a c o h
def bg(h:H p=O):aj H<|upd H p o:=λb u e=>by rw[aq<|bT e h];exact e
def aj.none(k:aj M H)(h:H b=O):M b=O:=by cases q:M b with|none=>rfl|some o=>rw[k b o q]at h;cases h
abbrev W0:P2->Prop:=λ_=>False
abbrev W1(a:P2):P2->Prop:=λb=>b=a
def di(W:P2->Prop)(H a:Hp):Prop:=∀b o,H b=U o->¬W b->a b=U o
structure Go(W:P2->Prop)(M H M' H':Hp):Prop where
 fr:aj M M'
 ae:aj M' H'
 new:∀b o,M' b=U o->M b=U o\/H b=O
 st:∀b o,H b=U o->¬W b->H' b=U o
 bQ:∀b,H' b=O->H b=O
def Go.refl{W:P2->Prop}(k:aj M H):Go W M H M H:=#[aj.refl M,k,λ_ _ h=>.inl h,λ_ _ h _=>h,λ_ h=>h]
def Go.x{W:P2->Prop}(g:Go W M H M' a):di W H a:=g.st
def Go.trans{W b:P2->Prop}{M H c H1 d e:Hp}(g:Go W M H c H1)(g':Go b c H1 d e)(f:∀a,b a->W a\/H a=O):Go W M H d e:=by
 refine#[g.fr.trans g'.fr,g'.ae,λb o e=>?_,λb o e n=>?_,λb e=>g.bQ b<|g'.bQ b e]
 .rcases g'.new b o e with h|h;.exact g.new b o h
  .exact .inr<|g.bQ b h
 .refine g'.st b o (g.st b o e n) λw=>?_;rcases f b w with h|h;.exact n h
  .rw[h]at e;cases e
def Go.aB{W:P2->Prop}{M H a H1 b c:Hp}(g:Go W M H a H1)(g':Go W0 a H1 b c):Go W M H b c:=g.trans g' λ_ h=>h.elim
def Go.then{W:P2->Prop}{M H a H1 b c:Hp}(g:Go W M H a H1)(g':Go W a H1 b c):Go W M H b c:=g.trans g' λ_ h=>.inl h
def Go.ug{W b:P2->Prop}{M H d H1 c:Hp}(g:Go W M H d H1)(g':di b H1 c)(f:∀a,b a->W a\/H a=O):di W H c:=λb o e n=>by
 refine g' b o (g.st b o e n) λw=>?_
 rcases f b w with h|h
 .exact n h
 .rw[h]at e;cases e
def di.refl{W:P2->Prop}:di W H H:=λ_ _ h _=>h
def Go.alloc{W:P2->Prop}(g:Go W a b M H)(h:H p=O):Go W a b M<|upd H p o:=
 g.aB #[aj.refl M,g.ae.trans<|bg h,λ_ _ e=>.inl e,λb u e _=>bg h b u e,λb e=>by
  by_cases q:b=p
  .rw[q];exact h
  .rwa[aq q]at e]
def Go.bc{W:P2->Prop}(g:Go W a b M H)(h:H p=O):Go W a b (upd M p o)<|upd H p o:=
 g.aB #[bg<|g.ae.none h,λb u e=>by
  by_cases q:b=p
  .subst q;rw[ah]at e⊢;exact e
  .rw[aq q]at e⊢;exact g.ae b u e,λb u e=>by
  by_cases q:b=p
  .subst q;exact .inr h
  .rw[aq q]at e;exact .inl e,λb u e _=>bg h b u e,λb e=>by
  by_cases q:b=p
  .rw[q];exact h
  .rwa[aq q]at e]
def Go.freeze{W:P2->Prop}(g:Go W b a M H)(c:a p=O)(h:H p=U o):Go W b a (upd M p o) H:=by
 refine#[λb u e=>?_,λb u e=>?_,λb u e=>?_,g.st,g.bQ]
 .by_cases q:b=p;.subst q;have:=g.ae b u<|g.fr b u e;rw[h]at this;rw[ah];exact this
  .rw[aq q];exact g.fr b u e
 .by_cases q:b=p;.subst q;rw[ah]at e;rw[h];exact e
  .rw[aq q]at e;exact g.ae b u e
 .by_cases q:b=p;.subst q;exact .inr c
  .rw[aq q]at e;exact g.new b u e
def Go.set{W:P2->Prop}(g:Go W b a M H)(c:W p\/a p=O)(d:M p=O):Go W b a M<|upd H p o:=by
 refine#[g.fr,λb u e=>?_,g.new,λb u e n=>?_,λb e=>?_];.rw[aq<|bT e d];exact g.ae b u e
 .rw[aq];.exact g.st b u e n
  .rintro rfl;rcases c with h|h;.exact n h
   .rw[h]at e;cases e
 .by_cases q:b=p;.subst q;rw[ah]at e;cases e
  .rw[aq q]at e;exact g.bQ b e
def p9(h:M b=U u)(n:M p=O):upd M p o b=U u:=by rw[aq<|bT h n];exact h
section
variable(ad:F->P2)
def bP(M:Hp)(v:V)(t:List Nat):Prop:=∃b,v=.ref b/\M b=U (.lst<|bv t)
def ej(M:Hp)(v:V)(t:List Nat):Prop:=∃b,v=.ref b/\M b=U (.tup<|bv t)
def fL(M:Hp)(v:V):Lit->Prop|.num z=>v=.int z|.str s=>ej M v s
def cZ(M:Hp)(v:V)(l:Lit):Prop:=∃a b w q,v=.ref a/\M a=U (.ins (ad 10.1) b [('[',w),('c',q)])/\fL M w l/\bP M q (RA l)
def bp{a:Type}(R:V->a->Prop)(M:Hp)(v:V)(xs:List a):Prop:=∃b a,v=.ref b/\M b=U (.lst a)/\Paired R a xs
mutual
noncomputable def ar(M:Hp):Kd->V->Sk->Prop|.leaf _,v,x=>∃l,x=.lit l/\cZ ad M v l|.group false c,v,x=>∃b d a,v=.ref b/\x=.group a/\M b=U (.lst d)/\bq M c d a|.group true c,v,x=>∃b p w a,v=.ref b/\x=.group a/\M b=U (.tup [.int (p:Nat),w])/\ef M c p w a
noncomputable def bq(M:Hp):Qh->List V->List (List Sk)->Prop|.nil,a,b=>a=[]/\b=[]|.cons _ k r,a,b=>∃u c o d,a=u::c/\b=o::d/\bp (λv x=>ar M k v x) M u o/\bq M r c d
noncomputable def ef(M:Hp):Qh->Nat->V->List (List Sk)->Prop|.nil,_,_,_=>False|.cons _ k r,p,w,a=>(p=0/\∃y,a=[y]::(r.list.map λ_=>[])/\ar M k w y)\/(∃q b,p=q+1/\a=[]::b/\ef M r q w b)
end
noncomputable def br(m:ZL):Int:=(Ul m:Nat)
def gy(M:Hp)(k:Kd)(v:V):Option (List Sk)->Prop|none=>v=.ao|some o=>bp (λv x=>ar ad M k v x) M v o
noncomputable def aw:Kd->Int|.leaf .bit=>98|.leaf (.int _)=>105|.leaf (.text _)=>116|.group false _=>123|.group true _=>60
noncomputable def mG:Kd->Int|.leaf l=>jU l|.group _ _=>0
noncomputable def fV:Kd->Int|.leaf l=>b0 l|.group _ _=>0
noncomputable def dR(L:List HK):List<|Key×V:=L.zipIdx.map λx=>(Tu (x.1.1.number:Int),V.int (x.2:Nat))
noncomputable def eC(L:List HK):List<|List Key×V:=L.zipIdx.map λx=>(x.1.1.name.map λ(c:Nat)=>Tu (c:Int),V.int (x.2:Nat))
mutual
noncomputable def ai(M:Hp):Kd->V->Prop
 |.leaf l,v=>∃a g f b d,v=.ref a/\M a=U (.ins (ad 10.3) g [(')',.int<|aw<|.leaf l),('F',.int<|jU l),('6',.int<|b0 l),('+',.ref f),('*',.ref b),('3',.ref d)])/\
   M f=U (.lst [])/\M b=U (.dK [])/\M d=U (.dT [])
 |.group c e,v=>∃a g f b d h,v=.ref a/\M a=U (.ins (ad 10.3) g [(')',.int<|aw<|.group c e),('F',.int 0),('6',.int 0),('+',.ref f),('*',.ref b),('3',.ref d)])/\
   M f=U (.lst h)/\M b=U (.dK<|dR e.list)/\M d=U (.dT<|eC e.list)/\dz M e h
noncomputable def dz(M:Hp):Qh->List V->Prop|.nil,b=>b=[]|.cons h k r,b=>∃a f n c d e,b=.ref a::e/\M a=U (.ins (ad 10.4) f [('(',.int (h.number:Nat)),('V',n),('<',.int<|br h.mode),(',',c),('K',d)])/\ej M n h.name/\ai M k c/\gy ad M k d (Qr h k)/\dz M r e
end
def aE(M:Hp)(x:HK)(u:V):Prop:=∃a d n b c,u=.ref a/\M a=U (.ins (ad 10.4) d [('(',.int (x.1.number:Nat)),('V',n),('<',.int<|br x.1.mode),(',',b),('K',c)])/\ej M n x.1.name/\ai ad M x.2 b/\gy ad M x.2 c (Qr x.1 x.2)
def c6(M:Hp)(v:V)(t:Qv)(fs:Qh):Prop:=∃a b q r,v=.ref a/\M a=U (.ins (ad 10.5) b [('.',q),('M',r)])/\bP M q t/\ai ad M (.group false fs) r
end
section
variable{ad:F->P2}{M M':Hp}
def bP.mono(k:aj M M')(h:bP M v t):bP M' v t:=by have#[b,e,m]:=h;exact#[b,e,k _ _ m]
def ej.mono(k:aj M M')(h:ej M v t):ej M' v t:=by have#[b,e,m]:=h;exact#[b,e,k _ _ m]
def fL.mono(k:aj M M')(h:fL M v l):fL M' v l:=by induction l with|num z=>exact h|str s=>exact ej.mono k h
def cZ.mono(k:aj M M')(h:cZ ad M v l):cZ ad M' v l:=by have#[a,b,w,q,e,m,c,d]:=h;exact#[a,b,w,q,e,k _ _ m,c.mono k,d.mono k]
def bp.imp{a:Type}{R b:V->a->Prop}(k:aj M M')(hr:∀v x,R v x->b v x){v:V}{xs:List a}(h:bp R M v xs):bp b M' v xs:=by have#[b,a,e,m,p]:=h;exact#[b,a,e,k _ _ m,Paired.imp' hr p]
mutual
theorem ar.mono(k:aj M M'):(kd:Kd)->∀v x,ar ad M kd v x->ar ad M' kd v x|.leaf l,v,x,h=>by have#[l,e,h]:=h;exact#[l,e,h.mono k]|.group false c,v,x,h=>by have#[b,f,a,d,e,m,h]:=h;exact#[b,f,a,d,e,k _ _ m,bq.mono k c f a h]|.group true c,v,x,h=>by have#[b,p,w,a,d,e,m,h]:=h;exact#[b,p,w,a,d,e,k _ _ m,ef.mono k c p w a h]
theorem bq.mono(k:aj M M'):(fs:Qh)->∀a ss,bq ad M fs a ss->bq ad M' fs a ss|.nil,a,ss,h=>by exact h|.cons b c r,a,ss,h=>by have#[u,a,o,b,d,e,f,g]:=h;exact#[u,a,o,b,d,e,f.imp k λv x=>ar.mono k c v x,bq.mono k r a b g]
theorem ef.mono(k:aj M M'):(fs:Qh)->∀p w ss,ef ad M fs p w ss->ef ad M' fs p w ss
 |.nil,p,w,ss,h=>by erw[ef]at h|.cons a c r,p,w,ss,h=>by
  rcases h with⟨e,y,a,h⟩|⟨q,b,e,a,h⟩;.exact .inl #[e,y,a,ar.mono k c w y h]
  .exact .inr #[q,b,e,a,ef.mono k r q w b h]
end
def gy.mono(k:aj M M'){kd:Kd}{v:V}{o:Option (List Sk)}(h:gy ad M kd v o):gy ad M' kd v o:=by induction o with|none=>exact h|some o=>exact bp.imp k (λv x=>ar.mono k kd v x) h
mutual
theorem ai.mono(k:aj M M'):(kd:Kd)->∀v,ai ad M kd v->ai ad M' kd v|.leaf l,v,h=>by have#[a,b,f,d,g,e,i,j,l,m]:=h;exact#[a,b,f,d,g,e,k _ _ i,k _ _ j,k _ _ l,k _ _ m]|.group c n,v,h=>by have#[a,b,f,d,g,c,e,i,j,l,m,o]:=h;exact#[a,b,f,d,g,c,e,k _ _ i,k _ _ j,k _ _ l,k _ _ m,dz.mono k n c o]
theorem dz.mono(k:aj M M'):(fs:Qh)->∀us,dz ad M fs us->dz ad M' fs us|.nil,us,h=>by exact h|.cons a d r,us,h=>by have#[a,f,n,b,g,c,e,i,j,l,m,o]:=h;exact#[a,f,n,b,g,c,e,k _ _ i,j.mono k,ai.mono k d b l,m.mono k,dz.mono k r c o]
end
def aE.mono(k:aj M M')(h:aE ad M x u):aE ad M' x u:=by have#[a,b,n,c,d,e,f,g,i,j]:=h;exact#[a,b,n,c,d,e,k _ _ f,g.mono k,ai.mono k _ _ i,j.mono k]
def c6.mono(k:aj M M')(h:c6 ad M v t fs):c6 ad M' v t fs:=by have#[a,b,q,r,e,c,d,f]:=h;exact#[a,b,q,r,e,k _ _ c,d.mono k,ai.mono k _ _ f]
theorem m4:∀(fs:Qh)(us:List V),dz ad M fs us↔Paired (λu x=>aE ad M x u) us fs.list
 |.nil,us=>by
  erw[dz,PZ];constructor;.rintro rfl;exact .nil
  .intro h;cases h;rfl
 |.cons a b r,us=>by
  constructor;.rintro⟨a,b,n,c,d,g,rfl,e,f,i,j,k⟩;exact .cons #[a,b,n,c,d,G,e,f,i,j]<|(m4 r g).mp k
  .intro h;cases h with|cons e f=>have#[a,b,n,c,d,rfl,g,h,i,j]:=e;exact#[a,b,n,c,d,_,G,g,h,i,j,(m4 r _).mpr f]
theorem lG:∀{fs:Qh}{a:List V}{ss:List (List Sk)},bq ad M fs a ss->a.length=fs.list.length/\ss.length=fs.list.length|.nil,a,ss,h=>by rw[h.1,h.2];exact#[G,G]|.cons b c r,a,ss,h=>by have#[u,b,o,c,rfl,rfl,d,a]:=h;have#[b,c]:=lG a;erw[PZ,P0,b,c,and_self]
theorem lF:∀{fs:Qh}{b:List V}{ss:List (List Sk)}{p:Nat}{x:HK},bq ad M fs b ss->fs.list[p]?=U x->∃w o,b[p]?=U w/\ss[p]?=U o/\bp (λv c=>ar ad M x.2 v c) M w o|.nil,b,ss,p,x,_,a=>by simp[PZ]at a|.cons e f r,b,ss,0,x,h,a=>by have#[u,g,o,i,rfl,rfl,c,d]:=h;erw[PZ,List.getElem?_cons_zero,QS]at a;subst a;exact#[u,o,G,G,c]|.cons e f r,b,ss,p+1,x,h,a=>by have#[u,g,o,i,rfl,rfl,c,d]:=h;erw[PZ,List.getElem?_cons_succ]at a;exact lF (p:=p) d a
theorem j9:∀{fs:Qh}{a:List V}{ss:List (List Sk)},a.length=fs.list.length->ss.length=fs.list.length->(∀(p:Nat)(x:HK)(w:V)(o:List Sk),fs.list[p]?=U x->a[p]?=U w->ss[p]?=U o->bp (λv d=>ar ad M x.2 v d) M w o)->bq ad M fs a ss|.nil,a,ss,b,c,_=>by exact#[Qj.mp b,Qj.mp c]|.cons d e r,[],ss,b,c,_=>by simp[PZ]at b|.cons d e r,w::a,[],b,c,_=>by simp[PZ]at c|.cons d e r,w::a,o::ss,b,c,h=>by exact#[w,a,o,ss,G,G,h 0 (d,e) w o G G G,j9 (by simpa[PZ]using b) (by simpa[PZ]using c) λp x d e a b c=>h (p+1) x d e (by simpa[PZ]using a) (by simpa using b)<|by simpa using c]
theorem ka:∀{fs:Qh}{p:Nat}{w:V}{ss:List (List Sk)},ef ad M fs p w ss↔∃x y,fs.list[p]?=U x/\ss=cu fs.list p y/\ar ad M x.2 w y
 |.nil,p,w,ss=>by simp[ef,PZ]|.cons a b r,0,w,ss=>by
  erw[ef,PZ,List.getElem?_cons_zero,QS,ke];constructor
  .rintro(⟨_,y,rfl,h⟩|⟨q,c,e,_⟩);.exact#[(a,b),y,G,G,h]
   .cases e
  .rintro⟨x,y,rfl,rfl,h⟩;exact .inl #[trivial,y,G,h]
 |.cons a b r,p+1,w,ss=>by
  have b:∀ss,ef ad M r p w ss↔∃x y,r.list[p]?=U x/\ss=cu r.list p y/\ar ad M x.2 w y:=λss=>ka;constructor
  .rintro(⟨e,_⟩|⟨q,c,e,rfl,h⟩);.cases e
   .cases e;have#[x,y,a,rfl,c]:=(b _).mp h;exact#[x,y,a,G,c]
  .rintro⟨x,y,a,rfl,h⟩;exact .inr #[p,_,G,G,(b _).mpr #[x,y,a,G,h]]
end
end
section
set_option tactic.hygienic true
def fG(K:PY)(C:P2):Prop:=∃nm q N bs sn sub ab col dd k0 k1 k2 k3 k5,K.lookup C=U (SN nm q C N bs dn true sn sub ab col dd k0 k1 k2 k3 k5 '-')/\
 ∃o a b,K.lookup N=U o/\o.data=.dict a b/\StrKeys a/\Ww a '('=O/\Ww a 'x'=O/\Ww a "__getattr__"=O/\Ww a 'w'=O
section
variable{M:Model}{A:Rq}{E:P7->P9->Prop}{K:PY}{s:P9}{C D e:P2}{oe:S1}{Q:Bool->P9->Prop}
def JX(X:K.In s.heap)(a:fG K C)(b:s.heap.get? e=U oe)(hc:oe.cls=.ref C)(c:Q true s):Qn M A (Wx (.ref e)<|.ref C) Q E s:=by have#[_,_,_,_,_,_,_,_,_,_,_,_,_,_,lk,_]:=a;have#[h,g,d,t,os]:=s;exact wpAny_excMatches_sub_self (X _ _ lk) b hc (by decide) c
def JW(X:K.In s.heap)(a:fG K C)(b:fG K D)(ne:C≠D)(f:s.heap.get? e=U oe)(hc:oe.cls=.ref C)(i:Q false s):Qn M A (Wx (.ref e)<|.ref D) Q E s:=by
 have#[_,_,_,_,_,_,_,_,_,_,_,_,_,_,lk,_]:=a;have#[_,_,_,_,_,_,_,_,_,_,_,_,_,_,j,_]:=b;have#[h,g,d,t,os]:=s;have k:=X _ _ lk;have c:=X _ _ j;have j:(QY D::dn).contains (.type "BaseException")=true:=by rw[WW];rfl
 have l:(QY C::dn).contains (.ref D)=false:=by rw[WW,Bool.or_eq_false_iff];refine#[beq_eq_false_iff_ne.mpr λz=>ne ?_,by rfl];injection z with z;exact z.symm
 have m:=tc_notTuple;unfold Wx;repeat (first|(with_reducible refine Sb f ?_;rw[hc])|with_reducible refine Sb c ?_|(with_reducible refine Xo c ?_;rw[j])|(with_reducible refine Xo k ?_;rw[l])|wp_step)
 exact i
end
section
variable{prog:Rb}{w:RO}{A:Rq}{E:P7->P9->Prop}{s:P9}{env:WI}
def clause{e:P2}{b:Bool}{t:P8}{a:RY}{d:List RY}{pos:SK}{rest:List RQ}{Q:Flow->P9->Prop}{c:P7}(h:∀E',Qn (Qt prog w) (A.mark<|U<|.ref e) (Sj t env) (λv f=>v=c/\f=s) E' s)(i:∀(g:Bool->P9->Prop)(E':P7->P9->Prop),g b s->Qn (Qt prog w) (A.mark<|U<|.ref e) (Wx (.ref e) c) g E' s)(j:b=true->∀E',Qn (Qt prog w) (A.mark<|U<|.ref e) (Wl (.ref e) O) (λ_ k=>Qn (Qt prog w) (A.mark<|U<|.ref e) (execs (a::d) env) Q E' k) E' s)(l:b=false->Qn (Qt prog w) A (W3 (.ref e) env rest) Q E s):
    Qn (Qt prog w) A (W3 (.ref e) env (.ExceptHandler (U t) O (a::d) pos::rest)) Q E s:=by refine aau (Z5<|R9 (h _) (λv f a=>?_) λ_ _ x=>x) (by intro q;cases q);have#[rfl,rfl]:=a;refine i _ _ ?_;induction b with|true=>exact codeAny_handlers_suite<|j G _|false=>exact l rfl
def G7{e:P2}{b:Bool}{t:P8}{n:QQ}{a:RY}{d:List RY}{pos:SK}{rest:List RQ}{Q:Flow->P9->Prop}{c:P7}(h:∀E',Qn (Qt prog w) (A.mark<|U<|.ref e) (Sj t env) (λv g=>v=c/\g=s) E' s)(k:∀(i:Bool->P9->Prop)(E':P7->P9->Prop),i b s->Qn (Qt prog w) (A.mark<|U<|.ref e) (Wx (.ref e) c) i E' s)(l:b=true->∀j m,Qn (Qt prog w) (A.mark<|U<|.ref e) (Wl (.ref e) O) (λ_ o=>Qn (Qt prog w) (A.mark<|U<|.ref e) (Zu env n<|.ref e) (λ_ p=>
      Qn (Qt prog w) (A.mark<|U<|.ref e) (execs (a::d) env) (λf r=>Qn (Qt prog w) A (do bindName env n .none;unbindBehindTheSuite env n pos) (λ_ u=>Q f u) E r) m p) j o) j s)(y:b=false->Qn (Qt prog w) A (W3 (.ref e) env rest) Q E s):
    Qn (Qt prog w) A (W3 (.ref e) env (.ExceptHandler (U t) (U n) (a::d) pos::rest)) Q E s:=by refine aau (Z5<|R9 (h _) (λv g a=>?_) λ_ _ x=>x) (by intro q;cases q);have#[rfl,rfl]:=a;refine k _ _ ?_;induction b with|true=>exact codeAny_handlers_suite_as<|l G _ _|false=>exact y rfl
end
structure Fl(X:Cx)(aa:List (P2×S1))(σ:St)(H:Hp)(s:P9)(ea T:P2)(cls:P7)(od:Option P2):Prop where
 I:Inv X aa σ H s
 x:∃fl,dI s.heap ea T cls od fl
 n1:H ea=O
 n2:H T=O
 m1:X.aX.heap.get? ea=O
 m2:X.aX.heap.get? T=O
 hp:∀p∈X.pn++aa,p.1≠ea/\p.1≠T
section
variable{X:Cx}{aa:List (P2×S1)}{σ:St}{H:Hp}{s:P9}{ea T:P2}{cls:P7}{od:Option P2}
def Fl.obj(f:Fl X aa σ H s ea T cls od):∃oe,s.heap.get? ea=U oe/\oe.cls=cls/\oe.dict=od/\∃vs,oe.data=.fields vs:=by have#[e,#[oe,vs,a,b,c,d,_],_]:=f.x;exact#[oe,a,b,c,vs,d]
def Fl.inv{h':Q7}(f:Fl X aa σ H s ea T cls od)(fx:FX X)(k1:∀b o,s.heap.get? b=U o->b≠ea->b≠T->b∉bh X.stack->h'.get? b=U o)(k2:∀b o,s.heap.get? b=U o->b≠ea->b≠T->∃sl,h'.get? b=U {o with slots:=sl}):Inv X aa σ H {s with heap:=h'}:=by
 have#[fl,#[oe,vs,he,_,_,hd,_],#[ot,ts,ht,htd,_],_]:=f.x;have I:=f.I;have apart:∀{b:P2}{o:S1},s.heap.get? b=U o->(∀ws,o.data≠.fields ws)->b≠ea/\b≠T:=λ{b o}e n=>
  #[λz=>(by rw[z,he]at e;cases e;exact n _ hd),λz=>(by rw[z,ht]at e;cases e;exact n _ htd)]
 have cellK:∀{c:P2}{v:Option P7},s.heap.IsCell c v->h'.IsCell c v:=λ{c v}z1=>e3 z1 λo ho hod=>by have#[a1,a2]:=apart ho λws z=>(by rw[hod]at z;cases z);have#[sl,q]:=k2 c o ho a1 a2;exact#[_,q,hod]
 have#[m,#[o,es,ep,ho,hod,r],hl]:=id I.loc;have#[a1,a2]:=apart ho λws z=>(by rw[hod]at z;cases z);have#[sl,q]:=k2 _ o ho a1 a2;refine#[I.ok,I.os,I.bare,by rw[fx.ex];exact um I fx f.m1 f.m2 k1 k2,#[m,#[_,es,ep,q,hod,r],λi x v e1 e2 e3=>?_],λx c e=>?_,I.free,I.dO,λp hpp=>?_,rW I f.n1 f.n2 k1,I.len]
 .have#[u,ru,lk]:=hl i x v e1 e2 e3;refine#[u,ru,?_];rcases lk with lk|⟨kk,c,e,z⟩;.exact .inl lk
  .exact .inr #[kk,c,e,cellK z]
 .have#[v,z]:=I.cell x c e;exact#[v,cellK z]
 .have#[e,n,ne,nf,dd]:=I.pin p hpp;have#[p1,p2]:=f.hp p hpp;refine#[k1 p.1 p.2 e p1 p2 ?_,n,ne,nf,dd];rw[fx.bh];exactλz=>(Qp.mp z).elim ne nf
def Fl.off(f:Fl X aa σ H s ea T cls od)(fx:FX X){Q:Unit->P9->Prop}{E:P7->P9->Prop}(h:∀s',Fl X aa σ H s' ea T cls od->Q () s'):Qn M A (Wl (.ref ea) O) Q E s:=by have#[a,x]:=f.x;refine nZ x λb c a=>h _ #[f.inv fx (λb o e _ n _=>(a b n).trans e) λb o e _ n=>#[o.slots,(a b n).trans e],#[_,c],f.n1,f.n2,f.m1,f.m2,f.hp]
def Fl.note(f:Fl X aa σ H s ea T cls od)(fx:FX X){Q:Unit->P9->Prop}{E:P7->P9->Prop}(h:∀s' a,Fl X aa σ H s' ea a cls od->Q () s'):Qn M X.A (US (.ref ea) X.env) Q E s:=by
 have#[d,x]:=f.x;have I:=f.I;have b:T∉bh X.stack:=by have#[_,#[i,j,c,g,_],_]:=x;exact sL I c g
 cases c:d==VB X.env.locals with|true=>exact yu fx.fr x c<|h s T f|false=>have d:=I.stack;rw[fx.st]at d b;refine sO (by rw[<-fx.st];exact I.ok.frames) d fx.fr fx.fr x c b λd a b c k1 k2=>?_;rw[<-fx.st]at k1;refine h _ a #[f.inv fx k1 k2,#[_,c],f.n1,jQ I.ay b,f.m1,iB I fx b,λp a=>#[(f.hp p a).1,λz=>?_]];have#[e,_]:=I.pin p a;rw[z,b]at e;cases e
noncomputable abbrev jh(X:Cx)(ea:P2)(oe:S1)(E:P7->P9->Prop):Cx:={X with A:=X.A.mark<|U<|.ref ea,calm:=false,xe:=E,pn:=(ea,oe)::X.pn}
def Ky(ok:X.Ok)(ea:P2)(oe:S1)(E:P7->P9->Prop):(jh X ea oe E).Ok:=
 #[ok.mod,ok.kind,ok.glob,ok.blt,ok.above,ok.inj,ok.has,ok.kH,λz=>(by cases z),ok.frames,ok.nh,ok.mj,ok.bs,ok.fQ,ok.lh,ok.kM,ok.ez,ok.jc]
def Fl.ae(f:Fl X aa σ H s ea T cls od)(fx:FX X)(a:s.heap.get? ea=U oe)(E:P7->P9->Prop):Inv (jh X ea oe E) aa σ H s:=by
 have I:=f.I;have#[c,#[g,h,b,_,_,d,_],_]:=f.x;rw[a]at b;cases b;refine#[Ky I.ok ea oe E,I.os,I.bare,I.base,I.loc,I.cell,I.free,I.dO,λp b=>?_,I.ay,I.len];rcases Qp.mp b with e|b;.subst e;have c:=sL I a d;rw[fx.bh]at c;exact#[a,f.n1,λz=>c<|Qp.mpr<|.inl z,λz=>c<|Qk _ z,λv z=>(by rw[d]at z;cases z)]
 .exact I.pin p b
def og{E:P7->P9->Prop}(I:Inv (jh X ea oe E) aa σ H s)(ok:X.Ok):Inv X aa σ H s:=#[ok,I.os,I.bare,I.base,I.loc,I.cell,I.free,I.dO,λp a=>I.pin p<|Qk _ a,I.ay,I.len]
def IZ(I:Inv X aa σ H s){c:QQ->Option P7}{t':Nat}(h:h'.Ns X.env.locals c)(hs:Vo X.env.locals s.heap h'):Inv X aa (QA X.N.length O) H {s with heap:=h',toks:=t'}:=by
 have f:∀{b:P2}{o:S1},X.aX.heap.get? b=U o->b≠X.env.locals:=λ{b o}e=>QC<|Qx (Qi e) I.ok.above;refine#[I.ok,I.os,I.bare,#[λb o e n g a=>?_,λb o e n g a=>?_,I.base.free,λb o e a=>?_,I.base.fF,I.base.eQ,I.base.fE],#[c,h,λi x v _ h _=>?_],λx c e=>?_,I.free,I.dO,λp i=>?_,λb u e=>?_,by rw[UY]];.exact(hs.2 b<|f e).trans<|I.base.keep b o e n g a
 .have#[j,q]:=I.base.slot b o e n g a;exact#[j,(hs.2 b<|f e).trans q]
 .have#[g,q]:=I.base.there b o e a;exact#[g,(hs.2 b<|f e).trans q]
 .rw[List.getElem?_replicate]at h;split at h<;>cases h
 .have#[v,z]:=I.cell x c e;exact#[v,z.sameBut hs<|I.iW x c e]
 .have#[e,n,ne,a,d]:=I.pin p i;exact#[(hs.2 p.1 ne).trans e,n,ne,a,d]
 .refine(I.ay b u e).bO (λc v a q=>(hs.2 c ?_).trans q) (λ_ q=>q) λ_ _ q=>q;rintro rfl;rcases a with z|z;.rw[<-z,I.free]at e;cases e
  .rw[I.free]at z;cases z
end
section
variable{prog:Rb}{w:RO}{A:Rq}{E:P7->P9->Prop}{h:Q7}{g:Array GenState}{d:Drawn}{t:Nat}{os:OsState}
variable{nm q:QQ}{C N ea dx:P2}{bs:List P7}{sn:List QQ}{sub:List P7}{ab:Bool}{col:Option Bool}{dd:Option P2}{k0 k1 k2 k3 k5:Option P7}{mN mA:QQ->Option P7}{oe:S1}{v:P7}
def x8:Wv (.type 'S') '('=pure O:=by rw[typeLookup_type,builtinLookup_eq_fast];kernel_rfl
def Ig{Q:Fin->P9->Prop}(a:h.get? C=U (SN nm q C N bs dn true sn sub ab col dd k0 k1 k2 k3 k5 '-'))(hN:h.Ns N mN)(e:mN '('=O)(b:h.get? ea=U oe)(hc:oe.cls=.ref C)(f:∀c,oe.data≠.cls c)(i:oe.dict=U dx)(j:h.Ns dx mA)(k:mA '('=U v)(l:Q (.done<|.ret v) #[h,g,d,t,os]):
    Qn (Qt prog w) A (V6.«object.__getattribute__» #[[.ref ea,.str '(' tk],[]]) Q E #[h,g,d,t,os]:=by
 have m:=Vi.mro;have n:=x8;unfold V6.«object.__getattribute__»;repeat (first|(with_reducible refine Sb b ?_;rw[hc])|(with_reducible refine Up a hN m n ?_;rw[e])|wp_step)
 split;.rename_i c e;exact absurd e<|f c
 repeat (first|(with_reducible refine Sb b ?_;rw[hc])|with_reducible refine Sb a ?_|wp_step)
 rw[i];repeat (first|(with_reducible refine wpAny_nsGet j ?_;rw[k])|wp_step)
 exact l
def Ie{Q:Unit->P9->Prop}(a:h.get? C=U (SN nm q C N bs dn true sn sub ab col dd k0 k1 k2 k3 k5 '-'))(b:h.get? ea=U oe)(hc:oe.cls=.ref C)(c:Q () #[h,g,d,t,os]):Qn M A (checkBuiltinCall '=' #[[.ref ea,e],[]]) Q E #[h,g,d,t,os]:=
 wpAny_check_ga_own Vi a .base b hc c
def Ic{a e:Bool}{Q:P7->P9->Prop}(b:h.get? C=U (SN nm q C N bs dn true sn sub ab col dd k0 k1 k2 k3 k5 '-'))(hN:h.Ns N mN)(i:mN '('=O)(j:mN 'x'=O)(k:mN "__getattr__"=O)(f:h.get? ea=U oe)(hc:oe.cls=.ref C)(l:∀c,oe.data≠.cls c)(m:oe.dict=U dx)(n:h.Ns dx mA)(o:mA '('=U v)(p:Zv v=pure v)(r:Q v #[h,g,d,t,os]):Qn (Qt prog w) A (getAttrBy (.ref ea) (.str '(' tk) a e) Q E #[h,g,d,t,os]:=by
 have a:=Vi;have r:=a.ga.bind<|.ref ea;have r:(e&&onTheHeap (U1 '='))=false:=by induction e<;>rfl
 have e:(U1 '='==U1 "object.__getattribute__")=false:=by decide+kernel
 have r:(onTheHeap (QY C)&&U1 '='==U1 "object.__getattribute__")=false:=by rw[e];rfl
 repeat (any_goals (first|assumption|(with_reducible refine Sb f ?_;rw[hc])|(with_reducible refine Up b hN a.mro a.ga.lookup ?_;rw[j])|(with_reducible refine Up b hN a.mro a.noGetattr ?_;rw[k])|wp_step))
 refine W4 a.ga.plain PySem.F.entry_bexc_ga<|Ie b f hc<|Ig b hN i f hc l m n o ?_;show Qn _ _ (Zv v) _ _ _;rw[p];repeat (any_goals (first|assumption|wp_step))
def Ib{a:Bool}{Q:P7->P9->Prop}(b:h.get? C=U (SN nm q C N bs dn true sn sub ab col dd k0 k1 k2 k3 k5 '-'))(hN:h.Ns N mN)(e:mN '('=O)(f:mN 'x'=O)(i:mN "__getattr__"=O)(j:h.get? ea=U oe)(hc:oe.cls=.ref C)(k:∀c,oe.data≠.cls c)(l:oe.dict=U dx)(m:h.Ns dx mA)(n:mA '('=U v)(o:Zv v=pure v)(p:Q v #[h,g,d,t+1,os]):Qn (Qt prog w) A (ZP (.ref ea) '(' a) Q E #[h,g,d,t,os]:=by unfold ZP;repeat (any_goals (first|assumption|with_reducible apply Ic b hN e f i j hc k l m n o|wp_step))
def MO{Q:Fin->P9->Prop}(k:h.get? C=U (SN nm q C N bs dn true sn sub ab col dd k0 k1 k2 k3 k5 '-'))(hN:h.Ns N mN)(r:mN name=O)(s:Wv (.type 'S') name=pure O)(a:h.get? ea=U oe)(hc:oe.cls=.ref C)(u:∀c,oe.data≠.cls c)(x:oe.dict=O)(B:∀h' D,h'.get? ea=U {oe with dict:=U h.objs.size}->h'.Ns1 h.objs.size (λy=>if y=name then U v else O)->(∀b o,b≠ea->h.get? b=U o->h'.get? b=U o)->Q (.done<|.ret .none) #[h',g,d,D,os]):
    Qn (Qt prog w) A (V6.«object.__setattr__» #[[.ref ea,.str name tk,v],[]]) Q E #[h,g,d,t,os]:=by
 have l:=X4;have F:=l.passes<|.ref ea;unfold V6.«object.__setattr__»;repeat (first|rw[refuse_eq]|(rw[refuseLoop_ref,F])|(with_reducible refine Sb a ?_;rw[hc])|with_reducible refine wpAny_mroOf_exc k ?_|(with_reducible refine Up k hN l.mro s ?_;rw[r])|wp_step)
 rw[x,aaC<|by simp[typeHasDict]];split;.rename_i z;cases z
 split;.rename_i c z;exact absurd z<|u c
 have m:(h.push {cls:=.type '7',data:=.dict #[]}).get? ea=U oe:=Q7.get?_push_of_some _ a;have ne:ea≠h.objs.size:=QC<|Qi a;refine Qb<|wpAny_alloc'<|Qb<|wpAny_update' m<|Qo ?_;generalize i:((h.push {cls:=.type '7',data:=.dict #[]}).update ea λo=>{cls:=o.cls,dict:=U h.objs.size,data:=o.data,slots:=o.slots})=f;have H:f.get? h.objs.size=U {cls:=.type '7',data:=.dict #[]}:=by rw[<-i];exact(Q7.get?_update_ne _ _ _ _ ne.symm).trans<|Q7.get?_push_at rfl G
 have ge:f.get? ea=U {oe with dict:=U h.objs.size}:=by rw[<-i];refine Q7.get?_update_self _ m ?_;have I:=(Q7.get?_some_iff.mp a).2;have#[oc,od,J,aa]:=oe;induction J<;>first|rfl|exact I
 have K:∀b o,b≠ea->h.get? b=U o->f.get? b=U o:=λb o j e=>by rw[<-i];exact(Q7.get?_update_ne _ _ _ _ j).trans<|Q7.get?_push_of_some _ e
 have L:f.Ns h.objs.size λ_=>O:=#[_,#[],_,H,G,λe z=>absurd z<|by simp,λ_=>rfl];show Qn _ _ (VZ h.objs.size (.str name tk) name v) _ _ _;unfold VZ Z7;refine Qb<|Qo<|Qb<|wpAny_nsSet1 (YR L) λh' n p=>?_;have#[oD,ac,ad,M,P,R]:=n.count<|Zd name v Within.nil;refine Qb<|wpAny_lookBehind M (by rw[P];exact pastItsLine_dict<|QW R<|by rw[P0,Qs,aaj];lia) ?_;wp_walk;refine B h' _ ((p.2 ea ne).trans ge) ?_ λb o j e=>(p.2 b<|QC<|Qi e).trans<|K b o j e;have#[S,T,V,W,X,Y,Z,z4]:=n;exact#[S,T,V,W,X,Y,Z,λy=>by rw[z4 y]]
def MN{R:Ye->P9->Prop}(a:StoreFacts 'S' dn sa owner)(e:h.get? C=U (SN nm q C N bs dn true sn sub ab col dd k0 k1 k2 k3 k5 '-'))(hN:h.Ns N mN)(i:mN name=O)(j:Wv (.type 'S') name=pure O)(f:h.get? ea=U oe)(hc:oe.cls=.ref C)(k:∀c,oe.data≠.cls c)(l:oe.dict=O)(m:∀h' n,h'.get? ea=U {oe with dict:=U h.objs.size}->h'.Ns1 h.objs.size (λy=>if y=name then U v else O)->(∀b o,b≠ea->h.get? b=U o->h'.get? b=U o)->R (.ok<|.ret .none) #[h',g,d,n,os]):
    Vm (Qt prog w) A (.call (.builtin sa) #[[.ref ea,.str name tk,v],[]]) R #[h,g,d,t,os]:=
 W4 a.slot.plain a.entry (wpAny_check_sa a e f hc<|MO e hN i j f hc k l m)
def MM{Q:Unit->P9->Prop}(a:StoreFacts 'S' dn sa owner)(f:h.get? C=U (SN nm q C N bs dn true sn sub ab col dd k0 k1 k2 k3 k5 '-'))(hN:h.Ns N mN)(j:mN name=O)(k:mN 'w'=O)(l:Wv (.type 'S') name=pure O)(i:h.get? ea=U oe)(hc:oe.cls=.ref C)(m:∀c,oe.data≠.cls c)(n:oe.dict=O)(p:∀h' e,h'.get? ea=U {oe with dict:=U h.objs.size}->h'.Ns1 h.objs.size (λy=>if y=name then U v else O)->(∀b o,b≠ea->h.get? b=U o->h'.get? b=U o)->Q () #[h',g,d,e,os]):
    Qn (Qt prog w) A (setAttr (.ref ea) name v) Q E #[h,g,d,t,os]:=by
 have r:=a.slot.bind<|.ref ea;unfold setAttr callSpecial? specialOf;repeat (any_goals (first|assumption|(with_reducible refine Sb i ?_;rw[hc])|(with_reducible refine Up f hN a.mro a.slot.lookup ?_;rw[k])|wp_step))
 refine MN a f hN j l i hc m n λh' e a f i=>?_;repeat (any_goals (first|assumption|wp_step))
 exact p h' e a f i
end
end
section
variable{F:Type}{Γ:aO F}{nm:bK F}{N:List QQ}{E:XK}{sc:Ry}{X:Cx}
def Mg{oe:S1}{E':P7->P9->Prop}(a:fG X.K C)(hc:oe.cls=.ref C)(m:∀c,oe.data≠.cls c){i:Nat}(hN:X.N[i]?=U y)(n:fN X.env.scope y)(e:bN y=true):PE (jh X ea oe E') (.Attribute (.Name y p) '(' q)
    (λσ H Q=>σ[i]?=U (U<|V.ref ea)/\∃d fs z,oe.dict=U d/\H d=U (.xd fs)/\fs.lookup ('(':QQ)=U (V.int z)/\Q (.int z) H):=by
 intro aa s σ H Q I r;have#[w,d,fs,z,A,B,D,E]:=r;have F:PE (jh X ea oe E') (.Name y p)<|ni i:=mT hN n (cP e).1 (cP e).2;refine vw (gF G)<|az (F aa s σ H (λv f=>v=.ref ea/\f=H) I #[_,w,G,G]) λu j J=>e6 J λx f b K L M=>?_;subst L M;obtain rfl:u=QY ea:=K;have#[N,_]:=b.pin (ea,oe)<|Si _ QE;have#[_,_,P,_,_,_,_,_,_,_,_,_,_,_,lk,o,k,R,S,T,W,Y,Z,n2,n3]:=a;have ab:j.heap.Ns P<|Ww k:=#[o,k,R,b.bJ _ _ S,T,W,λ_=>rfl];have#[mA,hm,hr]:=b.ay _ _ B;have#[u,hu,l]:=dA.some_of (v:=V.int z) (o:=mA '(') (by rw[<-D];exact hr _);have ho:Zv u=pure u:=by have#[t',rfl]:=l;rfl
 have#[h,g,dr,t,os]:=j;exact Ib (b.bJ _ _ lk) ab Y Z n2 N hc m A hm.ns hu ho #[_,_,b.tok _,l,E]
def tZ{E':P7->P9->Prop}(ok:X.Ok)(h:SP (jh X ea oe E') aa D f s):SP X aa D f s:=by induction f with|next=>have#[a,b,I,q]:=h;exact#[a,b,og I ok,q]|brk=>have#[a,b,I,q]:=h;exact#[a,b,og I ok,q]|cont=>have#[a,b,I,q]:=h;exact#[a,b,og I ok,q]|ret u=>have#[v,a,b,I,r,q]:=h;exact#[v,a,b,og I ok,r,q]
theorem handlers(fx:FX X)(hN:X.N=N)(A:N.Nodup)(j:X.env.scope=sc)(B:∀x,X.fn x=true)(cM:∀x,bC sc x=true->Gl X x)(m:∀x g,(nm.ex.lookup x).or (nm.fT.lookup x)=U g->X.mg x=U (.ref<|Γ.xc g)/\fG X.K (Γ.xc g))(n:∀g,Γ.dM g->fG X.K (Γ.xc g))(D:Ends):
  ∀(hs:List RQ)(l:List<|Hd F),Paired (gw nm N sc) hs l->∀(aa:List<|P2×S1)(σ:St)(H:Hp)(s:P9)(ea T:P2)(a:P7)(i:Option P2),Fl X aa σ H s ea T a i->fB Γ D l a i H->Qn (Qt X.prog X.w) X.A (W3 (.ref ea) X.env hs) (SP X aa D) X.xe s
 |[],l,h,aa,σ,H,s,ea,T,a,i,f,q=>by cases h;exact q.elim|b::hs,l,h,aa,σ,H,s,ea,T,a,i,f,q=>by
  cases h with
  |@cons _ _ b r a t=>
   have#[g,b,rfl,q]:=q;have#[x,c,u,e,o,v,h,z,d,p,M,k,C]:=a;have#[w,y]:=m x _ k;have k:=n g b;have#[b,e,o,a,v,E]:=f.obj;have I:=f.I;have E:∀a:P7->P9->Prop,Qn (Qt X.prog X.w) (X.A.mark<|U<|.ref ea) (Sj (.Name x c) X.env) (λv c=>v=.ref (Γ.xc h)/\c=s) a s:=λa=>kZ (X:=jh X ea b a) (f.ae fx e a) (cM x p) w #[G,G] (cP d).1;have K:∀b,b=decide (Γ.xc g=Γ.xc h)->∀(d:Bool->P9->Prop)(a:P7->P9->Prop),d b s->Qn (Qt X.prog X.w) (X.A.mark<|U<|.ref ea) (Wx (.ref ea)<|.ref<|Γ.xc h) d a s:=λb c d a p=>by
    by_cases d:Γ.xc g=Γ.xc h;.rw[decide_eq_true d]at c;subst c;rw[<-d];exact JX I.bJ k e o p
    .rw[decide_eq_false d]at c;subst c;exact JW I.bJ k y d e o p
   have L:decide (Γ.xc g=Γ.xc h)=false->Qn (Qt X.prog X.w) X.A (W3 (.ref ea) X.env hs) (SP X aa D) X.xe s:=λc=>by
    have d:=of_decide_eq_false c;rcases q with⟨q,_⟩|⟨_,q⟩;.exact absurd q d
    .exact handlers fx hN A j B cM m n D hs r t aa σ H s ea T _ i f q
   induction u with
   |none=>
    refine clause (b:=decide (Γ.xc g=Γ.xc h)) E (K _ G) (λc a=>?_) L;have d:=of_decide_eq_true c;have q:pF z D i H:=by
     rcases q with⟨_,q⟩|⟨q,_⟩;.exact q
     .exact absurd d q
    refine f.off fx λm e=>?_;have#[o,r,_]:=e.obj;have J:=e.ae fx r a;cases C with|bl b a p=>exact az (lA (mU yN) aa m σ H D J q) λu b w=>tZ I.ok w|neg n a p P t=>refine az (lA (mU<|sZ<|fA (tf uo sY) gX) aa m σ H D J ?_) λu b w=>tZ I.ok w;exact#[n,G,by show 1<=Qq;decide,λp w=>q p w]
   |some y=>
    refine G7 (b:=decide (Γ.xc g=Γ.xc h)) E (K _ G) (λc E h=>?_) L;have d:=of_decide_eq_true c;have q:pF z D i H:=by
     rcases q with⟨_,q⟩|⟨q,_⟩;.exact q
     .exact absurd d q
    refine f.off fx λm e=>?_;have#[o,r,c,f,d,m]:=e.obj;have J:=e.ae fx r h;obtain _|_|⟨_,n,a,p,P,r,E,d,t,i,K,L⟩:=C;have#[d,t,z,C,P,Q,q]:=q;have e:=M y rfl;have a:X.N[i]?=U y:=by rw[hN];exact L
    have L:Loc X.env.scope y:=by rw[j];exact .inl e
    have M:i<σ.length:=by rw[I.len];exact(List.getElem?_eq_some_iff.mp a).1
    refine pU (X:=jh X ea o h) (v:=.ref ea) J (by rw[hN];exact A) a L rfl (λb i=>?_)<|.inl<|B y;have A:=Mg (X:=X) (ea:=ea) (oe:=o) (E':=h) (p:=r) (q:=E) k c (λc z=>by rw[m]at z;cases z) a (by rw[j];exact .inl e) K;refine az (lA (mU<|sZ<|fA (yP yE (tf uo sY) A) gX) aa b _ H {lk:=λ_ _=>False,rt:=D.rt} i ?_) λu b a=>?_;.refine#[n,G,?_,d,t,z,f.trans C,P,Q,-n,z,G,G,by show 1<=Qq;decide,λp w=>q p w];rw[List.getElem?_set_self M]
    .have b:=tZ I.ok a;have d:(X.env.scope.kind==.class||(X.env.scope.kind==.module&&X.env.locals !=X.env.globals))=false:=by rw[I.ok.kind];rfl
     induction u with|ret u=>have#[v,i,f,c,h,a]:=b;have#[m,i,_]:=c.loc;refine wpAny_nameGoes (show X.env.scope.names.lookup y=_ from by rw[j];exact e) i d λi j d e=>#[v,_,f,IZ c d e,h,a]|next=>have#[_,_,_,a]:=b;exact a.elim|brk=>have#[_,_,_,a]:=b;exact a.elim|cont=>have#[_,_,_,a]:=b;exact a.elim
end
section
variable{F:Type}{Γ:aO F}{nm:bK F}{N:List QQ}{E:XK}{sc:Ry}{X:Cx}
noncomputable abbrev jv(X:Cx)(aa:List<|P2×S1)(E:P7->P9->Prop):Cx:={X with xe:=E,pn:=X.pn++aa}
variable{aa pins':List (P2×S1)}{σ:St}{H:Hp}{s:P9}{E1:P7->P9->Prop}
def KA(ok:X.Ok):(jv X aa E1).Ok:=#[ok.mod,ok.kind,ok.glob,ok.blt,ok.above,ok.inj,ok.has,ok.kH,ok.hd,ok.frames,ok.nh,ok.mj,ok.bs,ok.fQ,ok.lh,ok.kM,ok.ez,ok.jc]
def KC(ok:(jv X aa E1).Ok):X.Ok:=#[ok.mod,ok.kind,ok.glob,ok.blt,ok.above,ok.inj,ok.has,ok.kH,ok.hd,ok.frames,ok.nh,ok.mj,ok.bs,ok.fQ,ok.lh,ok.kM,ok.ez,ok.jc]
def xb(I:Inv X aa σ H s):Inv (jv X aa E1) [] σ H s:=#[KA I.ok,I.os,I.bare,I.base,I.loc,I.cell,I.free,I.dO,λp a=>I.pin p<|by rwa[Rr]at a,I.ay,I.len]
def oh(I:Inv (jv X aa E1) pins' σ H s):Inv X aa σ H s:=#[KC I.ok,I.os,I.bare,I.base,I.loc,I.cell,I.free,I.dO,λp a=>I.pin p<|Si _ a,I.ay,I.len]
abbrev p4(X:Cx)(aa:List<|P2×S1)(D:Ends)(hs:List RQ):P7->P9->Prop:=λe a=>Qn (Qt X.prog X.w) X.A (US e X.env) (λ_ b=>Qn (Qt X.prog X.w) X.A (Wl e O) (λ_ c=>Qn (Qt X.prog X.w) X.A (W3 e X.env hs) (SP X aa D) X.xe c) X.xe b) X.xe a
structure jK(Γ:aO F)(nm:bK F)(N:List QQ)(E:XK)(sc:Ry)(X:Cx):Prop where
 sd:Sd Γ nm N E true sc X
 more:∀Y,cW X Y->Y.calm=X.calm->More Y
 fx:FX X
 fn:∀x,X.fn x=true
 cl:∀x g,(nm.ex.lookup x).or (nm.fT.lookup x)=U g->X.mg x=U (.ref (Γ.xc g))/\fG X.K (Γ.xc g)
 ex:∀g,Γ.dM g->fG X.K (Γ.xc g)
def jK.pass(T:jK Γ nm N E sc X)(aa:List<|P2×S1)(D:Ends)(h:Paired (gw nm N sc) hs l):Passes (bH X.prog X.w) (jv X aa<|p4 X aa D hs)<|fB Γ D l:=by
 intro pins' σ H s e m I a;have#[c,n,d,g,i,rfl,b,f,o,p,x,q,r,j,k,t]:=a;have a:=oh I;have J:=oh<|I.l6 (ch:=[]) b o p f (λb z=>absurd z<|by simp);have f:Fl X aa σ i m c n d g:=#[J,#[_,x],q,r,iB a T.fx j,iB a T.fx k,λp b=>by
  have#[e,_]:=a.pin p b
  exact#[λz=>(by rw[z,j]at e;cases e),λz=>(by rw[z,k]at e;cases e)]]
 exact f.note T.fx λe a b=>b.off T.fx λb e=>handlers T.fx T.sd.hN T.sd.nd (T.sd.m8 G) T.fn T.sd.cM T.cl T.ex D hs l h aa σ i b c a d g e t
def jK.sub(T:jK Γ nm N E sc X)(aa:List<|P2×S1)(D:Ends)(h:Paired (gw nm N sc) hs l)(a:bu nm N false sc e y):PE (jv X aa<|p4 X aa D hs) e<|au Γ (fB Γ D l) y:=by have b:=T.sd;have lk:∀{Y},cW (jv X aa<|p4 X aa D hs) Y->cW X Y:=λl=>#[l.prog,l.w,l.K,l.mg,l.base,l.A,l.stack];refine a.pe #[#[b.hK,b.hN,b.nd,b.calm,λz=>(by cases z),b.nr,b.cM,b.gv,b.fn,λg a d=>#[(b.fv g a d).1,λi Y l j=>(b.fv g a d).2 i Y (lk l) j],λm g d=>?_,T.pass aa D h,b.fo,b.blt,b.un],T.more _ #[G,G,G,G,G,G,G] rfl,nofun];have#[c,f,a,k]:=b.me m g d;exact#[c,f,a,λi Y l j=>k i Y (lk l) j]
def OK(T:jK Γ nm N E sc X)(e:P8)(y:Ex F)(h:RQ)(hs:List RQ)(l:List<|Hd F)(rp pos:SK)(a:bu nm N false sc e y)(b:Paired (gw nm N sc) (h::hs) l):PS X (.Try [.Return (U e) rp] (h::hs) [] [] pos)<|f9 Γ E<|.kj y l:=by intro aa s σ H D I q;.refine wpAny_Try_except (R9 (lA (mU<|T.sub aa D b a) [] s σ H {lk:=λ_ _=>False,rt:=D.rt} (xb I) q) (λf a z=>?_) λ_ _ z=>z);induction f with|ret u=>have#[v,b,c,d,f,a]:=z;exact#[v,b,c,oh d,f,a]|next=>have#[_,_,_,a]:=z;exact a.elim|brk=>have#[_,_,_,a]:=z;exact a.elim|cont=>have#[_,_,_,a]:=z;exact a.elim
def OL(T:jK Γ nm N E sc X)(x:QQ)(i:Nat)(e:P8)(y:Ex F)(h:RQ)(hs:List RQ)(l:List<|Hd F)(a rp pos:SK)(hl:fX sc x=true)(b:jo e=true)(hi:N[i]?=U x)(c:bu nm N false sc e y)(d:Paired (gw nm N sc) (h::hs) l):PS X (.Try [.Assign [.Name x a] e rp] (h::hs) [] [] pos)<|f9 Γ E<|.kl i y l:=by intro aa s σ H D I q;.have f:PS (jv X aa<|p4 X aa D (h::hs)) (.Assign [.Name x a] e rp)<|kh (au Γ (fB Γ D l) y)<|fU i:=yX (by rw[T.sd.hN];exact T.sd.nd) (by rw[T.sd.hN];exact hi) (yb (T.sd.m8 G) hl) (T.sub aa D d c) (mJ b) (.inl<|T.fn x);refine wpAny_Try_except<|R9 (lA f [] s σ H {lk:=D.lk,rt:=λ_ _=>False} (xb I) q) (λf a z=>?_) λ_ _ z=>z;induction f with|ret u=>have#[_,_,_,_,_,a]:=z;exact a.elim|next=>have#[b,c,d,a]:=z;exact VA #[b,c,oh d,a]|brk=>have#[_,_,_,a]:=z;exact a.elim|cont=>have#[_,_,_,a]:=z;exact a.elim
end
def xo(C ea a:P2)(b:Option P2):Q7->Prop:=λh=>h.get? ea=U {cls:=.ref C,dict:=b,data:=.fields (Rc [.ref a,.none,.none,.none,.bool false,.none])}
def ng(C:P2)(k:Nat):Sp:=λc H Q E=>∃a v b,c=[.ref a,v]/\1<=k/\H a=U (.ext<|xo C a b O)/\∀d,H d=O->Q .ao (upd (upd H d<|.xd [('(',v)]) a<|.ext<|xo C a b<|U d)
def Dn{h:Q7}(e:xo C ea tt a h):xo C ea tt a h/\(∃o,h.get? ea=U o)/\∀b c:Q7,xo C ea tt a b->(∀o,b.get? ea=U o->c.get? ea=U o)->xo C ea tt a c:=#[e,#[_,e],λb c e k=>k _ e]
section
variable{X:Cx}{aa:List (P2×S1)}{σ:St}{H:Hp}{s:P9}
def IX{c:Q7->Prop}(I:Inv X aa σ (upd H ea (.ext c)) s)(h:H ea=O):Inv X aa σ H s:=by
 have f:∀{b:P2}{o:HO},upd H ea (.ext c) b=U o->(∀d,o≠.ext d)->H b=U o:=λ{b o}e n=>by
  by_cases a:b=ea;.subst a;rw[ah]at e;cases e;exact absurd rfl (n _)
  .rwa[aq a]at e
 have g:∀{b:P2},upd H ea (.ext c) b=O->H b=O:=λ{b}e=>by
  by_cases a:b=ea;.rw[a];exact h
  .rwa[aq a]at e
 refine#[I.ok,I.os,I.bare,#[I.base.keep,I.base.slot,λb o e n c=>g (I.base.free b o e n c),I.base.there,λb i e=>f (I.base.fF b i e) (λd z=>by cases z),λb o u e=>f (I.base.eQ b o u e) (λd z=>by cases z),λb j e=>?_],I.loc,I.cell,g I.free,λx c e=>g (I.dO x c e),λp k=>?_,λb u e=>?_,I.len];.have#[m,q]:=I.base.fE b j e;exact#[m,f q (λd z=>by cases z)]
 .have#[j,l,m]:=I.pin p k;exact#[j,g l,m]
 .have a:b≠ea:=λz=>by rw[z,h]at e;cases e
  exact(I.ay b u (by rw[aq a];exact e)).bO (λc v _ q=>q) (λc q=>f q (λd z=>by cases z)) λc i q=>f q (λd z=>by cases z)
def Jb{a:Q7->Prop}{h':Q7}{t':Nat}(I:Inv X aa σ H s)(k:∀b u,s.heap.get? b=U u->h'.get? b=U u)(c:s.heap.get? ea=O)(new:a h'/\(∃o,h'.get? ea=U o)/\∀d e:Q7,a d->(∀o,d.get? ea=U o->e.get? ea=U o)->a e):Inv X aa σ (upd H ea<|.ext a) {s with heap:=h',toks:=t'}:=by
 have a:=jQ I.ay c;have ne:∀{b:P2}{o:HO},H b=U o->b≠ea:=λ{b o}e z=>by rw[z,a]at e;cases e
 refine I.un (t':=t') #[λb o e _ _ _=>k b o e,λb o e _ _ _=>#[o.slots,k b o e],λb o e n _=>?_,λb o e _=>#[o,k b o e],λb d e=>by rw[aq<|ne e];exact e,λb o u e=>by rw[aq<|ne e];exact e,λb a e=>#[#[],by rw[aq<|ne e,e];simp]] λb u e=>?_;.rw[aq λz=>by rw[z,c]at e;cases e];exact n
 .by_cases a:b=ea;.subst a;rw[ah]at e;cases e;exact new
  .rw[aq a]at e;exact(I.ay b u e).bO (λc v _ q=>k c v q) (λc q=>by rw[aq<|ne q];exact q) λc d q=>by rw[aq<|ne q];exact q
def NR(a:fG X.K C){i j:Nat}(hi:X.N[i]?=U y)(Y:X.N[j]?=U z)(Z:fN X.env.scope y)(vz:fN X.env.scope z)(Q:bN y=true)(R:bN z=true):PS X (.Assign [.Attribute (.Name y p) '(' pos'] (.Name z q) pos)
    (λD σ H=>∃ea v F,σ[i]?=U (U (.ref ea))/\σ[j]?=U (U v)/\H ea=U (.ext (xo C ea F O))/\∀d,H d=O->D.lk σ (upd (upd H d (.xd [('(',v)])) ea (.ext (xo C ea F (U d))))):=by
 intro aa s σ H D I zz;have#[ea,v,F,h1,h2,m,hq]:=zz;have e1:PE X (.Name z q) (ni j):=mT Y vz (cP R).1 (cP R).2;have e2:PE X (.Name y p) (ni i):=mT hi Z (cP Q).1 (cP Q).2;refine X3 (az (e1 aa s σ H (λx M=>x=v/\M=H) I #[_,h2,G,G]) λu s1 J=>e6 J λx M I1 rx ex S=>az (e2 aa s1 σ M (λx l=>x=.ref ea/\l=H) I1 #[_,h1,G,S]) λov B N=>e6 N λx2 l r ab ac ad=>?_) (mJ G);subst ex ac S;subst ad;obtain rfl:ov=QY ea:=ab;have#[_,_,Na,_,_,_,_,_,_,_,_,_,_,_,lk,o,T,ep,lN,ak,al,n0,n1,n2,n3]:=a;have am:B.heap.Ns Na (Ww T):=#[o,T,ep,r.bJ _ _ lN,ak,al,λ_=>rfl];have#[K,_]:=r.ay _ _ m;have K:B.heap.get? ea=_:=K;have V:l B.heap.objs.size=O:=r.ay.fresh (Qg _);have a1:ea<B.heap.objs.size:=Qi K;have#[h,g,dr,t,os]:=B;refine MM X4 (r.bJ _ _ lk) am n0 n3 x8 K rfl (λc z=>by cases z) rfl λh' ap J N L=>?_;have ne:∀{b:P2}{o:HO},l b=U o->b≠h.objs.size:=λ{b o}e w=>by rw[w,V]at e;cases e
 have av:∀{b:P2}{o:HO},l b=U o->(∀k,o≠.ext k)->b≠ea:=λ{b o}e n w=>by rw[w,m]at e;cases e;exact n _ rfl
 have E:∀{b:P2}{o:HO},l b=U o->(∀k,o≠.ext k)->upd (upd l h.objs.size (.xd [('(',x)])) ea (.ext (xo C ea F (U h.objs.size))) b=U o:=λ{b o}e n=>by rw[aq (av e n),aq (ne e)];exact e
 refine#[σ,_,r.un (t':=ap) #[λb o e n _ _=>L b o (λw=>by rw[w,m]at n;cases n) e,λb o e n _ _=>#[o.slots,L b o (λw=>by rw[w,m]at n;cases n) e],λb o e n _=>?_,λb o e _=>?_,λb xs e=>E e (λk w=>by cases w),λb o u e=>E e (λk w=>by cases w),λb ps e=>#[#[],by rw[E e (λk w=>by cases w)];simp]] (λb u e=>?_),hq _ V];.rw[aq (λw=>by rw[w,m]at n;cases n),aq (λw=>by rw[w]at e;exact absurd (Qi e) (RP _))];exact n
 .by_cases A:b=ea;.rw[A];exact#[_,J]
  .exact#[o,L b o A e]
 .by_cases A:b=ea;.subst A;rw[ah]at e;cases e;exact Dn J
  .rw[aq A]at e;by_cases W:b=h.objs.size
   .subst W;rw[ah]at e;cases e;refine#[_,N,λf=>?_];by_cases P:f='(';.subst P;erw[aaE];exact rx
    .have a0:(f==('(':QQ))=false:=by simpa using P
     erw[Rm,a0,Wa,aaC P];trivial
   .rw[aq W]at e;refine(r.ay b u e).bO (λc v hc w=>L c v ?_ w) (λc w=>E w (λk z=>by cases z)) λc xs w=>E w (λk z=>by cases z);rintro rfl;rcases hc with w|w;.exact A w.symm
    .rw[m]at w;cases w
end
section
variable{prog:Rb}{w:RO}{A:Rq}{E:P7->P9->Prop}{s:P9}{env:WI}
variable{nm q:QQ}{C N fI:P2}{bs:List P7}{hdct:Bool}{sn:List QQ}{sub:List P7}{ab:Bool}{col:Option Bool}{dd:Option P2}{k0 k1 k2 k3 k5:Option P7}{mN:QQ->Option P7}{oI:S1}
def Nf{Q:Flow->P9->Prop}(i:A.handled=O)(h:Qn M A x (λv a=>∃e oe vs,v=.ref e/\a.heap.get? C=U (SN nm q C N bs dn hdct sn sub ab col dd k0 k1 k2 k3 k5 '-')/\a.heap.get? e=U oe/\oe.cls=.ref C/\oe.data=.fields vs/\vs[1]?=U .none/\E (.ref e) a) E s):
    Qn M A (raiseStmt env (U x) O) Q E s:=by
 have j:(QY C::dn).contains (.type "BaseException")=true:=by rw[WW];rfl
 unfold raiseStmt;refine Qb<|R9 h (λv a b=>?_) λ_ _ z=>z;have#[e,oe,vs,rfl,c,f,k,l,b,m]:=b;have#[n,g,d,o,p]:=a;repeat (first|(with_reducible refine Sb f ?_;rw[k])|with_reducible refine Sb c ?_|(with_reducible refine Xo c ?_;rw[j])|with_reducible refine UR f l b ?_|wp_step)
 exact wpAny_raiseNew_none i m
def Nd{Q:Flow->P9->Prop}(d:A.handled=O)(l:(TM cpos<|QJ args env).any (·.1)=false)(hi:mN ':'=U (.ref fI))(h:Qn (Qt prog w) A (Sj (.Name x np) env) (λf g=>f=.ref C/\Qn (Qt prog w) A (evalArgs (.ref C) true (TM cpos<|QJ args env) [])
      (λa b=>a.kw=[]/\a.pos.length<=Qq/\b.heap.get? C=U (SN nm q C N bs dn hdct sn sub ab col dd k0 k1 k2 k3 k5 '-')/\b.heap.Ns N mN/\b.heap.get? fI=U oI/\oI.cls=.type "function"/\
       ∀h' e,Heap.MadeExcOf b.heap h' e (.ref C) a.pos->Qn (Qt prog w) (A.under<|.builtin 'J' #[.ref C::a.pos,[]]) (call (.ref fI) (.ref e::a.pos)) (λr c=>r=.none/\∃oe vs,c.heap.get? C=U (SN nm q C N bs dn hdct sn sub ab col dd k0 k1 k2 k3 k5 '-')/\c.heap.get? e=U oe/\oe.cls=.ref C/\oe.data=.fields vs/\vs[1]?=U .none/\E (.ref e) c) E {b with heap:=h'}) E g) E s):
    Qn (Qt prog w) A (exec (.Raise (U<|.Call (.Name x np) args [] cpos) O pos) env) Q E s:=by rw[arm_exec_Raise];refine Qb<|Vl<|Nf (C:=C) (nm:=nm) (q:=q) (N:=N) (bs:=bs) (hdct:=hdct) (sn:=sn) (sub:=sub) (ab:=ab) (col:=col) (dd:=dd) (k0:=k0) (k1:=k1) (k2:=k2) (k3:=k3) (k5:=k5) d<|Qb<|R9 (wpAny_Call_ofName<|R9 h (λf g d=>?_) λ_ _ z=>z) (λv c i=>Qb<|Vl<|Qo i) λ_ _ z=>z;have#[rfl,d]:=d;refine Qb<|Sg<|R9 d (λa b j=>Qb<|Vl ?_) λ_ _ z=>z;have#[g,d]:=a;have#[g,m,k,n,o,p,j]:=j;obtain rfl:d=[]:=g;have#[t,g,d,u,v]:=b;erw[l];refine Qb<|wpAny_keeperOf_exc k ?_;refine Qb<|wpAny_call_exc_init (hrest:=m) XM k n hi o p λh' e b=>R9 (j h' e b) (λr c i=>#[i.1,Qb<|Sg<|wpAny_point<|Qo ?_]) λ_ _ z=>z;have#[oe,vs,b,c,d,g,j,k]:=i.2;exact#[e,oe,vs,G,b,c,d,g,j,k]
end
def qm(K:PY)(C f:P2):Prop:=∃nm q N bs sn sub ab col dd k0 k1 k2 k3 k5,K.lookup C=U (SN nm q C N bs dn true sn sub ab col dd k0 k1 k2 k3 k5 '-')/\
 (∃o a b,K.lookup N=U o/\o.data=.dict a b/\StrKeys a/\Ww a ':'=U (.ref f))/\∃a,K.lookup f=U a/\a.cls=.type "function"
section
variable{X:Cx}{E:XK}{C f:P2}{x:QQ}{e:P8}{te:TE}{np cpos pos:SK}{R:Prop}
def MB(y:kE X E)(fx:X.ex=[])(hc:X.calm=true)(g:qm X.K C f)(j:Gl X x)(m:X.mg x=U (.ref C))(n:PE X e te)(hs:∀c,QJ (e::c) X.env=(false,Sj e X.env)::QJ c X.env)(p:(x==('5':QQ))=false)(t:R->∃k a i,ia X.prog X.w X.K X.mg X.base (bH X.prog X.w) k f a i (ng C k)/\Binds X.K a i []/\cB (k+1) X.A/\1<=k)(A:Passes (bH X.prog X.w) X E):
    PS X (.Raise (U<|.Call (.Name x np) [e] [] cpos) O pos) λ_ σ H=>dG te eZ σ H λvs H1=>∃v,vs=[v]/\R/\∀d,H1 d=O->E (.ref C) (U d) (upd H1 d<|.xd [('(',v)]):=by
 intro aa s σ H D I h;have#[nm,q,c,bs,sn,sub,ab,col,dd,k0,k1,k2,k3,k5,lk,#[o,l,u,z,B,D,r],F,J,K]:=g;have g:PA X [e]<|dG te eZ:=fA n gX<|hs [];have n:(TM cpos<|QJ [e] X.env).any (·.1)=false:=by rw[hs];rfl
 refine Nd (C:=C) (N:=c) (nm:=nm) (q:=q) (bs:=bs) (hdct:=true) (sn:=sn) (sub:=sub) (ab:=ab) (col:=col) (dd:=dd) (k0:=k0) (k1:=k1) (k2:=k2) (k3:=k3) (k5:=k5) (mN:=Ww l) (fI:=f) (oI:=F) (I.ok.hd hc) n r<|kZ I j m #[G,?_] p;rw[hs];show Qn _ _ (evalArgs (.ref C) true ((false,Sj e X.env)::TM cpos (QJ [] X.env)) []) _ _ _;have c:=g cpos aa s σ H _ I h;rw[hs]at c;refine Tr<|az c λc n g=>e5 g λvs H1 g r h=>e4 h λv h m q=>?_;subst h;have#[k,a,i,F,j,I,L]:=t m;refine#[G,by rw[<-r.length];show 1<=Qq;decide,g.bJ _ _ lk,#[o,l,u,g.bJ _ _ z,B,D,λ_=>rfl],g.bJ _ _ J,K,λo a h=>?_];have#[l,p,_,_]:=h.there;have m:Inv X aa σ (upd H1 a<|.ext<|xo C a l O) {n with heap:=o}:=Jb (t':=n.toks) g h.keeps h.new<|Dn p;have p:=jQ g.ay h.new;have B:X.aX.heap.get? a=O:=by cases u:X.aX.heap.get? a with|none=>rfl|some z=>have#[D,t]:=g.base.there a z u (by rw[fx];simp);rw[h.new]at t;cases t
 have h:Vals (V.ref a::[v]) (QY a::c):=.cons rfl r;have r:ng C k [.ref a,v] (upd H1 a<|.ext<|xo C a l O) (λu t=>u=.ao/\∃d,H1 d=O/\d≠a/\t=upd (upd H1 d<|.xd [('(',v)]) a (.ext<|xo C a l<|U d)) E:=by
  refine#[a,v,l,G,L,ah,λd g=>#[G,d,?_,?_,?_]]
  .have l:d≠a:=λz=>by rw[z,ah]at g;cases g
   rwa[aq l]at g
  .exactλz=>by rw[z,ah]at g;cases g
  .funext b;unfold upd;by_cases j:b=a;.simp[j]
   .simp[j]
 have l:(QY a::c++[]).length=i.length:=by have e:=h.length;rw[F.len _ _ _ _ r]at e;rw[Rr];exact e.symm
 have i:=j {n with heap:=o} (QY a::c) m.bJ l;rw[Rr]at i;refine YN<|VI (F.run _ X.stack _ _ #[QY a::c,[]] (QY a::c) _ _ E (I.make C c []) (m.rH.make C c []) i h r) λh i c=>?_;induction h with|error e=>exact A aa σ _ _ e i m c|ok h=>induction h with|ret u=>have#[w,t,j,n,h,d,g,l,o]:=m.after c;subst h o;have#[h,_]:=j.ay a _ ah;have h:i.heap.get? a=_:=h;have m:u=.none:=n;have n:=IX j (by rw[aq<|Q4 l];exact p);exact#[m,_,_,j.bJ _ _ lk,h,G,G,G,y aa σ _ i a _ _ n h G G (by rw[aq<|Q4 l];exact p) B<|q d g]|next=>exact Rx c|brk=>exact Rx c|cont=>exact Rx c
end
structure lT(K:PY)(mg:QQ->Option P7)(ad:F->P2):Prop where
 rL:∀g,isExc g=true->fG K (ad g)
 sF:∀x g,(nm.ex.lookup x).or (nm.fT.lookup x)=U g->mg x=U (.ref (ad g))/\isExc g=true
 IQ:qm K (ad 11.7) (ad 0.0)
 inj:∀e f,isExc e=true->isExc f=true->ad e=ad f->e=f
section
variable{P:Rb}{w:RO}{K:PY}{mg:QQ->Option P7}{base:Q7}{ad:F->P2}{fd:F->TY}{sp:F->Nat->Sp}
def HD(h:nm.fT.lookup x=U g):g=11.7:=by
 replace h:TU x [(("Obstructed":QQ),11.7)]=U _:=h;erw[Rm,Wa]at h;split at h;.cases h;rfl
 .cases h
def PH(T:Facts K mg ad fd)(b:lT K mg ad)(t:∀k,sp 0.0 k=ng (ad 11.7) k):qS P w K mg base ad fd sp:=by
 intro k N E a X u j d p v f z A c m B C e g;have q:jK (Gk K ad sp k) nm N E a X:=#[j,d,p,e,λx g h=>by rw[c,m];exact#[(b.sF x g h).1,b.rL g (b.sF x g h).2],λg h=>by rw[c];exact b.rL g h];refine#[λx g e d s i l a D E F f=>?_,λd e y f h r g l n o=>OK q d e y f h r g l n o,λd x i e y f h r s g l n o H I J=>OL q d x i e y f h r s g l n o H I J];obtain rfl:=HD a;have d:nm.ex.lookup x=O:=by
  replace a:TU x [(("Obstructed":QQ),11.7)]=U _:=a;erw[Rm,Wa]at a;split at a
  .rename_i e;have:x="Obstructed":=by simpa using e
   subst this;decide
  .cases a
 have e:X.mg x=U (.ref<|ad 11.7):=by rw[m];exact(b.sF x _<|by rw[d,a];rfl).1
 refine MB (R:=2<=k) v p.ex j.calm (by rw[c];exact b.IQ) (j.cM x D) e F f (cP E).1 (λa=>#[k-1,fd 0.0,iD 0.0,?_,by rw[c];exact T.bd _ G,by rw[W7<|by omega (config:={})];exact C,by omega (config:={})]) (by exact j.ps);have:=u (k-1) (by omega (config:={})) 0.0 rfl;rw[t]at this;subst z A c m B;exact this
def IS:∃p q r t,ie (du 0.0)=[.Assign [.Attribute (.Name 'C' p) '(' q] (.Name '(' r) t]:=#[_,_,_,_,G]
def w9:gm (dk<|du 0.0) 'C'=true/\gm (dk<|du 0.0) '('=true:=#[by kernel_rfl,by kernel_rfl]
def C5(h:gm sc x=true):fN sc x:=by
 delta gm at h;split at h;.exact .inl (by assumption)
 .exact .inr<|.inl (by assumption)
 .exact .inr<|.inr (by assumption)
 .cases h
def IU(T:Facts K mg ad fd)(e:lT K mg ad)(k:Nat):ia P w K mg base (bH P w) (k+1) (ad 0.0) (fd 0.0) (iD 0.0)<|ng (ad 11.7)<|k+1:=by
 refine wM (T.fn 0.0 G) (cs 0.0 G).2 (λa H Q E h=>?_) λb A c s H a Q E d h=>?_;.have#[a,v,b,rfl,_]:=h;rfl
 .have#[a,v,b,rfl,_,f,q]:=h;have#[p,r,t,u,g]:=IS;refine#[λD c H=>∃a v b,c[0]?=U (U<|.ref a)/\c[1]?=U (U v)/\H a=U (.ext<|xo (ad 11.7) a b O)/\∀d,H d=O->D.lk c (upd (upd H d<|.xd [('(',v)]) a<|.ext<|xo (ad 11.7) a b<|U d),?_,?_];.show fi _ (ie<|du 0.0) _;rw[g];exact lA<|NR (C:=ad 11.7) (i:=0) (j:=1) (e.rL 11.7 G) G G (C5 w9.1) (C5 w9.2) (by decide) (by decide)
  .exact#[a,v,b,G,G,f,q]
end
section
open Vacola (Lit)
mutual
noncomputable def aF:Kd->Nat|.leaf _=>0|.group _ a=>ik a+1
noncomputable def ik:Qh->Nat|.nil=>0|.cons _ k r=>max (aF k)<|ik r
end
noncomputable def bf(s:List Nat):Int:=match s with|c::_=>c|[]=>-1
section
variable(ad:F->P2)
inductive Sc(M H:Hp)(a:P2)(t s:List Nat):Prop
 |mk(_:M a=O)(_:∃dx l,H a=U (.ins (ad 10.0) dx [('.',.ref l),(';',.int ((t.length-s.length:Nat):Int))])/\M l=U (.lst (bv t))/\s<:+t/\t.length<=5000)
def aJ(W:P2->Prop)(M H:Hp)(Q:VK)(R:Hp->Hp->V->Prop):Prop:=∀v b a,Go W M H b a->R b a v->Q v a
def Fail(W:P2->Prop)(H:Hp)(E:XK)(e:F):Prop:=∀a,di W H a->E (.ref<|ad e) O a
inductive cQ{α:Type}(rank:Nat)(r:ag α)(R:Hp->V->α->Prop)(k:Nat)(a:P2)(t s:Qv)(M H:Hp)(Q:VK)(E:XK):Prop
 |mk(_:rank<=k)(_:Sc ad M H a t s)(_:aj M H)(_:(∀x s',r s=U (x,s')->aJ (W1 a) M H Q λM' H' v=>Sc ad M' H' a t s'/\R M' v x))(_:(r s=O->Fail ad (W1 a) H E 11.0))
def kD(_:Hp)(v:V)(x:Nat):Prop:=v=.int (x:Nat)
def RZ(_:Hp)(v:V)(x:Int):Prop:=v=.int x
def DG(_:Hp)(v:V)(_:Unit):Prop:=v=.ao
end
noncomputable def Ox:ag Nat|c::r=>U (c,r)|[]=>O
noncomputable def dB(g:Nat)(t:Qv):Option<|Unit×Qv:=(aN g t).map λr=>((),r)
noncomputable def yq:ag Qv:=λs=>U (s.takeWhile Qa,s.dropWhile Qa)
noncomputable def gK:ag Nat|c::r=>(Ti c).map λx=>(x,r)|[]=>O
noncomputable def eM:ag Nat|c::r=>if SQ c then U (c,r)else if c=92 then(gK r).bind λx=>(gK x.2).bind λy=>if SQ (x.1*16+y.1)then O else U (x.1*16+y.1,y.2)else O|[]=>O
noncomputable def j5:ag Qv:=λt=>(aN 34 t).bind Q5
noncomputable def j0(L:List HK):ag Nat:=λt=>(L.findIdx? λx=>x.1.name==t.takeWhile Qa).bind λp=>(aN 58<|t.dropWhile Qa).map λr=>(p,r)
def typed:Xl->Lit->Prop|.text _,.str _=>True|.bit,.num _=>True|.int _,.num _=>True|_,_=>False
noncomputable def aQ:Kd->Bool|.group _ _=>true|.leaf _=>false
noncomputable def fq:Kd->Kd->Bool|.leaf l,.leaf o=>Rj o l|_,_=>false
noncomputable def kindAt:List Nat->Kd->Kd
 |[],k=>k|n::p,.group _ a=>match aG n a.list with
  |some x=>kindAt p x.2
  |none=>.leaf .bit
 |_::_,k=>k
theorem aaM{n:Nat}{p:List Nat}{c:Bool}{fs:Qh}:kindAt (n::p) (.group c fs)=match aG n fs.list with|some x=>kindAt p x.2|none=>.leaf .bit:=G
section
variable(ad:F->P2)
def iR{a:Type}(R:V->a->Prop)(v:V):Option a->Prop|none=>v=.ao|some x=>R v x
def qw(a e H:Hp)(k:Kd)(v:V)(x:Sk):Prop:=match k with|.group false f=>∃b c d,v=.ref b/\x=.group d/\H b=O/\a b=O/\e b=U (.lst c)/\bq ad a f c d|k=>ar ad a k v x
def bS(k:Kd):Prop:=aI k/\aF k<=6
end
section
variable(ad:F->P2)(k:Nat)(vs:List V)(H:Hp)(Q:VK)(E:XK)
inductive Ec:Prop
 |mk(i:Int)(_:vs=[.int i])(_:1<=k)(_:Q (.bl (decide (48<=i)&&decide (i<=57))) H)
inductive Ef:Prop
 |mk(i:Int)(_:vs=[.int i])(_:1<=k)(_:Q (.bl (decide (97<=i)&&decide (i<=122))) H)
inductive Ee:Prop
 |mk(i:Int)(_:vs=[.int i])(_:2<=k)(_:Q (.bl ((decide (97<=i)&&decide (i<=122))||((decide (48<=i)&&decide (i<=57))||decide (i=95)))) H)
inductive EI:Prop
 |mk(i:Nat)(_:vs=[.int (i:Nat)])(_:1<=k)(_:Q (.bl (SQ i)) H)
inductive Fo:Prop
 |mk(a dx v)(_:vs=[.ref a,v])(_:1<=k)(_:H a=U (.ins (ad 10.0) dx []))(_:Q .ao (upd H a (.ins (ad 10.0) dx [('.',v),(';',.int 0)])))
inductive FC:Prop
 |mk(a t s M)(_:vs=[.ref a])(_:1<=k)(_:Sc ad M H a t s)(_:aj M H)(_:Q (.int (bf s)) H)
inductive FF:Prop
 |mk(a t s M)(_:vs=[.ref a])(_:cQ ad 2 Ox kD k a t s M H Q E)
inductive FD:Prop
 |mk(a t s M)(g:Nat)(_:vs=[.ref a,.int (g:Nat)])(_:2<=k)(_:Sc ad M H a t s)(_:aj M H)(_:(bf s≠(g:Nat)->Q (.bl false) H))(_:(∀r,s=g::r->∀H',Sc ad M H' a t r->Go (W1 a) M H M H'->Q (.bl true) H'))
inductive Fy:Prop
 |mk(a t s M)(g:Nat)(_:vs=[.ref a,.int (g:Nat)])(_:cQ ad 3 (dB g) DG k a t s M H Q E)
inductive Fz:Prop
 |mk(a t s M)(_:vs=[.ref a])(_:2<=k)(_:Sc ad M H a t s)(_:aj M H)(_:(s=[]->Q .ao H))(_:(s≠[]->E (.ref (ad 11.0)) O H))
inductive EM:Prop
 |mk(a t s M)(_:vs=[.ref a])(_:cQ ad 3 bX kD k a t s M H Q E)
inductive EW:Prop
 |mk(a t s M)(_:vs=[.ref a])(_:cQ ad 3 yq ej k a t s M H Q E)
inductive Fm:Prop
 |mk(a dx v w)(_:vs=[.ref a,v,w])(_:1<=k)(_:H a=U (.ins (ad 10.1) dx []))(_:Q .ao (upd H a (.ins (ad 10.1) dx [('[',v),('c',w)])))
inductive Ey:Prop
 |mk(l)(t:Qv)(M)(_:vs=[.ref l])(_:3<=k)(_:H l=U (.lst (bv t)))(_:(∀c∈t,SQ c=true))(_:t.length<=2000)(_:aj M H)(_:aJ W0 M H Q λM' H' v=>cZ ad M' v (.str t))
inductive Es:Prop
 |mk(n:Nat)(M)(_:vs=[.int (n:Nat)])(_:3<=k)(_:n<2^70)(_:aj M H)(_:aJ W0 M H Q λM' H' v=>cZ ad M' v (.num (n:Nat)))
inductive D8:Prop
 |mk(w kv l x M)(_:vs=[w,kv])(_:1<=k)(_:fL M w x)(_:typed l x)(_:ai ad M (.leaf l) kv)(_:aj M H)(_:Q (.bl (Rn l x)) H)
inductive ET:Prop
 |mk(a t s M kv l)(_:vs=[.ref a,kv])(_:ai ad M (.leaf l) kv)(_:cQ ad 6 (dQ l) (cZ ad) k a t s M H Q E)
inductive E6:Prop
 |mk(a t s M)(_:vs=[.ref a])(_:cQ ad 4 hY RZ k a t s M H Q E)
inductive E0:Prop
 |mk(a t s M)(_:vs=[.ref a])(_:cQ ad 5 j5 ej k a t s M H Q E)
inductive EK:Prop
 |mk(a t s M)(_:vs=[.ref a])(_:cQ ad 4 eM kD k a t s M H Q E)
inductive E4:Prop
 |mk(a t s M)(_:vs=[.ref a])(_:cQ ad 3 gK kD k a t s M H Q E)
inductive Ed:Prop
 |mk(kv kd M)(_:vs=[kv])(_:1<=k)(_:ai ad M kd kv)(_:aj M H)(_:Q (.bl (aQ kd)) H)
inductive Eo:Prop
 |mk(kv kd M)(_:vs=[kv])(_:4+2*aF kd<=k)(_:ai ad M kd kv)(_:aI kd)(_:aj M H)(_:aJ W0 M H Q λM' H' v=>qw ad M' H' H kd v (QG kd))
inductive En:Prop
 |mk(u x M)(_:vs=[u])(_:5+2*aF x.2<=k)(_:aE ad M x u)(_:aI x.2)(_:aj M H)(_:aJ W0 M H Q λM' H' v=>bp (λv y=>ar ad M' x.2 v y) M' v (if x.1.mode=.one then[QG x.2]else[]))
inductive Em:Prop
 |mk(kv kd M)(_:vs=[kv])(_:5+2*aF kd<=k)(_:ai ad M kd kv)(_:aI kd)(_:(QI kd).isSome=true)(_:aj M H)(_:aJ W0 M H Q λM' H' v=>ar ad M' kd v (iT kd))
inductive D5:Prop
 |mk(h kd kv dv M)(_:vs=[.int (br h.mode),kv,dv])(_:2<=k)(_:ai ad M kd kv)(_:iR (cZ ad M) dv h.dflt)(_:(h.dflt.isSome->∃l,kd=.leaf l))(_:aI kd)(_:aj M H)(_:aJ W0 M H Q λM' H' v=>gy ad M' kd v (Qr h kd))
inductive D4:Prop
 |mk(kd kv dv M)(d:Option Lit)(_:vs=[kv,dv])(_:1<=k)(_:ai ad M kd kv)(_:iR (cZ ad M) dv d)(_:(d.isSome->∃l,kd=.leaf l))(_:aI kd)(_:aj M H)(_:aJ W0 M H Q λM' H' v=>iR (ar ad M' kd) v (RT kd d))
inductive EJ:Prop
 |mk(ov m kd M o)(_:vs=[ov,.int (br m)])(_:3<=k)(_:bp (λv y=>ar ad M kd v y) M ov o)(_:o.length<=1000000)(_:(m=.keyed->(QI kd).isSome=true/\∀x∈o,aU kd x))(_:aj M H)(_:Q (.bl (QK m o)) H)
inductive Ej:Prop
 |mk(ov kd M o)(_:vs=[ov])(_:2<=k)(_:bp (λv y=>ar ad M kd v y) M ov o)(_:o.length<=1000000)(_:(QI kd).isSome=true)(_:(∀x∈o,aU kd x))(_:aj M H)(_:Q (.bl (RJ o)) H)
inductive Eh:Prop
 |mk(v x kd M)(_:vs=[v])(_:1<=k)(_:ar ad M kd v x)(_:(QI kd).isSome=true)(_:aU kd x)(_:aj M H)(_:∀w l,R5 x=U l->fL M w l->Q w H)
inductive Fj:Prop
 |mk(a dx f us M)(fs:Qh)(c lo hi:Int)(_:vs=[.ref a,.int c,.int lo,.int hi,.ref f])(_:1<=k)(_:H a=U (.ins (ad 10.3) dx []))(_:M a=O)(_:M f=U (.lst us))(_:dz ad M fs us)(_:cj fs.list)(_:(fs.list.map λx=>x.1.name).Nodup)(_:fs.list.length<=1000)(_:aj M H)(_:aJ (W1 a) M H Q λM' H' v=>v=.ao/\M' a=O/\∃pn pm,H' a=U (.ins (ad 10.3) dx [(')',.int c),('F',.int lo),('6',.int hi),('+',.ref f),('*',.ref pn),('3',.ref pm)])/\M' pn=U (.dK (dR fs.list))/\M' pm=U (.dT (eC fs.list)))
inductive Fx:Prop
 |mk(kv c fs M)(n:Nat)(_:vs=[kv,.int (n:Nat)])(_:1<=k)(_:ai ad M (.group c fs) kv)(_:cj fs.list)(_:aj M H)(_:∀v,iR (λu x=>aE ad M x u) v (aG n fs.list)->Q v H)
inductive Fh:Prop
 |mk(a dx h kd nv kv dv M)(_:vs=[.ref a,.int ((h:Td).number:Nat),nv,.int (br h.mode),kv,dv])(_:3<=k)(_:H a=U (.ins (ad 10.4) dx []))(_:M a=O)(_:ai ad M kd kv)(_:iR (cZ ad M) dv h.dflt)(_:(h.dflt.isSome->∃l,kd=.leaf l))(_:aI kd)(_:aj M H)(_:aJ (W1 a) M H Q λM' H' v=>v=.ao/\M' a=O/\∃fl,H' a=U (.ins (ad 10.4) dx [('(',.int (h.number:Nat)),('V',nv),('<',.int (br h.mode)),(',',kv),('K',fl)])/\gy ad M' kd fl (Qr h kd))
inductive Fp:Prop
 |mk(a dx v w)(_:vs=[.ref a,v,w])(_:1<=k)(_:H a=U (.ins (ad 10.5) dx []))(_:Q .ao (upd H a (.ins (ad 10.5) dx [('.',v),('M',w)])))
inductive El:Prop
 |mk(l M)(n:Nat)(_:vs=[.int (aw (.leaf l)),.int (n:Nat)])(_:3<=k)(_:gQ l)(_:(match(generalizing:=false) l with|.bit=>True|.int m=>n=m|.text m=>n=m))(_:aj M H)(_:aJ W0 M H Q λM' H' v=>ai ad M' (.leaf l) v)
inductive D9:Prop
 |mk(c fs f us M)(_:vs=[.int (aw (.group c fs)),.ref f])(_:3<=k)(_:M f=U (.lst us))(_:dz ad M fs us)(_:cj fs.list)(_:(fs.list.map λx=>x.1.name).Nodup)(_:fs.list.length<=1000)(_:aj M H)(_:aJ W0 M H Q λM' H' v=>ai ad M' (.group c fs) v)
inductive Ea:Prop
 |mk(n:Nat)(_:vs=[.int (n:Nat)])(_:1<=k)(_:1<=n)(_:n<=64)(_:Q (.int (2^(n-1))) H)
inductive EF:Prop
 |mk(nv ov new old M)(_:vs=[nv,ov])(_:1<=k)(_:ai ad M new nv)(_:ai ad M old ov)(_:aj M H)(_:aJ W0 M H Q λ_ _ v=>v=.bl (fq new old))
inductive EE:Prop
 |mk(v ov nv x old new M)(_:vs=[v,ov,nv])(_:6+4*aF new<=k)(_:ar ad M old v x)(_:ai ad M old ov)(_:ai ad M new nv)(_:aI old)(_:aI new)(_:aU old x)(_:aj M H)(_:(∀y,Qc new old x=U y->aJ W0 M H Q λM' H' v=>ar ad M' new v y))(_:(Qc new old x=O->Fail ad W0 H E 11.6))
inductive EB:Prop
 |mk(v ov u ss fs x M)(_:vs=[v,ov,u])(_:8+4*aF x.2<=k)(_:ar ad M (.group false fs) v (.group ss))(_:ai ad M (.group false fs) ov)(_:aE ad M x u)(_:aI (.group false fs))(_:dD false x)(_:cU fs ss)(_:aj M H)(_:(∀o,eO x fs ss=U o->aJ W0 M H Q λM' H' v=>bp (λv y=>ar ad M' x.2 v y) M' v o))(_:(eO x fs ss=O->Fail ad W0 H E 11.6))
inductive EC:Prop
 |mk(ov kv u o old x M)(_:vs=[ov,kv,u])(_:7+4*aF x.2<=k)(_:bp (λv y=>ar ad M old v y) M ov o)(_:o.length<=1000000)(_:ai ad M old kv)(_:aE ad M x u)(_:aI old)(_:dD false x)(_:(∀y∈o,aU old y))(_:aj M H)(_:(∀p,((o.mapM λv=>Qc x.2 old v).bind λp=>if QK x.1.mode p then U p else O)=U p->aJ W0 M H Q λM' H' v=>bp (λv y=>ar ad M' x.2 v y) M' v p))(_:(((o.mapM λv=>Qc x.2 old v).bind λp=>if QK x.1.mode p then U p else O)=O->Fail ad W0 H E 11.6))
inductive EA:Prop
 |mk(v ov nv x fs gs M)(_:vs=[v,ov,nv])(_:5+4*aF (.group true gs)<=k)(_:ar ad M (.group true fs) v x)(_:ai ad M (.group true fs) ov)(_:ai ad M (.group true gs) nv)(_:aI (.group true fs))(_:aI (.group true gs))(_:aU (.group true fs) x)(_:aj M H)(_:(∀y,Qc (.group true gs) (.group true fs) x=U y->aJ W0 M H Q λM' H' v=>ar ad M' (.group true gs) v y))(_:(Qc (.group true gs) (.group true fs) x=O->Fail ad W0 H E 11.6))
inductive ED:Prop
 |mk(v sv tv x t fs u gs M)(_:vs=[v,sv,tv])(_:31<=k)(_:ar ad M (.group false fs) v x)(_:c6 ad M sv t fs)(_:c6 ad M tv u gs)(_:bS (.group false fs))(_:bS (.group false gs))(_:aU (.group false fs) x)(_:aj M H)(_:(∀y,UW gs fs x=U y->aJ W0 M H Q λM' H' v=>ar ad M' (.group false gs) v y))(_:(UW gs fs x=O->Fail ad W0 H E 11.6))
end
section
variable(ad:F->P2)
@[reducible] def pS:F->Nat->Sp|1.0,k=>λvs H Q _=>Ec k vs H Q|1.1,k=>λvs H Q _=>Ef k vs H Q|1.2,k=>λvs H Q _=>Ee k vs H Q|1.3,k=>λvs H Q _=>EI k vs H Q|0.1,k=>λvs H Q _=>Fo ad k vs H Q|2.0,k=>λvs H Q _=>FC ad k vs H Q|2.1,k=>FF ad k|2.2,k=>λvs H Q _=>FD ad k vs H Q|2.3,k=>Fy ad k|2.4,k=>Fz ad k|1.4,k=>EM ad k|1.5,k=>EW ad k|0.2,k=>λvs H Q _=>Fm ad k vs H Q|1.6,k=>λvs H Q _=>Ey ad k vs H Q|1.7,k=>λvs H Q _=>Es ad k vs H Q|1.8,k=>λvs H Q _=>D8 ad k vs H Q|1.9,k=>ET ad k|1.10,k=>E6 ad k|1.11,k=>E0 ad k|1.12,k=>EK ad k|3.0,k=>E4 ad k|3.1,k=>λvs H Q _=>Ed ad k vs H Q|3.2,k=>λvs H Q _=>Eo ad k vs H Q|3.3,k=>λvs H Q _=>En ad k vs H Q|3.4,k=>λvs H Q _=>Em ad k vs H Q|3.5,k=>λvs H Q _=>D5 ad k vs H Q|3.6,k=>λvs H Q _=>D4 ad k vs H Q|3.7,k=>λvs H Q _=>EJ ad k vs H Q|3.8,k=>λvs H Q _=>Ej ad k vs H Q|3.9,k=>λvs H Q _=>Eh ad k vs H Q|0.4,k=>λvs H Q _=>Fj ad k vs H Q|2.5,k=>λvs H Q _=>Fx ad k vs H Q|0.5,k=>λvs H Q _=>Fh ad k vs H Q|0.6,k=>λvs H Q _=>Fp ad k vs H Q|6.2,k=>λvs H Q _=>El ad k vs H Q|6.3,k=>λvs H Q _=>D9 ad k vs H Q|6.4,k=>λvs H Q _=>Ea k vs H Q|3.10,k=>λvs H Q _=>EF ad k vs H Q|3.12,k=>EE ad k|4.0,k=>EB ad k|4.1,k=>EC ad k|4.2,k=>EA ad k|3.11,k=>ED ad k|_,_=>λ_ _ _ _=>False
end
end
section
variable(ad:F->P2)
def cz(M:Hp)(v:V)(n:Nat)(d:List Nat)(kd:Kd)(o:List Sk):Prop:=∃a e b c,v=.ref a/\M a=U (.ins (ad 10.2) e [('(',.int (n:Nat)),('U',b),('/',c)])/\bP M b d/\bp (λv y=>ar ad M kd v y) M c o
def ib(M:Hp)(pre:List Nat)(old:Kd)(v:V):Option Ob->Prop|none=>v=.ao|some x=>cz ad M v x.1 (pre++x.2.1) (kindAt x.2.1 old) x.2.2
end
noncomputable def f7:List Nat->Kd->List Sk->Prop
 |[],_,_=>True|n::p,.group c a,o=>match aG n a.list with
  |none=>c=false/\p=[]
  |some x=>(p=[]/\(c=true->∃y,o=[y]))\/(p≠[]/\aQ x.2=true/\f7 p x.2 o)
 |_::_,.leaf _,_=>False
noncomputable def dZ(x y:HK):Option Ob:=match R1 x.1 y.1 x.2 y.2 with|some z=>U (z.1,[],z.2)|none=>aP x.2 y.2
abbrev TF:=Qv×Qh
noncomputable def jB(l:List TF):Bool:=(Uy<|l.length-2).all λi=>match l[i]?,l[i+1]?,l[l.length-1]? with|some a,U b,U c=>Xe a.2 b.2 c.2|_,_,_=>false
def eS(k:Kd):Prop:=(QM k).length<=2000
def gJ(x:HK):Prop:=(QM x.2).length+(Ri x.1).length<=2000
section
variable(ad:F->P2)
def nJ(M:Hp)(v:V)(l:List TF):Prop:=∃b a,v=.ref b/\M b=U (.lst a)/\Paired (λu(x:TF)=>c6 ad M u x.1 x.2) a l/\l.length<=16/\∀x∈l,bS (.group false x.2)/\eS (.group false x.2)
abbrev W2(a b:P2):P2->Prop:=λc=>c=a\/c=b
def bW(M H:Hp)(l:P2)(ts:List V):Prop:=M l=O/\H l=U (.lst ts)
end
section
variable(ad:F->P2)(k:Nat)(vs:List V)(H:Hp)(Q:VK)(E:XK)
inductive Fn:Prop
 |mk(a dx v w z)(_:vs=[.ref a,v,w,z])(_:1<=k)(_:H a=U (.ins (ad 10.2) dx []))(_:Q .ao (upd H a (.ins (ad 10.2) dx [('(',v),('U',w),('/',z)])))
inductive D6:Prop
 |mk(kv l M)(_:vs=[kv])(_:4<=k)(_:ai ad M (.leaf l) kv)(_:gQ l)(_:aj M H)(_:aJ W0 M H Q λM' _ v=>cZ ad M' v (beyond l))
inductive DU:Prop
 |mk(ov nv pv o l M pre)(_:vs=[ov,nv,pv])(_:6<=k)(_:ai ad M (.leaf o) ov)(_:ai ad M (.leaf l) nv)(_:bP M pv pre)(_:gQ o)(_:gQ l)(_:aj M H)(_:aJ W0 M H Q λM' _ v=>ib ad M' pre (.leaf o) v (jT l o))
inductive DT:Prop
 |mk(ov nv pv old new M pre)(_:vs=[ov,nv,pv])(_:24+4*aF new<=k)(_:ai ad M old ov)(_:ai ad M new nv)(_:bP M pv pre)(_:pre.length+aF new<=100)(_:bS old)(_:bS new)(_:aj M H)(_:aJ W0 M H Q λM' _ v=>ib ad M' pre old v (aP new old))
inductive DR:Prop
 |mk(ov nv pv fs gs M pre)(_:vs=[ov,nv,pv])(_:23+4*aF (.group true gs)<=k)(_:ai ad M (.group true fs) ov)(_:ai ad M (.group true gs) nv)(_:bP M pv pre)(_:pre.length+aF (.group true gs)<=100)(_:bS (.group true fs))(_:bS (.group true gs))(_:aj M H)(_:aJ W0 M H Q λM' _ v=>ib ad M' pre (.group true fs) v (aP (.group true gs) (.group true fs)))
inductive DV:Prop
 |mk(ov nv pv fs gs M pre)(_:vs=[ov,nv,pv])(_:23+4*aF (.group false gs)<=k)(_:ai ad M (.group false fs) ov)(_:ai ad M (.group false gs) nv)(_:bP M pv pre)(_:pre.length+aF (.group false gs)<=100)(_:bS (.group false fs))(_:bS (.group false gs))(_:aj M H)(_:aJ W0 M H Q λM' _ v=>ib ad M' pre (.group false fs) v (dS gs fs))
inductive Er:Prop
 |mk(u pv x M pre)(_:vs=[u,pv])(_:3<=k)(_:aE ad M x u)(_:bP M pv pre)(_:aj M H)(_:aJ W0 M H Q λM' _ v=>if(Qr x.1 x.2).isNone then cz ad M' v 4 pre (.leaf .bit) []else v=.ao)
inductive DS:Prop
 |mk(ou nu pv y x M pre)(_:vs=[ou,nu,pv])(_:26+4*aF x.2<=k)(_:aE ad M y ou)(_:aE ad M x nu)(_:bP M pv pre)(_:pre.length+aF x.2<=100)(_:dD false y)(_:dD false x)(_:aF y.2<=6)(_:aF x.2<=6)(_:aj M H)(_:aJ W0 M H Q λM' _ v=>ib ad M' pre y.2 v (dZ x y))
inductive Ei:Prop
 |mk(ou nu y x M)(_:vs=[ou,nu])(_:1<=k)(_:aE ad M y ou)(_:aE ad M x nu)(_:(QI x.2).isSome=true)(_:(y.1.mode=.keyed->(QI y.2).isSome=true))(_:aj M H)(_:Q (.bl (decide (if y.1.mode=.keyed then bZ y.2=bZ x.2 else y.1.mode≠.many))) H)
inductive E8:Prop
 |mk(ou y M)(_:vs=[ou])(_:18<=k)(_:aE ad M y ou)(_:dD false y)(_:aF y.2<=6)(_:aj M H)(_:aJ W0 M H Q λM' _ v=>bp (λv z=>ar ad M' y.2 v z) M' v (SO y.1.mode y.2))
inductive D7:Prop
 |mk(sv tv t fs u gs M)(_:vs=[sv,tv])(_:49<=k)(_:c6 ad M sv t fs)(_:c6 ad M tv u gs)(_:bS (.group false fs))(_:bS (.group false gs))(_:aj M H)(_:aJ W0 M H Q λM' _ v=>ib ad M' [] (.group false fs) v (dS gs fs))
inductive Et:Prop
 |mk(sv ov t fs)(x:Ob)(M)(_:vs=[sv,ov])(_:40<=k)(_:c6 ad M sv t fs)(_:cz ad M ov x.1 x.2.1 (kindAt x.2.1 (.group false fs)) x.2.2)(_:x.2.1≠[])(_:x.2.1.length<=12)(_:f7 x.2.1 (.group false fs) x.2.2)(_:bS (.group false fs))(_:aj M H)(_:aJ W0 M H Q λM' _ v=>ar ad M' (.group false fs) v (eE x.2.1 (.group false fs) x.2.2))
inductive E9:Prop
 |mk(kv pv ov kd p o M)(_:vs=[kv,pv,ov])(_:20+p.length<=k)(_:ai ad M kd kv)(_:aQ kd=true)(_:bP M pv p)(_:p≠[])(_:p.length<=12)(_:bp (λv z=>ar ad M (kindAt p kd) v z) M ov o)(_:f7 p kd o)(_:bS kd)(_:aj M H)(_:aJ W0 M H Q λM' _ v=>ar ad M' kd v (eE p kd o))
inductive Eu:Prop
 |mk(l sv t u fs M)(_:vs=[l,sv])(_:34<=k)(_:bP M l t)(_:t.length<=5000)(_:c6 ad M sv u fs)(_:bS (.group false fs))(_:aj M H)(_:(∀x,eF fs t=U x->aJ W0 M H Q λM' _ v=>ar ad M' (.group false fs) v x))(_:(eF fs t=O->Fail ad W0 H E 11.0))
inductive E5:Prop
 |mk(a kv t s M kd)(_:vs=[.ref a,kv])(_:ai ad M kd kv)(_:aI kd)(_:cQ ad (8+4*aF kd) (λt=>aM kd t) (λM v x=>ar ad M kd v x) k a t s M H Q E)
inductive E3:Prop
 |mk(a kv t s M fs)(_:vs=[.ref a,kv])(_:ai ad M (.group false fs) kv)(_:aI (.group false fs))(_:cQ ad (7+4*aF (.group false fs)) (λt=>aM (.group false fs) t) (λM v x=>ar ad M (.group false fs) v x) k a t s M H Q E)
inductive EL:Prop
 |mk(a kv t s M fs)(_:vs=[.ref a,kv])(_:ai ad M (.group true fs) kv)(_:aI (.group true fs))(_:cQ ad (7+4*aF (.group true fs)) (λt=>aM (.group true fs) t) (λM v x=>ar ad M (.group true fs) v x) k a t s M H Q E)
inductive EO:Prop
 |mk(r a kv t s M fs ws)(_:vs=[.ref r,.ref a,kv])(_:6+4*aF (.group false fs)<=k)(_:ai ad M (.group false fs) kv)(_:aI (.group false fs))(_:bW M H r ws)(_:bq ad M fs ws (fs.list.map λ_=>[]))(_:Sc ad M H a t s)(_:aj M H)(_:(∀ss s',bD (aD fs) (s.takeWhile Qa) (s.dropWhile Qa)=U (ss,s')->aJ (W2 a r) M H Q λM' H' v=>v=.ao/\Sc ad M' H' a t s'/\∃ws',bW M' H' r ws'/\bq ad M' fs ws' ss))(_:(bD (aD fs) (s.takeWhile Qa) (s.dropWhile Qa)=O->Fail ad (W2 a r) H E 11.0))
inductive EZ:Prop
 |mk(a kv t s M c fs)(_:vs=[.ref a,kv])(_:ai ad M (.group c fs) kv)(_:cQ ad 4 (j0 fs.list) kD k a t s M H Q E)
inductive EY:Prop
 |mk(a kv t s M kd)(_:vs=[.ref a,kv])(_:ai ad M kd kv)(_:aI kd)(_:cQ ad (9+4*aF kd) (aT (λt=>aM kd t) 44) (λM v xs=>bp (λv x=>ar ad M kd v x) M v xs) k a t s M H Q E)
inductive EH:Prop
 |mk(v sv t fs x M)(_:vs=[v,sv])(_:28<=k)(_:ar ad M (.group false fs) v x)(_:c6 ad M sv t fs)(_:aF (.group false fs)<=6)(_:(SD fs x).length<=15000000)(_:aj M H)(_:aJ W0 M H Q λM' _ v=>bP M' v (SD fs x))
inductive DY:Prop
 |mk(u ov x o M)(_:vs=[u,ov])(_:30<=k)(_:aE ad M x u)(_:bp (λv y=>ar ad M x.2 v y) M ov o)(_:o.length<=1000000)(_:aF x.2<=6)(_:(x.1.name++(58::Qd 44 (o.map λv=>P6 x.2 v))).length<=15000000)(_:aj M H)(_:aJ W0 M H Q λM' _ v=>bP M' v (x.1.name++(58::Qd 44 (o.map λv=>P6 x.2 v))))
inductive Fe:Prop
 |mk(v kv l kd x ts M)(_:vs=[v,kv,.ref l])(_:2+4*aF kd<=k)(_:ar ad M kd v x)(_:ai ad M kd kv)(_:bW M H l ts)(_:ts.length+(P6 kd x).length<=16000000)(_:aj M H)(_:aJ (W1 l) M H Q λM' H' v=>v=.ao/\bW M' H' l (ts++bv (P6 kd x)))
inductive Fd:Prop
 |mk(v kv l fs x ts M)(_:vs=[v,kv,.ref l])(_:1+4*aF (.group false fs)<=k)(_:ar ad M (.group false fs) v x)(_:ai ad M (.group false fs) kv)(_:bW M H l ts)(_:ts.length+(P6 (.group false fs) x).length<=16000000)(_:aj M H)(_:aJ (W1 l) M H Q λM' H' v=>v=.ao/\bW M' H' l (ts++bv (P6 (.group false fs) x)))
inductive Fb:Prop
 |mk(v kv l fs x ts M)(_:vs=[v,kv,.ref l])(_:1+4*aF (.group true fs)<=k)(_:ar ad M (.group true fs) v x)(_:ai ad M (.group true fs) kv)(_:bW M H l ts)(_:ts.length+(P6 (.group true fs) x).length<=16000000)(_:aj M H)(_:aJ (W1 l) M H Q λM' H' v=>v=.ao/\bW M' H' l (ts++bv (P6 (.group true fs) x)))
inductive Fc:Prop
 |mk(u ov l x o ts M)(_:vs=[u,ov,.ref l])(_:4+4*aF x.2<=k)(_:aE ad M x u)(_:bp (λv y=>ar ad M x.2 v y) M ov o)(_:bW M H l ts)(_:ts.length+(x.1.name++(58::Qd 44 (o.map λv=>P6 x.2 v))).length<=16000000)(_:aj M H)(_:aJ (W1 l) M H Q λM' H' v=>v=.ao/\bW M' H' l (ts++bv (x.1.name++(58::Qd 44 (o.map λv=>P6 x.2 v)))))
inductive Ew:Prop
 |mk(l t M)(_:vs=[l])(_:35<=k)(_:bP M l t)(_:t.length<=5000)(_:aj M H)(_:(∀fs,d6 t=U fs->aJ W0 M H Q λM' _ v=>c6 ad M' v t fs))(_:(d6 t=O->Fail ad W0 H E 11.0))
inductive DW:Prop
 |mk(kv kd M)(_:vs=[kv])(_:2+aF kd<=k)(_:ai ad M kd kv)(_:aI kd)(_:aj M H)(_:aJ W0 M H Q λ_ _ v=>v=.int (Q0 kd:Nat))
inductive ER:Prop
 |mk(a t s M d)(c:Bool)(_:vs=[.ref a,.int (d:Nat)])(_:1<=d)(_:d<=7)(_:(∃r,s=Q3 c::r))(_:cQ ad (9+4*(7-d)) (λt=>if 6<d then O else(aN (Q3 c) t).bind (de (bj (6-d)) c)) (λM v x=>ai ad M x v) k a t s M H Q E)
inductive DP:Prop
 |mk(l ns M)(_:vs=[.ref l])(_:1<=k)(_:M l=U (.lst (bv ns)))(_:ns.length<=100000)(_:aj M H)(_:(c8 ns=true->Q .ao H))(_:(c8 ns=false->E (.ref (ad 11.0)) O H))
inductive DO:Prop
 |mk(l ps M)(ts:List Qv)(_:vs=[.ref l])(_:1<=k)(_:M l=U (.lst (ps.map V.ref)))(_:Paired (λb t=>M b=U (.tup (bv t))) ps ts)(_:ts.length<=1000)(_:aj M H)(_:(ts.Nodup->Q .ao H))(_:(¬ts.Nodup->E (.ref (ad 11.0)) O H))
inductive EN:Prop
 |mk(a t s M d)(c:Bool)(_:vs=[.ref a,.int (Q3 c:Nat),.int (d:Nat)])(_:1<=d)(_:d<=6)(_:cQ ad (8+4*(7-d)) (d0 (bj (6-d)) c) (λM v x=>aE ad M x v) k a t s M H Q E)
inductive EX:Prop
 |mk(a t s M)(lo hi:Nat)(_:vs=[.ref a,.int (lo:Nat),.int (hi:Nat)])(_:cQ ad 4 (cN lo hi) kD k a t s M H Q E)
inductive EV:Prop
 |mk(a t s M)(_:vs=[.ref a])(_:cQ ad 4 fY ej k a t s M H Q E)
inductive EU:Prop
 |mk(a t s M)(_:vs=[.ref a])(_:cQ ad 3 jm (λ_ v m=>v=.int (br m)) k a t s M H Q E)
inductive ES:Prop
 |mk(a t s M d)(_:vs=[.ref a,.int (d:Nat)])(_:2<=d)(_:d<=7)(_:cQ ad (10+4*(7-d)) (bj (7-d)) (λM v x=>ai ad M x v) k a t s M H Q E)
inductive DN:Prop
 |mk(m kv kd M)(c:Bool)(_:vs=[.int (br m),kv,.int (Q3 c:Nat)])(_:3<=k)(_:ai ad M kd kv)(_:aI kd)(_:aj M H)(_:(fP c m kd=false->Q .ao H))(_:(fP c m kd=true->E (.ref (ad 11.0)) O H))
inductive Eb:Prop
 |mk(kv kd M)(_:vs=[kv])(_:2<=k)(_:ai ad M kd kv)(_:aI kd)(_:aj M H)(_:Q (.bl (QI kd).isSome) H)
inductive DM:Prop
 |mk(m kv kd M)(c:Bool)(_:vs=[.int (br m),kv,.int (Q3 c:Nat)])(_:2<=k)(_:ai ad M kd kv)(_:aj M H)(_:((c=false/\m=.one/\aQ kd=false)->Q .ao H))(_:(¬(c=false/\m=.one/\aQ kd=false)->E (.ref (ad 11.0)) O H))
inductive Ez:Prop
 |mk(v wv x y l M)(_:vs=[v,wv])(_:32<=k)(_:nJ ad M wv (y::l))(_:ar ad M (.group false y.2) v x)(_:aU (.group false y.2) x)(_:aj M H)(_:(∀z,QX ((y::l).map (·.2)) x=U z->aJ W0 M H Q λM' _ v=>ar ad M' (.group false ((y::l).getLast (by simp)).2) v z))(_:(QX ((y::l).map (·.2)) x=O->Fail ad W0 H E 11.6))
inductive Eg:Prop
 |mk(wv l M)(_:vs=[wv])(_:66<=k)(_:nJ ad M wv l)(_:l≠[])(_:aj M H)(_:aJ W0 M H Q λ_ _ v=>v=.bl (jB l))
inductive Ek:Prop
 |mk(ov bw nv old mid new M)(_:vs=[ov,bw,nv])(_:40+4*aF new<=k)(_:ai ad M old ov)(_:ai ad M mid bw)(_:ai ad M new nv)(_:bS old)(_:bS mid)(_:bS new)(_:eS mid)(_:eS new)(_:aj M H)(_:aJ W0 M H Q λ_ _ v=>v=.bl (QZ new mid old))
inductive DQ:Prop
 |mk(ov bw nv fs gs hs M)(_:vs=[ov,bw,nv])(_:39+4*aF (.group true hs)<=k)(_:ai ad M (.group true fs) ov)(_:ai ad M (.group true gs) bw)(_:ai ad M (.group true hs) nv)(_:bS (.group true fs))(_:bS (.group true gs))(_:bS (.group true hs))(_:eS (.group true gs))(_:eS (.group true hs))(_:aj M H)(_:aJ W0 M H Q λ_ _ v=>v=.bl (QZ (.group true hs) (.group true gs) (.group true fs)))
inductive EG:Prop
 |mk(ov bw nv fs gs hs M)(_:vs=[ov,bw,nv])(_:39+4*aF (.group false hs)<=k)(_:ai ad M (.group false fs) ov)(_:ai ad M (.group false gs) bw)(_:ai ad M (.group false hs) nv)(_:bS (.group false fs))(_:bS (.group false gs))(_:bS (.group false hs))(_:eS (.group false gs))(_:eS (.group false hs))(_:aj M H)(_:aJ W0 M H Q λ_ _ v=>v=.bl (S5 hs gs fs))
inductive DZ:Prop
 |mk(ov bw nv x y z M)(_:vs=[ov,bw,nv])(_:42+4*aF z.2<=k)(_:iR (λu x=>aE ad M x u) ov x)(_:iR (λu x=>aE ad M x u) bw y)(_:aE ad M z nv)(_:(∀w,x=U w->dD false w/\aF w.2<=6))(_:(∀w,y=U w->dD false w/\aF w.2<=6/\gJ w))(_:dD false z)(_:aF z.2<=6)(_:gJ z)(_:aj M H)(_:aJ W0 M H Q λ_ _ v=>v=.bl (match(generalizing:=false) x,y with|some x,U y=>QZ z.2 y.2 x.2|some _,O=>false|none,U y=>TN z.1 z.2 y.1 y.2|none,O=>true))
inductive D3:Prop
 |mk(bw nv y z M)(_:vs=[bw,nv])(_:38<=k)(_:aE ad M y bw)(_:aE ad M z nv)(_:dD false y)(_:aF y.2<=6)(_:dD false z)(_:aF z.2<=6)(_:gJ y)(_:gJ z)(_:aj M H)(_:aJ W0 M H Q λ_ _ v=>v=.bl (TN z.1 z.2 y.1 y.2))
end
section
variable(ad:F->P2)
@[reducible] def lJ:F->Nat->Sp|0.3,k=>λvs H Q _=>Fn ad k vs H Q|4.6,k=>λvs H Q _=>D6 ad k vs H Q|4.5,k=>λvs H Q _=>DU ad k vs H Q|4.4,k=>λvs H Q _=>DT ad k vs H Q|4.7,k=>λvs H Q _=>DR ad k vs H Q|4.8,k=>λvs H Q _=>DV ad k vs H Q|4.9,k=>λvs H Q _=>Er ad k vs H Q|4.10,k=>λvs H Q _=>DS ad k vs H Q|4.11,k=>λvs H Q _=>Ei ad k vs H Q|4.12,k=>λvs H Q _=>E8 ad k vs H Q|4.3,k=>λvs H Q _=>D7 ad k vs H Q|5.0,k=>λvs H Q _=>Et ad k vs H Q|5.1,k=>λvs H Q _=>E9 ad k vs H Q|5.2,k=>Eu ad k|5.3,k=>E5 ad k|5.4,k=>E3 ad k|5.8,k=>EL ad k|5.5,k=>EO ad k|5.6,k=>EZ ad k|5.7,k=>EY ad k|5.9,k=>λvs H Q _=>EH ad k vs H Q|5.10,k=>λvs H Q _=>DY ad k vs H Q|5.11,k=>λvs H Q _=>Fe ad k vs H Q|5.12,k=>λvs H Q _=>Fd ad k vs H Q|6.1,k=>λvs H Q _=>Fb ad k vs H Q|6.0,k=>λvs H Q _=>Fc ad k vs H Q|6.5,k=>Ew ad k|6.6,k=>λvs H Q _=>DW ad k vs H Q|6.7,k=>ER ad k|6.8,k=>DP ad k|6.9,k=>DO ad k|6.10,k=>EN ad k|6.11,k=>EX ad k|6.12,k=>EV ad k|7.0,k=>EU ad k|7.1,k=>ES ad k|7.2,k=>DN ad k|7.3,k=>λvs H Q _=>Eb ad k vs H Q|7.4,k=>DM ad k|7.5,k=>Ez ad k|7.6,k=>λvs H Q _=>Eg ad k vs H Q|7.7,k=>λvs H Q _=>Ek ad k vs H Q|7.8,k=>λvs H Q _=>DQ ad k vs H Q|7.9,k=>λvs H Q _=>EG ad k vs H Q|7.10,k=>λvs H Q _=>DZ ad k vs H Q|7.11,k=>λvs H Q _=>D3 ad k vs H Q|f,k=>pS ad f k
end
structure CA where
 c:P2
 ls:P2
 lr:P2
 ks:List P2
structure KR where
 v:Nat
 t:Qv
 x:Sk
 r:Nat
 y:Sk
def WC(A:CA):P2->Prop:=λb=>b=A.c\/b=A.ls\/b=A.lr\/b∈A.ks
noncomputable def ax(st:List TF):List Qh:=st.map λx=>x.2
structure ku(st:List TF)(krs:List KR):Prop where
 d5:∀x∈st,d6 x.1=U x.2
 oX:st.length<=16
 row:∀k∈krs,k.v<=k.r/\(∃z,st[k.v]?=U z/\eF z.2 k.t=U k.x)/\(∃w,st[k.r]?=U w/\aU (.group false w.2) k.y)/\∀gs,QX ((ax st++gs).drop k.v) k.x=QX ((ax st++gs).drop k.r) k.y
 oW:krs.length<=100
noncomputable def aL(st:List TF)(a:List KR):Yl:={versions:=ax st,rows:=a.map λk=>(k.v,k.x)}
def qx(M:Hp)(a:V):Option Qv->Prop|none=>a=.ao|some u=>bP M a u
noncomputable def cx:Option Qv->List Int|none=>[]|some u=>(u.length:Int)::u.map λ(c:Nat)=>(c:Int)
section
variable(ad:F->P2)
def lZ(M H:Hp)(st:List TF)(a:P2)(b:KR):Prop:=M a=O/\∃e c d w,H a=U (.ins (ad 10.7) e [('>',.int (b.v:Nat)),('.',c),('@',.int (b.r:Nat)),('9',d)])/\bP M c b.t/\st[b.r]?=U w/\ar ad M (.group false w.2) d b.y
structure bx(M H:Hp)(A:CA)(st:List TF)(krs:List KR):Prop where
 mc:M A.c=O
 ml:M A.ls=O
 mr:M A.lr=O
 ne:A.ls≠A.lr
 hc:∃dx,H A.c=U (.ins (ad 10.6) dx [('0',.ref A.ls),('?',.ref A.lr)])
 hl:∃us,H A.ls=U (.lst us)/\Paired (λu(x:TF)=>c6 ad M u x.1 x.2) us st
 hr:H A.lr=U (.lst (A.ks.map V.ref))
 hk:Paired (λa kr=>lZ ad M H st a kr) A.ks krs
 nd:A.ks.Nodup
 ok:ku st krs
def fK(M:Hp)(v:V)(n:Nat)(xs:List Int)(t:Option Qv):Prop:=∃a d b c,v=.ref a/\M a=U (.ins (ad 10.8) d [('(',.int (n:Nat)),('1',.ref b),('.',c)])/\M b=U (.lst<|xs.map V.int)/\qx M c t
end
def gz(H a:Hp)(v:V)(ns:List Int):Prop:=∃b,v=.ref b/\H b=O/\a b=U (.lst<|ns.map V.int)
def uZ(H:Hp)(v:V)(ns:List Int):Prop:=∃b,v=.ref b/\H b=U (.lst<|ns.map V.int)
inductive CI:Nat->List Int->Option Qv->RR->Prop
 |a0 t:CI 0 [] (U t) (.begin t)
 |a1 t:CI 1 [] (U t) (.step t)
 |a2 t:CI 2 [] (U t) (.why t)
 |a3:CI 3 [] O .versions
 |a4 i:CI 4 [i] O (.show i)
 |a5 i j:CI 5 [i,j] O (.compare i j)
 |a6 i j t:CI 6 [i,j] (U t) (.read i j t)
 |a7 i j t:CI 7 [i,j] (U t) (.through i j t)
 |a8 i j:CI 8 [i,j] O (.straight i j)
 |a9 t:CI 9 [] (U t) (.put t)
 |vk:CI 10 [] O .rows
 |vm i:CI 11 [i] O (.row i)
 |vn i:CI 12 [i] O (.origin i)
 |vo i:CI 13 [i] O (.drop i)
noncomputable def rK:F->Option Int|11.0=>U (-1)|11.1=>U (-2)|11.2=>U (-3)|11.3=>U (-3)|11.4=>U (-4)|11.5=>U (-5)|11.6=>U (-6)|_=>O
def Dr(H:Hp)(e:F)(a:Option P2)(n:Int):Prop:=(a=O/\rK e=U n)\/(e=11.7/\∃d z,a=U d/\H d=U (.xd [('(',.int z)])/\n=-10-z)
def textOk:RR->Prop|.begin t=>t.length<=5000|.step t=>t.length<=5000|.why t=>t.length<=5000|.read _ _ t=>t.length<=5000|.through _ _ t=>t.length<=5000|.put t=>t.length<=5000|_=>True
noncomputable abbrev bY(a:XZ):List Int:=S0 a
section
variable(K:PY)(ad:F->P2)
def jI(A:CA)(st:List TF)(h:List KR)(i:RR)(M H:Hp)(Q:VK):Prop:=∀v d a c e f g,Go (WC A) M H d a->(∀b,WC c b->WC A b\/H b=O)->c.c=A.c->bx ad d a c e f->
 QU (aL st h) i=(aL e f,g)->gz H a v (bY g)->Q v a
def kA(A:CA)(st:List TF)(b:List KR)(f:RR)(M H:Hp)(E:XK):Prop:=∀e c n d a,Go (WC A) M H d a->bx ad d a A st b->
 QU (aL st b) f=(aL st b,.refused n)->Dr a e c n->E (.ref<|ad e) c a
def Short(st:List TF)(a:List KR)(b:RR):Prop:=(bY (QU (aL st a) b).2).length<=10000000
inductive d8(n:Nat)(rank k:Nat)(vs:List V)(H:Hp)(Q:VK)(E:XK):Prop
 |mk(A cv M st krs kc xs t)(_:vs=[.ref A.c,cv])(_:rank<=k)(_:bx ad M H A st krs)(_:fK ad M cv n xs t)(_:CI n xs t kc)(_:(∀u,t=U u->u.length<=5000))(_:aj M H)(_:(n≠0->st≠[]))(_:Short st krs kc)(_:jI ad A st krs kc M H Q)(_:kA ad A st krs kc M H E)
noncomputable def callsOf:Nat->List Int->Option (List RR)|_,[]=>U []|0,_::_=>O|f+1,p::r=>(Tn RE (p::r)).bind λx=>(TR<|Sl x.1).bind λc=>(callsOf f x.2).map λa=>c::a
noncomputable def eW:Yl->List RR->List (List Int)|_,[]=>[]|s,c::r=>bY (QU s c).2::eW (QU s c).1 r
end
section
variable(K:PY)(ad:F->P2)(k:Nat)(vs:List V)(H:Hp)(Q:VK)(E:XK)
inductive Fg:Prop
 |mk(a dx)(_:vs=[.ref a])(_:1<=k)(_:H a=U (.ins (ad 10.6) dx []))(_:∀p q,H p=O->H q=O->q≠p->Q .ao (upd (upd (upd H p (.lst [])) q (.lst [])) a (.ins (ad 10.6) dx [('0',.ref p),('?',.ref q)])))
inductive Fs:Prop
 |mk(c dx ls lr us)(_:vs=[.ref c])(_:1<=k)(_:H c=U (.ins (ad 10.6) dx [('0',.ref ls),('?',.ref lr)]))(_:H ls=U (.lst us))(_:Q (.int ((us.length:Int)-1)) H)
inductive Fq:Prop
 |mk(c dx ls lr us u)(_:vs=[.ref c])(_:2<=k)(_:H c=U (.ins (ad 10.6) dx [('0',.ref ls),('?',.ref lr)]))(_:H ls=U (.lst (us++[u])))(_:Q u H)
inductive Fu:Prop
 |mk(c dx ls lr us)(i:Int)(_:vs=[.ref c,.int i])(_:1<=k)(_:H c=U (.ins (ad 10.6) dx [('0',.ref ls),('?',.ref lr)]))(_:H ls=U (.lst us))(_:(∀u,Vacolb.at? us i=U u->Q u H))(_:(Vacolb.at? us i=O->E (.ref (ad 11.2)) O H))
inductive Fv:Prop
 |mk(c dx ls lr us)(i j:Int)(_:vs=[.ref c,.int i,.int j])(_:2<=k)(_:H c=U (.ins (ad 10.6) dx [('0',.ref ls),('?',.ref lr)]))(_:H ls=U (.lst us))(_:((Vacolb.at? us i).isSome=true->(Vacolb.at? us j).isSome=true->i<=j->∀l,H l=O->Q (.ref l) (upd H l (.lst ((us.take (j.toNat+1)).drop i.toNat)))))(_:(((Vacolb.at? us i).isSome=true->(Vacolb.at? us j).isSome=true->j<i)->E (.ref (ad 11.2)) O H))
inductive Ft:Prop
 |mk(c dx ls lr us)(i:Int)(_:vs=[.ref c,.int i])(_:1<=k)(_:H c=U (.ins (ad 10.6) dx [('0',.ref ls),('?',.ref lr)]))(_:H lr=U (.lst us))(_:(∀u,Vacolb.at? us i=U u->Q u H))(_:(Vacolb.at? us i=O->E (.ref (ad 11.3)) O H))
inductive Fi:Prop
 |mk(a dx v t y)(_:vs=[.ref a,v,t,y])(_:1<=k)(_:H a=U (.ins (ad 10.7) dx []))(_:Q .ao (upd H a (.ins (ad 10.7) dx [('>',v),('.',t),('@',v),('9',y)])))
inductive Fw:Prop
 |mk(A M st krs a kr)(j:Nat)(_:vs=[.ref a,.ref A.c])(_:34<=k)(_:bx ad M H A st krs)(_:aj M H)(_:A.ks[j]?=U a)(_:krs[j]?=U kr)(_:(∀z,QX ((ax st).drop kr.r) kr.y=U z->∀M' H',Go (WC A) M H M' H'->bx ad M' H' A st (krs.set j {kr with r:=st.length-1,y:=z})->Q .ao H'))(_:(QX ((ax st).drop kr.r) kr.y=O->Fail ad W0 H E 11.6))
inductive Ff:Prop
 |mk(a dx v w z)(_:vs=[.ref a,v,w,z])(_:1<=k)(_:H a=U (.ins (ad 10.8) dx []))(_:Q .ao (upd H a (.ins (ad 10.8) dx [('(',v),('1',w),('.',z)])))
inductive E7:Prop
 |mk(sv tv t fs u gs M)(_:vs=[sv,tv])(_:50<=k)(_:c6 ad M sv t fs)(_:c6 ad M tv u gs)(_:bS (.group false fs))(_:bS (.group false gs))(_:aj M H)(_:(bY (UC fs (RS gs fs))).length<=10000000)(_:aJ W0 M H Q λ_ H' v=>gz H H' v (bY (UC fs (RS gs fs))))
inductive DX:Prop
 |mk(l M)(t:Qv)(_:vs=[.ref l])(_:1<=k)(_:H l=U (.lst (bv t)))(_:t.length<=15000000)(_:aj M H)(_:aJ W0 M H Q λ_ H' v=>gz H H' v (RM t))
inductive DL:Prop
 |mk(l)(ns:List Int)(M)(p n:Nat)(xs:List Int)(t:Option Qv)(rest:List Int)(kc:RR)(_:vs=[.ref l,.int (p:Nat)])(_:3<=k)(_:af K H l (ns.map V.int))(_:ns.length<=16000)(_:aj M H)(_:CI n xs t kc)(_:ns.drop p=(n:Int)::(xs++(cx t++rest)))(_:aJ W0 M H Q λM' _ v=>fK ad M' v n xs t)
inductive Ep:Prop
 |mk(v n xs t M)(_:vs=[v])(_:1<=k)(_:fK ad M v n xs t)(_:aj M H)(_:Q (.int ((1+(xs.length+(cx t).length):Nat):Int)) H)
inductive DI:Prop
 |mk(A cv M st krs kc n xs t)(_:vs=[.ref A.c,cv])(_:71<=k)(_:bx ad M H A st krs)(_:fK ad M cv n xs t)(_:CI n xs t kc)(_:(∀u,t=U u->u.length<=5000))(_:aj M H)(_:Short st krs kc)(_:jI ad A st krs kc M H Q)(_:kA ad A st krs kc M H E)
inductive DJ:Prop
 |mk(A cv M st krs kc n xs t)(_:vs=[.ref A.c,cv])(_:72<=k)(_:bx ad M H A st krs)(_:fK ad M cv n xs t)(_:CI n xs t kc)(_:(∀u,t=U u->u.length<=5000))(_:aj M H)(_:Short st krs kc)(_:jI ad A st krs kc M H Q)
inductive DK:Prop
 |mk(l)(ns:List Int)(cs M)(_:vs=[.ref l])(_:74<=k)(_:af K H l (ns.map V.int))(_:ns.length<=16000)(_:callsOf ns.length ns=U cs)(_:(∀c∈cs,textOk c))(_:(SU (eW Ve cs)).length<=10000000)(_:aj M H)(_:∀v H',uZ H' v (SU (eW Ve cs))->Q v H')
end
section
variable(K:PY)(ad:F->P2)
@[reducible] def cw:F->Nat->Sp|0.0,k=>ng (ad 11.7) k|0.7,k=>λvs H Q _=>Fg ad k vs H Q|2.6,k=>λvs H Q _=>Fs ad k vs H Q|2.7,k=>λvs H Q _=>Fq ad k vs H Q|2.8,k=>Fu ad k|2.9,k=>Fv ad k|2.10,k=>Ft ad k|0.8,k=>λvs H Q _=>Fi ad k vs H Q|2.11,k=>Fw ad k|0.9,k=>λvs H Q _=>Ff ad k vs H Q|7.12,k=>d8 ad 0 70 k|8.0,k=>d8 ad 1 70 k|8.1,k=>d8 ad 2 70 k|8.2,k=>d8 ad 3 70 k|8.3,k=>d8 ad 4 70 k|8.4,k=>d8 ad 5 70 k|8.5,k=>d8 ad 6 70 k|8.6,k=>d8 ad 7 70 k|8.7,k=>d8 ad 8 70 k|8.8,k=>d8 ad 9 70 k|8.9,k=>d8 ad 10 70 k|8.10,k=>d8 ad 11 70 k|8.11,k=>d8 ad 12 70 k|8.12,k=>d8 ad 13 70 k|9.0,k=>λvs H Q _=>E7 ad k vs H Q|9.1,k=>λvs H Q _=>DX k vs H Q|9.3,k=>λvs H Q _=>DL K ad k vs H Q|9.4,k=>λvs H Q _=>Ep ad k vs H Q|9.6,k=>DI ad k|9.5,k=>λvs H Q _=>DJ ad k vs H Q|9.2,k=>λvs H Q _=>DK K k vs H Q|f,k=>lJ ad f k
end
section
variable{F:Type}
@[reducible] def oV:Option V->(V->Prop)->Prop|some v,k=>k v|none,_=>False
@[reducible] noncomputable def ph:List (Option V)->Nat->(V->Prop)->Prop|[],_,_=>False|a::_,0,k=>oV a k|_::r,i+1,k=>ph r i k
@[reducible] noncomputable def put:List (Option V)->Nat->V->List (Option V)|[],_,_=>[]|_::r,0,v=>U v::r|a::r,i+1,v=>a::put r i v
@[reducible] noncomputable def sm:List V->List (Option V)|[]=>[]|v::a=>U v::sm a
@[reducible] noncomputable def fill:List QQ->List V->List (Option V)|[],a=>sm a|_::r,[]=>O::fill r []|_::r,v::a=>U v::fill r a
@[reducible] def kP:V->(V->Prop)->Prop|.int i,k=>k<|.int i|.ref a,k=>k<|.ref a|v,k=>k v
inductive nM(Γ:aO F)(f:QQ)(Q:VK)(x:V)(H:Hp):Prop|mk (v:V) (_:aY Γ H x f v) (_:Q v H)
inductive qO(Q:VK)(x:V)(H:Hp):Prop|mk (i:Int) (_:x=.int i) (_:Q (.int (-i)) H)
inductive XB(x:V)(P:Bool->Prop):Prop|mk (c:Bool) (_:x=.bl c) (_:P c)
inductive qL(Γ:aO F)(σ:St)(i:Nat)(P:F->Prop):Prop|mk (f:F) (a:P2) (_:σ[i]?=U (U (.ref a))) (_:Γ.fa f=U a) (_:P f)
inductive vf(C:P2)(name:QQ)(x:V)(H:Hp)(P:Prop):Prop|mk (a dx:P2) (fs:List (QQ×V)) (_:x=.ref a) (_:H a=U (.ins C dx fs)) (_:fs.lookup name=O) (_:P)
inductive qM(K:PY)(Q:VK)(x:V)(H:Hp):Prop|mk (p:P2) (xs:List V) (_:x=.ref p) (_:af K H p xs\/aR K H p xs) (_:Q (.int xs.length) H)
inductive qR(K:PY)(Q:VK)(x:V)(H:Hp):Prop|mk (p:P2) (xs:List V) (_:x=.ref p) (_:af K H p xs) (_:∀l,H l=O->Q (.ref l) (upd H l (.tup xs)))
inductive qQ(K:PY)(Q:VK)(x:V)(H:Hp):Prop|mk (p:P2) (ns:List Int) (_:x=.ref p) (_:af K H p (ns.map V.int)) (_:Q (.int ns.sum) H)
inductive qN(K:PY)(Q:VK)(x:V)(H:Hp):Prop|mk (p:P2) (bs:List P2) (ks:List (List Key)) (_:x=.ref p) (_:af K H p (bs.map V.ref)) (_:Paired (λb k=>H b=U (.tup (k.map kV))) bs ks) (_:ks.length<=1000) (_:Q (.int ks.eraseDups.length) H)
inductive XL(K:PY)(x:V)(H:Hp)(P:P2->Prop):Prop|mk (l:P2) (_:x=.ref l) (_:∃ys,af K H l ys) (_:P l)
inductive u6(l:P2)(Q:VK)(y:V)(H:Hp):Prop|mk (xs:List V) (_:H l=U (.lst xs)) (_:xs.length<Qq) (_:Q .ao (upd H l (.lst (xs++[y]))))
inductive u9(l:P2)(Q:VK)(y:V)(H:Hp):Prop|mk (b:P2) (xs zs:List V) (_:y=.ref b) (_:H l=U (.lst xs)) (_:H b=U (.lst zs)\/H b=U (.tup zs)) (_:xs.length+zs.length<=Qq) (_:Q .ao (upd H l (.lst (xs++zs))))
inductive vg(l:P2)(Q:VK)(y:V)(H:Hp):Prop|mk (k:Nat) (xs:List V) (z:V) (_:y=.int k) (_:H l=U (.lst xs)) (_:xs[k]?=U z) (_:Q z (upd H l (.lst (xs.eraseIdx k))))
inductive ve(K:PY)(Q:VK)(x y:V)(H:Hp):Prop|mk (p:P2) (i:Int) (xs:List V) (v:V) (_:x=.ref p) (_:y=.int i) (_:af K H p xs\/aR K H p xs) (_:fO xs i=U v) (_:Q v H)
inductive vj(K:PY)(Q:VK)(x:V)(l u:Option Int)(H:Hp):Prop|mk (a:P2) (xs:List V) (_:x=.ref a) (_:af K H a xs) (_:∀p,H p=O->Q (.ref p) (upd H p (.lst (fS xs l u))))
inductive XI(P:Int->Prop)(x:V):Prop|mk (i:Int) (_:x=.int i) (_:P i)
inductive qP(o:List V->HO)(Q:VK)(xs:List V)(H:Hp):Prop|mk (_:xs.length<=Qq) (_:∀p,H p=O->Q (.ref p) (upd H p (o xs)))
inductive vd(K:PY)(a b:P2)(H:Hp)(Q:VK):Prop|mk (ns ms:List Int) (_:aR K H a (ns.map V.int)) (_:aR K H b (ms.map V.int)) (_:Q (.bl (!lexLt ns ms)) H)
inductive u7(K:PY)(a b:P2)(H:Hp)(Q:VK):Prop|mk (ns ms:List Int) (_:af K H a (ns.map V.int)) (_:af K H b (ms.map V.int)) (_:Q (.bl (decide (ns=ms))) H)
inductive vc(Γ:aO F)(f:QQ)(y:V)(N:Hp->Prop)(x:V)(H:Hp):Prop|mk (a C dx:P2) (fs:List (QQ×V)) (_:x=.ref a) (_:H a=U (.ins C dx fs)) (_:Γ.fo C f) (_:fs.length<1000) (_:N (upd H a (.ins C dx (bb f y fs))))
inductive qK(σ:St)(i:Nat)(P:V->Prop):Prop|mk (x:V) (_:σ[i]?=U (U x)) (_:P x)
inductive u5(x:V)(P:Int->Prop)(y:V):Prop|mk (i j:Int) (_:x=.int i) (_:y=.int j) (_:P (i+j))
inductive va(Γ:aO F)(f:QQ)(x:V)(H:Hp)(P:P2->P2->V->Prop):Prop|mk (a C dx:P2) (fs:List (QQ×V)) (v:V) (_:x=.ref a) (_:H a=U (.ins C dx fs)) (_:Γ.fo C f) (_:fs.lookup f=U v) (_:P a C v)
inductive vb(f:QQ)(a C:P2)(N:Hp->Prop)(z:V)(H:Hp):Prop|mk (dx':P2) (fs':List (QQ×V)) (_:H a=U (.ins C dx' fs')) (_:fs'.length<1000) (_:N (upd H a (.ins C dx' (bb f z fs'))))
inductive vh(P:Prop)(g:V->Prop)(vs:List V):Prop|mk (v:V) (_:vs=[v]) (_:P) (_:g v)
inductive X2(P Q:Prop):Prop|mk (_:P) (_:Q)
@[reducible] def C6:BO->R2
 |.add=>λx y H Q=>match x,y with
  |.int i,.int j=>Q (.int<|i+j) H
  |.ref l,.ref b=>pB (.ref l) (.ref b) H Q
  |_,_=>False
 |.sub=>λx y H Q=>match x,y with
  |.int i,.int j=>Q (.int<|i-j) H
  |_,_=>False
 |.mul=>λx y H Q=>match x,y with
  |.int i,.int j=>lQ i j/\Q (.int<|i*j) H
  |.ref l,.int k=>tu (.ref l) (.int k) H Q
  |_,_=>False
@[reducible] def uA(g:Int->Int->Bool):R2:=λx y H Q=>match x,y with|.int i,.int j=>Q (.bl<|g i j) H|_,_=>False
@[reducible] def uw(K:PY):R2:=λx y H Q=>match x,y with|.int i,.int j=>Q (.bl<|decide (j<=i)) H|.ref a,.ref b=>vd K a b H Q|_,_=>False
@[reducible] def C8(K:PY):R2:=λx y H Q=>match x,y with|.ref a,.ref b=>u7 K a b H Q|x,y=>m7 x y=true/\Q (.bl<|decide (x=y)) H
@[reducible] def qg(K:PY):CO->R2|.lt=>uA λi j=>decide (i<j)|.le=>uA λi j=>decide (i<=j)|.gt=>uA λi j=>decide (j<i)|.ge=>uw K|.eq=>C8 K|.ne=>λx y H Q=>m7 x y=true/\Q (.bl<|!decide (x=y)) H|.n9=>ju K false|.pf=>ju K true
@[reducible] def kn(Q:Bool->Hp->Prop)(x:V)(H:Hp):Prop:=match x with|.bl k=>Q k H|_=>False
@[reducible] def oq(A B:Hp->Prop)(c:Bool)(H:Hp):Prop:=if c=true then A H else B H
@[reducible] noncomputable def sq(D:Ends)(n:St->Hp->Prop):Ends:={D with lk:=n}
@[reducible] noncomputable def D0(Q:VK):Ends:={lk:=λ_ a=>Q .ao a,rt:=Q}
@[reducible] noncomputable def gj:eK F->eK F|.cons _ r=>r|s=>s
mutual
@[reducible] noncomputable def aA(Γ:aO F)(E:XK):Ex F->TE
 |.var i=>λσ H Q=>ph σ i λv=>Q v H|.con v=>λ_ H Q=>Q v H|.glob g=>λ_ H Q=>kP (Γ.gv g) λv=>Q v H|.fld e f=>λσ H Q=>aA Γ E e σ H<|nM Γ f Q|.bin c a b=>λσ H Q=>aA Γ E a σ H λx g=>aA Γ E b σ g λy j=>C6 c x y j Q|.neg a=>λσ H Q=>aA Γ E a σ H<|qO Q|.cmp c=>qh Γ E c|.l4 a b=>λσ H Q=>aA Γ E a σ H λx g=>XB x λc=>if c=true then aA Γ E b σ g Q else Q (.bl false) g|.mS a b=>λσ H Q=>aA Γ E a σ H λx g=>XB x λc=>if c=true then Q (.bl true) g else aA Γ E b σ g Q|.mL a=>λσ H Q=>aA Γ E a σ H λx g=>XB x λc=>Q (.bl<|!c) g|.mx t a b=>λσ H Q=>bG Γ E t σ H<|oq (λg=>aA Γ E a σ g Q) λg=>aA Γ E b σ g Q|.call f c=>λσ H Q=>eI Γ E c σ H λd g=>Γ.fn f d g Q E|.kJ i c=>λσ H Q=>qL Γ σ i λf=>eI Γ E c σ H λd g=>Γ.fn f d g Q E|.eU o m h c=>λσ H Q=>aA Γ E o σ H λx g=>vf (Γ.me m).1 h x g<|eI Γ E c σ g λd j=>(Γ.me m).2 (x::d) j Q E|.len a=>λσ H Q=>aA Γ E a σ H<|qM Γ.K Q|.tupleOf a=>λσ H Q=>aA Γ E a σ H<|qR Γ.K Q|.dictOf a=>λσ H Q=>aA Γ E a σ H λx g=>∃(p:P2)(ps:List P2),x=.ref p/\af Γ.K g p (ps.map V.ref)/\
   ((∃h:List<|Key×V,Paired (λq k=>aR Γ.K g q [kV k.1,k.2]) ps h/\h.length<=1000/\∀d,g d=O->Q (.ref d) (upd g d<|.dK<|eT [] h))\/
    (∃h:List<|List Key×V,Paired (λq k=>∃b,aR Γ.K g q [.ref b,k.2]/\g b=U (.tup<|k.1.map kV)) ps h/\h.length<=1000/\(h.map (·.1)).Nodup/\∀d,g d=O->Q (.ref d) (upd g d<|.dT h)))
 |.lx a=>λσ H Q=>aA Γ E a σ H λx g=>tq x g Q|.strOf a=>λσ H Q=>aA Γ E a σ H λx g=>tD x g Q|.sumOf a=>λσ H Q=>aA Γ E a σ H<|qQ Γ.K Q|.k8 a=>λσ H Q=>aA Γ E a σ H<|qN Γ.K Q|.append o a=>λσ H Q=>aA Γ E o σ H λx g=>XL Γ.K x g λl=>aA Γ E a σ g<|u6 l Q|.extend o a=>λσ H Q=>aA Γ E o σ H λx g=>XL Γ.K x g λl=>aA Γ E a σ g<|u9 l Q|.lz o a=>λσ H Q=>aA Γ E o σ H λx g=>XL Γ.K x g λl=>aA Γ E a σ g<|vg l Q|.get o a=>gZ (aA Γ E o)<|aA Γ E a|.ix a b=>λσ H Q=>aA Γ E a σ H λx g=>aA Γ E b σ g<|ve Γ.K Q x|.sl a d h=>λσ H Q=>aA Γ E a σ H λx g=>uD Γ E d σ g λl j=>uD Γ E h σ j<|vj Γ.K Q x l|.lst c=>λσ H Q=>eI Γ E c σ H<|qP .lst Q|.tup c=>λσ H Q=>eI Γ E c σ H<|qP .tup Q|.lc e c d g=>eY (nA Γ E d) (gT Γ.K c) dH (aA Γ E e) g
@[reducible] noncomputable def uD(Γ:aO F)(E:XK):kB F->TO|.no=>λ_ H Q=>Q O H|.yes e=>λσ H Q=>aA Γ E e σ H λx a=>XI (λi=>Q (U i) a) x
@[reducible] noncomputable def eI(Γ:aO F)(E:XK):cy F->TA|.nil=>λ_ H Q=>Q [] H|.cons e r=>λσ H Q=>aA Γ E e σ H λx a=>eI Γ E r σ a λa b=>Q (x::a) b
@[reducible] noncomputable def qh(Γ:aO F)(E:XK):Cm F->TE|.rel c a b=>λσ H Q=>aA Γ E a σ H λx d=>aA Γ E b σ d λy e=>qg Γ.K c x y e Q|.my a=>λσ H Q=>aA Γ E a σ H λx d=>Q (.bl<|decide (x=.ao)) d|.mK a=>λσ H Q=>aA Γ E a σ H λx d=>Q (.bl<|!decide (x=.ao)) d|.mI a b=>lK (aA Γ E a)<|aA Γ E b|.chain o p a b c=>λσ H Q=>aA Γ E a σ H λx d=>aA Γ E b σ d λy e=>qg Γ.K o x y e λz d=>XB z λk=>if k=true then aA Γ E c σ d λc e=>qg Γ.K p y c e Q else Q (.bl false) d
@[reducible] noncomputable def bG(Γ:aO F)(E:XK):Ts F->TT|.val e=>λσ H Q=>aA Γ E e σ H<|kn Q|.cmp c=>λσ H Q=>qh Γ E c σ H<|kn Q|.and a b=>λσ H Q=>bG Γ E a σ H<|oq (λd=>bG Γ E b σ d Q)<|Q false|.or a b=>λσ H Q=>bG Γ E a σ H<|oq (Q true) λd=>bG Γ E b σ d Q|.not a=>λσ H Q=>bG Γ E a σ H λc d=>Q (!c) d
@[reducible] noncomputable def nA(Γ:aO F)(E:XK):iP F->TI|.list e=>gL Γ.K<|aA Γ E e|.range a b=>kR<|dG (aA Γ E a)<|dG (aA Γ E b) eZ|.lC a=>kQ<|dG (aA Γ E a) eZ|.enum e=>jR Γ.K<|dG (aA Γ E e) eZ|.zip a b=>kT Γ.K<|dG (aA Γ E a)<|dG (aA Γ E b) eZ|.str e=>kS<|aA Γ E e
end
mutual
@[reducible] noncomputable def uE(Γ:aO F)(E:XK):Sx F->TS|.set i e=>λD σ H=>aA Γ E e σ H λx g=>D.lk (put σ i x) g|.mv o f e=>λD σ H=>aA Γ E e σ H λy g=>aA Γ E o σ g<|vc Γ f y<|D.lk σ|.mC o i e=>λD σ H=>aA Γ E e σ H λv g=>aA Γ E o σ g λo c=>aA Γ E i σ c λi d=>pE o i v d λd=>D.lk σ d|.aug i e=>λD σ H=>qK σ i λx=>aA Γ E e σ H λy g=>u5 x (λz=>D.lk (put σ i<|.int z) g) y|.mm o f e=>λD σ H=>aA Γ E o σ H λx g=>va Γ f x g λa C v=>aA Γ E e σ g λy c=>pA v y c<|vb f a C<|D.lk σ|.drop e=>λD σ H=>aA Γ E e σ H λ_ g=>D.lk σ g|.ret e=>λD σ H=>aA Γ E e σ H D.rt|.m3=>λD _ H=>D.rt .ao H|.pass=>λD σ H=>D.lk σ H|.ite t a b=>λD σ H=>bG Γ E t σ H<|oq (cK Γ E a D σ)<|cK Γ E b D σ|.nD t b=>lL (bG Γ E t)<|cK Γ E b|.loop c d b=>gi (nA Γ E d) (gT Γ.K c)<|cK Γ E b|.j6 c d=>λ_ σ H=>eI Γ E d σ H λh g=>X2 (h.length<=Qq)<|E (.ref<|Γ.xc c) O g|.mX c d=>λ_ σ H=>eI Γ E d σ H λh g=>vh (Γ.xo c).2 (λv=>∀d,g d=O->E (.ref<|Γ.xc c) (U d) (upd g d<|.xd [((Γ.xo c).1,v)])) h|.kj e c=>λD σ H=>aA Γ (fB Γ D c) e σ H D.rt|.kl i e c=>λD σ H=>aA Γ (fB Γ D c) e σ H λv g=>D.lk (put σ i v) g
@[reducible] noncomputable def cK(Γ:aO F)(E:XK):eK F->TS|.nil=>λD σ H=>D.lk σ H|.cons s r=>λD σ H=>uE Γ E s (sq D<|cK Γ E r D) σ H
end
theorem sP:∀(σ:List (Option V))(i:Nat)(k:V->Prop),ph σ i k=match σ[i]? with|some (U v)=>k v|_=>False
 |[],_,_=>rfl
 |some _::_,0,_=>rfl
 |none::_,0,_=>rfl
 |_::r,i+1,k=>sP r i k
theorem px:∀(σ:List<|Option V)(i:Nat)(v:V),put σ i v=σ.set i (U v)|[],_,_=>rfl|_::_,0,_=>rfl|a::r,i+1,v=>congrArg (a::·)<|px r i v
theorem BY:∀vs:List V,sm vs=vs.map U|[]=>rfl|v::vs=>congrArg (U v::·)<|BY vs
theorem fill_eq:∀(N:List QQ)(vs:List V),fill N vs=start N vs|[],vs=>by rw[fill,BY];simp[start]|_::r,[]=>by rw[fill,fill_eq r []];simp[start,RH]|_::r,v::vs=>by rw[fill,fill_eq r vs];simp[start]
def mw(v:V)(k:V->Prop):kP v k=k v:=by induction v<;>rfl
section
variable{Γ:aO F}{K:PY}{f:QQ}{Q:VK}{x y:V}{H:Hp}{P:Prop}{l a b:P2}{N:Hp->Prop}{σ:St}{i:Nat}
def Po:nM Γ f Q x H=∃v,aY Γ H x f v/\Q v H:=propext #[λh=>by have#[a,b,c]:=h;exact#[a,b,c],λh=>by have#[a,b,c]:=h;exact#[a,b,c]]
def Px:qO Q x H=∃i,x=.int i/\Q (.int (-i)) H:=propext #[λh=>by have#[a,b,c]:=h;exact#[a,b,c],λh=>by have#[a,b,c]:=h;exact#[a,b,c]]
def xB{P:Bool->Prop}:XB x P=∃c,x=.bl c/\P c:=propext #[λh=>by have#[a,b,c]:=h;exact#[a,b,c],λh=>by have#[a,b,c]:=h;exact#[a,b,c]]
def Pj{P:F->Prop}:qL Γ σ i P=∃f a,σ[i]?=U (U<|.ref a)/\Γ.fa f=U a/\P f:=propext #[λh=>by have#[a,b,c,d,e]:=h;exact#[a,b,c,d,e],λh=>by have#[a,b,c,d,e]:=h;exact#[a,b,c,d,e]]
def Pw:vf C f x H P=∃a c fs,x=.ref a/\H a=U (.ins C c fs)/\fs.lookup f=O/\P:=propext #[λz=>by have#[a,b,c,d,e,g,h]:=z;exact#[a,b,c,d,e,g,h],λz=>by have#[a,b,c,d,e,g,h]:=z;exact#[a,b,c,d,e,g,h]]
def Pt:qM K Q x H=∃p xs,x=.ref p/\(af K H p xs\/aR K H p xs)/\Q (.int xs.length) H:=propext #[λh=>by have#[a,b,c,d,e]:=h;exact#[a,b,c,d,e],λh=>by have#[a,b,c,d,e]:=h;exact#[a,b,c,d,e]]
def PF:qR K Q x H=∃p xs,x=.ref p/\af K H p xs/\∀l,H l=O->Q (.ref l) (upd H l<|.tup xs):=propext #[λh=>by have#[a,b,c,d,e]:=h;exact#[a,b,c,d,e],λh=>by have#[a,b,c,d,e]:=h;exact#[a,b,c,d,e]]
def PD:qQ K Q x H=∃(p:P2)(ns:List Int),x=.ref p/\af K H p (ns.map V.int)/\Q (.int ns.sum) H:=propext #[λh=>by have#[a,b,c,d,e]:=h;exact#[a,b,c,d,e],λh=>by have#[a,b,c,d,e]:=h;exact#[a,b,c,d,e]]
def Pu:qN K Q x H=∃(p:P2)(bs:List P2)(ks:List<|List Key),x=.ref p/\af K H p (bs.map V.ref)/\Paired (λb k=>H b=U (.tup<|k.map kV)) bs ks/\ks.length<=1000/\Q (.int ks.eraseDups.length) H:=propext #[λz=>by have#[a,b,c,d,e,g,h,i]:=z;exact#[a,b,c,d,e,g,h,i],λz=>by have#[a,b,c,d,e,g,h,i]:=z;exact#[a,b,c,d,e,g,h,i]]
def xL{P:P2->Prop}:XL K x H P=∃l,x=.ref l/\(∃ys,af K H l ys)/\P l:=propext #[λh=>by have#[a,b,c,d]:=h;exact#[a,b,c,d],λh=>by have#[a,b,c,d]:=h;exact#[a,b,c,d]]
def Pg:u6 l Q y H=∃xs,H l=U (.lst xs)/\xs.length<Qq/\Q .ao (upd H l<|.lst<|xs++[y]):=propext #[λh=>by have#[a,b,c,d]:=h;exact#[a,b,c,d],λh=>by have#[a,b,c,d]:=h;exact#[a,b,c,d]]
def Pl:u9 l Q y H=∃b xs c,y=.ref b/\H l=U (.lst xs)/\(H b=U (.lst c)\/H b=U (.tup c))/\xs.length+c.length<=Qq/\Q .ao (upd H l<|.lst<|xs++c):=propext #[λz=>by have#[a,b,c,d,e,g,h,i]:=z;exact#[a,b,c,d,e,g,h,i],λz=>by have#[a,b,c,d,e,g,h,i]:=z;exact#[a,b,c,d,e,g,h,i]]
def Py:vg l Q y H=∃(k:Nat)(xs:List V)(z:V),y=.int k/\H l=U (.lst xs)/\xs[k]?=U z/\Q z (upd H l<|.lst<|xs.eraseIdx k):=propext #[λz=>by have#[a,b,c,d,e,g,h]:=z;exact#[a,b,c,d,e,g,h],λz=>by have#[a,b,c,d,e,g,h]:=z;exact#[a,b,c,d,e,g,h]]
def Pr:ve K Q x y H=∃p i xs v,x=.ref p/\y=.int i/\(af K H p xs\/aR K H p xs)/\fO xs i=U v/\Q v H:=propext #[λz=>by have#[a,b,c,d,e,g,h,i,j]:=z;exact#[a,b,c,d,e,g,h,i,j],λz=>by have#[a,b,c,d,e,g,h,i,j]:=z;exact#[a,b,c,d,e,g,h,i,j]]
def PB{l u:Option Int}:vj K Q x l u H=tw K x l u H Q:=propext #[λh=>by have#[a,b,c,d,e]:=h;exact#[a,b,c,d,e],λh=>by have#[a,b,c,d,e]:=h;exact#[a,b,c,d,e]]
def xI{P:Int->Prop}:XI P x=∃i,x=.int i/\P i:=propext #[λh=>by have#[a,b,c]:=h;exact#[a,b,c],λh=>by have#[a,b,c]:=h;exact#[a,b,c]]
def Dl{o:List V->HO}{xs:List V}:qP o Q xs H=(xs.length<=Qq/\∀p,H p=O->Q (.ref p) (upd H p<|o xs)):=propext #[λh=>by have#[a,b]:=h;exact#[a,b],λh=>by have#[a,b]:=h;exact#[a,b]]
def Pq:vd K a b H Q=∃ns ms:List Int,aR K H a (ns.map V.int)/\aR K H b (ms.map V.int)/\Q (.bl<|!lexLt ns ms) H:=propext #[λh=>by have#[a,b,c,d,e]:=h;exact#[a,b,c,d,e],λh=>by have#[a,b,c,d,e]:=h;exact#[a,b,c,d,e]]
def Pk:u7 K a b H Q=∃ns ms:List Int,af K H a (ns.map V.int)/\af K H b (ms.map V.int)/\Q (.bl<|decide (ns=ms)) H:=propext #[λh=>by have#[a,b,c,d,e]:=h;exact#[a,b,c,d,e],λh=>by have#[a,b,c,d,e]:=h;exact#[a,b,c,d,e]]
def Pp:vc Γ f y N x H=∃a C c fs,x=.ref a/\H a=U (.ins C c fs)/\Γ.fo C f/\fs.length<1000/\N (upd H a<|.ins C c<|bb f y fs):=propext #[λz=>by have#[a,b,c,d,e,g,h,i,j]:=z;exact#[a,b,c,d,e,g,h,i,j],λz=>by have#[a,b,c,d,e,g,h,i,j]:=z;exact#[a,b,c,d,e,g,h,i,j]]
def Ph{P:V->Prop}:qK σ i P=∃x,σ[i]?=U (U x)/\P x:=propext #[λh=>by have#[a,b,c]:=h;exact#[a,b,c],λh=>by have#[a,b,c]:=h;exact#[a,b,c]]
def Pf{P:Int->Prop}:u5 x P y=∃i j,x=.int i/\y=.int j/\P (i+j):=propext #[λh=>by have#[a,b,c,d,e]:=h;exact#[a,b,c,d,e],λh=>by have#[a,b,c,d,e]:=h;exact#[a,b,c,d,e]]
def Pm{P:P2->P2->V->Prop}:va Γ f x H P=∃a C c fs v,x=.ref a/\H a=U (.ins C c fs)/\Γ.fo C f/\fs.lookup f=U v/\P a C v:=propext #[λz=>by have#[a,b,c,d,e,g,h,i,j,k]:=z;exact#[a,b,c,d,e,g,h,i,j,k],λz=>by have#[a,b,c,d,e,g,h,i,j,k]:=z;exact#[a,b,c,d,e,g,h,i,j,k]]
def Pn:vb f a C N y H=∃d c,H a=U (.ins C d c)/\c.length<1000/\N (upd H a<|.ins C d<|bb f y c):=propext #[λh=>by have#[a,b,c,d,e]:=h;exact#[a,b,c,d,e],λh=>by have#[a,b,c,d,e]:=h;exact#[a,b,c,d,e]]
def Pz{g:V->Prop}:vh P g vs=∃v,vs=[v]/\P/\g v:=propext #[λh=>by have#[a,b,c,d]:=h;exact#[a,b,c,d],λh=>by have#[a,b,c,d]:=h;exact#[a,b,c,d]]
def x2{R:Prop}:X2 P R=(P/\R):=propext #[λh=>by have#[a,b]:=h;exact#[a,b],λh=>by have#[a,b]:=h;exact#[a,b]]
end
def O7(op:BO):C6 op=lB op:=by induction op<;>rfl
def C9(K:PY):uw K=pC K:=by funext x y H Q;induction x<;>induction y<;>first|rfl|exact Pq
def O8(K:PY):C8 K=tm K:=by funext x y H Q;induction x<;>induction y<;>first|rfl|exact Pk
def C7(K:PY)(op:CO):qg K op=mW K op:=by induction op<;>first|rfl|exact C9 K|exact O8 K
section
variable{A B C D G':Type}
def f2{f g:A->B->C}(h:∀a b,f a b=g a b):f=g:=funext λa=>funext λb=>h a b
def f3{f g:A->B->C->D}(h:∀a b c,f a b c=g a b c):f=g:=funext λa=>f2 λb c=>h a b c
def f4{f g:A->B->C->D->G'}(h:∀a b c d,f a b c d=g a b c d):f=g:=funext λa=>f3 λb c d=>h a b c d
def c2(f:A->B->C){a c:A}{b d:B}(h:a=c)(k:b=d):f a b=f c d:=congr (congrArg f h) k
def c3(f:A->B->C->D){a d:A}{b e:B}{c g:C}(h:a=d)(k:b=e)(l:c=g):f a b c=f d e g:=congr (c2 f h k) l
def c4(f:A->B->C->D->G'){a e:A}{b g:B}{c i:C}{d d':D}(h:a=e)(k:b=g)(l:c=i)(m:d=d'):f a b c d=f e g i d':=congr (c3 f h k l) m
end
def aaN:put=λσ i v=>σ.set i<|U v:=f3 px
def xBf:XB=λx P=>∃c,x=.bl c/\P c:=f2 λ_ _=>xB
def tUA{a:Type}(R:a->Hp->VK->Prop)(t:St->Hp->(a->Hp->Prop)->Prop):TE:=λσ H Q=>t σ H λx a=>R x a Q
section
variable(Γ:aO F)
mutual
theorem aK(E:XK):∀e:Ex F,aA Γ E e=au Γ E e|.var i=>f3 λσ H Q=>sP σ i λv=>Q v H|.con v=>rfl|.glob g=>f3 λσ H Q=>mw (Γ.gv g) λv=>Q v H|.fld e f=>c2 tUA (f3 λx H Q=>Po (Γ:=Γ) (f:=f) (Q:=Q) (x:=x) (H:=H))<|aK E e|.bin c a b=>c3 jy (O7 c) (aK E a)<|aK E b|.neg a=>c2 Cs (show(λx H Q=>qO Q x H)=rU λi=>.int (-i)from f3 λx H Q=>Px)<|aK E a|.cmp c=>Dd E c|.l4 a b=>c3 (λ(B:V->(Bool->Prop)->Prop)(g h:TE)σ H Q=>g σ H λx d=>B x λc=>if c=true then h σ d Q else Q (.bl false) d) xBf (aK E a)<|aK E b|.mS a b=>c3 (λ(B:V->(Bool->Prop)->Prop)(g h:TE)σ H Q=>g σ H λx d=>B x λc=>if c=true then Q (.bl true) d else h σ d Q) xBf (aK E a)<|aK E b|.mL a=>c2 (λ(B:V->(Bool->Prop)->Prop)(g:TE)σ H(Q:VK)=>g σ H λx d=>B x λc=>Q (.bl<|!c) d) xBf<|aK E a|.mx t a b=>c3 (λ(t:TT)(a b:TE)σ H Q=>t σ H λc d=>if c=true then a σ d Q else b σ d Q) (jD E t) (aK E a)<|aK E b|.call f c=>congrArg (tUA λg H Q=>Γ.fn f g H Q E)<|jC E c|.kJ i c=>c2 (λ(B:St->(F->Prop)->Prop)(t:TA)σ H Q=>B σ λf=>t σ H λg d=>Γ.fn f g d Q E) (f2 λσ P=>Pj (Γ:=Γ) (σ:=σ) (i:=i) (P:=P))<|jC E c|.eU o m h c=>c3 (λ(B:V->Hp->Prop->Prop)(t:TE)(u:TA)σ H Q=>t σ H λx d=>B x d<|u σ d λg j=>(Γ.me m).2 (x::g) j Q E) (f3 λx H P=>Pw (C:=(Γ.me m).1) (f:=h) (x:=x) (H:=H) (P:=P)) (aK E o)<|jC E c|.len a=>c2 tUA (f3 λx H Q=>Pt (K:=Γ.K))<|aK E a|.tupleOf a=>c2 tUA (f3 λx H Q=>PF (K:=Γ.K))<|aK E a|.dictOf a=>congrArg (tUA _)<|aK E a|.lx a=>congrArg (tUA tq)<|aK E a|.strOf a=>congrArg (tUA tD)<|aK E a|.sumOf a=>c2 tUA (f3 λx H Q=>PD (K:=Γ.K))<|aK E a|.k8 a=>c2 tUA (f3 λx H Q=>Pu (K:=Γ.K))<|aK E a|.append o a=>c4 (λ(B:V->Hp->(P2->Prop)->Prop)(C:P2->VK->VK)(t u:TE)σ H Q=>t σ H λx d=>B x d λl=>u σ d<|C l Q) (f3 λx H P=>xL (K:=Γ.K) (x:=x) (H:=H) (P:=P)) (f4 λl Q y H=>Pg (l:=l) (Q:=Q) (y:=y) (H:=H)) (aK E o)<|aK E a|.extend o a=>c4 (λ(B:V->Hp->(P2->Prop)->Prop)(C:P2->VK->VK)(t u:TE)σ H Q=>t σ H λx d=>B x d λl=>u σ d<|C l Q) (f3 λx H P=>xL (K:=Γ.K) (x:=x) (H:=H) (P:=P)) (f4 λl Q y H=>Pl (l:=l) (Q:=Q) (y:=y) (H:=H)) (aK E o)<|aK E a|.lz o a=>c4 (λ(B:V->Hp->(P2->Prop)->Prop)(C:P2->VK->VK)(t u:TE)σ H Q=>t σ H λx d=>B x d λl=>u σ d<|C l Q) (f3 λx H P=>xL (K:=Γ.K) (x:=x) (H:=H) (P:=P)) (f4 λl Q y H=>Py (l:=l) (Q:=Q) (y:=y) (H:=H)) (aK E o)<|aK E a|.get o a=>c2 gZ (aK E o)<|aK E a|.ix a b=>c3 jy (f4 λx y H Q=>Pr (K:=Γ.K)) (aK E a)<|aK E b|.sl a d g=>c4 Cp (f3 λx l u=>f2 λH Q=>PB (K:=Γ.K)) (aK E a) (Df E d)<|Df E g|.lst c=>c2 tUA (f3 λx H Q=>Dl (o:=.lst))<|jC E c|.tup c=>c2 tUA (f3 λx H Q=>Dl (o:=.tup))<|jC E c|.lc e c d g=>c2 (λa b=>eY a (gT Γ.K c) dH b g) (De E d)<|aK E e
theorem Df(E:XK):∀e:kB F,uD Γ E e=lE Γ E e|.no=>rfl|.yes e=>c2 (λ(B:(Int->Prop)->V->Prop)(t:TE)σ H(Q:Option Int->Hp->Prop)=>t σ H λx a=>B (λi=>Q (U i) a) x) (f2 λP x=>xI (P:=P) (x:=x))<|aK E e
theorem jC(E:XK):∀e:cy F,eI Γ E e=dq Γ E e|.nil=>rfl|.cons e r=>c2 dG (aK E e)<|jC E r
theorem Dd(E:XK):∀e:Cm F,qh Γ E e=lD Γ E e|.rel c a b=>c3 jy (C7 Γ.K c) (aK E a)<|aK E b|.my a=>congrArg Ca<|aK E a|.mK a=>congrArg Ce<|aK E a|.mI a b=>c2 lK (aK E a)<|aK E b|.chain o p a b c=>by show(λσ H Q=>aA Γ E a σ H λx d=>aA Γ E b σ d λy d=>qg Γ.K o x y d λz d=>XB z λk=>if k=true then aA Γ E c σ d λf g=>qg Γ.K p y f g Q else Q (.bl false) d)=_;rw[aK E a,aK E b,aK E c,C7,C7,xBf];rfl
theorem jD(E:XK):∀e:Ts F,bG Γ E e=dF Γ E e|.val e=>congrArg jx<|aK E e|.cmp c=>congrArg jx<|Dd E c|.and a b=>c2 B4 (jD E a)<|jD E b|.or a b=>c2 Cg (jD E a)<|jD E b|.not a=>congrArg Cd<|jD E a
theorem De(E:XK):∀e:iP F,nA Γ E e=iF Γ E e|.list e=>congrArg (gL Γ.K)<|aK E e|.range a b=>c2 (λa b=>kR<|dG a<|dG b eZ) (aK E a)<|aK E b|.lC a=>congrArg (λa=>kQ<|dG a eZ)<|aK E a|.enum e=>congrArg (λa=>jR Γ.K<|dG a eZ)<|aK E e|.zip a b=>c2 (λa b=>kT Γ.K<|dG a<|dG b eZ) (aK E a)<|aK E b|.str e=>congrArg kS<|aK E e
end
mutual
theorem Pa(E:XK):∀s:Sx F,uE Γ E s=f9 Γ E s|.set i e=>c2 (λ(p:St->Nat->V->St)(t:TE)(D:Ends)σ H=>t σ H λx h=>D.lk (p σ i x) h) aaN<|aK Γ E e|.mv o f e=>c3 (λ(B:V->(Hp->Prop)->VK)(t u:TE)(D:Ends)σ H=>t σ H λy h=>u σ h<|B y<|D.lk σ) (f4 λy N x H=>Pp (Γ:=Γ) (f:=f) (y:=y) (N:=N) (x:=x) (H:=H)) (aK Γ E e)<|aK Γ E o|.mC o i e=>c3 (λa b c=>kh a<|wO b c pE) (aK Γ E e) (aK Γ E o)<|aK Γ E i|.aug i e=>c4 (λ(B:St->(V->Prop)->Prop)(C:V->(Int->Prop)->V->Prop)(p:St->Nat->V->St)(t:TE)(D:Ends)σ H=>B σ λx=>t σ H λy h=>C x (λz=>D.lk (p σ i<|.int z) h) y) (f2 λσ P=>Ph (σ:=σ) (i:=i) (P:=P)) (f3 λx P y=>Pf (x:=x) (P:=P) (y:=y)) aaN<|aK Γ E e|.mm o f e=>c4 (λ(B:V->Hp->(P2->P2->V->Prop)->Prop)(C:P2->P2->(Hp->Prop)->VK)(t u:TE)(D:Ends)σ H=>t σ H λx h=>B x h λa d v=>u σ h λy g=>pA v y g<|C a d<|D.lk σ) (f3 λx H P=>Pm (Γ:=Γ) (f:=f) (x:=x) (H:=H) (P:=P)) (f3 λa C N=>f2 λz H=>Pn (f:=f) (a:=a) (C:=C) (N:=N) (y:=z) (H:=H)) (aK Γ E o)<|aK Γ E e|.drop e=>congrArg B8<|aK Γ E e|.ret e=>congrArg Ck<|aK Γ E e|.m3=>rfl|.pass=>rfl|.ite t a b=>c3 B9 (jD Γ E t) (lO E a)<|lO E b|.nD t b=>c2 lL (jD Γ E t)<|lO E b|.loop d g b=>c2 (λa b=>gi a (gT Γ.K d) b) (De Γ E g)<|lO E b|.j6 c k=>c2 (λ(B:Prop->Prop->Prop)(t:TA)(_:Ends)σ H=>t σ H λj h=>B (j.length<=Qq)<|E (.ref<|Γ.xc c) O h) (f2 λP Q=>x2)<|jC Γ E k|.mX c k=>c2 (λ(B:(V->Prop)->List V->Prop)(t:TA)(_:Ends)σ H=>t σ H λj h=>B (λv=>∀d,h d=O->E (.ref<|Γ.xc c) (U d) (upd h d<|.xd [((Γ.xo c).1,v)])) j) (f2 λg j=>Pz (P:=(Γ.xo c).2) (g:=g) (vs:=j))<|jC Γ E k|.kj e c=>funext λD=>congrArg (λ(t:TE)σ H=>t σ H D.rt)<|aK Γ (fB Γ D c) e|.kl i e c=>funext λD=>c2 (λ(p:St->Nat->V->St)(t:TE)σ H=>t σ H λv h=>D.lk (p σ i v) h) aaN<|aK Γ (fB Γ D c) e
theorem lO(E:XK):∀s:eK F,cK Γ E s=iG Γ E s|.nil=>rfl|.cons s r=>c2 Co (Pa E s)<|lO E r
end
end
end
noncomputable abbrev Gq(K:PY)(ad:F->P2)(k:Nat):aO F:=Gk K ad (cw K ad) k
abbrev Reads(K:PY)(ad:F->P2)(k:Nat)(N:List QQ)(c:eK F)(s:Sp):Prop:=
 ∀a H Q E,s a H Q E->cK (Gq K ad k) E c (D0 Q) (fill N a) H
abbrev Rs(K:PY)(ad:F->P2)(k:Nat)(f:F):Prop:=Reads K ad k (dat f).n (dat f).c<|cw K ad f<|k+1
def cut{a:Prop}(h:∀P:Prop,(a->P)->P):a:=h a id
def IL{A B:Prop}(h:A):if true=true then A else B:=h
def IK{A B:Prop}(h:B):if false=true then A else B:=h
section
variable{K:PY}{ad:F->P2}{k:Nat}
def aS{fs:List (QQ×V)}(h:H a=U (.ins (ad c) b fs))(hc:d4 c=true)(d:f∈aC c)(hl:fs.lookup f=U v):aY (Gq K ad k) H (.ref a) f v:=#[a,_,b,fs,G,h,#[c,hc,G,d],hl]
def Sc.place{t s:List Nat}(h:Sc ad M H a t s):aY (Gq K ad k) H (.ref a) ';'<|.int ((t.length-s.length:Nat):Int):=by have#[_,c,l,b,_]:=h;exact aS (c:=10.0) b rfl (by decide) rfl
def Sc.text(h:Sc ad M H a t s)(c:aj M H):∃l,aY (Gq K ad k) H (.ref a) '.' (.ref l)/\af K H l (bv t)/\M l=U (.lst<|bv t):=by have#[_,e,l,d,b,_]:=h;exact#[l,aS (c:=10.0) d G (by decide)<|by rfl,af.of<|c _ _ b,b]
def t9{c:Nat}{r t:List Nat}(h:c::r<:+t):t[t.length-(c::r).length]?=U c/\(c::r).length<=t.length:=by have#[p,rfl]:=h;simp
def Sc.iI(h:Sc ad M H a t s):s<:+t:=h.2.choose_spec.choose_spec.2.2.1
def Sc.le{t s:List Nat}(h:Sc ad M H a t s):t.length<=5000:=h.2.choose_spec.choose_spec.2.2.2
def Sc.jX{t s:List Nat}(h:Sc ad M H a t s):∃b fs,H a=U (.ins (ad 10.0) b fs)/\(∀m:QQ,m≠'.'->m≠';'->fs.lookup m=O)/\fs.lookup (';':QQ)=U (V.int ((t.length-s.length:Nat):Int))/\fs.length<1000:=by
 have#[_,b,l,c,_]:=h;refine#[b,_,c,λm a b=>?_,G,by show 2<1000;decide];have c:(m==('.':QQ))=false:=by simpa using a
 have d:(m==(';':QQ))=false:=by simpa using b
 erw[Rm,c,d,Wa]
def Sc.next{t r:List Nat}{c:Nat}(h:Sc ad M H a t (c::r))(e:H a=U (.ins (ad 10.0) b fs)):Sc ad M (upd H a<|.ins (ad 10.0) b<|bb ';' (.int<|((t.length-(c::r).length:Nat):Int)+1) fs) a t r:=by
 have#[g,k,l,d,i,f,j]:=h;rw[e]at d;cases d;have d:=(t9 f).2;have k:r<:+t:=(List.suffix_cons c r).trans f;have f:((t.length-(c::r).length:Nat):Int)+1=((t.length-r.length:Nat):Int):=by erw[P0]at d⊢;omega (config:={})
 refine#[g,b,l,?_,i,k,j];rw[ah,f];rfl
def Sc.moved(h:Sc ad M H a t s)(b:aj M H):Go (W1 a) M H M<|upd H a o:=(Go.refl b).set (.inl G) h.1
def Sc.over{W:P2->Prop}(h:Sc ad M H a t s)(g:Go W M H b c)(d:¬W a):Sc ad b c a t s:=by
 have#[e,f,l,c,i,j,k]:=h;refine#[?_,f,l,g.st _ _ c d,g.fr _ _ i,j,k];cases q:b a with
 |none=>rfl|some o=>
  rcases g.new a o q with z|z;.rw[e]at z;cases z
  .rw[c]at z;cases z
end
section
variable{K:PY}{ad:F->P2}{k:Nat}
def nU(c:Nat):(decide (48<=(c:Int))&&decide ((c:Int)<=57))=QD c:=by
 unfold QD;have a:decide (48<=(c:Int))=decide (48<=c):=by apply decide_eq_decide.mpr;lia
 have b:decide ((c:Int)<=57)=decide (c<=57):=by apply decide_eq_decide.mpr;lia
 rw[a,b]
def yp(c:Nat):((decide (97<=(c:Int))&&decide ((c:Int)<=122))||((decide (48<=(c:Int))&&decide ((c:Int)<=57))||decide ((c:Int)=95)))=Qa c:=by
 unfold Qa Vf;rw[nU];have a:decide (97<=(c:Int))=decide (97<=c):=by apply decide_eq_decide.mpr;lia
 have b:decide ((c:Int)<=122)=decide (c<=122):=by apply decide_eq_decide.mpr;lia
 have d:decide ((c:Int)=95)=(c==95):=by rw[Rt];simp;lia
 rw[a,b,d,Bool.or_assoc]
theorem yW{f:Nat->Bool}:∀{p r:List Nat},(∀c∈p,f c=true)->p.length<=((p++r).takeWhile f).length/\((p++r).takeWhile f).take p.length=p|[],r,_=>#[Q9 _,by simp]|c::p,r,a=>by have#[b,d]:=yW (p:=p) (r:=r) λx e=>a x<|Qk _ e;have e:=a c QE;simp[e,b,d]
def Fail.now{W:P2->Prop}{M H a H1:Hp}{E:XK}{e:F}(f:Fail ad W H E e)(g:Go W M H a H1):E (.ref<|ad e) O H1:=f H1 g.x
def Hn{t s s':Qv}(hs:s<:+t)(h:s=pre++s'):(t.drop<|t.length-s.length).take ((t.length-s'.length)-(t.length-s.length))=pre:=by
 have#[p,rfl]:=hs;subst h;have e:p.length+(SG pre+SG s')-SG s'-p.length=SG pre:=by lia
 simp[e]
def rn{t s s':Qv}(hs:s<:+t)(h:s=pre++s'):fS (bv t) (U ((t.length-s.length:Nat):Int)) (U ((t.length-s'.length:Nat):Int))=bv pre:=by
 unfold fS;have a:=hs.length_le;have a:s'.length<=s.length:=by rw[h,P5];lia
 rw[tL,tL,bE,XY ∅,XY ∅];unfold bv;rw[<-WQ,<-Yw,Hn hs h]
end
section
variable{K:PY}{ad:F->P2}{k:Nat}
def Go.made{M H:Hp}(b:aj M H){x a:P2}{o:HO}(lk:H x=O)(nd:H a=O)(ne:a≠x):Go W0 M H (upd M x o)<|upd (upd H a<|.own x) x o:=((Go.refl b).alloc nd).bc (by rw[aq<|Q4 ne];exact lk)
def sG(hk:2<=k)(b:aj M H)(d:fL M w l)(e:bP M q<|RA l)(f:aJ W0 M H Q λa c v=>cZ ad a v l):
    1<=k/\iw (ad 10.1) (cw K ad 0.2<|k-1) [w,q] H Q E:=by refine#[∅,λx a lk g ne=>?_];refine#[x,a,w,q,G,∅,ah,G,?_];rw[cR];have c:aj M<|upd M x<|.ins (ad 10.1) a [('[',w),('c',q)]:=bg<|b.none lk;exact f _ _ _ (Go.made b lk g ne) #[x,a,w,q,G,ah,d.mono c,e.mono c]
theorem wH:∀{t:Qv},(∀c∈t,SQ c=true)->t.flatMap Uo=t|[],_=>rfl|c::t,h=>by rw[UK,wH λx a=>h x<|Qk _ a];simp[Uo,h c QE]
def yw(n:Nat):eD n=Ra n:=by
 induction n using Nat.strongRecOn with
 |_ n a=>
  by_cases h:n<10;.rw[jr h,nS h]
  .rw[js ∅,rC ∅,a (n/10) ∅]
def ai.ax(h:ai ad M kd a)(d:aj M H):aY (Gq K ad k) H a ')' (.int<|aw kd)/\aY (Gq K ad k) H a 'F' (.int<|mG kd)/\aY (Gq K ad k) H a '6' (.int<|fV kd):=by cases kd with|leaf l=>have#[a,e,f,g,i,rfl,b,_]:=h;exact#[aS (c:=10.3) (d _ _ b) G (by decide) G,aS (c:=10.3) (d _ _ b) G (by decide) G,aS (c:=10.3) (d _ _ b) G (by decide) G]|group c j=>have#[a,e,f,g,i,c,rfl,b,_]:=h;exact#[aS (c:=10.3) (d _ _ b) G (by decide) G,aS (c:=10.3) (d _ _ b) G (by decide) G,aS (c:=10.3) (d _ _ b) G (by decide) G]
def cg(hs:Sc ad M H a t s)(m:QQ)(c:m≠'.')(d:m≠';'):∃b fs,H a=U (.ins (ad 10.0) b fs)/\fs.lookup m=O:=by have#[b,fs,e,f,_,_]:=hs.jX;exact#[b,fs,e,f m c d]
end
section
variable{K:PY}{ad:F->P2}{k:Nat}
def c9:16000000<Qq:=by decide
def NB(h:∀r,s=34::r->False):Q5 s=(eM s).bind λx=>(Q5 x.2).map λz=>(x.1::z.1,z.2):=by
 induction s with
 |nil=>rfl|cons c r=>
  by_cases d:c=92
  .subst d;have e:SQ 92=false:=by decide
   induction r with|nil=>rfl|cons a r=>induction r with|nil=>erw[eM,e,P1,aaF,aaE,gK];cases Ti a<;>rfl|cons b r=>erw[eM,e,P1,aaF,aaE,gK];rw[Q5];cases e:Ti a with|none=>rfl|some x=>erw[Qm,P4];cases e:Ti b with|none=>rfl|some y=>erw[Qm,P4,YW x 16];split<;>rfl
  .have:Q5 (c::r)=if SQ c then(Q5 r).map λz=>(c::z.1,z.2)else O:=by
    rw[Q5];.intro e;exact h r (by rw[e])
    .intro a b c e _;exact d e
   rw[this];erw[eM,d,aaF];split<;>rfl
def wX{s r:Qv}{c:Nat}(h:gK s=U (c,r)):r.length<s.length:=by induction s with|nil=>cases h|cons z u=>have#[_,_,e]:=omap.mp h;cases e;simp
def FY{s r:Qv}{c:Nat}(h:eM s=U (c,r)):r.length<s.length:=by
 induction s with
 |nil=>cases h|cons d u=>
  erw[eM]at h;split at h;.cases h;simp
  .split at h
   .have#[#[x,b],a,h]:=aH.mp h;have#[#[y,d],b,h]:=aH.mp h;simp only at h;split at h;.cases h
    .cases h;have d:=wX a;have a:=wX b;erw[P0];simp only at d a;lia
   .cases h
def Go.da{W:P2->Prop}(g:Go W M H a c)(b:M l=O)(hl:H l=U o):a l=O:=by
 cases q:a l with
 |none=>rfl|some u=>
  rcases g.new l u q with z|z;.rw[b]at z;cases z
  .rw[hl]at z;cases z
def Sc.upd(h:Sc ad M H a t s)(ne:a≠l):Sc ad M (Z.upd H l o) a t s:=by have#[b,c,q,d,e]:=h;exact#[b,c,q,by rw[aq ne];exact d,e]
def Sc.ne(h:Sc ad M H a t s)(hl:H l=U (.lst xs)):a≠l:=by have#[c,d,q,b,e]:=h;exact Kj b hl (by intro z;cases z)
def Fail.over{W b:P2->Prop}{M H c H1:Hp}{E:XK}{e:F}(f:Fail ad W H E e)(g:Go W M H c H1)(d:∀a,b a->W a\/H a=O):Fail ad b H1 E e:=λb c=>f b<|g.ug c d
def Fail.same{W:P2->Prop}{M H a H1:Hp}{E:XK}{e:F}(f:Fail ad W H E e)(g:Go W M H a H1):Fail ad W H1 E e:=f.over g λ_ h=>.inl h
def Fail.dE{W:P2->Prop}{M H a H1:Hp}{E:XK}{e:F}(f:Fail ad W H E e)(g:Go W M H a H1):Fail ad W0 H1 E e:=f.over g λ_ h=>h.elim
def sy{n:Nat}:cb (.text n) t=(j5 t).map λx=>(.str x.1,x.2):=by
 by_cases h:∃r,t=34::r;.have#[r,rfl]:=h;rfl
 .rw[cb]
  .have:aN 34 t=O:=by cases a:aN 34 t with|none=>rfl|some r=>exact absurd #[r,bL.mp a] h
   simp[j5,this]
  .exactλr e=>h #[r,e]
def OT(h:cb l t=U (v,r)):typed l v:=by induction l with|text n=>rw[sy]at h;have#[x,_,e]:=omap.mp h;cases e;trivial|bit=>erw[aaI,lit_int]at h;have#[x,_,e]:=omap.mp h;cases e;trivial|int n=>erw[aaI,lit_int]at h;have#[x,_,e]:=omap.mp h;cases e;trivial
end
section
variable{K:PY}{ad:F->P2}{k:Nat}
def cn{a b:Type}{R:a->b->Prop}:∀{us:List a}{xs:List b}{j:Nat}{u:a},Paired R us xs->us[j]?=U u->∃x,xs[j]?=U x/\R u x:=by intro us xs j u a e;induction a generalizing j with|nil=>cases e|cons h t a=>induction j with|zero=>cases e;exact#[_,G,h]|succ j=>exact a e
def dU{b a:Type}{R:b->a->Prop}:∀{us:List b}{xs:List a}{j:Nat}{x:a},Paired R us xs->xs[j]?=U x->∃u,us[j]?=U u/\R u x:=by intro us xs j x a e;induction a generalizing j with|nil=>cases e|cons h t a=>induction j with|zero=>cases e;exact#[_,G,h]|succ j=>exact a e
theorem sE{a b:Type}{g:a->Option b}:∀{l:List a}{x:a},(l++[x]).mapM g=(l.mapM g).bind λys=>(g x).map λy=>ys++[y]|[],x=>by erw[Rk,RV,Yx];cases g x<;>rfl|a::l,x=>by rw[QT,RV,RV,sE];induction g a with|none=>rfl|some b=>induction l.mapM g with|none=>rfl|some ys=>cases g x<;>rfl
def yf{a b:Type}{g:a->Option b}{l:List a}{i:Nat}(h:(l.take i).mapM g=O):l.mapM g=O:=by have e:l=l.take i++l.drop i:=(Te i l).symm;rw[e,List.mapM_append,h];rfl
def Jw{t N:Type}{R:Hp->V->N->Prop}(mono:∀M d v y,aj M d->R M v y->R d v y){M H:Hp}(P:aj M H){b:P2}{us:List V}{xs:List t}(hb:M b=U (.lst us))(al:us.length=xs.length)(hsz:xs.length<=1000000){g:t->Option N}{te:TE}{σ:St}{i:Nat}{l:List Nat}{Q:VK}{E:XK}{e:F}(am:∀v,wipe ((wipe σ l).set i<|U v) l=wipe σ l)(step:∀(j:Nat)(u:V)(x:t),us[j]?=U u->xs[j]?=U x->∀S H1,Go W0 M H S H1->∀T,(∀y,g x=U y->aJ W0 S H1 T λo _ v=>R o v y)->(g x=O->Fail ad W0 H1 E e)->te ((wipe σ l).set i<|U u) H1 T)(q:∀ys,xs.mapM g=U ys->aJ W0 M H Q λd _ v=>bp (R d) d v ys)(qe:xs.mapM g=O->Fail ad W0 H E e):
    ∀D,H D=O->∃W:Nat->Nat->Hp->Prop,(∃m,W 0 m<|upd H D<|.lst [])/\∀j m k,W j m k->
     ((fH K b).stop j k/\Q (.ref D) k)\/((fH K b).go j k/\∃w:Hp->Prop,(∀h,w h->∃X,X<m/\W (j+1) X h)/\∀x h,(fH K b).kq j k x h->gT K (.name i) x (wipe σ l) h λA B=>wipe A l=wipe σ l/\dH A B λc Y=>
      if c=true then te A Y λy Z=>∃acc,Z D=U (.lst acc)/\acc.length<Qq/\w (upd Z D<|.lst<|acc++[y])else w Y):=by
 intro D p;refine#[λj m k=>∃ys f d,(xs.take j).mapM g=U ys/\Go W0 M H d k/\k D=U (.lst f)/\d D=O/\Paired (R d) f ys/\j<=xs.length/\m=xs.length-j,#[_,[],[],M,by simp,(Go.refl P).alloc p,ah,P.none p,.nil,Q9 _,G],?_];rintro j m k⟨ys,f,d,r,n,C,aa,I,hj,rfl⟩;have J:k b=U (.lst us):=n.ae _ _<|n.fr _ _ hb;by_cases ab:j<xs.length
 .obtain⟨x,hx⟩:∃x,xs[j]?=U x:=#[xs[j],by simp[ab]];obtain⟨u,L⟩:∃u,us[j]?=U u:=#[us[j]'∅,by simp[al,ab]];have ap:=take_snoc hx;refine .inr #[#[us,u,af.of J,L],λh=>∃ys f d,(xs.take<|j+1).mapM g=U ys/\Go W0 M H d h/\h D=U (.lst f)/\d D=O/\Paired (R d) f ys,λh z1=>e8 z1 λys f d a1 a2 a3 a4 a5=>#[_,∅,ys,f,d,a1,a2,a3,a4,a5,∅,G],?_];rintro z h⟨rfl,hz⟩;have av:z=u:=QO<|(hz us<|af.of J).symm.trans L;subst av;refine#[am z,?_];erw[dH,aaE];have ac:(xs.take<|j+1).mapM g=(g x).map λy=>ys++[y]:=by rw[ap,sE,r];rfl
  refine step j z x L hx d h n _ (λy hy v o B s hr=>?_) λhn=>?_;.have a0:B D=U (.lst f):=s.st D _ C id;have ak:o D=O:=s.da aa C;have a8:f.length=ys.length:=Qy I;have a6:=(fu r).1;rw[RC]at a6;refine#[f,a0,by have:=c9;lia,ys++[y],f++[v],o,?_,(n.aB s).set (.inr p) ak,ah,ak,Wi (Paired.imp' (λa b=>mono _ _ a b s.fr) I) hr];rw[ac,hy];rfl
  .refine(qe<|yf (i:=j+1) ?_).dE n;rw[ac,hn];rfl
 .have a7:j=xs.length:=by lia
  subst a7;rw[TK]at r;refine .inl #[#[us,af.of J,∅],q ys r _ _ _ (n.freeze p C) #[D,f,G,ah,Paired.imp' (λa b=>mono _ _ a b<|bg aa) I]]
def xD{k p:Type}{R:Hp->V->p->Prop}(mono:∀M d v y,aj M d->R M v y->R d v y){M H:Hp}(r:aj M H){b:P2}{us:List V}{xs:List k}(B:M b=U (.lst us))(C:us.length=xs.length)(hsz:xs.length<=1000000){g:k->p}{te:TE}{σ:St}{i:Nat}{f:List Nat}{Q:VK}(E:∀v,wipe ((wipe σ f).set i<|U v) f=wipe σ f)(step:∀(j:Nat)(u:V)(x:k),us[j]?=U u->xs[j]?=U x->∀s H1,Go W0 M H s H1->∀t,(aJ W0 s H1 t λh _ v=>R h v<|g x)->te ((wipe σ f).set i<|U u) H1 t)(q:∀D vs d e,Go W0 M H d e->H D=O->e D=U (.lst vs)->d D=O->Paired (R d) vs (xs.map g)->Q (.ref D) e):
    ∀D,H D=O->∃W:Nat->Nat->Hp->Prop,(∃m,W 0 m<|upd H D<|.lst [])/\∀j m e,W j m e->
     ((fH K b).stop j e/\Q (.ref D) e)\/((fH K b).go j e/\∃l:Hp->Prop,(∀a,l a->∃w,w<m/\W (j+1) w a)/\∀x a,(fH K b).kq j e x a->gT K (.name i) x (wipe σ f) a λn o=>wipe n f=wipe σ f/\dH n o λc z=>
      if c=true then te n z λy A=>∃acc,A D=U (.lst acc)/\acc.length<Qq/\l (upd A D<|.lst<|acc++[y])else l z):=by
 intro D k;refine#[λj m e=>∃vs d,Go W0 M H d e/\e D=U (.lst vs)/\d D=O/\Paired (R d) vs ((xs.take j).map g)/\j<=xs.length/\m=xs.length-j,#[_,[],M,(Go.refl r).alloc k,ah,r.none k,.nil,Q9 _,G],?_];rintro j m e⟨vs,d,f,p,s,l,n,rfl⟩;have r:e b=U (.lst us):=f.ae _ _<|f.fr _ _ B;by_cases t:j<xs.length;.obtain⟨x,w⟩:∃x,xs[j]?=U x:=#[xs[j],by simp[t]];obtain⟨u,n⟩:∃u,us[j]?=U u:=#[us[j]'∅,by simp[C,t]];have t:=take_snoc w;refine .inr #[#[us,u,af.of r,n],λa=>∃vs d,Go W0 M H d a/\a D=U (.lst vs)/\d D=O/\Paired (R d) vs ((xs.take<|j+1).map g),λa z=>e6 z λvs d z A B C=>#[_,∅,vs,d,z,A,B,C,∅,G],?_];rintro z a⟨rfl,A⟩;have B:z=u:=QO<|(A us<|af.of r).symm.trans n;subst B;refine#[E z,?_];erw[dH,aaE];refine step j z x n w d a f _ λv h o n w=>?_;have z:o D=U (.lst vs):=n.st D _ p id;have a:h D=O:=n.da s p;have o:=Qy l;rw[Qe,RC]at o;refine#[vs,z,by have:=c9;lia,vs++[v],h,(f.aB n).set (.inr k) a,ah,a,?_];rw[t,Sf];exact Wi (Paired.imp' (λa b=>mono _ _ a b n.fr) l) w
 .have a:j=xs.length:=by lia
  subst a;rw[TK]at l;exact .inl #[#[us,af.of r,∅],q D vs d e f k p s l]
def Ik{b:P2}{us:List V}{i:Nat}{d:TS}{D:Ends}{σ:St}{H:Hp}(I:Nat->St->Hp->Prop)(g:∀j σ H,I j σ H->H b=U (.lst us))(f:I 0 σ H)(k:∀σ H,I us.length σ H->D.lk σ H)(l:∀(j:Nat)(u:V)(σ:St)(H:Hp),us[j]?=U u->I j σ H->d {D with lk:=I<|j+1,ct:=I<|j+1,bk:=D.lk} (σ.set i<|U u) H):
    ∃W:Nat->Nat->St->Hp->Prop,(∃m,W 0 m σ H)/\∀j m σ H,W j m σ H->((fH K b).stop j H/\D.lk σ H)\/((fH K b).go j H/\∃N:St->Hp->Prop,(∀c a,N c a->∃e,e<m/\W (j+1) e c a)/\∀x a,(fH K b).kq j H x a->gT K (.name i) x σ a λh n=>d {D with lk:=N,ct:=N,bk:=D.lk} h n):=by
 refine#[λj m σ H=>I j σ H/\j<=us.length/\m=us.length-j,#[_,f,Q9 _,G],?_];rintro j m σ H⟨d,e,rfl⟩;have f:=g j σ H d;by_cases e:j<us.length;.obtain⟨u,g⟩:∃u,us[j]?=U u:=#[us[j],by simp[e]];refine .inr #[#[us,u,af.of f,g],I<|j+1,λc a h=>#[_,∅,h,∅,G],?_];rintro x a⟨rfl,c⟩;have e:x=u:=QO<|(c us<|af.of f).symm.trans g;subst e;exact l j x σ a g d
 .have e:j=us.length:=by lia
  subst e;exact .inl #[#[us,af.of f,Qg _],k σ H d]
def wJ{lo:Int}{n:Nat}{i:Nat}{c:TS}{D:Ends}{σ:St}{H:Hp}(I:Nat->St->Hp->Prop)(e:I 0 σ H)(f:∀σ H,I n σ H->D.lk σ H)(g:∀(j:Nat)(σ:St)(H:Hp),j<n->I j σ H->c {D with lk:=I<|j+1,ct:=I<|j+1,bk:=D.lk} (σ.set i<|U<|.int<|lo+j) H):
    ∃W:Nat->Nat->St->Hp->Prop,(∃m,W 0 m σ H)/\∀j m σ H,W j m σ H->((jG lo n).stop j H/\D.lk σ H)\/((jG lo n).go j H/\∃N:St->Hp->Prop,(∀b a,N b a->∃d,d<m/\W (j+1) d b a)/\∀x a,(jG lo n).kq j H x a->gT K (.name i) x σ a λh k=>c {D with lk:=N,ct:=N,bk:=D.lk} h k):=by
 refine#[λj m σ H=>I j σ H/\j<=n/\m=n-j,#[_,e,Q9 _,G],?_];rintro j m σ H⟨c,d,rfl⟩;by_cases d:j<n;.refine .inr #[d,I<|j+1,λb a h=>#[_,∅,h,∅,G],?_];rintro x a⟨rfl,rfl⟩;exact g j σ a d c
 .have e:j=n:=by lia
  subst e;exact .inl #[Qg _,f σ H c]
def uU(lo:Int)(n i:Nat)(tb:TS)(D:Ends)(σ:St)(H:Hp):Prop:=∃I:Nat->St->Hp->Prop,I 0 σ H/\(∀σ H,I n σ H->D.lk σ H)/\∀(j:Nat)(σ:St)(H:Hp),j<n->I j σ H->tb {D with lk:=I<|j+1,ct:=I<|j+1,bk:=D.lk} (σ.set i<|U<|.int<|lo+j) H
def DD(b:P2)(us:List V)(i:Nat)(tb:TS)(D:Ends)(σ:St)(H:Hp):Prop:=∃I:Nat->St->Hp->Prop,(∀j σ H,I j σ H->H b=U (.lst us))/\I 0 σ H/\(∀σ H,I us.length σ H->D.lk σ H)/\
 ∀(j:Nat)(u:V)(σ:St)(H:Hp),us[j]?=U u->I j σ H->tb {D with lk:=I<|j+1,ct:=I<|j+1,bk:=D.lk} (σ.set i<|U u) H
def pZ{i:Nat}{lo hi:Int}(h:∀R:List V->Hp->Prop,R [.int lo,.int hi] H1->a σ H R)(d:-(2^62)<=lo/\lo<2^62/\-(2^62)<=hi/\hi<2^62)(hl:uU lo (hi-lo).toNat i tb D σ H1):gi (kR a) (gT K<|.name i) tb D σ H:=by have#[I,a,b,c]:=hl;exact h _ #[lo,hi,G,d,wJ I a b c]
def OG{i:Nat}{hi:Int}(h:∀R:List V->Hp->Prop,R [.int hi] H1->a σ H R)(d:-(2^62)<=hi/\hi<2^62)(hl:uU 0 hi.toNat i tb D σ H1):gi (kQ a) (gT K<|.name i) tb D σ H:=by have#[I,a,b,c]:=hl;exact h _ #[hi,G,d.1,d.2,wJ I a b c]
def Cy{i:Nat}(h:∀R:VK,R (.ref b) H1->a σ H R)(hl:DD b us i tb D σ H1):gi (gL K a) (gT K<|.name i) tb D σ H:=by have#[I,z,a,c,d]:=hl;exact h _ #[b,G,#[us,af.of<|z 0 σ H1 a],Ik I z a c d]
def CD{c d:Type}{R:Hp->V->d->Prop}(mono:∀M a v y,aj M a->R M v y->R a v y)(f:aj M H){us:List V}{xs:List c}(k:M b=U (.lst us))(n:us.length=xs.length)(hsz:xs.length<=1000000){g:c->Option d}{i:Nat}(h:∀R:VK,R (.ref b) H->o σ H R)(p:∀v,wipe ((wipe σ own).set i<|U v) own=wipe σ own)(step:∀(j:Nat)(u:V)(x:c),us[j]?=U u->xs[j]?=U x->∀l H1,Go W0 M H l H1->∀m,(∀y,g x=U y->aJ W0 l H1 m λr _ v=>R r v y)->(g x=O->Fail ad W0 H1 E e)->te ((wipe σ own).set i<|U u) H1 m)(q:∀ys,xs.mapM g=U ys->aJ W0 M H Q λa _ v=>bp (R a) a v ys)(s:xs.mapM g=O->Fail ad W0 H E e):eY (gL K o) (gT K<|.name i) dH te own σ H Q:=
 h _ #[b,G,#[us,af.of<|f _ _ k],Jw mono f k n hsz p step q s]
def p0{c e:Type}{R:Hp->V->e->Prop}(mono:∀M a v y,aj M a->R M v y->R a v y)(f:aj M H){us:List V}{xs:List c}(k:M b=U (.lst us))(n:us.length=xs.length)(hsz:xs.length<=1000000){g:c->e}{i:Nat}(h:∀R:VK,R (.ref b) H->o σ H R)(p:∀v,wipe ((wipe σ own).set i<|U v) own=wipe σ own)(step:∀(j:Nat)(u:V)(x:c),us[j]?=U u->xs[j]?=U x->∀l H1,Go W0 M H l H1->∀m,(aJ W0 l H1 m λr _ v=>R r v<|g x)->te ((wipe σ own).set i<|U u) H1 m)(q:∀D vs a d,Go W0 M H a d->H D=O->d D=U (.lst vs)->a D=O->Paired (R a) vs (xs.map g)->Q (.ref D) d):eY (gL K o) (gT K<|.name i) dH te own σ H Q:=
 h _ #[b,G,#[us,af.of<|f _ _ k],xD mono f k n hsz p step q]
end
section
variable{K:PY}{ad:F->P2}{k:Nat}
def ai.bI{c:Bool}{fs:Qh}(h:ai ad M (.group c fs) a)(e:aj M H):∃f us b d,aY (Gq K ad k) H a '+' (.ref f)/\aY (Gq K ad k) H a '*' (.ref b)/\aY (Gq K ad k) H a '3' (.ref d)/\
    M f=U (.lst us)/\Paired (λu x=>aE ad M x u) us fs.list/\M b=U (.dK<|dR fs.list)/\M d=U (.dT<|eC fs.list):=by have#[a,n,f,b,d,us,rfl,g,i,j,l,m]:=h;exact#[f,us,b,d,aS (c:=10.3) (e _ _ g) G (by decide) G,aS (c:=10.3) (e _ _ g) G (by decide) G,aS (c:=10.3) (e _ _ g) G (by decide) G,i,(m4 fs us).mp m,j,l]
def aE.ax(h:aE ad M x u)(b:aj M H):∃n d e,aY (Gq K ad k) H u '(' (.int (x.1.number:Nat))/\aY (Gq K ad k) H u 'V' n/\aY (Gq K ad k) H u '<' (.int<|br x.1.mode)/\aY (Gq K ad k) H u ',' d/\aY (Gq K ad k) H u 'K' e/\
    ej M n x.1.name/\ai ad M x.2 d/\gy ad M x.2 e (Qr x.1 x.2):=by have#[a,j,n,d,e,rfl,c,f,g,i]:=h;exact#[n,d,e,aS (c:=10.4) (b _ _ c) G (by decide) G,aS (c:=10.4) (b _ _ c) G (by decide) G,aS (c:=10.4) (b _ _ c) G (by decide) G,aS (c:=10.4) (b _ _ c) G (by decide) G,aS (c:=10.4) (b _ _ c) G (by decide) G,f,g,i]
def iK{d H1 a b:Hp}{kd:Kd}{v:V}{x:Sk}(g:Go W0 d H1 a b)(h:qw ad a b H1 kd v x):∃c,Go W0 d H1 c b/\aj a c/\ar ad c kd v x:=by
 rcases kd with l|⟨c,f⟩;.exact⟨a,g,aj.refl _,h⟩
 .cases c;case true=>exact#[a,g,aj.refl _,h]
  have#[b,c,d,i,j,k,e,l,m]:=h;refine#[upd a b<|.lst c,g.freeze k l,bg e,?_];exact#[b,c,d,i,j,ah,bq.mono (bg e) f c d m]
def bM(k:Kd):(∃fs,k=.group false fs)\/(∃fs,k=.group true fs)\/∃l,k=.leaf l:=by match k with|.group false fs=>exact .inl #[fs,G]|.group true fs=>exact .inr<|.inl #[fs,G]|.leaf l=>exact .inr<|.inr #[l,G]
def Im{fs:Qh}(h:fs≠.nil):∃a kd r,fs=.cons a kd r:=by match fs with|.nil=>exact absurd rfl h|.cons a kd r=>exact#[a,kd,r,G]
def fW:(aw kd=123)↔∃fs,kd=.group false fs:=by match kd with|.leaf .bit=>simp[aw]|.leaf (.int n)=>simp[aw]|.leaf (.text n)=>simp[aw]|.group false fs=>simp[aw]|.group true fs=>simp[aw]
def jk:(aw kd=60)↔∃fs,kd=.group true fs:=by match kd with|.leaf .bit=>simp[aw]|.leaf (.int n)=>simp[aw]|.leaf (.text n)=>simp[aw]|.group false fs=>simp[aw]|.group true fs=>simp[aw]
def xU:(aw kd=116)↔∃n,kd=.leaf (.text n):=by match kd with|.leaf .bit=>simp[aw]|.leaf (.int n)=>simp[aw]|.leaf (.text n)=>simp[aw]|.group false a=>simp[aw]|.group true a=>simp[aw]
def gR:(br m=33)↔m=.one:=by induction m<;>simp[br,Ul]
def Ka:(br m=63)↔m=.opt:=by induction m<;>simp[br,Ul]
def yo:(br m=42)↔m=.many:=by induction m<;>simp[br,Ul]
def jn:(br m=37)↔m=.keyed:=by induction m<;>simp[br,Ul]
theorem fk:∀{fs:Qh}{x:HK},x∈fs.list->aF x.2<=ik fs
 |.nil,x,h=>by simp[PZ]at h|.cons h k r,x,a=>by
  erw[ik];rcases Qp.mp a with rfl|a;.exact Nat.le_max_left _ _
  .exact QW (fk a)<|Nat.le_max_right _ _
end
section
open Vacola (Lit)
section
variable{K:PY}{ad:F->P2}{k:Nat}
def sk(h:ar ad M kd v x)(hk:(QI kd).isSome=true)(a:aU kd x):∃(f:Td)(l:Xl)(b:P2)(g:List V)(u c:P2)(y:V)(d:Lit),QI kd=U (f,l)/\v=.ref b/\M b=U (.lst (.ref c::g))/\M c=U (.lst [.ref u])/\cZ ad M (.ref u) d/\R5 x=U d/\Rn l d=true:=by have#[#[f,l],e]:=QV.mp hk;have#[r,rfl,i]:=kY e;have#[b,g,m,rfl,rfl,j,k]:=h;have#[u,m,o,n,rfl,rfl,g,_]:=k;rw[CZ,O5]at a;have#[c,o,rfl,k,n]:=g;have g:=a.1;rw[i]at g;erw[QK,beq_iff_eq]at g;have#[y,rfl]:=YH.mp g;cases n with|cons g i=>cases i;have#[d,rfl,i]:=g;have g:=a.2.1.2 (.lit d) (by simp);rw[CY]at g;have#[a,n,w,q,rfl,o]:=i;exact#[f,l,b,m,a,c,.ao,d,e,G,j,k,#[a,n,w,q,G,o],G,g]
def cZ.worth(h:cZ ad M v l)(b:aj M H):∃w,aY (Gq K ad k) H v '[' w/\fL M w l:=by have#[a,e,w,q,rfl,c,d,f]:=h;exact#[w,aS (c:=10.1) (b _ _ c) G (by decide) G,d]
theorem tI:∀{o:List Sk},RJ o=true↔∀(j:Nat)(a b:Sk),o[j]?=U a->o[j+1]?=U b->Uk (R5 a) (R5 b)=true
 |[]=>by simp[RJ]|[v]=>by simp[RJ]|v::w::r=>by
  erw[RJ,QH];rw[tI (o:=w::r)];constructor;.rintro⟨e,f⟩j a b c d;induction j with|zero=>simp at c d;subst c d;exact e|succ j=>exact f j a b (by simpa using c) (by simpa using d)
  .intro h;exact#[h 0 v w G G,λj a b c d=>h (j+1) a b (by simpa using c)<|by simpa using d]
theorem xX:∀s t:Qv,lexLt (s.map λ(c:Nat)=>(c:Int)) (t.map λ(c:Nat)=>(c:Int))=ZK s t
 |[],[]=>rfl|[],b::t=>rfl|a::s,[]=>rfl|a::s,b::t=>by
  erw[Ql,lexLt,ZK,xX s t];by_cases h:a=b;.subst h;simp
  .have d:¬(a:Int)=(b:Int):=by lia
   rw[aaC d];have e:(a==b)=false:=by simpa using h
   rw[e,aaB,Bool.or_false];apply decide_eq_decide.mpr;lia
def qY(t:Qv):bv t=(t.map λ(c:Nat)=>(c:Int)).map V.int:=by unfold bv;rw[Se];rfl
def uk(h:Rn l x=true):typed l x:=by induction l<;>induction x<;>first|trivial|(cases h)
def Io(c:aj M H)(d:fL M e x)(f:fL M g y)(h:typed l x)(i:typed l y)(q:Q (.bl<|!Wh x y) H):pC K e g H Q:=by
 induction x with
 |num a=>
  induction y with
  |num b=>
   have j:e=.int a:=d;have e:g=.int b:=f;subst j e;show Q (.bl<|decide (b<=a)) H;have e:decide (b<=a)=!Wh (.num a) (.num b):=by show decide (b<=a)=!decide (a<b);rw[<-decide_not];apply decide_eq_decide.mpr;lia
   rw[e];exact q
  |str t=>induction l<;>first|exact h.elim|exact i.elim
 |str s=>
  induction y with
  |num b=>induction l<;>first|exact h.elim|exact i.elim
  |str t=>have#[b,rfl,a]:=d;have#[d,rfl,b]:=f;refine#[_,_,by rw[<-qY];exact aR.of<|c _ _ a,by rw[<-qY];exact aR.of<|c _ _ b,?_];rw[xX];exact q
end
end
section
variable{K:PY}{ad:F->P2}{k:Nat}
def CC{r C:Type}{R:Hp->V->C->Prop}(mono:∀M c v y,aj M c->R M v y->R c v y)(s:aj M H){us:List V}{xs:List r}(E:M b=U (.lst us))(X:us.length=xs.length)(hsz:xs.length<=1000000){g:r->Nat->C}{i l:Nat}(h:∀R:List V->Hp->Prop,R [.ref b] H->Y σ H R)(Z:∀v w,wipe (((wipe σ own).set i<|U v).set l<|U w) own=wipe σ own)(step:∀(j:Nat)(u:V)(x:r),us[j]?=U u->xs[j]?=U x->∀F H1,Go W0 M H F H1->∀I,(aJ W0 F H1 I λf _ v=>R f v<|g x j)->te (((wipe σ own).set i<|U<|.int (j:Nat)).set l<|U u) H1 I)(q:∀D vs c d,Go W0 M H c d->H D=O->d D=U (.lst vs)->c D=O->Paired (R c) vs (xs.zipIdx.map λz=>g z.1 z.2)->Q (.ref D) d):eY (jR K Y) (gT K<|.pair i l) dH te own σ H Q:=by
 refine h _ #[b,us,G,af.of<|s _ _ E,λD k=>?_];refine#[λj m d=>∃vs c,Go W0 M H c d/\d D=U (.lst vs)/\c D=O/\Paired (R c) vs ((xs.zipIdx.take j).map λz=>g z.1 z.2)/\j<=xs.length/\m=xs.length-j,#[_,[],M,(Go.refl s).alloc k,ah,s.none k,.nil,Q9 _,G],?_];rintro j m d⟨vs,c,e,J,L,n,hj,rfl⟩;have t:d b=U (.lst us):=e.ae _ _<|e.fr _ _ E;by_cases N:j<xs.length
 .obtain⟨x,P⟩:∃x,xs[j]?=U x:=#[xs[j],by simp[N]];obtain⟨u,A⟩:∃u,us[j]?=U u:=#[us[j]'∅,by simp[X,N]];have aa:xs.zipIdx[j]?=U (x,j):=by rw[List.getElem?_zipIdx,P];simp
  have ab:=take_snoc aa;refine .inr #[#[us,u,af.of t,A],λo=>∃vs c,Go W0 M H c o/\o D=U (.lst vs)/\c D=O/\Paired (R c) vs ((xs.zipIdx.take<|j+1).map λz=>g z.1 z.2),λo z1=>e6 z1 λvs c a2 a3 a4 a5=>#[_,∅,vs,c,a2,a3,a4,a5,∅,G],?_];rintro z o⟨T,y,rfl,hT,rfl,hy⟩;have ac:y=u:=QO<|(hy us<|af.of t).symm.trans A;subst ac;refine#[T,_,G,aR.of ah,G,_,_,G,_,_,G,G,Z _ _,?_];erw[dH,aaE];have B:Go W0 c d c<|upd d T<|.tup [.int (j:Nat),y]:=(Go.refl e.ae).alloc hT;refine step j y x A P c _ (e.aB B) _ λv f H3 p hr=>?_;have S:(upd d T<|.tup [.int (j:Nat),y]) D=U (.lst vs):=B.st D _ J id;have ad:H3 D=U (.lst vs):=p.st D _ S id;have W:f D=O:=p.da L S;have ak:=Qy n;rw[Qe,RC,Vx]at ak;refine#[vs,ad,by have:=c9;lia,vs++[v],f,((e.aB B).aB p).set (.inr k) W,ah,W,?_];rw[ab,Sf];exact Wi (Paired.imp' (λa b=>mono _ _ a b p.fr) n) hr
 .have al:j=xs.length:=by lia
  subst al;rw[SX<|by rw[Vx];exact Qg _]at n;exact .inl #[#[us,af.of t,∅],q D vs c d e k J L n]
def JZ:∀(acc:List<|Key×V),((acc++a).map (·.1)).Nodup->eT acc a=acc++a:=by
 induction a with
 |nil=>intro acc _;simp[eT]|cons a r b=>
  intro acc h;have c:(acc.any λx=>decide (x.1=a.1))=false:=by rw[VN];intro e;have#[y,d,e]:=V0.mp e;have e:=of_decide_eq_true e;rw[Sf,Ql,Xk]at h;exact h.2.2 y.1 (Ro.mpr #[y,d,G]) a.1 QE e
  show eT (putK acc a.1 a.2) r=_;have:putK acc a.1 a.2=acc++[a]:=by unfold putK;rw[c];rfl
  rw[this,b (acc++[a])<|by rw[QL];exact h,QL];rfl
theorem uq{a:Type}[DecidableEq a]{b:Type}{f:b->a}{n:a}{p:b->Bool}(hp:∀x,p x=true↔f x=n):∀(L:List b)(o:Nat),dX ((L.zipIdx o).map λx=>(f x.1,V.int (x.2:Nat))) n=(L.findIdx? p).map λj=>V.int ((j+o:Nat):Int)
 |[],o=>by simp[dX]|x::L,o=>by
  have b:=uq hp L<|o+1;unfold dX at b⊢;rw[List.zipIdx_cons,Ql,List.find?_cons,List.findIdx?_cons];by_cases a:p x=true;.have e:decide (f x=n)=true:=decide_eq_true ((hp x).mp a);erw[e,a,aaE];simp
  .have e:decide (f x=n)=false:=decide_eq_false λe=>a ((hp x).mpr e);erw[e,a,P1,aaF];rw[b];induction L.findIdx? p with|none=>rfl|some j=>erw[Qm,QS,V.int.injEq];lia
def mM{L:List HK}{n:Nat}:dX (dR L) (.inl (n:Int))=(posOf n L).map λp=>V.int (p:Nat):=by
 have:=uq (f:=λx:HK=>(Tu (x.1.number:Int):Key)) (n:=Tu (n:Int)) (p:=λx=>x.1.number==n) (λx=>by
  constructor
  .intro h
   have:x.1.number=n:=by simpa using h
   rw[this]
  .intro h
   have:=Xg h
   have:x.1.number=n:=by lia
   simpa using this) L 0
 simpa[dR,posOf]using this
noncomputable def df(t:Qv):List Key:=t.map λ(c:Nat)=>Tu (c:Int)
def sg(h:df s=df t):s=t:=by unfold df at h;exact ZD (λa b e=>by have:=Xg e;lia)|>.mp h
def sj(t:Qv):(df t).map kV=bv t:=by unfold df bv;rw[Se];rfl
def Kg{L:List HK}{n:Qv}:dX (eC L) (df n)=(L.findIdx? λx=>x.1.name==n).map λp=>V.int (p:Nat):=by
 have:=uq (f:=λx:HK=>df x.1.name) (n:=df n) (p:=λx=>x.1.name==n) (λx=>by
  constructor
  .intro h
   have:x.1.name=n:=by simpa using h
   rw[this]
  .intro h
   have:=sg h
   simpa using this) L 0
 simpa[eC,df]using this
def Kr(hr:cj L):((dR L).map (·.1)).Nodup:=by
 unfold dR;rw[Se];have:(L.zipIdx.map ((λx:Key×V=>x.1)∘λx:HK×Nat=>(Tu (x.1.1.number:Int),V.int (x.2:Nat))))=L.map λx=>(Tu (x.1.number:Int):Key):=by
  conv=>rhs;rw[<-Zl 0 L]
  rw[Se];rfl
 rw[this];unfold X9;rw[T6];exact hr.imp λ{a b}h e=>by have:=Xg e;lia
def Kh{L:List HK}(hr:(L.map λx=>x.1.name).Nodup):((eC L).map (·.1)).Nodup:=by
 unfold eC;rw[Se];have:(L.zipIdx.map ((λx:List Key×V=>x.1)∘λx:HK×Nat=>(x.1.1.name.map λ(c:Nat)=>(Tu (c:Int):Key),V.int (x.2:Nat))))=(L.map λx=>x.1.name).map df:=by
  conv=>rhs;rw[<-Zl 0 L]
  rw[Se,Se];rfl
 rw[this];unfold X9;rw[T6];exact Vb (λ{a b}h e=>h<|sg e) hr
end
section
variable{K:PY}{ad:F->P2}{k:Nat}
def sf(c:aj M H)(d:M a=O):aj M<|upd H a o:=λb u e=>by
 rw[aq<|bT e d]
 exact c b u e
def pI{c:Type}{P:P2->c->Prop}:∀{vs:List V}{ys:List c},Paired (λv y=>∃b,v=.ref b/\P b y) vs ys->∃a:List P2,vs=a.map V.ref/\Paired P a ys:=by intro _ _ c;induction c with|nil=>exact#[[],G,.nil]|cons h t c=>have#[b,e,h]:=h;have#[a,rfl,d]:=c;exact#[b::a,by rw[e];rfl,.cons h d]
theorem wB:∀fs:Qh,SH fs=fs.list.mapM λx=>Qr x.1 x.2|.nil=>by simp[SH,PZ]|.cons h k r=>by rw[SH,wB r];erw[PZ,RV];show(Qr h k).bind _=_;induction Qr h k with|none=>rfl|some o=>erw[P4];cases r.list.mapM λx=>Qr x.1 x.2<;>rfl
end
section
variable{K:PY}{ad:F->P2}{k:Nat}
theorem pl{n:Nat}:∀{fs:List (QQ×V)},fs.length<n->(bb f v fs).length<n+1
 |[],h=>by simp[bb];lia|(g,w)::r,h=>by
  erw[bb];split;.erw[P0]at h⊢;lia
  .induction n with|zero=>simp at h|succ n=>have:=pl (n:=n) (f:=f) (v:=v) (fs:=r) (by simpa using h);erw[P0];lia
def yU:SQ 97=true:=by decide
def yk{fs:Qh}{c lo hi:Int}(hk:2<=k)(b:aj M H)(g:M f=U (.lst us))(m:dz ad M fs us)(n:cj fs.list)(o:(fs.list.map λx=>x.1.name).Nodup)(hsz:fs.list.length<=1000)(p:aJ W0 M H Q λd j v=>aj M d/\∃a e h i,v=.ref a/\d a=U (.ins (ad 10.3) e [(')',.int c),('F',.int lo),('6',.int hi),('+',.ref f),('*',.ref h),('3',.ref i)])/\d h=U (.dK<|dR fs.list)/\d i=U (.dT<|eC fs.list)):
    1<=k/\iw (ad 10.3) (cw K ad 0.4<|k-1) [.int c,.int lo,.int hi,.ref f] H Q E:=by refine#[∅,λx e lk q ne=>?_];have l:Go W0 M H M<|upd (upd H e<|.own x) x<|.ins (ad 10.3) e []:=((Go.refl b).alloc q).alloc (by rw[aq<|Q4 ne];exact lk);refine#[x,e,f,us,M,fs,c,lo,hi,G,∅,ah,b.none lk,g,m,n,o,hsz,l.ae,λv d j g b=>e3 b λb m n=>e5 n λh i n o q=>#[b,?_]];have r:Go W0 M H d j:=l.trans g λb g=>.inr (by rw[g];exact lk);have b:=r.freeze lk n;have g:aj d<|upd d x<|.ins (ad 10.3) e [(')',.int c),('F',.int lo),('6',.int hi),('+',.ref f),('*',.ref h),('3',.ref i)]:=bg m;exact p _ _ _ b #[b.fr,x,e,h,i,G,ah,g _ _ o,g _ _ q]
end
section
variable{K:PY}{ad:F->P2}{k:Nat}
def kX(k:Kd):k=.leaf .bit\/(∃n,k=.leaf (.int n))\/(∃n,k=.leaf (.text n))\/(∃fs,k=.group false fs)\/∃fs,k=.group true fs:=by match k with|.leaf .bit=>exact .inl rfl|.leaf (.int n)=>exact .inr<|.inl #[n,G]|.leaf (.text n)=>exact .inr<|.inr<|.inl #[n,G]|.group false fs=>exact .inr<|.inr<|.inr<|.inl #[fs,G]|.group true fs=>exact .inr<|.inr<|.inr<|.inr #[fs,G]
def eR{fs:Qh}{p:Nat}(h:fs.list[p]?=U x):aF x.2<=ik fs:=fk<|List.mem_of_getElem? h
def O2{o:List Sk}(h:bp (λv y=>ar ad M kd v y) M a o):∃b us,a=.ref b/\M b=U (.lst us)/\us.length=o.length/\Paired (λv y=>ar ad M kd v y) us o:=by have#[b,us,e,c,a]:=h;exact#[b,us,e,c,Qy a,a]
end
section
variable{K:PY}{ad:F->P2}{k:Nat}
theorem ye{f:HK->Option (List Sk)}:∀{l:List HK}{ys:List (Kd×List Sk)},l.mapM (λx=>(f x).map λo=>(x.2,o))=U ys->l.mapM f=U (ys.map (·.2))|[],ys,h=>by simp at h;subst h;rfl|x::l,ys,h=>by rw[RV]at h;have#[y,a,h]:=aH.mp h;have#[c,b,h]:=aH.mp h;have#[o,c,e]:=omap.mp a;cases e;cases h;rw[RV,c,ye b];rfl
theorem yd{f:HK->Option (List Sk)}:∀{l:List HK},l.mapM (λx=>(f x).map λo=>(x.2,o))=O->l.mapM f=O|[],h=>by simp at h|x::l,h=>by rw[RV]at h⊢;cases a:f x with|none=>rfl|some o=>rw[a]at h;cases a:l.mapM (λx=>(f x).map λo=>(x.2,o))with|none=>rw[yd a];rfl|some b=>rw[a]at h;cases h
end
section
set_option tactic.hygienic true
section
variable{K:PY}{ad:F->P2}{k:Nat}
def jV{n:Nat}(hk:2<=k)(e:aj M H)(hp:bP M a path)(f:bp (λv y=>ar ad M kd v y) M b o)(g:aJ W0 M H Q λc _ v=>cz ad c v n path kd o):
    1<=k/\iw (ad 10.2) (cw K ad 0.3<|k-1) [.int (n:Nat),a,b] H Q E:=by refine#[∅,λx c lk h ne=>?_];refine#[x,c,_,a,b,G,∅,ah,G,?_];rw[cR];have d:aj M<|upd M x<|.ins (ad 10.2) c [('(',.int (n:Nat)),('U',a),('/',b)]:=bg<|e.none lk;exact g _ _ _ (Go.made e lk h ne) #[x,c,a,b,G,ah,hp.mono d,f.imp d λv y=>ar.mono d _ v y]
def cz.mono(b:aj M a){n:Nat}(h:cz ad M v n p kd o):cz ad a v n p kd o:=by have#[a,c,d,e,rfl,f,g,i]:=h;exact#[a,c,d,e,G,b _ _ f,g.mono b,i.imp b λv y=>ar.mono b _ v y]
def cz.ne{n:Nat}(h:cz ad M v n p kd o):v≠.ao:=by have#[a,_,_,_,rfl,_]:=h;simp
def mR(hl:M l=O)(a:ar ad M kd v x):bp (λw y=>ar ad (upd M l<|.lst [v]) kd w y) (upd M l<|.lst [v]) (.ref l) [x]:=
 #[l,[v],G,ah,.cons (ar.mono (bg hl) _ _ _ a) .nil]
def xG(h:cZ ad M v x):ar ad M (.leaf l) v<|.lit x:=by exact#[x,G,h]
def wF(h:ai ad M kd a)(hk:(QI kd).isSome=true)(b:aj M H):∃f u us,aY (Gq K ad k) H a '+' (.ref f)/\M f=U (.lst (u::us))/\aY (Gq K ad k) H u '(' (.int (bZ kd:Nat)):=by have#[#[a,l],e]:=QV.mp hk;have#[r,rfl,a]:=kY e;have#[f,us,e,g,c,_,_,d,a,_,_]:=ai.bI (K:=K) (k:=k) h b;erw[PZ]at a;cases a with|cons e a=>rename_i u us;have#[n,g,i,a,j,l,m,o,p,q,r]:=aE.ax (K:=K) (k:=k) e b;exact#[f,u,us,c,d,a]
end
end
section
variable{K:PY}{ad:F->P2}{k:Nat}
def ai.eU{c:Bool}(h:ai ad M (.group c fs) d)(e:aj M H):∃a b gs,d=.ref a/\H a=U (.ins (ad 10.3) b gs)/\gs.lookup ('8':QQ)=O:=by have#[a,b,f,g,i,j,rfl,d,_]:=h;exact#[a,b,_,G,e _ _ d,G]
theorem wD{a b:Type}{g:a->Option b}:∀{xs:List a}{j:Nat}{x:a},(∀y∈xs.take j,g y=O)->xs[j]?=U x->(g x).isSome=true->xs.findSome? g=g x|[],j,x,_,h,_=>by simp at h|a::xs,0,x,_,h,b=>by simp at h;subst h;have#[z,c]:=QV.mp b;rw[List.findSome?_cons,c]|a::xs,j+1,x,c,h,b=>by have d:g a=O:=c a (by simp);rw[List.findSome?_cons,d];exact wD (j:=j) (λy a=>c y<|by simp[a]) (by simpa using h) b
def nj{e f:Type}{R:V->e->Prop}(m:aj M H){xs:List e}(n:M b=U (.lst us))(hp:Paired R us xs){i:Nat}{D:Ends}{σ:St}(P:St->Prop)(g:e->Option f)(h:∀R:VK,R (.ref b) H->o σ H R)(p:P σ)(step:∀(j:Nat)(u:V)(x:e)(σ:St)(M1 H1:Hp),us[j]?=U u->xs[j]?=U x->R u x->P σ->Go W0 M H M1 H1->((g x).isSome=true->xs.findSome? g=g x)->∀lk:St->Hp->Prop,(g x=O->∀a k l,P a->Go W0 M H k l->lk a l)->tb {D with lk:=lk,ct:=lk,bk:=D.lk} (σ.set i<|U u) H1)(q:xs.findSome? g=O->∀a d c,P a->Go W0 M H d c->D.lk a c):gi (gL K o) (gT K<|.name i) tb D σ H:=by
 have o:=Qy hp;refine Cy (us:=us) h #[λj a c=>∃d,P a/\Go W0 M H d c/\∀y∈xs.take j,g y=O,?_,#[M,p,Go.refl m,by simp],?_,?_];.rintro j a c⟨d,_,e,_⟩;exact e.ae _ _<|e.fr _ _ n
 .rintro a c⟨d,m,e,f⟩;rw[o,TK]at f;exact q (List.findSome?_eq_none_iff.mpr f) a d c m e
 .rintro j u a c o⟨d,m,e,f⟩;have#[x,n,p]:=cn hp o;refine step j u x a d c o n p m e (λa=>wD f n a) _ λc e k l a d=>#[k,a,d,λy a=>?_];rw[take_snoc n]at a;rcases RW.mp a with a|a;.exact f y a
  .rw[RN.mp a];exact c
def Kt(h:aw old≠aw new)(a:aQ old=true\/aQ new=true):aP new old=U (1,[],[QG old]):=by
 rcases bM new with⟨b,rfl⟩|⟨b,rfl⟩|⟨l,rfl⟩<;>rcases bM old with⟨b,rfl⟩|⟨b,rfl⟩|⟨o,rfl⟩;.exact absurd rfl h
 .rfl
 .rfl
 .rfl
 .exact absurd rfl h
 .rfl
 .rfl
 .rfl
 .simp[aQ]at a
def Is(a:TT)(σ:St)(H:Hp)(c:Bool):Prop:=∀Q:Bool->Hp->Prop,Q c H->a σ H Q
def jZ{i:Nat}{P:V->Prop}(h:σ[i]?=U (U u))(p:P u):ph σ i P:=by rw[sP,h];exact p
def pd{n:St->Hp->Prop}(h:n σ H):cK Γ E .nil (sq D n) σ H:=h
def fc(c:Bool)(h:Is (bG Γ E t) σ H c)(d:c=true->cK Γ E a (sq D<|cK Γ E r D) σ H)(e:c=false->cK Γ E b (sq D<|cK Γ E r D) σ H):cK Γ E (.cons (.ite t a b) r) D σ H:=by refine h _ ?_;induction c with|true=>exact d rfl|false=>exact e rfl
theorem ip{c d:Bool}(e:Is (bG Γ E a) σ H c)(f:c=true->Is (bG Γ E b) σ H d):Is (bG Γ E<|.and a b) σ H<|c&&d:=λQ q=>by
 refine e _ ?_
 induction c with|true=>exact f rfl _ q|false=>exact q
theorem om{c d:Bool}(e:Is (bG Γ E a) σ H c)(f:c=false->Is (bG Γ E b) σ H d):Is (bG Γ E<|.or a b) σ H (c||d):=λQ q=>by
 refine e _ ?_
 induction c with|true=>exact q|false=>exact f rfl _ q
def mB{c:Bool}(b:Is (bG Γ E a) σ H c):Is (bG Γ E<|.not a) σ H<|!c:=λQ q=>b _ q
def ji{Γ:aO F}{i:Nat}{z n:Int}(a:σ[i]?=U (U u))(b:aY Γ H u f<|.int z)(d:Γ.gv g=.int n){c:Bool}(hc:c=decide (z=n)):Is (bG Γ E<|.cmp<|.rel .eq (.fld (.var i) f)<|.glob g) σ H c:=λQ q=>by
 subst hc
 refine jZ a #[_,b,?_]
 show kP (Γ.gv g) _
 rw[mw,d]
 refine#[G,?_]
 erw[kn,V.int.injEq]
 exact q
def xj{Γ:aO F}{i:Nat}{z n:Int}(a:σ[i]?=U (U u))(b:aY Γ H u f<|.int z)(d:Γ.gv g=.int n){c:Bool}(hc:c=!decide (z=n)):Is (bG Γ E<|.cmp<|.rel .ne (.fld (.var i) f)<|.glob g) σ H c:=λQ q=>by
 subst hc
 refine jZ a #[_,b,?_]
 show kP (Γ.gv g) _
 rw[mw,d]
 refine#[G,?_]
 erw[kn,V.int.injEq]
 exact q
def gG{P R:Prop}[Decidable P][Decidable R](h:P↔R):decide P=decide R:=decide_eq_decide.mpr h
def pw(c:aj M H){pre:List Nat}(d:M a=U (.lst<|bv pre))(hl:pre.length<=1000){n:Nat}(q:aJ W0 M H Q λb _ v=>bP b v<|pre++[n])(e:H l=O):pB (.ref a) (.ref l) (upd H l<|.lst [V.int (n:Nat)]) Q:=by
 have b:Go W0 M H M<|upd H l<|.lst [V.int (n:Nat)]:=(Go.refl c).alloc e;have c:=c9;refine#[a,l,bv pre,[V.int (n:Nat)],G,G,b.ae _ _ d,ah,by rw[bE];erw[QB];lia,λp a=>?_];have e:bv pre++[V.int (n:Nat)]=bv (pre++[n]):=by rw[qX];rfl
 rw[e];exact q _ _ _ (b.bc a) #[p,G,ah]
def xZ{c:Bool}{fs:Qh}{n:Nat}(e:aG n fs.list=U y){o:Option Ob}(h:ib ad M (pre++[n]) y.2 v o):ib ad M pre (.group c fs) v<|o.map<|cG n:=by
 induction o with
 |none=>exact h|some x=>
  show cz ad M v x.1 (pre++(n::x.2.1)) (kindAt (n::x.2.1)<|.group c fs) x.2.2;have a:kindAt (n::x.2.1) (.group c fs)=kindAt x.2.1 y.2:=by rw[aaM,e]
  rw[a];have a:cz ad M v x.1 ((pre++[n])++x.2.1) (kindAt x.2.1 y.2) x.2.2:=h;rw[QL]at a;exact a
end
section
variable{K:PY}{ad:F->P2}{k:Nat}
def xn{n r:Nat}(h:r<n):gN n (r:Nat)=U r:=by unfold gN;rw[aaD ∅,aaD ∅,VU]
end
def wC{a b:Type}{g:a->Option b}{xs:List a}{z:b}(h:xs.findSome? g=U z):∃x∈xs,g x=U z:=List.exists_of_findSome?_eq_some h
theorem pO{c:Bool}:∀{fs:Qh}{x:HK},x∈fs.list->sizeOf x.2<sizeOf fs
 |.nil,x,h=>by simp[PZ]at h|.cons h k r,x,a=>by
  erw[PZ,Qp]at a;rcases a with rfl|a;.simp;lia
  .have:=pO (c:=c) (fs:=r) a;simp;lia
def Kv:(n:Nat)->(c b:Kd)->sizeOf c<=n->∀x,aP c b=U x->x.2.1.length<=aF c/\f7 x.2.1 b x.2.2/\(x.2.1≠[]->aQ b=true):=by
 intro n;induction n with
 |zero=>intro c b h;cases c<;>simp at h|succ n m=>
  intro c b p x a;rcases bM c with⟨c,rfl⟩|⟨c,rfl⟩|⟨l,rfl⟩
  .rcases bM b with⟨f,rfl⟩|⟨f,rfl⟩|⟨o,rfl⟩
   .rw[PL,sR]at a;have#[z,g,e]:=wC a;have l:=fk g;have q:=pO (c:=false) g;simp at p;unfold iZ at e;cases c:aG z.1.number f.list with
    |none=>
     erw[c]at e;split at e;.cases e;refine#[by simp[aF],?_,λ_=>rfl];simp[f7,c]
     .cases e
    |some y=>
     erw[c]at e;cases d:R1 z.1 y.1 z.2 y.2 with
     |some w=>erw[d]at e;cases e;refine#[by simp[aF],?_,λ_=>rfl];simp[f7,c]|none=>
      erw[d]at e;have#[w,i,e]:=omap.mp e;subst e;have#[r,j,k]:=m z.2 y.2 ∅ w i;refine#[by simp[cG,aF];lia,?_,λ_=>rfl];erw[cG,f7,c];by_cases d:w.2.1=[];.exact .inl #[d,λh=>by cases h]
      .exact .inr #[d,k d,j]
   .cases a;exact#[Q9 _,trivial,λh=>absurd G h]
   .cases a;exact#[Q9 _,trivial,λh=>absurd G h]
  .rcases bM b with⟨f,rfl⟩|⟨f,rfl⟩|⟨o,rfl⟩;.cases a;exact#[Q9 _,trivial,λh=>absurd G h]
   .simp at p;rcases Option.or_eq_some_iff.mp a with e|⟨_,e⟩;.unfold je at e;have#[z,g,e]:=omap.mp e;subst e;have p:=List.mem_of_find?_eq_some g;refine#[by simp[aF],?_,λ_=>rfl];erw[f7];cases c:aG z.1.number f.list with|none=>exfalso;unfold aG at c;have:=List.find?_eq_none.mp c z p;simp at this|some y=>exact .inl #[trivial,λ_=>#[_,G]]
    .rw[sS]at e;have#[z,g,e]:=wC e;have l:=fk g;have q:=pO (c:=true) g;have#[y,c,e]:=aH.mp e;have#[w,i,e]:=omap.mp e;subst e;have#[r,j,k]:=m z.2 y.2 ∅ w i;refine#[by simp[cG,aF];lia,?_,λ_=>rfl];erw[cG,f7,c];by_cases d:w.2.1=[];.exact .inl #[d,λ_=>(sU z.2 y.2).2 w i d]
     .exact .inr #[d,k d,j]
   .cases a;exact#[Q9 _,trivial,λh=>absurd G h]
  .rcases bM b with⟨f,rfl⟩|⟨f,rfl⟩|⟨o,rfl⟩;.cases a;exact#[Q9 _,trivial,λh=>absurd G h]
   .cases a;exact#[Q9 _,trivial,λh=>absurd G h]
   .rw[PK]at a;unfold jT at a;have#[w,i,e]:=omap.mp a;have:=xF i;subst e;erw[this];exact#[Q9 _,trivial,λh=>absurd G h]
section
variable{K:PY}{ad:F->P2}{k:Nat}
def Sc.c7{M H:Hp}{a:P2}{t s:Qv}(h:Sc ad M H a t s){l:P2}{o:HO}(ne:a≠l)(e:M l=O):Sc ad (Z.upd M l o) H a t s:=by
 have#[f,g,b,i,c,j,k]:=h;by_cases d:b=l;.subst d;rw[e]at c;cases c
 .exact#[by rw[aq ne];exact f,g,b,i,by rw[aq d];exact c,j,k]
def ID{s:Qv}{c:Nat}(h:bf s≠(c:Nat)):∀r,s=c::r->False:=λr e=>h (by rw[e];rfl)
def N0{a:Type}{p:ag a}{c:Nat}{t:Qv}(h:∀r,t=c::r->False):bR p c t=U ([],t):=by induction t with|nil=>rfl|cons d r=>exact gb λe=>h r (by rw[e])
def Dj{i:Type}{one:ag i}{c:Nat}{R:Hp->V->i->Prop}(mono:∀M b v x,aj M b->R M v x->R b v x)(n:Le one){M H h H1:Hp}{a l:P2}{t f:Qv}{j:V}{k:i}{o:TT}{p:TS}{D:Ends}{σ:St}{E:XK}{e:F}(u:Go (W1 a) M H h H1)(w:H l=O)(y:H1 l=U (.lst [j]))(A:h l=O)(q:Sc ad h H1 a t f)(B:R h j k)(C:∀b d s',Sc ad b d a t s'->aj b d->∀Q:Bool->Hp->Prop,(bf s'≠(c:Nat)->Q false d)->(∀r,s'=c::r->∀g,Sc ad b g a t r->Go (W1 a) b d b g->Q true g)->o σ d Q)(I:∀b d s' vs(N:St->Hp->Prop),Go (W1 a) M H b d->Sc ad b d a t s'->s'.length<f.length->d l=U (.lst vs)->(∀x s v m g,one s'=U (x,s)->Go (W1 a) b d m g->Sc ad m g a t s->R m v x->vs.length<Qq/\N σ (upd g l<|.lst<|vs++[v]))->(one s'=O->Fail ad (W1 a) d E e)->p {D with lk:=N,ct:=N,bk:=D.lk} σ d)(J:∀ys s' vs b d,bR one c f=U (ys,s')->Go (W1 a) M H b d->d l=U (.lst vs)->b l=O->Paired (R b) vs (k::ys)->Sc ad b d a t s'->vs.length<=t.length+1->D.lk σ d)(K:bR one c f=O->Fail ad (W1 a) H E e):lL o p D σ H1:=by
 refine#[λm g d=>∃ys s' vs b,bR one c f=(bR one c s').map (λz=>(ys++z.1,z.2))/\m=s'.length/\g=σ/\d l=U (.lst vs)/\b l=O/\Sc ad b d a t s'/\Go (W1 a) M H b d/\Paired (R b) vs (k::ys)/\s'.length<=f.length/\vs.length+s'.length<=t.length+1,#[f.length,[],f,[j],h,?_,G,G,y,A,q,u,.cons B .nil,Qg _,?_],?_];.cases bR one c f<;>rfl
 .have:=q.iI.length_le;erw[QB];lia
 .rintro m g b⟨ys,o,vs,i,p,rfl,rfl,h,q,j,d,s,u,y⟩;refine C i b o j d.ae _ (λA=>?_) λr B m k g=>?_;.erw[P1,aaF];refine J ys o vs i b ?_ d h q s j ∅;rw[p,N0<|ID A];simp
  .erw[aaE];subst B;have b:m l=U (.lst vs):=g.st l _ h<|Q4<|j.ne h;have j:bR one c f=(aT one c r).map λz=>(ys++z.1,z.2):=by rw[p,fC n]
   refine#[_,λ_ _ h=>h,I i m r vs _ (d.then g) k (by erw[P0]at u;lia) b (λx h v i p m f o A=>#[?_,?_]) λB=>?_];.have C:=k.le;have:=c9;lia
   .have C:=n _ _ _ m;have n:p l=U (.lst vs):=f.st l _ b<|Q4<|k.ne b;have k:i l=O:=f.da q b;refine#[h.length,by erw[P0];lia,ys++[x],h,vs++[v],i,?_,G,G,ah,k,o.upd<|o.ne n,((d.then g).then f).set (.inr w) k,Wi (Paired.imp' (λa b=>mono _ _ a b f.fr) s) A,by erw[P0]at u;lia,?_];.rw[j];unfold aT;rw[m];erw[P4,Wj];congr 1;funext z;simp[Wr]
    .erw[P5,P0,Qs]at y⊢;lia
   .refine(K ?_).same (d.then g);rw[j];unfold aT;rw[B];rfl
def O1(kd:Kd):Le λt=>aM kd t:=λt x r h=>Xs<|BS h
end
section
variable{K:PY}{ad:F->P2}{k:Nat}
def NC{fs:Qh}{a:List V}{ss:List (List Sk)}{p:Nat}(h:bq ad M fs a ss)(d:fs.list[p]?=U x)(k:bp (λv y=>ar ad M x.2 v y) M v o):bq ad M fs (a.set p v)<|ss.set p o:=by
 have#[e,f]:=lG h;have g:p<fs.list.length:=(List.getElem?_eq_some_iff.mp d).1;refine j9 (by rw[T5];exact e) (by rw[T5];exact f) λj z w i c a b=>?_;by_cases i:j=p;.subst i;rw[d]at c;cases c;rw[List.getElem?_set_self<|by rw[e];exact g]at a;rw[List.getElem?_set_self<|by rw[f];exact g]at b;cases a;cases b;exact k
 .rw[List.getElem?_set_ne λe=>i e.symm]at a b;have#[g,i,d,e,f]:=lF h c;rw[a]at d;rw[b]at e;cases d;cases e;exact f
theorem tT{a:Type}{e o:a}:∀{pre:List a}{n p:Nat},pre.length<=p->p<n->(pre++QA (n-pre.length) e).set p o=pre++(QA (p-pre.length) e++o::QA (n-p-1) e)
 |[],n,0,_,h=>by induction n with|zero=>lia|succ n=>simp[RH]
 |[],n,p+1,_,h=>by induction n with|zero=>lia|succ n=>have:=tT (e:=e) (o:=o) (pre:=[]) (n:=n) (p:=p) (by simp) ∅;erw[Rk,Qs,YT]at this⊢;rw[RH,ZC,this,RH];erw[QT];congr 3;congr 1;lia
 |a::pre,n,p,h,b=>by induction p with|zero=>simp at h|succ p=>induction n with|zero=>lia|succ n=>have:=tT (e:=e) (o:=o) (pre:=pre) (n:=n) (p:=p) (by simpa using h) ∅;erw[QT,P0,Nat.add_sub_add_right,ZC];rw[this]
end
section
variable{K:PY}{ad:F->P2}{k:Nat}
def Cz{i l:Nat}{D:Ends}{σ:St}{xs ys:List V}(I:Nat->St->Hp->Prop)(h:∀R:List V->Hp->Prop,R [.ref a,.ref b] H1->s σ H R)(n:∀j σ H,I j σ H->H a=U (.lst xs)/\H b=U (.lst ys))(t:xs.length=ys.length)(o:I 0 σ H1)(u:∀σ H,I xs.length σ H->D.lk σ H)(w:∀(j:Nat)(x y:V)(σ:St)(H:Hp)(T:P2),xs[j]?=U x->ys[j]?=U y->I j σ H->H T=O->tb {D with lk:=I<|j+1,ct:=I<|j+1,bk:=D.lk} ((σ.set i<|U x).set l<|U y) (upd H T<|.tup [x,y])):gi (kT K s) (gT K<|.pair i l) tb D σ H:=by
 have#[z,A]:=n 0 σ H1 o;refine h _ #[a,b,xs,ys,G,af.of z,af.of A,λj m σ H=>I j σ H/\j<=xs.length/\m=xs.length-j,#[_,o,Q9 _,G],?_];rintro j m σ H⟨c,M,rfl⟩;have#[d,f]:=n j σ H c;by_cases p:j<xs.length;.obtain⟨x,g⟩:∃x,xs[j]?=U x:=#[xs[j],by simp[p]];obtain⟨y,k⟩:∃y,ys[j]?=U y:=#[ys[j]'∅,by simp[<-t,p]];refine .inr #[#[xs,ys,x,y,af.of d,af.of f,g,k],I<|j+1,λN B h=>#[_,∅,h,∅,G],?_];rintro v B⟨T,q,r,rfl,C,rfl,E,F⟩;have J:q=x:=QO<|(E xs<|af.of d).symm.trans g;have L:r=y:=QO<|(F ys<|af.of f).symm.trans k;subst J L;exact#[T,_,G,aR.of ah,G,_,_,G,_,_,G,G,w j q r σ H T g k c C]
 .have e:j=xs.length:=by lia
  subst e;exact .inl #[#[xs,ys,af.of d,af.of f,.inl<|Qg _],u σ H c]
def OE{i l:Nat}{D:Ends}{σ:St}{xs:List V}(I:Nat->St->Hp->Prop)(h:∀R:List V->Hp->Prop,R [.ref a] H1->n σ H R)(f:∀j σ H,I j σ H->H a=U (.lst xs))(g:I 0 σ H1)(o:∀σ H,I xs.length σ H->D.lk σ H)(p:∀(j:Nat)(x:V)(σ:St)(H:Hp)(T:P2),xs[j]?=U x->I j σ H->H T=O->tb {D with lk:=I<|j+1,ct:=I<|j+1,bk:=D.lk} ((σ.set i<|U<|.int (j:Nat)).set l<|U x) (upd H T<|.tup [.int (j:Nat),x])):gi (jR K n) (gT K<|.pair i l) tb D σ H:=by
 have q:=f 0 σ H1 g;refine h _ #[a,xs,G,af.of q,λj m σ H=>I j σ H/\j<=xs.length/\m=xs.length-j,#[_,g,Q9 _,G],?_];rintro j m σ H⟨b,y,rfl⟩;have c:=f j σ H b;by_cases r:j<xs.length;.obtain⟨x,d⟩:∃x,xs[j]?=U x:=#[xs[j],by simp[r]];refine .inr #[#[xs,x,af.of c,d],I<|j+1,λz s h=>#[_,∅,h,∅,G],?_];rintro v s⟨T,k,rfl,t,rfl,u⟩;have w:k=x:=QO<|(u xs<|af.of c).symm.trans d;subst w;exact#[T,_,G,aR.of ah,G,_,_,G,_,_,G,G,p j k σ H T d b t]
 .have e:j=xs.length:=by lia
  subst e;exact .inl #[#[xs,af.of c,Qg _],o σ H b]
end
section
variable{K:PY}{ad:F->P2}{k:Nat}
def Oo{fs:Qh}(h:∀(p:Nat)(x:HK)(o:List Sk),fs.list[p]?=U x->ss[p]?=U o->QK x.1.mode o=true):d9 (aD fs) ss=true:=by unfold d9;rw[RX];intro z b;have#[p,a]:=List.getElem?_of_mem b;rw[List.getElem?_zip_eq_some,ki,List.getElem?_map]at a;have#[x,b,e]:=omap.mp a.1;rw[<-e];exact h p x z.2 b a.2
theorem wc(p:Nat->Bool):∀(l:List Nat),(l.dropWhile p).length<=l.length
 |[]=>Qg _|a::l=>by
  rw[List.dropWhile_cons];split;.exact Nat.le_succ_of_le<|wc p l
  .exact Qg _
def IV{fs:Qh}{r s':Qv}{ss:List (List Sk)}(hr:r.length<=5000)(h:eA (aD fs) r=U (ss,s')):ss.length=fs.list.length/\∀(p:Nat)(x:HK)(o:List Sk),fs.list[p]?=U x->ss[p]?=U o->o.length<=5000/\∀v∈o,aU x.2 v:=by
 delta eA at h;split at h;.cases h;rw[ki,Se];refine#[by rw[Qe],λp x o b a=>?_];rw[List.getElem?_map,b]at a;cases a;simp
 .have#[#[b,c],a,h]:=aH.mp h;have#[u,_,h]:=omap.mp h;cases h;exact(qb fs).1 _ _ _ _ (QW (wc _ _) hr) a
def ym{t:Qv}(hk:2<=k)(c:aj M H)(hl:M l=U (.lst<|bv t))(d:t.length<=5000)(e:∀a b,H a=O->Go W0 M H M b->Sc ad M b a t t->Q (.ref a) b):
    1<=k/\iw (ad 10.0) (cw K ad 0.1<|k-1) [.ref l] H Q E:=by
 refine#[∅,λx b lk f ne=>?_];refine#[x,b,.ref l,G,∅,ah,G,?_];rw[cR];have g:Go W0 M H M<|upd H b<|HO.own x:=(Go.refl c).alloc f;have f:(upd H b<|HO.own x) x=O:=by rw[aq<|Q4 ne];exact lk
 refine e x _ lk (g.alloc f) #[c.none lk,b,l,?_,hl,List.suffix_refl t,d];rw[ah,YU];rfl
end
theorem join_snoc{c:Nat}:∀(L:List Qv)(s:Qv),Qd c (L++[s])=if L=[]then s else Qd c L++c::s|[],s=>by rfl|[a],s=>by rfl|a::b::L,s=>by have d:=join_snoc (c:=c) (b::L) s;rw[aaC<|by simp]at d;rw[aaC<|by simp];show Qd c (a::((b::L)++[s]))=_;rw[iH ((b::L)++[s]) a<|by simp,d,iH (b::L) a<|by simp];simp
theorem r9{c:Nat}:∀(L R:List Qv),(Qd c L).length<=(Qd c<|L++R).length|[],R=>by simp[Qd]|[a],[]=>by simp|[a],b::R=>by show a.length<=(Qd c (a::(b::R))).length;rw[iH _ _<|by simp];simp|a::b::L,R=>by have d:=r9 (c:=c) (b::L) R;show(Qd c (a::(b::L))).length<=(Qd c (a::((b::L)++R))).length;rw[iH (b::L) a<|by simp,iH ((b::L)++R) a<|by simp,P5,P5,P0,P0];lia
noncomputable def fj(x:HK)(o:List Sk):Qv:=x.1.name++(58::Qd 44 (o.map λv=>P6 x.2 v))
noncomputable def dN(z:HK×List Sk):Option Qv:=if z.2.isEmpty then O else U (fj z.1 z.2)
theorem tU:∀(fs:Qh)(ss:List<|List Sk),Qz fs ss=(fs.list.zip ss).filterMap dN|.nil,ss=>by simp[Qz,PZ]|.cons h k r,[]=>by rfl|.cons h k r,o::ss=>by rw[Qz,tU r ss];erw[PZ,Tc,Uj];unfold dN;simp only;split<;>simp_all [fj]
section
variable{K:PY}{ad:F->P2}{k:Nat}
def bW.add(h:bW M H l ts)(a:aj M H):Go (W1 l) M H M (upd H l<|.lst us)/\bW M (upd H l<|.lst us) l us:=#[(Go.refl a).set (.inl G) h.1,h.1,ah]
end
section
variable{K:PY}{ad:F->P2}{k:Nat}
def JO(c:Nat):(decide (97<=(c:Int))&&decide ((c:Int)<=122))=Vf c:=by unfold Vf;rw[Rt];simp;lia
def JP{c:Nat}(h:Vf c=true):Qa c=true:=by unfold Qa;rw[h];rfl
theorem take_all(p:Nat->Bool):∀(l:List Nat),(l.takeWhile p).all p=true
 |[]=>rfl|a::l=>by
  rw[Vk];split;.rename_i h;erw[Tz,h,take_all p l,Yy]
  .rfl
def J9(c:Nat):gM (V.int (c:Nat)) [V.int 33,V.int 63,V.int 42,V.int 37]=(Tt c).isSome/\∀m,Tt c=U m->br m=(c:Nat):=by
 unfold Tt;by_cases a:c=33;.subst a;exact#[G,λm h=>by cases h;rfl]
 by_cases b:c=63;.subst b;exact#[G,λm h=>by cases h;rfl]
 by_cases d:c=42;.subst d;exact#[G,λm h=>by cases h;rfl]
 by_cases e:c=37;.subst e;exact#[G,λm h=>by cases h;rfl]
 .rw[aaC a,aaC b,aaC d,aaC e];refine#[?_,λm h=>by cases h];have e:∀z:Int,z≠(c:Nat)->gH (V.int z) (V.int (c:Nat))=false:=λz a=>by show(z==((c:Nat):Int))=false;simpa using a
  unfold gM;erw[VT,List.any_nil,e 33 ∅,e 63 ∅,e 42 ∅,e 37 ∅,Bool.or_self,WL]
def LM{c:Bool}:((Q3 c:Nat):Int)=60↔c=true:=by induction c<;>simp[Q3]
def LL{c:Bool}:((Q3 c:Nat):Int)=123↔c=false:=by induction c<;>simp[Q3]
def xi{Γ:aO F}{i:Nat}{z n:Int}(a:σ[i]?=U (U<|.int z))(b:Γ.gv g=.int n){c:Bool}(hc:c=decide (z=n)):Is (bG Γ E<|.cmp<|.rel .eq (.var i)<|.glob g) σ H c:=λQ q=>by
 subst hc
 refine jZ a ?_
 show kP (Γ.gv g) _
 rw[mw,b]
 refine#[G,?_]
 erw[kn,V.int.injEq]
 exact q
def r6{Γ:aO F}{i:Nat}{z n:Int}(a:σ[i]?=U (U<|.int z))(b:Γ.gv g=.int n){c:Bool}(hc:c=!decide (z=n)):Is (bG Γ E<|.cmp<|.rel .ne (.var i)<|.glob g) σ H c:=λQ q=>by
 subst hc
 refine jZ a ?_
 show kP (Γ.gv g) _
 rw[mw,b]
 refine#[G,?_]
 erw[kn,V.int.injEq]
 exact q
theorem tF:∀{ns:List Nat},c8 ns=true↔∀(j:Nat)(a b:Nat),ns[j]?=U a->ns[j+1]?=U b->a<b
 |[]=>by simp[c8]|[a]=>by simp[c8]|a::b::r=>by
  rw[c8,QH,decide_eq_true_eq,tF (ns:=b::r)];constructor;.rintro⟨f,e⟩j x y c d;induction j with|zero=>simp at c d;lia|succ j=>exact e j x y (by simpa using c) (by simpa using d)
  .intro h;exact#[h 0 a b G G,λj x y c d=>h (j+1) x y (by simpa using c)<|by simpa using d]
end
def Hw{a:Type}[BEq a][LawfulBEq a]:∀(n:Nat)(l:List a),l.length<=n->l.eraseDups.length<=l.length:=by intro n;induction n with|zero=>intro l h;rw[Qj.mp<|Tx.mp h];simp|succ n c=>intro l h;induction l with|nil=>simp|cons a l=>rw[Zn,P0,P0];have b:=YZ (λb=>!b==a) l;have d:=c (l.filter λb=>!b==a) (by erw[P0]at h;lia);lia
def Hv{a:Type}[BEq a][LawfulBEq a]:∀(n:Nat)(l:List a),l.length<=n->(l.eraseDups.length=l.length↔l.Nodup):=by
 intro n;induction n with
 |zero=>intro l h;rw[Qj.mp<|Tx.mp h];simp|succ n d=>
  intro l h;induction l with
  |nil=>simp|cons a l=>
   erw[P0]at h;have b:=YZ (λb=>!b==a) l;have c:=Hw _ (l.filter λb=>!b==a)<|Qg _;rw[Zn,P0,P0,RI];constructor
   .intro e;have c:(l.filter λb=>!b==a).length=l.length:=by lia
    have f:=List.length_filter_eq_length_iff.mp c;have c:l.filter (λb=>!b==a)=l:=Zm.mpr f;rw[c]at e;exact#[λg=>by simpa using f a g,(d l ∅).mp ∅]
   .rintro⟨f,g⟩;have c:l.filter (λb=>!b==a)=l:=Zm.mpr λb a=>by erw[ZZ,beq_eq_false_iff_ne,ne_eq];intro e;exact f<|e▸a
    rw[c,(d l ∅).mpr g]
def xA:LawfulBEq Key where
 eq_of_beq {a b} h:=by
  induction a<;>induction b<;>first|(exact congrArg _<|eq_of_beq h)|cases h
 rfl {a}:=by
  induction a with|inl a=>exact beq_self_eq_true a|inr a=>exact beq_self_eq_true a
section
variable{K:PY}{ad:F->P2}{k:Nat}
theorem xP:∀(fs:Qh),R3 fs=(fs.list.map λx=>Q0 x.2).sum|.nil=>by simp[R3,PZ]|.cons h k r=>by simp[R3,PZ,xP r]
end
section
variable{K:PY}{ad:F->P2}{k:Nat}
def yx{lo hi n:Nat}(h:cN lo hi s=U (n,r)):lo<=n/\n<=hi:=by
 unfold cN at h;have#[x,_,h]:=aH.mp h;split at h;.cases h
 .cases h;simp only at*;lia
def xy{d:Nat}(a:bf s≠123)(b:bf s≠60):bj d s=(dg s).map λx=>(.leaf x.1,x.2):=by
 induction d with
 |zero=>rfl|succ d=>
  unfold bj;split;.exact absurd rfl a
  .exact absurd rfl b
  .rfl
def Jr{d:Nat}{c:Bool}:bj d (Q3 c::r)=if d=0 then O else(aN (Q3 c) (Q3 c::r)).bind (de (bj<|d-1) c):=by have a:aN (Q3 c) (Q3 c::r)=U r:=bL.mpr rfl;rw[a];induction d with|zero=>induction c<;>rfl|succ d=>induction c<;>rfl
def JA{c:Nat}(a:c≠98)(hi:c≠105)(b:c≠116):dg (c::s)=O:=by
 delta dg;split;.rename_i e;exact absurd (Ue e).1 a
 .rename_i e;exact absurd (Ue e).1 hi
 .rename_i e;exact absurd (Ue e).1 b
 .rfl
def head_cons{c:Nat}(h:bf s=(c:Nat)):∃r,s=c::r:=by
 induction s with
 |nil=>erw[bf]at h;lia
 |cons d r=>exact⟨r,by have:d=c:=by erw[bf]at h;lia
                       rw[this]⟩
end
section
variable{K:PY}{ad:F->P2}{k:Nat}
def yj{h:Td}(hk:4<=k)(b:aj M H)(m:ej M c h.name)(g:ai ad M kd d)(hd:iR (cZ ad M) e h.dflt)(f:h.dflt.isSome->∃l,kd=.leaf l)(j:aI kd)(n:aJ W0 M H Q λa _ v=>aE ad a (h,kd) v):
    1<=k/\iw (ad 10.4) (cw K ad 0.5<|k-1) [.int (h.number:Nat),c,.int<|br h.mode,d,e] H Q E:=by
 refine#[∅,λx a lk i ne=>?_];have o:Go W0 M H M<|upd H a<|HO.own x:=(Go.refl b).alloc i;have p:(upd H a<|HO.own x) x=O:=by rw[aq<|Q4 ne];exact lk
 have i:=o.alloc (o:=HO.ins (ad 10.4) a []) p;refine#[x,a,h,kd,c,d,e,M,G,∅,ah,b.none lk,g,hd,f,j,i.ae,λv e b f j=>e3 j λo p j=>e3 j λj q r=>#[o,?_]];have o:Go W0 M H e b:=i.trans f λb i=>.inr (by rw[show b=x from i];exact lk);have i:=o.freeze lk q;have b:aj e<|upd e x<|HO.ins (ad 10.4) a [('(',.int (h.number:Nat)),('V',c),('<',.int<|br h.mode),(',',d),('K',j)]:=bg p;exact n _ _ _ i #[x,a,c,d,j,G,ah,(m.mono f.fr).mono b,ai.mono (f.fr.trans b) _ _ g,r.mono b]
end
theorem Bz:∀{xs:List HK},c8 (xs.map λx=>x.1.number)=true->cj xs|[],_=>Wb|x::xs,h=>by rw[Ql]at h;exact UZ (λy a=>tG _ _ h _<|Ro.mpr #[y,a,G])<|Bz<|tH h
def Nv{c:Bool}{xs:List HK}(ay:∀x∈xs,dD c x)(hr:cj xs):xs.length<=999:=by
 rcases tE (n:=0) hr (λx a=>(ay x a).2.1) (λx a=>(ay x a).2.2.1)with h|h;.lia
 .rw[h];simp
section
variable{K:PY}{ad:F->P2}{k:Nat}
theorem IW:∀{vs:List V}{ys:List Nat},Paired (λv(y:Nat)=>v=V.int (y:Nat)) vs ys->vs=bv ys:=λh=>by
 induction h with|nil=>rfl|cons h _ a=>rw[h,a];rfl
def Sc.bO(h:Sc ad M H a t s)(g:Go W0 M H b c):Sc ad b c a t s:=h.over g id
end
theorem wY{n:Nat}:∀{xs:List HK},(∀x∈xs,aF x.2<=n)->ik (ofList xs)<=n|[],_=>by simp[ofList,ik]|x::xs,h=>by erw[ofList,ik];exact Nat.max_le.mpr #[h x<|by simp,wY λy a=>h y<|by simp[a]]
def HZ{c:Bool}(h:d0 kp c t=U (x,r)):∃u v,kp u=U (x.2,v):=by
 unfold d0 at h;have#[n,_,h]:=aH.mp h;have#[a,_,h]:=aH.mp h;have#[m,_,h]:=aH.mp h;have#[k,a,h]:=aH.mp h;split at h;.cases h
 .have#[d,_,h]:=omap.mp h;cases h;exact#[_,_,a]
def n8{d:Nat}{c:Bool}(ih:∀t k r,bj d t=U (k,r)->aF k<=d)(h:de (bj d) c t=U (k,r)):aF k<=d+1:=by
 have#[xs,h1,h2,rfl]:=ij.mp h;have hb:=(nW (c:=c) (gO d).1 (gO d).2).1;erw[aF];have:=wY (n:=d) (pM (P:=λx:HK=>aF x.2<=d) hb.le (λt x r hx=>by
  have#[u,v,hu]:=HZ hx
  exact ih _ _ _ hu) h1)
 lia
theorem oA:∀(d:Nat)(t:Qv)(k:Kd)(r:Qv),bj d t=U (k,r)->aF k<=d
 |0,t,k,r,h=>by have#[x,_,h]:=omap.mp h;cases h;simp[aF]|d+1,t,k,r,h=>by
  unfold bj at h;split at h;.exact n8 (λt k r h=>oA d t k r h) h
  .exact n8 (λt k r h=>oA d t k r h) h
  .have#[x,_,h]:=omap.mp h;cases h;simp[aF]
section
variable{K:PY}{ad:F->P2}{k:Nat}
def J6(hk:2<=k)(d:aj M H)(f:bP M a t)(hr:ai ad M (.group false fs) b)(g:aJ W0 M H Q λc _ v=>c6 ad c v t fs):
    1<=k/\iw (ad 10.5) (cw K ad 0.6<|k-1) [a,b] H Q E:=by refine#[∅,λx c lk h ne=>?_];refine#[x,c,a,b,G,∅,ah,G,?_];rw[cR];have e:aj M<|upd M x<|.ins (ad 10.5) c [('.',a),('M',b)]:=bg<|d.none lk;exact g _ _ _ (Go.made d lk h ne) #[x,c,a,b,G,ah,f.mono e,ai.mono e _ _ hr]
end
section
set_option tactic.hygienic true
noncomputable def jl(c:Nat)(L:List Qv):Nat:=(Qd c L).length
def oy{c:Nat}{s:Qv}:jl c [s]=s.length:=G
def ox{c:Nat}{s:Qv}(h:L≠[]):jl c (s::L)=s.length+(1+jl c L):=by unfold jl;rw[iH _ _ h,P5,P0];lia
def xq{c:Nat}{s:Qv}:jl c (s::L)<=s.length+(1+jl c L):=by
 by_cases h:L=[];.subst h;rw[oy];lia
 .rw[ox h];exact Qg _
theorem xt{c:Nat}{s:Qv}:∀{L:List Qv},s∈L->s.length<=jl c L
 |a::L,h=>by
  by_cases a:L=[];.subst a;rw[RN.mp h,oy];exact Qg _
  .rw[ox a];rcases Qp.mp h with rfl|h;.lia
   .have:=xt (c:=c) h;lia
theorem r8{a b:Type}{R:a->Option b}{f:b->Qv}{g:a->Qv}{c n:Nat}:∀{o:List a}{q:List b},(∀v∈o,∀w,R v=U w->(f w).length<=((g v).length+1)*n)->o≠[]->o.mapM R=U q->jl c (q.map f)+1<=(jl c (o.map g)+1)*(n+1)
 |[v],q,h,_,e=>by rw[RV,Yx]at e;have#[w,a,e]:=aH.mp e;cases e;have:=h v (by simp) w a;erw[Ql,SE,oy];rw[Vd];lia|v::u::o,q,h,_,e=>by
  rw[RV]at e;have#[w,a,e]:=aH.mp e;have#[d,b,e]:=aH.mp e;cases e;have i:=h v (by simp) w a;have a:=r8 (c:=c) (o:=u::o) (λz a=>h z<|by simp[a]) (by simp) b;have a:=(fu b).1;have b:d.map f≠[]:=by intro e;rw[List.map_eq_nil_iff]at e;rw[e]at a;cases a
  have a:(u::o).map g≠[]:=by simp
  rw[Ql,Ql,ox b,ox a];have a:((g v).length+(1+jl c ((u::o).map g))+1)*(n+1)=((g v).length+1)*n+((g v).length+1)+(jl c ((u::o).map g)+1)*(n+1):=by erw[Nat.add_mul,Vd,Nat.mul_one,Nat.one_mul];lia
  rw[a];lia
def vX(n:Nat):1<=(Ra n).length:=by have:=(rB (n+1) n ∅).2.1;exact Ui.mpr this
def wV(h:Td):h.name.length+2<=(Um h).length:=by unfold Um;have:=vX h.number;erw[P5,P0,Qs];lia
def rO(h:Td)(k:Kd)(r:Qh):(Um h).length+(QM k).length+(Ri h).length+(RB r).length<=(RB<|.cons h k r).length:=by
 cases r with
 |nil=>erw[RB,P5,Qs];lia|cons a b c=>
  have e:RB (.cons h k<|.cons a b c)=Um h++(QM k++(Ri h++(59::RB (.cons a b c)))):=by rw[RB.eq_def]
  rw[e];erw[P5,P0];lia
def kind_len{c:Bool}:(QM<|.group c fs).length=(RB fs).length+2:=by rw[QM,P0,P5];rfl
def leaf_len(l:Xl):1<=(QM<|.leaf l).length:=by rw[QM];induction l<;>simp[V2]
def pV{c:Bool}:(P6 (.group c fs)<|.group ss).length=jl 59 (Qz fs ss)+2:=by rw[P6,P0,P5];rfl
def mn{o:List Sk}:(fj x o).length=x.1.name.length+(1+jl 44 (o.map λv=>P6 x.2 v)):=by unfold fj jl;rw[P5,P0];lia
def wA{h:Td}(a:∀v,RT k h.dflt=U v->(P6 k v).length<=(QM k).length+(Ri h).length){o:List Sk}(e:Qr h k=U o):jl 44 (o.map λv=>P6 k v)<=(QM k).length+(Ri h).length:=by
 unfold Qr at e;split at e;.have#[v,b,e]:=omap.mp e;subst e;rw[Ql,SE,oy];exact a v b
 .cases e;exact Q9 _
mutual
theorem wu:(k:Kd)->∀(h:Td)(v:Sk),RT k h.dflt=U v->(P6 k v).length<=(QM k).length+(Ri h).length|.leaf l,h,v,e=>by have#[d,a,e]:=omap.mp e;subst e;rw[P6];unfold Ri;rw[a];erw[P0];lia|.group true a,h,v,e=>by cases e|.group false a,h,v,e=>by have#[b,c,e]:=omap.mp e;subst e;rw[pV,kind_len];have:=wq a b c;lia
theorem wq:(fs:Qh)->∀ss,SH fs=U ss->jl 59 (Qz fs ss)<=(RB fs).length
 |.nil,ss,e=>by exact Q9 _|.cons h k r,ss,e=>by
  rw[SH]at e;have#[o,b,e]:=aH.mp e;have#[a,c,e]:=omap.mp e;subst e;have d:=wA (λv d=>wu k h v d) b;have b:=wq r a c;have b:=rO h k r;have b:=wV h;rw[Qz];split;.lia
  .have b:=xq (c:=59) (s:=h.name++(58::Qd 44 (o.map λv=>P6 k v))) (L:=Qz r a);have a:(h.name++(58::Qd 44 (o.map λv=>P6 k v))).length=h.name.length+(1+jl 44 (o.map λv=>P6 k v)):=mn (x:=(h,k)) (o:=o);lia
end
def rP{o:List Sk}(e:Qr h k=U o):jl 44 (o.map λv=>P6 k v)<=(QM k).length+(Ri h).length:=wA (λv a=>wu k h v a) e
def KD{c:Bool}{n:Nat}{o:List Sk}(e:SJ n fs ss=U ((g,j),o))(a:o≠[]):jl 44 (o.map λv=>P6 j v)+3<=(P6 (.group c fs)<|.group ss).length:=by
 have b:=List.mem_of_find?_eq_some e;have:fj (g,j) o∈Qz fs ss:=by rw[tU];exact Uz.mpr #[_,b,by simp[dN,a]]
 have:=xt (c:=59) this;rw[mn]at this;simp only at this;rw[pV];lia
theorem tX{n:Nat}:∀{gs:Qh}{ts:List (List Sk)},(∀(p:Nat)(x:HK)(o:List Sk),gs.list[p]?=U x->ts[p]?=U o->o≠[]->jl 44 (o.map λv=>P6 x.2 v)+1<=(n+1)*((QM x.2).length+(Ri x.1).length+1))->jl 59 (Qz gs ts)<=(n+1)*(RB gs).length
 |.nil,ts,_=>by exact Q9 _|.cons h k r,[],_=>by exact Q9 _|.cons h k r,o::ts,b=>by
  have a:=tX (gs:=r) (ts:=ts) λp x o c a=>b (p+1) x o (by simpa[PZ]using c) (by simpa using a);have c:=Vp (n+1)<|rO h k r;have d:=Vp (n+1)<|wV h;erw[Vd]at c d;rw[Qz];split;.lia
  .rename_i a;have c:=b 0 (h,k) o rfl rfl (by simpa using a);erw[Vd]at c;have a:=xq (c:=59) (s:=h.name++(58::Qd 44 (o.map λv=>P6 k v))) (L:=Qz r ts);have a:(h.name++(58::Qd 44 (o.map λv=>P6 k v))).length=h.name.length+(1+jl 44 (o.map λv=>P6 k v)):=mn (x:=(h,k)) (o:=o);have a:h.name.length<=(n+1)*h.name.length:=YY _ ∅;lia
theorem Ct:∀{gs:Qh}{ts:List (List Sk)},SV gs fs ss=U ts->∀(p:Nat)(z:HK)(o:List Sk),gs.list[p]?=U z->ts[p]?=U o->o≠[]->∃g j b,SJ z.1.number fs ss=U ((g,j),b)/\(b.mapM λv=>Qc z.2 j v)=U o
 |.nil,ts,_,p,z,o,a,_,_=>by simp[PZ]at a|.cons h k r,ts,e,p,z,o,a,c,f=>by
  have#[h,d,e]:=aH.mp e;have#[i,h,e]:=omap.mp e;subst e;induction p with
  |zero=>
   simp[PZ]at a c;subst a c;split at d;.rename_i g j b e;exact#[g,j,b,e,d]
   .cases d;exact absurd rfl f
  |succ p=>exact Ct h p z o (by simpa[PZ]using a) (by simpa using c) f
def Nn:(n:Nat)->(l r:Kd)->sizeOf l<=n->∀x y,Qc l r x=U y->(P6 l y).length<=((P6 r x).length+1)*(QM l).length:=by
 intro n;induction n with
 |zero=>intro l r h;cases l<;>simp at h|succ n D=>
  intro l r A x y d;have B:∀{c:Bool}{i f:Qh}{k:List (List Sk)},sizeOf i<=n->∀(p:Nat)(z:HK)(o:List Sk),i.list[p]?=U z->o≠[]->((∃g j m,SJ z.1.number f k=U ((g,j),m)/\(m.mapM λv=>Qc z.2 j v)=U o)\/Qr z.1 z.2=U o)->jl 44 (o.map λv=>P6 z.2 v)+1<=((P6 (.group c f)<|.group k).length+1)*((QM z.2).length+(Ri z.1).length+1):=by
   intro c i f k a p z o s t h;have a:=pO (c:=c)<|List.mem_of_getElem? s;rcases h with⟨g,j,m,u,q⟩|h
   .have C:m≠[]:=by intro e;subst e;simp at q;exact t q
    have a:=KD (c:=c) u C;have b:=r8 (c:=44) (f:=λv=>P6 z.2 v) (g:=λv=>P6 j v) (n:=(QM z.2).length) (λv E w c=>D z.2 j ∅ v w c) C q;refine QW b<|Nat.mul_le_mul ∅ ∅
   .have a:=rP h;refine QW (Zk a 1)<|YY _ ∅
  rcases bM l with⟨i,rfl⟩|⟨i,rfl⟩|⟨l,rfl⟩
  .rcases bM r with⟨f,rfl⟩|⟨f,rfl⟩|⟨o,rfl⟩
   .cases x with
    |lit v=>cases d|group k=>
     rw[PR,pG]at d;have#[a,c,e]:=omap.mp d;subst e;simp at A;have:=tX (n:=(P6 (.group false f)<|.group k).length) (gs:=i) (ts:=a) λp z o s t b=>by
      have:=(fu c).2 p z o s t;refine B (c:=false) ∅ p z o s b ?_;unfold eO at this;split at this
      .rename_i g j m u;have#[q,h,e]:=aH.mp this;split at e;.cases e;exact .inl #[g,j,m,u,h]
       .cases e
      .exact .inr this
     rw[pV (c:=false) (fs:=i),kind_len,Vd];lia
   .cases d
   .cases d
  .rcases bM r with⟨f,rfl⟩|⟨f,rfl⟩|⟨o,rfl⟩;.cases d
   .cases x with
    |lit v=>cases d|group k=>
     have#[a,c,e]:=aH.mp d;split at e;.cases e;simp at A;have h:∀{i:Qh}{a:List (List Sk)},SV i f k=U a->∀(p:Nat)(z:HK)(o:List Sk),i.list[p]?=U z->a[p]?=U o->o≠[]->∃g j m,SJ z.1.number f k=U ((g,j),m)/\(m.mapM λv=>Qc z.2 j v)=U o:=Ct;have:=tX (n:=(P6 (.group true f)<|.group k).length) (gs:=i) (ts:=a) λp z o s t b=>B (c:=true) ∅ p z o s b (.inl<|h c p z o s t b);rw[pV (c:=true) (fs:=i),kind_len,Vd];lia
     .cases e
   .cases d
  .rcases bM r with⟨f,rfl⟩|⟨f,rfl⟩|⟨o,rfl⟩;.cases d
   .cases d
   .cases x with
    |group k=>cases d|lit v=>
     rw[PQ]at d;split at d;.cases d;have:=leaf_len l;rw[P6];exact QW (Zj _)<|Nat.le_mul_of_pos_right _ this
     .cases d
end
section
open Vacola (Lit)
theorem wL{c:Bool}:∀{fs:Qh}{x:HK},(RB fs).length<=1998->x∈fs.list->gJ x
 |.nil,x,_,h=>by simp[PZ]at h|.cons h k r,x,b,a=>by
  have b:=rO h k r;erw[PZ,Qp]at a;rcases a with rfl|a;.show(QM k).length+(Ri h).length<=2000;lia
  .exact wL (c:=c) (fs:=r) ∅ a
def oB{c:Bool}{fs:Qh}(h:eS<|.group c fs)(a:x∈fs.list):gJ x:=by unfold eS at h;rw[kind_len]at h;exact wL (c:=c) ∅ a
def gJ.k(h:gJ x):eS x.2:=by unfold gJ at h;unfold eS;lia
def JL(v:Lit):RA v≠[]:=by
 induction v with
 |num z=>
  intro h;have h:RK z=[]:=h;unfold RK at h;split at h;.cases h
  .have:=vX z.natAbs;rw[h]at this;cases this
 |str s=>intro h;cases h
def N8(h:aU k x):P6 k x≠[]:=by
 cases k with
 |leaf l=>cases x with|lit v=>exact JL v|group a=>cases h
 |group c b=>cases x with|lit v=>induction c<;>cases h|group a=>rw[P6];simp
section
variable{K:PY}{ad:F->P2}{k:Nat}
theorem di.Iw(g:di W0 H a)(c:aj M H):Go W0 M H M a:=
 #[aj.refl M,λb o e=>g b o (c b o e) id,λ_ _ e=>.inl e,g,λb e=>by
  cases q:H b with|none=>rfl|some o=>rw[g b o q id]at e;cases e]
def FV{s t:Qv}:(s.map λ(c:Nat)=>(c:Int))=(t.map λ(c:Nat)=>(c:Int))↔s=t:=ZD λa b h=>by lia
def gy.ne(h:gy ad M kd v<|U o):v≠.ao:=by have#[b,a,rfl,_]:=(show bp (λv x=>ar ad M kd v x) M v o from h);simp
end
end
def Ol(h:aw old≠aw mid\/aw mid≠aw new)(a:aQ old=true\/aQ mid=true\/aQ new=true):QZ new mid old=false:=by rcases bM new with⟨b,rfl⟩|⟨b,rfl⟩|⟨l,rfl⟩<;>rcases bM mid with⟨b,rfl⟩|⟨b,rfl⟩|⟨o,rfl⟩<;>rcases bM old with⟨b,rfl⟩|⟨b,rfl⟩|⟨c,rfl⟩<;>first|rfl|(exfalso;rcases h with h|h<;>exact h G)|(simp[aQ]at a)
noncomputable def Oh(z:HK):Option HK->Option HK->Bool|some x,U y=>QZ z.2 y.2 x.2|some _,O=>false|none,U y=>TN z.1 z.2 y.1 y.2|none,O=>true
noncomputable def kg(gs fs:Qh)(z:HK):Bool:=Oh z (aG z.1.number fs.list)<|aG z.1.number gs.list
def Oj{hs gs fs:Qh}:S5 hs gs fs=hs.list.all (kg gs fs):=by rw[B1];refine congrArg (λf=>hs.list.all f)<|funext λz=>?_;unfold kg;cases aG z.1.number fs.list<;>cases aG z.1.number gs.list<;>rfl
theorem qU{a:Type}{f:a->Bool}:∀{xs:List a},xs.all f=(xs.findSome? λx=>if f x then O else U ()).isNone|[]=>rfl|x::xs=>by rw[Tz,List.findSome?_cons,qU (xs:=xs)];cases f x<;>rfl
section
variable{K:PY}{ad:F->P2}{k:Nat}
def rY(b:aj M H)(c:ai ad M kd a){i:Nat}(hk:1<=k)(h:σ[i]?=U (U a)):Is (bG (Gq K ad k) E<|.val<|.call 3.1<|.cons (.var i) .nil) σ H<|aQ kd:=λQ q=>by
 refine jZ h ?_
 exact#[a,kd,M,G,hk,c,b,q]
def xk{i j:Nat}{z n:Int}(a:σ[i]?=U (U u))(b:σ[j]?=U (U w))(d:aY Γ H u f<|.int z)(e:aY Γ H w g<|.int n){c:Bool}(hc:c=!decide (z=n)):Is (bG Γ E<|.cmp<|.rel .ne (.fld (.var i) f)<|.fld (.var j) g) σ H c:=λQ q=>by
 subst hc
 refine jZ a #[_,d,?_]
 refine jZ b #[_,e,G,?_]
 erw[kn,V.int.injEq]
 exact q
def Nj{L:List Qh}{j:Nat}(c:L[j]?=U a)(d:L[j+1]?=U b):QX (L.drop j) x=(UW b a x).bind (QX<|L.drop<|j+1):=by have#[e,f]:=List.getElem?_eq_some_iff.mp c;have#[c,g]:=List.getElem?_eq_some_iff.mp d;rw[To e,To c,f,g,QX]
def Nk{L:List Qh}{j:Nat}(h:L.length<=j+1):QX (L.drop j) x=U x:=by
 have c:(L.drop j).length<=1:=by rw[S4];lia
 cases d:L.drop j with|nil=>rfl|cons a r=>induction r with|nil=>rfl|cons b r=>rw[d]at c;simp at c
noncomputable def lM(l:List TF)(i:Nat):Bool:=match l[i]?,l[i+1]?,l[l.length-1]? with|some a,U b,U c=>Xe a.2 b.2 c.2|_,_,_=>false
def uB(l:List TF):jB l=(Uy<|l.length-2).all (lM l):=G
end
def et{a:Type}{us:List a}{i:Int}{u:a}(h:Vacolb.at? us i=U u):0<=i/\i<us.length/\us[i.toNat]?=U u/\fO us i=U u:=by
 unfold Vacolb.at? at h;by_cases a:i<0;.rw[aaD a]at h;cases h
 .rw[aaC a]at h;have a:=(List.getElem?_eq_some_iff.mp h).1;refine#[∅,∅,h,?_];have:=aV (j:=i.toNat) h;rwa[show((i.toNat:Nat):Int)=i from by lia]at this
def gE{a b:Type}{f:a->b}{us:List a}{i:Int}:Vacolb.at? (us.map f) i=(Vacolb.at? us i).map f:=by
 unfold Vacolb.at?;by_cases a:i<0;.rw[aaD a,aaD a];rfl
 .rw[aaC a,aaC a,List.getElem?_map]
def BI{n d:Nat}{i:Int}(h:0<=i)(a:i<=n):cp n d (U i)=i.toNat:=by unfold cp;erw[show¬i<0 from by lia,aaF];lia
def vS{xs:List V}{i j:Int}(a:0<=i)(c:i<=j)(b:j<=xs.length):fS xs (U i) (U j)=(xs.drop i.toNat).take (j.toNat-i.toNat):=by unfold fS;rw[BI a ∅,BI ∅ b]
section
variable{K:PY}{ad:F->P2}{k:Nat}
end
section
variable{s:Yl}{last:Qh}{i j n:Int}{t:Qv}
theorem aaW:QF s last (.step t)=match Th t with
 |.error _=>(s,.refused (-1))|.ok a=>if Xt<=s.versions.length then(s,.refused (-5))else match RS a last with
  |some x=>(s,.refused (-10-(x.number:Int)))
  |none=>({s with versions:=s.versions++[a]},.number s.versions.length):=G
theorem aa5:QF s last (.why t)=(s,match Th t with|.error _=>.refused (-1)|.ok fs=>UC last<|RS fs last):=G
theorem aa3:QF s last (.show i)=(s,match Vacolb.at? s.versions i with|none=>.refused (-3)|some fs=>.bytes<|WS fs):=G
def aaX:QF s last (.compare i j)=(s,Rv s.versions i j λa b=>UC a<|RS b a):=G
def aaV:QF s last (.read i j t)=(s,Rv s.versions i j λa b=>V1 a t λv=>UD b<|UW b a v):=G
def aaZ:QF s last (.through i j t)=(s,Rv s.versions i j λa b=>if j<i then .refused (-3)else V1 a t λv=>UD b<|QX (Z0 s.versions i.toNat j.toNat) v):=G
def aa4:QF s last (.straight i j)=(s,Rv s.versions i j λ_ _=>if j<i then .refused (-3)else .number (if Y3 s.versions i.toNat j.toNat then 1 else 0)):=G
theorem aaY:QF s last (.put t)=match UE last t with|.error _=>(s,.refused (-1))|.ok v=>if Vacolk.ROWS<=s.rows.length then(s,.refused (-4))else({s with rows:=s.rows++[(s.versions.length-1,v)]},.number s.rows.length):=G
theorem aa2:QF s last (.row n)=(s,match Vacolb.at? s.rows n with|none=>.refused (-3)|some x=>UD last<|Vacolk.latest s.versions x):=G
theorem aa1:QF s last (.origin n)=(s,match Vacolb.at? s.rows n with
 |none=>.refused (-3)|some x=>match s.versions[x.1]? with
  |none=>.refused (-3)
  |some fs=>.origin x.1<|SD fs x.2):=G
theorem aa0:QF s last (.drop n)=match Vacolb.at? s.rows n with|none=>(s,.refused (-3))|some _=>({s with rows:=s.rows.eraseIdx n.toNat},.number 0):=G
end
def ly{a b:Type}{R c:a->b->Prop}:∀{us:List a}{xs:List b},Paired R us xs->(∀u x,u∈us->R u x->c u x)->Paired c us xs:=by intro _ _ a f;induction a with|nil=>exact .nil|cons h t a=>exact .cons (f _ _ QE h)<|a λu x m r=>f u x (Qk _ m) r
theorem yK{c b:Type}{R:c->b->Prop}:∀{us:List c}{xs:List b}{z:b},Paired R us (xs++[z])->∃a u,us=a++[u]/\R u z/\Paired R a xs
 |_,[],z,h=>by cases h with|cons h t=>cases t;exact#[[],_,G,h,.nil]
 |_,x::xs,z,h=>by cases h with|cons h t=>have#[a,u,rfl,r,p]:=yK t;exact#[_::a,u,G,r,.cons h p]
def sX{a b:Type}{R:a->b->Prop}{u:a}{z:b}(r:R u z):∀{us:List a}{xs:List b},Paired R us xs->Paired R (us++[u]) (xs++[z]):=by intro _ _ a;induction a with|nil=>exact .cons r .nil|cons h t a=>exact .cons h a
def yI{a b:Type}{R:a->b->Prop}:∀{us:List a}{xs:List b}(j:Nat),Paired R us xs->Paired R (us.eraseIdx j) (xs.eraseIdx j):=by intro us xs j a;induction a generalizing j with|nil=>exact .nil|cons h t a=>induction j with|zero=>exact t|succ j=>exact .cons h<|a j
def Go.weak{W a:P2->Prop}(g:Go W M H c d)(h:∀b,W b->a b):Go a M H c d:=#[g.fr,g.ae,g.new,λb o e n=>g.st b o e λw=>n<|h b w,g.bQ]
def Go.any{W:P2->Prop}(g:Go W0 M H a b):Go W M H a b:=g.weak λ_ h=>h.elim
theorem Iy{W:P2->Prop}(a:aj M H)(g:di W0 H b):Go W M H M b:=#[aj.refl M,λb o e=>g b o (a b o e) id,λ_ _ h=>.inl h,λb o e _=>g b o e id,λb e=>by
 cases q:H b with|none=>rfl|some o=>rw[g b o q id]at e;cases e]
def GS(h:CI 0 xs t a):xs=[]/\∃u,t=U u/\a=.begin u:=by cases h;exact#[G,_,G,G]
def GU(h:CI 1 xs t a):xs=[]/\∃u,t=U u/\a=.step u:=by cases h;exact#[G,_,G,G]
def GZ(h:CI 2 xs t a):xs=[]/\∃u,t=U u/\a=.why u:=by cases h;exact#[G,_,G,G]
def G6(h:CI 9 xs t a):xs=[]/\∃u,t=U u/\a=.put u:=by cases h;exact#[G,_,G,G]
def G0(h:CI 3 xs t a):xs=[]/\t=O/\a=.versions:=by cases h;exact#[G,G,G]
def GV(h:CI 10 xs t a):xs=[]/\t=O/\a=.rows:=by cases h;exact#[G,G,G]
def G1(h:CI 4 xs t a):∃i,xs=[i]/\t=O/\a=.show i:=by cases h;exact#[_,G,G,G]
def GW(h:CI 11 xs t a):∃i,xs=[i]/\t=O/\a=.row i:=by cases h;exact#[_,G,G,G]
def GX(h:CI 12 xs t a):∃i,xs=[i]/\t=O/\a=.origin i:=by cases h;exact#[_,G,G,G]
def GY(h:CI 13 xs t a):∃i,xs=[i]/\t=O/\a=.drop i:=by cases h;exact#[_,G,G,G]
def G2(h:CI 5 xs t a):∃i j,xs=[i,j]/\t=O/\a=.compare i j:=by cases h;exact#[_,_,G,G,G]
def G5(h:CI 8 xs t a):∃i j,xs=[i,j]/\t=O/\a=.straight i j:=by cases h;exact#[_,_,G,G,G]
def G3(h:CI 6 xs t a):∃i j u,xs=[i,j]/\t=U u/\a=.read i j u:=by cases h;exact#[_,_,_,G,G,G]
def G4(h:CI 7 xs t a):∃i j u,xs=[i,j]/\t=U u/\a=.through i j u:=by cases h;exact#[_,_,_,G,G,G]
def nY{a:List TF}{z:TF}:ax (a++[z])=ax a++[z.2]:=Sf ..
def eG(h:l≠[]):∃a z,l=a++[z]:=#[l.dropLast,l.getLast h,(SM h).symm]
def eX{a:List TF}{z:TF}{b:List KR}{c:RR}(h:∀t,c≠.begin t):QU (aL (a++[z]) b) c=QF (aL (a++[z]) b) z.2 c:=by induction c<;>first|(exfalso;exact h _ G)|(done)|simp[QU,aL,nY]
def d7(h:d6 t=U fs):bS (.group false fs)/\eS (.group false fs)/\WS fs=t:=by
 have#[a,f,g,i]:=BK h;refine#[#[f,?_],?_,a]
 .unfold d6 at h;by_cases b:2000<t.length;.rw[aaD b]at h;cases h
  .rw[aaC b]at h;have#[r,j,h]:=TC.mp h;have#[x,c,h]:=TC.mp h;have:=n8 (λt k r h=>oA 5 t k r h) c;by_cases d:x.2≠[]\/40<Q0 x.1;.rw[aaD d]at h;cases h
   .rw[aaC d]at h;cases h;have#[k,s]:=x;have#[l,_,_,rfl]:=ij.mp c;exact this
 .unfold eS;have e:WS fs=QM (.group false fs):=G;rw[<-e,a];exact g
def Og(h:d6 t=O):QU s (.begin t)=(s,.refused (-1)):=by rw[tP]at h;cases q:Th t with|error _=>erw[QU,q]|ok a=>rw[q]at h;cases h
def mY(h:d6 t=U fs):Th t=.ok fs:=by rw[tP]at h;cases q:Th t with|error _=>rw[q]at h;cases h|ok fs=>rw[q]at h;cases h;rfl
def Bw(h:d6 t=O):∃e,Th t=.error e:=by rw[tP]at h;cases q:Th t with|error e=>exact#[e,G]|ok a=>rw[q]at h;cases h
def pK(a:aI<|.group false fs)(h:eF fs t=U x):UE fs t=.ok x:=by rw[BD a]at h;cases q:UE fs t with|error _=>rw[q]at h;cases h|ok fs=>rw[q]at h;cases h;rfl
def tJ(a:aI<|.group false fs)(h:eF fs t=O):∃e,UE fs t=.error e:=by rw[BD a]at h;cases q:UE fs t with|error e=>exact#[e,G]|ok fs=>rw[q]at h;cases h
section
variable{K:PY}{ad:F->P2}{k:Nat}
def lZ.over{W:P2->Prop}{M H b c:Hp}{d:List TF}{a:P2}{e:KR}(h:lZ ad M H d a e)(g:Go W M H b c)(f:¬W a):lZ ad b c d a e:=by have#[c,d,e,i,w,b,j,k,l]:=h;exact#[g.da c b,d,e,i,w,g.st _ _ b f,j.mono g.fr,k,ar.mono g.fr _ _ _ l]
def bx.over{W:P2->Prop}{M H c d:Hp}{A:CA}{e:List TF}{f:List KR}(h:bx ad M H A e f)(g:Go W M H c d)(a:∀b,WC A b->¬W b):bx ad c d A e f:=by
 have#[e,c]:=h.hc;have#[f,d,i]:=h.hl;exact#[g.da h.mc c,g.da h.ml d,g.da h.mr h.hr,h.ne,#[e,g.st _ _ c<|a _<|.inl G],#[f,g.st _ _ d<|a _<|.inr<|.inl G,Paired.imp' (λu x r=>r.mono g.fr) i],g.st _ _ h.hr<|a _<|.inr<|.inr<|.inl G,
  ly h.hk λu x m r=>r.over g<|a _<|.inr<|.inr<|.inr m,h.nd,h.ok]
def bx.dE{M H a b:Hp}{A:CA}{c:List TF}{d:List KR}(h:bx ad M H A c d)(g:Go W0 M H a b):bx ad a b A c d:=h.over g λ_ _=>id
def bx.there{M H:Hp}{A:CA}{c:List TF}{d:List KR}(h:bx ad M H A c d){b:P2}(a:WC A b):H b≠O:=by
 rcases a with rfl|rfl|rfl|a;.have#[c,d]:=h.hc;rw[d];simp
 .have#[e,d,_]:=h.hl;rw[d];simp
 .rw[h.hr];simp
 .have#[j,d]:=List.mem_iff_getElem?.mp a;have#[e,_,_,c,f,g,w,a,_]:=cn h.hk d;rw[a];simp
def kA.now{A:CA}{a:List TF}{b:List KR}{c:RR}{M H d H1:Hp}{E:XK}{e:F}{n:Int}(f:kA ad A a b c M H E)(hc:bx ad M H A a b)(g:Go W0 M H d H1)(hs:QU (aL a b) c=(aL a b,.refused n))(h:rK e=U n):E (.ref<|ad e) O H1:=
 f e O n d H1 g.any (hc.dE g) hs (.inl #[G,h])
def kA.fail{A:CA}{a:List TF}{b:List KR}{c:RR}{M H d H1:Hp}{E:XK}{e:F}{n:Int}(f:kA ad A a b c M H E)(hc:bx ad M H A a b)(g:Go W0 M H d H1)(hs:QU (aL a b) c=(aL a b,.refused n))(h:rK e=U n):Fail ad W0 H1 E e:=
 λb a=>f.now hc (g.aB<|Iy g.ae a) hs h
def jI.same{A:CA}{a:List TF}{b:List KR}{c:RR}{M H d H1:Hp}{Q:VK}{v:V}{ans:XZ}(ok:jI ad A a b c M H Q)(hc:bx ad M H A a b)(g:Go W0 M H d H1)(hs:QU (aL a b) c=(aL a b,ans))(e:gz H H1 v<|bY ans):Q v H1:=
 ok v d H1 A a b ans g.any (λ_ h=>.inl h) rfl (hc.dE g) hs e
def fK.ax{n:Nat}{xs:List Int}(h:fK ad M a n xs t)(b:aj M H):aY (Gq K ad k) H a '(' (.int (n:Nat))/\(∃c,aY (Gq K ad k) H a '1' (.ref c)/\H c=U (.lst<|xs.map V.int))/\∃d,aY (Gq K ad k) H a '.' d/\qx M d t:=by have#[a,i,c,d,rfl,e,f,g]:=h;exact#[aS (c:=10.8) (b _ _ e) G (by decide) G,#[c,aS (c:=10.8) (b _ _ e) G (by decide) G,b _ _ f],d,aS (c:=10.8) (b _ _ e) G (by decide) G,g]
def fK.mono(b:aj M a){n:Nat}(h:fK ad M c n xs t):fK ad a c n xs t:=by have#[a,d,e,f,rfl,g,i,c]:=h;refine#[a,d,e,f,G,b _ _ g,b _ _ i,?_];induction t with|none=>exact c|some u=>exact bP.mono b c
def bx.fl{M H:Hp}{A:CA}{a:List TF}{b:List KR}(h:bx ad M H A a b):aY (Gq K ad k) H (.ref A.c) '0' (.ref A.ls)/\aY (Gq K ad k) H (.ref A.c) '?' (.ref A.lr):=by have#[b,a]:=h.hc;exact#[aS (c:=10.6) a G (by decide) G,aS (c:=10.6) a G (by decide) G]
def iz{W:P2->Prop}{M H a H1:Hp}{p:P2}{i:Int}(g:Go W M H a H1)(hp:H1 p=O):gz H (upd H1 p<|.lst [.int i]) (.ref p) [i]:=#[p,G,g.bQ p hp,ah]
def gz.old{W:P2->Prop}{M H c H1 a:Hp}{v:V}{ns:List Int}(h:gz H1 a v ns)(g:Go W M H c H1):gz H a v ns:=let⟨b,e,n,q⟩:=h;#[b,e,g.bQ b n,q]
def bx.get{M H:Hp}{A:CA}{a:List TF}{b:List KR}(h:bx ad M H A a b){us:List V}(hl:H A.ls=U (.lst us)){i:Int}:(∀u,Vacolb.at? us i=U u->∃x,Vacolb.at? a i=U x/\x∈a/\c6 ad M u x.1 x.2)/\(Vacolb.at? us i=O->Vacolb.at? a i=O):=by
 have#[b,a,c]:=h.hl;rw[hl]at a;cases a;constructor;.intro u b;have#[a,e,d,_]:=et b;have#[x,b,e]:=cn c d;refine#[x,?_,List.mem_of_getElem? b,e];unfold Vacolb.at?;rw[aaC ∅];exact b
 .intro b;unfold Vacolb.at? at b⊢;by_cases a:i<0;.rw[aaD a]
  .rw[aaC a]at b⊢;have:=List.getElem?_eq_none_iff.mp b;exact List.getElem?_eq_none_iff.mpr (by have:=Qy c;lia)
def eo{a:List TF}{b:List KR}{i:Int}:Vacolb.at? (aL a b).versions i=(Vacolb.at? a i).map λx=>x.2:=gE
end
section
variable{K:PY}{ad:F->P2}{k:Nat}
def OZ(h:H a=U o)(n:H b=O):upd H b u a=U o:=by rw[aq<|bT h n];exact h
def OD(h:dS gs fs=U x):UC fs (RS gs fs)=.obstacle x.1 x.2.1 (SD fs<|eE x.2.1 (.group false fs) x.2.2):=by have a:=(jt gs fs).1;have b:=(jt gs fs).2 x h;unfold RS;rw[PN,a,h];rfl
def Cw(h:dS gs fs=O):RS gs fs=O:=by have a:=(jt gs fs).1;unfold RS;rw[PN,a,h];rfl
def bx.last{A:CA}{a:List TF}(h:bx ad M H A (a++[z]) b):∃us u,H A.ls=U (.lst<|us++[u])/\c6 ad M u z.1 z.2/\us.length=a.length:=by have#[us,a,b]:=h.hl;have#[c,u,rfl,r,p]:=yK b;exact#[c,u,a,r,Qy p]
def ku.last{a:List TF}{z:TF}{b:List KR}(h:ku (a++[z]) b):d6 z.1=U z.2:=h.d5 z (by simp)
end
def jN{a:Type}{l:List a}{i j k:Nat}(h:i+k<=j):((l.take<|j+1).drop i)[k]?=l[i+k]?:=by rw[List.getElem?_drop,List.getElem?_take_of_lt ∅]
def rq{a:Type}{l:List a}{i j:Nat}(h:j<l.length):((l.take<|j+1).drop i).length=j+1-i:=by rw[S4,RC,XY h]
def sub_one{a b:Nat}(h:a<=b):b+1-a-1=b-a:=by lia
def Om{a b:Nat}(h:a<=b):((b+1-a:Nat):Int)-1=((b-a:Nat):Int):=by lia
def O9{d:List TF}{i j:Nat}(hi:i<=j)(a:j<d.length):jB ((d.take<|j+1).drop i)=Y3 (ax d) i j:=by
 have k:((d.take<|j+1).drop i).length=j+1-i:=by rw[S4,RC];lia
 have f:∀n:Nat,(ax d)[n]?=(d[n]?).map λ(x:TF)=>x.2:=λn=>List.getElem?_map ..;have e:((d.take<|j+1).drop i)[j+1-i-1]?=d[j]?:=by rw[jN ∅];congr 1;lia
 rw[Rt,uB,RX];delta Y3;rw[RX];have p:∀n,i+n+2<=j->∃a b c,(ax d)[i+n]?=U a/\(ax d)[i+n+1]?=U b/\(ax d)[j]?=U c/\lM ((d.take<|j+1).drop i) n=Xe a b c:=λn l=>by delta lM;rw[k,e,jN ∅,jN ∅,<-Nat.add_assoc];obtain⟨a,g⟩:∃a,d[i+n]?=U a:=#[_,List.getElem?_eq_getElem ∅];obtain⟨b,h⟩:∃a,d[i+n+1]?=U a:=#[_,List.getElem?_eq_getElem ∅];obtain⟨c,e⟩:∃a,d[j]?=U a:=#[_,List.getElem?_eq_getElem ∅];refine#[a.2,b.2,c.2,by rw[f,g];rfl,by rw[f,h];rfl,by rw[f,e];rfl,?_];rw[g,h,e]
 constructor
 .intro h n l;by_cases e:i<=n/\n+2<=j;.have#[a,b,c,f,g,m,o]:=p (n-i) ∅;have:=h (n-i) (by rw[Sr,k];lia);rw[o]at this;rw[show i+(n-i)=n from by lia]at f g;rw[f,g,m];change(_||Xe a b c)=true;rw[this,Bool.or_true]
  .have:(decide (i<=n)&&decide (n+2<=j))=false:=by simpa using e
   rw[this];rfl
 .intro h n l;rw[Sr,k]at l;have#[a,b,c,f,g,m,o]:=p n ∅;rw[o];have:=h (i+n) (by rw[Sr];show _<(ax d).length;unfold ax;rw[Qe];lia);have e:(decide (i<=i+n)&&decide (i+n+2<=j))=true:=by simp;lia
  rw[e,f,g,m]at this;exact this
theorem Bt{l:List Qh}:∀{ls gs:List Qh}{x:Sk},QX (ls++z::gs) x=(QX (ls++[z]) x).bind λy=>QX (z::gs) y|[],gs,x=>by rfl|[a],gs,x=>by change(UW z a x).bind (QX (z::gs))=((UW z a x).bind<|QX [z]).bind _;cases UW z a x<;>rfl|a::b::ls,gs,x=>by change(UW b a x).bind (QX (b::ls++z::gs))=((UW b a x).bind<|QX (b::ls++[z])).bind _;induction UW b a x with|none=>rfl|some y=>exact Bt (l:=l) (ls:=b::ls)
section
variable{K:PY}{ad:F->P2}{k:Nat}
def yG{a b:Type}{R:a->b->Prop}:∀{us:List a}{xs:List b}(n:Nat),Paired R us xs->Paired R (us.take n) (xs.take n):=by intro us xs n h;induction h generalizing n with|nil=>induction n<;>exact .nil|cons h t a=>induction n with|zero=>exact .nil|succ n=>exact .cons h<|a n
def yH{a b:Type}{R:a->b->Prop}:∀{us:List a}{xs:List b}(n:Nat),Paired R us xs->Paired R (us.drop n) (xs.drop n):=by intro us xs n h;induction h generalizing n with|nil=>induction n<;>exact .nil|cons h t a=>induction n with|zero=>exact .cons h t|succ n=>exact a n
def uC{A:CA}{a:List TF}(hc:bx ad M H A a d)(b:aj M H){us:List V}(hl:H A.ls=U (.lst us)){i j:Nat}(c:H l=O):Go W0 M H (upd M l<|.lst<|(us.take<|j+1).drop i) (upd H l<|.lst<|(us.take<|j+1).drop i)/\nJ ad (upd M l<|.lst<|(us.take<|j+1).drop i) (.ref l) ((a.take<|j+1).drop i):=by
 have#[e,a,d]:=hc.hl;rw[hl]at a;cases a;have g:Go W0 M H (upd M l<|.lst<|(us.take<|j+1).drop i)<|upd H l<|.lst<|(us.take<|j+1).drop i:=(Go.refl b).bc c;refine#[g,l,_,G,ah,Paired.imp' (λu x r=>r.mono g.fr)<|yH i<|yG (j+1) d,?_,λx a=>?_];.have:=hc.ok.oX;rw[S4,RC];lia
 .have:=d7 (hc.ok.d5 x<|Y9<|U9 a);exact#[this.1,this.2.1]
def Dc{us:List V}{c:List TF}{i j:Int}(e:Vacolb.at? us i=O->Vacolb.at? c i=O)(g:Vacolb.at? us j=O->Vacolb.at? c j=O)(h:(Vacolb.at? us i).isSome=true->(Vacolb.at? us j).isSome=true->j<i){f:Qh->Qh->XZ}{d:List KR}(k:∀a b,j<i->f a b=.refused (-3)):Rv (aL c d).versions i j f=.refused (-3):=by unfold Rv;rw[eo,eo];cases d:Vacolb.at? us i with|none=>rw[e d];rfl|some a=>cases e:Vacolb.at? us j with|none=>rw[g e];cases Vacolb.at? c i<;>rfl|some b=>have:=h (by rw[d];rfl) (by rw[e];rfl);induction Vacolb.at? c i with|none=>rfl|some x=>induction Vacolb.at? c j with|none=>rfl|some y=>exact k _ _ this
end
def ku.more{a:List TF}(h:ku a b)(hz:d6 z.1=U z.2)(c:a.length<16):ku (a++[z]) b:=by
 refine#[λx b=>?_,by rw[P5,QB];lia,λk c=>?_,h.oW]
 .rcases RW.mp b with b|b;.exact h.d5 x b
  .obtain rfl:x=z:=by simpa using b
   exact hz
 .have#[d,#[y,f,g],#[w,i,j],l]:=h.row k c;have b:∀{n:Nat}{y:TF},a[n]?=U y->(a++[z])[n]?=U y:=λ{n y}e=>by rw[List.getElem?_append_left (List.getElem?_eq_some_iff.mp e).1];exact e
  refine#[d,#[y,b f,g],#[w,b i,j],λa=>?_];rw[nY,QL];exact l _
theorem rJ{a b:Type}{f:a->b}:∀(l:List a)(j:Nat),(l.map f).eraseIdx j=(l.eraseIdx j).map f|[],_=>rfl|_::_,0=>rfl|a::l,j+1=>by erw[Ql,List.eraseIdx_cons_succ,rJ l j]
def yJ{a b:Type}{R c:a->b->Prop}{z:b}:∀{us:List a}{xs:List b}{j:Nat}{u:a},Paired R us xs->us.Nodup->us[j]?=U u->c u z->(∀v y,v∈us->v≠u->R v y->c v y)->Paired c us (xs.set j z):=by intro us xs j u b a e r f;induction b generalizing j with|nil=>cases e|cons h t b=>have a:=RI.mp a;induction j with|zero=>cases e;exact .cons r<|ly t λv y m q=>f v y (Qk _ m) (λz=>a.1<|z▸m) q|succ j=>have c:=List.mem_of_getElem? (l:=_) (i:=j) e;exact .cons (f _ _ QE (λz=>a.1<|z▸c) h)<|b a.2 e λv y m=>f v y<|Qk _ m
theorem Bu:∀(l:List TF)(y:TF)(x z:Sk),(∀w∈y::l,aI<|.group false w.2)->aU (.group false y.2) x->QX ((y::l).map λw=>w.2) x=U z->aU (.group false ((y::l).getLast<|by simp).2) z|[],y,x,z,_,b,h=>by erw[Ql,SE,QX,QS]at h;subst h;exact b|a::l,y,x,z,c,b,h=>by have#[d,e,f]:=TC.mp h;have:=Bu l a d z (λw g=>c w<|Qk _ g) (qd _ (.group false a.2) (.group false y.2) (Qg _) (c a<|by simp) (c y<|by simp) x d b e) (by rw[Ql];exact f);rw[List.getLast_cons<|by simp];exact this
def Nm{L:List Qh}{r:Nat}(hr:r<=L.length)(h:QX ((L++[z]).drop r) y=U b):QX ((L++[z]++gs).drop r) y=QX ((L++[z]++gs).drop L.length) b:=by
 have a:(L++[z]).drop r=L.drop r++[z]:=Va hr;have c:(L++[z]++gs).drop r=L.drop r++z::gs:=by rw[QL,Va hr];rfl
 have d:(L++[z]++gs).drop L.length=z::gs:=by rw[QL,Va<|Qg _,List.drop_length];rfl
 rw[a]at h;rw[c,d,Bt (l:=[]),h];rfl
section
variable{K:PY}{ad:F->P2}{k:Nat}
def bx.kept{M H:Hp}{A:CA}{d:List TF}{c:List KR}(h:bx ad M H A d c){j:Nat}{a:P2}(e:A.ks[j]?=U a):∃b,c[j]?=U b/\b∈c/\lZ ad M H d a b:=by have#[b,c,d]:=cn h.hk e;exact#[b,c,List.mem_of_getElem? c,d]
def bx.sep{M H:Hp}{A:CA}{b:List TF}{c:List KR}(h:bx ad M H A b c){a:P2}(d:a∈A.ks):a≠A.c/\a≠A.ls/\a≠A.lr:=by
 have#[j,c]:=List.mem_iff_getElem?.mp d;have#[d,_,_,_,e,f,g,w,b,_]:=h.kept c;have#[d,c]:=h.hc;have#[e,d,_]:=h.hl;refine#[λz=>?_,λz=>?_,λz=>?_];.rw[z,c]at b;injection b with b;injection b with _ _ b;injection b with b _;injection b with b _;revert b;decide
 .rw[z,d]at b;cases b
 .rw[z,h.hr]at b;cases b
def bx.tQ{M H:Hp}{A:CA}{a:List TF}{b:List KR}(h:bx ad M H A a b):A.c≠A.ls/\A.c≠A.lr:=by have#[b,a]:=h.hc;have#[c,b,_]:=h.hl;exact#[λz=>(by rw[z,b]at a;cases a),λz=>(by rw[z,h.hr]at a;cases a)]
end
section
variable{K:PY}{ad:F->P2}{k:Nat}
end
noncomputable def l7:List<|F×Nat×Bool:=[(7.12,0,true),(8.0,0,true),(8.1,0,true),(8.2,0,false),(8.3,1,false),(8.4,2,false),(8.5,2,true),(8.6,2,true),(8.7,2,false),(8.8,0,true),(8.9,0,false),(8.10,1,false),(8.11,1,false),(8.12,1,false)]
def lR(K:PY)(ad:F->P2):Prop:=∃b:List P2,(∀H,aR K H (ad 15.2)<|b.map V.ref)/\Paired (λa(x:F×Nat×Bool)=>∀H,aR K H a [.ref<|ad x.1,.int (x.2.1:Nat),.bl x.2.2]) b l7
def vO{n:Nat}{xs:List Int}{t:Option Qv}(h:CI n xs t a):∃f,l7[n]?=U (f,xs.length,t.isSome):=by induction h<;>exact#[_,G]
def BZ{K:PY}{H b:Hp}(k:aj H b){a:P2}{xs:List V}(h:af K H a xs):af K b a xs:=by
 rcases h with(h|⟨o,h⟩)|h;.exact .inl<|.inl<|k _ _ h
 .exact .inl<|.inr #[o,k _ _ h]
 .exact .inr h
def Go.keep(g:Go W0 M H b a):aj H a:=λb o e=>g.st b o e id
section
variable{K:PY}{ad:F->P2}{k:Nat}
end
def drop_eq{c:Type}{l a b:List c}{p:Nat}(h:l.drop p=a++b):l.drop (p+a.length)=b:=by rw[<-aaz,h,List.drop_left]
def Oy{c:Type}{l a b:List c}{p:Nat}(h:l.drop p=a++b):(l.drop p).take a.length=a:=by rw[h,List.take_left]
def wa{c:Type}{l a b:List c}{p:Nat}(h:l.drop p=a++b)(hp:p<=l.length):p+a.length<=l.length:=by have:=congrArg SG h;rw[S4,P5]at this;lia
def wb{a:Type}{l b:List a}{x:a}{p:Nat}(h:l.drop p=x::b):l[p]?=U x/\p<l.length:=by
 have a:l[p]?=U x:=by have:=List.getElem?_drop (xs:=l) (i:=p) (j:=0);rw[h]at this;simpa using this.symm
 exact#[a,(List.getElem?_eq_some_iff.mp a).1]
def rA{ns a b:List Int}{p:Nat}(h:ns.drop p=a++b)(hp:p<=ns.length){i j:Int}(hi:i=(p:Nat))(c:j=((p+a.length:Nat):Int)):fS (ns.map V.int) (U i) (U j)=a.map V.int:=by have:=wa h hp;subst hi c;rw[vS ∅ ∅ (by rw[Qe];lia),show((p:Nat):Int).toNat=p from by lia,show((p+a.length:Nat):Int).toNat-p=a.length from by lia,<-WQ,<-Yw,Oy h]
def FU(u:Qv):(u.map λ(c:Nat)=>(c:Int)).map V.int=bv u:=by rw[Se];rfl
section
variable{K:PY}{ad:F->P2}{k:Nat}
def yi{n:Nat}{xs:List Int}(hk:2<=k)(d:aj M H)(e:M nl=U (.lst<|xs.map V.int))(c:qx M a t)(f:aJ W0 M H Q λb _ v=>fK ad b v n xs t):iV ad (cw K ad) 10.8 k [.int (n:Nat),.ref nl,a] H Q E:=by refine#[∅,λx b h i j=>?_];refine#[x,b,_,_,_,G,∅,ah,G,?_];rw[cR];have g:=Go.made d (o:=.ins (ad 10.8) b [('(',.int (n:Nat)),('1',.ref nl),('.',a)]) h i j;refine f _ _ _ g #[x,b,nl,a,G,ah,g.fr _ _ e,?_];induction t with|none=>exact c|some u=>exact bP.mono g.fr c
def Ow{n m:Nat}{b:Bool}(h:l7[n]?=U (f,m,b)):isFn f=true/\kU f=O/\cw K ad f=d8 ad n 70:=by
 unfold l7 at h;rcases n with _|_|_|_|_|_|_|_|_|_|_|_|_|_|n;all_goals first
  |(erw[List.getElem?_cons_zero,List.getElem?_cons_succ,QS,SR]at h
    have#[rfl,_]:=h
    exact#[G,G,G])
  |(simp at h)
def w6{h:Hd F}(a:isExc h.c=true)(q:pF h.h D b H):fB (Gq K ad k) D (h::r) (.ref<|ad h.c) b H:=#[h.c,a,G,.inl #[G,q]]
def w8(b:∀e f,isExc e=true->isExc f=true->ad e=ad f->e=f){h:Hd F}(a:isExc e=true)(c:isExc h.c=true)(n:e≠h.c)(q:fB (Gq K ad k) D r (.ref<|ad e) d H):fB (Gq K ad k) D (h::r) (.ref<|ad e) d H:=
 #[e,a,G,.inr #[λz=>n<|b e h.c a c z,q]]
end
def FZ(h:Tb t=true):(Sn t).map (λ(c:Nat)=>(c:Int))=t:=by
 unfold Sn;rw[Se];conv=>rhs;rw[<-List.map_id t]
 refine List.map_congr_left λz a=>?_;unfold Tb at h;have:=RX.mp h z a;erw[QH,decide_eq_true_eq]at this;show((z.toNat:Nat):Int)=z;lia
def F0{t:List Int}:(Sn t).length=t.length:=Qe ..
def GD{q:Int}{r:List Int}{m:Nat}(hs:RE q=U (m,0))(h:Tn RE (q::r)=U (raw,tail)):m<=r.length/\raw=[q::r.take m]/\tail=r.drop m:=by
 unfold Tn at h;erw[hs]at h;split at h;.cases h
 .erw[PyFlat.rows,QS,SR]at h;have#[rfl,rfl]:=h;exact#[∅,G,G]
def GF{q:Int}{r:List Int}{m:Nat}(hs:RE q=U (m,1))(h:Tn RE (q::r)=U (raw,tail)):m<=r.length/\∃t,r.drop m=(t.length:Int)::(t++tail)/\raw=[q::r.take m,t]:=by
 unfold Tn at h;erw[hs]at h;split at h;.cases h
 .rename_i a;erw[PyFlat.rows]at h;cases c:r.drop m with
  |nil=>rw[c]at h;simp[PyFlat.row]at h|cons a b=>
   rw[c]at h;erw[PyFlat.row]at h;by_cases c:0<=a/\a.toNat<=b.length;.rw[aaD c]at h;erw[QS,SR]at h;have#[rfl,rfl]:=h;refine#[∅,b.take a.toNat,?_,G];rw[Te,RC,show((min a.toNat b.length:Nat):Int)=a from by lia]
   .rw[aaC c]at h;cases h
def jb{q:Int}{n m:Nat}(a:q=(n:Int))(hs:RE q=U (m,0))(h:Tn RE (q::r)=U (raw,tail)):∃xs,xs.length=m/\raw=[(n:Int)::xs]/\q::r=(n:Int)::(xs++(cx O++tail)):=by have#[d,b,c]:=GD hs h;refine#[r.take m,by rw[RC];lia,by rw[b,a],?_];rw[c,a];simp[cx]
def kN{q:Int}{n m:Nat}(a:q=(n:Int))(hs:RE q=U (m,1))(h:Tn RE (q::r)=U (raw,tail)):∃xs t,xs.length=m/\raw=[(n:Int)::xs,t]/\(Tb t=true->q::r=(n:Int)::(xs++(cx (U<|Sn t)++tail))):=by
 have#[d,t,b,c]:=GF hs h;refine#[r.take m,t,by rw[RC];lia,by rw[c,a],λc=>?_];have e:cx (U<|Sn t)++tail=r.drop m:=by rw[b];erw[cx,F0,FZ c];rfl
 rw[e,Te,a]
def oH{xs:List Int}(h:xs.length=1):∃i,xs=[i]:=by rcases xs with _|⟨i,_|⟨j,xs⟩⟩<;>simp at h;exact#[i,G]
def oJ{xs:List Int}(h:xs.length=2):∃i j,xs=[i,j]:=by rcases xs with _|⟨i,_|⟨j,_|⟨l,xs⟩⟩⟩<;>simp at h;exact#[i,j,G]
inductive Sh(q:Int)(r tail:List Int):List (List Int)->Prop
 |s1(n:Nat)(xs t:List Int)(k:Qv->RR)(ci:∀u,CI n xs (U u) (k u))(tk:∀u,textOk (k u)=(u.length<=5000))(cf:TR (Sl [(n:Int)::xs,t])=if Tb t=true then U (k (Sn t))else O)
  (ak:VH (Sl [(n:Int)::xs,t])=true->(t.all λ(z:Int)=>Vy z 8)=true/\decide (t.length<=5000)=true)(hf:Tb t=true->q::r=(n:Int)::(xs++(cx (U (Sn t))++tail))):Sh q r tail [(n:Int)::xs,t]
 |s0(n:Nat)(xs:List Int)(k:RR)(ci:CI n xs O k)(tk:textOk k)(cf:TR (Sl [(n:Int)::xs])=U k)(hf:q::r=(n:Int)::(xs++(cx O++tail))):Sh q r tail [(n:Int)::xs]
def gD{a b:Bool}(h:(a&&b)=true):a=true/\b=true:=Bool.and_eq_true_iff.mp h
def BR{q:Int}(h:Tn RE (q::r)=U (raw,tail)):Sh q r tail raw:=by
 by_cases d:q=0;.have#[c,t,a,rfl,b]:=kN (n:=0) d (by rw[d];rfl) h;obtain rfl:=Qj.mp a;exact .s1 0 [] t .begin .a0 (λ_=>rfl) rfl gD b
 by_cases e:q=1;.have#[c,t,a,rfl,b]:=kN (n:=1) e (by rw[e];rfl) h;obtain rfl:=Qj.mp a;exact .s1 1 [] t .step .a1 (λ_=>rfl) rfl gD b
 by_cases f:q=2;.have#[c,t,a,rfl,b]:=kN (n:=2) f (by rw[f];rfl) h;obtain rfl:=Qj.mp a;exact .s1 2 [] t .why .a2 (λ_=>rfl) rfl gD b
 by_cases g:q=3;.have#[c,a,rfl,b]:=jb (n:=3) g (by rw[g];rfl) h;obtain rfl:=Qj.mp a;exact .s0 3 [] .versions .a3 trivial rfl b
 by_cases k:q=4;.have#[c,a,rfl,b]:=jb (n:=4) k (by rw[k];rfl) h;have#[i,rfl]:=oH a;exact .s0 4 [i] (.show i) (.a4 i) trivial rfl b
 by_cases l:q=5;.have#[c,a,rfl,b]:=jb (n:=5) l (by rw[l];rfl) h;have#[i,j,rfl]:=oJ a;exact .s0 5 [i,j] (.compare i j) (.a5 i j) trivial rfl b
 by_cases m:q=6;.have#[c,t,a,rfl,b]:=kN (n:=6) m (by rw[m];rfl) h;have#[i,j,rfl]:=oJ a;exact .s1 6 [i,j] t (.read i j) (.a6 i j) (λ_=>rfl) rfl (λh=>gD (gD (gD h).2).2) b
 by_cases n:q=7;.have#[c,t,a,rfl,b]:=kN (n:=7) n (by rw[n];rfl) h;have#[i,j,rfl]:=oJ a;exact .s1 7 [i,j] t (.through i j) (.a7 i j) (λ_=>rfl) rfl (λh=>gD (gD (gD h).2).2) b
 by_cases o:q=8;.have#[c,a,rfl,b]:=jb (n:=8) o (by rw[o];rfl) h;have#[i,j,rfl]:=oJ a;exact .s0 8 [i,j] (.straight i j) (.a8 i j) trivial rfl b
 by_cases j:q=9;.have#[c,t,a,rfl,b]:=kN (n:=9) j (by rw[j];rfl) h;obtain rfl:=Qj.mp a;exact .s1 9 [] t .put .a9 (λ_=>rfl) rfl gD b
 by_cases p:q=10;.have#[c,a,rfl,b]:=jb (n:=10) p (by rw[p];rfl) h;obtain rfl:=Qj.mp a;exact .s0 10 [] .rows .vk trivial rfl b
 by_cases s:q=11;.have#[c,a,rfl,b]:=jb (n:=11) s (by rw[s];rfl) h;have#[i,rfl]:=oH a;exact .s0 11 [i] (.row i) (.vm i) trivial rfl b
 by_cases t:q=12;.have#[c,a,rfl,b]:=jb (n:=12) t (by rw[t];rfl) h;have#[i,rfl]:=oH a;exact .s0 12 [i] (.origin i) (.vn i) trivial rfl b
 by_cases u:q=13;.have#[c,a,rfl,b]:=jb (n:=13) u (by rw[u];rfl) h;have#[i,rfl]:=oH a;exact .s0 13 [i] (.drop i) (.vo i) trivial rfl b
 exfalso;unfold Tn at h;have a:RE q=O:=by unfold RE;rw[aaC d,aaC e,aaC f,aaC g,aaC k,aaC l,aaC m,aaC n,aaC o,aaC j,aaC p,aaC s,aaC t,aaC u]
 erw[a]at h;cases h
def GJ{q:Int}(h:Tn RE (q::r)=U (raw,tail))(hc:TR (Sl raw)=U c)(g:textOk c):∃n xs t,CI n xs t c/\q::r=(n:Int)::(xs++(cx t++tail))/\∀u,t=U u->u.length<=5000:=by
 induction BR h with
 |s1 n xs t k a i b e d=>
  rw[b]at hc;by_cases f:Tb t=true;.rw[aaD f]at hc;cases hc;rw[i]at g;exact#[n,xs,_,a _,d f,λu e=>by cases e;exact g]
  .rw[aaC f]at hc;cases hc
 |s0 n xs k a i b d=>rw[b]at hc;cases hc;exact#[n,xs,O,a,d,λu e=>by cases e]
def OJ(a:List Int)(l:List<|List Int):SU (a::l)=(a.length:Int)::(a++SU l):=by simp[SU]
def Mr(s:Yl)(c:RR)(r:List RR):eW s (c::r)=bY (QU s c).2::eW (QU s c).1 r:=G
section
variable{K:PY}{ad:F->P2}{k:Nat}
def J5(j:2<=k)(a:aj M H)(q:∀A c,Go W0 M H M c->bx ad M c A [] []->(∀b,WC A b->H b=O)->Q (.ref A.c) c):iV ad (cw K ad) 10.6 k [] H Q E:=by
 refine#[∅,λx c d l m=>?_];refine#[x,c,G,∅,ah,λp r f g i=>#[G,?_]];have n:p≠x:=λe=>by rw[e,ah]at f;cases f
 have o:r≠x:=λe=>by rw[e,ah]at g;cases g
 have h:Go W0 M H M<|upd (upd H c<|.own x) x<|.ins (ad 10.6) c []:=((Go.refl a).alloc l).alloc (by rw[aq<|Q4 m];exact d);have l:=h.alloc f (o:=.lst []);have m:=l.alloc (p:=r) (o:=.lst []) (by rw[aq i];exact g);have l:=m.set (p:=x) (o:=.ins (ad 10.6) c [('0',.ref p),('?',.ref r)]) (.inr d)<|a.none d;refine q #[x,p,r,[]] _ l #[a.none d,a.none<|h.bQ p f,a.none<|h.bQ r g,Q4 i,#[c,ah],#[[],?_,.nil],?_,.nil,Vw,#[λx a=>by simp at a,by simp,λk j=>by simp at j,by simp]] λb a=>?_;.show upd _ _ _ p=_;rw[aq n,aq<|Q4 i,ah]
 .show upd _ _ _ r=_;rw[aq o,ah];rfl
 .rcases a with e|e|e|a;.rw[e];exact d
  .rw[e];exact h.bQ p f
  .rw[e];exact h.bQ r g
  .simp at a
end
def rk{c a k:Nat}(h:a<=k+1)(d:S3 (c+1) a=true):c<=k:=YX<|QW (RG d) h
def Nw{c a x k:Nat}(h:a+x<=k+1)(d:S3 (c+1) a=true):c<=k:=rk (QW (S9 _ _) h) d
def Ny{c a x k:Nat}(h:a+x<=k+1)(d:S3 (c+1) a=true):c+x<=k:=YX<|QW (by rw[Nat.succ_eq_add_one,VF];exact Zk (RG d) x) h
def Nz{c a k:Nat}(h:a<=k+1)(d:S3 (c+2) a=true):c<=k-1:=Nat.le_sub_of_add_le<|rk h d
section
variable{a b c m n x y k i j:Nat}
def mQ(h:x<=QP a)(d:S3 a b=true):x<=QP b:=QW h<|RG d
def KG(h:x<=QP a)(d:S3 (Yk a) b=true):x<QP b:=W9 h<|RG d
def KH(h:x<=y)(a:y+1<=n):x<=n:=QW h<|UP a
def KI(h:x<=y)(a:y<=QP n)(d:S3 n m=true):x<=QP m:=mQ (QW h a) d
def KJ(h:QP c+QP m*(y+1)<=k+1)(b:x<=y)(d:S3 (Yk a) (Nat.add c m)=true):QP a+QP m*x<=k:=by have d:=RG d;have b:=Vp m b;change c+m*(y+1)<=k+1 at h;change a+m*x<=k;change a+1<=c+m at d;rw[Vd]at h;lia
def KL(h:QP c<=k+1)(b:x<=QP n)(d:S3 (Yk<|Nat.add a<|Nat.mul m n) c=true):QP a+QP m*x<=k:=by have d:=RG d;have b:=Vp m b;change c<=k+1 at h;change a+m*x<=k;change a+m*n+1<=c at d;change m*x<=m*n at b;lia
def KN(h:QP c<=k+1)(b:x<=QP n)(d:S3 (Yk<|Nat.add a n) c=true):QP a+x<=k:=by have d:=RG d;change c<=k+1 at h;change a+x<=k;change a+n+1<=c at d;change x<=n at b;lia
def KO(h:i<j+1)(n:¬i=j):i<j:=by lia
def KP(h:a<b):(a:Int)<(b:Int):=Wc.mpr h
def KS(h:a<=b):(a:Int)<=(b:Int):=Int.ofNat_le.mpr h
def KQ(h:(a:Int)<(b:Int)):a<b:=Wc.mp h
def KU(h:(a:Int)<=(b:Int)):a<=b:=Int.ofNat_le.mp h
def KW(e:a=b)(h:b<=QP c)(d:S3 c n=true):a<=QP n:=e▸mQ h d
def KY(e:b=a)(h:b<=QP c)(d:S3 c n=true):a<=QP n:=e▸mQ h d
def KZ(e:a=b)(h:i<b):i<a:=e▸h
def K0(e:b=a)(h:i<b):i<a:=e▸h
def K1(e:a=b)(h:b<=i):a<=i:=e▸h
def K2(e:b=a)(h:b<=i):a<=i:=e▸h
def K3(h:¬a<b):b<=a:=Nat.le_of_not_lt h
def K4{P:Prop}(h:i<0):P:=absurd h<|Vj _
def K5{P:Prop}(h:a<=b)(c:b<a):P:=absurd c<|VE.mpr h
def K6{P:Prop}{i j:Int}(h:i<=j)(a:j<i):P:=absurd a<|Xd.mpr h
def yA(h:c=QP n):(c:Int)=QP n:=congrArg Int.ofNat h
def yB(h:(c:Int)=QP n):c=QP n:=ZF h
def K7(h:¬c=QP n):¬(c:Int)=QP n:=mt yB h
def K8(h:¬(c:Int)=QP n):¬c=QP n:=mt yA h
def K9(h:QP n<c):(QP n:Int)<(c:Int):=Wc.mpr h
def La(h:¬QP n<c):¬(QP n:Int)<(c:Int):=mt Wc.mp h
def Lb{i j:Int}(h:¬j<i):i<=j:=Xd.mp h
def Lc:(1:Int)+(a:Int)-1=(a:Int):=by lia
def Ld:(a:Int)+1=((a+1:Nat):Int):=G
def Lf:(1:Int)+(a:Int)=((a+1:Nat):Int):=Int.add_comm _ _
def Lg:((a+1:Nat):Int)-1=(a:Int):=by lia
def Lh(h:a+QP n<b):a<b:=W9 (S9 _ _) h
def Li(h:(a:Int)=(b:Int)):a=b:=ZF h
def Lj{i:Int}(h:0<=i)(a:i<(b:Int)):i.toNat<b:=by lia
def Lk{i:Int}(h:¬i<0)(a:¬(b:Int)<=i):i.toNat<b:=by lia
def Ll{i:Int}(h:¬i<0)(a:(b:Int)<=i):b<=i.toNat:=by lia
def Lm{i:Int}(h:0<=i):(i.toNat:Int)=i:=Int.toNat_of_nonneg h
def Ln(h:a<((b:Int)-1).toNat):a+1<b:=by lia
def Lo(h:a<((b:Int)-1).toNat):a<b:=by lia
def Lp(h:b+(y+1)<=n)(a:x<=y):b+1+x<=n:=by lia
def Lq(h:QP c+(y+1)<=k+1)(b:x<=y)(d:S3 a c=true):QP a+x<=k:=by have d:=RG d;change c+(y+1)<=k+1 at h;change a+x<=k;lia
def Lr(h:x<=QP n)(s:16000000<Qq)(d:S3 (Yk n) 16000000=true):1+x<=Qq:=by have d:=RG d;change x<=n at h;change n+1<=16000000 at d;lia
def Ls(h:x<=QP n)(d:S3 n m=true):0+x<=QP m:=by rw[R0];exact mQ h d
end
local macro_rules|`(tactic|lk)=>`(tactic|((try dsimp only [List.set]); (with_reducible conv => whnf); repeat ((with_reducible first | refine IL ?_ | refine IK ?_); with_reducible conv => whnf)))
local macro_rules | `(tactic| lia) => do
  let f (l : String) := do let a := (l.splitOn " ").toArray; Tw.l (fun i r => return r.push (← `(tacticSeq| apply $(Lean.mkIdent a[i]!.toName) <;> first | assumption | rfl))) a.size #[]
  let a ← f "rk Nw Ny Nz"
  let b ← f "Nat.le_of_succ_le Nat.succ_le_succ K5 K6 yA yB K7 K8 K9 La Lb Lc Ld Lf Lg Lh Li Lj Lk Ll Lm Ln Lo Lp Lq Lr Ls mQ KG KH KI KJ KL KN KO KP KS KQ KU KW KY KZ K0 K1 K2 K3 K4"
  `(tactic| first | assumption | (first $[| $a]*) | (with_reducible first $[| $b]*) | omega (config := {}))
local macro_rules | `(tactic| decide) => `(tactic| exact Nat.le_of_ble_eq_true rfl)
section
variable{K:PY}{ad:F->P2}{k:Nat}
def zV:Rs K ad k 1.0:=by
 rintro a H Q E⟨i,rfl,b,q⟩;refine#[_,G,?_];by_cases h:48<=i;.simpa[h]using q
 .simpa[h]using q
def zY:Rs K ad k 1.1:=by
 rintro a H Q E⟨i,rfl,b,q⟩;refine#[_,G,?_];by_cases h:97<=i;.simpa[h]using q
 .simpa[h]using q
def zX:Rs K ad k 1.2:=by
 rintro a H Q E⟨i,rfl,b,q⟩;refine#[i,G,∅,_,G,?_];split;.rename_i h;rw[h]at q;exact q
 .rename_i h;refine#[i,G,∅,_,G,?_];split;.rename_i a;rw[a]at q;simpa[h]using q
  .rename_i a;refine#[G,?_];erw[Bool.not_eq_true]at h a;rw[h,a]at q;simpa using q
def AQ:Rs K ad k 1.3:=by
 rintro a H Q E⟨i,rfl,b,q⟩;have a:decide ((32:Int)<=(i:Int))=decide (32<=i):=by apply decide_eq_decide.mpr;lia
 have b:decide ((i:Int)<=126)=decide (i<=126):=by apply decide_eq_decide.mpr;lia
 have c:(i !=34)=!decide (V.int (i:Int)=V.int 34):=by rw[Rt];simp;lia
 have d:(i !=92)=!decide (V.int (i:Int)=V.int 92):=by rw[Rt];simp;lia
 unfold SQ at q;rw[c,d,<-a,<-b]at q;refine#[_,G,?_];lk;cases a:decide ((32:Int)<=i)<;>rw[a]at q;.exact#[_,G,q]
 cases a:decide ((i:Int)<=126)<;>rw[a]at q;.refine#[_,G,?_];lk;rw[a];exact q
 refine#[_,G,?_];lk;rw[a];refine#[G,_,G,?_];cases a:decide (V.int (i:Int)=V.int 34)<;>rw[a]at q;.exact#[G,q]
 .exact q
def zT:Rs K ad k 0.1:=by rintro c H Q E⟨a,b,v,rfl,d,h,q⟩;refine#[a,_,b,_,G,h,#[10.0,G,G,by decide],by decide,a,_,b,_,G,ah,#[10.0,G,G,by decide],by simp[bb],?_];rw[cR];exact q
def As:Rs K ad k 2.0:=by
 rintro d H Q E⟨a,t,s,M,rfl,e,b,c,q⟩;have#[l,a,d,_]:=b.text (K:=K) (k:=k) c;refine#[_,b.place,_,a,l,_,G,.inl d,?_];rw[bE];induction s with
 |nil=>lk;erw[Qs,YT,Int.lt_irrefl,aaH,P1,aaF];exact q|cons c r=>
  have#[e,f]:=t9 b.iI;have g:((t.length-(c::r).length:Nat):Int)<(t.length:Int):=by erw[P0]at f⊢;lia
  lk;erw[g,aaG,aaE];exact#[_,a,_,b.place,l,_,_,_,G,G,.inl d,aV<|nP e,q]
def AV:Rs K ad k 2.1:=by
 rintro n H Q E⟨a,t,s,M,rfl,o,b,g,q,h⟩;have#[e,f,d,i,j,l]:=b.jX;refine#[a,e,f,G,d,i _ (by decide)<|by decide,a,t,s,M,G,∅,b,g,G,?_];induction s with
 |nil=>erw[bf,aaG];exact#[by decide,h G H di.refl]|cons c r=>
  have m:¬((c:Int)=-1):=by lia
  erw[bf,V.int.injEq,m,aaH];exact#[a,_,e,f,_,G,d,#[10.0,G,G,by decide],j,_,_,G,G,e,f,d,l,q c r G _ M _ (b.moved g) #[b.next d,G]]
def AO:Rs K ad k 2.2:=by
 rintro b H Q E⟨a,t,s,M,g,rfl,c,d,i,j,l⟩;have#[f,h,e,b,m,n]:=d.jX;refine#[a,f,h,G,e,b _ (by decide)<|by decide,a,t,s,M,G,∅,d,i,G,?_];by_cases b:bf s=(g:Nat)
 .cases s with
  |nil=>erw[bf]at b;lia|cons c r=>
   erw[b,aaG,QR];have o:c=g:=by erw[bf]at b;lia
   subst o;exact#[a,_,f,h,_,G,e,#[10.0,G,G,by decide],m,_,_,G,G,f,h,e,n,l r G _ (d.next e)<|d.moved i]
 .erw[V.int.injEq,b,aaH,QN];exact j b
def zy:Rs K ad k 2.3:=by
 rintro e H Q E⟨a,t,s,M,g,rfl,f,b,c,q,d⟩;have#[e,f,h,i,j,l]:=b.jX;refine#[a,e,f,G,h,i _ (by decide)<|by decide,a,t,s,M,g,G,∅,b,c,λa=>?_,λr b e f g=>?_];.erw[QN,aaE];refine#[by decide,d ?_ H di.refl];unfold dB;induction s with|nil=>rfl|cons c r=>erw[bf]at a;erw[aN];rw[aaC ∅];rfl
 .erw[QR,P1,aaF];refine q () r ?_ _ M e g #[f,G];rw[b];simp[dB,aN]
def zz:Rs K ad k 2.4:=by
 rintro e H Q E⟨a,t,s,M,rfl,f,b,c,q,d⟩;have#[e,f,g,h,i,j]:=b.jX;refine#[a,e,f,G,g,h _ (by decide)<|by decide,a,t,s,M,G,∅,b,c,G,?_];induction s with
 |nil=>erw[bf,aaG,QR];exact q rfl|cons c r=>
  have a:¬((c:Int)=-1):=by lia
  erw[bf,V.int.injEq,a,aaH,QN];exact#[by decide,d<|by simp]
inductive Dy(ad:F->P2)(a:P2)(t s:List Nat)(M H:Hp)(m:Nat)(σ:St)(H':Hp):Prop
 |mk(pre s' M')(_:s=pre++s')(_:(∀c∈pre,QD c=true))(_:pre.length<=19)(_:m=s'.length)(_:σ=[U (.ref a),U (.int ((t.length-s.length:Nat):Int)),U (.int (Ru pre:Nat)),O])(_:Sc ad M' H' a t s')(_:Go (W1 a) M H M' H')
def AY:Rs K ad k 1.4:=by
 rintro vs H Q E⟨a,t,s,M,rfl,hk,w,km,q,A⟩;refine#[_,w.place,?_];refine#[Dy ad a t s M H,
  #[s.length,[],s,M,G,by simp,Q9 _,G,G,w,Go.refl km],?_]
 rintro m al I⟨d,b,y,n,J,am,rfl,rfl,i,f⟩;have#[L,N,P,R,e3,e4]:=i.jX;lk;refine#[a,L,N,G,P,R _ (by decide)<|by decide,a,t,b,y,G,∅,i,f.ae,_,G,∅,?_];have aa:s.length=d.length+b.length:=by rw[n,P5]
 have ap:s.length<=t.length:=w.iI.length_le;show if(decide (48<=bf b)&&decide (bf b<=57))=true then _ else _
 by_cases j:(decide (48<=bf b)&&decide (bf b<=57))=true
 .rw[aaD j];cases b with
  |nil=>exact absurd j (by decide)|cons c r=>
   have S:QD c=true:=by rw[<-nU];exact j
   have B:48<=c:=(iX.mp S).1;refine#[_,λ_ _ h=>h,.inr #[by decide,by decide],a,L,N,G,P,R _ (by decide)<|by decide,a,t,_,y,G,∅,i,f.ae,λx s2 C v M2 H2 g2⟨T,hv⟩=>?_,λC=>by cases C];cases C;cases hv;have g:=f.then g2
   refine#[_,T.place,?_];have D:((t.length-r.length:Nat):Int)-((t.length-s.length:Nat):Int)=(d.length:Int)+1:=by rw[P0]at aa;lia
   have W:∀z∈d++[c],QD z=true:=λz o=>by
    rcases RW.mp o with o|o;.exact J z o
    .rw[RN.mp o];exact S
   have X:s=(d++[c])++r:=by rw[n,QL];rfl
   show if decide (19<((t.length-r.length:Nat):Int)-((t.length-s.length:Nat):Int))=true then _ else _
   rw[D];by_cases Y:19<(d.length:Int)+1;.rw[aaD<|decide_eq_true Y];refine#[by decide,(A ?_).now g];have ab:=(yW (f:=QD) (p:=d++[c]) (r:=r) W).1;rw[<-X,P5,QB]at ab;unfold bX;exact aaD<|.inl (by lia (config:={}))
   .rw[aaC<|by simpa using Y];refine#[r.length,by simp,d++[c],r,M2,X,W,by rw[P5,QB];lia (config:={}),G,?_,T,g];have en:((Ru d:Nat):Int)*10+(c:Int)-48=((Ru (d++[c]):Nat):Int):=by rw[lP];lia
    rw[en]
 .rw[aaC j];have ac:∀c Z,b=c::Z->QD c=false:=λc Z e=>by rw[e]at j;rw[<-nU];exact VN.mpr j
  have#[u,F]:=pL J ac;rw[<-n]at u F;refine#[_,i.place,?_];have D:((t.length-b.length:Nat):Int)-((t.length-s.length:Nat):Int)=(d.length:Int):=by lia (config:={})
  show(m7 (V.int<|((t.length-b.length:Nat):Int)-((t.length-s.length:Nat):Int)) (V.int 0)=true/\_);rw[D];refine#[G,?_];induction d with
  |nil=>erw[Qs];refine#[by decide,(A ?_).now f];unfold bX;rw[u];exact aaD<|.inr<|.inl G|cons c p=>
   have h0:¬(((c::p).length:Int)=0):=by erw[P0];lia
   erw[V.int.injEq,h0,aaH,P1,aaF];have#[l,f1,f2,_]:=i.text (K:=K) (k:=k) f.ae;have ak:t[t.length-s.length]?=U c:=by have:=w.iI;rw[n,QT]at this;have z:=(t9 this).1;rw[<-QT,<-n]at z;exact z
   by_cases h1:1<((c::p).length:Int)
   .lk;erw[h1,aaG,aaE];refine#[_,f1,l,_,_,_,G,G,.inl f2,aV<|nP ak,G,?_];by_cases B:(c:Int)=48
    .erw[B,aaG,aaE];refine#[by decide,(A ?_).now f];unfold bX;rw[u];refine aaD<|.inr<|.inr #[∅,?_];have:c=48:=by lia
     rw[this];rfl
    .erw[V.int.injEq,B,aaH,P1,aaF];refine q _ b ?_ _ y I f #[i,G];unfold bX;rw[u,F,aaC];rintro(e|e|⟨_,e⟩);.lia
     .cases e
     .simp at e;lia
   .lk;erw[h1,aaH,P1,aaF];refine q _ b ?_ _ y I f #[i,G];unfold bX;rw[u,F,aaC];rintro(e|e|⟨e,_⟩);.lia
    .cases e
    .lia
inductive DA(ad:F->P2)(a:P2)(t s:List Nat)(M H:Hp)(m:Nat)(σ:St)(H':Hp):Prop
 |mk(pre s' M')(_:s=pre++s')(_:(∀c∈pre,Qa c=true))(_:m=s'.length)(_:σ=[U (.ref a),U (.int ((t.length-s.length:Nat):Int))])(_:Sc ad M' H' a t s')(_:Go (W1 a) M H M' H')
def A7:Rs K ad k 1.5:=by
 rintro c H Q E⟨a,t,s,M,rfl,d,j,b,q,e⟩;refine#[_,j.place,?_];refine#[DA ad a t s M H,
  #[s.length,[],s,M,G,by simp,G,G,j,Go.refl b],?_]
 rintro m b s⟨i,d,n,o,l,rfl,rfl,f,g⟩;have#[e,m,p,u,b,c]:=f.jX;refine#[a,e,m,G,p,u _ (by decide)<|by decide,a,t,d,n,G,∅,f,g.ae,_,G,∅,?_];show if((decide (97<=bf d)&&decide (bf d<=122))||((decide (48<=bf d)&&decide (bf d<=57))||decide (bf d=95)))=true then _ else _
 by_cases b:((decide (97<=bf d)&&decide (bf d<=122))||((decide (48<=bf d)&&decide (bf d<=57))||decide (bf d=95)))=true
 .rw[aaD b];induction d with
  |nil=>exact absurd b (by decide)|cons c r=>
   have w:Qa c=true:=by rw[<-yp];exact b
   refine#[_,λ_ _ h=>h,a,e,m,G,p,u _ (by decide)<|by decide,a,t,_,n,G,∅,f,g.ae,λx p a v e t h⟨m,u⟩=>?_,λa=>by cases a];cases a;refine#[r.length,by simp,i++[c],r,e,by rw[o,QL];rfl,λz a=>?_,G,G,m,g.then h];rcases RW.mp a with a|a;.exact l z a
   .rw[RN.mp a];exact w
 .rw[aaC b];have h:∀c a,d=c::a->Qa c=false:=λc a e=>by rw[e]at b;rw[<-yp];exact VN.mpr b
  have#[a,c]:=pL l h;rw[<-o]at a c;have#[l,b,e,_]:=f.text (K:=K) (k:=k) g.ae;refine#[_,b,_,G,_,f.place,_,G,l,_,G,e,λp l=>#[p,_,G,af.of ah,λb e=>?_]];rw[rn j.iI o];rw[rn j.iI o]at e;have h:Go W0 n s (upd n b<|.tup<|bv i)<|upd (upd s p<|.lst<|bv i) b<|.tup<|bv i:=((Go.refl g.ae).alloc l).bc e;refine q i d ?_ _ _ _ (g.aB h) #[f.over h id,b,G,ah];unfold yq;rw[a,c]
def zR:Rs K ad k 0.2:=by rintro c H Q E⟨a,b,v,w,rfl,d,h,q⟩;refine#[a,_,b,_,G,h,#[10.1,G,G,by decide],by decide,a,_,b,_,G,ah,#[10.1,G,G,by decide],by simp[bb],?_];rw[cR];exact q
def Au:Rs K ad k 1.6:=by
 rintro b H Q E⟨l,t,M,rfl,d,a,h,e,c,q⟩;have b:(16000000:Nat)<Qq:=by decide
 refine#[l,_,G,af.of a,λb d=>?_];have e:Go W0 M H (upd M b (.tup (bv t))) (upd H b (.tup (bv t))):=(Go.refl c).bc d;refine#[by decide,λc d=>?_];have f:=e.alloc (o:=.lst [V.int 34]) d;have d:(upd (upd H b (.tup (bv t))) c (.lst [V.int 34])) l=U (.lst (bv t)):=f.st l _ a id;refine#[c,l,_,_,G,G,ah,d,by erw[QB,bE];lia,λd c=>#[by decide,λe a=>?_]];have g:=f.alloc (o:=.lst ([V.int 34]++bv t)) c;have c:=g.alloc (o:=.lst [V.int 34]) a;refine#[d,e,[V.int 34]++bv t,[V.int 34],G,G,?_,ah,by erw[P5,QB,bE];lia,λf d=>?_];.rw[aq (λz=>by subst z;rw[ah]at a;cases a),ah]
 have a:=c.bc (o:=.lst ([V.int 34]++bv t++[V.int 34])) d;refine sG (l:=.str t) ∅ a.ae #[b,G,?_] #[f,G,?_] λv b e g f=>q v b e (a.aB g) f;.exact p9 ah (c.ae.none d)
 .rw[ah];show U (HO.lst _)=U (HO.lst (bv (34::(t.flatMap Uo++[34]))));rw[wH h];simp[bv]
def Am:Rs K ad k 1.7:=by
 rintro b H Q E⟨n,M,rfl,c,a,f,q⟩;erw[eY,gT,dH,kS];have c:((n:Nat):Int).natAbs.log2<1920:=by
  rw[UB];by_cases b:n=0;.subst b;decide
  .have:n.log2<70:=(Nat.log2_lt b).mpr a;lia
 have b:tl (toString ((n:Nat):Int):QQ)=Ra n:=by rw[<-yw];exact iJ n
 have d:(Ra n).length<=30:=by rw[<-yw];exact jq (by decide)<|Qx a (by decide)
 refine#[_,G,c,_,G,λD g=>#[λi m a=>i<=(Ra n).length/\m=(Ra n).length-i/\a=upd H D (.lst<|bv<|(Ra n).take i),#[_,Q9 _,G,G],?_]];rintro i m a⟨c,rfl,rfl⟩;have d:(toString ((n:Nat):Int):QQ).cps.size=(Ra n).length:=by rw[<-b];simp[tl]
 by_cases c:i<(Ra n).length
 .refine .inr #[by show i<_;rw[d];exact c,λa=>a=upd H D (.lst<|bv<|(Ra n).take<|i+1),λa e=>#[_,∅,∅,G,e],?_];rintro x a⟨rfl,c,e,rfl⟩;have h:(Ra n)[i]?=U c:=by rw[<-b];simpa[tl]using e
  refine#[by simp[wipe],?_];erw[aaE,wipe,X8];refine#[_,G,G,_,ah,?_,?_]
  .rw[bE,RC];have:(30:Nat)<Qq:=by decide
   lia
  .rw[cR,take_snoc h,qX];rfl
 .refine .inl #[by show _<=i;rw[d];lia,?_];have b:i=(Ra n).length:=by lia
  rw[b,TK];have b:=(Go.refl (W:=W0) f).bc (o:=.lst<|bv<|Ra n) g;refine sG (l:=.num (n:Nat)) ∅ b.ae rfl #[D,G,?_] λv c a g d=>q v c a (b.aB g) d;rw[ah];show _=U (HO.lst<|bv<|RK (n:Nat));unfold RK;rw[aaC ∅,UB]
def zI:Rs K ad k 1.8:=by
 rintro e H Q E⟨w,f,l,x,M,rfl,g,c,d,b,a,q⟩;have#[e,g,f]:=ai.ax (K:=K) (k:=k) b a;refine#[_,e,G,?_];induction l with
 |text n=>
  induction x with
  |num z=>exact d.elim|str s=>
   have#[b,rfl,e]:=c;erw[aw,aaG];refine#[b,_,G,.inr<|aR.of<|a _ _ e,_,f,?_];rw[bE];have e:Rn (.text n) (.str s)=decide ((s.length:Int)<=fV (.leaf<|.text n)):=by show decide (s.length<=n)=decide ((s.length:Int)<=((n:Nat):Int));apply decide_eq_decide.mpr;lia
   rw[e]at q;exact q
 |bit=>
  induction x with
  |str s=>exact d.elim|num z=>
   have c:w=.int z:=c;subst c;rw[wG<|by intro n e;cases e]at q;have b:decide (V.int (aw<|.leaf .bit)=V.int 116)=false:=by decide
   rw[b];simp only;refine#[_,g,_,G,?_];by_cases a:jU .bit<=z;.erw[mG,a,aaG,aaE];refine#[_,f,?_];rw[decide_eq_true a,U7]at q;exact q
   .erw[mG,a,aaH,P1,aaF];simpa[a]using q
 |int n=>
  induction x with
  |str s=>exact d.elim|num z=>
   have c:w=.int z:=c;subst c;rw[wG<|by intro n e;cases e]at q;have b:decide (V.int (aw<|.leaf<|.int n)=V.int 116)=false:=by show decide (V.int 105=V.int 116)=false;decide
   rw[b];simp only;refine#[_,g,_,G,?_];by_cases a:jU (.int n)<=z;.erw[mG,a,aaG,aaE];refine#[_,f,?_];rw[decide_eq_true a,U7]at q;exact q
   .erw[mG,a,aaH,P1,aaF];simpa[a]using q
def Bd:Rs K ad k 3.0:=by
 rintro A H Q E⟨a,t,s,M,rfl,B,f,o,q,e⟩;have#[p,u,w,x]:=cg f '^' (by decide) (by decide);refine#[a,p,u,G,w,x,a,t,s,M,G,∅,f,o,λc g h v i j d⟨l,y⟩=>?_,λz=>?_]
 .cases y;cases s with
  |nil=>cases h|cons C r=>
   cases h;refine#[_,G,∅,?_];rw[nU];cases b:QD c with
   |true=>
    refine q (c-48) g ?_ _ i j d #[l,?_];.simp[gK,Ti,b]
    .have:=(iX.mp b).1;show V.int _=V.int _;congr 1;lia
   |false=>
    simp only;refine#[_,G,?_];by_cases m:97<=(c:Int)
    .erw[m,aaG,aaE];by_cases n:(c:Int)<=102
     .lk;erw[n,aaG,aaE];refine q (c-87) g ?_ _ i j d #[l,?_]
      .have:97<=c/\c<=102:=by lia
       simp[gK,Ti,b,this]
      .show V.int _=V.int _;congr 1;lia
     .lk;erw[n,aaH,P1,aaF];refine#[by decide,(e ?_).now d];have:¬(97<=c/\c<=102):=by lia
      simp[gK,Ti,b,this]
    .erw[m,aaH,P1,aaF];refine#[by decide,(e ?_).now d];have:¬(97<=c/\c<=102):=by lia
     simp[gK,Ti,b,this]
 .exact e (by cases s with|nil=>rfl|cons c r=>cases z)
def AW:Rs K ad k 1.12:=by
 rintro d H Q E⟨a,t,s,M,rfl,e,b,c,q,f⟩;have#[d,e,g,h]:=cg b '^' (by decide) (by decide);refine#[a,d,e,G,g,h,a,t,s,M,G,∅,b,c,λc g d v h j e⟨l,b⟩=>?_,λi=>?_]
 .cases b;cases s with
  |nil=>cases d|cons b r=>
   cases d;refine#[_,G,∅,?_];cases b:SQ c with
   |true=>exact q c g (by simp[eM,b]) _ h j e #[l,G]|false=>
    refine#[G,?_];by_cases m:(c:Int)=92
    .have j:c=92:=by lia
     erw[m,aaG,QR];refine#[a,t,g,h,G,∅,l,e.ae,λx g d n o l h⟨p,u⟩=>?_,λi n l=>?_]
     .cases u;refine#[.inr #[by decide,by decide],a,t,g,o,G,∅,p,h.ae,λy u o t v w p⟨z,g⟩=>?_,λi=>?_]
      .cases g;have g:=(e.then h).then p
       have p:(x:Int)*16+(y:Int)=((x*16+y:Nat):Int):=by lia
       refine#[x*16+y,by rw[<-p],∅,?_];cases t:SQ (x*16+y)with|true=>lk;simp only;refine#[by decide,(f ?_).now g];simp[eM,j,d,o,t];rw[j]at b;simp[b]|false=>refine q (x*16+y) u ?_ _ v w g #[z,congrArg V.int p];rw[j]at b⊢;simp[eM,b,d,o,t]
      .refineλg l=>f ?_ g ((e.then h).ug l λa h=>.inl h);rw[j]at b⊢;simp[eM,b,d,i]
     .refine f ?_ n ?_;.rw[j]at b⊢;simp[eM,b,i]
      .exact e.ug l λa h=>.inl h
    .erw[V.int.injEq,m,aaH,QN];refine#[by decide,(f ?_).now e];have:¬c=92:=by lia
     simp[eM,b,this]
 .exact f (by cases s with|nil=>rfl|cons c r=>cases i)
inductive DB(ad:F->P2)(a l:P2)(t s1:List Nat)(M H:Hp)(m:Nat)(σ:St)(H':Hp):Prop
 |mk(acc s' M')(_:Q5 s1=(Q5 s').map (λz=>(acc++z.1,z.2)))(_:m=s'.length)(_:σ=[U (.ref a),U (.ref l)])(_:H' l=U (.lst (bv acc)))(_:M' l=O)(_:Sc ad M' H' a t s')(_:Go (W1 a) M H M' H')(_:acc.length+s'.length<=t.length)
def Bb:Rs K ad k 1.11:=by
 rintro vs H Q E⟨a,t,s,M,rfl,hk,F,km,q,R⟩;have#[dx,fs,e1,e2]:=cg F 'A' (by decide) (by decide);refine#[a,dx,fs,G,e1,e2,a,t,s,M,34,G,∅,F,km,λx j S v M1 H1 I⟨J,hv⟩=>?_,λn=>R ?_]
 .have T:∀y,Q5 j=y->j5 s=y:=λy hy=>by unfold dB at S;have#[r,L,e]:=omap.mp S;cases e;unfold j5;rw[L];exact hy
  refine#[by decide,λl o=>?_];have aa:H l=O:=I.bQ l o;refine#[DB ad a l t j M H,
   #[j.length,[],j,M1,?_,G,G,ah,I.ae.none o,J.upd λz=>?_,I.alloc o,?_],?_]
  .cases Q5 j<;>rfl
  .subst z;have#[_,_,_,h1,_]:=J;rw[h1]at o;cases o
  .simpa using J.iI.length_le
  .rintro m av H2⟨f,A,B,N,rfl,rfl,i,ab,p,u,a0⟩;have#[ac,ak,e3,e4]:=cg p 'Q' (by decide) (by decide);refine#[a,ac,ak,G,e3,e4,a,t,A,B,34,G,∅,p,u.ae,λhc=>?_,λr L w C d=>?_]
   .simp only;have al:∀r,A=34::r->False:=λr e=>hc (by rw[e];rfl);have V:=NB al;refine#[_,λ_ _ h=>h,l,G,#[_,af.of i],a,t,A,B,G,∅,p,u.ae,λc P W v3 X w d⟨C,am⟩=>?_,λn=>?_]
    .cases am;have D:w l=U (.lst<|bv f):=d.st l _ i<|Q4<|p.ne i;have Y:X l=O:=d.da ab i;have ap:P.length<A.length:=FY W;have h5:=F.le;refine#[_,D,by rw[bE];have:=c9;lia,P.length,ap,f++[c],P,X,?_,G,G,?_,Y,C.upd<|C.ne D,(u.then d).set (.inr aa) Y,?_];.rw[N,V,W];erw[P4,Wj];congr 1;funext z;simp[Wr]
     .rw[ah,qX];rfl
     .rw[P5,QB];lia
    .refine(R<|T _ ?_).same u;rw[N,V,n];rfl
   .simp only;subst L;have D:w l=U (.lst<|bv f):=d.st l _ i<|Q4<|p.ne i;have g:=u.then d
    refine#[l,_,G,af.of D,λb hb=>?_];have Z:Go W0 B w (upd B b<|.tup<|bv f)<|upd w b<|.tup<|bv f:=(Go.refl d.ae).bc hb;refine q f r (T _ ?_) _ _ _ (g.aB Z) #[C.over Z id,b,G,ah];rw[N];simp[Q5]
 .unfold j5;unfold dB at n;cases he:aN 34 s with|none=>rfl|some r=>rw[he]at n;cases n
def Bf:Rs K ad k 1.10:=by
 rintro c H Q E⟨a,t,s,M,rfl,d,b,h,q,f⟩;have#[c,d,e,g]:=cg b 'Q' (by decide) (by decide);refine#[a,c,d,G,e,g,a,t,s,M,45,G,∅,b,h,λc=>?_,λr j i g d=>?_];.erw[QN,aaE];have l:∀r,s=45::r->False:=λr e=>c (by rw[e];rfl);have c:=nB l;refine#[a,t,s,M,G,∅,b,h,λn h b v l i d⟨g,e⟩=>?_,λb=>f<|by rw[c,b];rfl];exact q n h (by rw[c,b];rfl) v l i d #[g,e]
 .erw[QR,P1,aaF];subst j;have c:=uG (r:=r);refine#[a,t,r,M,G,∅,g,d.ae,λn h b v i j a⟨l,e⟩=>?_,λb=>(f<|by rw[c,b];rfl).same d];cases e;have g:=d.then a
  refine#[G,?_];by_cases a:(n:Int)=0
  .erw[a,aaG];refine#[by decide,(f ?_).now g];have:n=0:=by lia
   rw[c,b];simp[this]
  .erw[V.int.injEq,a,aaH];refine#[_,G,q _ h ?_ _ i j g #[l,G]];have:¬n=0:=by lia
   rw[c,b];simp[this]
end
section
open Vacola (Lit)
variable{K:PY}{ad:F->P2}{k:Nat}
def A4:Rs K ad k 1.9:=by
 rintro b H Q E⟨a,t,s,M,g,l,rfl,i,c,j,m,q,o⟩;have#[b,_,_]:=ai.ax (K:=K) (k:=k) i m;refine#[_,j.place,_,b,G,?_];have r:∀(w:V)(x:Lit)(e:Qv)(b c:Hp),cb l s=U (x,e)->Go (W1 a) M H b c->Sc ad b c a t e->fL b w x->
   cK (Gq K ad k) E (gj<|gj (dat 1.9).c) (D0 Q) [U<|.ref a,U g,U<|.int ((t.length-s.length:Nat):Int),U w] c:=by
  intro w x e b c f d h u
  refine#[w,g,l,x,b,G,∅,u,OT f,ai.mono d.fr _ _ i,d.ae,?_]
  cases w:Rn l x with
  |false=>
   refine#[by decide,(o ?_).now d]
   unfold dQ
   rw[f]
   simp[w]
  |true=>
   have#[g,i,n,_]:=h.text (K:=K) (k:=k) d.ae
   have v:=sC f
   refine#[_,i,_,G,_,h.place,_,G,g,_,G,n,λp g=>?_]
   rw[rn j.iI v]
   have n:Go W0 b c (upd b p<|.lst<|bv<|RA x)<|upd c p<|.lst<|bv<|RA x:=(Go.refl d.ae).bc g
   refine sG (l:=x) ∅ n.ae (u.mono n.fr) #[p,G,ah] λv p u g i=>q x e ?_ v p u ((d.aB n).aB g) #[(h.over n id).over g id,i]
   unfold dQ
   rw[f]
   simp[w]
 induction l with
 |text n=>
  erw[aw,aaG];refine#[a,t,s,M,G,∅,j,m,λx e f v b c d⟨h,i⟩=>r v (.str x) e b c ?_ d h i,λg=>o ?_];.rw[sy,f];rfl
  .unfold dQ;rw[sy,g];rfl
 |bit=>
  have l:decide (V.int (aw<|.leaf .bit)=V.int 116)=false:=by decide
  rw[l];simp only;refine#[a,t,s,M,G,∅,j,m,λx e f v b c d⟨h,i⟩=>r v (.num x) e b c (by erw[aaI,lit_int];rw[f];rfl) d h i,λg=>o ?_];unfold dQ;erw[aaI,lit_int];rw[g];rfl
 |int n=>
  have l:decide (V.int (aw<|.leaf<|.int n)=V.int 116)=false:=by show decide (V.int 105=V.int 116)=false;decide
  rw[l];simp only;refine#[a,t,s,M,G,∅,j,m,λx e f v b c d⟨h,i⟩=>r v (.num x) e b c (by erw[aaI,lit_int];rw[f];rfl) d h i,λg=>o ?_];unfold dQ;erw[aaI,lit_int];rw[g];rfl
end
section
variable{K:PY}{ad:F->P2}{k:Nat}
def zW:Rs K ad k 3.1:=by
 rintro f H Q E⟨g,b,M,rfl,h,d,e,q⟩;have#[a,_,_]:=ai.ax (K:=K) (k:=k) d e;refine#[_,a,G,_,G,?_];rcases b with l|⟨c,i⟩;.induction l<;>simpa[aw,aQ]using#[_,a,G,q]
 .induction c with|false=>simpa[aw,aQ]using q|true=>simpa[aw,aQ]using#[_,a,G,q]
def Ai:Rs K ad k 3.3:=by
 rintro d H Q E⟨u,x,M,rfl,e,a,b,c,q⟩;have#[n,d,h,i,j,e,f,l,m,g,o]:=aE.ax (K:=K) (k:=k) a c;refine#[_,e,G,?_];by_cases a:x.1.mode=.one;.erw[gR.mpr a,aaG];refine#[_,f,d,x.2,M,G,∅,g,b,c,λv b d e f=>#[by decide,λl b=>?_]];have#[h,d,i,g]:=iK e f;rw[aaD a]at q;exact q _ _ _ (d.bc b) #[l,_,G,ah,.cons (ar.mono (bg<|d.ae.none b) _ _ _ g) .nil]
 .have:¬br x.1.mode=33:=λe=>a (gR.mp e);erw[V.int.injEq,this,aaH];rw[aaC a]at q;exact#[by decide,λl b=>q _ _ _ ((Go.refl c).bc b) #[l,_,G,ah,.nil]]
end
section
set_option tactic.hygienic true
variable{K:PY}{ad:F->P2}{k:Nat}
def Aj:Rs K ad k 3.2:=by
 rintro W H Q E⟨kv,i,M,rfl,X,N,d,a,q⟩;have#[F,_,_]:=ai.ax (K:=K) (k:=k) N a;refine#[_,F,G,?_];rcases bM i with⟨m,rfl⟩|⟨m,rfl⟩|⟨l,rfl⟩
 .erw[aw,aaG];have#[f,P,pn,pm,s,_,_,I,t,_,_]:=ai.bI (K:=K) (k:=k) N a;erw[aI]at d;refine#[_,s,f,G,#[_,af.of<|a _ _ I],?_];have ac:P.length=m.list.length:=Qy t;have ak:m.list.length<=1000000:=uF d.2;refine xD (te:=λal H Q=>match al[1]? with|some (U v)=>pS ad 3.3 k [v] H Q E|_=>False) (R:=λM v(y:Kd×List Sk)=>bp (λv B=>ar ad M y.1 v B) M v y.2) (λM M' v y Y h=>h.imp Y λv x=>ar.mono Y y.1 v x) a I ac ak (g:=λx:HK=>(x.2,if x.1.mode=.one then[QG x.2]else[])) (λv=>?_) ?_ ?_;.rfl
  .intro j u x R C c z A Q1 am;have#[B,ap,S]:=cn t R;have e:B=x:=QO<|ap.symm.trans C;subst e;have Z:=List.mem_of_getElem? C;have hh:=fk Z;erw[aF]at X;refine#[u,B,c,G,∅,S.mono A.fr,(gn d.2 B Z).2.2.2.1,A.ae,λv M2 H2 J g=>am v M2 H2 J g]
  .intro D W c z A av a0 a6 aa;refine q _ _ _ A ?_;show qw ad _ _ _ (.group false m) _ _;refine#[D,W,Rh m,G,by rw[oG],av,a6,a0,j9 ?_ (mF m) λp x w o C d ho=>?_];.have:=Qy aa;simpa using this
   .rw[xO,List.getElem?_map,C]at ho;cases ho;have#[y,hy,S]:=cn aa d;rw[List.getElem?_map,C]at hy;cases hy;exact S
 .have e0:decide (V.int (aw<|.group true m)=V.int 123)=false:=by show decide (V.int 60=V.int 123)=false;decide
  rw[e0];simp only;refine#[_,F,G,?_];erw[aw,aaG];have#[f,P,pn,pm,s,_,_,I,t,_,_]:=ai.bI (K:=K) (k:=k) N a;erw[aI]at d;have#[T,i,r,rfl]:=Im d.1;.erw[PZ]at t;cases t with|cons R t=>rename_i u P;have#[n,a7,fl,a1,a2,a3,a4,a5,b1,b2,b3]:=aE.ax (K:=K) (k:=k) R a;have ab:=d.2;erw[cV]at ab;have hh:aF i<=ik (.cons T i r):=fk (x:=(T,i)) (by simp[PZ]);erw[aF]at X;refine#[_,s,f,0,_,_,G,G,.inl<|af.of<|a _ _ I,aV (j:=0) G,_,a4,a7,i,M,G,∅,b2,ab.2.2.2.1,a,λv c z A g=>#[by decide,λl hl=>?_]];have#[M2,J,k2,a8]:=iK A g;refine q _ _ _ (J.bc hl) ?_;rw[JB];show ar ad _ _ _ _;exact#[l,0,v,_,G,G,ah,ka.mpr #[(T,i),_,G,G,ar.mono (bg<|J.ae.none hl) _ _ _ a8]]
 .have n1:¬aw (.leaf l)=123:=λe=>by have#[_,e]:=fW.mp e;cases e
  have n2:¬aw (.leaf l)=60:=λe=>by have#[_,e]:=jk.mp e;cases e
  erw[V.int.injEq,n1,aaH];refine#[_,F,G,?_];erw[V.int.injEq,n2,aaH];refine#[_,F,G,?_];by_cases L:aw (.leaf l)=116;.have#[n,e]:=xU.mp L;cases e;erw[L,aaG];refine#[by decide,λb hb=>#[b,[],M,G,∅,ah,by simp,by simp,a.trans<|bg hb,λv c z s g=>?_]];have g0:=(Go.refl (W:=W0) a).alloc (o:=.lst []) hb;refine q v c z (g0.aB s) ?_;show ar ad c (.leaf<|.text n) v _;exact#[_,G,g]
  .erw[V.int.injEq,L,aaH];refine#[0,M,G,∅,by decide,a,λv c z s g=>?_];refine q v c z s ?_;show ar ad c (.leaf l) v _;induction l with|text n=>exact absurd rfl L|bit=>exact#[_,G,g]|int n=>exact#[_,G,g]
end
section
variable{K:PY}{ad:F->P2}{k:Nat}
def Aa:Rs K ad k 3.9:=by rintro b H Q E⟨v,x,c,M,rfl,e,d,f,g,a,q⟩;have#[o,l,b,p,u,c,y,h,e,rfl,i,j,m,n,r]:=sk d f g;have#[w,d,e]:=cZ.worth (K:=K) (k:=k) m a;exact#[b,0,_,_,G,G,.inl<|af.of<|a _ _ i,aV (j:=0) G,c,0,_,_,G,G,.inl<|af.of<|a _ _ j,aV (j:=0) G,w,d,q w h n e]
def Ac:Rs K ad k 3.8:=by
 rintro b H Q E⟨c,v,M,o,rfl,d,a,f,l,w,e,q⟩;have#[b,d,rfl,m,n]:=a;have a:d.length=o.length:=Qy n;refine pZ (lo:=1) (hi:=d.length) (H1:=H) (λR a=>#[b,d,G,.inl<|af.of<|e _ _ m,a]) ∅ ?_;refine#[λj p r=>r=H/\(∃y,p=[U<|.ref b,y])/\∀(i:Nat)(a c:Sk),i<j->o[i]?=U a->o[i+1]?=U c->Uk (R5 a) (R5 c)=true,#[G,#[_,G],λi a c h=>by lia],?_,?_]
 .rintro p r⟨rfl,⟨y,rfl⟩,h⟩;have:RJ o=true:=tI.mpr λj a c g f=>h j a c (by
   have:=(List.getElem?_eq_some_iff.mp f).1
   lia) g f
  rw[this]at q;exact q
 .rintro j p r s⟨rfl,⟨y,rfl⟩,h⟩;obtain⟨x,y⟩:∃u,d[j]?=U u:=#[d[j]'∅,by simp];obtain⟨z,A⟩:∃u,d[j+1]?=U u:=#[d[j+1]'∅,by simp];have#[p,r,B]:=cn n y;have#[s,t,C]:=cn n A;have D:=w p<|List.mem_of_getElem? r;have E:=w s<|List.mem_of_getElem? t;have#[u,F,_,_,_,_,_,w,I,_,_,_,_,n,J]:=sk B l D;have#[N,P,_,_,_,_,_,F,H,_,_,_,_,u,L]:=sk C l E;rw[I]at H;cases H;refine#[b,_,d,x,G,G,.inl<|af.of<|e _ _ m,?_,x,p,v,M,G,∅,B,l,D,e,λD H x B=>?_]
  .have:(1:Int)+(j:Int)-1=((j:Nat):Int):=by lia
   rw[this];exact aV y
  refine#[b,_,d,z,G,G,.inl<|af.of<|e _ _ m,?_,z,s,v,M,G,∅,C,l,E,e,λl m b d=>?_]
  .have:(1:Int)+(j:Int)=((j+1:Nat):Int):=by lia
   rw[this];exact aV A
  rw[n]at x;rw[u]at b;cases x;cases b;show uw _ _ _ _ _;rw[C9];refine Io e B d (uk J) (uk L) ?_;cases b:Wh w F with
  |true=>
   refine#[G,#[_,G],λi a c d g f=>?_];by_cases d:i=j;.subst d;rw[r]at g;rw[t]at f;cases g;cases f;rw[n,u];exact b
   .exact h i a c ∅ g f
  |false=>
   have:RJ o=false:=by cases a:RJ o with|false=>rfl|true=>have:=tI.mp a j p s r t;rw[n,u]at this;have t:Wh w F=true:=this;rw[b]at t;cases t
   rw[this]at q;exact q
def AU:Rs K ad k 3.7:=by
 rintro a H Q E⟨b,m,g,M,o,rfl,e,d,h,i,c,q⟩;have#[b,a,e,f,j]:=id d;subst e;have l:a.length=o.length:=Qy j;refine#[G,?_];induction m with
 |one=>
  erw[show br .one=33 from G,aaG];refine#[b,a,G,.inl<|af.of<|c _ _ f,G,?_];have e:decide (V.int (a.length:Int)=V.int 1)=QK .one o:=by rw[Rt];simp[QK];lia
  lk;rw[e];exact q
 |opt=>
  erw[show br .opt=63 from G,show decide (V.int 63=V.int 33)=false by decide];refine#[G,?_];erw[aaG];refine#[b,a,G,.inl<|af.of<|c _ _ f,?_];have e:decide ((a.length:Int)<=1)=QK .opt o:=by rw[Rt];simp[QK];lia
  lk;lk;rw[e];exact q
 |keyed=>erw[show br .keyed=37 from G,show decide (V.int 37=V.int 33)=false by decide];refine#[G,?_];erw[show decide (V.int 37=V.int 63)=false by decide];refine#[G,?_];erw[aaG];have#[a,b]:=i rfl;exact#[_,g,M,o,G,∅,d,h,a,b,c,q]|many=>erw[show br .many=42 from G,show decide (V.int 42=V.int 33)=false by decide];refine#[G,?_];erw[show decide (V.int 42=V.int 63)=false by decide];refine#[G,?_];erw[show decide (V.int 42=V.int 37)=false by decide];exact q
def zK:Rs K ad k 6.4:=by
 rintro a H Q E⟨n,rfl,b,c,d,q⟩;lk;refine pZ (lo:=1) (hi:=n) (H1:=H) (λR a=>a) ∅ ?_;refine#[λj a b=>b=H/\∃y,a=[U<|.int (n:Nat),U<|.int<|2^j,y],#[G,_,G],?_,?_]
 .rintro a b⟨rfl,y,rfl⟩;have e:((n:Int)-1).toNat=n-1:=by lia
  rw[e];exact q
 .rintro j a b c⟨rfl,y,rfl⟩;lk;exact#[.inr #[by decide,by decide],G,U<|.int<|1+(j:Int),by rw[Int.pow_succ]]
def zU:Rs K ad k 0.6:=by rintro c H Q E⟨a,b,v,w,rfl,d,h,q⟩;refine#[a,_,b,_,G,h,#[10.5,G,G,by decide],by decide,a,_,b,_,G,ah,#[10.5,G,G,by decide],by simp[bb],?_];rw[cR];exact q
inductive Ds(ad:F->P2)(fs:Qh)(kv dv:V)(b:P2)(M H:Hp)(j:Nat)(σ:St)(H':Hp):Prop
 |mk(ws oss)(_:H'=upd H b (.lst ws))(_:(∃y,σ=[U kv,U dv,U (.ref b),y]))(_:(fs.list.take j).mapM (λx=>Qr x.1 x.2)=U oss)(_:ws.length=j)(_:(∀(p:Nat)(x:HK)(w:V)(o:List Sk),p<j->fs.list[p]?=U x->ws[p]?=U w->oss[p]?=U o->bp (λv x'=>ar ad M x.2 v x') M w o))
def zE:Rs K ad k 3.6:=by
 rintro c H Q E⟨b,j,t,M,d,rfl,e,h,A,F,i,a,q⟩;have#[c,_,_]:=ai.ax (K:=K) (k:=k) h a;refine#[_,c,G,?_];rcases bM b with⟨g,rfl⟩|⟨g,rfl⟩|⟨l,rfl⟩
 .erw[aw,aaG,QR];refine#[by decide,λb c=>?_];have#[f,e,p,r,o,_,_,m,n,_,_]:=ai.bI (K:=K) (k:=k) h<|a.trans<|bg (o:=.lst []) c;have r:e.length=g.list.length:=Qy n;have E:e.length<=999:=by erw[aI]at i;rw[r];exact qj i.2
  have s:f≠b:=λz=>by have:=a _ _ m;rw[z,c]at this;cases this
  have h:RT (.group false g) d=(g.list.mapM λx=>Qr x.1 x.2).map aag:=by rw[RT,wB]
  rw[h]at q;lk;refine Cy (b:=f) (us:=e) (H1:=upd H b<|.lst []) (λR f=>#[_,o,f]) ?_;refine#[Ds ad g j t b M H,?_,#[[],[],G,#[_,G],by simp,G,λp x w o h=>by lia],?_,?_];.rintro j h C⟨f,i,rfl,_⟩;rw[aq s];exact a _ _ m
  .rintro h C⟨f,i,rfl,⟨y,rfl⟩,m,z,B⟩;rw[r,TK]at m;rw[m]at q;have u:aj M<|upd M b<|.lst f:=bg<|a.none c;refine q _ _ _ ((Go.refl a).bc c) ?_;show ar ad _ (.group false g) _ _;refine#[b,f,i,G,G,ah,j9 ∅ (fu m).1 λp x w o r s v=>?_];have D:p<e.length:=by have:=(List.getElem?_eq_some_iff.mp r).1;lia
   exact(B p x w o D r s v).imp u λv s=>ar.mono u _ v s
  .rintro j u h C D⟨f,i,rfl,⟨y,rfl⟩,m,z,B⟩;have#[x,r,e]:=cn n D;have I:aj M<|upd H b<|.lst f:=sf a<|a.none c;have#[n,J,u,L,N,P,Q,C,R,S,h]:=aE.ax (K:=K) (k:=k) e I;have e:=take_snoc r;have n:(g.list.take<|j+1).mapM (λx=>Qr x.1 x.2)=(Qr x.1 x.2).map λy=>i++[y]:=by rw[e,sE,m];rfl
   refine#[_,C,?_];cases y:Qr x.1 x.2 with
   |none=>rw[y]at h n;have e:u=.ao:=h;subst e;erw[aaG];have I:(g.list.mapM λx=>Qr x.1 x.2)=O:=yf (i:=j+1) n;rw[I]at q;exact q _ M _ ((Go.refl a).alloc c) rfl|some o=>
    rw[y]at h n;have h:bp (λv s=>ar ad M x.2 v s) M u o:=h;have v:u≠.ao:=by have#[c,_,rfl,_]:=h;simp
    erw[v,aaH];refine#[b,G,#[_,af.of ah],_,C,f,ah,?_,f++[u],i++[o],by rw[cR],#[_,G],n,by rw[P5,z];rfl,λp s w n o f b c=>?_];.have:=c9;have o:=(List.getElem?_eq_some_iff.mp D).1;have u:=E;lia
    .have u:i.length=j:=by have:=(fu m).1;rw[RC]at this;have o:=(List.getElem?_eq_some_iff.mp r).1;lia
     by_cases i:p=j;.subst i;rw[r]at f;cases f;rw[List.getElem?_append_right ∅,z]at b;rw[List.getElem?_append_right ∅,u]at c;simp at b c;subst b c;exact h
     .rw[List.getElem?_append_left ∅]at b;rw[List.getElem?_append_left ∅]at c;exact B p s w n ∅ f b c
 .have b:¬aw (.group true g)=123:=λe=>by have#[_,e]:=fW.mp e;cases e
  erw[V.int.injEq,b,aaH,QN];refine q t M H (Go.refl a) ?_;have:d=O:=by induction d with|none=>rfl|some x=>have#[l,e]:=F rfl;cases e
  subst this;exact A
 .have b:¬aw (.leaf l)=123:=λe=>by have#[_,e]:=fW.mp e;cases e
  erw[V.int.injEq,b,aaH,QN];refine q t M H (Go.refl a) ?_;induction d with|none=>exact A|some x=>show ar ad M (.leaf l) t (.lit x);exact#[x,G,A]
def zF:Rs K ad k 3.5:=by
 rintro d H Q E⟨h,a,b,c,M,rfl,l,e,f,i,j,g,q⟩;refine#[G,?_];unfold Qr at q;by_cases d:h.mode=.one
 .erw[gR.mpr d,aaG,QR];rw[aaD d]at q;refine#[a,b,c,M,h.dflt,G,∅,e,f,i,j,g,λv b j f c=>?_];cases i:RT a h.dflt with
  |none=>rw[i]at c q;have e:v=.ao:=c;subst e;simp only;exact q _ b j f rfl|some x=>
   rw[i]at c q;have c:ar ad b a v x:=c;have i:v≠.ao:=by
    rcases bM a with⟨a,rfl⟩|⟨a,rfl⟩|⟨l,rfl⟩;.have#[b,_,_,rfl,_]:=c;simp
    .have#[b,_,_,_,rfl,_]:=c;simp
    .have#[_,_,a,_,_,_,rfl,_]:=c;simp
   lk;erw[i,aaH,P1,aaF];exact#[by decide,λl a=>q _ _ _ (f.bc a) #[l,_,G,ah,.cons (ar.mono (bg<|f.ae.none a) _ _ _ c) .nil]]
 .have:¬br h.mode=33:=λe=>d (gR.mp e);erw[V.int.injEq,this,aaH,QN];rw[aaC d]at q;exact#[by decide,λl a=>q _ _ _ ((Go.refl g).bc a) #[l,_,G,ah,.nil]]
def zA:Rs K ad k 2.5:=by
 rintro f H Q E⟨g,c,b,M,n,rfl,h,e,d,a,q⟩;erw[gZ];have#[f,g,h,o,i,j,p,l,m,c,r]:=ai.bI (K:=K) (k:=k) e a;refine#[_,j,h,G,.inl #[_,.inl<|a _ _ c],_,ee.k (k:=.inl (n:Int))<|a _ _ c,?_];rw[mM];cases c:posOf n b.list with
 |none=>have:aG n b.list=O:=find_none<|pos_none.mp c;rw[this]at q;erw[Rz,TB];exact q _ rfl|some p=>
  have#[x,e,h]:=(iC d).mp c;have:aG n b.list=U x:=by rw[<-h];exact jO d<|List.mem_of_getElem? e
  rw[this]at q;have#[u,b,c]:=dU m e;erw[Qm,Uc];exact#[_,i,f,_,g,u,G,G,.inl<|af.of<|a _ _ l,aV b,q u c]
end
section
open Vacola (Lit)
set_option tactic.hygienic true
variable{K:PY}{ad:F->P2}{k:Nat}
def Ah:Rs K ad k 3.4:=by
 rintro vs H Q E⟨T,kd,M,rfl,hk,D,W,X,Y,q⟩;have#[#[F,l],e]:=QV.mp X;have#[r,rfl,ho]:=kY e;refine#[T,_,M,G,∅,D,W,Y,λv m s h Z=>?_];have#[b,ws,ss,rfl,I,J,aa,L,ab]:=Z;have N:ss=Rh (.cons F (.leaf l) r):=by rw[oG]at I;exact(Zr I).symm
 have#[f,us,pn,pm,a1,_,_,hf,t,_,_]:=ai.bI (K:=K) (k:=k) (ai.mono h.fr _ _ D) h.ae;erw[PZ]at t;cases t with
 |cons hu t=>
  rename_i u us;have#[n,am,fl,c1,c2,c3,c4,c5,d1,d2,d3]:=aE.ax (K:=K) (k:=k) hu h.ae;have#[f1,_,_]:=ai.ax (K:=K) (k:=k) d2 h.ae;refine#[_,a1,f,0,_,_,G,G,.inl<|af.of<|h.ae _ _ hf,aV (j:=0) G,_,c4,_,f1,G,?_];have#[P,i,o0,ap,rfl,rfl,av,ac]:=ab;rw[k7]at N;cases N;have R:∀(y:V)(x:Lit)(a d:Hp),Go W0 m s a d->cZ ad a y x->iT (.group false<|.cons F (.leaf l) r)=.group ([.lit x]::Rh r)->∀p,d p=O->pE (.ref b) (.int 0) (.ref p) (upd d p<|.lst [y]) λH4=>Q (.ref b) H4:=by
   intro y x a d g hx ak p j;have w:d b=U (.lst (P::i)):=g.st b _ L id;have al:a b=O:=g.da aa L;have A:b≠p:=λz=>by rw[z,j]at w;cases w
   refine#[b,P::i,0,0,G,G,by rw[aq A];exact w,by simp[gN],?_];have g3:Go W0 M H (upd a p<|.lst [y])<|upd d p<|.lst [y]:=(h.aB g).bc j;have B:(upd a p<|.lst [y]) b=O:=by rw[aq A];exact al
   have g4:=g3.set (o:=.lst (V.ref p::i)) (.inr J) B;have g5:=g4.freeze (p:=b) J ah;have kk:aj m<|upd (upd a p<|.lst [y]) b<|.lst (V.ref p::i):=(g.fr.trans<|bg<|g.ae.none j).trans<|bg B;have kp:aj a<|upd (upd a p<|.lst [y]) b<|.lst (V.ref p::i):=(bg<|g.ae.none j).trans<|bg B;refine q _ _ _ g5 ?_;rw[ak];refine#[b,V.ref p::i,_,G,G,ah,?_];refine#[_,i,_,_,G,G,#[p,[y],G,?_,.cons #[x,G,hx.mono kp] .nil],bq.mono kk r i _ ac];rw[aq<|Q4 A,ah]
  by_cases o:aw (.leaf l)=116
  .have#[n,e]:=xU.mp o;cases e;erw[o,aaG];refine#[by decide,λc S=>#[c,[97],m,G,∅,ah,?_,by simp,h.ae.trans<|bg S,λy a d g C=>#[by decide,λp j=>?_]]];.intro z hz;rw[RN.mp hz];exact yU
   .have g0:Go W0 m s m<|upd s c<|.lst [V.int 97]:=(Go.refl h.ae).alloc S;exact R y _ a d (g0.aB g) C (by
     unfold iT
     erw[k7,Vv]) p j
  .erw[V.int.injEq,o,aaH];refine#[1,m,G,∅,by decide,h.ae,λy a d g C=>#[by decide,λp j=>?_]];exact R y _ a d g C (by
    induction l with
    |text n=>exact absurd G o
    |bit=>
     unfold iT
     erw[k7,Vv]
     rfl
    |int n=>
     unfold iT
     erw[k7,Vv]
     rfl) p j
end
section
variable{K:PY}{ad:F->P2}{k:Nat}
def zO:Rs K ad k 0.5:=by rintro c H Q E⟨a,b,h,j,e,d,l,M,rfl,f,m,g,n,o,p,r,i,q⟩;have c:∀f∈aC 10.4,(Gq K ad k).fo (ad 10.4) f:=λf s=>#[10.4,G,G,s];refine#[a,_,b,_,G,m,c _<|by decide,by decide,a,_,b,_,G,ah,c _<|by decide,pl<|by decide,a,_,b,_,G,ah,c _<|by decide,pl<|pl<|by decide,a,_,b,_,G,ah,c _<|by decide,pl<|pl<|pl<|by decide,?_];erw[cR];have f:=sf (o:=.ins (ad 10.4) b [('(',.int (h.number:Nat)),('V',e),('<',.int<|br h.mode),(',',d)]) i g;have m:Go (W1 a) M H M<|upd H a<|.ins (ad 10.4) b [('(',.int (h.number:Nat)),('V',e),('<',.int<|br h.mode),(',',d)]:=(Go.refl i).set (.inl G) g;refine#[h,j,d,l,M,G,∅,n,o,p,r,f,λv i j f l=>?_];have n:j a=U (.ins (ad 10.4) b [('(',.int (h.number:Nat)),('V',e),('<',.int<|br h.mode),(',',d)]):=f.st a _ ah id;have d:i a=O:=f.da g ah;refine#[a,_,b,_,G,n,c _<|by decide,by simp,?_];exact q _ i _ ((m.aB f).set (.inl G) d) #[G,d,v,ah,l]
def zQ:Rs K ad k 0.4:=by
 rintro vs H Q E⟨a,m,f,J,M,d,c,L,N,rfl,hk,ha,P,A,a5,a6,a7,al,km,q⟩;have r:∀f∈aC 10.3,(Gq K ad k).fo (ad 10.3) f:=λf A=>#[10.3,G,G,A];refine#[a,_,m,_,G,ha,r _<|by decide,by decide,a,_,m,_,G,ah,r _<|by decide,pl<|by decide,a,_,m,_,G,ah,r _<|by decide,pl<|pl<|by decide,a,_,m,_,G,ah,r _<|by decide,pl<|pl<|pl<|by decide,?_];erw[cR];have S:=(m4 d J).mp a5;have am:J.length=d.list.length:=Qy S;generalize a8:HO.ins (ad 10.3) m (bb '+' (V.ref f)<|bb '6' (V.int N)<|bb 'F' (V.int L)<|bb ')' (V.int c) [])=s;have a9:s=.ins (ad 10.3) m [(')',.int c),('F',.int L),('6',.int N),('+',.ref f)]:=by rw[<-a8];rfl
 have ba:aj M<|upd H a s:=sf km P;have g4:Go (W1 a) M H M<|upd H a s:=(Go.refl km).set (.inl G) P;refine CC (R:=λM v(p:Key×V)=>∃b,v=.ref b/\M b=U (.tup [kV p.1,p.2])) (λM M' v y B⟨b,e,h⟩=>#[b,e,B _ _ h]) ba A am ∅ (g:=λx j=>((Tu (x.1.number:Int):Key),V.int (j:Nat))) (λR T=>T) (λv w=>?_) ?_ ?_;.rfl
 .intro j u x W X t Y g Q1 Z;have#[x',aa,hr]:=cn S W;have e:x'=x:=QO<|aa.symm.trans X;subst e;have#[n,bd,fl,c1,c2,c3,c4,c5,d1,d2,d3]:=aE.ax (K:=K) (k:=k) (hr.mono g.fr) g.ae;erw[wipe];exact#[_,c1,by decide,λl C=>Z _ _ _ ((Go.refl g.ae).bc C) #[l,G,ah]]
 .intro D1 b7 t Y g b8 bi b9 bk;have#[bl,rfl,ap]:=pI bk;have bm:(d.list.zipIdx.map λz=>((Tu (z.1.1.number:Int):Key),V.int (z.2:Nat)))=dR d.list:=G;rw[bm]at ap;refine#[D1,bl,G,af.of bi,.inl #[dR d.list,Paired.imp' (λb p h=>aR.of<|g.ae _ _ h) ap,by rw[dR,Qe,Vx];exact al,λo D=>?_]];rw[JZ []<|by simpa using Kr a6];erw[Rk];have g5:=(g4.aB g).bc (o:=.dK<|dR d.list) D;have ab:Y a=U s:=g.st a _ ah id;have bn:t a=O:=g.da P ah;have av:a≠o:=λz=>by rw[z,D]at ab;cases ab
  have bo:(upd Y o<|.dK<|dR d.list) a=U s:=by rw[aq av];exact ab
  have a0:(upd t o<|.dK<|dR d.list) a=O:=by rw[aq av];exact bn
  subst a9;refine#[a,_,m,_,G,bo,r _<|by decide,by simp,?_];generalize bs:HO.ins (ad 10.3) m (bb '*' (V.ref o) _)=F;have bv:F=.ins (ad 10.3) m [(')',.int c),('F',.int L),('6',.int N),('+',.ref f),('*',.ref o)]:=by rw[<-bs];rfl
  have g6:=g5.set (p:=a) (o:=F) (.inl G) a0;have bw:(upd t o<|.dK<|dR d.list) f=U (.lst J):=p9 (g.fr _ _ A)<|g.ae.none D;have kf:aj M<|upd t o<|.dK<|dR d.list:=g.fr.trans<|bg<|g.ae.none D;refine CC (R:=λM v(p:List Key×V)=>∃b,v=.ref b/\∃c,M b=U (.tup [.ref c,p.2])/\M c=U (.tup<|p.1.map kV)) (λM M' v y B⟨b,e,c,h,h'⟩=>#[b,e,c,B _ _ h,B _ _ h']) g6.ae bw am ∅ (g:=λx j=>(x.1.name.map λ(c:Nat)=>(Tu (c:Int):Key),V.int (j:Nat))) (λR T=>T) (λv w=>?_) ?_ ?_;.rfl
  .intro j u x W X M2 H2 i Q1 Z;have#[x',aa,hr]:=cn S W;have e:x'=x:=QO<|aa.symm.trans X;subst e;have#[n,bd,fl,c1,c2,c3,c4,c5,d1,d2,d3]:=aE.ax (K:=K) (k:=k) (hr.mono<|kf.trans i.fr) i.ae;have#[nb,rfl,a1]:=d1;erw[wipe];refine#[_,c2,by decide,λl C=>Z _ _ _ ((Go.refl i.ae).bc C) #[l,G,nb,ah,?_]];rw[aq<|bT (i.ae _ _ a1) C,a1,<-sj];rfl
  .intro D2 ca M2 H2 i cc b1 cd b2;have#[b3,rfl,a2]:=pI b2;have b4:(d.list.zipIdx.map λz=>(z.1.1.name.map λ(c:Nat)=>(Tu (c:Int):Key),V.int (z.2:Nat)))=eC d.list:=G;rw[b4]at a2;refine#[D2,b3,G,af.of b1,.inr #[eC d.list,Paired.imp' (λb p⟨c,h,h'⟩=>#[c,aR.of<|i.ae _ _ h,i.ae _ _ h']) a2,by rw[eC,Qe,Vx];exact al,Kh a7,λI ac=>?_]];have g7:=(g6.aB i).bc (o:=.dT<|eC d.list) ac;have ak:H2 a=U F:=i.st a _ ah id;have b5:M2 a=O:=i.da a0 ah;have a3:a≠I:=λz=>by rw[z,ac]at ak;cases ak
   have b6:(upd H2 I<|.dT<|eC d.list) a=U F:=by rw[aq a3];exact ak
   have a4:(upd M2 I<|.dT<|eC d.list) a=O:=by rw[aq a3];exact b5
   subst bv;refine#[a,_,m,_,G,b6,r _<|by decide,by simp,?_];refine q _ _ _ (g7.set (p:=a) (.inl G) a4) #[G,a4,o,I,ah,?_,ah];exact p9 (i.fr _ _ ah)<|i.ae.none ac
def zJ:Rs K ad k 6.3:=by rintro l H Q E⟨c,i,f,b,M,rfl,m,d,h,a,e,g,j,q⟩;refine yk ∅ j d h a e g λv a c g j=>q v a c g ?_;have#[c,a,g,l,m,e,n,o,p]:=j;exact#[a,g,f,l,m,b,e,n,c _ _ d,o,p,dz.mono c i b h]
def Ag:Rs K ad k 6.2:=by
 rintro a H Q E⟨l,M,n,rfl,b,h,d,e,q⟩;lk;refine#[G,?_];have f:∀(b:P2),H b=O->1<=k/\iw (ad 10.3) (cw K ad 0.4<|k-1) [.int<|aw<|.leaf l,.int<|jU l,.int<|b0 l,.ref b] (upd H b<|.lst []) Q E:=λb c=>by have a:Go W0 M H (upd M b<|.lst [])<|upd H b<|.lst []:=(Go.refl e).bc c;refine yk (fs:=.nil) (us:=[]) ∅ a.ae ah (by rfl) Wb Vw (by simp[PZ]) λv e i g j=>q v e i (a.aB g) ?_;have#[g,a,i,m,o,e,p,q,r]:=j;exact#[a,i,b,m,o,e,p,g _ _ ah,q,r]
 induction l with
 |bit=>erw[aw,aaG];exact#[by decide,λb c=>f b c]|int m=>
  have d:n=m:=d;subst d;have a:¬aw (.leaf<|.int n)=98:=by show¬(105:Int)=98;decide
  erw[V.int.injEq,a,aaH];refine#[G,?_];erw[aw,aaG];exact#[n,G,∅,by have:=h.1;lia,h.2,_,G,by decide,λb c=>f b c]
 |text m=>
  have d:n=m:=d;subst d;have a:¬aw (.leaf<|.text n)=98:=by show¬(116:Int)=98;decide
  have d:¬aw (.leaf<|.text n)=105:=by show¬(116:Int)=105;decide
  erw[V.int.injEq,a,aaH];refine#[G,?_];erw[V.int.injEq,d,aaH];exact#[by decide,λb c=>f b c]
def AF:Rs K ad k 3.10:=by
 rintro D H Q E⟨x,y,i,c,M,rfl,F,r,s,h,q⟩;have#[t,_,_]:=ai.ax (K:=K) (k:=k) r h;have#[u,_,_]:=ai.ax (K:=K) (k:=k) s h;refine#[_,t,G,?_];have done:∀b:Bool,b=fq i c->∀o j,Go W0 M H o j->Q (.bl b) j:=λb A o j g=>q _ o j g (by rw[A]);have l:(∀n,i≠.leaf (.int n))->cK (Gq K ad k) E (gj (dat 3.10).c) (D0 Q) (fill (dat 3.10).n [x,y]) H:=λB=>by
  refine#[_,t,by decide,λp C=>#[p,_,G,.inr<|aR.of ah,G,G,_,G,?_]];have d:Go W0 M H M<|upd H p<|.tup [V.int 98,V.int 116]:=(Go.refl h).alloc C;have#[v,_,_]:=ai.ax (K:=K) (k:=k) r d.ae;have#[w,_,_]:=ai.ax (K:=K) (k:=k) s d.ae;erw[P1,aaF];rcases kX i with⟨rfl⟩|⟨n,rfl⟩|⟨n,rfl⟩|⟨a,rfl⟩|⟨a,rfl⟩;.rw[aaD (show gM (V.int<|aw<|.leaf .bit) [V.int 98,V.int 116]=true from G)];refine#[_,w,_,v,G,done _ ?_ M _ d];rcases kX c with⟨rfl⟩|⟨m,rfl⟩|⟨m,rfl⟩|⟨a,rfl⟩|⟨a,rfl⟩<;>rfl
  .exact absurd rfl<|B n
  .rw[aaD (show gM (V.int<|aw<|.leaf<|.text n) [V.int 98,V.int 116]=true from G)];refine#[_,w,_,v,G,done _ ?_ M _ d];rcases kX c with⟨rfl⟩|⟨m,rfl⟩|⟨m,rfl⟩|⟨a,rfl⟩|⟨a,rfl⟩<;>rfl
  .rw[aaC (show¬gM (V.int<|aw<|.group false a) [V.int 98,V.int 116]=true by show¬gM (V.int 123) [V.int 98,V.int 116]=true;decide)];exact done _ rfl M _ d
  .rw[aaC (show¬gM (V.int<|aw<|.group true a) [V.int 98,V.int 116]=true by show¬gM (V.int 60) [V.int 98,V.int 116]=true;decide)];exact done _ rfl M _ d
 rcases kX i with⟨rfl⟩|⟨n,rfl⟩|⟨n,rfl⟩|⟨a,rfl⟩|⟨a,rfl⟩;.lk;rw[aaC<|by decide];exact l (by intro n e;cases e)
 .lk;rw[aaD (show decide (V.int (aw<|.leaf<|.int n)=V.int 105)=true from G)];refine#[_,u,G,_,G,?_];by_cases f:aw c=98;.erw[f,aaG,aaE];refine done _ ?_ M H<|Go.refl h;rcases kX c with⟨rfl⟩|⟨m,rfl⟩|⟨m,rfl⟩|⟨a,rfl⟩|⟨a,rfl⟩<;>first|rfl|exact absurd rfl f|exact absurd f (by intro z;cases z)
  .erw[V.int.injEq,f,aaH,P1,aaF];refine#[_,u,G,done _ ?_ M H<|Go.refl h];rcases kX c with⟨rfl⟩|⟨m,rfl⟩|⟨m,rfl⟩|⟨a,rfl⟩|⟨a,rfl⟩<;>first|rfl|exact absurd rfl f|exact absurd f (by intro z;cases z)
 .lk;rw[aaC<|by show¬decide (V.int 116=V.int 105)=true;decide];exact l (by intro n e;cases e)
 .lk;rw[aaC<|by show¬decide (V.int 123=V.int 105)=true;decide];exact l (by intro n e;cases e)
 .lk;rw[aaC<|by show¬decide (V.int 60=V.int 105)=true;decide];exact l (by intro n e;cases e)
def AA:Rs K ad k 4.1:=by
 rintro b H Q E⟨c,z,u,o,d,x,M,rfl,g,e,f,A,i,l,m,p,a,q,r⟩;have#[b,h,rfl,c,g,s]:=O2 e;have#[n,b,e,h,j,t,u,v,w,y,B]:=aE.ax (K:=K) (k:=k) i a;have n:=m.2.2.2.1;refine CD (ad:=ad) (R:=λM v y=>ar ad M x.2 v y) (λM e v y b h=>ar.mono b _ v y h) a c g f (g:=λy=>Qc x.2 d y) (e:=11.6) (E:=E) (λR a=>a) (λv=>rfl) ?_ ?_ ?_;.intro j w y e f g h a b B C;have#[b,j,D]:=cn s e;have e:b=y:=QO<|j.symm.trans f;subst e;erw[wipe];have#[E,j,F,H,I,s,t,J,L,u,M]:=aE.ax (K:=K) (k:=k) (i.mono a.fr) a.ae;exact#[_,t,w,z,j,b,d,x.2,g,G,∅,ar.mono a.fr _ _ _ D,ai.mono a.fr _ _ A,u,l,n,p b<|List.mem_of_getElem? f,a.ae,B,C]
 .intro b e v g h a w;have z:b.length=o.length:=(fu e).1;have A:∀y∈b,aU x.2 y:=λy f=>by have#[z,B,C]:=oR e y f;exact qd _ x.2 d (Qg _) n l z y (p z B) C
  have#[E,j,F,H,I,s,t,J,L,u,M]:=aE.ax (K:=K) (k:=k) (i.mono a.fr) a.ae;refine#[_,s,v,x.1.mode,x.2,g,b,G,∅,w,∅,λf=>#[m.2.2.2.2.2.1 f,A],a.ae,?_];have c:((o.mapM λv=>Qc x.2 d v).bind λp=>if QK x.1.mode p then U p else O)=if QK x.1.mode b then U b else O:=by rw[e];rfl
  cases d:QK x.1.mode b with|true=>erw[QR,P1,aaF];rw[d,aaD G]at c;exact q b c v g h a w|false=>erw[QN,aaE];rw[d,aaC<|by decide]at c;exact#[by decide,(r c).now a]
 .intro a;refine r ?_;rw[a];rfl
def Az:Rs K ad k 4.0:=by
 rintro b H Q E⟨v,c,u,f,e,x,M,rfl,g,r,i,l,j,s,h,a,q,d⟩;erw[gZ];have#[n,c,g,o,f,m,t,p,w,y,b]:=aE.ax (K:=K) (k:=k) l a;have#[f,n,t,m,z,w,y,A,B,c,C]:=ai.bI (K:=K) (k:=k) i a;have i:=j;erw[aI]at i;have m:=dc i.2;refine#[_,w,t,G,.inl #[_,.inl<|a _ _ c],_,o,_,ee.k (k:=.inl (x.1.number:Int))<|a _ _ c,?_];rw[mM];unfold eO SJ at q d;rw[qk (ur h) m]at q d;cases j:posOf x.1.number e.list with
 |none=>
  rw[j]at q d;erw[UT]at q d;erw[Rz,TB];refine#[_,p,?_];cases c:Qr x.1 x.2 with
  |none=>rw[c]at b d;have e:g=.ao:=b;subst e;simp only;exact#[by decide,d G H di.refl]|some o=>
   rw[c]at b q;have b:bp (λv c=>ar ad M x.2 v c) M g o:=b;have p:g≠.ao:=by have#[c,_,rfl,_]:=b;simp
   lk;erw[p,aaH,P1,aaF];exact q o rfl g M H (Go.refl a) b
 |some p=>have#[y,c,b]:=(iC m).mp j;have#[b,g,t,rfl,e,m,p]:=r;cases e;have#[w,o,r,e,t]:=lF p c;rw[j]at q d;erw[P4,c,e,Qm]at q d;have#[j,p,v]:=dU B c;have#[E,B,F,H,I,J,C,L,N,D,P]:=aE.ax (K:=K) (k:=k) v a;erw[Qm,Uc];refine#[b,_,g,w,G,G,.inl<|af.of<|a _ _ m,aV r,_,z,f,_,n,j,G,G,.inl<|af.of<|a _ _ A,aV p,_,C,w,B,u,o,y.2,x,M,G,∅,t,?_,D,l,(dh i.2 c).2.2.2.1,s,(nq h c e).2.2,a,q,d];have:=(nq h c e).2.1;lia
def Ay:Rs K ad k 4.2:=by
 rintro b H Q E⟨v,f,g,x,h,A,M,rfl,B,e,i,j,l,m,d,a,q,c⟩;simp only;have#[b,p,w,g,rfl,rfl,o,f]:=e;have#[z,y,g,e,v]:=ka.mp f;subst e;have#[f,x,n,r,C,s,t,D,e,u,E]:=ai.bI (K:=K) (k:=k) i a;have#[E,F,I,i,J,L,n,N,P,r,s]:=ai.bI (K:=K) (k:=k) j a;have i:=l;have j:=m;erw[aI]at i j;have Q:=dc i.2;have s:=dc j.2;have#[R,S,l]:=dU e g;have#[n,T,e,V,m,t,W,u,Y,X,Z]:=aE.ax (K:=K) (k:=k) l a;have Y:aU z.2 y:=by
  rw[O4]at d;have#[n,u,t,l,m,e]:=qa.mp d;have u:p<h.list.length:=(List.getElem?_eq_some_iff.mp g).1;have d:n<h.list.length:=(List.getElem?_eq_some_iff.mp l).1;have d:=pN (L:=h.list) (p:=p) (y:=y) u;rw[e,pN u,aaD G]at d;by_cases e:p=n;.subst e;rw[aaD G]at d;simp at d;rw[g]at l;cases l;rw[<-d];exact m
  .rw[aaC e]at d;simp at d
 rw[Br s Q (g:=z.1) (j:=z.2) g]at q c;refine#[_,C,b,0,_,_,G,G,.inr<|aR.of<|a _ _ o,aV (j:=0) G,f,_,x,R,G,G,.inl<|af.of<|a _ _ D,aV S,_,L,I,G,.inl #[_,.inl<|a _ _ r],_,V,_,ee.k (k:=.inl (z.1.number:Int))<|a _ _ r,?_];rw[mM];cases e:posOf z.1.number A.list with
 |none=>rw[e]at c;erw[Rz,TB];exact#[by decide,c G H di.refl]|some r=>
  have#[f,d,h]:=(iC s).mp e;rw[e]at q c;erw[P4,d]at q c;have#[e,h,l]:=dU P d;have#[u,n,x,A,C,D,p,H,I,s,L]:=aE.ax (K:=K) (k:=k) l a;have l:=eR d;erw[aF]at B;erw[Qm,Uc];refine#[b,1,_,w,G,G,.inr<|aR.of<|a _ _ o,aV (j:=1) G,_,W,_,J,E,_,F,e,G,G,.inl<|af.of<|a _ _ N,aV h,_,p,w,T,n,y,z.2,f.2,M,G,∅,v,X,s,(dh i.2 g).2.2.2.1,(dh j.2 d).2.2.2.1,Y,a,λt m b a h g e=>#[by decide,λl a=>?_],λh=>?_];.refine q _ (by rw[m];rfl) _ _ _ (g.bc a) ?_;exact#[l,r,b,_,G,G,ah,ka.mpr #[f,t,d,G,ar.mono (bg<|g.ae.none a) _ _ _ e]]
  .exact c (by rw[h];rfl)
def AD:Rs K ad k 3.11:=by rintro a H Q E⟨v,m,n,x,t,d,u,e,M,rfl,o,f,g,h,i,c,j,b,q,l⟩;have#[a,p,r,m,rfl,n,s,o]:=g;have#[r,s,t,a,rfl,g,u,p]:=h;have h:=c.2;exact#[_,aS (c:=10.5) (b _ _ n) G (by decide) G,_,aS (c:=10.5) (b _ _ g) G (by decide) G,v,m,a,x,.group false d,.group false e,M,G,∅,f,o,p,i.1,c.1,j,b,q,l]
def AE:Rs K ad k 3.12:=by
 rintro vs H Q E⟨v,J,L,x,i,m,M,rfl,hk,N,P,F,aa,am,I,t,q,S⟩;have#[f1,_,_]:=ai.ax (K:=K) (k:=k) P t;have#[f2,_,_]:=ai.ax (K:=K) (k:=k) F t;have tail:¬((∃d,i=.group false d)/\∃a,m=.group false a)->¬((∃d,i=.group true d)/\∃a,m=.group true a)->cK (Gq K ad k) E (gj<|gj (dat 3.12).c) (D0 Q) (fill (dat 3.12).n [v,J,L]) H:=by
  intro h1 h2;refine#[L,J,m,i,M,G,∅,F,P,t,λb A T n hb=>?_];subst hb;cases g:fq m i with
  |false=>
   have a2:Qc m i x=O:=by
    rcases bM m with⟨a,rfl⟩|⟨a,rfl⟩|⟨l,rfl⟩<;>rcases bM i with⟨d,rfl⟩|⟨d,rfl⟩|⟨o,rfl⟩;.exact absurd #[#[_,G],_,G] h1
    .rfl
    .rfl
    .rfl
    .exact absurd #[#[_,G],_,G] h2
    .rfl
    .rfl
    .rfl
    .have g:Rj o l=false:=g;cases x with|lit v=>rw[PQ,g];rfl|group r=>rfl
   exact#[by decide,(S a2).now n]
  |true=>
   obtain⟨l,rfl⟩:∃l,m=.leaf l:=by
    rcases bM m with⟨a,rfl⟩|⟨a,rfl⟩|⟨l,rfl⟩;.cases g
    .cases g
    .exact#[l,G]
   obtain⟨o,rfl⟩:∃o,i=.leaf o:=by
    rcases bM i with⟨a,rfl⟩|⟨a,rfl⟩|⟨o,rfl⟩;.cases g
    .cases g
    .exact#[o,G]
   have g:Rj o l=true:=g;have ab:∃l,x=.lit l/\cZ ad M v l:=N;have#[lit,rfl,ap]:=ab;rw[CY]at I;have a3:typed l lit:=by have:=uk I;induction o<;>induction l<;>induction lit<;>first|trivial|(cases g)|exact this.elim
   have#[w,fw,hw]:=cZ.worth (K:=K) (k:=k) (ap.mono n.fr) n.ae;refine#[w,fw,w,L,l,lit,A,G,∅,hw,a3,ai.mono n.fr _ _ F,n.ae,?_];cases W:Rn l lit with|true=>refine q (.lit lit) (by simp[PQ,g,W]) v A T n ?_;exact#[lit,G,ap.mono n.fr]|false=>exact#[by decide,(S<|by simp[PQ,W]).now n]
 refine#[_,f1,G,?_];by_cases B:aw i=123
 .have#[d,rfl]:=fW.mp B;erw[B,aaG];refine#[_,f2,G,?_];by_cases X:aw m=123
  .have#[a,rfl]:=fW.mp X;erw[X,aaG];have#[f,us,pn,pm,n,g2,g3,W,hp,bi,bk]:=ai.bI (K:=K) (k:=k) F t;have ac:=am;have a4:=aa;erw[aI]at ac a4;have ab:∃b ws r,v=.ref b/\x=.group r/\M b=U (.lst ws)/\bq ad M d ws r:=N;have#[b,ws,r,rfl,rfl,hb,bl]:=ab;rw[CZ]at I;have a5:us.length=a.list.length:=Qy hp;have av:∀z,a.list.mapM (λx=>eO x d r)=z->Qc (.group false a) (.group false d) (.group r)=z.map aag:=λz s=>by rw[PR,pG,s]
   lk;refine CD (ad:=ad) (R:=λM v(y:Kd×List Sk)=>bp (λv x'=>ar ad M y.1 v x') M v y.2) (λM M' v y kk h=>h.imp kk λv x=>ar.mono kk y.1 v x) t W a5 (uF ac.2) (g:=λx:HK=>(eO x d r).map λo=>(x.2,o)) (e:=11.6) (E:=E) (λR hR=>#[_,n,hR]) (λv=>rfl) ?_ ?_ ?_;.intro j u z hu s A T C Q1 a6 a7;have#[z',a8,a9]:=cn hp hu;have e:z'=z:=QO<|a8.symm.trans s;subst e;have hh:=eR s;erw[aF]at hk;erw[wipe,X8];refine#[_,J,u,r,d,z',A,G,∅,ar.mono C.fr _ _ _ N,ai.mono C.fr _ _ P,a9.mono C.fr,aa,dh ac.2 s,I,C.ae,λo Y v1 M2 H2 g5 ak=>?_,λhn=>a7<|by rw[hn];rfl];exact a6 (z'.2,o) (by rw[Y];rfl) v1 M2 H2 g5 ak
   .intro ys al v1 A T C ak;have ba:a.list.mapM (λx=>eO x d r)=U (ys.map (·.2)):=ye al;refine q _ (av _ ba) v1 A T C ?_;have#[c,vs,rfl,D,a0]:=ak;have a1:=(fu al).1;refine#[c,vs,ys.map (·.2),G,G,D,j9 (by rw[Qy a0];exact a1) (by rw[Qe];exact a1) λp z w o s hw Y=>?_];have#[y,hy,B]:=cn a0 hw;rw[List.getElem?_map,hy]at Y;cases Y;have:=(fu al).2 p z y s hy;have#[o',_,e]:=omap.mp this;subst e;exact B
   .intro hn;exact S<|av _<|yd hn
  .erw[V.int.injEq,X,aaH];refine#[_,f1,G,?_];have bd:¬aw (.group false d)=60:=by show¬(123:Int)=60;decide
   erw[V.int.injEq,bd,aaH];exact tail (λ⟨_,a,e⟩=>X<|fW.mpr #[a,e]) (λ⟨⟨a,e⟩,_⟩=>by cases e)
 .erw[V.int.injEq,B,aaH];refine#[_,f1,G,?_];by_cases D:aw i=60
  .have#[d,rfl]:=jk.mp D;erw[D,aaG];refine#[_,f2,G,?_];by_cases Z:aw m=60;.have#[a,rfl]:=jk.mp Z;erw[Z,aaG];exact#[v,J,L,x,d,a,M,G,∅,N,P,F,aa,am,I,t,q,S]
   .erw[V.int.injEq,Z,aaH];exact tail (λ⟨⟨a,e⟩,_⟩=>by cases e) λ⟨_,a,e⟩=>Z<|jk.mpr #[a,e]
  .erw[V.int.injEq,D,aaH];exact tail (λ⟨⟨a,e⟩,_⟩=>B<|fW.mpr #[a,e]) λ⟨⟨a,e⟩,_⟩=>D<|jk.mpr #[a,e]
def zS:Rs K ad k 0.3:=by rintro c H Q E⟨a,b,v,w,z,rfl,d,h,q⟩;have c:∀f∈aC 10.2,(Gq K ad k).fo (ad 10.2) f:=λf d=>#[10.2,G,G,d];refine#[a,_,b,_,G,h,c _<|by decide,by decide,a,_,b,_,G,ah,c _<|by decide,pl<|by decide,a,_,b,_,G,ah,c _<|by decide,pl<|pl<|by decide,?_];erw[cR];exact q
def zG:Rs K ad k 4.6:=by
 rintro b H Q E⟨c,l,M,rfl,e,a,i,d,q⟩;simp only;have#[b,c,j]:=ai.ax (K:=K) (k:=k) a d;refine#[_,b,G,?_];induction l with
 |text n=>
  erw[aw,aaG];refine#[by decide,λb f=>?_];have g:Go W0 M H M<|upd H b<|.lst [V.int 97]:=(Go.refl d).alloc f;have#[_,_,c]:=ai.ax (K:=K) (k:=k) a g.ae;have a:=i.2;have e:fV (.leaf<|.text n)+1=((n+1:Nat):Int):=by show(n:Int)+1=_;lia
  refine#[_,c,?_];show(∃l k a,V.ref b=V.ref l/\V.int (fV (.leaf<|.text n)+1)=V.int k/\_);rw[e];refine#[b,_,_,G,G,ah,∅,∅,?_,λc a=>?_];.erw[QB,VU,Nat.one_mul];have:=c9;lia
  .have b:(QA ((n+1:Nat):Int).toNat [V.int 97]).flatten=bv (QA (n+1) 97):=by rw[VU];unfold bv;rw[List.map_replicate,List.flatten_replicate_singleton];rfl
   rw[b];have h:=g.alloc (o:=.lst<|bv<|QA (n+1) 97) a;refine#[c,QA (n+1) 97,M,G,∅,ah,λz g=>?_,by rw[UY];lia,h.ae,λv b c l a=>q v b c (h.aB l) a];rw[List.eq_of_mem_replicate g];exact yU
 |bit=>
  have h:¬aw (.leaf .bit)=116:=by decide
  erw[V.int.injEq,h,aaH];refine#[_,j,2,M,G,∅,by decide,d,λv b c g a=>q v b c g a]
 |int n=>
  have h:¬aw (.leaf<|.int n)=116:=by show¬(105:Int)=116;decide
  erw[V.int.injEq,h,aaH];have f:(2:Nat)^(n-1)<=2^63:=Tv (by decide) (by have:=i.2;lia);have e:fV (.leaf<|.int n)+1=((2^(n-1):Nat):Int):=by show(2:Int)^(n-1)-1+1=_;rw[aaA];show(2:Int)^(n-1)-1+1=2^(n-1);lia
  refine#[_,j,2^(n-1),M,by rw[<-e],∅,W9 f<|by decide,d,λv b c g a=>q v b c g ?_];rw[<-e]at a;exact a
def zp:Rs K ad k 4.5:=by
 rintro b H Q E⟨c,p,g,o,l,M,r,rfl,h,d,e,s,f,t,a,q⟩;lk;rw[Jz t f]at q;refine#[p,c,.leaf l,.leaf o,M,G,∅,e,d,a,λb h y a g=>?_];subst g;have g:=ai.mono a.fr _ _ d;have u:=ai.mono a.fr _ _ e;show(if(!fq (.leaf l) (.leaf o))=true then _ else _);show(if(!Rj o l)=true then _ else _);cases x:Rj o l with
 |false=>rw[x,aaD G]at q;erw[QN,aaE];refine#[c,.leaf o,h,G,by erw[aF];lia,g,by simpa[aI]using f,a.ae,λv z A f i=>#[by decide,λc d=>?_]];have#[b,e,m,j]:=iK f i;have b:=(a.aB e).bc (o:=.lst [v]) d;refine jV (n:=1) (kd:=.leaf o) ∅ b.ae (s.mono b.fr) (mR (e.ae.none d) j) λw e j m n=>q w e j (b.aB m) ?_;show cz ad e w 1 (r++[]) (.leaf o) _;rw[Rr];exact n|true=>
  rw[x,aaC<|by decide]at q;erw[QR,P1,aaF];have#[_,_,x]:=ai.ax (K:=K) (k:=k) u a.ae;have#[_,_,B]:=ai.ax (K:=K) (k:=k) g a.ae;refine#[_,x,_,B,?_];show(if decide (fV (.leaf l)<fV (.leaf o))=true then _ else _);by_cases g:b0 l<b0 o;.rw[aaD g]at q;rw[aaD<|decide_eq_true (show fV (.leaf l)<fV (.leaf o)from g)];refine#[p,l,h,G,∅,u,t,a.ae,λv z A f i=>#[by decide,λc d=>?_]];have b:=(a.aB f).bc (o:=.lst [v]) d;refine jV (n:=2) (kd:=.leaf o) ∅ b.ae (s.mono b.fr) (mR (f.ae.none d)<|xG i) λw e j m n=>q w e j (b.aB m) ?_;show cz ad e w 2 (r++[]) (.leaf o) _;rw[Rr];exact n
  .rw[aaC g]at q;rw[aaC<|by simpa using(show¬fV (.leaf l)<fV (.leaf o)from g)];exact q _ h y a rfl
def Al:Rs K ad k 4.9:=by
 rintro a H Q E⟨u,c,x,M,e,rfl,f,b,h,d,q⟩;have#[n,e,f,g,i,j,l,c,m,o,a]:=aE.ax (K:=K) (k:=k) b d;refine#[_,c,?_];cases g:Qr x.1 x.2 with
 |none=>rw[g]at a q;have e:f=.ao:=a;subst e;erw[aaG];refine#[by decide,λb e=>?_];have c:=(Go.refl (W:=W0) d).bc (o:=.lst []) e;refine jV (n:=4) (kd:=.leaf .bit) (o:=[]) ∅ c.ae (h.mono c.fr) #[b,[],G,ah,.nil] λw b e h i=>q w b e (c.aB h) ?_;simpa using i|some o=>
  rw[g]at a q;have b:f≠.ao:=by have#[c,_,rfl,_]:=(show bp (λv c=>ar ad M x.2 v c) M f o from a);simp
  erw[b,aaH];exact q _ M H (Go.refl d) (by simp)
def Ab:Rs K ad k 4.11:=by
 rintro c H Q E⟨f,h,y,x,M,rfl,i,b,d,e,g,a,q⟩;have#[n,f,j,l,m,c,h,o,p,i,r]:=aE.ax (K:=K) (k:=k) b a;have#[b,f,m,n,o,p,j,r,s,l,t]:=aE.ax (K:=K) (k:=k) d a;refine#[_,c,G,?_];by_cases b:y.1.mode=.keyed
 .erw[jn.mpr b,aaG];have#[f,u,o,d,m,n]:=wF (K:=K) (k:=k) i (g b) a;have#[g,i,s,o,p,r]:=wF (K:=K) (k:=k) l e a;refine#[_,h,_,d,f,0,_,u,G,G,.inl<|af.of<|a _ _ m,aV (j:=0) G,_,n,_,j,_,o,g,0,_,i,G,G,.inl<|af.of<|a _ _ p,aV (j:=0) G,_,r,G,?_];have e:decide (V.int (bZ y.2:Nat)=V.int (bZ x.2:Nat))=decide (if y.1.mode=.keyed then bZ y.2=bZ x.2 else y.1.mode≠.many):=by apply decide_eq_decide.mpr;rw[aaD b,V.int.injEq];lia
  rw[e];exact q
 .have a:¬br y.1.mode=37:=λe=>b (jn.mp e);erw[V.int.injEq,a,aaH];refine#[_,c,G,?_];have e:(!decide (V.int (br y.1.mode)=V.int 42))=decide (if y.1.mode=.keyed then bZ y.2=bZ x.2 else y.1.mode≠.many):=by rw[<-decide_not];apply decide_eq_decide.mpr;rw[aaC b,V.int.injEq,yo]
  exact(congrArg (λb=>Q (V.bl b) H) e).mpr q
def Bi:Rs K ad k 4.12:=by
 rintro a H Q E⟨c,y,M,rfl,d,h,b,e,i,q⟩;have#[n,u,c,d,e,a,x,f,g,z,j]:=aE.ax (K:=K) (k:=k) h i;have g:aI y.2:=b.2.2.2.1;rw[OS b.2.2.2.2.2.1]at q;refine#[_,a,G,?_];by_cases f:y.1.mode=.keyed;.erw[jn.mpr f,aaG];rw[aaD f]at q;refine#[_,x,u,y.2,M,G,∅,z,g,i,λv A B j m=>?_];have#[n,a,C,o]:=iK j m;have#[D,p,E,F,H,I,r,J,L,s,N]:=aE.ax (K:=K) (k:=k) (h.mono a.fr) a.ae;refine#[_,r,p,y.2,n,G,∅,s,g,b.2.2.2.2.2.1 f,a.ae,λw P Q c t=>#[by decide,λl b=>?_]];have d:=(a.aB c).bc (o:=.lst [v,w]) b;refine q _ _ _ d #[l,_,G,ah,.cons (ar.mono (c.fr.trans<|bg<|c.ae.none b) _ _ _ o)<|.cons (ar.mono (bg<|c.ae.none b) _ _ _ t) .nil]
 .have R:¬br y.1.mode=37:=λe=>f (jn.mp e);erw[V.int.injEq,R,aaH];rw[aaC f]at q;refine#[_,x,u,y.2,M,G,∅,z,g,i,λv A B j m=>?_];have#[n,a,C,o]:=iK j m;have#[D,p,E,F,H,I,r,J,L,s,N]:=aE.ax (K:=K) (k:=k) (h.mono a.fr) a.ae;refine#[_,r,p,y.2,n,G,∅,s,g,a.ae,λw P Q c t=>#[by decide,λl b=>?_]];have#[f,d,g,e]:=iK c t;have c:=(a.aB d).bc (o:=.lst [v,w]) b;refine q _ _ _ c #[l,_,G,ah,.cons (ar.mono (d.fr.trans<|bg<|d.ae.none b) _ _ _ o)<|.cons (ar.mono (bg<|d.ae.none b) _ _ _ e) .nil]
def zo:Rs K ad k 4.4:=by
 rintro Z H Q E⟨g,i,p,a,e,M,r,rfl,hk,h,j,s,x,m,t,d,q⟩;lk;have#[y,_,_]:=ai.ax (K:=K) (k:=k) h d;have#[L,_,_]:=ai.ax (K:=K) (k:=k) j d;have tail:(aQ a=true\/aQ e=true)->cK (Gq K ad k) E (gj (dat 4.4).c) (D0 Q) (fill (dat 4.4).n [g,i,p]) H:=by
  intro z;refine#[_,y,_,L,G,?_];by_cases f:aw a=aw e
  .erw[f,aaG,QR];refine#[_,y,G,?_];rcases bM a with⟨b,rfl⟩|⟨b,rfl⟩|⟨o,rfl⟩
   .have#[n,rfl]:=fW.mp (f.symm.trans (show aw (.group false b)=123 from G));have N:¬aw (.group false b)=60:=by show¬(123:Int)=60;decide
    erw[V.int.injEq,N,aaH];exact#[g,i,p,b,n,M,r,G,∅,h,j,s,x,m,t,d,q]
   .have#[n,rfl]:=jk.mp (f.symm.trans (show aw (.group true b)=60 from G));have P:aw (.group true b)=60:=G;erw[P,aaG];exact#[g,i,p,b,n,M,r,G,∅,h,j,s,x,m,t,d,q]
   .exfalso;rcases bM e with⟨n,rfl⟩|⟨n,rfl⟩|⟨l,rfl⟩;.induction o<;>simp[aw]at f
    .induction o<;>simp[aw]at f
    .simp[aQ]at z
  .erw[V.int.injEq,f,aaH,QN];rw[Kt f z]at q;have hh:=m.2;refine#[g,a,M,G,∅,h,m.1,d,λv M2 H2 R S=>#[by decide,λc A=>?_]];have#[M3,B,k3,T]:=iK R S;have u:=B.bc (o:=.lst [v]) A;refine jV (n:=1) (kd:=a) ∅ u.ae (s.mono u.fr) (mR (B.ae.none A) T) λw C W X Y=>q w C W (u.aB X) ?_;show cz ad C w 1 (r++[]) a _;rw[Rr];exact Y
 refine#[g,a,M,G,∅,h,d,?_];show(if(!aQ a)=true then _ else _);cases D:aQ a with|true=>erw[QR,P1,aaF];exact tail<|.inl D|false=>erw[QN,aaE];refine#[i,e,M,G,∅,j,d,?_];show(if(!aQ e)=true then _ else _);cases F:aQ e with|true=>erw[QR,P1,aaF];exact tail<|.inr F|false=>erw[QN,aaE];cases a with|group c b=>simp[aQ]at D|leaf o=>cases e with|group c b=>simp[aQ]at F|leaf l=>have I:=m.1;have J:=t.1;erw[aI]at I J;exact#[g,i,p,o,l,M,r,G,∅,h,j,s,I,J,d,q]
def zm:Rs K ad k 4.10:=by
 rintro a H Q E⟨j,L,f,y,x,M,m,rfl,c,o,A,p,N,g,s,B,P,b,q⟩;have#[n,C,a,c,d,r,D,e,h,R,i]:=aE.ax (K:=K) (k:=k) o b;have#[a,F,c,d,e,i,I,h,l,S,t]:=aE.ax (K:=K) (k:=k) A b;have d:=J8 (h:=x.1) (g:=y.1) (k:=x.2) (j:=y.2) s.2.2.2.2.2.1 g.2.2.2.2.2.1;have J:∀n:Nat,dZ x y=U (n,[],SO y.1.mode y.2)->lJ ad 4.12 k [j] H (λv a=>1<=k/\iw (ad 10.2) (cw K ad 0.3<|k-1) [.int (n:Nat),f,v] a Q E) E:=by intro n e;rw[e]at q;refine#[j,y,M,G,∅,o,g,B,b,λv l a c h=>?_];refine jV (n:=n) (kd:=y.2) ∅ c.ae (p.mono c.fr) h λw a h t u=>q w a h (c.aB t) ?_;show cz ad a w n (m++[]) y.2 _;rw[Rr];exact u
 have n:∀z,iy x.1 y.1 x.2 y.2=U z->dZ x y=U (z.1,[],z.2):=λz e=>by unfold dZ;rw[d,e]
 have z:iy x.1 y.1 x.2 y.2=O->dZ x y=aP x.2 y.2:=λe=>by unfold dZ;rw[d,e]
 refine fc (decide (x.1.mode=.one)&&!decide (y.1.mode=.one)) (ip (ji (i:=1) G i G<|gG gR.symm) λ_=>xj (i:=0) G r G<|congrArg _<|gG gR.symm) (λd=>?_) λd=>?_
 .have c:x.1.mode=.one/\y.1.mode≠.one:=by simpa using d
  have e:dZ x y=U (5,[],[]):=n (5,[]) (by unfold iy;rw[aaD c]);rw[e]at q;lk;refine#[by decide,λl T=>?_];have v:=(Go.refl (W:=W0) b).bc (o:=.lst []) T;refine jV (n:=5) (kd:=y.2) (o:=[]) ∅ v.ae (p.mono v.fr) #[l,[],G,ah,.nil] λw a h t u=>q w a h (v.aB t) ?_;show cz ad a w 5 (m++[]) y.2 _;rw[Rr];exact u
 have c:¬(x.1.mode=.one/\y.1.mode≠.one):=by intro h;rw[decide_eq_true h.1,decide_eq_false h.2]at d;cases d
 refine pd ?_;refine fc (decide (x.1.mode=.opt)&&(decide (y.1.mode=.many)||decide (y.1.mode=.keyed))) (ip (ji (i:=1) G i G<|gG Ka.symm) λ_=>om (ji (i:=0) G r G<|gG yo.symm) λ_=>ji (i:=0) G r G<|gG jn.symm) (λa=>?_) λa=>?_
 .have d:x.1.mode=.opt/\(y.1.mode=.many\/y.1.mode=.keyed):=by simpa using a
  have e:dZ x y=U (6,[],SO y.1.mode y.2):=n (6,SO y.1.mode y.2) (by unfold iy;rw[aaC c,aaD d]);lk;exact J 6 e
 have d:¬(x.1.mode=.opt/\(y.1.mode=.many\/y.1.mode=.keyed)):=by
  intro h;have:(decide (x.1.mode=.opt)&&(decide (y.1.mode=.many)||decide (y.1.mode=.keyed)))=true:=by simpa using h
  rw[this]at a;cases a
 refine pd ?_;have t:dZ x y=aP x.2 y.2->lJ ad 4.4 k [C,F,f] H Q E:=λe=>by rw[e]at q;exact#[C,F,f,y.2,x.2,M,m,G,∅,R,S,p,N,#[g.2.2.2.1,B],#[s.2.2.2.1,P],b,q]
 by_cases f:x.1.mode=.keyed
 .let l:Bool:=decide (if y.1.mode=.keyed then bZ y.2=bZ x.2 else y.1.mode≠.many);refine fc (true&&!l) (ip (ji (i:=1) G i G (decide_eq_true<|jn.mpr f).symm) λ_=>mB λR r=>?_) (λa=>?_) λa=>?_;.lk;exact#[j,L,y,x,M,G,∅,o,A,s.2.2.2.2.2.1 f,g.2.2.2.2.2.1,b,r]
  .have b:¬(if y.1.mode=.keyed then bZ y.2=bZ x.2 else y.1.mode≠.many):=by intro h;have:l=true:=decide_eq_true h;rw[this]at a;cases a
   have e:dZ x y=U (7,[],SO y.1.mode y.2):=n (7,SO y.1.mode y.2) (by unfold iy;rw[aaC c,aaC d,aaD #[f,b]]);lk;exact J 7 e
  .have b:(if y.1.mode=.keyed then bZ y.2=bZ x.2 else y.1.mode≠.many):=by
    by_cases h:(if y.1.mode=.keyed then bZ y.2=bZ x.2 else y.1.mode≠.many);.exact h
    .have:l=false:=decide_eq_false h;rw[this]at a;cases a
   have e:dZ x y=aP x.2 y.2:=z (by unfold iy;rw[aaC c,aaC d,aaC λh=>h.2 b]);lk;exact#[_,D,_,I,t e]
 .have e:dZ x y=aP x.2 y.2:=z (by unfold iy;rw[aaC c,aaC d,aaC λh=>f h.1]);refine fc (false&&false) (ip (ji (i:=1) G i G (decide_eq_false λh=>f<|jn.mp h).symm) λh=>by cases h) (λa=>by cases a) λa=>?_;lk;exact#[_,D,_,I,t e]
def zq:Rs K ad k 4.8:=by
 rintro m H Q E⟨d,g,n,i,o,M,r,rfl,h,e,j,f,l,a,b,c,q⟩;lk;have#[m,rfl,H]:=f;have#[f,s,t,u,n,v,w,o,p,x,y]:=ai.bI (K:=K) (k:=k) j c;have s:=a.1;have f:=b.1;erw[aI]at s f;have j:=a.2;have a:=b.2;erw[aF]at j a h l;rw[sR]at q;refine nj c o p (λt=>∃a b c,t=[U d,U g,U<|.ref m,a,b,c]) (λx=>iZ x i) (λR d=>#[_,n,d]) #[_,_,_,G] ?_ ?_
 .rintro j u x t p I l g h⟨a,b,c,rfl⟩d J lk L;have z:=h.mono d.fr;have#[n,h,j,A,l,m,o,v,w,y,B]:=aE.ax (K:=K) (k:=k) z d.ae;have#[h,j,l,rfl,m,n]:=ai.eU (ai.mono d.fr _ _ e) d.ae;have N:=dh f.2 g;have f:=eR g;lk;refine#[h,j,l,G,m,n,_,A,_,false,i,p,x.1.number,G,∅,ai.mono d.fr _ _ e,dc s.2,d.ae,λv g=>?_];cases j:aG x.1.number i.list with
  |none=>
   rw[j]at g;have g:v=.ao:=g;subst g;simp only;refine#[_,A,by decide,λl B=>pw d.ae (d.fr _ _ H) ∅ (λC D P h E=>?_) B];have e:=z.mono h.fr;refine#[u,C,x,D,r++[x.1.number],G,∅,e,E,h.ae,λw m n F e=>?_];have o:=(d.aB h).aB F;have f:iZ x i=if(Qr x.1 x.2).isNone then U (4,[x.1.number],[])else O:=by unfold iZ;rw[j]
   simp only at e;by_cases y:(Qr x.1 x.2).isNone=true
   .rw[aaD y]at e f;lk;erw[e.ne,aaH,QN,aaE];rw[J<|by rw[f];rfl,f]at q;refine q w m n o ?_;show cz ad m w 4 (r++[x.1.number]) (kindAt [x.1.number]<|.group false i) [];have M:kindAt [x.1.number] (.group false i)=.leaf .bit:=by rw[aaM,j]
    rw[M];exact e
   .rw[aaC y]at e f;subst e;simp only;exact L f _ m n #[_,_,_,G] o
  |some y=>
   rw[j]at g;have g:aE ad p y v:=g;have#[M,Q]:=ig j;have Q:=gn s.2 y M;have s:=fk M;have s:v≠.ao:=by have#[_,_,_,_,_,rfl,_]:=g;simp
   lk;erw[s,aaH,P1,aaF];refine#[_,A,by decide,λl B=>pw d.ae (d.fr _ _ H) ∅ (λC D P h E=>?_) B];refine#[v,u,C,y,x,D,r++[x.1.number],G,∅,g.mono h.fr,z.mono h.fr,E,by rw[P5,QB];lia,Q,N,∅,∅,h.ae,λw m n F e=>?_];have o:=(d.aB h).aB F;have f:iZ x i=(dZ x y).map (cG x.1.number):=by unfold iZ dZ;erw[j];cases R1 x.1 y.1 x.2 y.2<;>rfl
   cases g:dZ x y with|none=>rw[g]at e f;have e:w=.ao:=e;subst e;simp only;exact L f _ m n #[_,_,_,G] o|some z=>rw[g]at e f;have g:w≠.ao:=cz.ne e;lk;erw[g,aaH,QN,aaE];rw[J<|by rw[f];rfl,f]at q;exact q w m n o<|xZ j e
 .rintro e t p I⟨a,b,c,rfl⟩d;rw[e]at q;exact q _ p I d rfl
def zk:Rs K ad k 4.7:=by
 rintro f H Q E⟨Z,nv,j,g,i,M,F,rfl,d,ho,hn,e,h,a,b,c,q⟩;lk;have#[pb,rfl,aa]:=e;have#[f,m,n,o,e,p,r,j,l,s,t]:=ai.bI (K:=K) (k:=k) ho c;have s:=a.1;have H:=b.1;erw[aI]at s H;have f:=a.2;have a:=b.2;erw[aF]at f a d h;have C:=dc H.2;rw[PM,Ku C<|dc s.2]at q;have a:je i g=g.list.findSome? λx=>if(aG x.1.number i.list).isNone then U (3,[x.1.number],[QG x.2])else O:=by unfold je;erw[iU];induction g.list with|nil=>rfl|cons x L b=>rw[List.find?_cons,List.findSome?_cons];cases h:(aG x.1.number i.list).isNone with|true=>rfl|false=>erw[P1,aaF];exact b
 rw[a]at q;refine nj c j l (λp=>∃a b c,p=[U Z,U nv,U<|.ref pb,a,b,c]) (λx:HK=>if(aG x.1.number i.list).isNone then U ((3,[x.1.number],[QG x.2]):Ob)else O) (λR I=>#[_,e,I]) #[_,_,_,G] ?_ ?_
 .rintro j u x p y J hu r L⟨a,b,c,rfl⟩d M lk N;have D:=L.mono d.fr;have#[n,kv,fl,A,a2,a3,a4,a5,b1,b2,b3]:=aE.ax (K:=K) (k:=k) D d.ae;have#[m,o,e,t,v,f,w,z,B,l,E]:=ai.bI (K:=K) (k:=k) (ai.mono d.fr _ _ hn) d.ae;have P:=dh s.2 r;have m:=eR r;lk;erw[lK];refine#[_,A,_,f,e,_,G,ee.k (k:=.inl (x.1.number:Int))<|d.ae _ _ l,?_];rw[mM];cases hq:posOf x.1.number i.list with
  |none=>
   have E:aG x.1.number i.list=O:=find_none<|pos_none.mp hq;erw[Rz,WL,QN];refine#[_,A,by decide,λl S=>pw d.ae (d.fr _ _ aa) ∅ (λab m B e T=>?_) S];have#[n',V,ak,al,am,ap,W,av,a0,X,a6]:=aE.ax (K:=K) (k:=k) (D.mono e.fr) e.ae;refine#[_,W,V,x.2,m,G,∅,X,P.2.2.2.1,e.ae,λv M3 H3 t o=>#[by decide,λw f=>?_]];have#[Y,z,w,a7]:=iK t o;have g7:=((d.aB e).aB z).bc (o:=.lst [v]) f;have w:(if(aG x.1.number i.list).isNone then U ((3,[x.1.number],[QG x.2]):Ob)else O)=U (3,[x.1.number],[QG x.2]):=by rw[E];rfl
   rw[M<|by rw[w];rfl,w]at q;refine jV (n:=3) (kd:=x.2) ∅ g7.ae ((T.mono z.fr).mono<|bg<|z.ae.none f) (mR (z.ae.none f) a7) λw M5 H5 g8 f=>q w M5 H5 (g7.aB g8) ?_;show cz ad M5 w 3 (F++[x.1.number]) (kindAt [x.1.number]<|.group true g) _;have e1:kindAt [x.1.number] (.group true g)=x.2:=by rw[aaM,jO (dc s.2)<|List.mem_of_getElem? r];rfl
   rw[e1];exact f
  |some r=>
   erw[Qm,WK,QR];have#[r,a8,ac]:=(iC C).mp hq;have a9:aG x.1.number i.list=U r:=by rw[<-ac];exact jO C<|List.mem_of_getElem? a8
   exact N (by rw[a9];rfl) _ y J #[_,_,_,G] d
 .rintro E p y J⟨a,b,c,rfl⟩d;rw[E]at q;erw[Option.none_or]at q;have#[r,bi,bk,bl,h1,h2,h3,ba,bd,bm,bn]:=ai.bI (K:=K) (k:=k) (ai.mono d.fr _ _ ho) d.ae;have r:aJ W0 y J Q λy _ v=>ib ad y F (.group true g) v<|g.list.findSome? λy=>(aG y.1.number i.list).bind λx=>(aP x.2 y.2).map<|cG y.1.number:=λv m B g o=>q v m B (d.aB g) o;simp only;refine nj d.ae ba bd (λp=>∃a b c,p=[U Z,U nv,U<|.ref pb,a,b,c]) (λy:HK=>(aG y.1.number i.list).bind λx=>(aP x.2 y.2).map<|cG y.1.number) (λR I=>#[_,h1,I]) #[_,_,_,G] ?_ ?_
  .rintro j u y p m B hu g L⟨a,b,c,rfl⟩e M lk N;have D:=L.mono e.fr;have#[n,kv,fl,A,a2,a3,a4,a5,b1,b2,b3]:=aE.ax (K:=K) (k:=k) D e.ae;have n:=ai.mono (d.fr.trans e.fr) _ _ hn;have#[q,u,D,rfl,I,J]:=ai.eU n e.ae;have L:=dh s.2 g;have j:=eR g;obtain⟨x,j⟩:∃x,aG y.1.number i.list=U x:=by have:=List.findSome?_eq_none_iff.mp E y<|List.mem_of_getElem? g;cases h:aG y.1.number i.list with|none=>rw[h]at this;cases this|some x=>exact#[x,G]
   have#[h,ac]:=ig j;have E:=fk h;have P:=gn H.2 x h;lk;refine#[q,u,D,G,I,J,_,A,_,true,i,m,y.1.number,G,∅,n,C,e.ae,λv o=>?_];rw[j]at o;have o:aE ad m x v:=o;have#[n',V,ak,al,am,ap,W,av,a0,X,a6]:=aE.ax (K:=K) (k:=k) o e.ae;refine#[_,a4,_,W,_,A,by decide,λl S=>pw e.ae ((d.fr.trans e.fr) _ _ aa) ∅ (λab M3 H3 t T=>?_) S];refine#[kv,V,ab,y.2,x.2,M3,F++[y.1.number],G,∅,ai.mono t.fr _ _ b2,ai.mono t.fr _ _ X,T,by rw[P5,QB];lia,#[L.2.2.2.1,∅],#[P.2.2.2.1,∅],t.ae,λw Y h z f=>?_];have l:=(e.aB t).aB z;have d:((aG y.1.number i.list).bind λx=>(aP x.2 y.2).map<|cG y.1.number)=(aP x.2 y.2).map (cG y.1.number):=by rw[j];rfl
   cases i:aP x.2 y.2 with|none=>rw[i]at f d;have f:w=.ao:=f;subst f;simp only;exact N d _ Y h #[_,_,_,G] l|some z=>rw[i]at f d;have i:w≠.ao:=cz.ne f;lk;erw[i,aaH,QN,aaE];rw[M<|by rw[d];rfl,d]at r;exact r w Y h l<|xZ (jO (dc s.2)<|List.mem_of_getElem? g) f
  .rintro d p m B⟨a,b,c,rfl⟩e;rw[d]at r;exact r _ m B e rfl
def zH:Rs K ad k 4.3:=by rintro a H Q E⟨i,j,t,d,u,e,M,rfl,l,f,g,h,c,b,q⟩;have#[a,l,n,i,rfl,j,o,m]:=f;have#[l,o,p,f,rfl,a,r,n]:=g;have g:=c.2;refine#[_,aS (c:=10.5) (b _ _ j) G (by decide) G,_,aS (c:=10.5) (b _ _ a) G (by decide) G,by decide,λl g=>?_];have a:=(Go.refl (W:=W0) b).bc (o:=.lst []) g;refine#[i,f,.ref l,.group false d,.group false e,_,[],G,∅,ai.mono a.fr _ _ m,ai.mono a.fr _ _ n,#[l,G,ah],by erw[Qs];lia,h,c,a.ae,λw b c d e=>q w b c (a.aB d) ?_];exact e
def An:Rs K ad k 5.0:=by rintro a H Q E⟨j,l,t,d,x,M,rfl,m,b,e,f,g,h,i,c,q⟩;have#[a,n,o,j,rfl,l,p,m]:=b;have#[b,s,n,o,rfl,a,p,r]:=e;exact#[_,aS (c:=10.5) (c _ _ l) G (by decide) G,_,aS (c:=10.2) (c _ _ a) G (by decide) G,_,aS (c:=10.2) (c _ _ a) G (by decide) G,j,n,o,.group false d,x.2.1,x.2.2,M,G,∅,m,G,p,f,g,r,h,i,c,q]
end
section
set_option tactic.hygienic true
variable{K:PY}{ad:F->P2}{k:Nat}
def Bj:Rs K ad k 5.1:=by
 rintro vs H Q E⟨W,pv,g,kd,p,o,M,rfl,hk,X,bl,bm,bn,bo,Y,am,D,d,q⟩;erw[gZ];cases kd with
 |leaf l=>simp[aQ]at bl|group c a=>
  cases p with
  |nil=>exact absurd rfl bn|cons n p=>
   have#[F,rfl,Z]:=bm;have#[f,us,pn,pm,g1,g2,g3,hf,bs,ap,cm]:=ai.bI (K:=K) (k:=k) X d;have wf:=D.1;erw[aI]at wf;have av:=dc wf.2;have hh:=D.2;erw[aF]at hh;refine#[_,g2,pn,G,.inl #[_,.inl<|d _ _ ap],F,0,_,V.int (n:Nat),G,G,.inl<|af.of<|d _ _ Z,aV (j:=0) G,_,ee.k (k:=.inl (n:Int))<|d _ _ ap,?_];rw[mM];cases I:posOf n a.list with
   |none=>have bw:aG n a.list=O:=find_none<|pos_none.mp I;erw[Rz,TB,aaG,aaE];refine#[W,_,M,G,by erw[aF];lia,X,D.1,d,λv t A g1 B=>?_];have#[C,g2,k2,b4]:=iK g1 B;refine q v C A g2 ?_;rw[eE,iU,bw];exact b4|some r=>
    have#[x,s,b5]:=(iC av).mp I;have aa:aG n a.list=U x:=by rw[<-b5];exact jO av<|List.mem_of_getElem? s
    erw[Qm,Uc,reduceCtorEq,aaH,P1,aaF];have a0:eE (n::p) (.group c a) o=SW c a n (if p=[]then o else[eE p x.2 o]):=pk (by rw[iU,aa]);have ab:r<a.list.length:=(List.getElem?_eq_some_iff.mp s).1;have tail:∀(a6:V)(t A:Hp)(g:V)(J:List Sk),Go W0 M H t A->bp (λv y=>ar ad t x.2 v y) t g J->(c=true->∃y,J=[y])->eE (n::p) (.group c a) o=SW c a n J->
      cK (Gq K ad k) E (gj<|gj<|gj<|gj (dat 5.1).c) (D0 Q) [U W,U<|.ref F,U a6,U<|.int (r:Nat),U g,O] A:=by
     intro a6 t A g J h a7 ac hO
     have a8:=ai.mono h.fr _ _ X
     have#[f1,_,_]:=ai.ax (K:=K) (k:=k) a8 h.ae
     rw[hO]at q
     refine#[_,f1,G,?_]
     cases c with
     |true=>
      have b6:aw (.group true a)=60:=G
      lk
      erw[b6,aaG,aaE]
      have#[y,rfl]:=ac rfl
      have#[b,L,rfl,hb,b7]:=a7
      cases b7 with
      |cons b8 co=>
       rename_i w0 cq
       refine#[b,0,_,w0,G,G,.inl<|af.of<|h.ae _ _ hb,aV (j:=0) G,by decide,λl N=>?_]
       refine q _ _ _ (h.bc N) ?_
       rw[Iz I]
       exact#[l,r,w0,_,G,G,ah,ka.mpr #[x,y,s,G,ar.mono (bg<|h.ae.none N) _ _ _ b8]]
     |false=>
      have b9:¬aw (.group false a)=60:=by show¬(123:Int)=60;decide
      erw[V.int.injEq,b9,aaH,P1,aaF]
      refine#[W,_,t,G,by erw[aF];lia,a8,D.1,h.ae,λv C H2 i B=>?_]
      have#[b,L,ss,rfl,a9,ba,bd,ca,bi]:=B
      have cc:ss=Rh a:=by
       rw[oG]at a9
       exact(Zr a9).symm
      subst cc
      have ak:=(lG bi).1
      refine#[b,L,(r:Nat),r,G,G,ca,xn<|by rw[ak];exact ab,?_]
      have P:=(h.aB i).set (o:=.lst<|L.set r g) (.inr<|h.bQ b ba) bd
      have g6:=P.freeze (p:=b) (h.bQ b ba) ah
      have R:aj C<|upd C b<|.lst<|L.set r g:=bg bd
      refine q _ _ _ g6 ?_
      rw[IA I]
      refine#[b,_,_,G,G,ah,j9 (by rw[T5];exact ak) (by rw[T5];exact mF a) λj z w oo hz S T=>?_]
      by_cases hj:j=r
      .subst hj
       rw[s]at hz
       cases hz
       rw[List.getElem?_set_self<|by rw[ak];exact ab]at S
       rw[List.getElem?_set_self<|by rw[mF];exact ab]at T
       cases S
       cases T
       exact(a7.imp (i.fr.trans R) λv y=>ar.mono (i.fr.trans R) _ v y)
      .rw[List.getElem?_set_ne λe=>hj e.symm]at S T
       have#[w',o',h1,h2,h3]:=lF bi hz
       rw[S]at h1
       rw[T]at h2
       cases h1
       cases h2
       exact h3.imp R λv y=>ar.mono R _ v y
    have cd:(p=[]/\(c=true->∃y,o=[y]))\/(p≠[]/\aQ x.2=true/\f7 p x.2 o):=by rw[f7,aa]at am;exact am
    have ce:kindAt (n::p) (.group c a)=kindAt p x.2:=by rw[aaM,aa]
    rw[ce]at Y;refine#[F,_,G,.inl<|af.of<|d _ _ Z,?_];rw[bE];rcases cd with⟨rfl,ac⟩|⟨al,cf,ch⟩
    .have nl:¬(1:Int)<(([n]:List Nat).length:Nat):=by simp
     erw[nl,aaH,P1,aaF];exact tail g M H g o (Go.refl d) Y ac (by rw[a0,aaD G])
    .have yl:(1:Int)<((n::p).length:Nat):=by cases p with|nil=>exact absurd rfl al|cons m p=>erw[P0];lia
     lk;erw[yl,aaG,aaE];have#[u,hu,ci]:=dU bs s;have#[nn,ck,fl,a1,a2,a3,a4,a5,b1,b2,b3]:=aE.ax (K:=K) (k:=k) ci d;refine#[_,g1,f,_,us,u,G,G,.inl<|af.of<|d _ _ hf,aV hu,_,a4,1,G,F,_,G,af.of<|d _ _ Z,λl N=>?_];have cl:fS (bv (n::p)) (U 1) O=bv p:=by
      have e1:cp (bv (n::p)).length 0 (U ((1:Nat):Int))=1:=by rw[tL,bE,P0];lia
      show((bv (n::p)).drop<|cp (bv (n::p)).length 0<|U ((1:Nat):Int)).take (cp (bv (n::p)).length (bv (n::p)).length O-cp (bv (n::p)).length 0 (U ((1:Nat):Int)))=bv p;rw[e1,NG,bE,P0];show(bv p).take (p.length+1-1)=bv p;rw[Nat.add_sub_cancel];exact SX (by rw[bE];exact Qg _)
     rw[cl];have i:=(Go.refl (W:=W0) d).bc (o:=.lst<|bv p) N;erw[P0]at hk bo;have cr:=eR s;refine#[ck,.ref l,g,x.2,p,o,_,G,∅,ai.mono i.fr _ _ b2,cf,#[l,G,ah],al,∅,Y.imp i.fr λv y=>ar.mono i.fr _ v y,ch,#[(dh wf.2 s).2.2.2.1,∅],i.ae,λv C H2 P B=>#[by decide,λc' bk=>?_]];have g6:=(i.aB P).bc (o:=.lst [v]) bk;exact tail _ _ _ _ _ g6 (mR (P.ae.none bk) B) (λ_=>#[_,G]) (by rw[a0,aaC al])
end
section
variable{K:PY}{ad:F->P2}{k:Nat}
def Ba:Rs K ad k 5.6:=by
 rintro f H Q E⟨a,h,t,s,M,c,e,rfl,d,j,i,b,q,g⟩;erw[gZ];have#[f,l,m,c,n,o,j,p,r,u,h]:=ai.bI (K:=K) (k:=k) d b;refine#[_,j,c,G,.inr #[_,.inl<|b _ _ h],a,t,s,M,G,∅,i,b,λx b c v l f d⟨i,j⟩=>?_,λc=>by cases c];cases c;have#[b,rfl,m]:=j;have n:f b=U (.tup<|(df<|s.takeWhile Qa).map kV):=by rw[sj];exact d.ae _ _ m
 refine#[_,ee.t (k:=df<|s.takeWhile Qa) (d.ae _ _<|d.fr _ _ h) n,?_];rw[Kg];have b:∀o,(e.list.findIdx? λx=>x.1.name==s.takeWhile Qa)=o->j0 e.list s=o.bind λp=>(aN 58<|s.dropWhile Qa).map λr=>(p,r):=λo h=>by unfold j0;rw[h]
 cases f:e.list.findIdx? λx=>x.1.name==s.takeWhile Qa with
 |none=>erw[Rz,TB];exact#[by decide,(g<|by rw[b _ f];rfl).now d]|some p=>
  erw[Qm,Uc];have#[e,h,m,n]:=cg i 'A' (by decide) (by decide);refine#[a,e,h,G,m,n,a,t,_,l,58,G,∅,i,d.ae,λx a c v h i l⟨m,j⟩=>?_,λc=>?_];.unfold dB at c;have#[r,j,e]:=omap.mp c;cases e;exact q p a (by rw[b _ f,P4,j];rfl) _ h i (d.then l) #[m,G]
  .refine(g ?_).same d;rw[b _ f,P4];unfold dB at c;cases a:aN 58 (s.dropWhile Qa)with|none=>rfl|some r=>rw[a]at c;cases c
def A9:Rs K ad k 5.7:=by
 rintro e H Q E⟨a,p,t,s,M,b,rfl,r,u,f,c,d,q,w⟩;refine#[a,p,t,s,M,b,G,r,u,∅,c,d,λx g c v f h i⟨d,m⟩=>#[by decide,λl f=>?_],λc=>w<|by unfold aT;dsimp only;rw[c];rfl];have A:∀o,bR (λt=>aM b t) 44 g=o->aT (λt=>aM b t) 44 s=o.map λy=>(x::y.1,y.2):=λo h=>by unfold aT;lk;rw[c,P4,h]
 have c:a≠l:=λz=>by have#[_,_,_,j,_]:=d;rw[z,f]at j;cases j
 refine Dj (R:=λM v x=>ar ad M b v x) (one:=λt=>aM b t) (c:=44) (e:=11.0) (E:=E) (λM g v x n h=>ar.mono n _ v x h) (O1 b) (i.alloc f) (i.bQ l f) ah (i.ae.none f) (d.upd c) m ?_ ?_ ?_ ?_;.intro g o h c d R m n;have#[s,v,x,y]:=cg c 'Q' (by decide) (by decide);exact#[a,s,v,G,x,y,a,t,h,g,44,G,∅,c,d,m,n]
 .intro g o h e N m c _ d n s;refine#[l,G,#[_,af.of d],a,p,t,h,g,b,G,ai.mono m.fr _ _ r,u,∅,c,m.ae,λr t u v x b p⟨y,z⟩=>?_,s];have s:b l=U (.lst e):=p.st l _ d<|Q4<|c.ne d;have#[j,B]:=n r t v x b u p y z;exact#[e,s,j,B]
 .intro r h e g o b m d j p c _;refine q _ _ (by rw[A _ b];rfl) _ _ _ (m.freeze (i.bQ l f) d) #[?_,l,e,G,ah,Paired.imp' (λa b=>ar.mono (bg j) _ a b) p];exact c.c7 (c.ne d) j
 .intro n;exact w (by rw[A _ n];rfl)
end
section
set_option tactic.hygienic true
variable{K:PY}{ad:F->P2}{k:Nat}
inductive Dw(ad:F->P2)(r a:P2)(kv:V)(fs:Qh)(Z:Option (List (List Sk)×Qv))(t:Qv)(M' H':Hp)(m:Nat)(σ:St):Prop
 |mk(d:Nat)(s':Qv)(pre:List (List Sk))(ws:List V)(pos:Option V)(_:σ=[U (.ref r),U (.ref a),U kv,U (.int ((d:Nat)-1)),U (.bl true),pos])(_:d<=fs.list.length)(_:pre.length=d)(_:Z=(bD ((aD fs).drop d) (s'.takeWhile Qa) (s'.dropWhile Qa)).map (λy=>(pre++y.1,y.2)))(_:Sc ad M' H' a t s')(_:bW M' H' r ws)(_:bq ad M' fs ws (pre++QA (fs.list.length-d) []))(_:m=fs.list.length-d+1)
inductive Dx(ad:F->P2)(r a:P2)(kv:V)(fs:Qh)(Z:Option (List (List Sk)×Qv))(t:Qv)(M' H':Hp)(m:Nat)(σ:St):Prop
 |mk(ss:List (List Sk))(s':Qv)(ws:List V)(x y:Option V)(_:σ=[U (.ref r),U (.ref a),U kv,x,U (.bl false),y])(_:Z=U (ss,s'))(_:Sc ad M' H' a t s')(_:bW M' H' r ws)(_:bq ad M' fs ws ss)(_:m=0)
inductive Dz(ad:F->P2)(r a:P2)(kv:V)(fs:Qh)(Z:Option (List (List Sk)×Qv))(t:Qv)(M H:Hp)(m:Nat)(σ:St)(H':Hp):Prop
 |mk(M':Hp)(_:Go (W2 a r) M H M' H')(_:Dw ad r a kv fs Z t M' H' m σ\/Dx ad r a kv fs Z t M' H' m σ)
def A0:Rs K ad k 5.5:=by
 rintro l H Q E⟨r,a,b,t,s,M,c,g,rfl,f,u,h,d,i,e,j,q,J⟩;have L:=h;erw[aI]at L;have ab:=Dh L.2;have h:=qj L.2;erw[aF]at f;have N:a≠r:=λz=>by have#[_,_,_,f,_]:=e;rw[z,d.2]at f;cases f
 generalize f:bD (aD c) (s.takeWhile Qa) (s.dropWhile Qa)=Z at q J;have A:aD c=c.list.map λx=>(x.1,λt=>aM x.2 t):=ki c;have al:(aD c).length=c.list.length:=by rw[A,Qe]
 refine#[1,G,Dz ad r a b c Z t M H,
  #[_,M,Go.refl j,.inl #[0,s,[],g,_,G,Q9 _,G,?_,e,d,?_,G]],?_]
 .rw[aay,f];induction Z<;>rfl
 .have:([]:List<|List Sk)++QA (c.list.length-0) []=c.list.map λ_=>[]:=by rw[aaq,Rk,YT]
  rw[this];exact i
 .rintro m e H1⟨M1,C,⟨d,s,P,l,f,rfl,g,ac,E,R,F,S,rfl⟩|⟨ss,s,l,x,y,rfl,am,R,F,S,rfl⟩⟩
  .refine#[_,λ_ _ h=>h,a,b,t,s,M1,false,c,G,ai.mono C.fr _ _ u,∅,R,C.ae,λp s2 b v Q H2 m⟨ap,T⟩=>?_,λD=>?_]
   .cases T;unfold j0 at b;have#[f,e,b]:=aH.mp b;have#[f,V,b]:=omap.mp b;cases b;have#[x,j,I,W]:=oY e;have av:p<c.list.length:=(List.getElem?_eq_some_iff.mp j).1;have X:Go (W2 a r) M H Q H2:=C.trans m λb h=>.inl<|.inl h;by_cases Y:(p:Int)<=(d:Nat)-1
    .lk;erw[Y,aaG,aaE];refine#[by decide,(J ?_).now X];rw[E,pR];.rfl
     .intro z g e;have#[i,B]:=List.getElem?_of_mem g;rw[List.getElem?_drop,A,List.getElem?_map]at B;have#[w,n,o]:=omap.mp B;subst o;have:=yt ab n j (by rw[I];exact e);lia
    .lk;erw[Y,aaH,P1,aaF];have f:d<=p:=by lia
     have#[f,us,pn,pm,f1,f2,f3,hf,y,bm,bn]:=ai.bI (K:=K) (k:=k) (ai.mono (C.fr.trans m.fr) _ _ u) m.ae;have#[u,hu,a0]:=dU y j;have#[y,a6,fl,a1,a2,a3,a4,a5,b1,b2,b3]:=aE.ax (K:=K) (k:=k) a0 m.ae;have y:=eR j;have aa:((aD c).drop d)[p-d]?=U (x.1,λt=>aM x.2 t):=by rw[List.getElem?_drop,A,List.getElem?_map,show d+(p-d)=p by lia,j];rfl
     have y:=tW (t:=s.dropWhile Qa) aa I λi B z g=>by rw[List.getElem?_drop,A,List.getElem?_map]at g;have#[w,n,o]:=omap.mp g;subst o;exact W (d+i) ∅ w n
     rw[V,P4]at y;have a7:((aD c).drop d).drop (p-d+1)=(aD c).drop (p+1):=by rw[aaz];congr 1;lia
     rw[a7]at y;refine#[_,f1,f,_,us,u,G,G,.inl<|af.of<|m.ae _ _ hf,aV hu,_,a4,a,a6,t,s2,Q,x.2,G,b2,(dh L.2 j).2.2.2.1,∅,ap,m.ae,λL f ho v u H3 Q⟨a8,T⟩=>?_,λD=>?_]
     .have a9:Go (W2 a r) M H u H3:=X.trans Q λb h=>.inl (.inl h);have M:H2 r=U (.lst l):=m.st r _ F.2<|Q4 N;have ba:H3 r=U (.lst l):=Q.st r _ M<|Q4 N;have H:u r=O:=Q.da (m.da F.1 F.2) M;have ak:=bq.mono (m.fr.trans Q.fr) c _ _ S;have#[m,_]:=lG ak;rw[ho,P4]at y;refine#[r,l,_,p,G,G,ba,xn ∅,?_];have m:=a9.set (p:=r) (o:=.lst<|l.set p v) (.inl<|.inr G) H;have M:Sc ad u (upd H3 r<|.lst<|l.set p v) a t f:=a8.upd N;have Q:=NC ak j T;rw[<-ac,tT ∅ av,ac]at Q;have#[T,bd,e1,o]:=cg M 'Q' (by decide) (by decide);refine#[a,T,bd,G,e1,o,a,t,f,u,59,G,∅,M,m.ae,λT=>?_,λr3 bi H5 bk a=>?_]
      .have bl:Z=U (P++(QA (p-d) []++L::QA (c.list.length-p-1) []),f):=by
        rw[E,y];split;.rename_i Z e;exact absurd (show bf f=(59:Nat) by rw[show f=59::Z from e];rfl) T
        .erw[Qm];have:((aD c).drop<|p+1).map (λ_=>([]:List Sk))=QA (c.list.length-p-1) []:=by rw[aaq,S4,al];congr 1
         rw[this]
       exact#[0,∅,u,m,.inr #[_,f,_,_,_,G,bl,M,#[H,ah],Q,G]]
      .subst bi;have f:H5 r=U (.lst<|l.set p v):=a.st r _ ah<|Q4 N;refine#[c.list.length-(p+1)+1,∅,u,m.trans a λb h=>.inl<|.inl h,.inl #[p+1,r3,P++(QA (p-d) []++[L]),l.set p v,U<|.int (p:Nat),?_,∅,?_,?_,bk,#[H,f],?_,G]]
       .have:((p+1:Nat):Int)-1=(p:Nat):=by lia
        rw[this]
       .erw[P5,UY,QB];lia
       .rw[E,y];erw[Wj];congr 1;funext z;simp[Wr]
       .have a:P++(QA (p-d) []++[L])++QA (c.list.length-(p+1)) []=P++(QA (p-d) []++L::QA (c.list.length-p-1) []):=by erw[QL,QT,Rk];congr 3
        rw[a];exact Q
     .refine(J ?_).over X λb h=>.inl (.inl h);rw[E,y,D];rfl
   .refine(J ?_).over C λb h=>.inl (.inl h);rw[E];unfold j0 at D;cases a:c.list.findIdx? λx=>x.1.name==s.takeWhile Qa with
    |none=>
     rw[pR];.rfl
     .intro z g;have g:=U9 g;rw[A]at g;have#[w,n,e]:=Ro.mp g;subst e;exact yr a w n
    |some p=>
     rw[a,P4]at D;have V:aN 58 (s.dropWhile Qa)=O:=by cases h:aN 58 (s.dropWhile Qa)with|none=>rfl|some z=>rw[h]at D;cases D
     have#[x,j,I,W]:=oY a;by_cases Y:p<d
     .rw[pR];.rfl
      .intro z g e;have#[i,B]:=List.getElem?_of_mem g;rw[List.getElem?_drop,A,List.getElem?_map]at B;have#[w,n,o]:=omap.mp B;subst o;have:=yt ab n j (by rw[I];exact e);lia
     .have aa:((aD c).drop d)[p-d]?=U (x.1,λt=>aM x.2 t):=by rw[List.getElem?_drop,A,List.getElem?_map,show d+(p-d)=p by lia,j];rfl
      have y:=tW (t:=s.dropWhile Qa) aa I λi B z g=>by rw[List.getElem?_drop,A,List.getElem?_map]at g;have#[w,n,o]:=omap.mp g;subst o;exact W (d+i) ∅ w n
      rw[y,V];rfl
  .exact q ss s am _ M1 H1 C #[G,R,l,F,S]
end
section
variable{K:PY}{ad:F->P2}{k:Nat}
def Be:Rs K ad k 5.3:=by
 rintro e H Q E⟨a,f,t,s,M,b,rfl,c,m,n,g,d,q,h⟩;have#[i,_,_]:=ai.ax (K:=K) (k:=k) c d;refine#[_,i,G,?_];rcases bM b with⟨b,rfl⟩|⟨b,rfl⟩|⟨l,rfl⟩;.have e:aw (.group false b)=123:=G;erw[e,aaG];exact#[a,f,t,s,M,b,G,c,m,∅,g,d,q,h]
 .have e:¬aw (.group true b)=123:=by show¬(60:Int)=123;decide
  have j:aw (.group true b)=60:=G;erw[V.int.injEq,e,aaH];refine#[_,i,G,?_];erw[j,aaG];exact#[a,f,t,s,M,b,G,c,m,∅,g,d,q,h]
 .have e:¬aw (.leaf l)=123:=by induction l<;>simp[aw]
  have j:¬aw (.leaf l)=60:=by induction l<;>simp[aw]
  erw[V.int.injEq,e,aaH];refine#[_,i,G,?_];erw[V.int.injEq,j,aaH];refine#[a,t,s,M,f,l,G,c,by erw[aF]at n;lia,g,d,λx a b v c d e⟨f,g⟩=>q (.lit x) a ?_ v c d e #[f,xG g],λa=>h ?_];.show aM (.leaf l) s=_;rw[aM,b];rfl
  .show aM (.leaf l) s=_;rw[aM,a];rfl
def AX:Rs K ad k 5.8:=by
 rintro h H Q E⟨a,f,t,s,M,j,rfl,u,c,e,b,g,q,d⟩;have y:=c;erw[aI]at y;erw[aF]at e;have c:aM (.group true j) s=jM (aD j) s:=by rfl
 erw[c,jM]at q d;have#[n,l,o,w]:=cg b 'A' (by decide) (by decide);refine#[a,n,l,G,o,w,a,t,s,M,60,G,∅,b,g,λx m c v g b h⟨i,_⟩=>?_,λb=>d ?_]
 .unfold dB at c;have#[r,A,e]:=omap.mp c;cases e;rw[A,P4]at q d;refine#[a,f,t,m,g,true,j,G,ai.mono h.fr _ _ u,∅,i,h.ae,λp B f v z i g⟨F,C⟩=>?_,λb=>?_]
  .cases C;unfold j0 at f;have#[i,H,f]:=aH.mp f;have#[D,i,f]:=omap.mp f;cases f;have#[x,c,D,E]:=oY H;rw[uf c D E,i,P4]at q d;have#[f,H,M,N,I,P,Q,J,L,R,S]:=ai.bI (K:=K) (k:=k) (ai.mono (h.fr.trans g.fr) _ _ u) g.ae;have#[u,M,N]:=dU L c;have#[R,L,l,S,T,V,P,W,X,Q,Y]:=aE.ax (K:=K) (k:=k) N g.ae;have N:=eR c;refine#[_,I,f,_,H,u,G,G,.inl<|af.of<|g.ae _ _ J,aV M,_,P,a,L,t,B,z,x.2,G,Q,(dh y.2 c).2.2.2.1,∅,F,g.ae,λy u f v H I F⟨z,C⟩=>?_,λb=>?_]
   .have f:aM x.2 B=U (y,u):=f;rw[f]at q d;erw[Qm,P4]at q d;have#[n,l,o,w]:=cg z 'A' (by decide) (by decide);refine#[a,n,l,G,o,w,a,t,u,H,62,G,∅,z,F.ae,λf H n l w z o⟨t,_⟩=>#[by decide,λl f=>?_],λb=>?_]
    .unfold dB at n;have#[r,A,e]:=omap.mp n;cases e;have n:=((h.then g).then F).then o
     have w:a≠l:=λz=>by have#[_,_,_,a,_]:=t;rw[z,f]at a;cases a
     refine q _ H (by rw[A];rfl) _ _ _ (n.bc f) #[(t.upd w).c7 w<|n.ae.none f,?_];exact#[l,p,v,_,G,G,ah,ka.mpr #[x,y,c,G,ar.mono (o.fr.trans<|bg<|n.ae.none f) _ _ _ C]]
    .refine(d ?_).same ((h.then g).then F);unfold dB at b;cases i:aN 62 u with|none=>rfl|some r=>rw[i]at b;cases b
   .have b:aM x.2 B=O:=b;exact(d<|by rw[b];rfl).same<|h.then g
  .refine(d ?_).same h;unfold j0 at b;cases a:j.list.findIdx? λx=>x.1.name==m.takeWhile Qa with
   |none=>
    rw[Cv];.rfl
    .intro z d;rw[ki]at d;have#[w,f,e]:=Ro.mp d;subst e;exact yr a w f
   |some p=>
    rw[a,P4]at b;have i:aN 58 (m.dropWhile Qa)=O:=by cases h:aN 58 (m.dropWhile Qa)with|none=>rfl|some z=>rw[h]at b;cases b
    have#[x,c,D,E]:=oY a;rw[uf c D E,i];rfl
 .unfold dB at b;cases i:aN 60 s with|none=>rfl|some r=>rw[i]at b;cases b
def Bc:Rs K ad k 5.4:=by
 rintro e H Q E⟨a,kv,t,s,M,c,rfl,ab,av,f,b,d,q,F⟩;have wf:=av;erw[aI]at wf;have e:=qj wf.2;have e:aM (.group false c) s=j8 (aD c) s:=by rfl
 erw[e,j8]at q F;have#[e,fl,f,g]:=cg b 'A' (by decide) (by decide);refine#[a,e,fl,G,f,g,a,t,s,M,123,G,∅,b,d,λx A b v e f d⟨g,_⟩=>?_,λm=>F ?_]
 .unfold dB at b;have#[r,S,e]:=omap.mp b;cases e;rw[S,P4]at q F;have B:A.length<=5000:=QW g.iI.length_le g.le;have#[f,l,n,o,i,p,u,j,h,w,y]:=ai.bI (K:=K) (k:=k) (ai.mono d.fr _ _ ab) d.ae;have l:=Qy h;lk;refine p0 (R:=λM v(x:HK)=>bp (λv y=>ar ad M x.2 v y) M v []) (g:=λx:HK=>x) (λM n v x f h=>h.imp f λv y=>ar.mono f _ v y) d.ae j l ∅ (λR P=>#[_,i,P]) (λv=>rfl) ?_ ?_;.intro j u x hu b I f J l i;refine#[by decide,λl n=>i _ _ _ ((Go.refl J.ae).bc n) #[l,[],G,ah,.nil]]
  .intro D X I f J i a0 a6 Y;rw[List.map_id']at Y;have ac:H D=O:=d.bQ D i;have ak:Sc ad I f a t A:=g.over J id;have al:a≠D:=λz=>by have#[_,_,_,T,_]:=g;rw[z,i]at T;cases T
   have a7:bq ad I c X<|c.list.map λ_=>[]:=by refine j9 (Qy Y) (by rw[Qe]) λp x w o b hw C=>?_;have#[x',L,S]:=cn Y hw;rw[b]at L;cases L;rw[List.getElem?_map,b]at C;cases C;exact S
   have Z:=d.aB J;have tail:∀(d f:Hp)(g:List V)(l:List<|List Sk)(n:Qv),eA (aD c) A=U (l,n)->Go (W1 a) M H d f->d D=O->f D=U (.lst g)->bq ad d c g l->Sc ad d f a t n->∀y z,cK (Gq K ad k) E (.cons (.loop (.pair 3 4) (.zip (.fld (.var 1) '+')<|.var 2)<|.cons (.ite (.not<|.val<|.call 3.7<|.cons (.var 4)<|.cons (.fld (.var 3) '<') .nil) (.cons (.j6 11.0<|.cons (.con<|.str 'e') .nil) .nil) .nil) .nil)<|.cons (.ret<|.var 2) .nil) (D0 Q) [U<|.ref a,U kv,U<|.ref D,y,z] f:=by
    intro d f g l n i v a8 am W N y z;rw[i,P4]at q F;have#[E,ba]:=IV B i;have#[E,Q,B,bo,bd,bs,bv,bi,a9,bw,b4]:=ai.bI (K:=K) (k:=k) (ai.mono v.fr _ _ ab) v.ae;have B:=(lG W).1;have bk:=Qy a9;refine Cz (λj aa B=>(∃y z,aa=[U<|.ref a,U kv,U<|.ref D,y,z])/\Go (W1 a) M H d B/\B D=U (.lst g)/\Sc ad d B a t n/\∀(p:Nat)(x:HK)(o:List Sk),p<j->c.list[p]?=U x->l[p]?=U o->QK x.1.mode o=true) (a:=E) (b:=D) (xs:=Q) (ys:=g) (λR P=>#[_,bd,P]) (λj aa B h=>#[h.2.1.ae _ _ bi,h.2.2.1]) ∅ #[#[_,_,G],v,am,N,λp x o h=>by lia] ?_ ?_;.rintro aa B⟨⟨y,z,rfl⟩,E,P,Q,R⟩;have ap:d9 (aD c) l=true:=Oo λp x o b C=>R p x o (by rw[bk];exact(List.getElem?_eq_some_iff.mp b).1) b C;refine q (.group l) n (by rw[aaD ap]) _ _ _ (E.freeze ac P) #[Q.c7 al a8,?_];exact#[D,g,l,G,G,ah,bq.mono (bg a8) c _ _ W]
    .rintro j u w aa B C hu hw⟨⟨y,z,rfl⟩,E,P,Q,R⟩q;have#[x,b,bl]:=cn a9 hu;have#[y,o,T,z,h3]:=lF W b;rw[hw]at T;cases T;have#[y,T]:=ba j x o b z;have y:=E.alloc (o:=.tup [u,w]) q;have#[nn,b5,fl,a1,a2,a3,a4,a5,b1,b2,b3]:=aE.ax (K:=K) (k:=k) bl y.ae;have bm:(upd B C<|.tup [u,w]) D=U (.lst g):=by rw[aq λe=>by rw[<-e,P]at q;cases q];exact P
     have bn:Sc ad d (upd B C<|.tup [u,w]) a t n:=Q.upd λe=>by have#[_,_,_,B,_]:=Q;rw[e,q]at B;cases B
     refine#[_,a3,w,x.1.mode,x.2,d,o,G,∅,h3,∅,λq=>#[(dh wf.2 b).2.2.2.2.2.1 q,T],y.ae,?_];cases q:QK x.1.mode o with
     |true=>
      erw[QR,P1,aaF];refine#[#[_,_,G],y,bm,bn,λp x' B Y L w=>?_];by_cases C:p=j;.subst C;rw[b]at L;rw[z]at w;cases L;cases w;exact q
      .exact R p x' B ∅ L w
     |false=>erw[QN,aaE];refine#[by decide,(F ?_).now y];rw[aaC];intro ap;rw[ua ap j x o b z]at q;cases q
   have#[b,j,o,p]:=cg ak 'Q' (by decide) (by decide);refine#[a,b,j,G,o,p,a,t,A,I,125,G,∅,ak,J.ae,λb=>?_,λj q f N v=>?_]
   .lk;erw[QN,aaE];have i:eA (aD c) A=(bD (aD c) (A.takeWhile Qa)<|A.dropWhile Qa).bind λx=>(aN 125 x.2).map λu=>(x.1,u):=by
     delta eA;split;.rename_i u;exact absurd rfl b
     .rfl
    refine#[D,a,kv,t,A,I,c,X,G,∅,ai.mono Z.fr _ _ ab,av,#[a6,a0],a7,ak,J.ae,λl n b p d f v⟨_,N,g,o,W⟩=>?_,λm=>?_]
    .rw[b,P4]at i;have p:Go (W1 a) M H d f:=Z.trans v λb h=>by
      rcases h with h|h;.exact .inl h
      .subst h;exact .inr ac
     have#[u,w,x,y]:=cg N 'A' (by decide) (by decide);refine#[a,u,w,G,x,y,a,t,n,d,125,G,∅,N,v.ae,λw t a x u d E⟨Q,_⟩=>?_,λm=>?_];.unfold dB at a;have#[r,S,e]:=omap.mp a;cases e;rw[S]at i;have P:d D=U (.lst g):=E.st D _ o.2<|Q4 al;have:=tail u d g l t i (p.then E) (E.da o.1 o.2) P (bq.mono E.fr c _ _ W) Q O O;exact this
     .refine(F ?_).same p;unfold dB at m;cases a:aN 125 n with|none=>rw[i,a];rfl|some r=>rw[a]at m;cases m
    .refine(F ?_).over Z λb h=>?_;.rw[i,m];rfl
     .rcases h with h|h;.exact .inl h
      .subst h;exact .inr ac
   .lk;erw[QR,P1,aaF];subst q;have i:eA (aD c) (125::j)=U (c.list.map λ_=>[],j):=by show U ((aD c).map λ_=>[],j)=_;rw[ki,Se];rfl
    have am:f D=U (.lst X):=v.st D _ a0<|Q4 al;have:=tail I f X _ j i (Z.then v) a6 am a7 N O O;exact this
 .unfold dB at m;cases a:aN 123 s with|none=>rfl|some r=>rw[a]at m;cases m
def Aq:Rs K ad k 5.2:=by
 rintro b H Q E⟨l,h,t,u,c,M,rfl,i,a,m,d,f,e,q,g⟩;have#[b,rfl,i]:=a;have#[a,h,j,l,rfl,n,o,p]:=d;have a:=f.2;refine#[b,_,G,.inl<|af.of<|e _ _ i,?_];rw[bE];have d:∀o,(if 4000<t.length then O else(aM (.group false c) t).bind λx=>if x.2=[]then U x.1 else O)=o->eF c t=o:=λo h=>by unfold eF;exact h
 by_cases j:4000<t.length
 .have a:(4000:Int)<(t.length:Nat):=by lia
  lk;erw[a,aaG,aaE];exact#[by decide,g (d _<|by rw[aaD j]) H di.refl]
 .have a:¬(4000:Int)<(t.length:Nat):=by lia
  lk;erw[a,aaH,P1,aaF];rw[aaC j]at d;refine ym ∅ e i m λa j m e i=>?_;refine#[_,aS (c:=10.5) (e.ae _ _ n) G (by decide) G,a,l,t,t,M,.group false c,G,p,f.1,∅,i,e.ae,λx l f v i n o⟨p,s⟩=>?_,λj=>?_]
  .have f:aM (.group false c) t=U (x,l):=f;have r:Go W0 M H i n:=e.trans o λb h=>.inr (by rw[show b=a from h];exact m);have#[u,w,y,z]:=cg p 'W' (by decide) (by decide);refine#[a,u,w,G,y,z,a,t,l,i,G,∅,p,o.ae,λl=>?_,λl=>?_];.exact q x (d _<|by rw[f];simp[l]) v i n r s
   .exact(g<|d _<|by rw[f];simp[l]).now r
  .have j:aM (.group false c) t=O:=j;refine(g<|d _<|by rw[j];rfl).over e λb h=>.inr ?_;rw[show b=a from h];exact m
def Bq:Rs K ad k 5.11:=by
 rintro F H Q E⟨v,y,l,z,x,j,M,rfl,I,n,o,f,p,c,q⟩;have#[r,_,_]:=ai.ax (K:=K) (k:=k) o c;refine#[_,r,G,?_];rcases bM z with⟨d,rfl⟩|⟨d,rfl⟩|⟨i,rfl⟩;.have e:aw (.group false d)=123:=G;erw[e,aaG];exact#[v,y,l,d,x,j,M,G,∅,n,o,f,p,c,λw s t g h=>q _ s t g #[G,h.2]]
 .have e:¬aw (.group true d)=123:=by show¬(60:Int)=123;decide
  have u:aw (.group true d)=60:=G;erw[V.int.injEq,e,aaH];refine#[_,r,G,?_];erw[u,aaG];exact#[v,y,l,d,x,j,M,G,∅,n,o,f,p,c,λw s t g h=>q _ s t g #[G,h.2]]
 .have e:¬aw (.leaf i)=123:=by induction i<;>simp[aw]
  have u:¬aw (.leaf i)=60:=by induction i<;>simp[aw]
  erw[V.int.injEq,e,aaH];refine#[_,r,G,?_];erw[V.int.injEq,u,aaH];have#[m,rfl,a,J,w,L,rfl,A,N,b,rfl,B]:=n;have C:P6 (.leaf i) (.lit m)=RA m:=by rfl
  rw[C]at q p;refine#[l,G,#[_,af.of f.2],_,aS (c:=10.1) (c _ _ A) G (by decide) G,b,j,bv<|RA m,G,f.2,.inl<|c _ _ B,by rw[bE];have:=c9;lia,?_];have#[g,D]:=f.add c (us:=j++bv (RA m));exact q _ M _ g #[G,D]
def AJ:Rs K ad k 5.9:=by
 rintro a H Q E⟨v,g,t,c,x,M,rfl,h,e,b,i,f,d,q⟩;have#[a,j,l,g,rfl,h,m,i]:=b;refine#[by decide,λl a=>?_];have b:Go W0 M H M<|upd H l<|.lst []:=(Go.refl d).alloc a;refine#[_,aS (c:=10.5) (b.ae _ _ h) G (by decide) G,v,g,l,.group false c,x,[],M,G,∅,e,i,#[d.none a,ah],?_,b.ae,λw e g h⟨_,d⟩=>?_];.have:(P6 (.group false c) x).length<=15000000:=f;erw[Qs];lia
 .have c:Go W0 M H e g:=b.trans h λb h=>.inr (by rw[show b=l from h];exact a);rw[Rk]at d;exact q _ _ _ (c.freeze a d.2) #[l,G,ah]
def zB:Rs K ad k 5.10:=by
 rintro a H Q E⟨u,d,x,o,M,rfl,c,e,f,g,h,i,b,q⟩;refine#[by decide,λl a=>?_];have c:Go W0 M H M<|upd H l<|.lst []:=(Go.refl b).alloc a;refine#[u,d,l,x,o,[],M,G,∅,e,f,#[b.none a,ah],?_,c.ae,λw b e f⟨_,d⟩=>?_];.erw[Qs];lia
 .have g:Go W0 M H b e:=c.trans f λb h=>.inr (by rw[show b=l from h];exact a);rw[Rk]at d;exact q _ _ _ (g.freeze a d.2) #[l,G,ah]
def Bn:Rs K ad k 6.1:=by
 rintro b H Q E⟨v,g,l,h,x,a,M,rfl,f,e,j,c,d,m,q⟩;have#[b,p,w,i,rfl,rfl,h,g]:=e;have#[z,y,e,i,n]:=ka.mp g;subst i;erw[aF]at f;have f:=eR e;have f:=N7 (y:=y) (g:=z.1) (j:=z.2) e;have i:z.1.name++(58::Qd 44 ([y].map λv=>P6 z.2 v))=z.1.name++(58::P6 z.2 y):=by rfl
 have g:=c9;rw[f]at q d;erw[P0,P5,Qs]at d;refine#[l,G,#[_,af.of c.2],a,c.2,∅,?_];have#[d,g]:=c.add m (us:=a++[V.int 60]);have#[f,c,s,t,m,u,v,o,r,x,A]:=ai.bI (K:=K) (k:=k) j d.ae;have#[u,j,s]:=dU r e;refine#[_,m,b,0,_,V.int (p:Nat),G,G,.inr<|aR.of<|d.ae _ _ h,aV (j:=0) G,f,_,c,u,G,G,.inl<|af.of<|d.ae _ _ o,aV j,b,1,_,w,G,G,.inr<|aR.of<|d.ae _ _ h,aV (j:=1) G,by decide,λc f=>?_];have b:=d.bc (o:=.lst [w]) f;have d:l≠c:=λe=>by rw[<-e,g.2]at f;cases f
 have f:bW (upd M c<|.lst [w]) (upd (upd H l<|.lst<|a++[V.int 60]) c<|.lst [w]) l<|a++[V.int 60]:=#[by rw[aq d];exact g.1,by rw[aq d];exact g.2];refine#[u,.ref c,l,z,[y],a++[V.int 60],_,G,∅,s.mono b.fr,#[c,[w],G,ah,.cons (ar.mono b.fr _ _ _ n) .nil],f,?_,b.ae,λf g h d⟨_,c⟩=>?_];.rw[i];erw[P5,P0,Qs];lia
 .rw[i]at c;refine#[l,G,#[_,af.of c.2],_,c.2,?_,?_];.erw[P5,P0,Qs,bE];lia
  .have#[f,g]:=c.add d.ae (us:=a++[V.int 60]++bv (z.1.name++(58::P6 z.2 y))++[V.int 62]);refine q _ _ _ ((b.then d).then f) #[G,?_];have e:a++bv (60::(z.1.name++(58::(P6 z.2 y++[62]))))=a++[V.int 60]++bv (z.1.name++(58::P6 z.2 y))++[V.int 62]:=by simp[bv]
   rw[e];exact g
def Bo:Rs K ad k 6.0:=by
 rintro f H Q E⟨u,g,l,x,o,b,M,rfl,h,r,d,a,e,c,q⟩;have#[i,j,m,n,f,p,s,t,#[g,rfl,h],v,w]:=aE.ax (K:=K) (k:=k) r c;have#[m,i,rfl,n,p]:=d;have d:=c9;have t:=Qy p;erw[P5,P0]at e;refine#[l,G,#[_,af.of a.2],_,f,g,b,bv x.1.name,G,a.2,.inr<|c _ _ h,by rw[bE];lia,?_];have#[e,d]:=a.add c (us:=b++bv x.1.name);refine#[l,G,#[_,af.of d.2],_,d.2,by rw[P5,bE];lia,?_];have#[a,w]:=d.add e.ae (us:=b++bv x.1.name++[V.int 58]);have d:=e.then a
 obtain⟨J,h⟩:∃J:Nat->Qv,∀j,J j=Qd 44 ((o.take j).map λv=>P6 x.2 v):=#[_,λ_=>rfl];have A:∀j,(J j).length<=(Qd 44<|o.map λv=>P6 x.2 v).length:=λj=>by have:=r9 (c:=44) ((o.take j).map λv=>P6 x.2 v)<|(o.drop j).map λv=>P6 x.2 v;rw[<-Sf,Te]at this;rw[h];exact this
 have s:J 0=[]:=by rw[h];rfl
 lk;refine OE (λj f c=>(∃y z,f=[U u,U<|.ref m,U<|.ref l,y,z])/\∃a,Go (W1 l) M H a c/\bW a c l (b++bv x.1.name++[V.int 58]++bv (J j))) (a:=m) (xs:=i) (λR e=>e) (λj f c⟨_,a,g,_⟩=>g.ae _ _<|g.fr _ _ n) #[#[_,_,G],M,d,by
   rw[s]
   simpa[bv]using w] ?_ ?_
 .rintro f c⟨⟨y,z,rfl⟩,a,g,d⟩;have e:J i.length=Qd 44 (o.map λv=>P6 x.2 v):=by rw[h,t,TK]
  rw[e]at d;refine q _ a c g #[G,?_];have i:b++bv (x.1.name++(58::Qd 44 (o.map λv=>P6 x.2 v)))=b++bv x.1.name++[V.int 58]++bv (Qd 44<|o.map λv=>P6 x.2 v):=by simp[bv]
  rw[i];exact d
 .rintro j v f c C q⟨⟨y,z,rfl⟩,a,g,d⟩n;have#[w,i,t]:=cn p q;have p:=take_snoc i;have f:J (j+1)=if j=0 then P6 x.2 w else J j++44::P6 x.2 w:=by
   rw[h,h,p,Sf];show Qd 44 ((o.take j).map (λv=>P6 x.2 v)++[P6 x.2 w])=_;rw[join_snoc];have h:j<o.length:=(List.getElem?_eq_some_iff.mp i).1;by_cases i:j=0;.subst i;simp
   .rw[aaC i,aaC];intro h;have:=congrArg SG h;rw[Qe,RC,Qs]at this;lia
  have o:=A<|j+1;have p:=g.alloc (o:=.tup [V.int (j:Nat),v]) n;have g:l≠C:=λe=>by rw[<-e,d.2]at n;cases n
  have h:bW a (upd c C<|.tup [V.int (j:Nat),v]) l<|b++bv x.1.name++[V.int 58]++bv (J j):=#[d.1,by rw[aq g];exact d.2];have n:∀(e d:Hp)(g:List V),Go (W1 l) M H e d->aj a e->bW e d l g->g.length+(P6 x.2 w).length<=16000000->g++bv (P6 x.2 w)=b++bv x.1.name++[V.int 58]++bv (J<|j+1)->
    nM (Gq K ad k) ',' (λc d=>lJ ad 5.11 k [v,c,.ref l] d (λ_ c=>(∃y z,[U u,U<|V.ref m,U<|V.ref l,U<|V.int (j:Nat),U v]=[U u,U<|V.ref m,U<|V.ref l,y,z])/\∃a,Go (W1 l) M H a c/\bW a c l (b++bv x.1.name++[V.int 58]++bv (J<|j+1))) E) u d:=by
   intro e d g c y m q u
   have#[A,d,B,C,D,E,y,F,H,z,I]:=aE.ax (K:=K) (k:=k) (r.mono c.fr) c.ae
   refine#[_,y,v,d,l,x.2,w,g,e,G,∅,ar.mono c.fr _ _ _ t,z,m,q,c.ae,λq d r e⟨_,g⟩=>#[#[_,_,G],d,c.then e,?_]]
   rw[<-u]
   exact g
  lk;by_cases i:j=0
  .subst i;rw[aaD G]at f;have d:¬(0:Int)<((0:Nat):Int):=by lia
   erw[d,aaH,P1,aaF];have d:=s;refine n a _ _ p (aj.refl _) h ?_ ?_;.rw[d];rw[f]at o;erw[P5,P0,Qs,bE];lia
   .rw[f,d];simp[bv]
  .rw[aaC i]at f;have d:(0:Int)<((j:Nat):Int):=by lia
   erw[d,aaG,aaE];rw[f]at o;erw[P5,P0]at o;refine#[l,G,#[_,af.of h.2],_,h.2,?_,?_];.erw[P5,P0,Qs,bE];lia
   .have#[c,m]:=h.add p.ae (us:=b++bv x.1.name++[V.int 58]++bv (J j)++[V.int 44]);refine n a _ _ (p.then c) (aj.refl _) m ?_ ?_;.erw[P5,P0,Qs,bE];lia
    .rw[f];simp[bv]
def Bp:Rs K ad k 5.12:=by
 rintro vs H Q E⟨v,kv,l,fs,x,ts,M,rfl,hk,hv,hkv,hro,hsz,km,q⟩;have#[b,ws,ss,rfl,rfl,hb,hsl]:=hv;have hz16:=c9;erw[aF]at hk;have#[hwl,hssl]:=lG hsl;have hsh:P6 (.group false fs) (.group ss)=123::(Qd 59 ((fs.list.zip ss).filterMap dN)++[125]):=by rw[P6,tU];rfl
 rw[hsh]at q hsz;erw[P0,P5,Qs]at hsz;refine#[l,G,#[_,af.of hro.2],ts,hro.2,∅,?_];have#[g1,hr1]:=hro.add km (us:=ts++[V.int 123]);have#[f,us,pn,pm,f1,f2,f3,hf,hfp,hpn,hpm]:=ai.bI (K:=K) (k:=k) hkv g1.ae;have hlen:=Qy hfp;obtain⟨P,hPd⟩:∃P:Nat->List Qv,∀j,P j=((fs.list.zip ss).take j).filterMap dN:=#[_,λ_=>rfl];have hP:∀j,(Qd 59<|P j).length<=(Qd 59<|(fs.list.zip ss).filterMap dN).length:=λj=>by have:=r9 (c:=59) (P j)<|((fs.list.zip ss).drop j).filterMap dN;rw[hPd,<-Y0,Te]at this;rw[hPd];exact this
 have hP0:P 0=[]:=by rw[hPd];rfl
 lk;refine Cz (λj σ H'=>(∃y z,σ=[U<|.ref b,U kv,U<|.ref l,U<|.bl<|decide (P j=[]),y,z])/\∃M',Go (W1 l) M H M' H'/\bW M' H' l (ts++[V.int 123]++bv (Qd 59<|P j))) (a:=f) (b:=b) (xs:=us) (ys:=ws) (λR hR=>#[_,f1,hR]) (λj σ H'⟨_,M',g,_⟩=>#[g.ae _ _<|g.fr _ _ hf,g.ae _ _<|g.fr _ _ hb]) ∅ #[#[_,_,by rw[hP0];rfl],M,g1,by
   rw[hP0]
   simpa[bv,Qd]using hr1] ?_ ?_
 .rintro σ H'⟨⟨y,z,rfl⟩,M',g,hr⟩;have e:P us.length=(fs.list.zip ss).filterMap dN:=by rw[hPd,SX];rw[List.length_zip,hssl,hlen];lia
  rw[e]at hr;refine#[l,G,#[_,af.of hr.2],_,hr.2,?_,?_];.erw[P5,P0,Qs,bE];lia
  .have#[g2,hr2]:=hr.add g.ae (us:=ts++[V.int 123]++bv (Qd 59<|(fs.list.zip ss).filterMap dN)++[V.int 125]);refine q _ _ _ (g.then g2) #[G,?_];have e2:ts++bv (123::(Qd 59 ((fs.list.zip ss).filterMap dN)++[125]))=ts++[V.int 123]++bv (Qd 59<|(fs.list.zip ss).filterMap dN)++[V.int 125]:=by simp[bv]
   rw[e2];exact hr2
 .rintro j u w σ H' C hu hw⟨⟨y,z,rfl⟩,M',g,hr⟩hC;have#[x,hx,hru]:=cn hfp hu;have hh:=eR hx;have#[w',o,h1,h2,h3]:=lF hsl hx;rw[hw]at h1;cases h1;have hzj:(fs.list.zip ss)[j]?=U (x,o):=List.getElem?_zip_eq_some.mpr #[hx,h2];have htake:P (j+1)=P j++(match dN (x,o)with|some s=>[s]|none=>[]):=by rw[hPd,hPd,take_snoc hzj,Y0];congr 1;cases h:dN (x,o)<;>simp[h]
  have hle:=hP<|j+1;have g3:=g.alloc (o:=.tup [u,w]) hC;have hlC:l≠C:=λe=>by rw[<-e,hr.2]at hC;cases hC
  have hr3:bW M' (upd H' C<|.tup [u,w]) l<|ts++[V.int 123]++bv (Qd 59<|P j):=#[hr.1,by rw[aq hlC];exact hr.2];have#[ob,os,rfl,hob,hop]:=h3;have holen:=Qy hop;refine#[ob,os,G,.inl<|af.of<|g3.ae _ _<|g3.fr _ _ hob,?_];by_cases ho:o=[]
  .have n0:¬(0:Int)<(os.length:Nat):=by rw[holen,ho];simp
   lk;erw[n0,aaH,P1,aaF];have e:P (j+1)=P j:=by rw[htake];simp[dN,ho]
   rw[e];exact#[#[_,_,G],M',g3,hr3]
  .have y0:(0:Int)<(os.length:Nat):=by rw[holen];have:=Ui.mpr ho;lia
   lk;erw[y0,aaG,aaE];have eP:P (j+1)=P j++[fj x o]:=by
    rw[htake];have:dN (x,o)=U (fj x o):=by simp[dN,ho]
    rw[this]
   have hne:decide (P (j+1)=[])=false:=by rw[eP];simp
   have hjs:=join_snoc (c:=59) (P j)<|fj x o;rw[<-eP]at hjs;have fin:∀(H4:Hp)(us4:List V),Go (W1 l) M H M' H4->bW M' H4 l us4->us4.length+(fj x o).length<=16000000->us4++bv (fj x o)=ts++[V.int 123]++bv (Qd 59<|P<|j+1)->
     lJ ad 6.0 k [u,.ref ob,.ref l] H4 (λ_ H1=>(∃y z,[U<|V.ref b,U kv,U<|V.ref l,U<|V.bl false,U u,U<|V.ref ob]=[U<|V.ref b,U kv,U<|V.ref l,U<|V.bl<|decide (P (j+1)=[]),y,z])/\∃M',Go (W1 l) M H M' H1/\bW M' H1 l (ts++[V.int 123]++bv (Qd 59<|P<|j+1))) E:=by
    intro H4 us4 g4 hr4 hs4 he4
    refine#[u,.ref ob,l,x,o,us4,M',G,∅,hru.mono g4.fr,#[ob,os,G,g4.fr _ _ hob,Paired.imp' (λa b=>ar.mono g4.fr _ a b) hop],hr4,hs4,g4.ae,λw5 M5 H5 g5⟨_,hr5⟩=>#[?_,M5,g4.then g5,?_]]
    .rw[hne]
     exact#[_,_,G]
    .rw[<-he4]
     exact hr5
   by_cases hPj:P j=[]
   .rw[aaD hPj]at hjs;erw[hPj,aaG,QR,P1,aaF];rw[hjs]at hle;refine fin _ _ g3 hr3 ?_ ?_;.rw[hPj];erw[P5,P0,Qs,bE,Qd];lia
    .rw[hjs,hPj];simp[bv,Qd]
   .rw[aaC hPj]at hjs;erw[hPj,aaH,QN,aaE];rw[hjs]at hle;erw[P5,P0]at hle;refine#[l,G,#[_,af.of hr3.2],_,hr3.2,?_,?_];.erw[P5,P0,Qs,bE];lia
    .have#[g4,hr4]:=hr3.add g3.ae (us:=ts++[V.int 123]++bv (Qd 59<|P j)++[V.int 59]);refine fin _ _ (g3.then g4) hr4 ?_ ?_;.erw[P5,P0,Qs,bE];lia
     .rw[hjs];simp[bv]
def A8:Rs K ad k 6.11:=by
 rintro g H Q E⟨a,t,s,M,b,c,rfl,h,e,f,q,d⟩;refine#[a,t,s,M,G,∅,e,f,λn g a v h i e⟨j,f⟩=>?_,λa=>d<|by unfold cN;rw[a];rfl];cases f;have f:cN b c s=if n<b\/c<n then O else U (n,g):=by unfold cN;rw[a];rfl
 by_cases a:(n:Int)<b;.lk;erw[a,aaG,aaE];exact#[by decide,(d<|by rw[f,aaD<|.inl ∅]).now e]
 .lk;erw[a,aaH,P1,aaF];by_cases a:(c:Int)<n;.lk;erw[a,aaG,aaE];exact#[by decide,(d<|by rw[f,aaD<|.inr ∅]).now e]
  .lk;erw[a,aaH,P1,aaF];exact q n g (by rw[f,aaC ∅]) _ h i e #[j,G]
def A6:Rs K ad k 6.12:=by
 rintro c H Q E⟨a,t,s,M,rfl,e,b,f,q,d⟩;have#[c,e,g,h]:=cg b 'b' (by decide) (by decide);refine#[a,c,e,G,g,h,a,t,s,M,G,∅,b,f,_,G,∅,?_];induction s with
 |nil=>
  have:(!(decide ((97:Int)<=bf [])&&decide (bf []<=122)))=true:=by decide
  lk;rw[aaD this];exact#[by decide,d G H di.refl]
 |cons c r=>
  show(if(!(decide ((97:Int)<=(c:Nat))&&decide (((c:Nat):Int)<=122)))=true then _ else _);rw[JO];cases e:Vf c with
  |false=>
   erw[QN,aaE];refine#[by decide,d ?_ H di.refl];unfold fY;rw[aaC];rw[Vk];split;.simp[R8,e]
   .simp[R8]
  |true=>
   erw[QR,P1,aaF];refine#[a,t,c::r,M,G,∅,b,f,λx b a v i j f⟨l,h⟩=>?_,λa=>by cases a];cases a;have#[b,rfl,g]:=h;refine#[b,_,G,.inr<|aR.of<|f.ae _ _ g,?_];rw[bE];have h:R8 ((c::r).takeWhile Qa)=decide (((c::r).takeWhile Qa).length<=12):=by have a:=take_all Qa (c::r);rw[Vk,JP e]at a⊢;erw[aaE]at a⊢;show(Vf c&&_&&_)=_;rw[e,a];rfl
   by_cases a:(12:Int)<(((c::r).takeWhile Qa).length:Nat);.lk;erw[a,aaG,aaE];refine#[by decide,(d ?_).now f];unfold fY;rw[h,aaC];erw[decide_eq_true_eq];lia
   .lk;erw[a,aaH,P1,aaF];refine q _ _ ?_ _ i j f #[l,b,G,g];unfold fY;rw[h,aaD];erw[decide_eq_true_eq];lia
def A5:Rs K ad k 7.0:=by
 rintro N H Q E⟨a,t,s,M,rfl,P,f,w,q,g⟩;have#[x,y,z,A]:=cg f '^' (by decide) (by decide);refine#[a,x,y,G,z,A,a,t,s,M,G,∅,f,w,λc h i v j B C⟨l,D⟩=>#[by decide,λp n=>?_],λF=>?_]
 .cases D;cases s with
  |nil=>cases i|cons d r=>
   cases i;have#[I,J]:=J9 c;have o:=C.alloc (o:=.tup [V.int 33,V.int 63,V.int 42,V.int 37]) n;have L:Sc ad j (upd B p<|.tup [V.int 33,V.int 63,V.int 42,V.int 37]) a t h:=l.upd λe=>by have#[_,_,_,u,_]:=l;rw[e,n]at u;cases u
   refine#[p,_,G,.inr<|aR.of ah,G,G,?_];erw[aaE];rw[I];cases b:Tt c with|none=>erw[WL,QN];refine#[by decide,(g ?_).now o];show(Tt c).map _=O;rw[b];rfl|some m=>erw[WK,QR];refine q m h ?_ _ j _ o #[L,by show V.int (c:Nat)=V.int (br m);rw[J m b]];show(Tt c).map _=_;rw[b];rfl
 .cases s with|nil=>exact g rfl|cons d r=>cases F
end
section
set_option tactic.hygienic true
variable{K:PY}{ad:F->P2}{k:Nat}
def zL:Rs K ad k 7.3:=by
 rintro F H Q E⟨I,g,M,rfl,J,o,p,a,q⟩;have#[s,_,_]:=ai.ax (K:=K) (k:=k) o a;refine#[_,s,G,?_];by_cases b:aw g=123
 .have#[i,rfl]:=fW.mp b;erw[b,aaG,QR];have#[f,t,L,N,v,_,_,w,m,_,_]:=ai.bI (K:=K) (k:=k) o a;erw[aI]at p;cases i with
  |nil=>exact absurd rfl p.1|cons h j r=>
   erw[PZ]at m;cases m with
   |cons x m=>
    rename_i u t;have#[n,y,P,R,S,z,A,T,W,B,X]:=aE.ax (K:=K) (k:=k) x a;refine#[_,v,f,0,_,u,G,G,.inl<|af.of<|a _ _ w,aV (j:=0) G,_,z,G,_,G,?_];by_cases d:h.mode=.one
    .erw[gR.mpr d,aaG,aaE];refine#[_,A,y,j,M,G,∅,B,a,_,G,?_];have e:(QI<|.group false<|.cons h j r).isSome=!aQ j:=by cases j with|leaf l=>show(if h.mode=.one then U (h,l)else O).isSome=true;rw[aaD d];rfl|group c C=>rfl
     rw[<-e];exact q
    .have D:¬br h.mode=33:=λe=>d (gR.mp e);erw[V.int.injEq,D,aaH,P1,aaF];have e:(QI<|.group false<|.cons h j r).isSome=false:=by cases j with|leaf l=>show(if h.mode=.one then U (h,l)else O).isSome=false;rw[aaC d];rfl|group c C=>rfl
     rw[<-e];exact q
 .erw[V.int.injEq,b,aaH,QN];have e:(QI g).isSome=false:=by
   rcases bM g with⟨i,rfl⟩|⟨i,rfl⟩|⟨l,rfl⟩;.exact absurd rfl b
   .rfl
   .rfl
  rw[<-e];exact q
end
section
variable{K:PY}{ad:F->P2}{k:Nat}
def zf:Rs K ad k 7.2:=by
 rintro a H Q E⟨m,e,b,M,c,rfl,i,f,g,h,q,d⟩;refine fc (c&&!decide (m=.one)) (ip (xi (i:=2) G G<|by rw[gG LM];simp) λ_=>r6 (i:=0) G G<|congrArg _<|gG gR.symm) (λa=>?_) λa=>?_
 .refine#[by decide,d ?_];unfold fP;have:(c&&m !=.one)=true:=by simp at a⊢;exact a
  rw[this];rfl
 .have i:fP c m b=(m==.keyed&&(QI b).isNone):=by
   unfold fP;have:(c&&m !=.one)=false:=by induction c with|false=>rfl|true=>simp at a⊢;exact a
   rw[this];rfl
  rw[i]at q d;refine fc (decide (m=.keyed)&&!(QI b).isSome) (ip (xi (i:=0) G G<|gG jn.symm) λ_=>mB λR r=>?_) (λa=>?_) λa=>?_;.exact#[e,b,M,G,∅,f,g,h,r]
  .refine#[by decide,d ?_];simp at a⊢;exact a
  .refine q ?_;cases c:decide (m=.keyed)with
   |false=>
    have:(m==.keyed)=false:=by simpa using c
    rw[this];rfl
   |true=>rw[c]at a;cases c:QI b with|none=>rw[c]at a;cases a|some z=>simp
def ze:Rs K ad k 7.4:=by
 rintro a H Q E⟨m,d,b,M,c,rfl,h,e,f,q,g⟩;refine fc (!decide (c=false)||(!decide (m=.one)||aQ b)) (om (r6 (i:=2) G G<|congrArg _<|gG LL.symm) λ_=>om (r6 (i:=0) G G<|congrArg _<|gG gR.symm) λ_=>λR r=>?_) (λa=>?_) λa=>?_;.exact#[d,b,M,G,∅,e,f,r]
 .refine#[by decide,g λ⟨b,d,e⟩=>?_];rw[decide_eq_true b,decide_eq_true d,e]at a;cases a
 .refine q #[?_,?_,?_];.induction c with|false=>rfl|true=>simp at a
  .simp at a;exact a.2.1
  .simp at a;exact a.2.2
def zh:Rs K ad k 6.8:=by
 rintro d H Q E⟨l,c,M,rfl,e,a,f,b,q,n⟩;have f:=b _ _ a;refine pZ (lo:=1) (hi:=(c.length:Nat)) (H1:=H) (λR a=>?_) ∅ ?_;.refine#[l,_,G,.inl<|af.of f,?_];rw[bE];exact a
 .refine#[λj g m=>m=H/\(∃y,g=[U<|.ref l,y])/\∀i a b,i<j->c[i]?=U a->c[i+1]?=U b->a<b,#[G,#[_,G],λi a b h=>by lia],?_,?_];.rintro g m⟨rfl,_,h⟩;refine q<|tF.mpr λj a b e d=>h j a b ?_ e d;have:=(List.getElem?_eq_some_iff.mp d).1;lia
  .rintro j g m o⟨rfl,⟨y,rfl⟩,h⟩;have g:j+1<c.length:=by lia
   obtain⟨a,e⟩:∃a,c[j]?=U a:=#[c[j]'∅,by simp];obtain⟨b,d⟩:∃b,c[j+1]?=U b:=#[c[j+1]'g,by simp[g]];lk;have g:(1:Int)+(j:Nat)-1=((j:Nat):Int):=by lia
   have m:(1:Int)+(j:Nat)=((j+1:Nat):Int):=by lia
   rw[g,m];refine#[l,_,_,V.int (a:Nat),G,G,.inl<|af.of f,aV<|nP e,l,_,_,V.int (b:Nat),G,G,.inl<|af.of f,aV<|nP d,?_];show(if decide (((b:Nat):Int)<=(a:Nat))=true then _ else _);by_cases f:b<=a;.rw[aaD<|decide_eq_true ∅];refine#[by decide,n ?_];cases f:c8 c with|false=>rfl|true=>have:=tF.mp f j a b e d;lia
   .rw[aaC<|by simp;lia];refine#[G,#[_,G],λi x y c a b=>?_];by_cases c:i=j;.subst c;rw[e]at a;rw[d]at b;cases a;cases b;lia
    .exact h i x y ∅ a b
def zg:Rs K ad k 6.9:=by
 rintro f H Q E⟨l,a,M,c,rfl,h,b,d,g,e,q,i⟩;have f:=e _ _ b;have j:=Qy d;have m:Paired (λb k=>H b=U (.tup<|k.map kV)) a<|c.map df:=by
  have:∀{a:List P2}{c:List Qv},Paired (λb t=>M b=U (.tup<|bv t)) a c->Paired (λb k=>H b=U (.tup<|k.map kV)) a (c.map df):=λh=>by induction h with|nil=>exact .nil|cons h _ n=>exact .cons (by rw[sj];exact e _ _ h) n
  exact this d
 refine#[l,a,c.map df,G,af.of f,m,by rw[Qe];exact g,l,_,G,.inl<|af.of f,G,?_];have d:(c.map df).eraseDups.length=c.length↔c.Nodup:=by
  haveI:LawfulBEq Key:=xA;have:=Hv _ (c.map df)<|Qg _;rw[Qe]at this;rw[this];constructor;.intro h;unfold X9 at h;rw[T6]at h;exact Vb (λ{a b}h e=>h<|by rw[e]) h
  .intro h;unfold X9;rw[T6];exact Vb (λ{a b}h e=>h<|sg e) h
 rw[Qe,j];by_cases a:c.Nodup
 .have e:((c.map df).eraseDups.length:Int)=(c.length:Nat):=by rw[d.mpr a]
  erw[e,aaG,QR];exact q a
 .have e:¬((c.map df).eraseDups.length:Int)=(c.length:Nat):=λh=>a (d.mp ∅);erw[V.int.injEq,e,aaH,QN];exact#[by decide,i a]
def zt:Rs K ad k 6.6:=by
 rintro d H Q E⟨B,r,M,rfl,C,s,i,g,q⟩;refine#[B,r,M,G,∅,s,g,?_];lk;cases r with
 |leaf l=>erw[aQ,QN,aaE];exact q _ M H (Go.refl g) (by rw[Q0];rfl)|group c fs=>
  erw[aQ,QR,P1,aaF];have#[f,us,pn,pm,F,_,_,I,t,_,_]:=ai.bI (K:=K) (k:=k) s g;have J:=Qy t;erw[aI]at i;erw[aF]at C;lk;refine p0 (R:=λM v(y:Nat)=>v=.int (y:Nat)) (g:=λx:HK=>Q0 x.2) (λM M' v x kk h=>h) g I J (uF i.2) (λR L=>#[_,F,L]) (λv=>rfl) ?_ ?_;.intro j u x N m o w b Q1 P;have#[x',z,S]:=cn t N;rw[m]at z;cases z;have#[n,T,fl,c1,c2,c3,W,c5,d1,X,d3]:=aE.ax (K:=K) (k:=k) (S.mono b.fr) b.ae;have hh:=eR m;erw[wipe,X8];exact#[_,W,T,x.2,o,G,∅,X,(dh i.2 m).2.2.2.1,b.ae,P]
  .intro D d o w b hD Y ab Z;have e:∀{d:List V}{A:List Nat},Paired (λv(y:Nat)=>v=V.int (y:Nat)) d A->d=(A.map λy=>((y:Nat):Int)).map V.int:=λh=>by induction h with|nil=>rfl|cons h _ p=>rw[h,p];rfl
   have aa:=e Z;refine#[D,_,G,af.of<|by rw[Y,aa],q _ o w b ?_];rw[Q0,xP];congr 1;have:∀l:List Nat,(l.map λy=>((y:Nat):Int)).sum=((l.sum:Nat):Int):=λl=>by induction l with|nil=>rfl|cons a l p=>simp[p]
   exact this _
def A3:Rs K ad k 7.1:=by
 rintro c H Q E⟨a,t,s,M,d,rfl,f,p,g,b,e,q,o⟩;have#[g,j,l,m]:=cg b 'b' (by decide) (by decide);refine#[a,g,j,G,l,m,a,t,s,M,G,∅,b,e,?_];have n:∀c:Bool,(∃r,s=Q3 c::r)->lJ ad 6.7 k [V.ref a,V.int (d:Nat)] H Q E:=by
  rintro c⟨r,f⟩;have i:bj (7-d) s=if 6<d then O else(aN (Q3 c) s).bind (de (bj<|6-d) c):=by
   rw[f,Jr];by_cases h:6<d;.rw[aaD h,aaD ∅]
   .rw[aaC h,aaC ∅,show 7-d-1=6-d by lia (config:={})]
  refine#[a,t,s,M,d,c,G,∅,p,#[r,f],∅,b,e,λx p h=>q x p ?_,λh=>o ?_];.rw[i];exact h
  .rw[i];exact h
 by_cases h:bf s=123;.erw[h,aaG];exact#[G,n false<|head_cons h]
 by_cases i:bf s=60
 .have p:¬(60:Int)=123:=by decide
  erw[V.int.injEq,i,p,aaH];exact#[G,G,n true<|head_cons i]
 rw[xy h i]at o;erw[xy h i]at q;have#[g,j,l,m]:=cg b '^' (by decide) (by decide);refine#[G,?_];erw[V.int.injEq,h,aaH,P1,aaF];refine#[G,?_];erw[V.int.injEq,i,aaH,P1,aaF];refine#[a,g,j,G,l,m,a,t,s,M,G,∅,b,e,λc e w v x B g⟨y,p⟩=>?_,λb=>?_]
 .induction s with
  |nil=>cases w|cons j r=>
   cases w;have j:bf (c::e)=(c:Nat):=G;rw[j]at h i⊢;have z:∀(l:Xl)(n:Nat)(h i:Hp)(j:Qv),Go (W1 a) M H h i->Sc ad h i a t j->(c:Int)=aw (.leaf l)->gQ l->(match l with|.bit=>True|.int m=>n=m|.text m=>n=m)->dg (c::e)=U (l,j)->pS ad 6.2 k [V.int (c:Nat),V.int (n:Nat)] i Q E:=by intro l n h i j m u w A b f;refine#[l,h,n,by rw[w],∅,A,b,m.ae,λv A C w p=>q (.leaf l) j (by rw[f];rfl) v A C (m.aB w) #[u.over w id,p]]
   refine#[G,?_];by_cases A:c=98
   .have l:((c:Nat):Int)=98:=by lia
    erw[l,aaG,aaE];have:=z .bit 0 x B e g y l trivial trivial (by rw[A];rfl);rw[l]at this;exact this
   have l:¬((c:Nat):Int)=98:=by lia
   erw[V.int.injEq,l,aaH,P1,aaF];refine#[G,?_];by_cases q:c=105
   .have l:((c:Nat):Int)=105:=by lia
    erw[l,aaG,aaE];refine#[a,t,e,x,2,64,G,∅,y,g.ae,λn j b v h i m⟨u,p⟩=>?_,λb=>?_];.cases p;have f:=yx b;have:=z (.int n) n h i j (g.then m) u l f rfl (by rw[q];show(cN 2 64 e).map _=_;rw[b];rfl);rw[l]at this;exact this
    .refine(o ?_).same g;rw[q];show((cN 2 64 e).map _).map _=O;rw[b];rfl
   have l:¬((c:Nat):Int)=105:=by lia
   erw[V.int.injEq,l,aaH,P1,aaF];refine#[G,?_];by_cases w:c=116
   .have l:((c:Nat):Int)=116:=by lia
    erw[l,aaG,aaE];refine#[a,t,e,x,1,999,G,∅,y,g.ae,λn j b v h i m⟨u,p⟩=>?_,λb=>?_];.cases p;have f:=yx b;have:=z (.text n) n h i j (g.then m) u l f rfl (by rw[w];show(cN 1 999 e).map _=_;rw[b];rfl);rw[l]at this;exact this
    .refine(o ?_).same g;rw[w];show((cN 1 999 e).map _).map _=O;rw[b];rfl
   have l:¬((c:Nat):Int)=116:=by lia
   erw[V.int.injEq,l,aaH,P1,aaF];refine#[by decide,(o ?_).now g];have:dg (c::e)=O:=JA A q w;rw[this];rfl
 .induction s with|nil=>exact o rfl|cons d r=>cases b
end
section
set_option tactic.hygienic true
variable{K:PY}{ad:F->P2}{k:Nat}
def AZ:Rs K ad k 6.10:=by
 rintro vs H Q E⟨a,t,s,M,d,c,rfl,a4,a5,hk,Y,Z,q,b⟩;unfold d0 at q b;refine#[a,t,s,M,1,999,G,∅,Y,Z,λn s1 e v1 M1 H1 w⟨aa,ab⟩=>?_,λe=>b<|by rw[e];rfl];cases ab;erw[e,P4]at q b;refine#[a,t,s1,M1,G,∅,aa,w.ae,λy s2 ac v2 M2 H2 P⟨ak,al⟩=>?_,λe=>(b<|by rw[e];rfl).same w];erw[ac,P4]at q b;have R:=w.then P
 refine#[a,t,s2,M2,G,∅,ak,P.ae,λm s3 hm v3 M3 H3 z⟨am,ap⟩=>?_,λe=>(b<|by rw[e];rfl).same R];cases ap;erw[hm,P4]at q b;have S:=R.then z
 refine#[a,t,s3,M3,d+1,G,∅,∅,∅,am,z.ae,λf p A B i H4 j⟨C,o⟩=>?_,λe=>(b<|by rw[show 7-(d+1)=6-d by lia]at e;rw[e];rfl).same S];rw[show 7-(d+1)=6-d by lia]at A;erw[A,P4]at q b;have D:=S.then j
 have F:aI f:=(gO<|6-d).2 _ _ _ A;refine#[m,B,f,i,c,G,∅,o,F,j.ae,λI=>?_,λI=>(b<|by rw[I];rfl).now D];erw[I,P1,aaF]at q b;have T:ej i v2 y:=ej.mono (z.fr.trans j.fr) al;have#[dx,fl,e1,e2]:=cg C 'Q' (by decide) (by decide);refine#[a,dx,fl,G,e1,e2,a,t,p,i,61,G,∅,C,j.ae,λhc=>?_,λr hr H5 av J=>?_]
 .simp only;have u:eN c m f p=U (O,p):=by
   delta eN;split;.exact absurd rfl hc
   .rfl
  refine yj (h:={number:=n,name:=y,mode:=m,dflt:=O}) (kd:=f) ∅ j.ae T o rfl (λh=>by cases h) F λv V W g L=>q _ p (by rw[u];rfl) v V W (D.aB g) #[C.over g id,L]
 .simp only;subst hr;have N:=D.then J
  refine#[m,B,f,i,c,G,∅,o,J.ae,?_,λa0=>?_]
  .rintro⟨rfl,rfl,hg⟩;cases f with
   |group _ _=>simp[aQ]at hg|leaf l=>
    have u:eN false .one (.leaf l) (61::r)=(dQ l r).map λx=>(U x.1,x.2):=G;rw[u]at b;erw[u]at q;refine#[a,t,r,i,B,l,G,o,∅,av,J.ae,λx s6 hx v6 V W g⟨a1,a2⟩=>?_,λe=>(b<|by rw[e];rfl).same N];have a3:=N.then g
    refine yj (h:={number:=n,name:=y,mode:=.one,dflt:=U x}) (kd:=.leaf l) ∅ g.ae (T.mono g.fr) (ai.mono g.fr _ _ o) a2 (λ_=>#[l,G]) F λv M7 H7 X L=>q _ s6 (by rw[hx];rfl) v M7 H7 (a3.aB X) #[a1.over X id,L]
  .refine(b ?_).now N;have:eN c m f (61::r)=O:=by
    delta eN;split
    .split;.exact absurd #[G,G,G] a0
     .rfl
    .rename_i h;exact absurd rfl<|h r
   rw[this];rfl
end
section
variable{K:PY}{ad:F->P2}{k:Nat}
def A1:Rs K ad k 6.7:=by
 rintro f H Q E⟨a,t,s,M,d,c,rfl,J,b,⟨r,l⟩,e,g,n,q,p⟩;lk;by_cases e:6<d
 .have b:(6:Int)<(d:Nat):=by lia
  erw[b,aaG,aaE];exact#[by decide,p (aaD e) H di.refl]
 have b:¬(6:Int)<(d:Nat):=by lia
 erw[b,aaH,P1,aaF];have i:∀o,de (bj<|6-d) c r=o->(if 6<d then O else(aN (Q3 c) s).bind (de (bj<|6-d) c))=o:=λo h=>by rw[aaC e,l,bL.mpr G];exact h
 have#[L,W]:=nW (c:=c) (gO<|6-d).1 (gO<|6-d).2;have#[b,m,e,j]:=cg g '^' (by decide) (by decide);refine#[a,b,m,G,e,j,a,t,s,M,G,∅,g,n,λg x n y s z v⟨u,w⟩=>?_,λg=>by rw[l]at g;cases g];rw[l]at n;cases n;cases w;unfold de at i;refine#[a,t,r,s,d,c,G,J,∅,∅,u,v.ae,λx B A P Q C s⟨u,D⟩=>#[by decide,λl n=>?_],λg=>(p<|i _<|by unfold aT;rw[g];rfl).same v];have F:=v.then s
 have S:H l=O:=F.bQ l n;have H:a≠l:=λz=>by have#[_,_,_,w,_]:=u;rw[z,n]at w;cases w
 have T:∀o,bR (d0 (bj<|6-d) c) 59 B=o->aT (d0 (bj<|6-d) c) 59 r=o.map λy=>(x::y.1,y.2):=λo h=>by unfold aT;rw[A,P4,h]
 refine Dj (R:=λM v x=>aE ad M x v) (one:=d0 (bj<|6-d) c) (c:=59) (e:=11.0) (E:=E) (λM o v x A h=>h.mono A) L.le (F.alloc n) S ah (F.ae.none n) (u.upd H) D ?_ ?_ ?_ ?_;.intro o X F n I R N Y;have#[b,m,e,j]:=cg n 'Q' (by decide) (by decide);exact#[a,b,m,G,e,j,a,t,F,o,59,G,∅,n,I,N,Y]
 .intro o X F f N Y n _ I g Z;refine#[l,G,#[_,af.of I],a,t,F,o,d,c,G,J,∅,∅,n,Y.ae,λd B F P Q C s⟨u,D⟩=>?_,Z];have J:C l=U (.lst f):=s.st l _ I<|Q4<|n.ne I;have#[w,n]:=g d B P Q C F s u D;exact#[f,J,w,n]
 .intro d Q f B C F D s I w n u;have u:=T _ F;rw[u,Qm,P4]at i;have ab:∀z∈x::d,dD c z:=pM L.le W u;have W:=Qy w;have u:=n.le;have#[b,m,e,j]:=cg n 'A' (by decide) (by decide);refine#[a,b,m,G,e,j,G,?_];have b:∀(P:V->Prop),P (V.int (Rp c:Nat))->if decide (V.int (Q3 c:Nat)=V.int 123)=true then P (.int 125)else P (.int 62):=λP h=>by induction c with|true=>exact h|false=>exact h
  refine b (λz=>pS ad 2.3 k [V.ref a,z] C _ E) ?_;refine#[a,t,Q,B,Rp c,G,∅,n,D.ae,λe X n C b u j⟨B,_⟩=>?_,λg=>?_]
  .unfold dB at n;have#[E,C,e]:=omap.mp n;cases e;rw[C,P4]at i;have C:u l=U (.lst f):=j.st l _ s<|Q4 H;have n:b l=O:=j.da I s;have E:=(D.then j).freeze S C;have s:aj b<|upd b l<|.lst f:=bg n;have N:Sc ad (upd b l<|.lst f) u a t X:=B.c7 H n;have C:Paired (λu z=>aE ad (upd b l<|.lst f) z u) f (x::d):=Paired.imp' (λu z h=>h.mono<|j.fr.trans s) w;have F:(upd b l<|.lst f) l=U (.lst f):=ah;generalize upd b l (.lst f)=P at E N C F;lk;refine p0 (R:=λM v(y:Nat)=>v=.int (y:Nat)) (g:=λz:HK=>z.1.number) (λM o v y A h=>h) E.ae F W ∅ (λR H=>H) (λv=>rfl) ?_ ?_;.intro j u z I J w a b n B;have#[z',s,L]:=cn C I;rw[J]at s;cases s;have#[n,ac,m,S,Y,c3,c4,c5,Z,d2,d3]:=aE.ax (K:=K) (k:=k) (L.mono b.fr) b.ae;erw[wipe,X8];exact#[_,S,B _ w a (Go.refl b.ae) G]
   .intro B ap w a b ak al av am;have a:=IW am;subst a;have a:=b.freeze ak al;have aa:=N.bO a;have N:=Paired.imp' (λu z(h:aE ad P z u)=>h.mono a.fr) C;have P:=a.fr _ _ F;have b:(upd w B<|.lst<|bv<|(x::d).map λz=>z.1.number) B=U (.lst<|bv<|(x::d).map λz=>z.1.number):=ah;have C:=E.aB a;generalize upd w B (.lst<|bv<|(x::d).map λz=>z.1.number)=E at a aa N P b C;refine#[B,(x::d).map λz=>z.1.number,E,G,∅,b,by rw[Qe];lia,a.ae,λw=>?_,λw=>?_]
    .have B:=Bz w;have b:=Nv ab B;lk;refine p0 (R:=λM v(y:Qv)=>∃b,v=.ref b/\M b=U (.tup<|bv y)) (g:=λz:HK=>z.1.name) (λM o v y A⟨b,e,h⟩=>#[b,e,A _ _ h]) a.ae P W ∅ (λR H=>H) (λv=>rfl) ?_ ?_;.intro j u z I J e a o A y;have#[z',s,L]:=cn N I;rw[J]at s;cases s;have#[n,ac,m,S,Y,c3,c4,c5,Z,d2,d3]:=aE.ax (K:=K) (k:=k) (L.mono o.fr) o.ae;erw[wipe,X8];exact#[_,Y,y _ e a (Go.refl o.ae) Z]
     .intro m j e a o n s y A;have#[j,a,F]:=pI A;subst a;have a:=o.freeze n s;have n:aj e<|upd e m<|.lst<|j.map V.ref:=bg y;have o:=aa.bO a;have s:=Paired.imp' (λu z(h:aE ad E z u)=>h.mono a.fr) N;have u:=a.fr _ _ P;have y:Paired (λb t=>(upd e m<|.lst<|j.map V.ref) b=U (.tup<|bv t)) j<|(x::d).map λz=>z.1.name:=Paired.imp' (λb t h=>n _ _ h) F;refine#[m,j,_,(x::d).map λz=>z.1.name,G,∅,ah,y,by rw[Qe];lia,a.ae,λb=>?_,λb=>?_];.have j:jf (x::d)=true:=jg.mpr #[w,b];have e:(ofList (x::d)).list=x::d:=oO _;refine#[c,ofList (x::d),l,f,_,by induction c<;>rfl,∅,u,(m4 _ _).mpr<|by rw[e];exact s,by rw[e];exact B,by rw[e];exact b,by rw[e];lia,a.ae,λv e f d l=>q _ X (i _<|by rw[aaD j]) v e f ((C.aB a).aB d) #[o.bO d,l]]
      .refine(p<|i _ ?_).now (C.aB a);rw[aaC];intro h;exact b (jg.mp h).2
    .refine(p<|i _ ?_).now C;rw[aaC];intro h;rw[(jg.mp h).1]at w;cases w
  .refine(p<|i _ ?_).same D;unfold dB at g;cases a:aN (Rp c) Q with|none=>rfl|some r=>rw[a]at g;cases g
 .intro g;exact p<|i _ (by rw[T _ g];rfl)
def Ar:Rs K ad k 6.5:=by
 rintro vs H Q E⟨l,t,M,rfl,hk,X,Y,I,q,c⟩;have#[b,rfl,j]:=X;unfold d6 at q c;refine#[b,_,G,.inl<|af.of<|I _ _ j,?_];rw[bE];by_cases J:2000<t.length
 .have m:(2000:Int)<(t.length:Nat):=by lia
  lk;erw[m,aaG,aaE];exact#[by decide,c (by rw[aaD J]) H di.refl]
 have m:¬(2000:Int)<(t.length:Nat):=by lia
 lk;erw[m,aaH,P1,aaF];erw[J,aaF]at q c;refine ym ∅ I j Y λa H1 L f n=>?_;have#[o,p,s,y]:=cg n 'b' (by decide) (by decide);refine#[a,o,p,G,s,y,a,t,t,M,G,∅,n,f.ae,G,?_];by_cases i:bf t=123
 .erw[i,aaG,QR];have#[r,N]:=head_cons (c:=123) i;have g:aN 123 t=U r:=by rw[N];exact bL.mpr rfl
  erw[g,P4]at q c;refine#[a,t,t,M,1,false,G,∅,∅,#[r,N],∅,n,f.ae,λx z d v A Z B⟨P,R⟩=>?_,λe=>?_]
  .have d:de (bj 5) false r=U (x,z):=by have d:(aN 123 t).bind (de (bj 5) false)=U (x,z):=d;rw[g]at d;exact d
   erw[d,P4]at q c;have ac:=n8 (λt k r h=>oA 5 t k r h) d;have aa:=(n6 (gO 5).1 (gO 5).2 d).2;have#[S,_,_,ab]:=ij.mp d;have T:Go W0 M H A Z:=f.trans B λb h=>.inr (by rw[show b=a from h];exact L);have#[o,p,s,y]:=cg P 'W' (by decide) (by decide);refine#[a,o,p,G,s,y,a,t,z,A,G,∅,P,B.ae,λC=>?_,λC=>?_]
   .refine#[v,x,A,G,by lia (config:={}),R,aa,B.ae,λw M3 H3 D hw=>?_];subst hw;have F:=T.aB D;show(if decide ((40:Int)<(Q0 x:Nat))=true then _ else _);by_cases W:40<Q0 x;.rw[aaD<|decide_eq_true ∅];exact#[by decide,(c<|by rw[aaD<|.inr W]).now F]
    .rw[aaC<|by simp;lia (config:={})];subst ab;refine J6 (t:=t) (fs:=ofList S) ∅ D.ae #[b,G,F.fr _ _ j] (ai.mono D.fr _ _ R) λu M4 H4 g4 hu=>?_;refine q (ofList S) ?_ u M4 H4 (F.aB g4) hu;rw[aaC (λh=>by
      rcases h with h|h
      .exact h C
      .exact W h)]
     rfl
   .exact(c<|by rw[aaD<|.inl C]).now T
  .have e:de (bj 5) false r=O:=by have e:(aN 123 t).bind (de (bj 5) false)=O:=e;rw[g]at e;exact e
   refine(c<|by rw[e];rfl).over f λb h=>.inr ?_;rw[show b=a from h];exact L
 .erw[V.int.injEq,i,aaH,QN];have g:aN 123 t=O:=by cases h:aN 123 t with|none=>rfl|some r=>exact absurd (by rw[bL.mp h];rfl) i
  exact#[by decide,(c<|by rw[g];rfl).now f]
def zD:Rs K ad k 7.11:=by
 rintro c H Q E⟨d,i,y,z,M,rfl,e,b,j,l,g,f,m,t,u,a,q⟩;have#[n,v,h,d,e,g,w,r,x,s,c]:=aE.ax (K:=K) (k:=k) b a;have#[e,g,n,o,p,A,B,b,C,D,d]:=aE.ax (K:=K) (k:=k) j a;rw[NS]at q;unfold tO at q;refine#[_,r,?_];cases g:Qr y.1 y.2 with
 |none=>rw[g]at c q;have e:h=.ao:=c;subst e;erw[aaG];exact q _ M H (Go.refl a) rfl|some o=>
  rw[g]at c q;erw[c.ne,aaH];refine#[_,b,?_];cases b:Qr z.1 z.2 with
  |none=>rw[b]at d q;have e:n=.ao:=d;subst e;erw[aaG];exact q _ M H (Go.refl a) rfl|some p=>
   rw[b]at d q;erw[d.ne,aaH];have#[d,A,n]:=qc y.2 false y.1 l o g;have#[d,A,B]:=qc z.2 false z.1 f p b;have d:=rP g;have d:=rP b;unfold gJ at t u;have d:z.1.name.length<=12:=by
    have:=f.1;unfold R8 at this;split at this;.cases this
    .erw[QH,decide_eq_true_eq]at this;exact this.2
   refine#[_,r,_,w,h,v,i,o,y.2,z,M,G,∅,c,∅,s,j,l.2.2.2.1,f,n,a,λr h A B t c C=>?_,λD t c=>?_]
   .erw[h]at q;have#[u,g,d]:=aH.mp h;have v:QK z.1.mode u=true/\r=u:=by
     split at d;.rename_i h;cases d;exact#[h,G]
     .cases d
    have#[u,d]:=v;subst d;have E:=(fu g).1;have F:∀w∈r,aU z.2 w:=λw d=>by have#[h,v,e]:=oR g w d;exact qd _ z.2 y.2 (Qg _) f.2.2.2.1 l.2.2.2.1 h w (n h v) e
    have e:jl 44 (r.map λv=>P6 z.2 v)<=4100000:=by
     by_cases e:o=[];.subst e;have:r=[]:=Qj.mp E;subst this;exact Q9 _
     .have:=r8 (c:=44) (f:=λv=>P6 z.2 v) (g:=λv=>P6 y.2 v) (n:=(QM z.2).length) (λv f w d=>Nn _ z.2 y.2 (Qg _) v w d) e g;have e:(jl 44 (o.map λv=>P6 y.2 v)+1)*((QM z.2).length+1)<=2001*2001:=Nat.mul_le_mul ∅ ∅;lia
    have e:(z.1.name++(58::Qd 44 (r.map λv=>P6 z.2 v))).length<=15000000:=by have:=mn (x:=z) (o:=r);unfold fj at this;lia
    have h:(z.1.name++(58::Qd 44 (p.map λv=>P6 z.2 v))).length<=15000000:=by have:=mn (x:=z) (o:=p);unfold fj at this;lia
    have f:=j.mono c.fr;refine#[i,A,z,r,B,G,∅,f,C,∅,m,e,c.ae,λg j n e l=>?_];have g:=f.mono e.fr;have#[r,v,n,y,A,B,C,o,E,H,f]:=aE.ax (K:=K) (k:=k) g e.ae;rw[b]at f;refine#[_,o,i,n,z,p,j,G,∅,g,f,∅,m,h,e.ae,λh i j f g=>?_];have#[x,rfl,h]:=l;have#[s,rfl,l]:=g;have g:=f.ae _ _<|f.fr _ _ h;have h:=f.ae _ _ l;rw[qY]at g h;refine#[_,_,af.of g,af.of h,q _ i j ((c.aB e).aB f) ?_];congr 1;rw[Rt,decide_eq_true_eq,FV,beq_iff_eq];exact NT (m:=z.1.mode) b u λw d=>N8<|F w d
   .erw[D]at q;exact#[11.6,G,G,.inl #[G,q _ M t (c.Iw a) G]]
def zC:Rs K ad k 7.10:=by
 rintro e H Q E⟨c,g,n,x,y,z,M,rfl,f,a,d,h,r,s,i,j,l,b,q⟩;induction y with
 |none=>
  have e:g=.ao:=d;subst e;lk;erw[aaG,aaE];induction x with
  |none=>have e:c=.ao:=a;subst e;lk;erw[aaG];exact q _ M H (Go.refl b) rfl|some x=>
   have f:c≠.ao:=by have#[_,_,_,_,_,rfl,_]:=(show aE ad M x c from a);simp
   lk;erw[f,aaH];exact q _ M H (Go.refl b) rfl
 |some y=>
  have d:aE ad M y g:=d;have f:g≠.ao:=by have#[_,_,_,_,_,rfl,_]:=d;simp
  have#[m,o,p]:=s y rfl;lk;erw[f,aaH,P1,aaF];induction x with
  |none=>have e:c=.ao:=a;subst e;lk;erw[aaG,aaE];exact#[g,n,y,z,M,G,∅,d,h,m,o,i,j,p,l,b,q]|some x=>
   have a:aE ad M x c:=a;have f:c≠.ao:=by have#[_,_,_,_,_,rfl,_]:=a;simp
   have#[c,e]:=r x rfl;lk;erw[f,aaH,P1,aaF];have#[n,f,s,t,u,v,g,w,A,r,B]:=aE.ax (K:=K) (k:=k) a b;have#[t,a,u,v,w,A,n,B,C,s,D]:=aE.ax (K:=K) (k:=k) d b;have#[v,d,w,A,B,C,t,D,E,u,F]:=aE.ax (K:=K) (k:=k) h b;exact#[_,g,_,n,_,t,f,a,d,x.2,y.2,z.2,M,G,∅,r,s,u,#[c.2.2.2.1,e],#[m.2.2.2.1,o],#[i.2.2.2.1,j],p.k,l.k,b,q]
def Ad:Rs K ad k 7.7:=by
 rintro W H Q E⟨y,z,A,d,a,e,M,rfl,X,r,s,t,B,C,D,F,I,b,q⟩;have#[L,_,_]:=ai.ax (K:=K) (k:=k) r b;have#[J,_,_]:=ai.ax (K:=K) (k:=k) s b;have#[w,_,_]:=ai.ax (K:=K) (k:=k) t b;refine fc (!aQ d&&(!aQ a&&!aQ e)) (ip (mB<|rY b r ∅ rfl) λ_=>ip (mB<|rY b s ∅ rfl) λ_=>mB<|rY b t ∅ rfl) (λu=>?_) λu=>?_
 .have h:aQ d=false/\aQ a=false/\aQ e=false:=by simpa using u
  refine q _ M H (Go.refl b) ?_;cases d with|group _ _=>simp[aQ]at h|leaf o=>cases a with|group _ _=>simp[aQ]at h|leaf m=>cases e with|group _ _=>simp[aQ]at h|leaf n=>rfl
 have f:aQ d=true\/aQ a=true\/aQ e=true:=by cases N:aQ d with|true=>exact .inl rfl|false=>cases P:aQ a with|true=>exact .inr<|.inl G|false=>cases R:aQ e with|true=>exact .inr<|.inr G|false=>rw[N,P,R]at u;cases u
 refine pd ?_;refine fc (!decide (aw d=aw a)||!decide (aw a=aw e)) (om (xk (i:=0) (j:=1) G G L J G) λ_=>xk (i:=1) (j:=2) G G J w G) (λx=>?_) λx=>?_
 .have h:aw d≠aw a\/aw a≠aw e:=by simpa using x
  exact q _ M H (Go.refl b) (by rw[Ol h f])
 have h:aw d=aw a/\aw a=aw e:=by simpa using x
 refine pd ?_;rcases bM e with⟨j,rfl⟩|⟨j,rfl⟩|⟨l,rfl⟩;.have#[p,rfl]:=fW.mp (h.2.trans (show aw (.group false j)=123 from G));have#[i,rfl]:=fW.mp<|h.1.trans (show aw (.group false p)=123 from G);refine fc false (ji (i:=2) G w G<|by show false=decide ((123:Int)=60);decide) (λc=>by cases c) λ_=>?_;refine#[y,z,A,i,p,j,M,G,∅,r,s,t,B,C,D,F,I,b,λv S T g V=>q v S T g ?_];rw[V,PV]
 .have#[p,rfl]:=jk.mp (h.2.trans (show aw (.group true j)=60 from G));have#[i,rfl]:=jk.mp<|h.1.trans (show aw (.group true p)=60 from G);refine fc true (ji (i:=2) G w G<|by show true=decide ((60:Int)=60);decide) (λ_=>?_) λc=>by cases c
  exact#[y,z,A,i,p,j,M,G,∅,r,s,t,B,C,D,F,I,b,q]
 .exfalso;rcases f with f|f|f
  .rcases bM d with⟨i,rfl⟩|⟨i,rfl⟩|⟨o,rfl⟩;.have:=h.1.trans h.2;induction l<;>simp[aw]at this
   .have:=h.1.trans h.2;induction l<;>simp[aw]at this
   .simp[aQ]at f
  .rcases bM a with⟨i,rfl⟩|⟨i,rfl⟩|⟨o,rfl⟩;.have:=h.2;induction l<;>simp[aw]at this
   .have:=h.2;induction l<;>simp[aw]at this
   .simp[aQ]at f
  .simp[aQ]at f
def AG:Rs K ad k 7.9:=by
 rintro vs H Q E⟨P,S,T,c,d,hs,M,rfl,V,W,X,Y,s,t,x,Z,sn,y,q⟩;have#[f,us,pn,pm,g1,g2,g3,hf,aa,bv,b4]:=ai.bI (K:=K) (k:=k) Y y;have l:=s.1;have m:=t.1;have A:=x.1;erw[aI]at l m A;have ab:=s.2;have ac:=t.2;have ak:=x.2;erw[aF]at ab ac ak V;rw[Oj,qU]at q;refine nj y hf aa (λo=>∃a,o=[U P,U S,U T,a]) (λz:HK=>if kg d c z then O else U ()) (λR hR=>#[_,g1,hR]) #[_,G] ?_ ?_
 .rintro j u z o h B hu p al⟨a,rfl⟩b am lk ap;have C:=al.mono b.fr;have#[n,kv,fl,D,a2,a3,a4,a5,b1,b2,b3]:=aE.ax (K:=K) (k:=k) C b.ae;have F:=ai.mono b.fr _ _ W;have I:=ai.mono b.fr _ _ X;have#[oa,av,a0,rfl,a6,a7]:=ai.eU F b.ae;have#[ba,a8,a9,rfl,bd,bi]:=ai.eU I b.ae;have bk:=dh A.2 p;have b5:=eR p;have bl:=oB sn<|List.mem_of_getElem? p;refine#[oa,av,a0,G,a6,a7,_,D,_,false,c,h,z.1.number,G,∅,F,dc l.2,b.ae,λv1 bm=>?_];refine#[ba,a8,a9,G,bd,bi,_,D,_,false,d,h,z.1.number,G,∅,I,dc m.2,b.ae,λv2 bn=>?_];refine#[v1,v2,u,aG z.1.number c.list,aG z.1.number d.list,z,h,G,∅,bm,bn,C,λw r=>?_,λw r=>?_,bk,∅,bl,b.ae,λv J L N hv=>?_];.have#[g,_]:=ig r;have:=fk g;exact#[gn l.2 w g,∅]
  .have#[g,_]:=ig r;have:=fk g;exact#[gn m.2 w g,∅,oB Z g]
  .have bo:v=.bl (kg d c z):=by rw[hv];unfold kg;cases aG z.1.number c.list<;>cases aG z.1.number d.list<;>rfl
   subst bo;by_cases i:kg d c z=true;.rw[i];exact ap (aaD i) _ J L #[_,G]<|b.aB N
   .have e:(if kg d c z=true then O else U ())=U ():=aaC i;rw[am<|by rw[e];rfl,e]at q;rw[VN.mpr i];exact q _ J L (b.aB N) rfl
 .rintro bs o h B⟨a,rfl⟩b;rw[bs]at q;exact q _ h B b rfl
def zi:Rs K ad k 7.8:=by
 rintro vs H Q E⟨ov,bw,nv,fs,o,p,M,rfl,hk,ho,hm,hn,P,S,T,sm,sn,V,q⟩;have#[f,us,pn,pm,g1,g2,g3,hf,ab,b7,b8]:=ai.bI (K:=K) (k:=k) ho V;have B:=P.1;have C:=S.1;have w:=T.1;erw[aI]at B C w;have ac:=P.2;have ak:=S.2;have al:=T.2;erw[aF]at ac ak al hk;rw[Oi (dc w.2)<|dc B.2,qU]at q;refine nj V hf ab (λD=>∃a b c,D=[U ov,U bw,U nv,a,b,c]) (λx:HK=>if gh o p x then O else U ()) (λR hR=>#[_,g1,hR]) #[_,_,_,G] ?_ ?_
 .rintro j u x D h A hu W am⟨a,b,c,rfl⟩d ap lk av;have a0:=am.mono d.fr;have#[n,kv,fl,X,a2,a3,a4,a5,b1,b2,b3]:=aE.ax (K:=K) (k:=k) a0 d.ae;have Y:=ai.mono d.fr _ _ hm;have Z:=ai.mono d.fr _ _ hn;have#[ba,a6,a7,rfl,a8,a9]:=ai.eU Y d.ae;have#[na,bd,bi,rfl,bk,bl]:=ai.eU Z d.ae;have bm:=dh B.2 W;have b9:=eR W;have F:gh o p x=false->∀i r,Go W0 M H r i->Q (.bl false) i:=λe i r g=>by have e':(if gh o p x=true then O else U ())=U ():=aaC (by rw[e];decide);rw[ap<|by rw[e'];rfl,e']at q;exact q _ r i g rfl
  lk;refine#[ba,a6,a7,G,a8,a9,_,X,_,true,o,h,x.1.number,G,∅,Y,dc C.2,d.ae,λI l=>?_];refine#[na,bd,bi,G,bk,bl,_,X,_,true,p,h,x.1.number,G,∅,Z,dc w.2,d.ae,λJ m=>?_];cases s:aG x.1.number o.list with
  |none=>rw[s]at l;have e:I=.ao:=l;subst e;erw[aaG,aaE];exact F (by unfold gh;rw[s]) A h d|some y=>
   rw[s]at l;have l:aE ad h y I:=l;have bn:I≠.ao:=by have#[_,_,_,_,_,rfl,_]:=l;simp
   lk;erw[bn,aaH,P1,aaF];cases t:aG x.1.number p.list with
   |none=>rw[t]at m;have e:J=.ao:=m;subst e;lk;erw[aaG,aaE];exact F (by unfold gh;rw[s,t]) A h d|some z=>
    rw[t]at m;have m:aE ad h z J:=m;have bo:J≠.ao:=by have#[_,_,_,_,_,rfl,_]:=m;simp
    lk;erw[bo,aaH,P1,aaF];have#[L,_]:=ig s;have#[N,_]:=ig t;have ca:=fk L;have cc:=fk N;have#[n',bs,cd,ce,cf,ch,bv,ci,ck,b4,cl]:=aE.ax (K:=K) (k:=k) l d.ae;have#[n2,b5,cm,c1,c2,c3,c4,c5,d1,d2,d3]:=aE.ax (K:=K) (k:=k) m d.ae;refine#[_,a4,_,bv,_,c4,kv,bs,b5,x.2,y.2,z.2,h,G,∅,b2,b4,d2,#[bm.2.2.2.1,∅],#[(gn C.2 y L).2.2.2.1,∅],#[(gn w.2 z N).2.2.2.1,∅],(oB sm L).k,(oB sn N).k,d.ae,λv r i g4 hv=>?_];subst hv;have aa:gh o p x=QZ z.2 y.2 x.2:=by unfold gh;rw[s,t]
    cases hb:QZ z.2 y.2 x.2 with|false=>lk;erw[QN,aaE];exact F (aa.trans hb) i r<|d.aB g4|true=>lk;erw[QR,P1,aaF];exact av (aaD<|aa.trans hb) _ r i #[_,_,_,G]<|d.aB g4
 .rintro b6 D h A⟨a,b,c,rfl⟩d;rw[b6]at q;exact q _ h A d rfl
inductive Dv(ad:F->P2)(b:P2)(y:TF)(l:List TF)(x:Sk)(M H:Hp)(j:Nat)(σ:St)(H':Hp):Prop
 |mk(M' v' x' z)(_:(∃w,σ=[U v',U (.ref b),w]))(_:Go W0 M H M' H')(_:(y::l)[j]?=U z)(_:ar ad M' (.group false z.2) v' x')(_:aU (.group false z.2) x')(_:QX ((y::l).map (·.2)) x=QX (((y::l).map (·.2)).drop j) x')
def Ax:Rs K ad k 7.5:=by
 rintro e H Q E⟨v,f,x,y,l,M,rfl,g,⟨b,r,rfl,s,h,i,t⟩,c,d,a,q,A⟩;have e:=Qy h;have f:(y::l).length=l.length+1:=G;have f:=a _ _ s;refine pZ (lo:=1) (hi:=((y::l).length:Nat)) (H1:=H) (λR g=>?_) ∅ ?_;.refine#[b,_,G,.inl<|af.of f,?_];rw[e];exact g
 .refine#[Dv ad b y l x M H,#[M,v,x,y,#[_,G],Go.refl a,G,c,d,G],?_,?_]
  .rintro u a⟨i,m,e,z,⟨w,rfl⟩,g,c,n,o,d⟩;have f:((((y::l).length:Nat):Int)-1).toNat=l.length:=by lia
   rw[f]at c d;rw[Nk<|by rw[Qe];lia]at d;refine q e d m i a g ?_;have:z=(y::l).getLast (by simp):=by rw[YC];have#[j,p]:=List.getElem?_eq_some_iff.mp c;exact p.symm
   rw[<-this];exact n
  .rintro j u a f⟨i,m,e,z,⟨w,rfl⟩,g,c,n,o,d⟩;have q:j+1<(y::l).length:=by lia
   obtain⟨a,f⟩:∃a,(y::l)[j+1]?=U a:=#[_,List.getElem?_eq_getElem q];have#[u,v,w]:=dU h c;have#[q,B,C]:=dU h f;lk;have p:(1:Int)+(j:Nat)-1=((j:Nat):Int):=by lia
   have h:(1:Int)+(j:Nat)=((j+1:Nat):Int):=by lia
   rw[p,h];have h:=g.ae _ _<|g.fr _ _ s;have p:=(t z<|List.mem_of_getElem? c).1;have s:=(t a<|List.mem_of_getElem? f).1;have t:=Nj (L:=(y::l).map (·.2)) (j:=j) (a:=z.2) (b:=a.2) (x:=e) (by rw[List.getElem?_map,c];rfl) (by rw[List.getElem?_map,f];rfl);refine#[b,_,r,u,G,G,.inl<|af.of h,aV v,b,_,r,q,G,G,.inl<|af.of h,aV B,m,u,q,e,z.1,z.2,a.1,a.2,i,G,∅,n,w.mono g.fr,C.mono g.fr,p,s,o,g.ae,λb c h i q m n=>?_,λq=>?_];.refine#[i,h,b,a,#[_,G],g.aB m,f,n,qd _ (.group false a.2) (.group false z.2) (Qg _) s.1 p.1 e b o c,?_];show QX ((y::l).map (·.2)) x=QX (((y::l).map (·.2)).drop<|j+1) b;rw[d,t,c];rfl
   .refine(A ?_).dE g;rw[d,t,q];rfl
inductive Du(uz:V)(b:P2)(l:List TF)(M H:Hp)(j:Nat)(σ:St)(H':Hp):Prop
 |mk(M')(_:(∃w,σ=[U (.ref b),U uz,w]))(_:Go W0 M H M' H')(_:∀i,i<j->lM l i=true)
def zZ:Rs K ad k 7.6:=by
 rintro vs H Q E⟨wv,l,M,rfl,hk,⟨b,c,rfl,C,f,av,n⟩,Y,D,q⟩;have a0:=Qy f;have a1:1<=l.length:=Ui.mpr Y;have o:=D _ _ C;obtain⟨z,p⟩:∃z,l[l.length-1]?=U z:=#[_,List.getElem?_eq_getElem ∅];have#[F,Z,aa]:=dU f p;have s:∀{d e:Hp}{u:V}{x:TF},Go W0 M H d e->c6 ad M u x.1 x.2->∃r,aY (Gq K ad k) e u 'M' r/\ai ad d (.group false x.2) r:=λ{d e u x}g h=>by have#[a,dx,q1,r1,rfl,h1,h2,h3]:=h.mono g.fr;exact#[r1,aS (c:=10.5) (g.ae _ _ h1) G (by decide) G,h3]
 refine#[b,c,G,.inl<|af.of o,?_];have e0:(c.length:Int)-1=((l.length-1:Nat):Int):=by lia
 lk;rw[e0];refine#[b,_,c,F,G,G,.inl<|af.of o,aV Z,?_];have t:=n z<|List.mem_of_getElem? p;refine OG (hi:=(c.length:Int)-2) (H1:=H) (λR hR=>#[b,c,G,.inl<|af.of o,hR]) ∅ ?_;refine#[Du F b l M H,#[M,#[_,G],Go.refl D,λi h=>by lia],?_,?_]
 .rintro ab e⟨d,⟨w,rfl⟩,g,m⟩;have I:((c.length:Int)-2).toNat=l.length-2:=by lia
  rw[I]at m;refine q _ d e g ?_;have:jB l=true:=by rw[uB,RX];intro i J;exact m i<|Sr.mp J
  rw[this]
 .rintro j ab e I⟨d,⟨w,rfl⟩,g,m⟩;have a2:j+2<l.length:=by lia
  obtain⟨x,A⟩:∃x,l[j]?=U x:=#[_,List.getElem?_eq_getElem ∅];obtain⟨y,B⟩:∃y,l[j+1]?=U y:=#[_,List.getElem?_eq_getElem ∅];have#[ux,ac,ak]:=dU f A;have#[uy,al,am]:=dU f B;have#[rx,fx,kx]:=s g ak;have#[ry,fy,ky]:=s g am;have#[rz,fz,kz]:=s g aa;have L:=g.ae _ _<|g.fr _ _ C;have wx:=n x<|List.mem_of_getElem? A;have N:=n y<|List.mem_of_getElem? B;have a3:=t.1.2;have e1:(0:Int)+(j:Nat)=((j:Nat):Int):=by lia
  have e2:((j:Nat):Int)+1=((j+1:Nat):Int):=by lia
  rw[e1];refine#[b,_,c,ux,G,G,.inl<|af.of L,aV ac,_,fx,b,_,c,uy,G,G,.inl<|af.of L,(by rw[e2];exact aV al),_,fy,_,fz,rx,ry,rz,_,_,_,d,G,∅,kx,ky,kz,wx.1,N.1,t.1,N.2,t.2,g.ae,λv P H2 S hv=>?_];subst hv;have T:lM l j=QZ (.group false z.2) (.group false y.2) (.group false x.2):=by unfold lM;rw[A,B,p];rfl
  cases W:QZ (.group false z.2) (.group false y.2) (.group false x.2)with
  |false=>
   erw[QN,aaE];refine q _ P H2 (g.aB S) ?_;have:jB l=false:=by cases X:jB l with|false=>rfl|true=>rw[uB,RX]at X;have:=X j<|Sr.mpr ∅;rw[T.trans W]at this;cases this
   rw[this]
  |true=>
   erw[QR,P1,aaF];refine#[P,#[_,G],g.aB S,λi J=>?_];by_cases ap:i=j;.subst ap;exact T.trans W
   .exact m i ∅
def zN:Rs K ad k 0.7:=by
 rintro m H Q E⟨a,f,rfl,n,h,q⟩;refine#[by decide,λp g=>#[a,_,f,_,G,by rw[aq<|bT h g];exact h,#[10.6,G,G,by decide],by decide,by decide,λr c=>?_]];have i:r≠a:=λe=>by rw[e,ah]at c;cases c
 rw[aq i]at c;have j:r≠p:=λe=>by rw[e,ah]at c;cases c
 rw[aq j]at c;refine#[a,_,f,_,G,by rw[aq<|Q4 i,ah],#[10.6,G,G,by decide],by simp[bb],?_];have:=q p r g c j;refine Eq.mp ?_ this;refine congrArg (Q .ao) ?_;funext b;unfold upd;by_cases d:b=a;.subst d;rw[aaD G,aaD G];rfl
 .by_cases l:b=r;.subst l;simp[d]
  .simp[d,l]
def Af:Rs K ad k 2.6:=by rintro f H Q E⟨c,g,a,h,b,rfl,i,d,e,q⟩;exact#[_,aS (c:=10.6) d G (by decide) G,a,b,G,.inl<|af.of e,q]
def Ae:Rs K ad k 2.7:=by
 rintro h H Q E⟨c,b,d,g,f,u,rfl,i,a,e,q⟩;refine#[_,aS (c:=10.6) a G (by decide) G,c,b,_,G,a,by rfl,c,b,d,g,_,G,∅,a,e,d,_,_,u,G,G,.inl<|af.of e,?_,q];have e:(((f++[u]).length:Nat):Int)-1=((f.length:Nat):Int):=by rw[P5,QB];lia
 rw[e];exact aV (by simp)
def AL:Rs K ad k 2.8:=by
 rintro g H Q E⟨c,h,d,j,b,i,rfl,l,a,e,q,f⟩;have g:aY (Gq K ad k) H (.ref c) '0'<|.ref d:=aS (c:=10.6) a rfl (by decide) rfl;simp only;by_cases a:i<0;.lk;erw[a,aaG,aaE];exact#[by decide,f<|by unfold Vacolb.at?;rw[aaD a]]
 .lk;erw[a,aaH,P1,aaF];refine#[_,g,d,b,G,.inl<|af.of e,?_];by_cases c:(b.length:Int)<=i;.lk;erw[c,aaG,aaE];refine#[by decide,f ?_];unfold Vacolb.at?;rw[aaC a];exact List.getElem?_eq_none_iff.mpr ∅
  .lk;erw[c,aaH,P1,aaF];obtain⟨u,c⟩:∃u,Vacolb.at? b i=U u:=by unfold Vacolb.at?;rw[aaC a];exact#[_,List.getElem?_eq_getElem ∅]
   exact#[_,g,d,_,b,u,G,G,.inl<|af.of e,(et c).2.2.2,q u c]
def AI:Rs K ad k 2.10:=by
 rintro g H Q E⟨c,h,j,d,b,i,rfl,l,a,e,q,f⟩;have g:aY (Gq K ad k) H (.ref c) '?'<|.ref d:=aS (c:=10.6) a rfl (by decide) rfl;simp only;by_cases a:i<0;.lk;erw[a,aaG,aaE];exact#[by decide,f<|by unfold Vacolb.at?;rw[aaD a]]
 .lk;erw[a,aaH,P1,aaF];refine#[_,g,d,b,G,.inl<|af.of e,?_];by_cases c:(b.length:Int)<=i;.lk;erw[c,aaG,aaE];refine#[by decide,f ?_];unfold Vacolb.at?;rw[aaC a];exact List.getElem?_eq_none_iff.mpr ∅
  .lk;erw[c,aaH,P1,aaF];obtain⟨u,c⟩:∃u,Vacolb.at? b i=U u:=by unfold Vacolb.at?;rw[aaC a];exact#[_,List.getElem?_eq_getElem ∅]
   exact#[_,g,d,_,b,u,G,G,.inl<|af.of e,(et c).2.2.2,q u c]
def Bl:Rs K ad k 2.9:=by
 rintro h H Q E⟨c,b,d,m,e,i,j,rfl,l,a,f,q,g⟩;have o:aY (Gq K ad k) H (.ref c) '0'<|.ref d:=aS (c:=10.6) a rfl (by decide) rfl;refine#[c,b,_,G,a,by rfl,c,b,d,m,e,i,G,∅,a,f,λu n=>?_,λl=>g λh=>by rw[l]at h;cases h];refine#[c,b,_,G,a,by rfl,c,b,d,m,e,j,G,∅,a,f,λw b=>?_,λl=>g λ_ h=>by rw[l]at h;cases h];by_cases a:j<i;.lk;erw[a,aaG,aaE];exact#[by decide,g λ_ _=>a]
 .lk;erw[a,aaH,P1,aaF];refine#[_,o,_,G,_,G,d,e,G,af.of f,λp a=>?_];have#[c,d,_]:=et n;have#[d,e,_]:=et b;rw[vS c ∅ ∅];have:=q (by rw[n];rfl) (by rw[b];rfl) ∅ p a;rw[List.drop_take]at this;rwa[show(j+1).toNat=j.toNat+1 from by lia]
def zP:Rs K ad k 0.8:=by rintro c H Q E⟨a,b,v,t,y,rfl,d,h,q⟩;refine#[a,_,b,_,G,h,#[10.7,G,G,by decide],by decide,a,_,b,_,G,ah,#[10.7,G,G,by decide],by exact Qx (pl (n:=1)<|by decide)<|by decide,a,_,b,_,G,ah,#[10.7,G,G,by decide],by exact Qx (pl<|pl (n:=1)<|by decide)<|by decide,a,_,b,_,G,ah,#[10.7,G,G,by decide],by exact Qx (pl<|pl<|pl (n:=1)<|by decide)<|by decide,?_];rw[cR,cR,cR];exact q
def zM:Rs K ad k 0.9:=by rintro c H Q E⟨a,b,v,t,y,rfl,d,h,q⟩;refine#[a,_,b,_,G,h,#[10.8,G,G,by decide],by decide,a,_,b,_,G,ah,#[10.8,G,G,by decide],by exact Qx (pl (n:=1)<|by decide)<|by decide,a,_,b,_,G,ah,#[10.8,G,G,by decide],by exact Qx (pl<|pl (n:=1)<|by decide)<|by decide,?_];rw[cR,cR];exact q
def zw:Rs K ad k 9.1:=by
 rintro b H Q E⟨l,M,t,rfl,d,a,e,c,q⟩;refine#[l,_,G,.inl<|af.of a,by decide,λp b=>?_];have d:l≠p:=bT a b;refine#[p,l,_,bv t,G,G,ah,by rw[aq d];exact a,?_,λr a=>?_];.rw[bE];have:=c9;erw[P0,Qs];lia
 .refine q _ M _ (((Go.refl c).alloc b).alloc a) #[r,G,((Go.refl (W:=W0) c).alloc b).bQ r a,?_];rw[ah];refine congrArg U<|congrArg HO.lst ?_;rw[bE];erw[RM,So,Ql,Se,QT,Rk];rfl
def Bk:Rs K ad k 8.2:=by rintro g H Q E⟨A,h,M,a,c,i,j,t,rfl,l,b,m,e,n,d,f,o,ok,p⟩;have#[rfl,rfl,rfl]:=G0 e;have#[e,g,h]:=b.hl;have#[a,z,rfl]:=eG<|f (by decide);refine#[_,b.fl.1,A.ls,e,G,.inl<|af.of g,by decide,λp f=>?_];refine ok.same b ((Go.refl d).alloc f) (eX<|by simp) ?_;rw[Qy h];have e:(aL (a++[z]) c).versions.length=(a++[z]).length:=Qe ..;show gz _ _ _ [((aL (a++[z]) c).versions.length:Int)];rw[e];exact iz (Go.refl (W:=W0) d) f
def AK:Rs K ad k 8.9:=by rintro g H Q E⟨A,h,M,b,c,i,j,t,rfl,l,a,m,e,n,d,f,o,ok,p⟩;have#[rfl,rfl,rfl]:=GV e;have#[b,z,rfl]:=eG<|f (by decide);refine#[_,a.fl.2,A.lr,_,G,.inl<|af.of a.hr,by decide,λp f=>?_];refine ok.same a ((Go.refl d).alloc f) (eX<|by simp) ?_;rw[Qe,Qy a.hk];have e:(aL (b++[z]) c).rows.length=c.length:=Qe ..;show gz _ _ _ [((aL (b++[z]) c).rows.length:Int)];rw[e];exact iz (Go.refl (W:=W0) d) f
def AM:Rs K ad k 8.3:=by
 rintro V H Q E⟨A,W,M,d,n,X,Y,t,rfl,Z,b,o,p,aa,c,q,ab,ok,r⟩;have#[i,rfl,rfl,rfl]:=G1 p;have#[s,e,hp]:=b.hl;have#[f,h]:=b.hc;have#[_,#[w,y,B],_]:=o.ax (K:=K) (k:=k) c;have#[d,z,rfl]:=eG<|q (by decide);have#[C,D]:=b.get e (i:=i);have j:QU (aL (d++[z]) n) (.show i)=_:=eX (by simp);refine#[A.c,f,_,G,h,by rfl,_,y,w,_,_,_,G,G,.inl<|af.of B,by rfl,A.c,f,A.ls,A.lr,s,i,G,∅,h,e,λu F=>?_,λI=>r.now b (Go.refl c) (j.trans ?_) G];.have#[x,J,m,L]:=C u F;have#[a,ac,tv,rv,rfl,N,P,h3]:=L;have#[l,rfl,R]:=P;have#[w1,w2,S]:=d7<|b.ok.d5 x m;have w4:=(BK<|b.ok.d5 x m).2.2.1;refine#[_,aS (c:=10.5) (c _ _ N) G (by decide) G,l,M,x.1,G,∅,c _ _ R,∅,c,λv M' H' g T=>jI.same (ans:=.bytes x.1) ok b g (j.trans ?_) T];erw[aa3,eo,J,Qm,S]
 .erw[aa3,eo,D I,Rz]
def Ap:Rs K ad k 8.11:=by
 rintro b H Q E⟨A,i,M,f,e,l,m,t,rfl,n,d,c,a,o,g,h,p,ok,j⟩;have#[i,rfl,rfl,rfl]:=GX a;have#[a,b]:=d.hc;have#[_,#[l,m,n],_]:=c.ax (K:=K) (k:=k) g;have#[f,z,rfl]:=eG<|h (by decide);have r:QU (aL (f++[z]) e) (.origin i)=_:=eX (by simp);have s:Vacolb.at? (aL (f++[z]) e).rows i=(Vacolb.at? e i).map λk=>(k.v,k.x):=gE;refine#[A.c,a,_,G,b,by rfl,_,m,l,_,_,_,G,G,.inl<|af.of n,by rfl,A.c,a,A.ls,A.lr,_,i,G,∅,b,d.hr,λu b=>?_,λt=>j.now d (Go.refl g) (r.trans ?_) G]
 .rw[gE]at b;have#[a,c,rfl]:=SS.mp b;have#[m,b,h,_]:=et c;have#[c,b,l,p,o,v,w,n,j,q,u]:=cn d.hk h;have#[l,rfl,w]:=j;have#[h,#[y,x,j],o,q]:=d.ok.row c<|List.mem_of_getElem? b;have o:Vacolb.at? e i=U c:=by unfold Vacolb.at?;rw[aaC ∅];exact b
  have b:c.t.length<=4000:=by
   unfold eF at j;by_cases u:4000<c.t.length;.rw[aaD u]at j;cases j
   .lia
  have q:∀{b:Hp},b a=U (.ins (ad 10.7) p [('>',.int (c.v:Nat)),('.',.ref l),('@',.int (c.r:Nat)),('9',v)])->aY (Gq K ad k) b (.ref a) '>' (.int (c.v:Nat))/\aY (Gq K ad k) b (.ref a) '.' (.ref l):=λh=>#[aS (c:=10.7) h G (by decide) G,aS (c:=10.7) h G (by decide) G];refine#[_,(q n).1,by decide,λp h=>?_];have v:a≠p:=bT n h;have a:Go W0 M H M<|upd H p<|.lst [.int (c.v:Nat)]:=(Go.refl g).alloc h;refine#[_,(q<|by rw[aq v];exact n).2,l,M,c.t,G,∅,a.ae _ _ w,∅,a.ae,λv l b g h=>?_];have#[b,rfl,_,l]:=h;refine#[p,b,_,_,G,G,g.st _ _ ah id,l,?_,λq b=>jI.same (ans:=.origin c.v c.t) ok d ((a.aB g).alloc b) (r.trans ?_) #[q,G,(a.aB g).bQ q b,?_]];.have:=c9;erw[RM,So,Qe,P0,Qs];lia
  .have a:(aL (f++[z]) e).versions[c.v]?=U y.2:=by show(ax<|f++[z])[c.v]?=_;unfold ax;rw[List.getElem?_map,x];rfl
   erw[aa1,s,o,Qm,a,NA j]
  .rw[ah];rfl
 .rw[gE]at t;have a:Vacolb.at? A.ks i=O:=by simpa using t
  have o:Vacolb.at? e i=O:=by
   have u:=Qy d.hk;unfold Vacolb.at? at a⊢;by_cases m:i<0;.rw[aaD m]
   .rw[aaC m]at a⊢;have:=List.getElem?_eq_none_iff.mp a;exact List.getElem?_eq_none_iff.mpr ∅
  erw[aa1,s,o,Rz]
def zc:Rs K ad k 7.12:=by
 rintro f H Q E⟨A,g,M,i,j,l,m,t,rfl,w,a,c,d,e,b,n,o,ok,h⟩;have#[rfl,u,rfl,rfl]:=GS d;have#[d,i]:=a.hc;have#[_,_,f,g,j]:=c.ax (K:=K) (k:=k) b;refine#[_,g,f,u,M,G,∅,j,e u G,b,λy z v j f g x=>?_,λc=>h.fail a (Go.refl b) (Og c) G];have q:=a.dE g;have b:=g.st _ _ i id;refine#[by decide,λp i=>#[A.c,_,d,_,G,OZ b i,#[10.6,G,G,by decide],by simp,by decide,λr a=>?_]];have l:r≠A.c:=λe=>by rw[e,ah]at a;cases a
 rw[aq l]at a;have m:r≠p:=λe=>by rw[e,ah]at a;cases a
 have t:f r=O:=by rwa[aq m]at a
 have B:p≠A.c:=(bT b i).symm;refine#[A.c,_,d,_,G,by rw[aq<|Q4 l,ah],#[10.6,G,G,by decide],by simp[bb],by decide,λs a=>?_];have c:s≠A.c:=λe=>by rw[e,ah]at a;cases a
 rw[aq c]at a;have n:s≠r:=λe=>by rw[e,ah]at a;cases a
 rw[aq n,aq c]at a;have o:s≠p:=λe=>by rw[e,ah]at a;cases a
 have C:f s=O:=by rwa[aq o]at a
 have a:Go (WC A) M H j<|upd f p<|.lst [v]:=(g.any (W:=WC A)).alloc i;have b:Go (WC A) M H j<|upd (upd f p<|.lst [v]) A.c<|.ins (ad 10.6) d<|bb '0' (.ref p) [('0',.ref A.ls),('?',.ref A.lr)]:=a.set (.inl<|.inl G) q.mc;have a:=b.alloc (p:=r) (o:=.lst []) (by rw[aq l,aq m];exact t);have D:=a.set (p:=A.c) (o:=.ins (ad 10.6) d<|bb '?' (.ref r)<|bb '0' (.ref p) [('0',.ref A.ls),('?',.ref A.lr)]) (.inl<|.inl G) q.mc;have E:=D.alloc (p:=s) (o:=.lst [.int 0]) (by rw[aq c,aq n,aq c,aq o];exact C);have a:∀b,f b=O->j b=O/\H b=O:=λb h=>#[g.ae.none h,g.bQ b h];refine ok _ j _ #[A.c,p,r,[]] [(u,y)] [] (.number 0) E (λb f=>?_) rfl #[q.mc,(a p i).1,(a r t).1,Q4 m,#[d,?_],#[[v],?_,.cons x .nil],?_,.nil,Vw,#[λx b=>?_,by simp,λk w=>by simp at w,by simp]] ?_<|iz D (by rw[aq c,aq n,aq c,aq o];exact C)
 .rcases f with e|e|e|f;.exact .inl<|.inl e
  .exact .inr (by rw[e];exact(a p i).2)
  .exact .inr (by rw[e];exact(a r t).2)
  .simp at f
 .rw[aq<|Q4 c,ah];rfl
 .rw[aq<|Q4 o,aq B,aq<|Q4 m,aq B,ah]
 .rw[aq<|Q4 n,aq l,ah];rfl
 .obtain rfl:x=(u,y):=by simpa using b
  exact z
 .erw[QU,mY z];rfl
def Bg:Rs K ad k 9.0:=by
 rintro g H Q E⟨f,b,t,a,u,d,M,rfl,j,h,c,i,l,e,m,q⟩;lk;refine#[f,b,t,a,u,d,M,G,∅,h,c,i,l,e,λv j c g b=>?_];cases c:dS d a with
 |none=>rw[c]at b;have e:v=.ao:=b;subst e;lk;erw[aaG,aaE];refine#[by decide,λp e=>q _ j _ (g.alloc e) #[p,G,g.bQ p e,?_]];rw[ah,Cw c];rfl|some x=>
  rw[c]at b;have b:cz ad j v x.1 ([]++x.2.1) (kindAt x.2.1<|.group false a) x.2.2:=b;rw[Rk]at b;lk;erw[b.ne,aaH,P1,aaF];have#[o,n,_]:=Kv _ (.group false d) (.group false a) (Qg _) x (by exact c);have o:=(jt d a).2 x c;have d:=l.2;rw[OD c]at m q;have c:(SD a<|eE x.2.1 (.group false a) x.2.2).length<=10000000:=by erw[bY,S0,RM,So,P0,P5,Qe]at m;lia (config:={})
  have c:x.2.1.length<=12:=by lia
  refine#[f,v,t,a,x,j,G,∅,h.mono g.fr,b,o,c,n,i,g.ae,λd j m c l=>?_];refine#[d,f,t,a,_,j,G,∅,l,(h.mono g.fr).mono c.fr,i.2,∅,c.ae,λf d h i a=>?_];have#[j,rfl,l]:=a;have f:=(g.aB c).aB i;have#[a,n,o,r,rfl,g,m,s]:=(b.mono c.fr).mono i.fr;have#[c,rfl,n]:=m;have i:∀{m b:Hp},Go W0 d h m b->aY (Gq K ad k) b (.ref a) '(' (.int (x.1:Nat))/\aY (Gq K ad k) b (.ref a) 'U' (.ref c):=λa=>
   #[aS (c:=10.2) (a.ae _ _<|a.fr _ _ g) G (by decide) G,aS (c:=10.2) (a.ae _ _<|a.fr _ _ g) G (by decide) G]
  refine#[_,(i<|Go.refl f.ae).1,by decide,λp e=>?_];have b:Go W0 d h d<|upd h p<|.lst [.int (x.1:Nat)]:=(Go.refl f.ae).alloc e;refine#[_,(i b).2,c,d,x.2.1,G,∅,b.ae _ _ n,∅,b.ae,λe d g c a=>?_];have#[e,rfl,_,g]:=a;refine#[p,e,_,_,G,G,c.st _ _ ah id,g,?_,λr e=>?_];.have:=c9;erw[RM,So,Qe,P0,Qs];lia
  have a:=(b.aB c).alloc e (o:=.lst<|[.int (x.1:Nat)]++(RM x.2.1).map V.int);refine#[j,d,_,G,∅,a.ae _ _<|a.fr _ _ l,∅,a.ae,λd e g b c=>?_];have#[d,rfl,_,g]:=c;refine#[r,d,_,_,G,G,b.st _ _ ah id,g,?_,λc d=>q _ e _ ((f.aB<|a.aB b).alloc d) #[c,G,(f.aB<|a.aB b).bQ c d,?_]];.have:=c9;erw[RM,So,Qe,P0,Qs,P5];lia
  .rw[ah];simp[bY,S0]
def Bm:Rs K ad k 8.1:=by
 rintro g H Q E⟨A,j,M,b,c,n,o,t,rfl,p,a,h,e,l,d,i,f,ok,m⟩;have#[rfl,u,rfl,rfl]:=GZ e;have#[e,g]:=a.hc;have#[_,_,n,o,p]:=h.ax (K:=K) (k:=k) d;have#[b,z,rfl]:=eG<|i (by decide);have#[h,i,q,r,_]:=a.last;have j:QU (aL (b++[z]) c) (.why u)=_:=eX (by simp);refine#[A.c,e,_,G,g,by rfl,A.c,e,A.ls,A.lr,h,i,G,∅,g,q,_,o,n,u,M,G,∅,p,l u G,d,λh l v n e g o=>?_,λp=>m.fail a (Go.refl d) (j.trans ?_) G]
 .have e:QU (aL (b++[z]) c) (.why u)=(aL (b++[z]) c,UC z.2<|RS h z.2):=by rw[j];erw[aa5,mY l]
  have b:(bY<|UC z.2<|RS h z.2).length<=10000000:=by unfold Short at f;rw[e]at f;exact f
  exact#[i,v,z.1,z.2,u,h,n,G,∅,r.mono g.fr,o,(d7 a.ok.last).1,(d7 l).1,g.ae,b,λd f h b c=>ok.same a (g.aB b) e<|c.old g]
 .have#[e,a]:=Bw p;erw[aa5,a]
def zj:Rs K ad k 8.4:=by
 rintro Z H Q E⟨A,cv,M,b,h,kc,xs,t,rfl,hk,a,C,D,aa,c,F,l,ok,p⟩;have#[i,j,rfl,rfl,rfl]:=G2 D;have#[q,d,hp]:=a.hl;have#[f,g]:=a.hc;have#[_,#[r,s,v],_]:=C.ax (K:=K) (k:=k) c;have#[b,z,rfl]:=eG<|F (by decide);have#[I,m]:=a.get d (i:=i);have#[J,L]:=a.get d (i:=j);have n:QU (aL (b++[z]) h) (.compare i j)=_:=eX (by simp);refine#[A.c,f,_,G,g,by rfl,_,s,r,_,_,_,G,G,.inl<|af.of v,by rfl,A.c,f,A.ls,A.lr,q,i,G,∅,g,d,λu N=>?_,λo=>p.now a (Go.refl c) (n.trans ?_) G]
 .have#[x,B,P,R]:=I u N;refine#[A.c,f,_,G,g,by rfl,_,s,r,_,_,_,G,G,.inl<|af.of v,by rfl,A.c,f,A.ls,A.lr,q,j,G,∅,g,d,λw S=>?_,λo=>p.now a (Go.refl c) (n.trans ?_) G]
  .have#[y,T,V,W]:=J w S;have e:QU (aL (b++[z]) h) (.compare i j)=(aL (b++[z]) h,UC x.2<|RS y.2 x.2):=by rw[n];erw[aaX,Rv,eo,B,T,Qm]
   have X:(bY<|UC x.2<|RS y.2 x.2).length<=10000000:=by unfold Short at l;rw[e]at l;exact l
   exact#[u,w,x.1,x.2,y.1,y.2,M,G,∅,R,W,(d7<|a.ok.d5 x P).1,(d7<|a.ok.d5 y V).1,c,X,λv2 M2 H2 m Y=>ok.same a m e Y]
  .erw[aaX,Rv,eo,B,L o,Rz,Qm]
 .erw[aaX,Rv,eo,m o,Rz]
def Aw:Rs K ad k 8.5:=by
 rintro vs H Q E⟨A,cv,M,h,D,kc,xs,t,rfl,hk,c,Y,Z,aa,g,ab,F,ok,m⟩;have#[i,j,u,rfl,rfl,rfl]:=G3 Z;have#[J,n,hp]:=c.hl;have#[p,q]:=c.hc;have#[_,#[L,N,P],tv,ft,ac]:=Y.ax (K:=K) (k:=k) g;have#[h,z,rfl]:=eG<|ab (by decide);have#[g1,g2]:=c.get n (i:=i);have#[g3,g4]:=c.get n (i:=j);have r:QU (aL (h++[z]) D) (.read i j u)=_:=eX (by simp);refine#[A.c,p,_,G,q,by rfl,_,N,L,_,_,_,G,G,.inl<|af.of P,by rfl,A.c,p,A.ls,A.lr,J,i,G,∅,q,n,λv hv=>?_,λd=>m.now c (Go.refl g) (r.trans ?_) G]
 .have#[x,I,hm,R]:=g1 v hv;have s:=d7<|c.ok.d5 x hm;refine#[A.c,p,_,G,q,by rfl,_,N,L,_,_,_,G,G,.inl<|af.of P,by rfl,A.c,p,A.ls,A.lr,J,j,G,∅,q,n,λw hw=>?_,λd=>m.now c (Go.refl g) (r.trans ?_) G]
  .have#[y,S,ak,T]:=g3 w hw;have V:=d7<|c.ok.d5 y ak;refine#[_,ft,tv,v,u,x.1,x.2,M,G,∅,ac,aa u G,R,s.1,g,λa W v1 M1 H1 f al=>?_,λd=>m.fail c (Go.refl g) (r.trans ?_) G]
   .have e:∀o,UW y.2 x.2 a=o->QU (aL (h++[z]) D) (.read i j u)=(aL (h++[z]) D,UD y.2 o):=by rintro o rfl;rw[r];erw[aaV,Rv,V1,eo,I,S,Qm,pK s.1.1 W]
    refine#[v1,v,w,a,x.1,x.2,y.1,y.2,M1,G,∅,al,R.mono f.fr,T.mono f.fr,s.1,V.1,uv W,f.ae,λb X v2 M2 H2 B am=>?_,λd=>m.fail c f (e _ d) G];have a1:(SD y.2 b).length<=10000000:=by unfold Short at F;rw[e _ X]at F;erw[bY,UD,S0,RM,So,P0,Qe]at F;lia
    refine#[v2,w,y.1,y.2,b,M2,G,∅,am,(T.mono f.fr).mono B.fr,V.1.2,∅,B.ae,λv3 M3 H3 C ap=>?_];have#[l,rfl,av]:=ap;exact#[l,M3,_,G,∅,C.ae _ _ av,∅,C.ae,λv4 M4 H4 e4 a0=>ok.same c (((f.aB B).aB C).aB e4) (e _ X)<|a0.old<|(f.aB B).aB C]
   .have#[e,he]:=tJ s.1.1 d;erw[aaV,Rv,V1,eo,I,S,Qm,he]
  .erw[aaV,Rv,eo,I,g4 d,Rz,Qm]
 .erw[aaV,Rv,eo,g2 d,Rz]
def AS:Rs K ad k 8.7:=by
 rintro vs H Q E⟨A,cv,M,d,o,kc,xs,t,rfl,hk,c,S,T,ab,q,V,ac,ok,W⟩;have#[i,j,rfl,rfl,rfl]:=G5 T;have#[X,m,f]:=c.hl;have#[B,C]:=c.hc;have#[_,#[D,F,I],_]:=S.ax (K:=K) (k:=k) q;have#[d,z,rfl]:=eG<|V (by decide);have#[Y,Z]:=c.get m (i:=i);have#[g3,g4]:=c.get m (i:=j);have J:QU (aL (d++[z]) o) (.straight i j)=_:=eX (by simp);refine#[A.c,B,_,G,C,by rfl,_,F,D,_,_,_,G,G,.inl<|af.of I,by rfl,_,F,D,_,_,_,G,G,.inl<|af.of I,by rfl,A.c,B,A.ls,A.lr,X,i,j,G,∅,C,m,λh1 h2 r l hn=>?_,λh=>W.now c (Go.refl q) (J.trans ?_) G]
 .have#[u,hu]:=QV.mp h1;have#[w,s]:=QV.mp h2;have#[x,L,hm,hr]:=Y u hu;have#[y,N,ak,al]:=g3 w s;have#[a1,a2,a3,_]:=et L;have#[b1,b2,P,_]:=et N;have#[g,s]:=uC c q m (i:=i.toNat) (j:=j.toNat) hn;have e:QU (aL (d++[z]) o) (.straight i j)=(aL (d++[z]) o,.number (if jB (((d++[z]).take<|j.toNat+1).drop i.toNat)=true then 1 else 0)):=by rw[J,O9 (Xb r) (List.getElem?_eq_some_iff.mp P).1];erw[aa4,Rv,eo,L,N,Qm,aaC<|Xd.mpr r];rfl
  refine#[.ref l,_,_,G,∅,s,?_,g.ae,λv M1 H1 n hv=>?_];.refine List.ne_nil_of_length_pos ?_;rw[rq (List.getElem?_eq_some_iff.mp P).1];exact Nat.sub_pos_of_lt<|Nat.lt_succ_of_le<|Xb r
  subst hv;cases R:jB (((d++[z]).take<|j.toNat+1).drop i.toNat)with|true=>simp only;rw[R]at e;exact#[by decide,λp f=>ok.same c ((g.aB n).alloc f) e<|iz (g.aB n) f]|false=>simp only;rw[R]at e;exact#[by decide,λp f=>ok.same c ((g.aB n).alloc f) e<|iz (g.aB n) f]
 .erw[aa4];rw[Dc Z g4 h λa b aa=>aaD aa]
def Bh:Rs K ad k 8.6:=by
 rintro vs H Q E⟨A,cv,M,f,F,kc,xs,t,rfl,hk,c,S,ap,av,p,a0,T,ok,V⟩;have#[i,j,u,rfl,rfl,rfl]:=G4 ap;have#[s,I,hp]:=c.hl;have#[dx,aa]:=c.hc;have#[_,#[nl,fn,ab],W,ft,a4]:=S.ax (K:=K) (k:=k) p;have#[f,z,rfl]:=eG<|a0 (by decide);have#[g1,g2]:=c.get I (i:=i);have#[g3,g4]:=c.get I (i:=j);have X:QU (aL (f++[z]) F) (.through i j u)=_:=eX (by simp);refine#[A.c,dx,_,G,aa,by rfl,_,fn,nl,_,_,_,G,G,.inl<|af.of ab,by rfl,_,fn,nl,_,_,_,G,G,.inl<|af.of ab,by rfl,A.c,dx,A.ls,A.lr,s,i,j,G,∅,aa,I,λh1 h2 Y l B=>?_,λh=>V.now c (Go.refl p) (X.trans ?_) G]
 .have#[v,hv]:=QV.mp h1;have#[w,hw]:=QV.mp h2;have#[x,Z,hm,hr]:=g1 v hv;have#[y,hy,a5,a6]:=g3 w hw;have#[a1,a2,a3,_]:=et Z;have#[b1,b2,b3,_]:=et hy;have#[c1,c2,c3,_]:=et hv;have#[d1,d2,d3,_]:=et hw;have b4:=Qy hp;have#[g,ac]:=uC c p I (i:=i.toNat) (j:=j.toNat) B;have wx:=d7<|c.ok.d5 x hm;have wy:=d7<|c.ok.d5 y a5;have C:=Xb Y;have J:=Nat.add_sub_of_le C;have a7:=rq (i:=i.toNat) (List.getElem?_eq_some_iff.mp b3).1;have a8:=rq (i:=i.toNat) (List.getElem?_eq_some_iff.mp d3).1;have D:(((f++[z]).take<|j.toNat+1).drop i.toNat)[0]?=U x:=by rw[jN (i:=i.toNat) (k:=0) C];exact a3
  have a9:(((f++[z]).take<|j.toNat+1).drop i.toNat)[j.toNat-i.toNat]?=U y:=by rw[jN<|Uh J,J];exact b3
  obtain⟨m,L⟩:∃m,((f++[z]).take<|j.toNat+1).drop i.toNat=x::m:=by cases q:((f++[z]).take<|j.toNat+1).drop i.toNat with|nil=>rw[q]at D;cases D|cons a r=>rw[q]at D;simp at D;subst D;exact#[r,G]
  have ba:(x::m).getLast (by simp)=y:=by
   rw[YC];have e:(x::m)[j.toNat-i.toNat]?=U y:=by rw[<-L];exact a9
   have#[h5,h6]:=List.getElem?_eq_some_iff.mp e;rw[<-h6];congr 1;rw[<-L,a7];exact sub_one C
  have ak:∀{N H1:Hp},Go W0 (upd M l<|.lst<|(s.take<|j.toNat+1).drop i.toNat) (upd H l<|.lst<|(s.take<|j.toNat+1).drop i.toNat) N H1->H1 l=U (.lst<|(s.take<|j.toNat+1).drop i.toNat):=λg'=>g'.ae _ _<|g'.fr _ _ ah;have bd:((x::m).map λx=>x.2)=Z0 (aL (f++[z]) F).versions i.toNat j.toNat:=by rw[<-L];unfold Z0;show _=(List.take (j.toNat+1)<|(f++[z]).map λx=>x.2).drop i.toNat;rw[WQ,Yw]
  rw[L]at ac;have bi:aY (Gq K ad k) (upd H l<|.lst<|(s.take<|j.toNat+1).drop i.toNat) cv '.' W:=by
   have#[_,_,bk,al,b5]:=(S.mono g.fr).ax (K:=K) (k:=k) g.ae;have:bk=W:=by have#[a,b6,b7,t1,rfl,P,z2,z3]:=S;have#[a1,C1,b8,f1,d,q1,_,l1]:=ft;have#[a2,C2,b9,f2,n,q2,_,l2]:=al;cases d;cases n;rw[g.st _ _ (p _ _ P) id]at q2;rw[p _ _ P]at q1;cases q1;cases q2;rw[l1]at l2;exact(QO l2).symm
   rw[<-this];exact al
  refine#[_,bi,l,_,_,v,G,G,.inl<|af.of ah,aV (j:=0)<|by rw[jN (i:=i.toNat) (k:=0) C];exact c3,W,v,u,x.1,x.2,_,G,∅,bP.mono g.fr a4,av u G,hr.mono g.fr,wx.1,g.ae,λa ha v1 N H1 d bl=>?_,λB=>V.fail c g (X.trans ?_) G]
  .have e:∀o,QX ((x::m).map λx=>x.2) a=o->QU (aL (f++[z]) F) (.through i j u)=(aL (f++[z]) F,UD y.2 o):=by rintro o rfl;rw[X,bd];erw[aaZ,Rv,V1,eo,Z,hy,Qm,pK wx.1.1 ha,aaC<|Xd.mpr Y]
   have bm:nJ ad N (.ref l) (x::m):=by have#[b,bn,P,z2,z3,z4,z5]:=ac;exact#[b,bn,P,d.fr _ _ z2,Paired.imp' (λu x r=>r.mono d.fr) z3,z4,z5]
   refine#[v1,.ref l,a,x,m,N,G,∅,bm,bl,uv ha,d.ae,λb hb v2 M2 H2 n am=>?_,λB=>V.fail c (g.aB d) (e _ B) G];rw[ba]at am;have ca:(SD y.2 b).length<=10000000:=by unfold Short at T;rw[e _ hb]at T;erw[bY,UD,S0,RM,So,P0,Qe]at T;lia
   refine#[l,_,G,.inl<|af.of<|ak<|d.aB n,l,_,_,w,G,G,.inl<|af.of<|ak<|d.aB n,?_,?_];.rw[a8,Om C];refine aV ?_;rw[jN<|Uh J,J];exact d3
   refine#[v2,w,y.1,y.2,b,M2,G,∅,am,((a6.mono g.fr).mono d.fr).mono n.fr,wy.1.2,∅,n.ae,λv3 M3 H3 R bo=>?_];have#[l3,rfl,bs]:=bo;exact#[l3,M3,_,G,∅,R.ae _ _ bs,∅,R.ae,λv4 M4 H4 e4 bv=>ok.same c (((g.aB<|d.aB n).aB R).aB e4) (e _ hb)<|bv.old<|(g.aB<|d.aB n).aB R]
  .have#[e,he]:=tJ wx.1.1 B;erw[aaZ,Rv,V1,eo,Z,hy,Qm,he,aaC<|Xd.mpr Y]
 .erw[aaZ];rw[Dc g2 g4 h λa b bw=>aaD bw]
def AB:Rs K ad k 2.11:=by
 rintro b H Q E⟨A,M,c,e,a,d,j,rfl,f,i,p,u,h,q,I⟩;have#[b,f]:=i.hc;have#[e,j,l]:=i.hl;have#[r,g,o,J,m,y,v,w,n,L,s,M]:=i.kept u;rw[h]at g;cases g;have#[h,#[N,P,Q],#[r,g,D],R]:=i.ok.row d o;rw[s]at g;cases g;have g:=Qy l;have g:d.r<c.length:=(List.getElem?_eq_some_iff.mp s).1;have B:c≠[]:=λz=>by rw[z]at g;simp at g
 have l:∀{g:Hp},g a=H a->aY (Gq K ad k) g (.ref a) '9' v/\aY (Gq K ad k) g (.ref a) '@' (.int (d.r:Nat)):=λ{g}h=>#[aS (c:=10.7) (h.trans n) G (by decide) G,aS (c:=10.7) (h.trans n) G (by decide) G];refine#[A.c,b,_,G,f,by rfl,A.c,b,A.ls,A.lr,e,G,∅,f,j,_,(l G).1,A.c,b,_,G,f,by rfl,_,(l G).2,A.c,b,A.ls,A.lr,e,d.r,(e.length:Int)-1,G,∅,f,j,λo E b l f=>?_,λh=>?_];rotate_left
 .exfalso;have b:(Vacolb.at? e (d.r:Nat)).isSome=true:=by unfold Vacolb.at?;rw[aaC ∅];simp;lia
  have g:(Vacolb.at? e<|(e.length:Int)-1).isSome=true:=by unfold Vacolb.at?;rw[aaC ∅];simp;lia
  have:=h b g;lia
 have b:((e.length:Int)-1).toNat+1=e.length:=by lia
 have g:((d.r:Nat):Int).toNat=d.r:=by lia
 rw[b,g];have b:(e.take e.length).drop d.r=(e.take<|(c.length-1)+1).drop d.r:=by rw[show c.length-1+1=e.length from by lia]
 rw[b];have#[g,b]:=uC i p j (i:=d.r) (j:=c.length-1) f;have h:(c.take<|c.length-1+1).drop d.r=c.drop d.r:=by rw[show c.length-1+1=c.length from by lia,TK]
 rw[h]at b;obtain⟨h,p⟩:∃h,c.drop d.r=w::h:=by have#[j,t]:=List.getElem?_eq_some_iff.mp s;exact#[_,by rw[To j,t]]
 have C:((w::h).map λx=>x.2)=(ax c).drop d.r:=by rw[<-p];unfold ax;rw[WQ]
 have#[s,z,t]:=eG B;have F:(w::h).getLast (by simp)=z:=by
  have:(w::h).getLast?=U z:=by rw[<-p,List.getLast?_drop,aaC ∅,t];simp
  rw[List.getLast?_eq_some_getLast<|by simp]at this;exact QO this
 rw[p]at b;refine#[v,.ref l,d.y,w,h,_,G,∅,b,ar.mono g.fr _ _ _ M,D,g.ae,λb j l M T S H=>?_,λf=>?_];rotate_left;.rw[C]at f;exact(I f).dE g
 rw[C]at j;rw[F]at H;have gt:=g.aB S;have f:=i.dE gt;have g:=gt.st _ _ n id;have I:=gt.da J n;refine#[a,_,m,_,G,g,#[10.7,G,G,by decide],by show 4<1000;decide,a,_,m,_,G,ah,#[10.7,G,G,by decide],by exact Qx (pl (n:=5)<|by show 4<5;decide)<|by decide,?_];rw[cR];have n:a∈A.ks:=List.mem_of_getElem? u;have g:=(gt.any (W:=WC A)).set (p:=a) (o:=.ins (ad 10.7) m<|bb '@' (.int<|(e.length:Int)-1)<|bb '9' l [('>',.int (d.v:Nat)),('.',y),('@',.int (d.r:Nat)),('9',v)]) (.inl<|.inr<|.inr<|.inr n) I;refine q b j M _ g ?_;have#[v,A,J]:=i.sep n;have n:c.length-1=s.length:=by rw[t,P5,QB];lia
 have q:c[c.length-1]?=U z:=by rw[n,t];simp
 refine#[f.mc,f.ml,f.mr,f.ne,?_,?_,?_,?_,f.nd,#[f.ok.d5,f.ok.oX,λM a=>?_,by rw[T5];exact f.ok.oW]];.have#[S,o]:=f.hc;exact#[S,by rw[aq<|Q4 v];exact o]
 .have#[v,o,E]:=f.hl;exact#[v,by rw[aq<|Q4 A];exact o,E]
 .rw[aq<|Q4 J];exact f.hr
 .refine yJ f.hk f.nd u #[I,m,y,l,z,by rw[ah,show((e.length:Int)-1)=((c.length-1:Nat):Int)from by lia];rfl,L.mono gt.fr,q,H] λv y m B r=>?_;have#[e,l,m,o,u,y,A]:=r;exact#[e,l,m,o,u,by rw[aq B];exact y,A]
 .rcases List.mem_or_eq_of_mem_set a with a|rfl;.exact f.ok.row M a
  .refine#[by show d.v<=c.length-1;lia,#[N,P,Q],#[z,q,?_],λg=>?_];.have:=Bu h w d.y b (λx a=>(d7<|i.ok.d5 x<|U9<|by rw[p];exact a).1.1) D (by rw[C];exact j);rw[F]at this;exact this
   .rw[R g];show _=QX ((ax c++g).drop<|c.length-1) b;have a:ax c=ax s++[z.2]:=by rw[t,nY]
    have b:(ax s).length=s.length:=Qe ..;rw[a]at j⊢;rw[Nm ∅ j,b,n]
def zx:Rs K ad k 8.12:=by
 rintro h H Q E⟨A,i,M,g,d,j,n,t,rfl,m,c,a,e,o,b,f,p,ok,l⟩;have#[i,rfl,rfl,rfl]:=GY e;have#[h,j]:=c.hc;have#[_,#[e,n,o],_]:=a.ax (K:=K) (k:=k) b;have#[g,z,rfl]:=eG<|f (by decide);have t:QU (aL (g++[z]) d) (.drop i)=_:=eX (by simp);have w:Vacolb.at? (aL (g++[z]) d).rows i=(Vacolb.at? d i).map λk=>(k.v,k.x):=gE;have a:=Qy c.hk;refine#[_,n,e,_,_,_,G,G,.inl<|af.of o,by rfl,A.c,h,_,G,j,by rfl,A.c,h,A.ls,A.lr,_,i,G,∅,j,c.hr,λu e=>?_,λu=>l.now c (Go.refl b) (t.trans ?_) G]
 .rw[gE]at e;have#[a,f,rfl]:=SS.mp e;have#[l,n,e,_]:=et f;have#[f,n,o,_]:=c.kept e;have q:Vacolb.at? d i=U f:=by unfold Vacolb.at?;rw[aaC ∅];exact n
  refine#[_,c.fl.2,A.lr,G,#[_,af.of c.hr],i.toNat,_,.ref a,by rw[show((i.toNat:Nat):Int)=i from by lia],c.hr,by rw[List.getElem?_map,e];rfl,by decide,λp a=>?_];have#[e,y]:=c.tQ;have r:Go (WC A) M H M<|upd H A.lr<|.lst<|(A.ks.map V.ref).eraseIdx i.toNat:=(Go.refl b).set (.inl<|.inr<|.inr<|.inl G) c.mr;have v:p≠A.lr:=λe=>by rw[e,ah]at a;cases a
  have B:H p=O:=by rwa[aq v]at a
  have C:=r.alloc a (o:=.lst [.int 0]);have x:∀b,b∈A.ks.eraseIdx i.toNat->b∈A.ks:=λb f=>Yv f;have s:∀b o,H b=U o->b≠A.lr->(upd (upd H A.lr<|.lst<|(A.ks.map V.ref).eraseIdx i.toNat) p<|.lst [.int 0]) b=U o:=λb o e n=>by rw[aq<|bT e B,aq n];exact e
  refine ok _ M _ #[A.c,A.ls,A.lr,A.ks.eraseIdx i.toNat] (g++[z]) (d.eraseIdx i.toNat) (.number 0) C (λb f=>?_) rfl #[c.mc,c.ml,c.mr,c.ne,#[h,s _ _ j y],?_,?_,?_,?_,#[c.ok.d5,c.ok.oX,λk m=>c.ok.row k<|Yv m,?_]] ?_<|iz r a
  .rcases f with e|e|e|f;.exact .inl<|.inl e
   .exact .inl<|.inr<|.inl e
   .exact .inl<|.inr<|.inr<|.inl e
   .exact .inl<|.inr<|.inr<|.inr<|x b f
  .have#[a,g,h]:=c.hl;exact#[a,s _ _ g c.ne,h]
  .show upd _ _ _ A.lr=_;rw[aq<|Q4 v,ah,rJ]
  .refine ly (yI i.toNat c.hk) λv y m r=>?_;have#[a,b,e,f,g,h,j]:=r;exact#[a,b,e,f,g,s _ _ h (c.sep<|x v m).2.2,j]
  .exact c.nd.sublist<|List.eraseIdx_sublist _ _
  .have:=c.ok.oW;have:=List.length_eraseIdx_le d i.toNat;lia
  .rw[t];erw[aa0,w,q,Qm];refine congrArg (λx=>(x,Vacolk.Answer.number 0)) ?_;unfold aL;erw[rJ]
 .rw[gE]at u;have a:Vacolb.at? A.ks i=O:=by simpa using u
  have q:Vacolb.at? d i=O:=by
   unfold Vacolb.at? at a⊢;by_cases l:i<0;.rw[aaD l]
   .rw[aaC l]at a⊢;have:=List.getElem?_eq_none_iff.mp a;exact List.getElem?_eq_none_iff.mpr ∅
  erw[aa0,w,q,Rz]
def AH:Rs K ad k 8.10:=by
 rintro b H Q E⟨A,i,M,c,f,j,l,t,rfl,n,d,e,a,o,h,g,m,ok,r⟩;have#[i,rfl,rfl,rfl]:=GW a;have#[a,b]:=d.hc;have#[_,#[j,n,o],_]:=e.ax (K:=K) (k:=k) h;have#[c,z,rfl]:=eG<|g (by decide);have l:QU (aL (c++[z]) f) (.row i)=_:=eX (by simp);have s:Vacolb.at? (aL (c++[z]) f).rows i=(Vacolb.at? f i).map λk=>(k.v,k.x):=gE;have e:=Qy d.hk;refine#[A.c,a,_,G,b,by rfl,_,n,j,_,_,_,G,G,.inl<|af.of o,by rfl,A.c,a,A.ls,A.lr,_,i,G,∅,b,d.hr,λu b=>?_,λg=>r.now d (Go.refl h) (l.trans ?_) G]
 .rw[gE]at b;have#[a,e,rfl]:=SS.mp b;have#[p,b,n,_]:=et e;have#[b,j,e,o,u,q,t,w,v,x,y,B]:=d.kept n;have q:Vacolb.at? f i=U b:=by unfold Vacolb.at?;rw[aaC ∅];exact j
  have t:=(d.ok.row b e).2.2.2 [];rw[Rr]at t;have e:∀o,QX ((ax<|c++[z]).drop b.r) b.y=o->QU (aL (c++[z]) f) (.row i)=(aL (c++[z]) f,UD z.2 o):=by rintro o rfl;rw[l,<-t];erw[aa2,s,q,Qm,Vacolk.latest];rfl
  refine#[a,u,_,G,v,by rfl,A,M,c++[z],f,a,b,i.toNat,G,∅,d,h,n,j,λb t v a o l=>?_,λg=>r.fail d (Go.refl h) (e _ g) G];have#[a,h]:=l.hc;have#[B,r,_,_,C,D,w,E,x,F,u,y]:=l.kept n;rw[List.getElem?_set_self (List.getElem?_eq_some_iff.mp j).1]at r;cases r;have n:(c++[z])[(c++[z]).length-1]?=U z:=by simp
  rw[n]at u;cases u;have#[r,n,u,B,_]:=l.last;have C:=d7 d.ok.last;have d:(SD z.2 b).length<=10000000:=by unfold Short at m;rw[e _ t]at m;erw[bY,UD,S0,RM,So,P0,Qe]at m;lia
  refine#[_,aS (c:=10.7) x G (by decide) G,A.c,a,_,G,h,by rfl,A.c,a,A.ls,A.lr,r,n,G,∅,h,u,w,n,z.1,z.2,b,v,G,∅,y,B,C.1.2,∅,o.ae,λm d n a h=>?_];have#[m,rfl,n]:=h;refine#[m,d,_,G,∅,a.ae _ _ n,∅,a.ae,λh m n d r=>?_];refine ok h m n A (c++[z]) _ (.bytes<|SD z.2 b) ((o.aB a).aB d) (λ_ h=>.inl h) rfl (l.dE<|a.aB d) ?_<|r.old<|o.aB a;rw[e _ t];refine congrArg (λx=>(x,Vacolk.Answer.bytes<|SD z.2 b)) ?_;unfold aL;erw[List.map_set];congr 1;refine List.ext_getElem? λn=>?_;by_cases g:n=i.toNat;.subst g;rw[List.getElem?_set_self<|by rw[Qe];exact(List.getElem?_eq_some_iff.mp j).1,List.getElem?_map,j];rfl
  .rw[List.getElem?_set_ne<|Q4 g]
 .rw[gE]at g;have a:Vacolb.at? A.ks i=O:=by simpa using g
  have q:Vacolb.at? f i=O:=by
   unfold Vacolb.at? at a⊢;by_cases p:i<0;.rw[aaD p]
   .rw[aaC p]at a⊢;have:=List.getElem?_eq_none_iff.mp a;exact List.getElem?_eq_none_iff.mpr ∅
  erw[aa2,s,q,Rz]
def Av:Rs K ad k 8.8:=by
 rintro vs H Q E⟨A,cv,M,d,s,kc,xs,t,rfl,hk,f,ab,a3,a4,T,a5,b9,ok,er⟩;have#[rfl,u,rfl,rfl]:=G6 a3;have#[dx,ac]:=f.hc;have#[_,_,tv,ft,a6]:=ab.ax (K:=K) (k:=k) T;have#[d,z,rfl]:=eG<|a5 (by decide);have#[us,ul,hl,a7,ca]:=f.last;have L:=d7 f.ok.last;have a8:=Qy f.hk;have W:QU (aL (d++[z]) s) (.put u)=_:=eX (by simp);simp only;refine#[_,ft,A.c,dx,_,G,ac,by rfl,A.c,dx,A.ls,A.lr,us,ul,G,∅,ac,hl,tv,ul,u,z.1,z.2,M,G,∅,a6,a4 u G,a7,L.1,T,λa N C F P w a9=>?_,λhn=>er.fail f (Go.refl T) (W.trans ?_) G];rotate_left;.have#[e,he]:=tJ L.1.1 hn;erw[aaY,he]
 have i:=f.dE w;have#[ak,al]:=i.hc;have#[j,l,ba,cc,bd]:=i.last;have am:(aL (d++[z]) s).rows.length=s.length:=Qe ..;have bi:(aL (d++[z]) s).versions.length=d.length+1:=by show((d++[z]).map _).length=_;simp
 refine#[_,i.fl.2,A.lr,_,G,.inl<|af.of i.hr,?_];by_cases ap:100<=s.length
 .have X:(100:Int)<=((A.ks.map V.ref).length:Nat):=by rw[Qe];lia
  lk;erw[X,aaG,aaE];refine#[by decide,er.now f w (W.trans ?_) G];erw[aaY,pK L.1.1 N,am,Vacolk.ROWS,aaD ap]
 have X:¬(100:Int)<=((A.ks.map V.ref).length:Nat):=by rw[Qe];lia
 lk;erw[X,aaH,P1,aaF];have#[_,_,D,bk,bl]:=(ab.mono w.fr).ax (K:=K) (k:=k) w.ae;refine#[_,i.fl.2,A.lr,G,#[_,af.of i.hr],A.c,ak,_,G,al,by rfl,A.c,ak,A.ls,A.lr,_,G,∅,al,ba,_,bk,∅,λx q R n2 n3=>?_];refine#[x,q,_,D,C,G,∅,ah,G,?_];rw[cR];have Y:Go W0 F P F<|upd (upd P q<|.own x) x<|.ins (ad 10.7) q [('>',.int<|((j++[l]).length:Int)-1),('.',D),('@',.int<|((j++[l]).length:Int)-1),('9',C)]:=((Go.refl w.ae).alloc n2).alloc (by rw[aq<|Q4 n3];exact R);have g:=i.dE Y;have#[s1,s2]:=g.tQ;have av:∀b,WC A b->b≠x:=λb h e=>i.there h (by rw[e];exact R);have bm:=av A.lr<|.inr<|.inr<|.inl G;have Z:(upd (upd P q<|.own x) x<|.ins (ad 10.7) q [('>',.int<|((j++[l]).length:Int)-1),('.',D),('@',.int<|((j++[l]).length:Int)-1),('9',C)]) x=U (.ins (ad 10.7) q [('>',.int<|((j++[l]).length:Int)-1),('.',D),('@',.int<|((j++[l]).length:Int)-1),('9',C)]):=ah;generalize cd:(upd (upd P q<|.own x) x<|.ins (ad 10.7) q [('>',.int<|((j++[l]).length:Int)-1),('.',D),('@',.int<|((j++[l]).length:Int)-1),('9',C)])=B at Y g Z⊢;have bn:Go (WC A) M H F B:=(w.aB Y).any;have bo:F x=O:=w.ae.none R;have bs:H x=O:=w.bQ x R;refine#[_,g.hr,by rw[Qe];have:=c9;have:=f.ok.oW;lia,?_];have g3:=bn.set (p:=A.lr) (o:=.lst<|A.ks.map V.ref++[.ref x]) (.inl<|.inr<|.inr<|.inl G) i.mr;have a0:∀b o,B b=U o->b≠A.lr->(upd B A.lr<|.lst<|A.ks.map V.ref++[.ref x]) b=U o:=λb o e n=>by rw[aq n];exact e
 have#[bv,a1]:=g.hc;have bw:aY (Gq K ad k) (upd B A.lr<|.lst<|A.ks.map V.ref++[.ref x]) (.ref A.c) '?'<|.ref A.lr:=aS (c:=10.6) (a0 _ _ a1 s2) rfl (by decide) rfl;refine#[_,bw,A.lr,_,G,.inl<|af.of ah,by decide,λp I=>?_];have a2:p≠A.lr:=λe=>by rw[e,ah]at I;cases I
 have b1:B p=O:=by rwa[aq a2]at I
 have g4:=g3.alloc I (o:=.lst [.int<|((A.ks.map V.ref++[V.ref x]).length:Int)-1]);have S:∀b o,B b=U o->b≠A.lr->(upd (upd B A.lr<|.lst<|A.ks.map V.ref++[.ref x]) p<|.lst [.int<|((A.ks.map V.ref++[V.ref x]).length:Int)-1]) b=U o:=λb o e n=>by rw[aq<|bT e b1];exact a0 b o e n
 have aa:(d++[z])[d.length]?=U z:=by simp
 have b2:=uv N;have b3:(((j++[l]).length:Int)-1)=((d.length:Nat):Int):=by rw[P5,QB,bd];lia
 have b4:(((A.ks.map V.ref++[V.ref x]).length:Int)-1)=((s.length:Nat):Int):=by rw[P5,QB,Qe,a8];lia
 refine ok _ F _ #[A.c,A.ls,A.lr,A.ks++[x]] (d++[z]) (s++[#[d.length,u,a,d.length,a]]) (.number s.length) g4 (λb h=>?_) rfl #[g.mc,g.ml,g.mr,g.ne,#[bv,S _ _ a1 s2],?_,?_,sX ?_<|ly g.hk λv y m r=>?_,?_,#[f.ok.d5,f.ok.oX,λkr J=>?_,?_]] ?_ ?_
 .rcases h with e|e|e|h;.exact .inl<|.inl e
  .exact .inl<|.inr<|.inl e
  .exact .inl<|.inr<|.inr<|.inl e
  .rcases RW.mp h with h|h;.exact .inl<|.inr<|.inr<|.inr h
   .obtain rfl:b=x:=by simpa using h
    exact .inr bs
 .have#[b5,b6,b7]:=g.hl;exact#[b5,S _ _ b6 g.ne,b7]
 .show upd _ _ _ A.lr=_;rw[aq<|Q4 a2,ah,Sf];rfl
 .refine#[bo,q,D,C,z,?_,bl,aa,a9];rw[b3]at Z;exact S _ _ Z<|Q4 bm
 .have#[q0,q1,q2,q3,q4,q5,q6]:=r;exact#[q0,q1,q2,q3,q4,S _ _ q5 (g.sep m).2.2,q6]
 .refine Xk.mpr #[f.nd,by simp,λb h c b8=>?_];obtain rfl:c=x:=by simpa using b8
  exact av b<|.inr<|.inr<|.inr h
 .rcases RW.mp J with J|J;.exact f.ok.row kr J
  .obtain rfl:kr=⟨d.length,u,a,d.length,a⟩:=by simpa using J
   exact#[Qg _,#[z,aa,N],#[z,aa,b2],λgs=>rfl]
 .rw[P5,QB];lia
 .rw[W];erw[aaY,pK L.1.1 N,am,Vacolk.ROWS,aaC ap,bi];unfold aL;simp
 .rw[b4];exact iz g3 I
def AR:Rs K ad k 8.0:=by
 rintro h H Q E⟨A,i,M,f,q,j,l,t,rfl,m,a,c,d,e,b,g,o,ok,n⟩;have#[rfl,u,rfl,rfl]:=GU d;have#[_,_,d,h,i]:=c.ax (K:=K) (k:=k) b;have#[f,z,rfl]:=eG<|g (by decide);have r:=d7 a.ok.last;have l:QU (aL (f++[z]) q) (.step u)=_:=eX (by simp);have s:(aL (f++[z]) q).versions.length=f.length+1:=by show((f++[z]).map _).length=_;simp
 lk;simp only;refine#[_,h,d,u,M,G,∅,i,e u G,b,λh i v w c g o=>?_,λc=>n.fail a (Go.refl b) (l.trans ?_) G];rotate_left;.have#[e,b]:=Bw c;erw[aaW,b]
 have d:=a.dE g;have#[j,m]:=d.hc;have#[c,b,p,x,t]:=d.last;refine#[_,d.fl.1,A.ls,_,G,.inl<|af.of p,?_];have d:(c++[b]).length=f.length+1:=by rw[P5,QB,t]
 by_cases t:16<=f.length+1
 .have d:(16:Int)<=((c++[b]).length:Nat):=by lia
  lk;erw[d,aaG,aaE];refine#[by decide,n.now a g (l.trans ?_) G];erw[aaW,mY i,s,Xt,aaD t]
 have d:¬(16:Int)<=((c++[b]).length:Nat):=by lia
 lk;erw[d,aaH,P1,aaF];refine#[A.c,j,_,G,m,by rfl,A.c,j,A.ls,A.lr,c,b,G,∅,m,p,b,v,z.1,z.2,u,h,w,G,∅,x,o,r.1,(d7 i).1,g.ae,λp m j y b=>?_];have gt:=g.aB y;have c:=a.dE gt;cases g:dS h z.2 with
 |some x=>
  rw[g]at b;have b:cz ad m p x.1 ([]++x.2.1) (kindAt x.2.1<|.group false z.2) x.2.2:=b;simp only;have#[a,r,w,B,rfl,d,_]:=b;refine#[_,aS (c:=10.2) (gt.ae _ _ d) G (by decide) G,_,G,(show 2<=k from by lia),λd a=>?_];refine n 11.7 (U d) (-10-(x.1:Int)) m _ ((gt.alloc a).any) (c.dE<|(Go.refl gt.ae).alloc a) (l.trans ?_)<|.inr #[G,d,x.1,G,ah,G];have a:=(jt h z.2).1;have d:RS h z.2=U (hG (.group false z.2) x):=by unfold RS;rw[PN,a,g];rfl
  erw[aaW,mY i,s,Xt,aaC t,d];rfl
 |none=>
  rw[g]at b;have e:p=.ao:=b;subst e;simp only;have#[r,w]:=c.hc;have#[a,b,D]:=c.hl;have d:=Qy D;have H:=o.mono y.fr;have d:(f++[z]).length=f.length+1:=by simp
  refine#[_,c.fl.1,A.ls,G,#[_,af.of b],a,b,by have:=c9;lia,?_];have#[y,b]:=c.tQ;have E:=(gt.any (W:=WC A)).set (p:=A.ls) (o:=.lst<|a++[v]) (.inl<|.inr<|.inl G) c.ml;have B:∀b o,j b=U o->b≠A.ls->(upd j A.ls<|.lst<|a++[v]) b=U o:=λb o e n=>by rw[aq n];exact e
  refine#[A.c,r,_,G,B _ _ w y,by rfl,A.c,r,A.ls,A.lr,_,G,∅,B _ _ w y,ah,by decide,λp d=>?_];have F:p≠A.ls:=λe=>by rw[e,ah]at d;cases d
  have I:j p=O:=by rwa[aq F]at d
  have J:=E.alloc d (o:=.lst [.int<|((a++[v]).length:Int)-1]);have C:∀b o,j b=U o->b≠A.ls->(upd (upd j A.ls<|.lst<|a++[v]) p<|.lst [.int<|((a++[v]).length:Int)-1]) b=U o:=λb o e n=>by rw[aq<|bT e I];exact B b o e n
  have e:(((a++[v]).length:Int)-1)=((f.length+1:Nat):Int):=by rw[P5,QB];lia
  refine ok _ m _ A (f++[z]++[(u,h)]) q (.number<|f.length+1) J (λb f=>.inl f) rfl #[c.mc,c.ml,c.mr,c.ne,#[r,C _ _ w y],#[a++[v],?_,sX (R:=λu(x:TF)=>c6 ad m u x.1 x.2) (z:=(u,h)) H D],C _ _ c.hr<|Q4 c.ne,ly c.hk λw y m r=>?_,c.nd,c.ok.more i ∅] ?_ ?_;.show upd _ _ _ A.ls=_;rw[aq<|Q4 F,ah]
  .have#[b,f,h,j,n,o,p,a,q]:=r;exact#[b,f,h,j,n,C _ _ o (c.sep m).2.1,p,by rw[List.getElem?_append_left (List.getElem?_eq_some_iff.mp a).1];exact a,q]
  .rw[l];erw[aaW,mY i,s,Xt,aaC t,Cw g];unfold aL;simp[ax]
  .rw[e];exact iz E d
def Ak:Rs K ad k 9.4:=by rintro b H Q E⟨v,n,c,t,M,rfl,e,d,a,q⟩;have#[_,#[e,f,g],h,b,c]:=d.ax (K:=K) (k:=k) a;lk;refine#[_,f,e,_,G,.inl<|af.of g,_,b,?_];induction t with|none=>have e:h=.ao:=c;subst e;erw[aaG,QR];refine Eq.mp ?_ q;congr 2;simp[cx]|some u=>have#[l,rfl,d]:=c;erw[show¬(V.ref l=V.ao)from by simp,aaH,QN];refine#[_,G,_,b,l,_,G,.inl<|af.of<|a _ _ d,_,_,G,G,?_];refine Eq.mp ?_ q;congr 2;rw[bE];simp[cx];lia
def zd(C:lR K ad):Rs K ad k 9.3:=by
 rintro f H Q E⟨l,g,M,p,n,a,t,b,h,rfl,i,d,j,o,e,c,q⟩;have#[f,h]:=vO e;have#[e,i,f]:=C;have#[e,j,m]:=dU f h;have#[h,f]:=wb c;have f:g.drop (p+1)=a++(cx t++b):=by have:=drop_eq (a:=[(n:Int)]) (b:=a++(cx t++b)) (by rw[c];rfl);simpa using this
 have n:g.drop (p+1+a.length)=cx t++b:=drop_eq f;have c:=wa f ∅;refine#[l,_,_,_,G,G,.inl d,aV<|by rw[List.getElem?_map,h];rfl,?_];refine#[_,_,_,_,G,G,.inr<|i H,aV<|by rw[List.getElem?_map,j];rfl,e,_,_,_,G,G,.inr<|m H,aV (j:=1) G,?_];refine fc t.isSome (λh c=>?_) (λh=>?_) λh=>?_;.exact#[_,_,_,_,G,G,.inr<|i H,aV<|by rw[List.getElem?_map,j];rfl,e,_,_,_,G,G,.inr<|m H,aV (j:=2) G,c]
 .have#[u,rfl]:=QV.mp h;have e:g.drop (p+1+a.length)=(u.length:Int)::((u.map λ(c:Nat)=>(c:Int))++b):=n;have#[i,j]:=wb e;have j:g.drop (p+1+a.length+1)=(u.map λ(c:Nat)=>(c:Int))++b:=by have:=drop_eq (a:=[(u.length:Int)]) (b:=(u.map λ(c:Nat)=>(c:Int))++b) (by rw[e];rfl);simpa using this
  lk;refine#[_,G,l,_,_,V.int ((u.length:Nat):Int),G,G,.inl d,?_,?_]
  .have b:((p:Nat):Int)+1+((a.length:Nat):Int)=((p+1+a.length:Nat):Int):=by lia
   rw[b];exact aV (by rw[List.getElem?_map,i];rfl)
  refine#[_,G,l,_,G,d,λr b=>?_];rw[rA j ∅ ∅ (by rw[Qe];lia (config:={})),FU];have e:Go W0 M H (upd M r<|.lst<|bv u)<|upd H r<|.lst<|bv u:=(Go.refl o).bc b;refine#[_,G,_,G,l,_,G,BZ e.keep d,λg c=>?_];rw[rA f ∅ ∅ ∅];have b:=e.bc c (o:=.lst<|a.map V.int);exact yi (t:=U u) ∅ b.ae ah #[r,G,p9 ah<|e.ae.none c] λv e i j m=>q v e i (b.aB j) m
 .have n:t=O:=by simpa using h
  subst n;lk;refine#[_,G,_,G,l,_,G,d,λg c=>?_];rw[rA f ∅ ∅ ∅];have b:Go W0 M H (upd M g<|.lst<|a.map V.int)<|upd H g<|.lst<|a.map V.int:=(Go.refl o).bc c;exact yi (t:=O) ∅ b.ae ah rfl λv e i j m=>q v e i (b.aB j) m
def y9(C:lR K ad):Rs K ad k 9.6:=by
 rintro X H Q E⟨A,j,M,a,s,c,n,u,t,rfl,Y,b,l,d,v,g,w,ok,m⟩;have#[f,o]:=vO d;have#[Z,x,y]:=C;have#[e,z,B]:=dU y o;have#[D,F,I]:=Ow o;have#[p,_,_]:=l.ax (K:=K) (k:=k) g;have#[q,J,L]:=b.hl;have r:=Qy L;have N:(n≠0->a≠[])->cK (Gq K ad k) E (gj (dat 9.6).c) (D0 Q) (fill (dat 9.6).n [.ref A.c,j]) H:=λP=>by
  lk;refine#[_,p,_,_,_,_,G,G,.inr<|x H,aV<|by rw[List.getElem?_map,z];rfl,e,_,_,_,G,G,.inr<|B H,aV (j:=0) G,f,ad f,G,?_,?_];.simp only;rw[aaD<|.inl D]
  .show iV ad (cw K ad) f k _ _ _ _;rw[show iV ad (cw K ad) f k=cw K ad f k from by unfold iV;rw[F],I];exact#[A,j,M,a,s,c,u,t,G,∅,b,l,d,v,g,P,w,ok,m]
 refine fc (decide (n≠0)&&decide (a=[])) ?_ (λh=>?_) λh=>?_
 .refine ip ?_ λ_=>λQ' R=>?_;.refine xj (i:=1) (n:=0) rfl p rfl ?_;rw[<-decide_not];exact decide_eq_decide.mpr ∅
  .lk;refine#[_,b.fl.1,A.ls,q,G,.inl<|af.of J,G,?_];have:decide (V.int ((q.length:Nat):Int)=V.int 0)=decide (a=[]):=by
    refine decide_eq_decide.mpr #[λh=>?_,λh=>?_];.injection h with h;exact Qj.mp ∅
    .rw[h]at r;rw[r];rfl
   rw[this];exact R
 .have i:n≠0/\a=[]:=by simpa using h
  have#[S,T]:=i;lk;refine#[by decide,m.now b (Go.refl g) ?_ G];subst T;have W:∀t,c≠.begin t:=λt e=>by subst e;cases d;exact S rfl
  induction c<;>first|rfl|exact absurd rfl<|W _
 .have i:n≠0->a≠[]:=by simpa using h
  exact N i
def za(i:∀e f,isExc e=true->isExc f=true->ad e=ad f->e=f):Rs K ad k 9.5:=by
 rintro q H Q E⟨A,a,M,b,d,c,n,g,t,rfl,r,h,j,l,m,o,p,ok⟩;refine#[A,a,M,b,d,c,n,g,t,G,∅,h,j,l,m,o,p,ok,λe j m h a g l n c=>?_];have j:∀p,a p=O->Q (.ref p) (upd a p<|.lst [.int m]):=λp a=>ok _ h _ A b d (.refused m) (g.alloc a) (λ_ h=>.inl h) rfl (l.dE<|(Go.refl g.ae).alloc a) n<|iz g a;rcases c with⟨rfl,c⟩|⟨rfl,d,z,rfl,g,rfl⟩
 ·(rcases e with⟨a,b⟩;induction a<;>first|(cases c;done)|cases b)<;>cases c;all_goals repeat' first
   |exact w6 rfl j
   |refine w8 i rfl rfl (by intro h;cases h) ?_
 ·repeat' first
   |exact w6 (h:=#[11.7,.jW 10 2 '(']) rfl #[d,_,z,G,g,G,j]
   |refine w8 i rfl rfl (by intro h;cases h) ?_
inductive uO(ad:F->P2)(l:P2)(ns:List Int)(cs:List RR)(H0:Hp)(m:Nat)(σ:St)(H:Hp):Prop
 |mk(M A st krs)(p:Nat)(an cs' f done w4 w5)(_:σ=[U (.ref l),U (.ref A.c),U (.ref an),U (.int (p:Nat)),w4,w5])(_:m=ns.length-p)(_:p<=ns.length)(_:aj M H)(_:bx ad M H A st krs)(_:aj H0 H)(_:(∀b,WC A b->H0 b=O))(_:M an=O)(_:¬WC A an)(_:H an=U (.lst (done.map V.int)))(_:H0 an=O)(_:callsOf f (ns.drop p)=U cs')(_:(∀c∈cs',textOk c))(_:SU (eW Ve cs)=done++SU (eW (aL st krs) cs'))
def zb:Rs K ad k 9.2:=by
 rintro e v Q E⟨l,d,w,a,rfl,g,b,T,c,f,h,z,q⟩;refine J5 ∅ z λA I i e j=>#[by decide,λg s=>?_];have o:¬WC A g:=λh=>e.there h s;have u:=i.alloc s (o:=.lst []);have B:bx ad a (upd I g<|.lst []) A [] []:=e.dE<|(Go.refl i.ae).alloc s;refine#[uO ad l d w v,
  #[_,a,A,[],[],0,g,w,d.length,[],_,_,G,G,by lia (config:={}),u.ae,B,u.keep,j,i.ae.none s,o,ah,i.bQ g s,c,f,G],?_]
 rintro m a H⟨M,A,x,y,p,g,X,f,done,c,n,rfl,rfl,r,z,W,C,J,Y,o,s,L,j,N,P⟩;have F:=BZ C b;refine#[l,_,G,.inl F,?_];rw[Qe];by_cases c:p<d.length
 .have D:((p:Nat):Int)<((d.length:Nat):Int):=by lia
  lk;erw[D,aaG,aaE];obtain⟨m,r,E⟩:∃a b,d.drop p=a::b:=#[_,_,To c];rw[E]at j;induction f with
  |zero=>cases j|succ f=>
   rw[callsOf]at j;have#[#[a,tail],m,j]:=TC.mp j;have#[c,Q,j]:=TC.mp j;have#[Z,aa,rfl]:=SS.mp j;have#[n,a,t,r,R,ab]:=GJ m Q<|N c (by simp);have m:d.drop p=(n:Int)::(a++(cx t++tail)):=E.trans R;have ac:d.drop (p+(1+(a.length+(cx t).length)))=tail:=by have:=drop_eq (l:=d) (p:=p) (a:=(n:Int)::(a++cx t)) (b:=tail) (by rw[m];simp);rw[P0,P5]at this;rw[<-this];congr 1;lia (config:={})
   have ak:p+(1+(a.length+(cx t).length))<=d.length:=by have:=congrArg SG m;rw[S4,P0,P5,P5]at this;lia
   have E:=P;rw[Mr,OJ]at E;have Q:done.length+(1+(bY (QU (aL x y) c).2).length)<=10000000:=by have:=congrArg SG E;rw[P5,P0,P5]at this;lia (config:={})
   refine#[λQ R=>∃S,S<d.length-p/\uO ad l d w v S Q R,λQ R h=>h,?_];lk;refine#[l,d,M,p,n,a,t,tail,c,G,∅,F,T,z,r,m,λF l I i m=>?_];refine#[_,G,F,n,a,t,l,G,∅,m,i.ae,_,_,G,G,?_];have e:=W.dE i;refine#[A,F,l,x,y,c,n,a,t,G,∅,e,m,r,ab,i.ae,by unfold Short;lia (config:={}),λn m A I M Q l u z al B R e=>?_];have#[b,rfl,w,n]:=e;have r:=i.st _ _ s id;have S:=u.st _ _ r o;have am:b≠g:=λe=>by rw[e,r]at w;cases w
   have T:m g=O:=u.da (i.da Y s) r;have W:¬WC I g:=λh=>by
    rcases z g h with h|h;.exact o h
    .rw[r]at h;cases h
   have r:aj v A:=λb o e=>u.st b o (i.st b o (C b o e) id) λw=>by rw[J b w]at e;cases e
   have Y:∀b,WC I b->v b=O:=λb w=>by
    rcases z b w with h|h;.exact J b h
    .cases z:v b with|none=>rfl|some o=>rw[i.st b o (C b o z) id]at h;cases h
   have h:l=(QU (aL x y) c).2:=by rw[R]
   have i:aL M Q=(QU (aL x y) c).1:=by rw[R]
   refine#[g,G,#[_,af.of S],b,_,G,.inl<|af.of n,_,S,by rw[Qe];have:=c9;lia,?_];refine#[g,G,#[_,af.of ah],b,_,_,G,ah,.inl<|by rw[aq am];exact n,?_,?_];.rw[P5,Qe,Qe,QB,h];have:=c9;lia (config:={})
   .rw[cR];have c:done.map V.int++[V.int (((bY l).map V.int).length:Nat)]++(bY l).map V.int=(done++(((bY l).length:Int)::bY l)).map V.int:=by rw[Qe,Sf,Ql,QL];rfl
    rw[c];have c:Go (W1 g) m A m<|upd A g<|.lst<|(done++(((bY l).length:Int)::bY l)).map V.int:=(Go.refl u.ae).set (.inl G) T;refine#[d.length-(p+(1+(a.length+(cx t).length))),∅,m,I,M,Q,p+(1+(a.length+(cx t).length)),g,Z,f,done++(((bY l).length:Int)::bY l),U F,U<|.ref b,?_,G,ak,c.ae,B.over c λb n e=>W<|e▸n,λb o e=>?_,Y,T,W,ah,L,by rw[ac];exact aa,λc l=>N c<|by simp[l],?_];.rw[al,show((p:Nat):Int)+((1+(a.length+(cx t).length):Nat):Int)=((p+(1+(a.length+(cx t).length)):Nat):Int)from by lia (config:={})]
    .rw[aq<|bT e L];exact r b o e
    .rw[E,i,h,QL];rfl
 .have D:¬((p:Nat):Int)<((d.length:Nat):Int):=by lia
  lk;erw[D,aaH,P1,aaF];have a:d.drop p=[]:=Za.mpr ∅;rw[a]at j;have e:X=[]:=by induction f<;>(erw[callsOf,QS]at j;exact j.symm)
  subst e;lk;refine q _ H #[g,G,?_];rw[P,s];simp[eW,SU]
end
section
open PySem.SetTable
theorem sub_len{a:Type}[DecidableEq a]:∀{l m:List a},l.Nodup->(∀x∈l,x∈m)->l.length<=m.length|[],_,_,_=>Q9 _|a::l,m,c,h=>by have b:=RI.mp c;have c:=h a QE;have:=sub_len (l:=l) (m:=m.erase a) b.2 λx d=>(List.mem_erase_of_ne λe:x=a=>b.1<|e▸d).mpr<|h x<|Qk _ d;rw[List.length_erase_of_mem c]at this;have:=List.length_pos_of_mem c;erw[P0];lia
def yS{l:List Nat}{n:Nat}(h:l.length<n):∃j,j<n/\j∉l:=by refine Ta λa=>?_;have:=sub_len (l:=Uy n) (m:=l) aaa λx b=>Ta λc=>a #[x,Sr.mp b,c];rw[ZW]at this;lia
noncomputable def el(m:Nat)(p:VG):VG:=if p.more>0 then {p with j:=p.j+1,more:=p.more-1}else {p with j:=(WO m p.i p.perturb).1,more:=UA m (WO m p.i p.perturb).1-(WO m p.i p.perturb).1,i:=(WO m p.i p.perturb).1,perturb:=(WO m p.i p.perturb).2}
noncomputable def rp(m i q a:Nat):VG:={j:=i+a,more:=UA m i-i-a,i:=i,perturb:=q,dummy:=O}
noncomputable def st(m:Nat)(h:Int):VG:=rp m (V8 h%(m+1)) (V8 h) 0
def qT{m i q a:Nat}(h:a<UA m i-i):el m (rp m i q a)=rp m i q (a+1):=by unfold el;rw[aaD (show(rp m i q a).more>0 by erw[rp];lia)];rfl
def vp{m i q a:Nat}(h:UA m i-i<=a):el m (rp m i q a)=rp m (WO m i q).1 (WO m i q).2 0:=by unfold el;rw[aaC (show¬(rp m i q a).more>0 by erw[rp];lia)];rfl
noncomputable def iS(m:Nat):Nat->VG->VG|0,p=>p|d+1,p=>iS m d<|el m p
theorem vq(m:Nat):∀(a b:Nat)(p:VG),iS m (a+b) p=iS m b (iS m a p)|0,b,p=>by rw[R0];rfl|a+1,b,p=>by rw[VF];exact vq m a b _
noncomputable def dP(m:Nat):Nat->Nat×Nat->Nat×Nat|0,x=>x|r+1,x=>dP m r<|WO m x.1 x.2
theorem xJ(m:Nat):∀(a b:Nat)(x:Nat×Nat),dP m (a+b) x=dP m b (dP m a x)|0,b,x=>by rw[R0];rfl|a+1,b,x=>by rw[VF];exact xJ m a b _
def ND(m i:Nat):UA m i-i<=9:=by unfold UA;split<;>lia
def tK{m i:Nat}(h:i<=m):i+(UA m i-i)<=m:=by unfold UA;split<;>lia
theorem yC{m i q:Nat}:∀(b a:Nat),a+b=UA m i-i->iS m (b+1) (rp m i q a)=rp m (WO m i q).1 (WO m i q).2 0|0,a,h=>vp ∅|b+1,a,h=>by show iS m (b+1) (el m<|rp m i q a)=_;rw[qT ∅];exact yC b (a+1) ∅
theorem rounds{m:Nat}:∀(r i q:Nat),∃d,d<=10*r/\iS m d (rp m i q 0)=rp m (dP m r (i,q)).1 (dP m r (i,q)).2 0|0,i,q=>#[0,Q9 _,G]|r+1,i,q=>by have#[d,b,a]:=rounds (m:=m) r (WO m i q).1 (WO m i q).2;refine#[(UA m i-i+1)+d,by have:=ND m i;lia,?_];rw[vq,yC _ 0 ∅,a];rfl
noncomputable def gP(m:Nat):Nat->Nat->Nat|0,i=>i|n+1,i=>gP m n<|(i*5+1)%(m+1)
theorem oC(m:Nat):∀(a b i:Nat),gP m (a+b) i=gP m b (gP m a i)|0,b,i=>by rw[R0];rfl|a+1,b,i=>by rw[VF];exact oC m a b _
theorem xN(m:Nat):∀(n i:Nat),dP m n (i,0)=(gP m n i,0)
 |0,_=>rfl|n+1,i=>by
  show dP m n (WO m i 0)=_;have:WO m i 0=((i*5+1)%(m+1),0):=by simp[WO]
  rw[this,xN m n];rfl
theorem xM(m:Nat):∀(r:Nat)(x:Nat×Nat),(dP m r x).2=x.2/32^r|0,x=>by simp[dP]|r+1,x=>by show(dP m r<|WO m x.1 x.2).2=_;rw[xM m r,YV,YW,<-Nat.div_div_eq_div_mul];rfl
theorem xK(m:Nat):∀(r:Nat)(x:Nat×Nat),x.1<=m->(dP m r x).1<=m|0,x,h=>h|r+1,x,_=>xK m r _<|VS<|W8 _<|Xq _
noncomputable def lu(m:Nat):Nat->Nat->Nat->Nat|0,_,a=>a|f+1,i,a=>cond (S3 (a+i) 0) (lu m f ((i*5+1)%(m+1)) (a|||2^i))<|lu m f ((i*5+1)%(m+1)) (a|||2^i)
theorem yF{m j:Nat}:∀(f i acc:Nat),(lu m f i acc).testBit j=true->acc.testBit j=true\/∃n,n<f/\gP m n i=j
 |0,i,acc,h=>.inl h|f+1,i,acc,h=>by
  have a:(lu m f ((i*5+1)%(m+1)) (acc|||2^i)).testBit j=true:=by unfold lu at h;revert h;cases S3 (acc+i) 0<;>exact id
  rcases yF f _ _ a with a|⟨n,a,b⟩
  .rw[Nat.testBit_or,We,Nat.testBit_two_pow]at a;rcases a with a|a;.exact .inl a
   .exact .inr #[0,∅,of_decide_eq_true a]
  .exact .inr #[n+1,∅,b]
def M5(m:Nat):Prop:=m=7\/m=31\/m=127\/m=511\/m=2047
noncomputable def back(m:Nat):Nat->Nat->Nat|0,i=>i|f+1,i=>cond (S3 i 0) (back m f<|(i*5+1)%(m+1))<|back m f<|(i*5+1)%(m+1)
theorem back_eq{m:Nat}:∀(f i:Nat),back m f i=gP m f i|0,_=>rfl|f+1,i=>by show cond _ _ _=_;rw[back_eq f];cases S3 i 0<;>rfl
def GR{m:Nat}(h:M5 m):lu m (m+1) 0 0=2^(m+1)-1/\gP m (m+1) 0=0:=by rw[<-back_eq];rcases h with rfl|rfl|rfl|rfl|rfl<;>exact#[Y8<|by decide+kernel,Y8<|by decide+kernel]
def Jy{m:Nat}(h:M5 m){e i:Nat}(d:e<=m)(hi:i<=m):∃n,n<=m/\gP m n i=e:=by
 have#[a,f]:=GR h;have c:∀j,j<=m->∃n,n<m+1/\gP m n 0=j:=λj b=>by
  rcases yF (m:=m) (j:=j) (m+1) 0 0 (by rw[a,Nat.testBit_two_pow_sub_one];exact decide_eq_true ∅)with a|a;.rw[Nat.zero_testBit]at a;cases a
  .exact a
 have#[a,b,rfl]:=c i hi;have#[b,g,rfl]:=c e d;by_cases c:a<=b;.exact#[b-a,∅,by rw[<-oC];congr 1;lia]
 .refine#[m+1-a+b,∅,?_];rw[<-oC,show a+(m+1-a+b)=m+1+b by lia,oC,f]
def FO(h:Int):V8 h<2^64:=by unfold V8;lia
def t6(m:Nat)(h:Int):V8 h%(m+1)<=m:=VS<|W8 _<|Xq _
def xH{m:Nat}(h:M5 m)(k:Int){e:Nat}(a:e<=m):∃r,r<=m+13/\(dP m r (V8 k%(m+1),V8 k)).1=e:=by
 have#[n,c,b]:=Jy h a<|xK m 13 (V8 k%(m+1),V8 k)<|t6 m k;refine#[13+n,∅,?_];rw[xJ];have:dP m 13 (V8 k%(m+1),V8 k)=((dP m 13 (V8 k%(m+1),V8 k)).1,0):=by refine Prod.ext rfl ?_;rw[xM];exact Nat.div_eq_of_lt<|S2 (FO k) (by decide)
 rw[this,xN];exact b
inductive Reach(m:Nat)(L:Nat->Prop):VG->Nat->Prop
 |here(p:VG):Reach m L p p.j
 |step{p:VG}{j:Nat}:L p.j->Reach m L (el m p) j->Reach m L p j
def Reach.mono{m:Nat}{L a:Nat->Prop}(h:∀j,L j->a j){j:Nat}(r:Reach m L p j):Reach m a p j:=by induction r with|here p=>exact .here p|step a _ b=>exact .step (h _ a) b
def l0(m:Nat)(L:Nat->Prop)(p:VG)(n:Nat):Prop:=∃d,d<=n/\¬L (iS m d p).j
def l0.next{m:Nat}{L:Nat->Prop}{p:VG}{n:Nat}(h:l0 m L p n)(l:L p.j):∃a,n=a+1/\l0 m L (el m p) a:=by have#[d,b,a]:=h;induction d with|zero=>exact absurd l a|succ d=>exact#[n-1,∅,d,∅,a]
def Hy{m:Nat}(h:M5 m){L:Nat->Prop}(k:Int){e:Nat}(a:e<=m)(hl:¬L e):l0 m L (st m k)<|10*(m+13):=by have#[r,c,b]:=xH h k a;have#[d,c,a]:=rounds (m:=m) r (V8 k%(m+1))<|V8 k;refine#[d,∅,?_];rw[show st m k=rp m (V8 k%(m+1)) (V8 k) 0 from G,a,b];exact hl
def Wf(m:Nat)(p:VG):Prop:=p.j+p.more<=m/\p.dummy=O
def Pc{m i q:Nat}(h:i<=m):Wf m<|rp m i q 0:=#[tK h,G]
def Pb{m:Nat}(h:Wf m p):Wf m<|el m p:=by
 unfold el;split;.exact#[by have:=h.1;show p.j+1+(p.more-1)<=m;lia,h.2]
 .exact#[tK<|VS<|W8 _<|Xq _,h.2]
def gB(xs:Array Nat):Prop:=∀i j a b:Nat,i<j->xs[i]?=U a->xs[j]?=U b->a<b
theorem rV{xs:Array Nat}{j:Nat}(hs:gB xs):∀(f lo hi:Nat),lo<=hi->hi<=xs.size->hi-lo<=f->(∀i a,i<lo->xs[i]?=U a->a<j)->(∀i a,hi<=i->xs[i]?=U a->j<=a)->
  YQ xs j f lo hi<=xs.size/\(∀i a,i<YQ xs j f lo hi->xs[i]?=U a->a<j)/\∀i a,YQ xs j f lo hi<=i->xs[i]?=U a->j<=a
 |0,lo,hi,b,c,e,d,g=>by
  obtain rfl:lo=hi:=by lia
  exact#[c,d,g]
 |f+1,lo,hi,b,c,e,d,g=>by
  unfold YQ;by_cases l:lo<hi
  .rw[aaD l];dsimp only;have e:(lo+hi)/2<xs.size:=by lia
   have b:xs[(lo+hi)/2]?=U (xs[(lo+hi)/2]'e):=Array.getElem?_eq_getElem e;have h:xs.getD ((lo+hi)/2) j=xs[(lo+hi)/2]'e:=by rw[Array.getD_eq_getD_getElem?,b];rfl
   rw[h];by_cases h:xs[(lo+hi)/2]'e<j
   .rw[aaD h];refine rV hs f _ _ ∅ c ∅ (λi a m e=>?_) g;by_cases k:i=(lo+hi)/2;.subst k;rw[b]at e;cases e;exact h
    .exact S2 (hs i _ a _ ∅ e b) h
   .rw[aaC h];refine rV hs f _ _ ∅ ∅ ∅ d λi a m e=>?_;by_cases k:i=(lo+hi)/2;.subst k;rw[b]at e;cases e;lia
    .have:=hs _ i _ a ∅ b e;lia
  .rw[aaC l];obtain rfl:lo=hi:=by lia
   exact#[c,d,g]
def vx{xs:Array Nat}{j:Nat}(hs:gB xs):VY xs j<=xs.size/\(∀i a,i<VY xs j->xs[i]?=U a->a<j)/\∀i a,VY xs j<=i->xs[i]?=U a->j<=a:=
 rV hs _ _ _ (Q9 _) (Qg _) ∅ (λi a h=>absurd h<|Vj _) λi a h e=>by
  have:=(Array.getElem?_eq_some_iff.mp e).1
  lia
def below_at{i j:Nat}(hs:gB xs)(e:xs[i]?=U j):VY xs j=i:=by
 have#[c,a,b]:=vx (j:=j) hs;rcases Xr (VY xs j) i with h|h|h
 .have c:VY xs j<xs.size:=by have:=(Array.getElem?_eq_some_iff.mp e).1;lia
  have q:=Array.getElem?_eq_getElem c;have:=b _ _ (Qg _) q;have:=hs _ _ _ _ h q e;lia
 .exact h
 .exact absurd (a _ _ h e)<|RP _
def lI{a:Type}{xs:Array a}{p:Nat}{x:a}(h:p<=xs.size)(i:Nat):(S6 xs p x)[i]?=if i<p then xs[i]? else if i=p then U x else xs[i-1]?:=by
 have e:(S6 xs p x).toList=xs.toList.take p++x::xs.toList.drop p:=by unfold S6;simp[Zc,ZH,Y2,List.extract];exact SX (by simp)
 rw[<-Array.getElem?_toList,e];have b:(xs.toList.take p).length=p:=by simp;lia
 by_cases a:i<p;.rw[aaD a,List.getElem?_append_left ∅,List.getElem?_take_of_lt a,Array.getElem?_toList]
 .rw[aaC a,List.getElem?_append_right ∅,b];by_cases a:i=p;.rw[aaD a,a,YU];rfl
  .rw[aaC a,show i-p=(i-1-p)+1 by lia,List.getElem?_cons_succ,List.getElem?_drop,show p+(i-1-p)=i-1 by lia,Array.getElem?_toList]
def xa{a:Type}{xs:Array a}{p:Nat}{x:a}(h:p<=xs.size):(S6 xs p x).size=xs.size+1:=by unfold S6;simp;lia
def Lv(pl:Array Nat)(j:Nat):Prop:=∃i:Nat,pl[i]?=U j
def slot_of{t:Ur}(hd:t.dummies=#[])(hs:gB t.place)(j:Nat):(∃i,t.slot j=.live i/\t.place[i]?=U j)\/(t.slot j=.empty/\¬Lv t.place j):=by
 by_cases h:t.place[VY t.place j]?=U j;.refine .inl #[_,?_,h];unfold slot;dsimp only;rw[h];simp
 .refine .inr #[?_,λa=>e2 a λi e=>h<|by rw[below_at hs e];exact e];unfold slot;dsimp only;rw[aaC<|by simpa using h,hd];rfl
structure gA(m:Nat)(L W:Nat->Prop)(h:Int)(p:VG)(n:Nat):Prop where
 wf:Wf m p
 en:l0 m L p n
 bk:∀e,Reach m L p e->Reach m L (st m h) e
 wt:∀j,W j->Reach m L p j
def gA.next{m:Nat}{L W:Nat->Prop}{h:Int}{p:VG}{n:Nat}(I:gA m L W h p n)(l:L p.j)(w:¬W p.j):∃a,n=a+1/\gA m L W h (el m p) a:=by
 have#[a,b,c]:=I.en.next l
 refine#[a,b,Pb I.wf,c,λe r=>I.bk e<|.step l r,λj a=>?_];induction I.wt j a with|here=>exact absurd a w|step _ r=>exact r
theorem wU{t:Ur}{hashAt:Nat->Int}{h:Int}{W:Nat->Prop}(hd:t.dummies=#[])(hs:gB t.place)(e:∀i j:Nat,t.place[i]?=U j->hashAt i≠h->¬W j):
  ∀(f n:Nat)(p:VG),gA t.mask (Lv t.place) W h p n->n<f->
   (∃q a,a<=n/\gA t.mask (Lv t.place) W h q a/\¬Lv t.place q.j/\YP t hashAt h f p=U (.empty q.j O))\/
   ∃q a,∃i:Nat,a<=n/\gA t.mask (Lv t.place) W h q a/\t.place[i]?=U q.j/\t.slot q.j=.live i/\hashAt i=h/\YP t hashAt h f p=U (.candidate q.j i<|el t.mask q)
 |0,n,p,I,b=>absurd b<|Vj _|f+1,n,p,I,b=>by
  unfold YP;rcases slot_of hd hs p.j with⟨i,d,c⟩|⟨d,c⟩
  .rw[d];dsimp only;by_cases b:hashAt i=h;.refine .inr #[p,n,i,Qg _,I,c,d,b,?_];rw[aaD<|by simpa using b];rfl
   .rw[aaC<|by simpa using b];have#[a,rfl,g]:=I.next #[i,c] (e i _ c b)
    rcases wU hd hs e f a (el t.mask p) g ∅with⟨q,e,a,b⟩|⟨q,e,g,a,b⟩;.exact .inl #[q,e,∅,b]
    .exact .inr #[q,e,g,∅,b]
  .rw[d];refine .inl #[p,n,Qg _,I,c,?_];dsimp only;rw[I.wf.2]
def gA.no{m:Nat}{L W:Nat->Prop}{h:Int}{p:VG}{n:Nat}(I:gA m L W h p n)(b:∀j,W j->L j)(l:¬L p.j):(∀j,¬W j)/\Reach m L (st m h) p.j/\p.j<=m:=by refine#[λj a=>?_,I.bk _<|.here p,by have:=I.wf.1;lia];cases I.wt j a with|here=>exact l<|b _ a|step a _=>exact l a
structure Tab(t:Ur)(hs:Nat->Option Int)(n:Nat):Prop where
 m5:M5 t.mask
 dm:t.dummies=#[]
 sz:t.place.size=n
 gf:gB t.place
 top:∀i j:Nat,t.place[i]?=U j->j<=t.mask
 j7:∀(i j:Nat)(h:Int),t.place[i]?=U j->hs i=U h->Reach t.mask (Lv t.place) (st t.mask h) j
def Tab.start{t:Ur}{hs:Nat->Option Int}{n:Nat}(T:Tab t hs n)(a:n<=t.mask){W:Nat->Prop}(h:Int)(c:∀j,W j->∃i:Nat,t.place[i]?=U j/\hs i=U h):gA t.mask (Lv t.place) W h (st t.mask h)<|10*(t.mask+13):=by have#[e,b,a]:=yS (l:=t.place.toList) (n:=t.mask+1) (by rw[WD,T.sz];lia);have b:¬Lv t.place e:=λd=>e2 d λi q=>a<|Ua.mpr<|Array.mem_of_getElem? q;refine#[Pc<|t6 _ _,Hy T.m5 h ∅ b,λe r=>r,λj d=>?_];have#[i,a,b]:=c j d;exact T.j7 i j h a b
def Tab.put{t:Ur}{g:Array (Int×P7)}{n:Nat}{h:Int}{x:P7}{j:Nat}(T:Tab t (λi=>(g[i]?).map (·.1)) n)(a:g.size=n)(l:j<=t.mask)(hl:¬Lv t.place j)(hr:Reach t.mask (Lv t.place) (st t.mask h) j):
    Tab (t.put j).1 (λi=>((S6 g (t.put j).2 (h,x))[i]?).map (·.1)) (n+1)/\(t.put j).1.mask=t.mask/\(t.put j).2<=g.size:=by
 have#[f,m,o]:=vx (j:=j) T.gf;have b:t.place.size=g.size:=by rw[T.sz,a]
 have a:t.put j=({t with place:=S6 t.place (VY t.place j) j,dummies:=#[]},VY t.place j):=by unfold SetTable.put;dsimp only;rw[T.dm];rfl
 rw[a];have p:∀k,Lv t.place k->Lv (S6 t.place (VY t.place j) j) k:=λk a=>e2 a λi e=>by
  by_cases a:i<VY t.place j;.exact#[i,by rw[lI f,aaD a];exact e]
  .exact#[i+1,by rw[lI f,aaC ∅,aaC ∅];exact e]
 refine#[#[T.m5,G,?_,?_,?_,?_],G,by rw[<-b];exact f];.show(S6 t.place (VY t.place j) j).size=n+1;rw[xa f,T.sz]
 .show gB (S6 t.place (VY t.place j) j);intro i k a b q d c;rw[lI f]at d c;split at d
  .rename_i a;split at c;.exact T.gf _ _ _ _ q d c
   .split at c;.cases c;exact m _ _ a d
    .exact T.gf _ _ _ _ ∅ d c
  .rename_i a;rw[aaC ∅,aaC ∅]at c;split at d;.cases d;have a:=o _ _ ∅ c;have a:j≠b:=λz=>hl #[k-1,z▸c];lia
   .exact T.gf _ _ _ _ ∅ d c
 .intro i k e;have e:(S6 t.place (VY t.place j) j)[i]?=U k:=e;show k<=t.mask;rw[lI f]at e;split at e;.exact T.top _ _ e
  .split at e;.cases e;exact l
   .exact T.top _ _ e
 .intro i k b e a;have e:(S6 t.place (VY t.place j) j)[i]?=U k:=e;have a:((S6 g (VY t.place j) (h,x))[i]?).map (·.1)=U b:=a;show Reach t.mask (Lv<|S6 t.place (VY t.place j) j) (st t.mask b) k;rw[lI f]at e;rw[lI ∅]at a;refine Reach.mono p ?_;split at e;.rename_i c;rw[aaD c]at a;exact T.j7 _ _ _ e a
  .rename_i c;rw[aaC c]at a;split at e;.rename_i b;rw[aaD b]at a;cases e;cases a;exact hr
   .rename_i b;rw[aaC b]at a;exact T.j7 _ _ _ e a
def Oc(a:Array<|Option Nat)(j:Nat):Prop:=∃k:Nat,a[j]?=U (U k)
def lj{a:Array (Option Nat)}{m j:Nat}(hs:a.size=m+1)(b:j<=m):(a.getD j<|U 0).isNone=true↔¬Oc a j:=by have b:a[j]?=U (a[j]'∅):=Array.getElem?_eq_getElem ∅;rw[Array.getD_eq_getD_getElem?,Oc,b];cases a[j]'∅<;>simp
theorem BH{m i q k:Nat}{L:Nat->Prop}(hk:k<=UA m i-i)(h:∀a,a<k->L (i+a)):∀(b a:Nat),a+b=k->Reach m L (rp m i q a) (i+k)
 |0,a,e=>by
  obtain rfl:a=k:=by lia
  exact .here<|rp m i q a
 |b+1,a,e=>.step (h a ∅) (by rw[qT ∅];exact BH hk h b (a+1) ∅)
theorem BG{m i q j:Nat}{L:Nat->Prop}(h:∀a,a<=UA m i-i->L (i+a))(hr:Reach m L (rp m (WO m i q).1 (WO m i q).2 0) j):∀(b a:Nat),a+b=UA m i-i->Reach m L (rp m i q a) j|0,a,e=>.step (h a ∅) (by rw[vp ∅];exact hr)|b+1,a,e=>.step (h a ∅) (by rw[qT ∅];exact BG h hr b (a+1) ∅)
theorem wK{m:Nat}{d:Array (Option Nat)}(hs:d.size=m+1):∀(f i q:Nat),i<=m->(∃r,r<f/\¬Oc d (dP m r (i,q)).1)->∃j,Wo m d f i q=U j/\j<=m/\¬Oc d j/\Reach m (Oc d) (rp m i q 0) j
 |0,i,q,a,⟨r,h,_⟩=>absurd h<|Vj _|f+1,i,q,a,⟨r,b,g⟩=>by
  have b:=tK a;have a:UA m i+1-i=(UA m i-i)+1:=by unfold UA;split<;>lia
  unfold Wo;cases e:(Uy<|UA m i+1-i).find? λk=>(d.getD (i+k)<|U 0).isNone with
  |some k=>have#[a,b,c]:=List.find?_range_eq_some.mp e;have h:=Sr.mp b;refine#[i+k,G,∅,(lj hs ∅).mp a,BH ∅ (λx b=>?_) k 0 ∅];have:=c x b;exact Ta λz=>by rw[(lj hs ∅).mpr z]at this;cases this|none=>
   have all:∀a,a<=UA m i-i->Oc d (i+a):=λa b=>Ta λz=>by have:=List.find?_eq_none.mp e a<|Sr.mpr ∅;exact this<|(lj hs ∅).mpr z
   induction r with|zero=>exact absurd (all 0<|Q9 _) g|succ r=>have#[j,e,a,b,c]:=wK hs f (WO m i q).1 (WO m i q).2 (VS<|W8 _<|Xq _) #[r,∅,g];exact#[j,e,a,b,BG all c _ 0<|R0 _]
structure LI(m:Nat)(hs:List Int)(ow:Array (Option Nat))(k:Nat)(pl:List Nat):Prop where
 sz:ow.size=m+1
 ln:pl.length=k
 iff:∀j k':Nat,ow[j]?=U (U k')↔pl[k']?=U j
 j7:∀(k' j:Nat)(h:Int),pl[k']?=U j->hs[k']?=U h->Reach m (Oc ow) (st m h) j
theorem xC{m:Nat}(s:M5 m){hs:List Int}(hl:hs.length<=m):∀(rest:List Int)(d:Array<|Option Nat)(k:Nat)(pl:List Nat),LI m hs d k pl->k<=hs.length->hs.drop k=rest->
  ∃l n,(rest.foldl (init:=U (d,k)) λ(acc:Option<|Array (Option Nat)×Nat)h=>do
   let(owner,k)<-acc
   let j<-Wo m owner (Zz m) (V8 h%(m+1)) (V8 h)
   pure (owner.setIfInBounds j<|U k,k+1))=U (l,hs.length)/\LI m hs l hs.length n
 |[],d,k,pl,I,a,e=>by
  have:hs.length<=k:=Za.mp e;obtain rfl:k=hs.length:=by lia
  exact#[d,pl,G,I]
 |h::rest,d,k,pl,I,a,e=>by
  have o:k<hs.length:=by refine Ta λz=>?_;rw[List.drop_eq_nil_of_le ∅]at e;cases e
  have t:hs[k]?=U h/\hs.drop (k+1)=rest:=by rw[To o]at e;injection e with a b;exact#[by rw[<-a];exact List.getElem?_eq_getElem o,b]
  have#[x,e,c]:=yS (l:=pl) (n:=m+1) (by rw[I.ln];lia);have f:¬Oc d x:=λ⟨e,q⟩=>c<|List.mem_of_getElem?<|(I.iff x e).mp q;have#[r,g,c]:=xH s h (e:=x) ∅;have#[j,u,g,q,v]:=wK I.sz (Zz m) (V8 h%(m+1)) (V8 h) (t6 m h) #[r,by unfold Zz;lia,by rw[c];exact f];have f:j<d.size:=by rw[I.sz];lia
  have get:∀i:Nat,(d.setIfInBounds j<|U k)[i]?=if j=i then U (U k)else d[i]?:=λi=>by
   rw[Array.getElem?_setIfInBounds];by_cases c:j=i;.subst c;simp[f]
   .rw[aaC c,aaC c]
  have r:∀i,Oc d i->Oc (d.setIfInBounds j<|U k) i:=λi⟨a,b⟩=>by refine#[a,?_];rw[get,aaC<|by rintro rfl;exact q #[a,b]];exact b
  have w:LI m hs (d.setIfInBounds j<|U k) (k+1)<|pl++[j]:=by
   refine#[by rw[Array.size_setIfInBounds,I.sz],by rw[P5,I.ln];rfl,λi e=>?_,λe i x f p=>?_]
   .rw[get];constructor
    .intro z;split at z;.rename_i c;cases z;subst c;rw[<-I.ln,List.getElem?_append_right<|Qg _,YU];rfl
     .have g:=(I.iff i e).mp z;rw[List.getElem?_append_left (List.getElem?_eq_some_iff.mp g).1];exact g
    .intro z;by_cases c:e<pl.length;.rw[List.getElem?_append_left c]at z;have g:=(I.iff i e).mpr z;rw[aaC<|by rintro rfl;exact q #[_,g]];exact g
     .rw[List.getElem?_append_right ∅]at z;have g:=(List.getElem?_eq_some_iff.mp z).1;erw[P0,Qs]at g;have:e-pl.length=0:=by lia
      rw[this]at z;cases z;rw[aaD G];have:e=k:=by rw[<-I.ln];lia
      rw[this]
   .by_cases c:e<pl.length;.rw[List.getElem?_append_left c]at f;exact(I.j7 e i x f p).mono r
    .rw[List.getElem?_append_right ∅]at f;have g:=(List.getElem?_eq_some_iff.mp f).1;erw[P0,Qs]at g;have c:e-pl.length=0:=by lia
     rw[c]at f;cases f;obtain rfl:e=k:=by rw[<-I.ln];lia
     rw[t.1]at p;cases p;exact v.mono r
  have#[l,n,a,b]:=xC s hl rest (d.setIfInBounds j<|U k) (k+1) (pl++[j]) w o t.2;refine#[l,n,?_,b];rw[<-a,XP];congr 1;show((U (d,k)).bind λp=>(Wo m p.1 (Zz m) (V8 h%(m+1))<|V8 h).bind λj=>U (p.1.setIfInBounds j<|U p.2,p.2+1))=_;rw[P4,u];try rfl
def Jv{m:Nat}(d:M5 m){hs:Array Int}(hl:hs.size<=m):∃c pl,layClean m hs=U c/\LI m hs.toList c hs.size pl:=by
 have#[c,pl,a,b]:=xC d (hs:=hs.toList) (by simpa using hl) hs.toList (Array.replicate (m+1) O) 0 [] #[by simp,G,λj d=>by
  rw[Array.getElem?_replicate]
  constructor
  .intro z;split at z<;>cases z
  .intro z;simp at z,λd j h z=>by simp at z] (Q9 _) rfl
 refine#[c,pl,?_,by simpa using b];unfold layClean;rw[<-Array.foldl_toList];exact(congrArg (Y7 (·.1)) a).trans rfl
theorem wI{a b:Type}{f:a->Option b}:∀{l:List a},(∀x∈l,∃y,f x=U y)->(l.filterMap f).length=l.length/\∀i:Nat,(l.filterMap f)[i]?=l[i]?.bind f|[],_=>#[G,λi=>by simp]|a::l,h=>by have#[y,b]:=h a QE;have#[a,c]:=wI (l:=l) λx d=>h x<|Qk _ d;rw[List.filterMap_cons_some b];refine#[by rw[P0,a,P0],λi=>?_];induction i with|zero=>simp[b]|succ i=>simpa using c i
def Nr{t:Ur}{d:Array (Int×P7)}{a:Nat}(r:M5<|Uv a-1)(hl:d.size<=Uv a-1):
    ∃t' b,t.relaid (d.map (·.1)) a=U (t',b)/\(b.filterMap (d[·]?)).size=d.size/\Tab t' (λi=>((b.filterMap (d[·]?))[i]?).map (·.1)) d.size/\t'.mask=Uv a-1/\
     (∀e,e∈b.filterMap (d[·]?)↔e∈d):=by
 generalize z:Uv a-1=m at r hl⊢;have#[h,p,A,I]:=Jv r (hs:=d.map (·.1)) (by simpa using hl);have a:(d.map (·.1)).size=d.size:=Array.size_map;rw[a]at I;let c:=(Uy<|m+1).filterMap λj=>(h.getD j O).map (j,·);have l:∀j k:Nat,(j,k)∈c↔h[j]?=U (U k):=λj k=>by
  show(j,k)∈(Uy<|m+1).filterMap (λj=>(h.getD j O).map (j,·))↔_;rw[Uz];constructor;.rintro⟨g,a,e⟩;rw[Array.getD_eq_getD_getElem?]at e;cases q:h[g]? with|none=>rw[q]at e;cases e|some o=>rw[q]at e;induction o with|none=>cases e|some o=>cases e;exact q
  .intro e;have:=(Array.getElem?_eq_some_iff.mp e).1;exact#[j,Sr.mpr<|by rw[<-I.sz];exact this,by rw[Array.getD_eq_getD_getElem?,e];rfl]
 have u:c.Pairwise λa b=>a.1<b.1:=by show((Uy<|m+1).filterMap (λj=>(h.getD j O).map (j,·))).Pairwise _;rw[List.pairwise_filterMap];refine Vb (R:=(·<·)) (λ{a b}w x f y n=>?_) List.pairwise_lt_range;cases s:h.getD a O with|none=>rw[s]at f;cases f|some v=>rw[s]at f;cases f;cases s:h.getD b O with|none=>rw[s]at n;cases n|some v=>rw[s]at n;cases n;exact w
 have s:∀j k:Nat,(j,k)∈c->k<d.size:=λj k h=>by have:=(List.getElem?_eq_some_iff.mp<|(I.iff j k).mp<|(l j k).mp h).1;rw[I.ln]at this;exact this
 have v:∀k,k<d.size->∃j,(j,k)∈c:=λk n=>by
  have:k<p.length:=by rw[I.ln];exact n
  exact#[p[k],(l _ _).mpr<|(I.iff _ _).mpr<|List.getElem?_eq_getElem this]
 have w:c.length=d.size:=by
  refine Nat.le_antisymm ?_ ?_
  .have:=sub_len (l:=c.map (·.1)) (m:=p) (T6.mpr<|u.imp λh=>QC h) λx f=>by have#[#[j,k],h,rfl]:=Ro.mp f;exact List.mem_of_getElem?<|(I.iff j k).mp<|(l j k).mp h
   rw[Qe,I.ln]at this;exact this
  .have:=sub_len (l:=Uy d.size) (m:=c.map (·.2)) aaa λx f=>by have#[j,h]:=v x<|Sr.mp f;exact Ro.mpr #[_,h,G]
   rw[Qe,ZW]at this;exact this
 have p:∀x∈c.map (·.2),∃y,d[x]?=U y:=λx f=>by have#[#[j,k],h,rfl]:=Ro.mp f;exact#[_,Array.getElem?_eq_getElem<|s j k h]
 have#[y,B]:=wI p;have s:(((c.map (·.2)).toArray).filterMap (d[·]?))=((c.map (·.2)).filterMap (d[·]?)).toArray:=by simp
 have get:∀i:Nat,(((c.map (·.2)).toArray).filterMap (d[·]?))[i]?=(c[i]?).bind λp=>d[p.2]?:=λi=>by rw[s,List.getElem?_toArray,B i,List.getElem?_map];cases c[i]?<;>rfl
 refine#[{mask:=m,place:=(c.map (·.1)).toArray,dummies:=#[],finger:=t.finger,led:=t.led,moves:=t.movedTo m,plain:=t.plain},(c.map (·.2)).toArray,?_,?_,#[r,G,?_,?_,?_,?_],G,?_];.unfold relaid laid;rw[z,A];rfl
 .rw[s,Qw,y,Qe,w]
 .show((c.map (·.1)).toArray).size=d.size;rw[Qw,Qe,w]
 .show gB (c.map (·.1)).toArray;intro i j a b y r w;rw[List.getElem?_toArray]at r w;have#[a,b]:=List.getElem?_eq_some_iff.mp r;have#[r,z]:=List.getElem?_eq_some_iff.mp w;have:=List.pairwise_iff_getElem.mp (T6.mpr u:(c.map (·.1)).Pairwise (·<·)) i j a r y;rw[b,z]at this;exact this
 .intro i j e;have e:((c.map (·.1)).toArray)[i]?=U j:=e;rw[List.getElem?_toArray]at e;have#[#[g,k],h,rfl]:=Ro.mp<|List.mem_of_getElem? e;have:=(Array.getElem?_eq_some_iff.mp<|(l g k).mp h).1;show g<=m;rw[I.sz]at this;lia
 .intro i j h e a;have e:((c.map (·.1)).toArray)[i]?=U j:=e;have a:((((c.map (·.2)).toArray).filterMap (d[·]?))[i]?).map (·.1)=U h:=a;show Reach m (Lv (c.map (·.1)).toArray) (st m h) j;rw[List.getElem?_toArray,List.getElem?_map]at e;rw[get]at a;cases q:c[i]? with
  |none=>rw[q]at e;cases e|some p=>
   have#[g,k]:=p;rw[q]at e a;cases e;have b:=List.mem_of_getElem? q;refine Reach.mono (λx⟨o,f⟩=>?_)<|I.j7 k g h ((I.iff g k).mp<|(l g k).mp b) ?_;.rw[Array.getElem?_toList,Array.getElem?_map];exact a
   .have#[a,b]:=List.mem_iff_getElem?.mp (Ro.mpr #[(x,o),(l x o).mpr f,G]:x∈c.map (·.1));exact#[a,by rw[List.getElem?_toArray];exact b]
 .intro e;rw[s];erw[List.mem_toArray,Uz];constructor;.rintro⟨k,_,h⟩;exact Array.mem_of_getElem? h
  .intro h;have#[k,n,rfl]:=YL.mp h;have#[j,a]:=v k n;exact#[k,Ro.mpr #[_,a,G],Array.getElem?_eq_getElem n]
section
variable{prog:Rb}{w:RO}{K:Type}[DecidableEq K]{knd:W6 prog w K}{A:Rq}{E:P7->P9->Prop}{s:P9}
def Hb(n:Nat)(h:U6 v=true):V5 n v=pure false:=by induction v with|ref a=>simp[U6]at h|_=>induction n<;>rfl
def vQ{Q:Bool->P9->Prop}(hk:Rl knd s.heap ks a)(h:Q false s):Qn (Qt prog w) A (V5 8<|.ref a) Q E s:=by
 have b:=hk.typeIs;have#[o,c,n,d,_,e,f]:=hk;unfold V5;refine Qb<|Wt b ?_;dsimp only;rw[aaD<|by decide];refine Qb<|Qo ?_;erw[QR,P1,aaF];refine Qb<|WY d e ?_;refine Qb ?_;show Qn _ _ (forIn c _ _) _ _ s;rw[<-Zp];refine Wk _ (λd r b=>r.1=O/\b=s/\∀v∈d,U6 v=true) _ ?_ ?_ _ _ #[G,G,f.byValue];.rintro v d r b⟨c,rfl,e⟩;rw[Hb _<|e v QE];refine Qb<|Qo ?_;erw[P1,aaF];exact Qo #[G,G,λu d=>e u<|Qk _ d]
 .rintro⟨d,e⟩b⟨c,rfl,_⟩;simp only at c;subst c;exact Qo h
def OY(hk:Rl knd s.heap k b)(l:∀y∈ys,∃c a,y=.ref a/\Rl knd s.heap c a){Q:Bool->P9->Prop}(h:Q false s):
    Qn (Qt prog w) A (searchCouldBeSeen (.ref b) ys) Q E s:=by
 unfold searchCouldBeSeen;refine Qb ?_;refine Wk _ (λf r d=>r.1=O/\d=s/\∀y∈f,∃c a,y=.ref a/\Rl knd s.heap c a) _ ?_ ?_ _ _ #[G,G,l]
 .rintro y f r d⟨e,rfl,g⟩;have#[c,a,rfl,i]:=g y QE;have j:=λu m=>g u<|Qk _ m;dsimp only;split;.exact Qo #[G,G,j]
  .refine Qb (Z4 hk ?_);erw[QR,P1,aaF];refine Qb<|Z4 i ?_;erw[QR,P1,aaF];refine Qb<|vQ hk ?_;erw[P1,aaF];refine Qb<|vQ i ?_;erw[P1,aaF];exact Qo #[G,G,j]
 .rintro⟨n,o⟩d⟨e,rfl,_⟩;simp only at e;subst e;exact Qo h
def FW{n:Nat}(h:U6 v=true):∃c,Yn n v=pure c:=by induction v with|ref a=>simp[U6]at h|_=>first|exact#[_,G]|(unfold Yn;exact#[_,G])
def IC{Q:Bool->P9->Prop}(hk:Rl knd s.heap ks a)(h:∀c,Q c s):Qn (Qt prog w) A (Yn 8<|.ref a) Q E s:=by
 have b:=hk.typeIs;have#[o,d,n,e,_,f,g]:=hk;unfold Yn;refine Qb<|wpAny_specialOf b F.slot_tuple_hash.lookup ?_;dsimp only;refine Qb<|WY e f ?_;refine Qb ?_;show Qn _ _ (forIn d _ _) _ _ s;rw[<-Zp];refine Wk _ (λe r b=>(r.1=O)/\b=s/\∀v∈e,U6 v=true) _ ?_ ?_ _ _ #[G,G,g.byValue]
 .rintro v e r b⟨d,rfl,f⟩;have#[c,e]:=FW (n:=7)<|f v QE;rw[e];refine Qb<|Qo ?_;cases c;.erw[QN,aaE];exact Qo<|Qo<|h false
  .erw[QR,P1,aaF];exact Qo #[G,G,λu e=>f u<|Qk _ e]
 .rintro⟨e,f⟩b⟨d,rfl,_⟩;simp only at d;subst d;exact Qo<|h true
end
section
variable{prog:Rb}{w:RO}{K:Type}[DecidableEq K]{knd:W6 prog w K}{A:Rq}{E:P7->P9->Prop}{s:P9}
def gB.inj(h:gB xs){i j a:Nat}(b:xs[i]?=U a)(e2:xs[j]?=U a):i=j:=by
 rcases Xr i j with c|c|c;.exact absurd (h _ _ _ _ c b e2)<|RP _
 .exact c
 .exact absurd (h _ _ _ _ c e2 b)<|RP _
def M5.odd{m:Nat}(h:M5 m):(m%2==0)=false:=by rcases h with rfl|rfl|rfl|rfl|rfl<;>rfl
def Tab.fits{t:Ur}{hs:Nat->Option Int}{n:Nat}(T:Tab t hs n)(a:n<=t.mask):t.fits n=true:=by simp[SetTable.fits,ZS,T.sz,T.dm,a]
theorem BL{o:S1}{d:Array (Int×P7)}{W:Nat}{t:Ur}{n:Nat}(x:s.heap.get? a=U o)(hd:o.data=.set d W t)(T:Tab t (λi=>(d[i]?).map (·.1)) n)(z:d.size=n)(L:n<=t.mask)(B:∀e∈d,∃k b,e=(RL knd k,.ref b)/\Rl knd s.heap k b)(hk:Rl knd s.heap k b)(M:A.units<Uq){Q:SetFound->P9->Prop}(N:(∃c,(RL knd k,.ref c)∈d/\Rl knd s.heap k c)->Q (.there O) s)(P:(¬∃c,(RL knd k,.ref c)∈d/\Rl knd s.heap k c)->∀j,¬Lv t.place j->j<=t.mask->Reach t.mask (Lv t.place) (st t.mask<|RL knd k) j->Q (.free j false) s):
  ∀(f g:Nat)(p:Option VG),gA t.mask (Lv t.place) (λj=>∃(i:Nat)(c:P2),t.place[i]?=U j/\d[i]?=U (RL knd k,.ref c)/\Rl knd s.heap k c) (RL knd k) (p.getD<|st t.mask<|RL knd k) g->g<f->g<10*Zz t.mask->
   Qn (Qt prog w) A (setSearchFrom a (.ref b) (RL knd k) true f p) Q E s
 |0,g,p,I,R,_=>absurd R<|Vj _|f+1,g,p,I,R,X=>by
  have S:t.fits d.size=true:=by rw[z];exact T.fits L
  refine Qb<|U3 x hd S ?_;dsimp only;rw[aaC<|by unfold SetTable.gaveWay;rw[T.m5.odd];exact Qu];generalize h:SetTable.probe t _ _ _=Y;have h:YP t (λi=>((d[i]?).map (·.1)).getD 0) (RL knd k) (10*Zz t.mask) (p.getD<|st t.mask<|RL knd k)=Y:=h;rcases wU T.dm T.gf (hashAt:=λi=>((d[i]?).map (·.1)).getD 0) (λi j Z q2⟨i',c,C,r,_⟩=>by
   obtain rfl:=T.gf.inj Z C
   exact q2<|by simp[r]) (10*Zz t.mask) g _ I X with⟨q,n2,h1,D,l,F⟩|⟨q,n2,i,h1,D,l,aa,F,h5⟩
  .rw[F]at h;subst h;dsimp only;have#[x1,x2,x3]:=D.no (λj⟨i,_,e,_⟩=>#[i,e]) l;refine Qo<|P (λ⟨c,m1,m2⟩=>?_) q.j l x3 x2;have#[i,u,e]:=YL.mp m1;have ab:i<t.place.size:=by rw[T.sz,<-z];exact u
   exact x1 _ #[i,c,Array.getElem?_eq_getElem ab,by rw[Array.getElem?_eq_getElem u,e],m2]
  .rw[h5]at h;subst h;dsimp only;have u:i<d.size:=by have:=(Array.getElem?_eq_some_iff.mp l).1;rw[T.sz]at this;lia
   have m:d[i]?=U d[i]:=Array.getElem?_eq_getElem u;have#[v,c,ek,H]:=B d[i]<|Array.getElem_mem u;rw[ek]at m;have hh:RL knd v=RL knd k:=by have:=F;rw[m]at this;exact this
   have J:∀y∈(d.filter (·.1==RL knd k)).toList.map (·.2),∃v c,y=.ref c/\Rl knd s.heap v c:=λy J=>by have#[e,he,rfl]:=Ro.mp J;have#[k2,V,rfl,h2]:=B e (Array.mem_filter.mp<|Ua.mp he).1;exact#[k2,V,G,h2]
   split;case' isTrue=>refine Qb<|OY hk J ?_;rw[aaC Qu]
   all_goals
    rw[m]
    dsimp only
    refine Qb<|Sg<|wpAny_eqBool_tuple M H hk ?_
    refine Qb<|U3 x hd S ?_
    dsimp only
    by_cases K:v=k
    .subst K
     rw[decide_eq_true G]
     exact Qo<|N #[c,Array.mem_of_getElem? m,H]
    .rw[decide_eq_false K]
     erw[Ya,P1,aaF]
     have ac:t.sameMemory t.moves t.mask=U true:=by simp[SetTable.sameMemory]
     rw[ac]
     dsimp only
     rw[aaD G,aa]
     dsimp only
     rw[m]
     dsimp only
     have#[n3,rfl,I3]:=D.next #[i,l] (λ⟨i',V,C,r,q5⟩=>by
      obtain rfl:=T.gf.inj l C
      rw[m]at r
      erw[QS,SR,Y5]at r
      have#[_,rfl]:=r
      exact K<|H.inj q5)
     have next:=BL x hd T z L B hk M N P f n3 (U<|el t.mask q) I3 ∅ ∅
     refine Qb<|wpAny_isSame_ref_self ?_
     rw[aaD G]
     refine Qb<|Qo ?_
     exact next
end
section
variable{prog:Rb}{w:RO}{K:Type}[DecidableEq K]
def ic(knd:W6 prog w K)(h:Q7)(a:P2)(acc:List<|List K):Prop:=
 ∃o c b t,h.get? a=U o/\o.ExactSet/\o.data=.set c b t/\Tab t (λi=>(c[i]?).map (·.1)) acc.length/\c.size=acc.length/\acc.length*5<t.mask*3/\
  (∀e∈c,∃k b,k∈acc/\e=(RL knd k,.ref b)/\Rl knd h k b)/\∀k∈acc,∃b,(RL knd k,QY b)∈c/\Rl knd h k b
variable{knd:W6 prog w K}{A:Rq}{E:P7->P9->Prop}{s:P9}
def grow{m n:Nat}(h:M5 m)(a:n*5<m*3)(b:m*3<=(n+1)*5)(c:n+1<=1000):
    M5 (Uv (grown<|n+1)-1)/\(n+1)*5<(Uv (grown<|n+1)-1)*3/\Uv (grown<|n+1)<=2048:=by
 rcases h with rfl|rfl|rfl|rfl|rfl
 .obtain rfl:n=4:=by lia
  exact#[.inr<|.inl G,by decide,by decide]
 .obtain rfl:n=18:=by lia
  exact#[.inr<|.inr<|.inl G,by decide,by decide]
 .obtain rfl:n=76:=by lia
  exact#[.inr<|.inr<|.inr<|.inl G,by decide,by decide]
 .obtain rfl:n=306:=by lia
  exact#[.inr<|.inr<|.inr<|.inr G,by decide,by decide]
 .lia
def mz{h h':Q7}{a b:P2}(x:Rl knd h k b)(e:∀o,h.get? b=U o->h'.get? b=U o):Rl knd h' k b:=by have#[o,c,n,d,r]:=x;exact#[o,c,n,e _ d,r]
def rZ{h:Q7}(x:Rl knd h k b)(e:h.get? a=U o)(f:o.ExactSet):b≠a:=by rintro rfl;have#[g,_,_,c,d,_]:=x;rw[e]at c;cases c;rw[f.1]at d;exact absurd d (by decide)
def Tab.plain{hs:Nat->Option Int}{n:Nat}(T:Tab t hs n)(c:Bool):Tab {t with plain:=c} hs n:=#[T.m5,T.dm,T.sz,T.gf,T.top,T.j7]
def JY{a:Array (Int×P7)}{p:Nat}(h:p<=a.size)(e:Int×P7):e∈S6 a p x↔e∈a\/e=x:=by
 have q:(S6 a p x).toList=a.toList.take p++x::a.toList.drop p:=by unfold S6;simp[Zc,ZH,Y2,List.extract];exact SX (by simp)
 rw[<-Ua,q,RW,Qp,<-Ua];constructor
 .rintro(z|z|z);.exact .inl<|Y9 z
  .exact .inr z
  .exact .inl<|U9 z
 .rintro(z|z)
  .rw[<-Te p a.toList]at z;rcases RW.mp z with z|z;.exact .inl z
   .exact .inr<|.inr z
  .exact .inr<|.inl z
noncomputable def fD(acc:List<|List K)(k:List K):List<|List K:=if k∈acc then acc else acc++[k]
def Nt{o:S1}{b:Array (Int×P7)}{g:Nat}{t:Ur}{c:Nat}{Q:Unit->P9->Prop}(f:s.heap.get? a=U o)(hd:o.data=.set b g t)(j:t.fits b.size=true)(k:M5 (Uv c-1))(hl:b.size<=Uv c-1)(hz:Uv c<=2048)(h:∀d t',d.size=b.size->Tab t' (λi=>(d[i]?).map (·.1)) b.size->t'.mask=Uv c-1->(∀e,e∈d↔e∈b)->Q () {s with heap:=s.heap.update a (Yg d t')}):
    Qn (Qt prog w) A (setRelay a c) Q E s:=by
 obtain⟨t',d,g,c,l,m,n⟩:=Nr (t:=t) k hl;unfold setRelay;refine Qb (U3 f hd j ?_);dsimp only
 rw[if_neg (by have:(2048:Nat)<=Qq:=by decide
               omega),g]
 refine Qb ?_;show Qn _ _ (ite (((d.filterMap (b[·]?)).size !=b.size)=true) _ _) _ _ _;rw[if_neg (by rw[c];simp)];refine Qo ?_;dsimp only
 exact wpAny_storeSet_of f hd (h _ _ c l m n) (by
  have:(2048:Nat)<=Qq:=by decide
  omega)
def FH{acc:List (List K)}{Q:Bool->P9->Prop}(hu:A.units<Uq)(hS:ic knd s.heap a acc)(hk:Rl knd s.heap k b)(hn:acc.length+1<=1000)(h:∀h' c,Vo a s.heap h'->ic knd h' a (fD acc k)->Q c {s with heap:=h'}):
    Qn (Qt prog w) A (setAddHashed a (.ref b)<|RL knd k) Q E s:=by
 have#[o,v,X,t,n,C,x,T,y,ak,N,Y]:=hS;have Z:acc.length<=t.mask:=by lia
 have al:t.fits v.size=true:=by rw[y];exact T.fits Z
 have m5:t.mask<=2047:=by rcases T.m5 with e|e|e|e|e<;>lia
 unfold setAddHashed setAddHashedIn;refine Sg<|Qb<|U3 n x al ?_;dsimp only;rw[aaC<|by intro z;cases z];refine Qb ?_;unfold setSearch;refine BL n x T y Z (λe D=>let⟨k,b,_,F,H⟩:=N e D;#[k,b,F,H]) hk hu (λ⟨l,r,q⟩=>?_) (λa2 j j1 j2 j3=>?_) 100000 (10*(t.mask+13)) O
  (T.start Z _ λj⟨i,l,F,H,_⟩=>#[i,F,by simp[H]]) ∅ (by unfold Zz;lia)
 .have a3:k∉acc:=λm=>a2 (Y k m);dsimp only;refine Qb<|U3 n x al ?_;dsimp only;have#[B,I,P]:=T.put (x:=.ref b) y j2 j1 j3;generalize a7:t.put j=tp at B I P⊢;have#[R,p]:=tp;dsimp only at B I P⊢;generalize am:S6 v p (RL knd k,QY b)=g at B⊢;have J:g.size=acc.length+1:=by rw[<-am,xa P,y]
  have a4:g.size<=Qq:=by rw[J];exact QW hn (by decide)
  have aa:(acc++[k]).length=acc.length+1:=by simp
  have a8:b≠a:=rZ hk n C;have ab:∀e,e∈g↔e∈v\/e=(RL knd k,QY b):=λe=>by rw[<-am];exact JY P e
  have ap:∀(h':Q7)(L:S1)(f:Array<|Int×P7)(ac:Nat)(d:Ur),Vo a s.heap h'->h'.get? a=U L->L.ExactSet->L.data=.set f ac d->Tab d (λi=>(f[i]?).map (·.1)) (acc.length+1)->f.size=acc.length+1->(acc.length+1)*5<d.mask*3->(∀e,e∈f↔e∈g)->Q true {s with heap:=h'}:=by
   intro h' L f ac d M F H e3 e4 e5 e6 e7;have S:∀{u:List K}{l:P2},Rl knd s.heap u l->Rl knd h' u l:=λ{u l}z=>by have z2:=rZ z n C;exact mz (a:=a) z λo e=>by rw[M.2 _ z2];exact e
   refine h h' true M ?_;unfold fD;rw[aaC a3];refine#[L,f,ac,d,F,H,e3,by rw[aa];exact e4,by rw[aa];exact e5,by rw[aa];exact e6,λe D=>?_,λu a5=>?_]
   .rcases(ab e).mp ((e7 e).mp D)with D|rfl;.have#[u,l,m,r,q]:=N e D;exact#[u,l,Si _ m,r,S q]
    .exact#[k,b,RF _ QE,G,S hk]
   .rcases RW.mp a5 with m|m;.have#[l,r,q]:=Y u m;exact#[l,(e7 _).mpr<|(ab _).mpr<|.inl r,S q]
    .obtain rfl:=RN.mp m;exact#[b,(e7 _).mpr<|(ab _).mpr<|.inr G,S hk]
  have up:∀(hp:Q7)(V:S1)(e0:Array<|Int×P7)(ad:Nat)(t0:Ur)(f:Array<|Int×P7)(d:Ur),hp.get? a=U V->V.data=.set e0 ad t0->(hp.update a<|Yg f d).get? a=U {V with data:=.set f (ad+1) d}:=λhp V e0 ad t0 f d r q=>by have:=Q7.get?_update_self (Yg f d) r (by rw[putSet_of f d q];rfl);rw[putSet_of f d q]at this;exact this
  have tail:∀d:Ur,Tab d (λi=>(g[i]?).map (·.1)) (acc.length+1)->d.mask=t.mask->Qn (Qt prog w) A (storeSet a g d>>=λ_=>if(!false&&d.tooFull)=true then(setRelay a (grown<|v.size+1)>>=λ_=>pure true)else pure true) Q E s:=λd W av=>by
   refine Qb<|wpAny_storeSet_of n x ?_ a4;have hg:=up s.heap o v X t g d n x;have M:=XU s.heap a<|Yg g d;have a0:d.tooFull=decide ((acc.length+1)*5>=t.mask*3):=by unfold SetTable.tooFull ZS;rw[W.dm,W.sz,av];rfl
   by_cases hf:(acc.length+1)*5>=t.mask*3;.rw[aaD<|by rw[a0];simpa using hf];have#[g1,g2,g3]:=grow T.m5 ak hf hn;rw[y];refine Qb<|Nt (t:=d) hg G (by rw[J];exact W.fits ∅) g1 ∅ g3 λf t3 r1 r2 r3 r4=>?_;refine Qo<|ap _ _ f _ t3 (M.trans<|XU _ a _) (up _ _ g (X+1) d f t3 hg G) ?_ G (by rw[J]at r2;exact r2) (by rw[r1,J]) (by rw[r3];exact g2) r4;exact C
   .rw[aaC<|by rw[a0];simpa using hf];refine Qo<|ap _ _ g _ d M hg ?_ G W J (by rw[av];lia) λe=>Iff.rfl;exact C
  by_cases a1:R.plain=true
  .rw[aaD a1];refine Qb<|IC hk λc=>?_;cases c;.exact tail {R with plain:=false} (B.plain false) I
   .exact tail R B I
  .rw[aaC a1];exact Qb<|Qo<|tail R B I
 .dsimp only;refine Qo ?_;have a6:k∈acc:=by have#[k2,b2,m,e,i2]:=N _ r;erw[SR,Y5]at e;have#[_,rfl]:=e;rw[q.inj i2];exact m
  have:=h s.heap false (Heap.SameBut.refl a s.heap) (by unfold fD;rw[aaD a6];exact#[o,v,X,t,n,C,x,T,y,ak,N,Y]);exact this
end
section
variable{prog:Rb}{w:RO}{K:Type}[DecidableEq K]{knd:W6 prog w K}{A:Rq}{E:P7->P9->Prop}
def BP{h h':Q7}(x:ic knd h a acc)(e:∀o,h.get? a=U o->h'.get? a=U o)(k:∀k b,Rl knd h k b->Rl knd h' k b):ic knd h' a acc:=by have#[o,c,d,t,f,g,i,j,l,m,n,p]:=x;exact#[o,c,d,t,e _ f,g,i,j,l,m,λe g=>let⟨c,b,d,f,i⟩:=n e g;#[c,b,d,f,k _ _ i],λc g=>let⟨b,d,f⟩:=p c g;#[b,d,k _ _ f]]
def xl{i:Nat}(x:Rl knd h k b)(y:h.IsListIter a l i):b≠a:=by rintro rfl;have#[e,_,_,c,d,_]:=x;have#[o,e,f,_]:=y;rw[e]at c;cases c;rw[f]at d;exact absurd d (by decide)
theorem CP{R:Ye->P9->Prop}{items:Array P7}(u:A.handled=O)(m:A.units+1<Uq)(v:l≠I)(f:S≠I)(x:S≠l):
  ∀(rest:List<|List K×P2)(i:Nat)(acc:List<|List K)(s:P9),items.size=i+rest.length->acc.length+rest.length<=1000->
   (∀q∈rest,Rl knd s.heap q.1 q.2)->(∀(j:Nat)(q:List K×P2),rest[j]?=U q->items[i+j]?=U (.ref q.2))->
   s.heap.IsListIter I l i->s.heap.IsList l items->ic knd s.heap S acc->
   (∀h' tk,ic knd h' S ((rest.map (·.1)).foldl fD acc)->(∀b o,b≠S->b≠I->s.heap.get? b=U o->h'.get? b=U o)->R (.ok<|.ret .none) {s with heap:=h',toks:=tk})->
   Vm (Qt prog w) A (.builtin "set.update.loop" #[[.ref S,.ref I],[]]) R s
 |[],i,acc,s,d,y,n,r,a,c,p,t=>by refine T9 VR ?_;rw[Tj T4];show Qn _ A.in1 (XA (.ref I)>>=_) _ _ s;refine Qb<|Vg (A:=A.in1) u a c (by simp at d;simp;lia) λh' g=>?_;exact Qo<|t h' s.toks (BP p (λo q=>g S o f q) λk b z=>mz (a:=S) z λo e=>g _ o (xl z a) e) λb o _ h e=>g b o h e|q::rest,i,acc,s,d,y,n,r,a,c,p,t=>by
  have h:=r 0 q rfl;have B:=n q QE;rw[P0]at d y;refine T9 VR ?_;rw[Tj T4];show Qn _ A.in1 (XA (.ref I)>>=_) _ _ s;refine Qb<|U4 (x:=.ref q.2) a c (by simpa using h) λd y g=>?_;have h:∀{k:List K}{b:P2},Rl knd s.heap k b->Rl knd d k b:=λ{k b}z=>mz (a:=S) z λo e=>g.extBut _ o (xl z a) e;have C:d.IsList l items:=c.extBut g.extBut v;have a:ic knd d S acc:=BP p (λo z=>g.extBut S o f z) λk b z=>h z;show Qn _ A.in1 (U5 [QY q.2] (setAdd S<|.ref q.2)>>=_) _ _ _;refine Qb<|Sg ?_;unfold setAdd;refine Sg<|Qb<|wpAny_pyHash_tuple m (h B) ?_;have c:=a;have#[c,_,_,_,p,D,_]:=id a;refine FH (s:={s with heap:=d,toks:=s.toks+(q.1.length+1)}) m a (h B) ∅ λB c a E=>?_;have F:∀{k:List K}{b:P2},Rl knd d k b->Rl knd B k b:=λ{k b}z=>mz (a:=S) z λo e=>a.extBut _ o (rZ z p D) e;have d:(fD acc q.1).length<=acc.length+1:=by unfold fD;split<;>simp
  refine Qo #[UH T4 _,CP (items:=items) u m v f x rest (i+1) (fD acc q.1) _ ∅ ∅ (λp d=>F<|h<|n p<|Qk _ d) (λj p e=>?_) ?_ ?_ E λh' tk d k=>?_];.have:=r (j+1) p (by simpa using e);rw[show i+1+j=i+(j+1) by lia];exact this
  .exact y.at λh e=>a.extBut I h (Q4 f) e
  .exact C.extBut a.extBut<|Q4 x
  .exact t h' tk d λc d f h e=>k c d f h<|a.extBut c d f<|g.extBut c d h e
end
section
variable{prog:Rb}{w:RO}{K:Type}[DecidableEq K]{knd:W6 prog w K}{A:Rq}{E:P7->P9->Prop}
def N5{h:Q7}{b:Bool}(e:h.get? a=U {cls:=.type '_',dict:=O,data:=.set #[] 0 (.fresh 0 0 b)}):ic knd h a []:=
 #[_,_,_,_,e,#[G,G,G],G,#[.inl G,G,G,λi j a b _ z=>by simp[Xw]at z,λi j z=>by simp[Xw]at z,λi j h z=>by simp[Xw]at z],G,by show 0*5<7*3;decide,λe b=>by simp at b,λk b=>by simp at b]
def GO{s:P9}{items:Array P7}{prs:List (List K×P2)}{Q:P7->P9->Prop}(p:A.handled=O)(a:A.units+4<Uq)(hl:s.heap.IsList l items)(hsz:items.size=prs.length)(t:prs.length<=1000)(u:∀q∈prs,Rl knd s.heap q.1 q.2)(v:∀(j:Nat)(q:List K×P2),prs[j]?=U q->items[j]?=U (.ref q.2))(h:∀h' tk,ic knd h' s.heap.objs.size ((prs.map (·.1)).foldl fD [])->(∀b o,s.heap.get? b=U o->h'.get? b=U o)->Q (.ref s.heap.objs.size) {s with heap:=h',toks:=tk}):
    Qn (Qt prog w) A (call (.type '_') [.ref l]) Q E s:=by
 have#[_,_,a]:=Sw.mro;have a:=Sw.made;have a:=Sw.sub;have a:=Sw.notType;have a:=Sw.canCreate;have a:=PySem.F.typeCall_set_1<|.ref l;refine YN<|codeAny_of_tree (show Qn _ _ (callAny (.type '_') _) _ _ _ from Qo #[Code.quiet_builtin _<|by decide+kernel,T9 PySem.F.entry_type_call ?_]);rw[Around.under_plain (weight_type_call_type _ _ _) G];repeat any_goals first|assumption|wp_step
 refine VI (code_set_new_1 (.ref l) (E:=E) (Q₁:=λd e=>∃c:Bool,d=.ref s.heap.objs.size/\e={s with heap:=s.heap.push {cls:=.type '_',dict:=O,data:=.set #[] 0 (.fresh 0 0 c)}}) λc=>⟨c,G,G⟩) λr e a=>?_;rcases r with e|f;.exact a
 rcases f with _|_|_|d;.exact a.elim
 .exact a.elim
 .exact a.elim
 have#[c,rfl,rfl]:=a;generalize a:s.heap.push {cls:=.type '_',dict:=O,data:=.set #[] 0 (.fresh 0 0 c)}=h0;have k:h0.get? s.heap.objs.size=U {cls:=.type '_',dict:=O,data:=.set #[] 0 (.fresh 0 0 c)}:=by rw[<-a];exact Q7.get?_push_size _ rfl
 have g:∀b o,s.heap.get? b=U o->h0.get? b=U o:=λb o e=>by rw[<-a];exact Q7.get?_push_of_some _ e
 have i:h0.objs.size=s.heap.objs.size+1:=by rw[<-a,RU]
 have a:Shared.TypeIs {s with heap:=h0} (.ref s.heap.objs.size) '_':=#[_,k,G];have c:=Sw.init.lookup;have c:=Sw.init.bind<|.ref s.heap.objs.size;repeat any_goals first|assumption|wp_step
 have c:h0.IsList l items:=hl.at λo e=>g _ _ e;refine VI (W4 (R:=wants (λr d=>r=.none/\Q (.ref s.heap.objs.size) d) E) Sw.init.plain PySem.F.entry_set_init<|check_set_init_1 a ?_) λr d a=>?_
 .have#[x,y,d,z,m]:=c;have n:l<s.heap.objs.size:=let⟨o,e,_⟩:=hl;Qi e;have#[B,C,D,F]:=x;simp only at d m;subst d m;have d:=PySem.F.sub_list_set;have d:=PySem.F.sub_list_frozenset;have d:(XS '4'==XS '7')=false:=by decide
  have c:h0.IsList l items:=#[_,y,G,z,G];unfold V6.«set.__init__» noKeywords aan;generalize d:pyIter=m;wp_walk;subst d;refine V4 c<|Qb<|wpAny_runValue ?_;have d:∀b o,h0.get? b=U o->(h0.push {cls:=.type 'R',data:=.fields (Rc [.ref l,.int 0 0])}).get? b=U o:=λb o e=>Q7.get?_push_of_some _ e;have m:∀{b:P2}{o:S1},s.heap.get? b=U o->b≠s.heap.objs.size/\b≠h0.objs.size:=λ{b o}e=>by have:=Qi e;exact#[QC this,by rw[i];exact QC<|UO this]
  refine CP (knd:=knd) (items:=items) (S:=s.heap.objs.size) (I:=h0.objs.size) (l:=l) (by simp[p]) ?_ (by rw[i];exact QC<|UO n) (by rw[i];exact QC<|S8 _) (TZ n) prs 0 [] _ (by rw[hsz,R0]) (by simpa using t)
   (λq i=>mz (a:=l) (u q i) λo e=>d _ _<|g _ _ e) (λj q e=>by rw[R0];exact v j q e) #[_,Q7.get?_push_size _ G,G,G] (c.at λo e=>d _ _ e) (N5<|d _ _ k) λh' tk c k=>?_
  .show A.units+1+1+1<Uq;lia
  .refine Qo ?_;refine Qo #[G,h h' tk c λb o e=>k b o (m e).1 (m e).2<|d _ _<|g _ _ e]
 .rcases r with e|f;.exact a
  rcases f with _|_|_|v;.exact a.elim
  .exact a.elim
  .exact a.elim
  have#[rfl,i]:=a;repeat any_goals first|assumption|wp_step
end
theorem t8{K:Type}[DecidableEq K][BEq<|List K][LawfulBEq<|List K]:∀(a acc:List<|List K),a.foldl fD acc=Vq (·==·) a acc.reverse
 |[],acc=>by rw[Vq,List.reverse_reverse];rfl|k::a,acc=>by
  rw[XP,Vq];unfold fD;by_cases h:k∈acc;.have:(acc.reverse.any λb=>k==b)=true:=V0.mpr #[k,aab.mpr h,by simp];rw[aaD h,this];exact t8 a acc
  .have:(acc.reverse.any λb=>k==b)=false:=by rw[ZY];intro x b e;rw[eq_of_beq e]at h;exact h<|aab.mp b
   rw[aaC h,this];have:=t8 a<|acc++[k];rw[List.reverse_append]at this;exact this
section
variable{X:Cx}
def JE(hc:X.calm=true)(a:X.A.units+64<Uq)(ml:X.mg "len"=O)(ms:X.mg '_'=O):lV X:=by
 intro p j b c e k d f g a aa s i H Q I h;refine Tp<|jj I d ml G ?_;refine Ws (e:=.Call (.Name '_' b) [e] [] c) (rest:=[]) ?_ rfl rfl;refine S7 ?_;refine Tp<|jj I f ms G ?_;refine R7 (e:=e) (rest:=[]) ?_ (a []) rfl;rw[a []];refine S7<|az (g aa s i H _ I h) λu r a=>e5 a λx l g a b=>e8 b λq f c b d h j m=>?_;refine Tq ?_;subst b;cases a;have#[k,a,b,i]:=g.list d;have k:=pH a;subst k;have p:=b;have#[o,n,k,s,t,u]:=b;have n:f.length=c.length:=by clear d a i k s t u p m j;induction h with|nil=>rfl|cons _ _ i=>simp[i]
 have o:∀{f:List P2}{c:List (List Key)},Paired (λb k=>l b=U (.tup<|k.map kV)) f c->∀q∈c.zip f,Rl (bz X.prog X.w) r.heap q.1 q.2:=by
  intro f c h;induction h with
  |nil=>intro q d;simp at d|cons a _ i=>
   intro q d;rw[Tc]at d;rcases Qp.mp d with rfl|d;.exact mD g.ay a
   .exact i q d
 refine GO (knd:=bz X.prog X.w) (prs:=c.zip f) (g.ok.hd hc) ∅ p.isList (by simp[n]) (by simp[n];exact j) (o h) (λj q e=>?_) λa i h n=>?_;.rw[List.zip,List.getElem?_zipWith]at e;cases a:c[j]? with|none=>simp[a]at e|some k=>cases d:f[j]? with|none=>simp[a,d]at e|some b=>simp[a,d]at e;subst e;simp[d]
 .refine Tq ?_;have a:(c.zip f).map (·.1)=c:=by rw[List.map_fst_zip];lia
  rw[a]at h;have#[j,k,o,t,b,e,f,T,a,p,_]:=h;have d:(c.foldl fD []).length=c.eraseDups.length:=by haveI:LawfulBEq Key:=xA;rw[t8];rfl
  have h:(c.foldl fD ([]:List<|List Key)).length<=3000:=by rcases T.m5 with z|z|z|z|z<;>lia
  refine call_len_set b e f (by rw[a];exact T.fits ∅) (by rw[a];lia) ?_;refine#[.int c.eraseDups.length,l,(g.kept (t':=i) n).tok _,#[_,by rw[a,d]],m]
end
end
section
set_option tactic.hygienic true
def Ki{a:List Int}(h:(a.all λ(z:Int)=>Vy z 8)=true):Tb a=true:=by unfold Tb;rw[RX]at h⊢;intro z b;have:=h z b;erw[Vy,QH,decide_eq_true_eq]at this⊢;omega (config:={})
def FL{q:Int}(c:Tn RE (q::r)=U (raw,tail))(h:VH (Sl raw)=true):∃k,TR (Sl raw)=U k/\textOk k:=by induction BR c with|s1 n d t k e a b f g=>have#[i,j]:=f h;refine#[_,b.trans<|aaD<|Ki i,?_];rw[a];simpa[Sn]using j|s0 n d k e a b g=>exact#[k,b,a]
theorem vM:∀(f:Nat)(l:List Int)(a:List<|List<|List Int),Yu RE f l=U a->((a.map Sl).all VH)=true->
  ∃b,callsOf f l=U b/\(∀c∈b,textOk c)/\∀s,X7 UU s (a.map Sl)=eW s b
 |_,[],a,h,_=>by erw[Yu,QS]at h;subst h;exact#[[],by simp[callsOf],λc d=>by simp at d,λs=>rfl]|0,_::_,a,h,_=>by cases h|f+1,p::r,a,h,e=>by
  unfold Yu at h;split at h;.cases h
  .rename_i c t d;split at h;.cases h
   .rename_i b a;cases h;rw[Ql,Tz,QH]at e;have#[k,g,h]:=FL d e.1;have#[i,j,m,n]:=vM f t b a e.2;refine#[k::i,?_,λb a=>?_,λs=>?_];.rw[callsOf,d];erw[P4,g,j,Qm]
    .rcases Qp.mp a with rfl|a;.exact h
     .exact m b a
    .rw[Ql,X7,eW];have e:UU s (Sl c)=((QU s k).1,bY (QU s k).2):=by delta UU;rw[g]
     rw[e,n]
def FN{l:List Int}(h:X1 l=true):∃a,callsOf l.length l=U a/\(∀c∈a,textOk c)/\WU l=SU (eW Ve a)/\(SU<|eW Ve a).length<=10000000:=by
 unfold X1 at h;split at h;.cases h
 .rename_i f d;erw[QH]at h;have#[#[#[#[_,_],_],b],g]:=h;unfold VacolkNeutral.asked at b;erw[QH]at b;have#[a,i,j,k]:=vM _ _ _ d b.1;have e:WU l=SU (eW Ve a):=by unfold WU PyVacolk.calls;rw[d];show SU (X7 UU VacolkNeutral.start<|f.map Sl)=_;rw[k];rfl
  refine#[a,i,j,e,?_];rw[<-e];simpa[PyFlat.short]using g
theorem Dg:∀{ns:List Int}{vs:List P7},PySem.W.WellAll P h vs (ns.map U8)->Ux vs ns|[],_,x=>by cases x;exact .nil|n::ns,_,x=>by cases x with|cons a b=>cases a;exact .cons _ _<|Dg b
theorem Bx{cl:QQ->Option P2}:∀{ms:List Int}{us:List P7},Vals (ms.map V.int) us->∃c,PySem.W.ReadsAllW R cl h us (ms.map U8) c|[],_,r=>by cases r;exact#[_,.nil]|m::ms,_,r=>by cases r with|cons a b=>have#[t,rfl]:=a;have#[c,h]:=Bx b;exact#[_,.cons (.int m t) h]
def Of{P:Rb}{w:RO}{K:PY}{g s:QQ->Option P7}{CX:gu}{k:Nat}{fa a:P2}{d:TY}{x:QQ}{sp:Sp}{c:P9}{vs:List P7}{ns ms:List Int}{R:PySem.W.WRecords}{cl:QQ->Option P2}(t:K.In c.heap)(y:c.heap.Ns WZ g)(f:c.heap.Ns builtinsNs s)(J:∀x:QQ,x≠'P'->s x=Uu x)(L:c.heap.NoLimit)(M:c.gens=#[])(i:c.heap.get? a=U {cls:=.type '4',data:=.seq vs.toArray})(hi:Ux vs ns)(hl:ns.length<=Qq)(hr:cB k ZQ)(F:∀b:Q7,K.In b->b.Ns WZ g->ia P w K g b CX k fa d [x] sp)(N:BindsTo c d #[[.ref a],[]] [(x,.ref a)])(Q:∀H:Hp,af K H a (ns.map V.int)->sp [.ref a] H (λv z=>uZ z v ms) λ_ _ _=>False)(S:∀H e s',CX [] H c (λ_ _ _=>False) e s'->False):
    Vm (Qt P w) ZQ (.call (.ref fa) #[[.ref a],[]]) (λr s'=>∃u j,r=.ok (.ret u)/\ZR R cl s'.heap u (.list<|ms.map U8) j/\OldK c.heap s'.heap/\s'.os=c.os/\WB s'.gens) c:=by
 have A:=C4 hi;have B:∀H:Hp,(∀b u,H b=U u->b=a/\∃o C,u=.c7 o (.lst C))->af K H a (ns.map V.int)->bt P w H c.heap->(∀b o,K.lookup b=U o->H b=O)->
   Vm (Qt P w) ZQ (.call (.ref fa) #[[.ref a],[]]) (λr s'=>∃u j,r=.ok (.ret u)/\ZR R cl s'.heap u (.list<|ms.map U8) j/\OldK c.heap s'.heap/\s'.os=c.os/\WB s'.gens) c:=by
  intro H D T E W
  have I:∀{b:P2}{o:S1},c.heap.get? b=U o->H b=O->(il c.heap H).get? b=U o:=λe n=>IE e n
  have X:∀{b:P2}{o:S1}{h:Array DictEntry}{l:Nat},c.heap.get? b=U o->o.data=.dict h l->H b=O:=λ{b o h l}e d=>by
   cases q:H b with
   |none=>rfl
   |some u=>
    obtain rfl:=(D b u q).1
    rw[i]at e
    cases e
    cases d
  have p:∀{b:P2}{m:QQ->Option P7},c.heap.Ns b m->(il c.heap H).Ns b m:=λ{b m}q=>e6 q λo h l e d r=>#[o,h,l,I e<|X e d,d,r]
  have d:K.In<|il c.heap H:=λb o e=>I (t b o e)<|W b o e
  have h:Mod K g<|il c.heap H:=#[d,p y,#[s,p f,J],let⟨mc,l,m⟩:=L;#[mc,p l,m]]
  have l:jF P w K g (il c.heap H) ZQ [] c H:=#[G,h,λb o e=>Kw e,Uh<|IF _ _,trivial,λb f=>absurd (show b∈([]:List P2)from f)<|by simp,E,.of_eq M]
  refine VI ((F _ d<|p y).run ZQ [] c H #[[.ref a],[]] [.ref a] [.ref a] _ _ hr l N (.cons G .nil)<|Q H T) λr s' h=>?_
  induction r with
  |error e=>exact(S H e s' h).elim
  |ok d=>
   induction d with
   |next=>exact Rx h
   |brk=>exact Rx h
   |cont=>exact Rx h
   |ret u=>
    have#[v,z,l,m,d,g,p,b,rfl,q]:=h
    obtain rfl:u=QY b:=p
    have p:∀b o,c.heap.get? b=U o->s'.heap.get? b=U o:=λb o e=>by
     cases c:H b with
     |none=>exact d.keep b o e c (by intro z;exact absurd (show b∈([]:List P2)from z)<|by simp) (by simp)
     |some h=>
      have#[_,s,C,rfl]:=D b h c
      have#[h,_]:=E b _ c
      have#[y,_]:=g b _<|d.eQ b s _ c
      rw[e]at h
      cases h
      exact y
    have#[_,h,n,c,d]:=g b _ q
    have#[j,g]:=Bx (R:=R) (cl:=cl) (h:=s'.heap) c
    exact#[_,_,G,.list d G G g,OldK.of_keep p,l,m]
 have d:=hi.length;cases c:K.lookup a with
 |some o=>have e:=t a o c;rw[i]at e;cases e;exact B (λ_=>O) (λb u z=>by cases z) (.inr #[_,vs.toArray,_,c,G,G,G,by rw[Qw,d];exact hl,by simpa using A]) (λb u z=>by have d:(O:Option HO)=U u:=z;cases d) λ_ _ _=>rfl|none=>
  have d:∀{b:P2}{u:HO},upd (λ_=>O) a (.c7 {cls:=.type '4',data:=.seq vs.toArray}<|.lst<|ns.map V.int) b=U u->b=a/\u=.c7 {cls:=.type '4',data:=.seq vs.toArray} (.lst<|ns.map V.int):=λ{b u}e=>by
   by_cases f:b=a;.subst f;rw[ah]at e;cases e;exact#[G,G]
   .rw[aq f]at e;cases e
  refine B (upd (λ_=>O) a<|.c7 {cls:=.type '4',data:=.seq vs.toArray}<|.lst<|ns.map V.int) (λb u z=>#[(d z).1,_,_,(d z).2]) (.inl<|.inr #[_,ah]) (λb u z=>?_) λb o e=>?_;.have#[rfl,rfl]:=d z;exact#[i,by rw[Qe];exact hl,vs,_,A,i]
  .rw[aq];rintro rfl;rw[c]at e;cases e
end
section
variable{P:Rb}{w:RO}{K:PY}{mg:QQ->Option P7}{base:Q7}{ad:F->P2}{fd:F->TY}
def ZG(f:F)(k:Nat)(vs:List V):Prop:=0<k/\vs.length=(iD f).length
def zg1{f:F}{c k:Nat}{vs l:List V}(h:c<=k)(e:vs=l)(d:(S3 1 c&&Nat.beq l.length (iD f).length)=true):ZG f k vs:=by rw[QH]at d;exact#[Qx (RG d.1) h,e▸Y8 d.2]
def zg2{f:F}{c x k:Nat}{vs l:List V}(h:c+x<=k)(e:vs=l)(d:(S3 1 c&&Nat.beq l.length (iD f).length)=true):ZG f k vs:=zg1 (QW (S9 _ _) h) e d
def BA{b:Type}{c:Nat}{r:ag b}{R:Hp->V->b->Prop}{k:Nat}{a:P2}{t s:Qv}{M H:Hp}{Q:VK}{E:XK}:cQ ad c r R k a t s M H Q E->c<=k:=λ⟨h,_,_,_,_⟩=>h
def zl0(k:Nat):∀f,if isFn f=true then∀vs H Q E,cw K ad f k vs H Q E->ZG f k vs else True:=by
 intro f;rcases f with⟨a,b⟩;induction a<;>induction b<;>first
  |exact trivial
  |(intro vs H Q E h
    rcases h with⟨⟩
    first|exact zg1 (by assumption) (by assumption) (by exact Eq.refl true)|exact zg2 (by assumption) (by assumption) (by exact Eq.refl true)|exact zg1 (BA<|by assumption) (by assumption) (by exact Eq.refl true)|exact zg2 (BA<|by assumption) (by assumption)<|by exact Eq.refl true)
  |(intro vs H Q E h
    rcases h with⟨_,_,_,e,a,_⟩
    exact zg1 (c:=1) a e<|by exact Eq.refl true)
def zl(f:F)(a:isFn f=true)(k:Nat):∀vs H Q E,cw K ad f k vs H Q E->0<k/\vs.length=(iD f).length:=by have h:=zl0 (K:=K) (ad:=ad) k f;rw[aaD a]at h;exact h
def Ni{k:Nat}(h:Reads K ad k N c s):∀vs H Q E,s vs H Q E->iG (Gk K ad (cw K ad) k) E c {lk:=λ_ a=>Q .ao a,rt:=Q} (start N vs) H:=λvs H Q E z=>by
 rw[<-lO,<-fill_eq]
 exact h vs H Q E z
def Nh(c:lT K mg ad)(C:lR K ad){k:Nat}:∀f,if rdB f=true then Reads K ad k (jY f) (dat f).c (cw K ad f<|k+1)else True:=by
 intro f;rcases f with⟨a,b⟩;induction a;.induction b;trivial;exact zT;exact zR;exact zS;exact zQ;exact zO;exact zU;exact zN;exact zP;exact zM;all_goals trivial
 .induction b;exact zV;exact zY;exact zX;exact AQ;exact AY;exact A7;exact Au;exact Am;exact zI;exact A4;exact Bf;exact Bb;exact AW
 .induction b;exact As;exact AV;exact AO;exact zy;exact zz;exact zA;exact Af;exact Ae;exact AL;exact Bl;exact AI;exact AB;all_goals trivial
 .induction b;exact Bd;exact zW;exact Aj;exact Ai;exact Ah;exact zF;exact zE;exact AU;exact Ac;exact Aa;exact AF;exact AD;exact AE
 .induction b;exact Az;exact AA;exact Ay;exact zH;exact zo;exact zp;exact zG;exact zk;exact zq;exact Al;exact zm;exact Ab;exact Bi
 .induction b;exact An;exact Bj;exact Aq;exact Be;exact Bc;exact A0;exact Ba;exact A9;exact AX;exact AJ;exact zB;exact Bq;exact Bp
 .induction b;exact Bo;exact Bn;exact Ag;exact zJ;exact zK;exact Ar;exact zt;exact A1;exact zh;exact zg;exact AZ;exact A8;exact A6
 .induction b;exact A5;exact A3;exact zf;exact zL;exact ze;exact Ax;exact zZ;exact Ad;exact zi;exact AG;exact zC;exact zD;exact zc
 .induction b;exact AR;exact Bm;exact Bk;exact AM;exact zj;exact Aw;exact Bh;exact AS;exact Av;exact AK;exact AH;exact Ap;exact zx
 .induction b;exact Bg;exact zw;exact zb;exact zd C;exact Ak;exact za c.inj;exact y9 C;all_goals trivial
 all_goals trivial
def aaU(a:lT K mg ad)(C:lR K ad){k:Nat}(f:F)(b:isFn f=true)(c:f≠0.0):Reads K ad k (jY f) (dat f).c<|cw K ad f<|k+1:=by have h:=Nh (k:=k) a C f;rwa[aaD<|aaP b c]at h
theorem good(T:Facts K mg ad fd)(c:lT K mg ad)(C:lR K ad)(e:∀X:Cx,X.prog=P->X.w=w->X.K=K->X.mg=mg->X.calm=true->X.A.units+64<Uq->lV X):∀k,Good P w K mg base ad fd (cw K ad) k
 |0=>λj d f a=>by
  obtain rfl:j=0:=by omega (config:={})
  exact#[λb H Q E h=>absurd (zl f a 0 b H Q E h).1<|RP 0,λA g s H i l b Q E _ _ _ _ h=>absurd (zl f a 0 b H Q E h).1<|RP 0]
 |k+1=>λj d f a=>by
  have g:Good P w K mg base ad fd (cw K ad) k:=good T c C e k;have i:qS P w K mg base ad fd<|cw K ad:=PH T c λ_=>rfl;by_cases d:j<=k;.exact g j d f a
  obtain rfl:j=k+1:=by omega (config:={})
  by_cases d:f=0.0;.subst d;exact IU T c k
  .exact Hs T e i g f a rfl rfl ((cs f a).1 d) (cs f a).2 (λb H Q E h=>(zl f a _ b H Q E h).2)<|Ni<|aaU c C f a d
end
section
open PySem PySem.W
section
def adr:F->P2|0.0=>119|1.0=>132|1.1=>139|1.2=>146|1.3=>153|0.1=>167|2.0=>174|2.1=>181|2.2=>188|2.3=>195|2.4=>202|1.4=>216|1.5=>223|0.2=>237|1.6=>251|1.7=>256|1.8=>263|1.9=>270|1.10=>277|1.11=>284|1.12=>291|3.0=>298|3.1=>305|3.2=>310|3.3=>317|3.4=>324|3.5=>331|3.6=>338|3.7=>345|3.8=>352|3.9=>359|3.10=>366|3.11=>373|3.12=>378|4.0=>385|4.1=>390|4.2=>397|0.3=>411|4.3=>425|4.4=>432|4.5=>439|4.6=>446|4.7=>453|4.8=>460|4.9=>467|4.10=>474|4.11=>481|4.12=>488|5.0=>495|5.1=>502|5.2=>509|5.3=>516|5.4=>521|5.5=>528|5.6=>535|5.7=>542|5.8=>549|5.9=>556|5.10=>563|5.11=>570|5.12=>577|6.0=>584|6.1=>591|0.4=>603|2.5=>610|0.5=>631|0.6=>652|6.2=>666|6.3=>673|6.4=>680|6.5=>687|6.6=>692|6.7=>697|6.8=>704|6.9=>711|6.10=>718|6.11=>725|6.12=>732|7.0=>739|7.1=>746|7.2=>753|7.3=>760|7.4=>767|7.5=>774|7.6=>781|7.7=>788|7.8=>795|7.9=>802|7.10=>809|7.11=>816|0.7=>830|2.6=>837|2.7=>844|2.8=>851|2.9=>858|2.10=>865|0.8=>886|2.11=>893|0.9=>914|7.12=>928|8.0=>935|8.1=>942|8.2=>949|8.3=>956|8.4=>963|8.5=>970|8.6=>977|8.7=>984|8.8=>991|8.9=>998|8.10=>1005|8.11=>1012|8.12=>1019|9.0=>1026|9.1=>1033|9.2=>1055|9.3=>1062|9.4=>1069|9.5=>1076|9.6=>1083|10.0=>205|10.1=>240|10.2=>414|10.3=>613|10.4=>634|10.5=>655|10.6=>868|10.7=>896|10.8=>917|11.0=>24|11.1=>37|11.2=>50|11.3=>63|11.4=>76|11.5=>89|11.6=>102|11.7=>122|15.2=>1048|_=>0
def k9{P:QQ->F->Prop}:∀{l:List (QQ×F)},(∀p∈l,P p.1 p.2)->∀x g,l.lookup x=U g->P x g:=λ{l}h x g e=>h (x,g)<|Rg e
def Jq(a:Array DictEntry):Bool:=a.toList.all λe=>match e.key with|.str _ _=>true|_=>false
def so{a:Array DictEntry}(h:Jq a=true):StrKeys a:=by
 intro e a;have:=RX.mp h e (by simpa using a);split at this;.exact#[_,_,by assumption]
 .cases this
noncomputable def aaR:Data->TY|.func d=>d|_=>default
noncomputable def aaJ(w:RO)(f:F):S1:=((gsHead.heap_1 w.params).lookup<|adr f).getD default
noncomputable def fdF(w:RO)(f:F):TY:=aaR (aaJ w f).data
def HR(w:RO):∀f,∃d,isFn f=true->iO (gsHead.heap_1 w.params) (pz f) (mV f) (du f) (adr f) d:=λf=>#[fdF w f,λa=>#[#[(aaJ w f).cls,(aaJ w f).dict,(fdF w f).kwdefaults,(fdF w f).doc,(fdF w f).pyModule,(fdF w f).annotations,(fdF w f).code,(fdF w f).closureTuple,(aaJ w f).slots,
    eqF isFn (λf=>fdF w f) (λf=>Vc (pz f) (mV f) (md<|du f) (ie<|du f) (dk<|du f) .none (fdF w f).kwdefaults (fdF w f).doc (fdF w f).pyModule (fdF w f).annotations (fdF w f).code (fdF w f).closureTuple) (by kernel_rfl) f a,
    eqF isFn (λf=>(gsHead.heap_1 w.params).lookup<|adr f) (λf=>U #[(aaJ w f).cls,(aaJ w f).dict,.func<|fdF w f,(aaJ w f).slots]) (by kernel_rfl) f a,
    eqF isFn (λf=>XC (gsHead.heap_1 w.params) (fdF w f).code<|mV f) (λ_=>true) (by kernel_rfl) f a],eqF isFn (λf=>R4 (gsHead.heap_1 w.params)<|.ref<|adr f) (λ_=>true) (by kernel_rfl) f a]]
def HG{K:PY}{ad:F->P2}:∀f d,isFn f=true->iO K (pz f) (mV f) (du f) (ad f) d->Binds K d (iD f) []:=by
 intro f d n h;refine h.binds λc g i j k l a o=>?_;have m:=eqF isFn (λf=>S3 1 (iD f).length&&S3 (iD f).length 6) (λ_=>true) (by kernel_rfl) f n;rw[<-o]at m;have h:∀b:List P7,a=b->((aaK λf=>isFn f&&Nat.beq (iD f).length b.length).map λf=>bindArgs (Vc (pz f) (mV f) (md<|du f) (ie<|du f) (dk<|du f) .none c g i j k l) #[b,[]])=(aaK λf=>isFn f&&Nat.beq (iD f).length b.length).foldr (λf r=>pure ((iD f).zip b)::r) []->bindArgs (Vc (pz f) (mV f) (md<|du f) (ie<|du f) (dk<|du f) .none c g i j k l) #[a,[]]=pure ((iD f).zip a):=λb e q=>by subst e;exact eqF _ (λf=>bindArgs (Vc (pz f) (mV f) (md<|du f) (ie<|du f) (dk<|du f) .none c g i j k l) #[a,[]]) (λf=>pure<|(iD f).zip a) q f (by rw[n,<-o,Nat.beq_refl];rfl)
 rcases a with _|⟨a,_|⟨b,_|⟨c,_|⟨d,_|⟨e,_|⟨g,_|⟨i,r⟩⟩⟩⟩⟩⟩⟩;.cases m
 .exact h [_] rfl (by kernel_rfl)
 .exact h [_,_] rfl (by kernel_rfl)
 .exact h [_,_,_] rfl (by kernel_rfl)
 .exact h [_,_,_,_] rfl (by kernel_rfl)
 .exact h [_,_,_,_,_] rfl (by kernel_rfl)
 .exact h [_,_,_,_,_,_] rfl (by kernel_rfl)
 .cases m
def HJ(w:RO):∀g,d4 g=true->ed (gsHead.heap_1 w.params) (adr g):=λg h=>#[eqF d4 (λg=>VJ (gsHead.heap_1 w.params) (adr g) Str.empty) (λ_=>true) (by kernel_rfl) g h,eqF d4 (λg=>WN (gsHead.heap_1 w.params)<|adr g) (λ_=>true) (by kernel_rfl) g h,eqF d4 (λg=>Y4 (gsHead.heap_1 w.params)<|adr g) (λ_=>true) (by kernel_rfl) g h,eqF d4 (λg=>SA (gsHead.heap_1 w.params) (.ref<|adr g) 'w') (λ_=>U<|U<|.builtin "object.__setattr__") (by kernel_rfl) g h]
def HW(w:RO):∀g,d4 g=true->R4 (gsHead.heap_1 w.params) (.ref<|adr g)=true:=eqF d4 (λg=>R4 (gsHead.heap_1 w.params)<|.ref<|adr g) (λ_=>true) (by kernel_rfl)
noncomputable def aaL(g:F):F:=(kU g).getD 0.0
def HY(w:RO):∀g i,kU g=U i->Mk (gsHead.heap_1 w.params) (adr g) (adr i):=λg i h=>by
 have q:(kU g).isSome=true:=by rw[h];rfl
 have e:i=aaL g:=by unfold aaL;rw[h];rfl
 rw[e]
 exact#[eqF (λg=>(kU g).isSome) (λg=>Zy (gsHead.heap_1 w.params)<|adr g) (λ_=>true) (by kernel_rfl) g q,eqF (λg=>(kU g).isSome) (λg=>SA (gsHead.heap_1 w.params) (.ref<|adr g) ':') (λg=>U<|U<|.ref<|adr<|aaL g) (by kernel_rfl) g q,eqF (λg=>(kU g).isSome) (λg=>Yc (gsHead.heap_1 w.params)<|.ref<|adr<|aaL g) (λ_=>true) (by kernel_rfl) g q,eqF (λg=>(kU g).isSome) (λg=>R4 (gsHead.heap_1 w.params)<|.ref<|adr g) (λ_=>true) (by kernel_rfl) g q]
def HX(w:RO):∀x g,nm.me.lookup x=U g->Meth (gsHead.heap_1 w.params) (adr<|l9 g) x (adr g)/\d4 (l9 g)=true/\isFn g=true:=
 k9 λp h=>#[#[eqL (u:=λp=>SA (gsHead.heap_1 w.params) (.ref<|adr<|l9 p.2) p.1) (v:=λp=>U<|U<|.ref<|adr p.2) (by kernel_rfl) p h,eqL (u:=λp=>Yc (gsHead.heap_1 w.params)<|.ref<|adr p.2) (v:=λ_=>true) (by kernel_rfl) p h,eqL (u:=λp=>R4 (gsHead.heap_1 w.params)<|.ref<|adr p.2) (v:=λ_=>true) (by kernel_rfl) p h],eqL (u:=λp=>d4<|l9 p.2) (v:=λ_=>true) (by kernel_rfl) p h,eqL (u:=λp=>isFn p.2) (v:=λ_=>true) (by kernel_rfl) p h]
def HS(w:RO):∀g,d4 g=true->∀f∈aC g,fJ (gsHead.heap_1 w.params) (adr g) f:=λg h f a=>
 eqL (l:=(aaK d4).flatMap λg=>(aC g).map λf=>(g,f)) (u:=λ(p:F×QQ)=>SA (gsHead.heap_1 w.params) (.ref<|adr p.1) p.2) (v:=λ_=>U O) (by kernel_rfl) (g,f) (List.mem_flatMap.mpr #[g,aaO h,Ro.mpr #[f,a,G]])
def wj(w:RO):∀x g,nm.fn.lookup x=U g->PySem.W.nsIn (gsHead.heap_1 w.params) WZ x=U (U<|.ref<|adr g):=
 k9 (eqL (u:=λ(p:QQ×F)=>PySem.W.nsIn (gsHead.heap_1 w.params) WZ p.1) (v:=λp=>U<|U<|.ref<|adr p.2)<|by kernel_rfl)
def HQ:∀x g,nm.fn.lookup x=U g->isFn g=true\/d4 g=true:=
 k9 λp h=>(We _ _).mp<|eqL (u:=λp=>isFn p.2||d4 p.2) (v:=λ_=>true) (by kernel_rfl) p h
def He{K:PY}{x:QQ}{i:Int}{t:Tok}(h:PySem.W.nsIn K WZ x=U (U<|.int i t)):∃u,PySem.W.nsIn K WZ x=U (U u)/\RelV (.int i) u:=#[_,h,_,G]
def HL(w:RO):∀x g,nm.gl.lookup x=U g->∃u,PySem.W.nsIn (gsHead.heap_1 w.params) WZ x=U (U u)/\RelV (match rm g with|some i=>V.int i|none=>V.ref<|adr g) u:=by
 refine k9 ?_;unfold nm;dsimp only;repeat' first
  |exact List.forall_mem_nil _
  |refine List.forall_mem_cons.mpr #[He<|by k_is,?_]
  |refine List.forall_mem_cons.mpr #[#[_,by k_is,by exact G],?_]
def HH(w:RO):∀b∈nO,PySem.W.nsIn (gsHead.heap_1 w.params) WZ b=U O:=eqL (u:=λb=>PySem.W.nsIn (gsHead.heap_1 w.params) WZ b) (v:=λ_=>U O) (by kernel_rfl)
def aaS{K:PY}{C N:P2}{nm q bs sn sub ab col dd k0 k1 k2 k3 k5 o a b}(c:K.lookup C=U (SN nm q C N bs dn true sn sub ab col dd k0 k1 k2 k3 k5 '-'))(d:K.lookup N=U o)(e:o.data=.dict a b)(f:Jq a=true)(g:Ww a '('=O)(h:Ww a 'x'=O)(i:Ww a "__getattr__"=O)(j:Ww a 'w'=O):fG K C:=
 #[_,_,_,_,_,_,_,_,_,_,_,_,_,_,c,_,_,_,d,e,so f,g,h,i,j]
def aaT{K:PY}{C N:P2}{nm q bs hdct sn sub ab col dd k0 k1 k2 k3 k5 o a b}(c:K.lookup C=U (SN nm q C N bs dn hdct sn sub ab col dd k0 k1 k2 k3 k5 '-'))(d:K.lookup N=U o)(e:o.data=.dict a b)(f:Jq a=true)(g:Ww a ':'=O)(h:R4 K (.ref C)=true):lS K C:=
 #[#[_,_,_,_,_,_,_,_,_,_,_,_,_,_,_,c,_,_,_,d,e,so f,g],h]
def HM(w:RO):∀g,isExc g=true->fG (gsHead.heap_1 w.params) (adr g):=by
 intro g h;(rcases g with⟨a,b⟩;induction a<;>first|(cases h;done)|induction b);all_goals first
  |(cases h;done)
  |exact aaS (by k_is) (by k_is) (by exact G) (by kernel_rfl) (by kernel_rfl) (by kernel_rfl) (by kernel_rfl) (by kernel_rfl)
def HU(w:RO):qm (gsHead.heap_1 w.params) (adr 11.7)<|adr 0.0:=
 #[_,_,_,_,_,_,_,_,_,_,_,_,_,_,by k_is,#[_,_,_,by k_is,by exact G,by exact so<|by kernel_rfl,by kernel_rfl],_,by k_is,by exact G]
def HP(w:RO):∀g,isExc g=true->g≠11.7->lS (gsHead.heap_1 w.params) (adr g):=by
 intro g h n;(rcases g with⟨a,b⟩;induction a<;>first|(cases h;done)|induction b);all_goals first
  |(cases h;done)
  |(exact absurd G n)
  |exact aaT (by k_is) (by k_is) (by exact G) (by kernel_rfl) (by kernel_rfl) (by kernel_rfl)
noncomputable def is7:F->Bool|11.7=>true|_=>false
def HN(w:RO):∀x g,nm.ex.lookup x=U g->lS (gsHead.heap_1 w.params) (adr g):=by refine k9 λp h=>HP w p.2 (eqL (u:=λp=>isExc p.2) (v:=λ_=>true) (by kernel_rfl) p h) λe=>?_;have q:=eqL (u:=λ(p:QQ×F)=>is7 p.2) (v:=λ_=>false) (l:=nm.ex) (by kernel_rfl) p h;rw[show is7 p.2=true from e▸rfl]at q;cases q
def wg(w:RO):∀x g,(nm.ex++nm.fT).lookup x=U g->PySem.W.nsIn (gsHead.heap_1 w.params) WZ x=U (U<|.ref<|adr g)/\isExc g=true:=
 k9 λp h=>#[eqL (u:=λp=>PySem.W.nsIn (gsHead.heap_1 w.params) WZ p.1) (v:=λp=>U<|U<|.ref<|adr p.2) (by kernel_rfl) p h,eqL (u:=λp=>isExc p.2) (v:=λ_=>true) (by kernel_rfl) p h]
noncomputable def OX:P2->F|24=>11.0|37=>11.1|50=>11.2|63=>11.3|76=>11.4|89=>11.5|102=>11.6|_=>11.7
def HV(e f:F)(b:isExc e=true)(c:isExc f=true)(h:adr e=adr f):e=f:=by have a:=eqF isExc (λg=>OX<|adr g) (λg=>g) (by kernel_rfl);have:=a e b;rw[h,a f c]at this;exact this.symm
def CF{K:PY}{a:P2}{xs:List V}{b:Array P7}{n:Nat}{d:Option P2}{c:Array (Option P7)}(h:K.lookup a=U #[.type 'D',d,.seq b n,c])(e:b.size<=Qq)(f:Vals xs b.toList):∀H,aR K H a xs:=λH=>.inr #[_,_,_,h,G,G,e,f]
def HI(w:RO):lR (gsHead.heap_1 w.params) adr:=by
 refine#[[1034,1035,1036,1037,1038,1039,1040,1041,1042,1043,1044,1045,1046,1047],CF (by k_is) (by decide) (by repeat' first|exact .nil|refine .cons G ?_),?_];unfold l7;repeat' first
  |exact .nil
  |refine .cons (CF (by k_is) (by decide)<|by exact .cons G<|.cons #[_,G]<|.cons G .nil) ?_
end
section
def facts(w:RO){a:QQ->Option P7}{h:Q7}(X:(gsHead.heap_1 w.params).In h)(c:h.Ns WZ a):(∃b,Facts (gsHead.heap_1 w.params) a adr b)/\lT (gsHead.heap_1 w.params) a adr:=by
 have#[b,d]:=Classical.skolem.mp<|HR w;have i:∀x g,(nm.ex++nm.fT).lookup x=U g->a x=U (.ref<|adr g)/\isExc g=true:=λx g e=>#[PySem.W.mg_of X c (wg w x g e).1,(wg w x g e).2];have j:∀(x:QQ)(l m:List<|QQ×F),(l++m).lookup x=(l.lookup x).or (m.lookup x):=λx l m=>by induction l with|nil=>simp|cons p l a=>have#[k,v]:=p;erw[QT,Rm,a];cases x==k<;>rfl
 refine#[#[b,λf a=>d f a,λf a=>HG f _ a<|d f a,λx g e=>PySem.W.mg_of X c<|wj w x g e,HW w,HY w,HJ w,HX w,λx g e=>?_,HS w,λx g e=>#[(i x g ?_).1,HN w x g e],λb a=>PySem.W.mg_none_of X c<|HH w b a,HQ],HM w,λx g e=>i x g ?_,HU w,HV];.have#[u,a,b]:=HL w x g e;exact#[u,PySem.W.mg_of X c a,b]
 .rw[j,e];rfl
 .rw[j];exact e
def FI(w:RO):PySem.W.nsIn (gsHead.heap_1 w.params) WZ "answers"=U (U<|.ref<|adr 9.2):=wj w _ 9.2 rfl
end
section
def PJ:PySem.Challenge.rw_growingschemas_s01_answers.Holds:=gsHead (by
 k_fillS
 intro w e k a d b Y g o f l x y z h i j m n p q r A c s t u v
 have f:=kIn_of Y
 have#[a,d,o]:=PySem.W.os_pre_some c
 have#[x,l]:=Codec.encAll_of_decAll _ q a d
 subst x
 clear h i j m t c d s v
 have q:PySem.Challenge.rw_growingschemas_s01_answers.wellSaid=true:=by decide+kernel
 have#[#[d,T],c]:=facts w f b.T.g
 have i:g=adr 9.2:=by
  have h:=PySem.W.mg_of f b.T.g<|FI w
  have d:=n.symm.trans h
  cases d
  rfl
 subst i
 have#[n,g,d,i,j]:=FN (l:=a.1) o
 have m:(a.1:List Int).length<=16000:=by
  have h:PySem.W.Codec.withinAll PySem.Challenge.fa_growingschemas_s01_answers a=true:=l
  erw[PySem.W.Codec.withinAll,PySem.Challenge.fa_growingschemas_s01_answers,PySem.W.Codec.within,PySem.W.Codec.inPair,PySem.W.Codec.inList,QH,decide_eq_true_eq]at h
  have h:=h.1.1
  erw[PySem.W.Codec.inLen,PySem.W.Codec.inNat,QH,decide_eq_true_eq]at h
  exact h.2
 have o:PySem.W.WellAll w.params k.heap r [.list<|(a.1:List Int).map U8]:=u
 cases o with
 |cons o r=>
  cases r
  cases o with
  |list o r=>
   have s:=Of (R:=[]) (cl:=classAt e.heap) (P:=PySem.Challenge.rw_growingschemas_s01_answers.prog) (w:=w) (K:=gsHead.heap_1 w.params) (CX:=bH _ w) (k:=80) (fa:=adr 9.2) (x:="calls") (sp:=cw (gsHead.heap_1 w.params) adr 9.2 80) (ns:=a.1) (ms:=WU a.1)
    f b.T.g b.T.b b.T.builtins b.T.nolimit p o (Dg r) (QW m<|by decide) #[G,by decide,by decide]
    (λa _ _=>good T c (HI w) (λX _ _ _ e c u=>JE c u (by rw[e];exact T.blt _<|by decide)<|by rw[e];exact T.blt _<|by decide) 80 80 (Qg _) 9.2 G)
    (T.bd 9.2 G k [_] f G)
    (λH a=>#[_,_,n,H,G,by decide,a,m,g,d,j,aj.refl _,λv a r=>by rw[i];exact r])
    (λH e a h=>by have#[_,_,_,_,_,_,_,_,_,_,_,_,_,_,_,h]:=h;exact h)
   refine PySem.W.enter_call<|codeAny_mono s λc a b=>?_
   have#[u,a,rfl,g,d,i,j]:=b
   exact#[.inl #[u,_,a,G,λ_=>rfl,g,(OpenSpec.post_iff q l _ _).mpr G,λz=>Bool.noConfusion (show false=true from z)],d,i,j])
end
end
end Z
theorem PySem.Challenge.cw_growingschemas_s01_answers_holds : PySem.Challenge.rw_growingschemas_s01_answers.Holds :=
 Z.PJ
end
