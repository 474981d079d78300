import PyProof.Rows.All
import Wide.All
import OpenK.AllK
import Lean
import Wide.FinOn
import PyProof.EqAt
import PyProof.EqKinds
import PyProof.TupleCall
import KE.BitLaws
import PySem.SetTable
import KE.KDictSum
import PyProof.Rows.SortG.SortRunsSt
import KE.KSortTup
import Open.SpecLaws
import KE.OsHead
import KE.OsGo
import KE.SpHead
import KE.OsShapes
import PySem.Challenge.RW_sortedruns_s01_answers
set_option Elab.async false
set_option linter.all false
set_option compiler.extract_closed false
set_option maxRecDepth 100000
set_option maxHeartbeats 4000000
namespace Lean
def mx0(s:String):Syntax:=mkIdent (.mkSimple s)
def mx1(s:String):Syntax:=mkIdent (addMacroScope `m (.mkSimple s) 0)
def mx2(m:List (String×Syntax))(t:Syntax):Syntax:=t.rewriteBottomUp fun x=>
  if x.isIdent then (m.lookup x.getId.toString).getD x
  else if x.isOfKind ``Parser.Tactic.exact && (`Lean.Parser.Tactic).isPrefixOf x[1].getKind then x[1]
  else if x.isOfKind nullKind then mkNullNode (x.getArgs.foldl (fun a c=>if c.isOfKind `L then a++c.getArgs else a.push c) #[])
  else x
def mx3(T:Array Syntax)(a b:Syntax):Syntax:=mx2 [("S",a),("R",b)] T[0]!
def mx4(T:Array Syntax)(a b:Syntax):Syntax:=mx2 [("S",a),("R",b)] T[1]!
def mx5(T:Array Syntax)(i:Nat)(xs:Array Syntax):Syntax:=mx2 [("V",mkNode `L xs)] T[i]!
def mx6(T:Array Syntax)(c:String)(k:Nat)(xs:Array Syntax)(t:Syntax):Syntax:=(List.range k).foldl (fun t i=>mx4 T t (mx2 [("K",mx0 s!"{c}{k}_{i+1}"),("Y",if xs[i]!.isIdent then xs[i]! else mx1 "a")] T[4]!)) t
def mxI(T:Array Syntax)(x:Syntax):Syntax:=
  let xs:=x[1].getArgs
  if xs.isEmpty then x else (List.range (min xs.size 12)).foldl (fun r j=>
    let t:=mx6 T "n" (j+1) xs (mx2 [("K",mx0 s!"A{j+1}")] T[3]!)
    mx3 T (if j+1<xs.size then mx4 T t (mx5 T 2 (xs.extract (j+1) xs.size)) else t) r) (mx3 T (mx5 T 2 xs) x)
def mxS(q:Syntax):Bool:=q.isOfKind ``Parser.Term.anonymousCtor||q.isIdent&&q.getId==`rfl
def mxH(T:Array Syntax):Nat→Bool→Syntax→Syntax
  |0,_,x=>x
  |d+1,w,x=>
    let l:=x[2][0]
    if l.isOfKind ``Parser.Term.letPatDecl&&l[0].isOfKind ``Parser.Term.anonymousCtor then
      let ps:=l[0][1].getSepArgs
      let n:=ps.size
      let e0:=l[4]
      let z(i:Nat):Syntax:=mx1 s!"z{d}_{i}"
      let b:=(Array.range n).map fun i=>if mxS ps[i]! then z i else ps[i]!
      let h:=w&&e0.isIdent&&b.any (fun y=>y.isIdent&&y.getId==e0.getId)
      let e:=if h then mx1 "e" else e0
      let r:=(List.range n).foldl (fun r k=>mx3 T (if w then
          if k==0 then T[11]! else
          let t:=mx6 T "s" k b (mx2 [("K",mx0 s!"X{k}"),("E",e)] T[6]!)
          let v:=b.extract k n
          let u:=if e.isIdent then e else mx1 "a"
          if k+1==n then mx4 T t (mx5 T 2 v) else mx4 T t (mx2 [("K",mx0 s!"x0_{n-1-k}"),("V",mkNode `L v),("E",u)] T[8]!)
        else mx2 [("K",mx0 s!"x{k}_{n-1-k}"),("E",e),("V",mkNode `L b)] T[5]!) r) T[11]!
      let r:=if h then mx4 T (mx2 [("E",e0),("Y",e)] T[17]!) r else r
      let r:=(List.range n).foldl (fun r i=>let q:=ps[i]!; if mxS q then mx4 T r (if q.isIdent then mx2 [("E",z i)] T[7]! else mxH T d false ((T[10]!).setArg 2 (x[2].setArg 0 ((l.setArg 0 q).setArg 4 (z i))))) else r) r
      mx3 T r x
    else x
def mxM(T:Array Syntax)(x:Syntax):Syntax:=
  let d:=x[3][0]
  let a:=x[5][0].getArgs
  if a.size==2&&d[0].getNumArgs==2 then
    let p:=a[0]![1][0][0]
    let q:=a[1]![1][0][0]
    let s(t:Syntax):Syntax:=(T[1]!).setArg 1 t
    let g(i:Nat)(p q:Syntax):Syntax:=if p.getId==`none&&q.isOfKind ``Parser.Term.app&&q[0].getId==`some then
      let l:=q[1][0]
      mx3 T (mx2 [("H",d[0][0]),("E",d[1]),("O",mx1 "o"),("Y",if l.isIdent then l else mx1 "a"),("S",s a[0]![3]),("R",s a[1]![3])] T[i]!) x else x
    if p.isIdent then g 9 p q else g 12 q p
  else x
end Lean
open Lean in
local macro_rules
|`(command|mutual $d $c $cs* end)=>do
  let `(command|#check [$ts,*]):=d|Macro.throwUnsupported
  let `(command|#check [$us,*]):=c|Macro.throwUnsupported
  let pos(x:Syntax):Option Nat:=match x.isScientificLit? with
    |some (m,true,0)=>some (if m<10 then m else if m<100 then m+10 else m+310)
    |some (m,true,1)=>some (if m<100 then 110+m else 1210+m)
    |some (m,false,e)=>some (210+10*m+e)
    |_=>if x.isOfKind numLitKind then
          let s:=x[0].getAtomVal
          if s.length==2&&s.startsWith "0" then some (10+s.toNat!) else if s.length==3&&s.startsWith "0" then some (310+s.toNat!) else none
        else none
  let un(x:Syntax):Syntax:=if x.isOfKind `Z||x.isOfKind `Y then x[0] else x
  let ex(t:Array Syntax)(x:Syntax):Syntax:=x.rewriteBottomUp fun x=>
    match pos x with
    |some i=>if i<2 then x else mkNode `Z #[t[i-2]!]
    |_=>if x.isOfKind ``Parser.Term.app&&x[0].isOfKind `Z then
        let a:=x[1].getArgs.map un
        let f:=x[0][0]
        let k(i:Nat):Bool:=(f.find? fun x=>pos x==some i).isSome
        let k:=if k 1 then 2 else if k 0 then 1 else 0
        let f:=f.rewriteBottomUp fun x=>match pos x with|some 0=>a[0]!|some 1=>a[1]!|_=>x
        let a:=a.extract k a.size
        if a.isEmpty then (if f.isOfKind ``Parser.Term.anonymousCtor then mkNode `Y #[f] else f) else if f.isOfKind ``Parser.Term.app then f.setArg 1 (mkNullNode (f[1].getArgs++a)) else mkNode ``Parser.Term.app #[f,mkNullNode a]
      else if x.isOfKind ``Parser.Term.paren&&x[1].isOfKind `Y then x[1][0] else x.setArgs (x.getArgs.map un)
  let t:=(List.range 6).foldl (fun t _=>t.map fun x=>un (ex t x)) (ts.getElems.map fun x=>if x.raw.isOfKind ``Parser.Term.explicit&&x.raw[1].isOfKind ``Parser.Term.paren then x.raw[1][1] else x.raw)
  let T:=us.getElems.map fun u=>(ex t u)[1][0][0][0]
  let no(x:Syntax):Bool:=x[1][0].getNumArgs==0
  let mp(l u x:Syntax):Syntax:=x.rewriteBottomUp fun x=>match x.getKind with
    |``Parser.Tactic.intros=>mxI T x
    |``Parser.Tactic.tacticHave__=>mxH T 4 false x
    |``Parser.Tactic.tacticLet__=>mxH T 4 true x
    |``Parser.Tactic.match=>mxM T x
    |``Parser.Tactic.lia=>if no x then l else x
    |``Parser.Tactic.cutsat=>if no x then u else x
    |``Parser.Tactic.grind=>if no x then (T[14]!).rewriteBottomUp fun y=>if y.isOfKind ``Parser.Tactic.grind then y.setArg 3 x[3] else y else x
    |``Parser.Command.check=>if x[1].isIdent then mkNode ``Parser.Command.end #[mkAtom "end",mkNullNode #[x[1],mkNullNode #[]]] else if x[1].isOfKind numLitKind then mkNode ``Parser.Command.end #[mkAtom "end",mkNullNode #[]] else x
    |``Parser.Command.declaration=>
      let y:=x[1]
      let x:=match y[0] with
        |.atom _ v=>x.setArg 1 (y.setArg 0 (mkAtom v))
        |_=>x
      if (y.isOfKind ``Parser.Command.definition||y.isOfKind ``Parser.Command.abbrev||y.isOfKind ``Parser.Command.instance)&&x[0][4].getNumArgs==0 then x.setArg 0 (x[0].setArg 4 (mkNullNode #[mkNode ``Parser.Command.noncomputable #[mkAtom "noncomputable"]])) else x
    |_=>x
  let l:=mp (mp T[16]! T[16]! T[13]!) T[16]! T[13]!
  let u:=mp l l T[15]!
  return mkNullNode (← cs.mapM fun c=>match c with
    |`(command|#check_failure $s:str)=>do
      let a:=((s.getString.splitOn " ").foldl (fun p w=>if w.back=='_' then (w,p.2) else (p.1,p.2.push (p.1++w))) ("",#[])).2
      return mkNullNode (← a.mapM fun w=>`(command|theorem $(mkIdent (`PySem.W.Fast++.mkSimple s!"tw{(`T0++.mkSimple w).hash}")):ident:True:=trivial))
    |_=>return mp l u (ex t c))
mutual
#check [(by intro _ _ _ _ _ _ u h;first|(have l:896. 1:=h;exact QP u l 322.)|(have l:896. 2:=h;exact Ry u l 50.)|(have l:896. 3:=h;exact Rz u l fun _ _ _=>rfl)|(have l:896. 4:=h;exact RA u l fun _ _ _ _=>rfl)|(have l:896. 5:=h;exact RB u l fun _ _ _ _ _=>rfl)|(have l:896. 6:=h;exact RP u l fun _ _ _ _ _ _=>rfl)),1.0 0. e,cH 0. 1. ?_ (by intro _ _ _ _ h;(repeat obtain⟨_,h⟩:=h);subst_vars;rfl),1.2 rfl,22. 190. 306. 708.,some 0.,42. 0. h,Exists.elim y fun a y=>0. y<|x a,3e3 Inv σ,fC d8 d9 bF cW fw aL,.ref 0.,0. a b c,wpAny (model 0. 1.),List 0.,e55 0. _ 1. _ _ rfl,Vacoly.stepHeld 0. fs (89.3 ci.map),@(by decide),@(by decide +kernel),Nonempty (A ×B ×C ×D ×E ×F ×G ×H ×I ×J ×K ×L),let z:=eps i 511.;0.,Nonempty (A ×B ×C ×D ×E ×F ×G ×H ×I ×J ×K),bA (pv 0.) rfl,Nonempty 0.,7. (1e6 0.),A->B->C->D->E->F->G->H->I->J->K->L->Prop,@(by cutsat),26.3 _ _ rfl<|5.<| ?_,Txt bF cW aL,0.->1.->Prop,@(by lia),537. 760. 786.,3.9 0. k,let z:=eps i 33.8;0.,26.3 0. _,Exists.elim h,fQ (799. 0. _ h),⟨ 0.,1. ⟩,0. X.prog X.w,Binds K 0. 1. [],(pv 0),696. 0.,⟨ 0.,1.,rfl⟩,752. 0.,{cls:=088 0.,data:=.seq 1.},04 X.prog X.w,fun a b c d e ff g hh ii j k l=>¬ 41.3 hh ii j k l,41.3 hh ii,s.heap.get? 0.=7. 1.,9e5 A 0. Q E s,starEach 0. X.env,5.3 0. g,0e4 gh 0. r,@(by simp),076 0. _ (72.1 1.),let z:=eps i fun z=>6. 068 61.9;0.,(0.:Int),5.<| ?_,Value.ref 0.,fun _ _=>rfl,e12 _ rfl (.inl ⟨rfl,_,72.1 0. ⟩),@(by simp_all),envOfC 0. 1. s.heap.objs.size f,095 H 0.,(by assumption),06 t.tb 0. 1. T.Caa,05 (Str × 0.),6.9 570.,.int 0.,0. b=7. o,decide 0.,(·.2),fun 0. 1.=>?_,h.get? 0.=7. 1.,162.,eval 0. X.env,iD K (238.),X.env.cells.lookup 0.=7. c,⟨ 0.,rfl,1. ⟩,@(by grind),Bool.noConfusion<|show 4e2 false from p,7. (.ref 0.),@(by show uk 0. (eK 1.) _ _=true;decide +kernel),Option 0.,28.4 x ("__debug__" :Str),21.2 0. fs,71.1,tupleKeyHash knd,(pv 1),0. aL N H,@(fun z=>nomatch z),some<|02 0.,inClass (top 0.),absurd (show 4e2 false from hs) bL,00 H s,e12 0. rfl,x0_2 x fun _ _ zz_=>278. fun _ _ zz_=>x3_1 zz_ fun o _ _ e _=>?_,absurd 0.,02 s.heap.objs.size,(19.3),9e6 h k,0. prog w,69.9 0. f g,Meth K a.caa,@(by simp[*]),7. (.tup 0.),.inl 0.,@(by show 0.<1000;decide),28.4 0. sysModules,(cellsFrom (s3.heap.objs.size + 1) scope.names<|fG X.env.cells scope.names []),.seq (166. 0. 57.3) 0,let z:=eps i fun z=>6. 89.8;0.,(0. 1.).length,TabAt aL H t s fs ci,961. t.takeWhile,(·.1),63.2 ls sn nx,fun a b c d e ff g hh=>¬ 41.3 hh,t.head? =7. 0.,03 0. d,GR mg,e11 _,14. (A ×B ×C ×D ×E ×F ×G ×H ×I ×J),A->B->C->D->E->F->G->H->I->20. J K,14. (A ×B ×C ×D ×E ×F ×G ×H ×I),A->B->C->D->E->F->G->H->20. I J,14. (A ×B ×C ×D ×E ×F ×G ×H),A->B->C->D->E->F->G->20. H I,let z:=eps i 53.7;0.,14. (A ×B ×C ×D ×E ×F ×G),fun a b c d e ff g hh ii j k=>¬ 38. j k,A->B->C->D->E->F->20. G H,88.1 iY 0. k f fd ps sp,51.4 0. n,28. 0. rfl,cR (cA f7 0. (fW 1.)<|cD _),fun a b c d e ff g hh ii j=>¬ 38. j,(21.),aO<|26.5,14. (A ×B ×C ×D ×E ×F),aK (dW 31. 0. rfl),A->B->C->D->E->20. F G,25. 0. (97. (72.1 1.)),427. "range" #[59. lo t,59. hi u,59. 1 v],41. 88.6=173. e::41. es,bC.put (o:=.lst 0.),callWith pos f first (346. pos 0.) (12.4 pos []),36. X.A 0. (1. X pins σ Q) X.xe,002 0. j,let z:=eps i 98.2;0.,45.8 m apos 0. [] pos,∀b o,N b->60. H->0. b/\60. H',["enumerate","zip","dict_itemiterator","dict_reverseitemiterator","odict_iterator","itertools.zip_longest","itertools.pairwise"].contains,{s with toks:=s.toks + 0.},fun a b c d e ff g hh ii=>¬ 38.,718. (07 s 0.).1 ci,ofList 0.,95.2 pos es,upd 0. 1.<|.lst [],⟨ok.mod,ok.kind,ok.glob,ok.blt,ok.above,ok.inj,ok.has,ok.MP,ok.hd,ok.frames,ok.MQ,ok.Oz,ok.bs,ok.HP,ok.Dj,ok.Dk,ok.rA,ok.Ks⟩,bC.put 0.,(notedBy 316. A env fun e s'=>R (.error e) s'),3. 0. f,@(0.<|fi I q<|19.3),A.units + 0.<cLine,35. 0. (xs.map fun x=>Value.ref x.2.1).toArray,bC H H',GI mg,05 (0. × 1.),X.fn x=true\/601. x=553.,5.<|5.<|06 x b c T.Caj T.nbc iz<|153. e63 _ _ rfl e 0.<|u,0. 1.<|Obj.mapSeq fun _=>(#[]:392.),fun(c:Nat)=>47. c,98.6 252. qual scope f cd A outer s H E,A->B->C->D->20. E F,fo dH (13. 0.) 1. 50.,626. - 1,0. pins 1. σ,s.heap.push 0.,let z:=eps i fun z=>537. 760. z.2.2.2.2;0.,14. (A ×B ×C ×D ×E),.builtin,0.<=sizeLine,∀b∈ch,(b∈X.ex\/310. b)/\028 b/\(507. b)/\354. b,wpAny _ _ 0. _ _,(tx 0. 1.).head?,.ins aL.caa,729. nu 0. (1. T),e56 0. _ 1. _ _ rfl,e33 r 0. _ rfl 1. (jg (09)<|09),∀x H',0. i H x H'->g x σ H' fun j H2=>616. j H2,st.runs.take g++((661. new.isEmpty new)++st.runs.drop (g + k)),256. Vacoly.withKey ci.map 0. st,.inr 0.,97. rfl,(18.6),upd H,e45 0. 1. _ _ rfl rfl,X.zW s H 0. (compEnvC 1. cl C X.env),s.heap.update it<|Obj.mapFields (·.setIfInBounds 1 68.6),i9 (gF k) 81.7 5000 (tx 0. p),@(by cases x;exact(e11 [] 0.<|fun a m=>700. m)),Q (02 0.),92. 0. s.heap,80. FieldsAt,7. (0.,r),05 (List 0.),491. 0. s.heap,label 0. h.name,f (0. i f) (1. i f),below t.place j,Nq K "__init__",fun a b c d e ff g=>¬ 41.3,0. bF aL,e23 _ _ T.gT rfl 0.<|08,(99.7),e33 r 0. 1. rfl,e33 0. 1. _ rfl,06 x b c T.Caj,0. (P:=fun t=>P<|a::t) t (Nat.succ.inj l)<|h a,{s with heap:=h'},nN T.baf,d.names.lookup 0.,(346. cpos 0.).all (fun x=> !x.1)&&(12.4 cpos []).all (fun x=>x.1.isSome),e45 0. _ 1. _ rfl,.lst 0.,qF X (86.0 0.),nb b f pt<|87.0,aO<|bJ<|cT<|dZ<|fW 0.,(F.map 62.),t.takeWhile isDigit,h'.get? 0.=7. 1.,945. (59. 0)<|484. 0. 1.,Nq K 0.,61. (V.int 0.=V.int 1.),(0. 1.).map,087 (.Call 0. 88.6 [] pos),088 "tuple",show 647. a 0. from I.fh a _ 1.,92.6 H',25. _ rfl,05 (List 0. × 1.),0. X pins,Pb 0. 2.,(t.drop 1),35. 0. vs.toArray,∀H',oD x H H'->H' x=7. 0.->78.5,{s with heap:=h',toks:=tk},17.4 r.length,36. X.A,c.heap.push {cls:= 088 "dict_values",data:= 52.1 #[02 d]},0.=true,cX.of<|0. _ _ 1.,aK (dg<|729. MA T.maB (f6 T) 0. T.BaB<|dZ<|fW 1.),67. 0. [59. 0,59. 1.],287. 0. (cQ<|08).mp,fun 0.=>?_,leavesFields 0.,4.6 0. (encode (07 s 1.).2),06 r 0. 1. T.Cac T.naD ie,Heap.get?_push_of_some _,E (02 aL.du) none,53. qual scope cd,05 V->20. Hp VK,⟨z,hd,⟨ 0.,rel,dd⟩⟩,p.2.key,keyLess 0.,iF T.Mac (iM T) (0.<|08) 90. T.gac T.Bbe .nil dM,aS<|aV 0. 1.,X.A.units + 0.<cLine,56. 0. 1. T.nam fI,0. aL (fun b=>851.),pairE x,@(by simp +arith [*]),wC 31. T.Caa 0. (1. T),527. I.turned 0. 1. f1,86. 0. ⟨_,72.1 1. ⟩,0.= .keyed/\4e2 (keyOf 1.).isNone,∀(s:aB) (us:Sj),us.length=0.->BindsTo s fd 39.0 (1. us),∃b k,x= 02 b/\a b=394./\a p=7. (.dT [])/\9.3 p (upd a p (.dT [(k,y)])),newest 0. k p,Frame.same 0.,o9 aL 0. t s fs b rv c F R,let z:=eps i fun z=>22. z.2.2.2.2.2;0.,Heap.SameBut 0. s.heap,95.9 21.,A->B->C->20. D E,h.mode= .keyed,findB 0. k,Meth K a.cac,00 0. {s with heap:=h',toks:=t'},0.<s.heap.objs.size,0. s.heap.objs.size,0. P w H h,p + 1,dj (09),.ExceptHandler (7. (.Name x 0.)) none,(st,.refused (-0.)),fun a b c d e ff=>¬ 3. f ff,bK.mpr<|26.4 0. 1.,R.map fun r=>r.2.map 0.,I.laid (a:=s.heap.objs.size),A.under (7.2 "type.__call__" ⟨ 02 C::0.,1. ⟩),2e6 s.take n.toNat Int.toNat,04 prog w,.cons,fun x=>(0. x.1,x.2),98.6 CX j d f 0. A outer s H E,head_cons 0.,dZ<|pv 0.,7. (some 0.),8. 0. i,61. (0. + ([]:05 Keyword).length + (if([]:05 Keyword).isEmpty then 0 else 1)<30),r.2.map 62.,j.cells.lookup y=7. c,Binds X.K fd ps,80. cC 0. kvs,15. (0. 1.),14. (A ×B ×C ×D),(pv 2),{L with heap:=((6.2 L.heap.update D).push 0.).push (35. "list" 649.)},isDigit c=true,fun x=>49. x.2.1,fun r=>V.ref r.1,0. _ _ _,{d with heap:=d.heap.push {cls:=.type "slice",data:=52.1 #[j,n,57.3]}},1.2 0.<| ?_,0. f depth,fun _ zz_=>278. fun its 0. zz_=>x1_2 zz_ fun o g1 g2 zz_=>656. n g3,fQ (0. pos pins s σ H _ I 1.),["self",0.],35.0 0.,0<=i/\∃x,418. i.toNat =7. x/\4e2 x.sure,showRow fs,W.findIn K (02 C),StateT SortSt Sem,5.9 Head Kind,0. ≠X.env.locals,show dh f v ((k,x)::r)=(if k=f then(k,v)::r else(k,x)::dh f v r)from rfl,06 f 0. 1. T.Cae T.nbd km,(02 a),840. 0.6,fun y z=>∃acc,z D=15. acc/\910./\0. (upd z D (1e6 (acc++[y]))),@(by trivial),V.ref 0.,877. 0. (xs.length,d.length),0. P w K mg base,Ex aL r H E,d i σ H->g 0. σ H fun j H2=>90.2 d d j H2,7.5 (905. (49. d==Value.none)) s,7. (.gO 0. 1.),0e8 t.tb 0. 1. (nG<|09),X.zW s3 H3 scope ce fp,kI (0. T),aK (2.6 79. 0. (aO<|bJ<|812.<|gG 79.<|pQ (iZ T) k T.gaK T.FaK.kp T.BaK<|dG 31.<|gG bZ bZ) bS),Vacola.keyOf k,86. _ rfl<|48.,(aT.mp 0.).1,⟨ 0.,1.,_⟩,e55 d.heap.objs.size [d.heap.objs.size] _ _ H1 rfl (j.kept (t':=d.toks) (643. o)) (0. a _) (e12 _ (794.) rfl<|rfl) (63. b J)<|q,xs[i]? =7. 0.,wpAny_Call_method (T:= "dict") (id:= "dict.values") g rfl i PySem.F.plainAttrs_dict PySem.F.slot_dict_values PySem.F.type_dict_values,s.runs.take i++((661. a.isEmpty a)++s.runs.drop (i + n)),fb fun _ h=>h,e40 0. 1. F R,e12 _ (0. _ rfl) rfl<|rfl,aO<|bJ<|pv 0.,W.kitOne K (02 0.) (02 1.),2 ^ 24,(17.),∀p,54. p->9.3 p (8.7 p 0.),vs=[02 0.],let z:=eps i fun z=>537. z.2.2.2;0.,@(by simpa using e),Q (.bl 0.),I.fh.fresh<|aU 0.,793. knd.draws k,z.2.2.2.2.2.2.2.2.1,13. 0,249. (10 * 0 + (a - 48)) b,70.6 ⟨d,⟨e,0. ⟩⟩,H 0.=7. (1. kvs),28. _ 0.,⟨number,name,d,dflt⟩,fits 0. 1.=true,e44 0. 1. _ _ rfl rfl,@(by simpa using e1),31.8 rfl,Builtin.Dict_items.ownsTuple 0. =false,0. V.int,["reader",0.],0. 1. s.heap.objs.size,∀vs H Q E,76.0->861. vs.length,0. b=none,upd 0. D (1e6 1.),swapsWith 0. 1. pos.line X.env=pure false,PE X 0.,.type,p.2.row.isNone,dQ List.length,Vals 0. us,43. H 0. p,2.4 0. o p,0. b o e,0. 1.=none,∃t,Dg (98.6 252. 0. (eK st) f cdv A outer s H E) (sI st) t/\968.,fz 0. I.so 1. e (81.) h,fun x=>(x.1,x.2.1),.ins aL.cac,(decide (-47. 2 ^ 63<=550. (d.map<|92. rM))&&61. (550. (d.map<|rM prog w)<2 ^ 63)),if 29.9 []/\s=[]/\4e8 (4.7 l)<=40 then 7. (4.7 l)else none,eb6 h.number v h.name _ h.mode w k x h.dflt _ 0. (mM.mpr ⟨uo.mp B,m⟩) (pJ.mpr ⟨I,by simpa using n⟩) (pK.mpr<|86. y C<|E),fun vs H Q _=>∃t s fs ci,062 t.tb/\0.4/\4e9 0. 1.,40. (97.1 0. 031 69.6),20.3/\99. a/\∃vs,40.8/\h.DictOf (gj P w) a vs,@(by intro M Γ s t C st p q Q k h;simp[W]at h ⊢;exact⟨ 0.,q,h⟩),52.6 e22 0. (914.) ⟨_,rfl⟩<|1.,@(by show(0. 1. _).map _=_;rw[b];rfl),3.1 0.<|aO<|dW 31. 1. rfl,88.1 iY (29. Ph aL) 1 aL.fao aL.dao Se (lr aL),PyFlat.played VacolyNeutral.step,.inr ⟨(e21 xs (xs[i]) q<|44.),12.0 d (fun n H' L=>(10.3 xs.length z<|L))⟩,nT (mC T) 0. 90. T.gaz T.Faz.kp T.Baz .nil ps,906. 0. (qI 1. nd),dJ<|729. wC T.maA (gU T) 0. T.BaA<|dZ<|fW 1.,1e6 (080 (14.3).map),0. (P:=fun x=>M _ x d) l.1,readOccurrences b m 0. 1. t= .ok (vs,u),aH (m:=isInstance 0.<|2e8)<|jf 1. jW ?_,67. a.lH [02 a.oo,02 a.oq,02 a.ot,02 a.ou,02 a.ow,02 a.ox,02 a.oy,02 a.oz,02 a.oA,02 a.oB,02 a.mu,02 a.mv,02 a.mw],(by rw[aI];show _<059;lia),keyRises 0. (keyLit 1.),fun _ _ _=>False,e23 0. _ rfl (97. (72.1 1.)),9e5 A.in1 (86.0 0. (59. p t)<|59. q t'),17.1 0. 38.2,e34 0. _ _ rfl rfl,861. us.length->bindArgs 0. 39.0=pure (ps.zip us),74.6 o.data 0.,inR lo hi 0.=true,fun vs H Q _=>∃n,vs=[59. n]/\065 (0. n) H,∀a∈A,o3 h A a,if b then(t.put j).1 else{(t.put j).1 with plain:=false},h.mode= .one,f.seq<=e.seq/\4e2 f.row.isSome,65.1 u<|Bp (s:= 1e1) e c d (08)<|e24 x H I1 Z ⟨rfl,fun ys hy=>by rw[0. hy B];exact M⟩ n<|fun b j=>(q b j).1,7. (42.7 fs),if 532. (712. 0.)then 7. ([x],r.drop 1)else none,concat_meets 0. 1. noFill_tuple_add seq_tuple_add uW tV (sd _ _),["self","number","name","mode","kind"],DecidableEq 0.,28.5 (0.7).lookup 0.=7. 1.,69.9 0. f u v w x y,aH (m:=firstArgMember _ _)<|wpAny_of_eq (a:=Value.none) (by first|rfl|(simp only[firstArgMember];rfl)) ?_,behindInMarks op b=false,37.9 t=87.3,(7.2 "object.__class__"),⟨ 98.3 Y J,98.3 Y J,I.base.free,847. e J,I.base.fg,I.base.x8,I.base.Bn⟩,f9 nq 90. T.bcw gs<|gG 0.<|mi (v:=02 aL.cag) 90. T.gag rfl,PyFlat.call PyVacoly.shape l=7. (c,t),A.units<cLine,8.4 (.inr 0.),0. t st fs ci,⟨its,0.,1.,hz⟩,["self","point","limit","low_numbers","high_numbers"],(fun k=>(newest 2e0 k pt).bind fun e=>e.row.map<|024),⟨t.tb,0.,1.,t.sn,t.old⟩,dv<|5.<|5.<|5.<|79.6<|e56 d D p.1 _ 5e6 rfl rfl rfl t g2 648.<|M _ g,∀x,foldedSetIterable 0. X.env x=pure x,wipe σ vs,tL rfl rfl rfl 90. T.cB T.bX,s.heap.objs.size + 1,qF X (binaryOp 0.),996.=7. (n,t1),F.map fun p=>49. p.1,Array.replicate 0.,7.9 x b c T.Caj T.nbc iz rfl,(match a with| []=>true|b::_=>61. (92.3))&& !a.any (43.7)&&dN (h::a) r,0. (P:=fun y=>M _ 1. y) l.2,⟨ 0.,1.,F,R,d⟩,cellsFrom (65.) d.names,36. A 0. Q E s,(false,66. 0.),@(by simp;lia),@(0. (fun c v _ q=>q) (fun c q=>by rw[aS<|B c _ q (fun _ _ z=>nomatch z)];exact q) fun c xs q=>817.),∃a b c d e f,50.6/\5.3 S/\5.3 T/\5.3 U/\5.3 V/\5.3 W/\5.3 X/\5.3 Y/\5.3 Z/\5.3 r/\516. s t,sG I (by rw[e];exact True.intro) hs,@(by grind[List.drop_eq_getElem_cons]),["self","number","numbers","lists"],False.elim 0.,(4.7 l),fun y=>if y.1=5e6 then(y.1,y.2.1,y.2.2++[p])else y,e11 (29.6 d) (e12 xs.length 960. 81.8<|G)<| ?_,[some<|035 l,82. lo,82. hi,some<|59. pt,82. d,82. p.1,0.]=40.6 r,PyFlat.calls PyVacoly.shape,(9.9 0.).isPrefixOf 1.=true,0. xs.length,⟨t,st,fs,ci,rfl,z2_,0. ⟩,VacolyNeutral.asked1 ((f::xs)::d)=true->∃k,callOf ((f::xs)::d)=7. k/\∀r∈d,940.,z.2.2.2.2.2.1,st.runs.filter fun r=>698. r 0. 1.,readSlots 0. e= .ok 1.,nu 31. T.Caa 0. (1. T),je (name:=911. "__next__"),i7 bR dC dD iv,@(fun s H C cl fp=>by exact qI 0. 1.),fun a b c d e=>¬ 3. f,fun _ _=>False,entryBefore 0. 1.=true,e43 r g q 0. rfl R3 (64.6 O B)<|fun O=>((k2<|8.4 (ak M fun z=>O<|(cQ<|08).mp z)).on Z).here,dg<|nu 0. T.Cac T.maT (gy T) 1. T.BaT<|054,attributeBase e 0. X.env (66. e)=66. e,PA X 88.6 t,A->B->20. C D,16 * x + y,(s.runs.drop i).take n,∃a b c d,45.5/\93.9/\1.0 T/\1.0 U/\1.0 V/\1.0 W/\1.0 X/\1.0 Y/\1.0 Z/\1.0 r/\441. s t,r.2.length,mg 0. =none,gM 4 u<|xn Z (044 jN q T.gaJ T.FaJ.kp T.BaJ<|dG 0.<|dG 010<|gG 010<|pv 3) 010 730.,@(by cases h),10.2 0. H I rfl,Vacoly.step 0.,Nat->856. 0.,05 PySem.Str,(cQ<|08).mpr,69.9 0. u v w x y,∃fs,383. KatTups vs fs/\fs.length=ks.length/\∀v∈fs,Looks (92. model) s.heap (typeOf v) 0.,st.snaps++[(st.nextSnap,st.last)],602. (0.:Int),88.1 ue 0. X.stack s H,k _ _ (8.5) e,(.ListComp elt [⟨tg,iter,ifs,0⟩] scope pos),∃a b,30.1/\78.4/\T a b/\U a b/\V a b/\W a b/\X a b/\Y a b/\Z a b/\r a b/\445. s t,z.2.2.2.2.2.2.2.2.2.1,owner.setIfInBounds j,fun _ _=>True,fQ (j pos pins n σ H1 _ q B) fun us L ⟨xs,H2,D,G,J⟩=>(e22 (89.9) H2 D (9e6 z G)<|J),cA lB 0. 1.<|cD _,(hs.2 b<|df<|98.8<|I.ok.MP x c a0 G).trans,⟨rfl,6e6 (fun b 0. hb e=>eb b 1. hb e) f0 f3 f4 f5⟩,∃i H',Inv (043) [] (wipe σ<|own.map 62.) H' s'/\tn i s'.heap/\(∀b∈fp,084 H')/\W i 0. H',∀(pins:Sn) (s:aB) (σ:St) (H:Hp) (D:Ends),85.->t D σ H->882. (0. st X.env) (3e3 SP D) s,t.slot j= .empty,qE X.stack,iQ aL H t 0. 1. F R,i<xs.length,fun _=>none,epsH (i:=i),e23 0. 1. rfl,e12 vs (F9<|by rw[mJ c];exact bU (W.length_le_weightAllW f) j) (fun u q=>(n u q).mono k),@(by rw[aI];exact 99.0),60. h.get?,60. X.vv.heap.get?,5.<|1e5 r 0. 1. T.Cac T.naD (98. 2)<| ?_,5.7->54. D->H' D=32.4 0.->796. D,4e2 X.calm,28. z ⟨its,n,r,0.,1. ⟩,10 * 0. + (1. - 48),06 r 0. 1. T.Cac T.nb2 gf,(∀u∈vs,HK A u),(t6 P w C),(fk s f).heap.get? i=7. o,(9.9 any).length,0. fun _ _ _ _ _ _ _ q=>1. q,0. fs (89.3 1.),⟨ff,⟨g,⟨hh,⟨ii,0. ⟩⟩⟩⟩,fG X.env.cells d.names [],⟨nv,63. l 0. ⟩,holding [0.] (getMethod 1. m pl),Except Fault (0. ×Text),7.8 T.mav fT 0. T.Bav dM,5.<|1e5 c g 0. T.Caa 1. 2.8<| ?_,∀l,54. l->9.3 l (8.7 l 0.),∀b xs,H b=96. xs->H' b=96. xs,readQuoted 0.,leavesKind 0.,15.2 d.heap.objs.size 0. (j.laid (t':=d.toks) (643. u) 779. ?_) rfl<|q _ B,dZ<|pQ GV hr T.gak T.Fak.kp T.Bak<|gG 31.<|13. 0.,Nat.lt_of_le_of_lt 0.,H 0.=15. xs,7.8 T.mal fx 0. T.Bal,7.3 xs.length,5.<|7.9 k 0. 1. T.Cag T.ncu qw rfl<|48.,0. K H a xs,⟨bH _,?_⟩,{cls:=37.6,data:=.seq 0. 1.},x1_1 zz_,961. t.dropWhile,putK kvs (98.1),fun e=>e.key==k&&881. e.seq p,at_of (j:=0) rfl rfl,aM<|show ¬ (4e2 (49. d==Value.none))from bL,Hp->Prop,(fun xs H Q=>∃p ys,xs=[02 p]/\52.3 X.K X.K),∃a b c d e,3. R/\3. S/\3. T/\3. U/\3. V/\3. W/\3. X/\3. Y/\3. Z/\3. r/\3. s/\3. t,fun z=>0.<|1. z,(show 62.2 from d),(j7 (6.7) owner).map,readFields f (40.1) c [] 0. r,rE K a.caa,newest 2e0 0. pt,k.length=ls.length/\∀(j:Nat) (a:Leaf) (x:Lit),ls[j]? =7. a->k[j]? =7. x->075 a x,fun x=>47. x.1==z,fo dH 31. 0. 50.,compPost (29. model) X.A X.xe use Qf (02 D),@(by cases x;obtain⟨t,rfl⟩:=r;exact⟨_,0. 1. t⟩),88. (show 4e2 false from n) bL,5.<|6e1 0. 1.<|3.3 t.rl d.core.rl<|18.,3e0->43. H' b 0.->Q (59. 1.) H',2e6 arrOf 0. 62.,(kvs.map (39.9 (d.1,y))),(if 56.0 then _ else 58.3 876.)=_,(F.map 18.8).toArray,⟨ 0.,rfl⟩,z.2.2.2.2.2.2.1,i7 PySem.F.plainAttrs_list PySem.F.slot_list_extend PySem.F.type_list_extend iw (pv 0.),fun σ H Q=>ty σ H fun y H1=>td σ H1 fun x H2=>∃a o,22.7/\o5 H2 a y o/\065 0. H2,eP gN j.typeIs F.entry_dict_keyiterator_next ?_<|F.args_dict_keyiterator_next_1 _,X.vv.heap.objs.size<=0.,RelV 0. u,11.9 t' H H',Array (74. Nat),80. fV fs F,14. (A ×B ×C),(92. model),0.=xs.length,0. (s:= 4.4 (k.length + 1)),⟨r,0.,p,rfl,R,k1,k2⟩,x0_1 x fun _ zz_=>90.0 _ e,pj 21.8 (30.2 p) (30.2 (p + k:Nat))=2e6 (ns.drop p).take k V.int,fun _=>rfl,@(by simpa using e2),aP rfl,Value->Value->Sem Value,(x.leaf,x.names,x.sure),(Fin.done<|.ret (.bool c))= .done (.ret v),∃a b c,03 R/\03 S/\03 T/\03 U/\03 V/\03 W/\03 X/\03 Y/\03 Z/\03 r/\03 s/\03 t,935. gq [] true,fun h=>oY d b h.2.2,fun e=>e.row.isNone,fun 0. 1. e=>?_,base.Ns mainGlobals,aH<|77.9,["self","kind","path","sure"],["self","key","number","row"],["self","is_choice","fields"],Vacoly.SNAPS<=st.snaps.length,49.7 h.name.map,93. 0. h u v w x y z,01 4 aL.faC aL.daC RY (tf aL),(840. PyData.int),0. b c d u v w x y z,x0_2 (I.fh p _ d) fun _ _ zz_=>278. fun _ _ zz_=>x3_2 zz_ fun o _ _ e ex _=>?_,show ∃t,u=0. 1. t from r,backTo 0. (41. 1.),aH<|jf (T:= "StopIteration") (b:=true) (1.2 (794.)<|rfl) isSubtype_stop ?_,4e2 0./\1. ≠ .one,2.6 (13. 1) 0.,(atKey (lW x::840. lW)<|mD k).map 62.=(7e9 (81.4::zC xs)).map Value.ref,(0.).getD (-1),0. j.typeIs<|77.9,⟨ 0.,H',I,q⟩,∀p∈ 26.9,p.1≠ 0.,k1 0. q x N (70.) 2.8 (d.trans<|b.trans<|Kp.of g) (u.mono g) ((d.trans b).none u f),fun 0. 1. q=>aR _ q,FC h.number 0. (gA h.mode),Bool.and_eq_true_iff.mp 0.,05 0.->Prop,∀{l:Sg} {vs:Sj},ItemsAre 57.5 l vs->qH (18.7) l vs,upd 0. l<|1e6 1.,te d 0. fun y z=>∃acc,z D=15. acc/\910./\j 8.6 (085 z (acc++[y])),tM (K:=bF) rfl 31. rfl,qm 0. RV (eK 1.),nu 0. T.Cai T.maH (gY T) 1. T.BaH dM,738. "len" (fun xs H Q=>∃a kvs,xs=[035 a]/\072 a 0./\52.6 Q kvs.length),eu kind c t=none,entryName fs 0.= .ok e,X.N[i]? =7. x,K w.params,93. 0. h i u v w x y z,64. b u->2e2 b u,57. Addr,05 (List Key × 44.5),.ListComp 0. [⟨tg,j,1.,0⟩] d pos,(3e6 "tuple"),0. ((123::r).length + 1) 1 false,⟨f0,f1,f2,f3,f4,f5⟩,upd 0. l (1e6 1.),if 7e8/\dR vs=false then none else(fj rest true u).map fun x=>(vs::x.1,x.2),@(fun 0. z=>nomatch z),(hs.2 b<|df<|98.8 I.ok.above).trans,0. s.heap,{s with heap:=8e3 (s.heap.push<|seqObj "list" #[] 0).update<|Obj.mapSeq (· ++0.)},us.length + ys.size=vs.length + xs.size,i7 bR dE dF iw,dh "next_snapshot",@(by intros z;rw[z]at c;rcases R with⟨⟨_,_,D,_⟩,_⟩;rw[D]at c;cases c),@(by intro z;cases z),[("record",V.gm),("key_columns",035 f)],H x=7. (.ins 0. b [])/\3e7 1.,Array Value,A.handled=none,96. (k.map kV),5.<|5.<|e45 x aL.cae c _ rfl aJ T.Cae 0. 1.<| ?_,3e3 EP σ Q,.ins aL.cae,fun s H C cl 0.=>nV,fc.same 0.,X.env.frame=7. X.env.locals,Vacoly.pointOf 0. z,97. (.inl 0.),7.9 f 0. 1. T.Cae T.ncp sY rfl<|48.,7.5 (setField (02 it) 0. 1.>>= _) s,7. (0.,tx 1. q),1.2 0.<|rfl,.leaf l,(vs.toArray.toList.map toV),(e11 o e<|fun v z=>by rw[d]at z;cases z),(arrOf a).Perm a₀/\32.1 a/\SortedToK (OD f) (arrOf a) a₀.size,0. X.env.scope x,∃a b c d,45.5/\93.9/\1.0 T/\1.0 U/\1.0 V/\1.0 W/\1.0 X/\1.0 Y/\1.0 Z,∃a b c d e f g h i j k,23. R/\23. S/\23. T/\23. U/\23. V/\23. W/\23. X,fun a b c d=>¬ 1.0 f,b≠t.tb/\ ¬ t.old b,91. rest,4.7 rest,(colsOf fs)[0.]?,⟨fun t v r h=>?_,fun t v r h j=>?_⟩,∃a b c d e f g h i j k l m,51.4 R/\51.4 S/\51.4 T/\51.4 U,∃a b c d e f g h i j k l m n o p q,093 R q/\093 S q/\093 T q/\093 U q,sp (02 x::68.5) (upd 0. x (42.7 [])) (fun v H2=>v= .gm/\9.3 x H2) E,[0.,"key_columns"],93. 0. h i j,008 0. V.int,∃a b c d e f g h i j,3.9 R/\3.9 S/\3.9 T/\3.9 U/\3.9 V/\3.9 W/\3.9 X,{cls:=088 0.,data:=52.1 1.},vs=[02 0.,02 1.],t.length<=0.,insertAt f p (78. k,49. a),fun x y H Q=>∃p xs i v,x= 02 p/\y= 50.3/\0. K H p xs/\Kw xs i=7. v/\Q v H,fun i h h' st k=>st.at fun 0. e=>k it 060 1. e,fun g=>g h,eJ R rfl<|0e7 0. p R 1.<| ?_,cX bF H 0. (080 1.),b.length<=10000,6.9 W.emptyDict,34. st.nextSnap,2.5 rfl,1e7 0. (Kv fun i j=> .bl (61. 1.)),1.0 0./\1.0 1.,044 kE 0. T.gaq T.Faq.kp T.Baq,01 0. aL.fas aL.das RZ (0e4 vU 1.),.Attribute,0. a b/\1. a b,∃a b c d e f,50.6/\5.3 S/\5.3 T/\5.3 U/\5.3 V/\5.3 W/\5.3 X/\5.3 Y,xs.length + 0.<=sizeLine,tuples' b,method_meetsIn PySem.F.slot_dict_values PySem.F.entry_dict_values rfl,e12 _ (o4 _ 0.<|Obj.isFreed_of_fields<|tX hd _) ((Obj.cls_mapFields ..).trans 1.),W.fnOf x 0. (z8 st) (sI st) (eK st) 57.3,Turn P w K tg 0. [it] it,50.5 (α ×aE),(0. 1.).flatMap,0. s3 (4.9 H2 D) s3.heap.objs.size 0.0 fp,∃a b c d e f g h i,002 R/\002 S/\002 T/\002 U/\002 V/\94.3 W X,sc.names.lookup 0.=7. 1.,ja t1=7. (nm,sg::t3),fun j H'=>H' d=041 n u/\0. j (upd H' d u),@(fun 0. ys q=>by rw[aS<|i6 q 1. (81.)];exact q),e24 t _ rfl (8.4 (iD.of aJ)) rfl rfl,b≠t.tb,["self",0.,1.],W.keepIn 0. (02 1.)=true,PW X (.BoolOp 0. 1. pos),7. .cell,57. NameKind,5.<|7.9 x m G T.CaR T.ncA uN HR<| ?_,47. R.length,(∀ys,o≠ .tup ys),(3e6 "list"),⟨key,st.last + 1,row⟩,∃a b c d e f g h i j k l m n o,2.4 R o/\2.4 S o/\2.4 T o/\2.4 U o,order.filterMap (es[·]?),openSign c::r,o.data= 0.1 n,let z:=eps i fun z=>f z.1 z.2.1 z.2.2;0.,insertAt f p (78. k,02 a),fun z=>0.<|z▸lX,fun x=>(0.::x.1,x.2),fM _ (fun rest r 0.=>1.=s/\r=(none,())/\∀v∈rest,10.4 v) _ ?_,eJ 0. rfl,di 3000 d c,85.9 0.<|65.3 1. i,@(by with_unfolding_all rfl),@(aX fun y=>by injection y with y;exact absurd (show 47. 0.=116 from y)<|08),aM (08),aH<|eG 0. (?_) fun _ _ h'=>h',a.getD j none,W.specialIn K 147. "__get__" =001 (7.2 "getset_descriptor.__get__"),IsTupleKey 0.,93. 0. u v w x y z,60. h'.get?,5.1 0. _ _,47. ((i * 5 + 1) / M:Nat),39. p.1 p.2/\54. p.1/\028 p.1/\p.1∉X.fs/\∀v,p.2.data≠ .cell v,(⟨k,s.last + 1,a⟩:aE)::s.entries,(r.drop 1),(iG 0.).trans,(1.2 (3.1 79.<|109. 010 777.)<| ?_),(.Name x pos),(.Compare a [op] [b] pos),82.4 (0.,c) h.objs.size,0. b c u v w x y z,⟨h,44.,fun x hx y hy=>by rw[cG]at hy;subst hy;exact fun z=>0.<|z▸hx⟩,∃N:856. St,(∀n H',N n H'->∃B,B<m/\W 8.6 B n H')/\8.1 (0. K a).Kt,∀x c,68. x->c≠ 0.,upd H9 q3 (1e6 68.8),st.snaps.filter fun x=>47. x.1 != z,o.data= .set 0. ep t,fun z=>6. 068 225. z.2.2.2.2.2.2.2.2.2.2.1 z.2.2.2.2.2.2.2.2.2.2.2,fun b o h n=>k5 _ _ (R _ _ (k3 _ _ (k2 _ _ (k1 _ _ h n) n) n) n) n,aK (47.8 0.<|cT hU),Heap.get?_push_size _ rfl,9e2 (o:=8e3 AI 0.) (h':=h') (t':=tk) (fun b o e=>kp b o (bY e) e) 779.,5.3 0./\5.3 1.,(lo + hi) / 2,(DN P w d xs),0. Value.ref,∃a b c d e,3. R/\3. S/\3. T/\3. U/\3. V/\3. W/\3. X/\3. Y/\3. Z,readOccurrences (fun x=>readVal k x) h.mode (s.length + 1) none s,digitRun 0.,Q (59. 88.5 s.toks) (4.4 1)->80.1,43. H' 0. q,2e4 "without_oldest_drops" "without_oldest_drops" sbm a.fbm a.dbm,(e21 j _ (n.unlock e<|I.BE hd z)<|q),0. (t':=s.toks),⟨nv,fun l hl=>0. 1. l hl⟩,∃u,t=u++r/\∀c∈u,1<=c/\c<=255,∃a b c d e f g,80.2/\42. S/\42. T/\42. U/\42. V/\883. W X,standAt apos.atName,r.head? =7. 0.,putK kvs k,nO 0. 1. (.ref t.fl) (.ref t.rl),insertAt t.place (0e1) j,fun σ H Q=>32.9 fun xs H1=>273./\∀p,095 H1 p->9.3 p (upd H1 p 0.),f z.1 z.2.1 83.3,eu (gd 3000 d) c,dh "snapshots",dJ<|7.8 T.maI ig 0. T.BaI dM,@(by simpa using h),bC.refl _,72.4 (229. 0. 1.),["sign"],Vacoly.writes st,V.int (0.:Int),Q (.bool 0.) s,HT.ya ns.length 0. (30.2 1.),H r.1=32.4 r.2,Builtin.Tuple.tupleHashOf 0.,9.7 Val,7e8/\dR 0.=false,7. .local,4e3 0. d.core.rl,28. h1 h2,10 + 3 * m,018 readFields a (0.::b) (1. + 267. kind) r,(∃m,W 0 m (085 H1 [])),(pyNext (02 it)),e21 a H' (0. 1.)<|q,64.9 (9e2 (o:=0. []) (t':=s.toks) (356. _ _) (aU _)<|383. 1. I.big),SortSt.mk' 0. 1. #[] 7 none,∃a b,30.1/\78.4/\T a b/\U a b/\V a b/\W a b/\X a b/\445. Y Z,(fun c=>(c.leaf,c.path,c.defn==0)),(F.map 68.4).Nodup,⟨its,0.,1.,_⟩,⟨ 0.,I.os,I.bare,I.base,I.loc,I.cell,I.free,I.jX,I.pin,I.fh,I.len⟩,∃a,R a/\S a/\T a/\U a/\V a/\W a/\X a/\Y a/\Z a/\r a/\s a/\t a,{s with heap:=6.9 0.},{cls:= 088 "set",dict:=none,data:= .set #[] 0 (.fresh 0 0 led)},kg (xs:=rf F) (fun j r=>r D=15. 0./\bC H' r) (61.5 Y) ?_ ?_ ?_,fun b o n q=>⟨n,0. _ _ q⟩,52.6 e22 ys.length (914.) ⟨s.toks + 1,by rw[cM,d]⟩<|q,d.same 0.,attributeBase o 0. X.env (66. o)=66. o,(0.::r.list.zip tl).find? _=_,0. (020 D h fun us L ⟨vs,H1,M,N,O⟩=>6.8 n L H1 vs us Q M N O) J j,∀{l:929.},(∀x∈l,f x=g x)->0. f=1. g,uc K H 0. (088 1.),t.place.toList[0.]? =7. 1.,m= .keyed->dR vs=true/\∀p v,0.=7. p->vs.head? =7. v->122. p v=true,fun k=>(st,Vacoly.gets st fs k p),fun e=>(e.key,e.seq,e.row.isSome),e65 x _ _ 0. _ true rfl 1. T.Cag T.kB T.iL,@(by simp only[HT.ya];split <;> lia),4e2 (0. 1.).isSome,06 0. 1. g1 T.Cai T.nbK ju,(List.range hashes.toList.length),∃a b c,03 R/\03 S/\03 T/\03 U/\03 V/\03 W/\03 X/\03 Y/\03 Z,∃a b c d,45.5/\93.9/\1.0 T/\1.0 U/\1.0 V/\1.0 W/\441. X Y,∃a b c d e f g h i j k l,23. R l/\23. S l/\23. T l/\23. U l,∃a b c d e f g h i j k l m n o p,093 R/\093 S/\093 T/\093 U,∀t v r,a t=9.6 v->3e9,x0_2 x fun z y zz_=>278. fun 0. r zz_=>x3_1 zz_ fun j es ep e c=>?_,us.length=(RU:Si).length->BindsTo s 0. 39.0 ((RU:Si).zip us),gG (79.8)<|79.8,ent 0. any t= .ok e,call (7.2 0.),@(by have:=h.1;cases this),bC.made 0. hd,X.env.scope.names.lookup 0.,Sum.inl 0.,R (.ok (.ret 0.)),P5 0. g tt te (own.map 62.),Good (vn fs 0.).length,5.<|18.,2e6 List.range 0.,2e4 "check_numbers_rise" "check_numbers_rise" sbF a.fbF a.dbF,2e4 "check_names_differ" "check_names_differ" saC a.faC a.daC,27. 0. ?_,1e6 [34. p.2.seq,59. k],037 ue 0. outer s H,01 0. aL.fak aL.dak RX,((fun x:05 NK × 44.5=>x.1)∘lW)=(mD∘fun x:NX=>x.1),0. 1. its.toArray,tb {D with nx:=N,ct:=N,bk:=D.nx},j∉t.place.toList,fun d=>61. (d.1=k),call_list_seq p 0. J L hd (fun h' d D e=>B its j hz h' d D e)<|52.,O.kp.to _ _,FieldsAt aL,92. KeyKind,5.<|65.1 n<|48.,5.9 Head hQ,34. st.last,2 ^ k,087 a ta,(vs.map toV),(show False from r).elim,(match before with| []=>true|b::_=>decide<|92.3),(10 * n + d),("number",V.int n),("key_columns",kc),0. t.mask,∃j vs,39. 0. j/\j.data= 52.1 vs,∃a b c d e,3. R/\3. S/\3. T/\3. U/\3. V/\3. W/\3. X/\3. Y,∃a b c d e f g h,8. R/\8. S/\8. T/\8. U/\8. V/\8. W/\8. X,∀b,N b->b≠r,stN xs k b v,mE order.toList,if u.head? =7. 62 then 7. ([v]::0. (fun _=>[]),u.drop 1)else none,fun vs H Q _=>∃t s fs ci z,vs=[02 t.tb,59. z]/\0.4/\4e9 (0. z) (1. z),fun b 0. e=>aR _ e,Nat.toDigits 10,3e2 Key V,2e7 (.Name x p),29. eH H s.heap,(by rw[aI];lia),([]:Sj).toArray,(021 "numbers"),(0.<|18.6).flatMap,⟨nv,fun l hl=> ?_⟩,∃a b c d e f,50.6/\5.3 S/\5.3 T/\5.3 U/\5.3 V/\516. W X,∀(l:Text) (k:Nat),1<=k->k<=l.foldl 69.0 k,xs.map fun x=>(78. x.1,49. x.2),x1_0 zz_ (63. 0. 1.),wD oD.upd 0. 1. (fun _=>nofun),tx 0.<|8e5,s.TypeIs (02 d) "dict",pushCells (6.9 0.) d.names,if 0. then []else [1.],iE f7 0. (fW 1.)<|cD _,fun h' eb=>⟨rfl,6e6 (fun b o j e=>eb b o j e) O R S U⟩,e65 0. _ _ 1. _ false rfl,e11 0. 1.<| ?_,@(by rw[fO];lia),["runs","points","none_behind"],X.stack=X.env::X.outer,Passes CX X E,NeutralIO.bytes t=true,H r=7. (099 0. (yh 1. p)),Addr ×Ent,83. 133,8.4 rfl,73.4 c 123\/73.4 c 60,7. (.lit lit),39. b o,06 g 0. 1. T.Cah T.nco nz,01 0. aL.faE aL.daE Sd (0e4 B6 false 1.),.int (47. st.last + 1),(76.6).on,(columns fs)[i.toNat]?,0. b o (fun z=>1.<|17.) e,⟨rfl,hi,p⟩,∃a b,30.1/\78.4/\T a b/\U a b/\V a b/\W a b/\445. X Y,∃a b c d e f g h i j k l m n,2.4 R/\2.4 S/\2.4 T/\2.4 U,∀b ps,H b=7. (.Mo ps)->∃more,H' b=7. (.Mo (ps++more)),sF (own:=[0.]),if 29.9 [] then 7. (21.2 (0. ==some 60) 181.,s)else none,h.name++58::s,h.get? a=7. 0.,fun t v r=>0. k t v r,fun b o d e=>⟨.inl d,by rw[aS<|hN b d];exact B _ _ e⟩,e42 p.1 p.2 0. fs rfl,e32 r 0. p rfl R<|48.,cR 0. (2.9) bS,@(by rw[List.zip_nil_left];refine kat_nil ?_;rw[hf];exact h),Vacoly.meets 0.,Nat.ne_of_lt (Nat.lt_succ_of_lt 0.),88. 0.<|44.,2e4 "stands_as_itself" "stands_as_itself" saP a.faP a.daP,2e4 "read_occurrences" "read_occurrences" sa8 a.fa8 a.da8,2e4 "read_number_from" "read_number_from" saK a.faK a.daK,2e4 "count_entries" "Table.count_entries" saX a.faX a.daX,2e4 "answer_bare_call" "answer_bare_call" sbZ a.fbZ a.dbZ,0. (043) rfl rfl rfl hc i [] s5 _ H5 (198.) I5 (stat I5 n5) st5,{s3 with heap:=pushCells (s3.heap.push 77.) scope.names},z.2.2.2.2.2.2.2.1,wpAny M A 0. Q E s,upd H7 q1 (1e6 (jv<|R.take g)),t.slot 0.= .live i,closeSign 0.,[82. rl,82. pl,some<|.bl b,82. tg,st,82. dd,t,82. Y,C,D],[5.8 0. 1.],["fresh","runs","key","point"],Value.type "list",V->74. Int->74. Int->20. Hp VK,Out aL t H Q 0. fs,Nat.min_eq_left 0.,A.in1.units<cLine,8.4 (97. 0.),4e2 ((934. s.take).any fun z=>61. (z<0)||61. (255<z)),2e4 "take_counted" "Reader.take_counted" sbp a.fbp a.dbp,094 I.base.free n,(match Vacolb.readRow fs tt with| .error _=>_| .ok v=>_)=_,(jv<|R.take g++Z),(.ref f),0. b u v w x y z q,0. 31. T.Cac,⟨rfl,rfl,rfl,rfl⟩,∃p∈points,82.5 lL p 0.,∃a b c,03 R/\03 S/\03 T/\03 U/\03 V/\03 W/\03 X/\03 Y,∀v,0.=7. v->(024 v).length<=4000,pure (ForInStep.yield 0.),pQ 0. 1. T.gaw T.Faw.kp T.Baw,min x.length y.length,ks.filterMap (fun k=>(7e1 l).bind F)=0. fun k=>(7e1 c).bind F,jY X (7.2 0.),994. (98.1)=72. l/\N l/\H l=15. (x::0.)/\55.6 x v0,gG 31.<|pv 0.,fun a b=>93.2 a b,fM _ 0. _ ?step ?last _ _,dZ<|pQ GF hr T.gaQ T.FaQ.kp T.BaQ<|dG 31.<|gG 79.<|pv 2,cI.of 0. _ _,List.range 0.,Bw X.N X.env.scope 0. own,463. "opened" "entry",3e3 Inv 0. H' s',2e4 "is_small_letter" "is_small_letter" sa3 a.fa3 a.da3,2e4 "check_keys_rise" "check_keys_rise" sbz a.fbz a.dbz,1e2<|pv 0.,.int (0.:Int),(List.range<|runEnd b i + 1 - i).find? (fun k=>rZ a<|i + k),0. y.2<|x y.1,0. d ((p,w)::P.zip vs) m 1.=_,⟨ 0.,1. _ _ e⟩,∃xs,78.8/\h.DictOfH (75.8) a xs,∃a b c d,45.5/\93.9/\1.0 T/\1.0 U/\1.0 V/\441. W X,{cls:=57.3,data:=52.1 ps},z.2.2.2.1,x.1.name,vs=[02 0.,59. 1.],goodName 0.=true,fun _=>[],["value"],["reader",0.,1.,"value"],R p u->R q v->f (61. (p=q)) s->9e5 A.in1 (eqBool u v) f 0. s,H 0.=7. (.own 1.),F.length<=1000,5.<|25. 0. (97. 1.)<|18.,4e2 (apos.endLine==cpos.line),2e6 readQuoted 0. fun z=>(1.::z.1,z.2),1e3 y=79.7/\(j.kindOf y=466.\/j.kindOf y=79.7),1.0 0.->1.0 1.->z,06 p.1 0. 1. T.Cai,.Subscript o i,(pv 3),(l= .keyed/\4e2 (046).isNone),(aU _),(02 f),0. l t _ (7e2 1.),0. a b->1. a b->z,0. _ _ hf<|1. _ nf,0. 1. rfl rfl rfl,∃a b c d e,3. R/\3. S/\3. T/\3. U/\3. V/\3. W/\3. X,z.2.2.2.2.1,readLit l t,pQ (kL T) 0. T.gaO T.FaO.kp T.BaO,encode (213. 0. k).2,e.toArray.zip (c.map it).toArray,dJ<|f9 nq 90. T.bcw gs<|gG 0.<|mi (v:=02 aL.cah) 90. T.gah rfl,aK (349. 0. 1. bS),{s with toks:=s.toks + 0. 1.},bP _ rfl,b.filter (fun e=>decide<|mS 0. e),9.3 0. H',7.7 O<|63.3 v 0. (34. f) (02 t.sn)<|34. J,67. 0. [59. 1,59. 1.],6.8 0. s H 1. I,2e4 "read_leaf_kind" "read_leaf_kind" sbx a.fbx a.dbx,2e4 "newest_between" "newest_between" saJ a.faJ a.daJ,021 "point",(0. b 1.).trans,0. t b vs.toArray d.toArray n R dd q M z (by simpa using L),⟨ 0.,by rw[aS 1.];exact e⟩,∀f,pd (fs.lookup f) (mA f),∀b o,60. H->60. H',typeLookup (088 T) "__getitem__" =pure (7. (7.2 id)),tU (h₀:=by simpa using hi),pendingOf st,o.data= .seq its n/\7.3 its.size/\Vals xs its.toList,iF T.Mag (j5 T) (k.mono<|08) 90. T.gag T.BbN .nil dM,fun c r=>if 4e2 r then do let ok<-isTrue c 0. 1.;734. ok else 734. r,fun _ _ q=>q,e68 nl 0. 1. xs (AR fs ci) 28.0 rfl,di 3000 1 false (tx c<|0 + 1),@(by grind[aS]),b.back 0. (055 L B<|574. 1.),aW.mp 0.,["run","low","high"],Q (59. n (s.toks + 1)) {s with toks:=s.toks + 1 + 1},List.getElem?_eq_none (174.),A->20. B C,8e4 eH a,463. "letter" "size",45. nl f rfl,2e4 "expect_end" "Reader.expect_end" saT a.faT a.daT,0e9 T.nb1 l7,0e9 T.nb0 jq,05 Lit,.Call (.Name 0. p) 1. [] pos,(k + 1),(h,k),(86.9 hc),0.&&(h.mode== .one)&& !c,∃a b c d e f,50.6/\5.3 S/\5.3 T/\5.3 U/\516. V W,∃a b c d e f g h i j k,23. R/\23. S/\23. T/\23. U,∀x c,68. x->∀v,s.heap.IsCell c v->h'.IsCell c v,∀(i:Nat) t p,c[i]? =7. t->F[i]? =7. p->AA H t p.2,xs.map 0.,t.head? ≠ 7. 0.,setSearchFrom S 031 0. true fuel,owner.toList[j]?,m7 (by rw[h])<|482. t<|e32 r b (8e5) rfl t<|50.4,if 134. then none else(fj rest any t).map (480. []),@(fun c r e=>by cases e;decide),fun b o 0. 1.=>?_,@(by simpa using d),bits h % (0. + 1),Heap.FlyingW (383. W.hideAll (a::T::235.)) 0. a (02 C) a0,54. b,5.<|5.<|e67 r l p (02 g) fs N rfl R hz f t i k1<|k2,2e4 "smallest_pair" "smallest_pair" sbn a.fbn a.dbn,2e4 "signs_of_byte" "signs_of_byte" sbO a.fbO a.dbO,2e4 "sign_of_place" "sign_of_place" sa5 a.fa5 a.da5,20. 0. Hp,2 ^ (0. - 1),161. (fun pl e=>by exact 1e9 0.),00 H' {s with heap:=h',gens:=g',drawn:=d',toks:=t'},(X.Dh pl).t8 (P9 (X.Dh pl) D 0.),0.=ps.length,⟨us,vs,p,q,hz,0.,1.,V,d,G⟩,∃a b,30.1/\78.4/\T a b/\U a b/\V a b/\445. W X,∃a b c d e f g,80.2/\42. S/\42. T/\42. U/\42. V,∀{l:05 NK} {vs:Sj},9.4 gH l vs->qH (9.4 HS) l vs,∀{d:57. Value} {m:Sk},(∀v,(x,v)∉d)->0. j d m x=m x,∀s',00 0. s'->Q 1. s',∀j∈L,t.slot j≠ .dummy,x0_1 y1_ fun b zz_=>x1_3 zz_ fun I q1 q2 q3 q4=>?_,wp M Γ (keyLt' (448.) x y),@(show its.toArray.any (KW x)=its.any (KW x)by grind),fun c hc=>(86. (.bool c) (81.)<|by rw[hc];exact h),f _ _,e42 x e n 0. rfl aJ<|fun 1. o t=>078,[088 "Exception",088 "BaseException",088 "object"],Vacoly.RUNS<=st.runs.length,PyVacoly.shape 0.=7. 1.,PS X (.Assign [.Name x pos'] e pos) (MU te (yU i)),Option.map_eq_some_iff.mp Y,7.7 g<|nO rv kc 780. (02 r) (59. 0) (02 sn)<|59. 0,61. (0.<=1.),4e0 0. 1. X.xe,42. 0./\42. 1.,2e4 "take_many" "Reader.take_many" sbo a.fbo a.dbo,267. k + r.length<=t.length,087 (.BoolOp 0. 1. pos),(s.heap.push 3.4).objs.size,(187. List.range).filterMap,⟨_,0.,⟨ 1.,_,dd⟩⟩,∃a b c,03 R/\03 S/\03 T/\03 U/\03 V/\03 W/\03 X,∃a b c d e f g h i j,3.9 R/\3.9 S/\3.9 T/\3.9 U,∀σ H,187. 0. σ H->D.nx σ H,∀l' s',483. (658. g)=7. (l',s')->dN [] l'=false,{s with heap:=0. 1.,toks:=tk},wipe 0. vs=160.,u.length=0.,t.dropWhile isDigit,s.TypeIs 0. "tuple",plain (205.),p.1=q.1/\H q.2.1=96. (p.1.map kV)/\RelV p.2 q.2.2,oP K a.heap A,kvs.length<sizeLine,jT P w 0. d kvs,if 4e2 0. then A else B,if 0.=true then _ else _,gE bV rfl,fun z=>(0. c z).2.2.1 x c e rfl,@(by rw[5e9 z 0.];exact z),@(by rw[5e9 q 0.];exact q),acc.length<sizeLine,Str.ofString 0.,Rd H a (0. kvs),List.mem_of_getElem? 0.,I.tok _,G.map fun x=>035 0.,D.nx σ H,80. dS xs,5.<|dw ?_,3e2 0. Addr,2e4 "text_literal" "text_literal" sbw a.fbw a.dbw,2e4 "rows_between" "rows_between" sa2 a.fa2 a.da2,2e4 "read_literal" "read_literal" saO a.faO a.daO,2e4 "power_of_two" "power_of_two" sbs a.fbs a.dbs,2e4 "place_in_run" "place_in_run" sao a.fao a.dao,2e4 "last_read" "Table.last_read" sbJ a.fbJ a.dbJ,2e4 "is_name_sign" "is_name_sign" sbP a.fbP a.dbP,0e4 0. r f g p hd k l H,055 rv kl,05 α,025 "__setattr__" =001 (7.2 "object.__setattr__"),.function,(4.1 88.6),0.<=xs.length,0. n.toNat,0. fs false,∃a,R a/\S a/\T a/\U a/\V a/\W a/\X a/\Y a/\Z a,x≠ "__name__",rowsIn s fs lo hi p,readVal 0. t= .ok 1.,r.length<=10000,o5.k (k:=602. z) d.core.sn,fun _=>69. _ l0,fun _ h=> 97. h,65.0 0. (fun b o 1.=>?_) ?_<| ?_,dh "last_entry",@(by rw[e]),K.In base->333. mg->037 iY (OF P w) 33 0. fd RU (ny K),Cv I.fh (97. e),Array DictEntry,60. X.base.get?,5e7 0. 1.=false,454. r.2.take i,2e4 "skip_all" "Reader.skip_all" sbf a.fbf a.dbf,1e5 t.tb 0. 1. T.Caa,1<=m->∀vs H Q E,0e4 FH (m - 1) vs H Q E->0. vs H Q E,082 W.instObj C,(tx b p),(by rw[fF];show _<059;lia),28.5 (FC n b m c).lookup 0.=7. 1.,(44.),0. nameSign,⟨av,aw,ax,rest,done,ys,rfl,I,a6,G,U,hC,hm,ay⟩,⟨ 0.,h1,h2⟩,∃a b c d,45.5/\93.9/\1.0 T/\1.0 U/\441. V W,∃a b c d e,3. R/\3. S/\3. T/\3. U/\3. V/\3. W,∃a b c d e f g h i,002 R/\002 S/\94.3 T U,xs=[0. x]/\x.length=1/\52.6 Q (x.cps.getD 0 0:Nat),t {nx:=fun _ H'=>78.5,rt:=Q} (start N vs) H,readRow fs t= .ok v,aN ⟨rfl,rfl,e45 I K p' q' z2 J L M d<|21. ⟩,N _ _ (0. _ _ 1.),5.3 0.->5.3 1.->z,2e4 "read_schema" "read_schema" sba a.fba a.dba,2e4 "read_record" "read_record" saE a.faE a.daE,2e4 "read_number" "read_number" saw a.faw a.daw,2e4 "read_choice" "read_choice" sa6 a.fa6 a.da6,2e4 "count_drops" "count_drops" sa0 a.fa0 a.da0,2e4 "can_read" "Table.can_read" sbI a.fbI a.dbI,2e4 "answer_call" "answer_call" sbY a.fbY a.dbY,2e4 "add_columns" "add_columns" sau a.fau a.dau,2.5 _,044 r6 0. T.gaN T.FaN.kp T.BaN,044 oM 0. T.gaM T.FaM.kp T.BaM,(tx 0. 1.).length,⟨hp,g,d,tk,os⟩,∀c,c=0. 1. x y->(∃v,327./\v≠ .notImplemented/\Q v s),∀b o,60. 0.-> ¬ t.old b->60. 1.,∀H',0.->5e2 H',t.heap.get? i=7. o,showSlots 0.,rE K a.cae,l[i]? =7. x,iu kf 90. T.bcD kZ,ic kvs,i4 s fs,gc 1 999 t,fun z=>0. (1. z),fun a b c=>¬ 03 f,fun _=>ff (uJ 322.) fun _=>ff sm_get fun _=>lu,fun _ _ _ _ _ h=>h,fc H H',e22 (.bl 0.),e13 (0. - 8.6) 2.8 rfl,carriedByValue 0.=true,@(by have:=r.un;show A.units + 0. + 16 * k + 200<_;lia),b[p]? =7. n,atKey xs k,aK (cR 0. (1e9 1.) bS),["table","number"],["reader","least","most"],W.plainGet K C 0.=true,Vals xs its,Vals dvs ds,VacolyNeutral.step st<|(num::rr.take nn)::rows,Q (89.) (569. (427. 0. #[02 d,59. 0 0,59. 1. 0,59. ep 0])),PyFlat.rows k 0.=7. (1.,t),Inv 0. 1. σ H s,I.tuple 0.,Frame t,e11 (0.<|i + 1) 1.<|fun x H' y=>?_,@(e13 _ t 0. ?_<|by intros b o z;rw[5e9 z Y];exact 873. z),cA m9 0. 1.<|cD _,l[j]? =7. 833.->l[j + 1]? =7. 0.->h.number<h'.number,backToKw 0. (keywordEach 1. X.env),97. (8.4 0.),8e4 m5,85.->t σ H Q->3.8 0. 1. s,8.7 t.sn<|.dK (vp<|0.),7e9 (zC xs),69. hb' ⟨vs,ws,ns',ms',hz,hvi,hwi,hlen,hR⟩,634. Reach t.place.toList,56. 0. 1. T.nb5 lZ,45. I j rfl,240. 0. 1. (fun _ z=>(by cases z)),021 "sign",01 0. aL.fau aL.dau Sb,(vn fs ci),(upd (361. H6 [v6]) d<|.dT [(98.1,02 l)]),(tE (09) (09)<|09),(s.map 6.3),(l.filter fun e=>e.row.isSome|| ! 59.5),(by rw[I.ok.glob];exact I.mod.glob.keeps I.bk),(b.drop p).take ys.length,(OE n b ls).lookup (0. :Str)=7. 1.,(OC b pt s).lookup (0. :Str)=7. 1.,(9.9 false).length,(305. rfl),0. k1 k2 _ _ _ _ g1 g2,⟨O,f1,f2,R,S,U⟩,vs=0./\271. l/\xs.length<sizeLine/\Q .gm (8.7 l (1e6 1.)),show ∀a b,Kx (59. a) (59. b)=(a==b)from 50.,e22 (02 0.),@(by have:=tN 0.;lia),H' 0.=15. 1.,6e1 dx (0. _ _ ho),2e4 "sorted_run" "sorted_run" saZ a.faZ a.daZ,2e4 "read_whole" "read_whole" sbr a.fbr a.dbr,2e4 "read_value" "read_value" sak a.fak a.dak,2e4 "read_place" "read_place" saV a.faV a.daV,2e4 "read_group" "read_group" sas a.fas a.das,2e4 "read_field" "read_field" saQ a.faQ a.daQ,2e4 "read_digit" "read_digit" saU a.faU a.daU,2e4 "merged_run" "merged_run" sbk a.fbk a.dbk,2e4 "literal_of" "literal_of" sa4 a.fa4 a.da4,2e4 "is_drop" "Entry.is_drop" saH a.faH a.daH,2e4 "find_entry" "find_entry" sbq a.fbq a.dbq,2e4 "columns_of" "columns_of" saW a.faW a.daW,2e4 "can_be_key" "can_be_key" sbb a.fbb a.dbb,236. rv kc 0. nx d,04 P w (A.deeper<|5e3) (leaving (5e3)<|02 0.) _ _ _,(fs.list.zip 0.).find?,(G.map 62.),(7e9 0.).map 62.,0.<t.length,0. (.ListComp N [⟨d,D,O,0⟩] j pos) 0 it acc env,∃a b c d e f,50.6/\5.3 S/\5.3 T/\516. U V,∀x∈xs,fB H x.2.1 x.1,α->α->Bool,xs.drop i=x::xs.drop 8.6,sliceBounds lo hi none n,oP K h A,nL m.base m.P7 m.line iS,kW (eR l) (l.length - 2),jT d8 d9 0. d ((nb b f pt<|F.take<|i + 1).map 098),jT d8 d9,i + 1,fun z v=>∃t,v= 59. z t,fun p=> 02 p.1,fun b o h n=>0. b o h (479. n) 1.,fun _ _=>nofun,fun _ _ h=>h,fM _ (fun rest r b=>0./\b=s/\r.1=none) _ ?_ ?_ _ _,@(by rfl),bootBuiltins x,b t= .ok (v,r),aS (by intros z;rw[z,h]at q;cases q;exact B),WellAll P h vs,RelV x v,H l=008 rf F,80. fU k xs vs,74. Addr,7.5 (newExc (088 "StopIteration") []>>= _) _,7.3 kvs.length,5.<|dv ?_,2e4 "expect" "Reader.expect" saB a.faB a.daB,29. jT H d kvs,1e2<|069,087 e te,079 "dict_valueiterator",05 Key,01 0. aL.fa6 aL.da6 (081 "choice") (0e4 B6 true m),.group,(F.take j).filter fun x=>decide<|83.6 ∈gz 0. c,(F.map (·.2)),(8.7 b<|1e6 (nm.map vN)),(463. "point" "numbers"),(081 "most"),(080 ns.map),(046).isSome,("number",n),0. t.tb=7. (7.7 O<|534. v 1. (34. f) 82.3<|34. J),∃a,R a/\S a/\T a/\U a/\V a/\W a/\X a/\Y a,∃a b,R a b/\78.4/\T a b/\U a b/\445. V W,∃a b c,03 R/\03 S/\03 T/\03 U/\03 V/\03 W,∀m,m∈ 032 ↔∃j,j<items.size∧ks j=m,{s with heap:=g,toks:=s.toks + knd.draws k},x= 02 a,x0_1 y1_ fun 0. zz_=>x1_2 zz_ fun ys q1 q2 q3=>?_,readTaken fs 0. s= .ok 1.,pd.some_of (v:=v),e13 _ g (by rw[aI,aI,cP];show _<059;lia) ?_,d.weight<=1048576,X.mg x=72. 0.,PyFlat.told 0.,Laid (6.7) hashes,Bd (h₀:=X.base) I.ok.mod.OH 0. (020 N h ?_) O j,Array (74. Value),9.5 _ (91.<|417.),80. cC (9e6 0. 1.<|4.7 l),2e4 "schema" "Table.schema" sbh a.fbh a.dbh,2e4 "read_text" "read_text" sbt a.fbt a.dbt,2e4 "read_name" "read_name" sbD a.fbD a.dbD,2e4 "read_kind" "read_kind" sbg a.fbg a.dbg,2e4 "read_call" "read_call" saY a.faY a.daY,2e4 "read_byte" "read_byte" sbu a.fbu a.dbu,2e4 "pair_size" "pair_size" saM a.faM a.daM,2e4 "advise" "Table.advise" sbT a.fbT a.dbT,06 f 0. 1. T.Cae T.nb9 qx,05 Text->Bool->05 (Leaf ×List Text ×Bool),(∃m,W 0 m σ H),(9.1 d=none\/∃c s,9.1 d=7. (c,s)/\552. c),(7e2 0.).trans,(1.2 (109. 79. 010)<| ?_),((if any=true then [59]else([]:aG)).map vN),0. slot_list_sort (406. e2) entry_list_sort ?body,⟨xs,e,0.,rfl,1. ⟩,⟨x,hx,0. ⟩,⟨t,st,fs,ci,z,rfl,z2_,0. ⟩,y.2= .free->∃c,env.cells.lookup y.1=7. c,s.heap.FunFrames X.base,fun v q=>(eW.mp j).1 (List.of_mem_zip q).1,@(fun b o q=>I.base.there b o q<|by simp[dO]),e22 0. 1. rfl,e11 0. 1.<|rfl,dA rfl rfl T.cB T.bX cS,compEnvC scope 0.0 s3.heap.objs.size X.env,@(by show 7.3 0.;decide),aK (2.6 79. 0. 1. bS),X.pn++pins,634. leap p.i p.perturb,6.8 0. 1. H1 _,3.8 (call 0. 1.) EP s,2e4 "ended" "Reader.ended" saI a.faI a.daI,2e4 "ahead" "Reader.ahead" sav a.fav a.dav,087 (.Constant 0. j pos) (tC 1.),05 Val,01 (9 + 3 * m) aL.fbg aL.dbg RZ (0e4 Jg m),0.3 t.takeWhile isDigit,(upd (361. V [v]) t<|.tup [59. 42,59. 37]),(jd t),(cells.lookup n).getD 0,(317. 0./\1.=d.length)->M e xs d,((vp st.snaps).map 62.),(0.==1.)=false,0. (1. :Str),⟨n,v,o,st,rfl,b,e,m⟩,∃a b c d e,3. R/\3. S/\3. T/\3. U/\3. V,∃a b c d e f g h,8. R/\8. S/\8. T/\8. U,∀l,54. l->9.3 l (8.7 l<|1e6 [59. (-7)]),∀k,k∈ks↔ 130. k/\4e2 (7e1 l).isSome,xs.length=0.,tx 0. (8e5),qK aL 0. t s,m= .keyed/\4e2 (a.any fun p=> ! 122. p v),ks.filterMap (fun k=>0. fun e=>e.row.map (024)),fun i m σ H=>m=xs.length - i/\933. i/\0. i σ H,fun i j=> 59. 0.,fun _ _ _ _ _ st h=>0. st h,dN 0. l=true,Text->022 0.,R a b,7. (0.:Int),61. (y.1∈own.map (·.1))||61. (y.1∉N),4e0 (66. a) (fun v d=>882. (66. b) 0. d) X.xe s,3.6 [59. (-0.)],2e4 "write" "Table.write" sbH a.fbH a.dbH,2e4 "value_at" "value_at" sbA a.fbA a.dbA,2e4 "readable" "readable" saS a.faS a.daS,2e4 "read_row" "read_row" sby a.fby a.dby,2e4 "read_key" "read_key" saz a.faz a.daz,2e4 "merge" "Table.merge" sbS a.fbS a.dbS,2e4 "label_of" "label_of" sa7 a.fa7 a.da7,2e4 "key_list" "key_list" sbB a.fbB a.dbB,2e4 "is_digit" "is_digit" saq a.faq a.daq,2e4 "flush" "Table.flush" sb6 a.fb6 a.db6,2e4 "empty" "Table.empty" sbG a.fbG a.dbG,2e4 "close" "Table.close" sb7 a.fb7 a.db7,28. 0. ?_,187. HT.ya xs.length hi - 187. HT.ya 0 lo,097 0. True.intro,095 failedOf 0.,05 aE,044 nF d T.ga5 T.Fa5.kp T.Ba5<|dZ<|eQ 0. 31. bZ,008 rf 0.,∃a b c d,45.5/\93.9/\1.0 T/\441. U V,{s with heap:=g},upd H2 l2 (1e6 [625.]),ta σ H,t σ H,subscripted 0. false,s.heap.objs.size<=0.,numberRun t=9.6 n,mL.mpr<|8.4 (86. r l<|dP.mpr (33. g1 ?_)),keysIn 0. lo hi,j.fh.fresh<|aU _,iY d8 d9 bF cW fw (0. d8 d9 1.),gG (pv 0.)<|pv 1.,fun z=>6. 068 225. z.2.2.2.2.2.2.2.2.2.2,fun z=>21.,fun x=>(x.leaf,q++x.nums,(d==0)&&x.sure),fun r=>(r.length,(r.filter 331.).length),fun b o g h=>⟨Y b o g h,G b o h g.1⟩,e55 d g.2 _ g.1 p.1 rfl rfl (a0 b) a5 a6,@(by cases h;obtain⟨t,rfl⟩:=r;exact⟨_,0. 1. t⟩),bU (dU ..),aH (m:=checkCount "sorted" 1 1 _)<|77.9,["table","call"],["runs","first"],PH P w d o xs,74. (0. ×Text),match 126. 0. with|7. ((_,k),v::_)=>pick 1. k v|_=>none,(2e6 u.take i 0.).flatMap CZ,0. (fJ key pt) (0,292. key),fun x H1=>∃a,22.7/\(∃xs,0. K H1 a xs)/\R (1. K a) H1,Option.bind (7. e) fun e=>e.row.map<|024,Nat.lt_trans 0.,Nat.lt_of_lt_of_le 55.,E (02 C) none,Binds X.K aL.dao Se [],840. (fun x=>entryOfKey (kC P w) (lW x)),80. oX fs x e,74. (Option Lit),6e6 (fun b o j e=>803. sb.2 j e) O R S U,5e3::outer,5.9 κ V,47. xs.length,47. p + 47. 0.=47. (p + 1.:Nat),47. 0.<47. 1.,463. "key" "row",383. IsTup,34. (showLit x).length::2e6 showLit x vN,2e4 "take" "Reader.take" sal a.fal a.dal,2e4 "skip" "Reader.skip" saA a.faA a.daA,099 b<|yh l<|47. p + k,094 I.base.there,088 "list",05 Leaf,05 Env,018 di choice,015 wp_mono ?_ (fun _ _ _ z=>z.elim) _ _,(mD 5e6, -47. p.2.seq),(fun x=>x.1.1.name==n),(W.fnOf name j B D d dV kV O pm an z ct),(Nat.min_le_right _ _),(463. "text" "places"),(463. "first" "count"),(0.9 125/\e=28. none t),("record",rv),⟨v,B,kvs,rfl,g,G,M⟩,⟨us,[]⟩,⟨rfl,rfl,e45 _ _ x y rfl a4 b4 0. rfl<|174. ⟩,⟨hs,hgd,hx,⟨es',ep',hdt,hsz,ent⟩⟩,⟨ 0.,d,1. ⟩,⟨ 0.,_,_,1.,_⟩,∃a b c d e f g,80.2/\42. S/\883. T U,pQ (q0 T) g T.gaU T.FaU.kp T.BaU<|000 0,nb f j pt F,l.foldl max a,fun d=>if d.1=k then 0. else d,fQ 0. ?_,depth + 1,d7 h {cls:=088 "cell",data:=.cell none},codeAny_builtin F.entry_set_update_loop,@(by simpa using J),aH<|listItems_at 0. rfl ?_,[82. l,82. lo,82. hi,some<|59. pt,82. d,j,0.],Own t b,KV kvs vs,I2.zV (its':=[]) (f:=fun _=>(#[]:392.)),6e2 fX H' 0. v val->Q v H',47. ((hi - lo).toNat:Nat) - 47. (0:Nat),33. g1 g2,3. f ff g,2e4 "snap" "Table.snap" sbU a.fbU a.dbU,2e4 "scan" "Table.scan" sbi a.fbi a.dbi,2e4 "runs" "Table.runs" sbW a.fbW a.dbW,2e4 "is_mode" "is_mode" sbM a.fbM a.dbM,2e4 "held" "Table.held" sb8 a.fb8 a.db8,2e4 "has_key" "has_key" sbE a.fbE a.dbE,2e4 "drop" "Table.drop" sbR a.fbR a.dbR,2e4 "counted" "counted" saN a.faN a.daN,2e4 "answers" "answers" saL a.faL a.daL,20. Bool aB,15.4 l (2e6 (b.drop 0.).take k V.int)->796. l,14. (A ×B),0e2 "LeafKind.__init__" sbN a.fbN a.dbN,.ins C dx,(fun z=>by rw[c _<|.inl z]at h;cases h),0. (542.) (928.<|d) hl rfl,⟨its.toList,o,n,hv,70.0 KX,hc,21. ⟩,∃a,R a/\S a/\T a/\U a/\V a/\W a/\X a,wpAny_execs_cons<|fQ (799. h1 0. h) fun f 1. q=>?_,vw bF (ji 5) "number",upd H4 q (1e6 (jv N)),hashes.toList.foldl 0. (7. (166. (1. + 1) none,0)),fun v H'=>Dw 0. H' v (r.ret.enc (1. r.args r.f a)),fun b=>b.name==h.name,e45 x aL.caG d 0. rfl 1. T.CaG,@(by rw[ee hi];congr 1;exact(aT.mp hx).2),[632.,("name",035 b),("mode",V.int m)],WF (6 - depth) choice,Un 0. 1. H H' s.heap,PyVacoly.whole ((e::xs)::d)=(e::xs)::d,Calls.Name_function_global I.ok.kind d,Addr ×Value,961. e.here.dropWhile,86. 0. 1.<| ?_,781. N sm (055 U Y<|574. sm) (mF C) aJ,56. 0. 1. T.nbL lY,56. 0. 1. T.nb3 qC,5.7->54. t->0. H' t 1.->796. t,47. st.entries.length,41. [0.]=[173. 1.],3. 0.->3. 1.->z,1.0 R,03 0.->03 1.->z,01 0. aL.fa8 aL.da8 (081 "field") (0e4 MG m),.Call (444. o 0. 1.),(fun b o n e=>⟨n,094 c.to<|d b n⟩),(6.2 s2.heap.update D).push (35. "tuple" 0.),(0.:∃p,1. =7. p),0. aL 1. H' fs,0. (P:=fun u=>P<|b::u) (Nat.succ.inj l)<|h b,⟨C,D,rfl,q1,q2,q3⟩,∃a b c,03 R/\03 S/\03 T/\03 U/\03 V,∃a b c d e f,5.3 R/\5.3 S/\516. T U,∀{xs:05 V} {us:Sj} n,091 xs->Vals (0. n) (1. n),∀b o,60. 0.->462.->379. H7 [59. 0] b=7. o,y.to _ _ (G _ _ 0.),xs.length<=0.,xD (p:=p) (hs:=hs) 0. 50.,vs=[02 r,34. 0.],nameSign c=true,m7 (iP.mpr t)<|5.<|0e8 kv k a7 C<|48.,kvs.length<1000,ih (n / 10) hn 0. (n / 10 + 1) _ (70.) 960.,@(hs 0.<|by grind[qE]),gM 0. nd,fun b=>851./\b≠ 0.,fun _ _ _ _ H Q I h=>0.<|e22 [] H I .nil<|h,eu (018 gd) 0. t,call_meetsIn 0. dd.typeIs,callOf ((e::xs)::d)=7. k->hZ e xs d k,@(by rw[aS<|eC 0.];exact aJ),bs.getD i false,bA (295. 0.) rfl,aO (bJ (cT (dZ (fW 0.)))),aN ⟨rfl,rfl,fun v j=>i v<|bO _ j⟩,aK (cR 0. (aO<|bJ uZ) bS),aH<|De 0. hd 060 ?_,Vacoli.itemsAt 0. k,St->20. Hp 0.,Nat.pow_pos<|08,K.lookup 0.,I.pin p,9e5 A (eval 0. env),96. (0. vN),9.8 knd,88. rfl,8.7 a (0. (533. v)),763. h.name/\0./\(4e2 c->134.)/\WK d k/\WF d c 1.,7.6 0. p ==7. 60,59. i,5.<|48.,5.9 Key 0.,5.3 R,424. 0. u v w x y z,2e6 vp st.snaps,2e4 "run" "Table.run" sbX a.fbX a.dbX,2e4 "put" "Table.put" sbQ a.fbQ a.dbQ,2e4 "key_of" "key_of" sa9 a.fa9 a.da9,2e4 "get" "Table.get" sbV a.fbV a.dbV,26.3 1 (xs.length:Int) ⟨ 08,08,0.,21. ⟩,23. 0. l m,0e2 "Reader.__init__" sbe a.fbe a.dbe,0e2 "Column.__init__" sck a.fck a.dck,05 Expr,037 iY 0. 1. f fd ps sp,01 30 aL.fba aL.dba ["text"] (0e4 tj),01 (556.) aL.faQ aL.daQ Sa (0e4 FD m),.fields,(if 4e2 any then [59]else([]:aG)).map,(cX 0. H p ys\/iD 1. H p ys)/\Q (59. ys.length) H,(301. 0.).toList,0. ∈t.place.toList,0. (59. 1.) H,⟨ 0.,_,_,h1,h2,_⟩,∃t,u=Value.int i t,∀c∈l,012,t.heap _ o (by rw[ej];exact f j d) e,some<|34. 0.,r.2≠[]/\208.<=0./\jM 1. r.2,modeOf 0.=7. m,goodName (0.5)=false,gE PassesOwn.leaving rfl (fq (pv 0.)) (qI 1. nd),@(fun z=>by rw[c _<|8.4 z]at h;cases h),fun z=>22. 190. 306. z.2.2.2.2.2.2.2,fun x=>(x.leaf,p++x.names,s&&x.sure),@(fun x hx=>nomatch hx),@(fun c 0. r z=>by subst z;rw[r]at B;exact B),fo dH (vS M 0. 1. 50.) bZ 50.,eQ 0. 79. bZ,c.length<=0.,at_of (j:=i),aS<|d b _ q fun z=>z,@(aN<|by simpa [Nat.add_assoc]using h'),aM (95.),["history","points"],["found","key_name"],["columns","places"],W.hasDictIn K C=true,Vacoly.goodKey fs ps,PassesOwn (29. model) X.A X.env X.xe,Kp.of (r:=r),DB (tk:=d.toks) j _ (BF _ x t 0.<|1.) (056 bP) q,80. fX k,781. f e (055 p q<|574. e) (mF b) aJ,7.5 (Builtin.Dict.showsAll d>>= _) s,6e9 ps.length ps.zip,4e2 st.fresh.isEmpty,3.1 (eQ iI (069) bZ),29. DN d,20. 0. Value,0e2 "Table.__init__" scl a.fcl a.dcl,0e2 "Group.__init__" scg a.fcg a.dcg,0e2 "Found.__init__" scf a.fcf a.dcf,0e2 "Field.__init__" sci a.fci a.dci,0e2 "Entry.__init__" scb a.fcb a.dcb,0<kvs.length,087 b tb,080 List.map,015 0. _ _ _ _,.none,(fun i=>ns.getD i 0),(92. iK),(8.9 scope scope fp),(5.6 "list"),(277. its.toArray n),(0. 0.6).Nodup,∃(its:Sj) (o:Obj) (n:Nat),11.2/\64. a o/\o.cls= 0. /\o.data= .seq its.toArray n,40.0 (784. 0. X hc i pins s3 L H3 X.xe I3 (B a4) a3 1.),6.8 0. 1. H2 x y v u,if 0. then _ else _,0.<h.objs.size,0.<=l.length,0. _ oD.upd aJ,0. T 1. (08) fun h=>88. h<|08,0. (b,o)<|dm _<|dm _<|rD 1. e,⟨o,e,c,d⟩,∃a b,30.1/\S a b/\T a b/\445. U V,∃a b c d e,3. R/\3. S/\3. T/\3. U,∀p n,54. p->n<=0.->1.->9.3 p (8.7 p (AI p n)),∀(w:World) (h:Heap),0. w h->(370.).In h,mL.mpr<|97. (305. m),isOldest l e,hashes.toList.length<=0.,eH P w H (h.push 77.) h.objs.size (0. []),e13 _ 0. (by rw[aI,cP];show _<059;lia) ?_,@(by rw[e];rfl),P _<|u.mem_iff.mp<|iU 0.,I.list 0.,Fs F.slot_dict_getitem.lookup hs<|610. 0.,97. ⟨(e11 xs q<|aU _),J σ H p⟩,5.<|829.<|826.<|153. e52 n rfl e<|u,2e4 "meets" "meets" sa1 a.fa1 a.da1,0e2 "Call.__init__" sca a.fca a.dca,06 x m 0. T.CaR T.ncB xE,(show 615. s.heap.IsTuple a from p),(i * 5 + 1 + p / 32) % (6.7 + 1)<626.,(by intros s H C cl Z;exact qI 5 U),(361. B [34. (035 D::jv R).length]),(.Call (444. e "values" f) [] [] a),0. ((220. x.1,546. x.2)::vp l) (602. z)=_,⟨q,d,U,Y,kk,Z,y,er,j,hL,ak,a0,e⟩,⟨aJ,5.1 0. ⟩,⟨ 0.::u,by rw[9e9 hh,h1];rfl,63. c hc ⟩,∃l,146./\fs=4.7 l/\29.9 0./\1. + 4e8 181.<=40,∀b o u,H b=041 o u->H' b=041 o u,z.2.2.2.2.2.2.2.2.2,y= 02 b,x0_1 ((show 8e4 eH t (.tup 0.)from ok t _ 1.)),u=49. a,textLess 0. 1.=true,runs.foldl (fJ k p),rest=List.zip us vs,rel.val k,rE K a.caj,rE K a.cai,rE K a.caG,pQ J l T.gaV T.FaV.kp T.BaV<|000 0,p<q->3e0->524. c->6e2 cI H' v 0.->Q v H',nO rv kc fl rl,nO 0. 1. (02 t.fl) (02 t.rl),nB knd xs,n<0\/47. s.length<n,n + 1,jm lo hi p,if b.seq<e.seq then 7. e else 7. b,if 0.=[]then 7. 1. else none,hS.moved (fun o e=>t.heap S o O e),gL k (A.deeper 0.),g.trans 0.,g.DictOfH knd d (storedH xs k a v),fun y=>(x::y.1,y.2),fun i H x H'=>H'=H/\∀xs,275. 0.->051 x,fun H4 0. 1. R4=>?_,f9 0. 90. T.baf qi,e43 r 0. p 1. rfl R ?_,e22 (89.) _ 0. rfl,e13 0. rfl,e11 0. rfl,e.name≠ 7. h.name,dh "fresh",@(by cases x),aN<|5.<|aN<|5.<|15.2 D _ J rfl<|z2,aN<|0. _<|((fA ..).extBut.push _).push _,aH<|me f slot_tuple_hash.lookup ?_,WData.weightAll 0.,W.mroIn K C (088 "object")=7. true,W M Γ 0. Q st p s,Nat.le_antisymm 0.,H f=7. (397. 0. 1.),G6 lo hi (pre++[x]),FieldsAt.get l,Codec.encAll b,92. MeetsIn (0. ⟨ 1.,[]⟩),700. (show p∈([]:Sn)++[]from hp),69. n ⟨us,vs,p,q,hz,o,f,iff,t⟩,61. (x=y),5 ^ n * a,359. α,275. iD,275. cX,25. 0. 1.<| ?_,166. 0. Value.none,076 t.rl (jv R) 0. (at_of (j:=C) rfl a4),021 "snapshot",018 gd t=9.6 k,0.3 flat R,.str x,.bool b,.Pass ⟨0,0,0,0⟩,(∀H',G H'->∃J,J<m/\W 8.6 J H'),(·.2.seq),(vs++dvs),(rawInt<|47. i + 1),(q + 1),(jv<|R.drop<|g + k),(if k∈ 032 then 032 else k::032),(fun n c=>249. n c),(fun i h=>h.IsStrIter it ty x t i),(cols.map 0.6),(by show _<059;lia),(List.getElem?_eq_some_iff.mp k).1,(165.).toArray,(02 b),(.done (.ret 57.3)),0. kind_sorted plain_sorted entry_sorted 1. ?_,0. b c d e,0. _ _ e,0. (f + 1) depth a,0. 1. (mD x) (mD y),⟨v,0.,H',I,r,q⟩,⟨f,c,k,o,d⟩,⟨bp,bq,q,pre,rest,ss,kvs,rfl,O⟩,⟨a,28. b ⟨c,0. ⟩ ⟩,⟨ 0.,rfl,f,1. ⟩,∃d H',748. d/\0. d H',∃a,R a/\S a/\T a/\U a/\V a/\W a,{s with heap:=(437.).push (956.)},{cls:=088 "dict",data:=.dict #[]},x0_1 y1_ fun z1_ zz_=>656. st z2_,tR f _ c p fun d hd=>bU (r9 hd) j,sy aL.cai "is_drop" (xa aL) [] E0 0. qG,p∈flat R,nJ rfl<|qg<|mh<|40.0 0.,its.toArray.size + d.toArray.size,@(fun b o z=>by rw[5e9 z 0.];exact 873. z),@(fun b 0. e=>by rw[aS<|i6 e 1. (389.)];exact e),dJ<|kI I l T.gaP T.FaP.kp T.BaP<|000 0.,cX.of 0.,@(by rw[5e9 e 0.];exact e),aM (fun e=>0. s (946.)),aK (32. 0.),Vacoly.ENTRIES<=st.entries.length,Un fs ex H 0. h,Nat.le_trans 0.,Meth X.K 0. m f,L4 t H l->H' l=425. b.map->796. l,I.step (g':=s.gens) (d':=s.drawn),HI bF 0. t l xs,G.map 0.6,B5 (m:=m) T rfl R hz hF S J k1 k2,7.6 0. p =7. 1.,256. keyOf 0. v,213. 0. (.schema tt ps),076 l _ 0. (at_of (j:=p) 1.<|by rw[bN,i];rfl),008 0. vN,(tx 0. 1.).drop 1,(hs.take (0e1)++h::hs.drop (0e1)),(fun b o n e=>⟨d b n,094 s ⟩),(560. I.qk (381. _)),(2e6 G.take i 0.6).filterMap 156.,(0.).length,0. ∈fG cells names acc,0.= .dict 1. ep,0. ⟨HR,fun m g=>aa 1. (by rw[M];rfl) m g⟩,0. it d 1. n ep,0. I.fh e,⟨rfl,_,cX.of 0. ⟩,⟨by rw[<-r.length];exact z,?_⟩,⟨ 0.,h2,h3⟩,∃k∈D,K k (02 i)/\n=rk lt D k,∃a b c d,45.5/\93.9/\441. T U,{c with heap:=4e1},zN a.heap H,xA d8 d9 dd,tupleKind (gj P w),su ko ko (fW 0.) 31.<|fW 1.,sp vs H Q E,s.runs.drop<|i + n,r.length<=t.length,p++[h.name],litLess 0.,lD nU (069),k2 ?_,if x.1=k then(x.1,x.2.1,v)else x,gi (lf::ls),gJ<|aN<|5.<|e22 (0.) _ (406. (794.)) 1.<| ?_,fun x=>(x.1,f x.2),fun p a=>49.5 (by simpa using a),fun b 0. hb e=>803. 1. hb e,f.key=e.key,e62 x dx nt _ _ 0. rfl aJ<|fun 1. kk hk=>078,@(by show _∈(h,k)::r.list;cutsat),@(by rw[il]at r;cases r;exact .nil),@(by rw[cM];simp_all),@(by cases m <;> lia),aN ?_,aH ?_,WK 6 0e6,W.isFn K 780.=true,Vacolb.at? st.runs,S a b,Q .gm H',Passes 252.,Kp.refl _ _,KT H kvs xs,I.fh.fresh<|8e3 aU,H k=7. (.ins aL.cag b (leafF l)),F.run A outer s H args us vs Q E,Dp.readsAll I ds _,Array Keyed,9.2 trivial,840. 013,775. y g1 T.nbj oK,7. .free,6.6 1 bZ,57. V,5.9 Nat Nat,4e0 (f (50.3 t) (59. j u)) Q E s,42. R,3e0->43. H' b 0.->065 1. H',311. y,311. v,3.3 t.fl d.core.fl,12.5 ⟨b,by rw[aS n];exact y⟩,1.1 "without_oldest_drops" a.fbm,097 W.kitx_dict (e11 o h1<|h2.1),0. st 1. (x:=u) (by simpa using Y) fun h' n sb=>?_,5.<|5.<|5.<|5.<|fun x dx hx hd b0=>(77.4 0. 1.),cR (cA Ih 0. (fW 1.)<|cD _),044 vl hr T.ga7 T.Fa7.kp T.Ba7<|000 0.,(x.1,x.2.2),(tx c p),(t.map 6.3),(gR h.mode),(bH _),(A.deeper<|5e3).frames=7. (36.4),(7e9 d).isSome,(249. (10 * (070) + (c - 48)) d),(032).Nodup,(.ref t.sn),0. ∈cellsFrom 1. names acc,0. runs.flatten,0. (I.ok.hd V) st 1. (by simp;simp_all) 663.,0. (53. j d L).kindOf (ps.zip us) 238.,⟨by have:=jH e;simp;cutsat,q⟩,∃j∈L,234.,∃a b c,03 R/\03 S/\03 T/\03 U,∀name,W.lookIn name 0.=7. (mA name),¬ (l.head? =7. 48/\1<l.length),z.2.2.1,xs.length + 1,x0_1 0. fun _ zz_=>278. fun _ _ p=>?_,x.2.seq,x.2.key,vals1 r,toString (0.:Int),some<|.int (0. + 47. i),s.runs.foldl (fJ k p) (0,7e1 l),readDefault a,nP 0. rfl ?_,m.foldr enterKey [],layClean.free 0. owner,iu 0. 90. T.bc3 PyProof.Rows.boot_set,i9 a (gR m) f,fun x vs H Q=>∃l xs y,x= 02 l/\15.0 0. 1.,fun pins s σ H Q I d=>0.<|799. h Q d,fun b=>084 0./\b≠ 1.,fun _ _ _ _ _ _ _ _ _ h=>h.elim,fun _ _ H'=>ts D (blank X.N) H',fun _ H Q=>Q 0. H,firstEntry fs,fi I q<|dQ not 0.,f.length - 0.,e31 0. es ep (222.)<|c,dig (351. b[0.]?),dh "run_list",compareOp 0.,aK (gM 1 u<|729. nu T.mal 0. 1. T.Bal<|054),aK (47.8 2<|5e8 hr.mono<|000 0),Value.bool 0.,Obj.putSet 0.,Nat.le_succ _,List.replicate 0.,IntsAre 0. ns,Int.toNat_of_nonneg 0.,I.ok.hd 0.,F.take i,Addr->74. Nat,8.4 ⟨ 0.,i,rfl,rfl⟩,7. (l,s),67. 0. [59. 2,59. 1.],6.8 0. s H x y v u Q I,586. fs.byName 0.,482. O.rd<|0e7 G q O.rd ?_<| ?_,424. 0. k u v w x,40. (binaryOp .Add (02 t) 69.6),33. 0. rfl,29. 0. X.K X.mg X.base,28. h trivial,049 0. z1_,(q (q h).2).2,(g i j),(e::es),(78. k),(157. t.fl f),(157. f t.rl),(0. 1.).nodup_iff.mpr,0. t.place.toList,0. b o (094 I.ok.bs).1 (094 I.ok.bs).2,0. Int.toNat,⟨r,0.,p,rv,fs,N,rfl,R,hz,hK,1.,hW,k1,k2⟩,⟨ 0.,ys,1.,D,G,I,J⟩,∃sl,2e2 b {o with slots:=sl},∀b o,8e2 b → 677. → 493.,z.2.2.2.2.2.2.2.2,x::xs,x2_1 zz_ fun _ 0. _ 1.=>?_,upd H3 0. (1e6 1.),tb {D with nx:=0. 8.6,ct:=1. 8.6,bk:=D.nx},st.snaps.any 294.,s2.heap.push (35. "list" 649.),p<q->3e0->524. b->kF H' v 0.->Q v H',numsOf (intItems xs).toList=ns,m.back f (928.<|574. f) hl rfl,l.head? ≠ 7. 48,kind t3=7. (k,t4),jm b f pt (1e8) p,if(h.name==n)=true then 7. (h,k)else 0. 1.,ic 0. j=if j=k then 7. y else 994. j,gP (xs:=0. 1.),fX.of (847. 0. e) 1. _ _ _,d.gO.frame d.core,compEnvC d 0. s.heap.objs.size X.env,cA 0. (pv 5) (fW 1.)<|cD _,@(by unfold Vacoly.withKey;rw[U]),@(by simpa using hz),@(by simpa using hb),@(by rw[O.all];simp),bK.mp 0.,b.number<h.number,aH<|ir O a3<|aH<|ir S b3<|78.0,["text","record"],Kp r H,Int.mul_le_mul_of_nonneg_left 0. 060,Gl X x,80. cI,74. (Array (Option Nat) ×Nat),67.2->0. K H xs ds->1. K H 031 (.tuple ds),5e7 0. 1.=true,47. (0. 1.).length,3e3 Inv (σ.set i (7. v)) H s',383. Dr x dx C mA,28. rfl ⟨st,u,m,e,rfl,o,b⟩,1.1 "check_numbers_rise" a.fbF,1.1 "check_names_differ" a.faC,1.0 S,094 I.base.slot n,094 I.base.keep n,044 rn hr T.gaZ T.FaZ.kp T.BaZ,002 0./\002 1.,(∀c fs,k= 76. c->fs≠ .nil),(∀b∈Z,084 H'),(upd C l'<|1e6 [34. L.length]),(pv 5),(letOwnedTupleGo tg (02 it) u),(lW x).1=mD k,(Lw b n c).lookup,(9e6 h' k'<|ofList<|l++[833.]),(346. 0. 1.).any 0.6=false,(256. Vacoly.keyOf ci.map val),0. he c hm F (hr.mono hn) hb .nil hx,0. a n (leap a i p).1 (leap a i p).2,0. (KW x) 1. (fun w B=>wj j n r fs w<|52.),⟨r,0.,p,1.,rfl,R,k1,k2⟩,⟨a,0.,rfl,1.,q⟩,⟨_,aQ<|0. ⟩,⟨(hs.2 p.1 0.).trans e,n,ne,nf,d⟩,∃t,u=Value.str 0. t,∃a b c d e,3. R/\3. S/\3. T,∃a b c d e f,50.6/\516. S T,∀c o,H3 c=7. o->c≠dd->0. c=7. o,¬ (348. c 0.),x0_1 (core.old b 0.) fun 1. zz_=>656. o e,wpAny_Assign_Subscript (610. 0.) hs,unsupported 0.,t.fits 0.=true,subscriptTail_builtinR (x:=w),richCompare 0.,readable (oE s k),q it<|17.,pyIter (02 0.),pj xs none (30.2 n)=xs.take n,lU knd 0. S,l.foldl j3 ks,k1 (.num z) q _ H' (108. 0. 1.) c f g rfl,ite_tt<|0.<|40.0 (6.8 O s3 D _ G J),if u=[]then 0. fun k=>x::k else none,gC h.name,fun z=>22. 190. z.2.2.2.2.2.2,fun b o e n 0. 1.=>?_,fun 0. o z=>?_,di (t.length + 1) 1 false 3e5,dO 0. P w K mg base N,codeAny 316. A 0. R s,cK (bY e),@(by have:=r.un;lia),bU hz<|08,[59. 33,59. 63,59. 42,59. 37],N b\/851.,FieldsAt.of 0.,97. ⟨cX.of 0.,?_⟩,96. (0. V.ref),9.4 fS 0. a,76. false,76. c,729. wC T.mbf (lI T) hr T.Bbf]
#check [by first|exact S|exact R,by (exact S;exact R),by intro V,by refine no_implicit_lambda% (K ?_),by (generalize K _ _=Y;try clear Y),by refine K E (4e7 V),by refine K E ?_,by (obtain rfl:=E),by (refine fun zz_=>K zz_ (4e7 V);clear zz_;try clear E),by (generalize H:E=O;revert H;refine optE O ?_ ?_;(intro H;exact S);(generalize og _ _=Y;clear O;intro H;exact R)),by have H:=E,by fail,by (generalize H:E=O;revert H;refine optE O ?_ ?_;rotate_left;(generalize og _ _=Y;clear O;intro H;exact S);(intro H;exact R)),by first | (with_reducible assumption) | decide | (with_reducible rfl) | (with_reducible exact Nat.lt_of_not_le 55.) | (with_reducible exact Nat.le_of_not_lt 55.) | (with_reducible exact Nat.not_lt.mpr 55.) | (with_reducible exact Nat.not_le.mpr 55.) | (with_reducible exact Nat.le_of_lt 55.) | (with_reducible exact Nat.ne_of_lt 55.) | (with_reducible exact Nat.ne_of_gt 55.) | (with_reducible exact Nat.le_of_eq 55.) | (with_reducible exact 35.7 55.) | (with_reducible exact 270. 55. 55.) | (with_reducible exact 72.7 55. 55.) | (with_reducible exact Nat.lt_of_lt_of_eq 55. 55.) | (with_reducible exact Nat.lt_of_lt_of_eq 55. (Eq.symm 55.)) | (with_reducible exact 66.1 55. (Nat.le_of_not_lt 55.)) | (with_reducible exact 270. (Nat.add_le_add_left (08) _) 55.) | (with_reducible exact 270. (Nat.le_add_right _ _) 55.) | (with_reducible exact 72.7 55. (08)) | (with_reducible exact 270. 55. (08)) | (with_reducible exact 35.7 (08)) | (with_reducible exact 72.7 (Nat.sub_le _ _) 55.) | (with_reducible exact Nat.sub_succ_lt_self _ _ 55.) | (with_reducible exact Nat.sub_lt_sub_left (35.7 55.) 55.) | (with_reducible exact Nat.sub_lt_sub_left 55. 55.) | ((with_reducible refine 270. 38.4 ?_); lia) | ((with_reducible refine 72.7 38.4 ?_); lia) | ((with_reducible refine Nat.div_lt_self ?_ ?_) <;> lia) | (with_reducible exact Int.ofNat_lt.mpr 55.) | (with_reducible exact Int.ofNat_le.mpr 55.) | (with_reducible exact Int.natCast_nonneg _) | (with_reducible exact Int.lt_of_not_ge 55.) | (with_reducible exact Int.le_of_not_gt 55.) | ((with_reducible refine Eq.symm (86.8 ?_)); lia) | ((with_reducible refine 86.8 ?_); lia) | (with_reducible exact Int.lt_trans 55. 55.) | (with_reducible exact Int.le_trans (08) 55.) | (with_reducible exact Int.le_trans 55. (08)) | lia -abstractProof (splits := 9) | lia,by first|grind -abstractProof -ring -linarith -lia -order -ac|grind -abstractProof -ring -linarith -order -ac|grind -abstractProof|grind,by first | solve_by_elim (maxDepth := 2) [Nat.le_of_lt, Nat.lt_of_lt_of_le, Nat.lt_of_le_of_lt, Nat.le_trans, Nat.le_refl, Nat.lt_succ_self, Nat.le_add_right, Nat.le_add_left, Nat.sub_le, Nat.lt_of_not_le, Nat.le_of_not_lt, Nat.succ_le_of_lt, Nat.lt_succ_of_le, Nat.zero_le, Nat.le_of_eq, Nat.pos_of_ne_zero, Nat.ne_of_gt, Nat.ne_of_lt, Nat.sub_lt_sub_left, Nat.succ_lt_succ, Nat.not_lt_of_le, Nat.not_le_of_lt, Nat.add_le_add, Nat.add_le_add_right, Nat.add_le_add_left, Nat.sub_le_sub_left, Nat.sub_le_sub_right] | solve_by_elim (maxDepth := 4) [Nat.lt_of_lt_of_le, Nat.lt_of_le_of_lt, Nat.le_trans, Nat.le_add_right, Nat.sub_le, Nat.lt_of_not_le, Nat.le_of_not_lt, Nat.sub_lt_sub_left, Nat.lt_succ_self] | solve_by_elim (maxDepth := 3) [Int.le_of_lt, Int.lt_of_lt_of_le, Int.lt_of_le_of_lt, Int.le_trans, Int.ofNat_le.mpr, Int.ofNat_lt.mpr, Int.natCast_nonneg, Int.not_lt.mpr, Int.not_le.mpr, Int.lt_of_not_ge, Int.le_of_not_gt, Nat.le_of_lt] | solve_by_elim (maxDepth := 3) [Nat.le_of_lt, Nat.lt_of_lt_of_le, Nat.lt_of_le_of_lt, Nat.le_trans, Nat.lt_succ_self, Nat.le_add_right, Nat.le_add_left, Nat.sub_le, Nat.lt_of_not_le, Nat.le_of_not_lt, Nat.succ_le_of_lt, Nat.zero_le, Nat.le_of_eq, Nat.sub_lt_sub_left, Nat.add_le_add] | solve_by_elim (maxDepth := 4) [Eq.trans, Eq.symm, congrArg] | (subst_vars; first | rfl | assumption) | (simp only [*]; solve_by_elim (maxDepth := 3) [Nat.le_of_lt, Nat.lt_of_lt_of_le, Nat.lt_of_le_of_lt, Nat.le_trans, Nat.lt_succ_self, Nat.le_add_right, Nat.le_add_left, Nat.sub_le, Nat.lt_of_not_le, Nat.le_of_not_lt, Nat.succ_le_of_lt, Nat.zero_le, Nat.le_of_eq, Nat.sub_lt_sub_left, Nat.add_le_add]) | (subst_vars; solve_by_elim (maxDepth := 3) [Nat.le_of_lt, Nat.lt_of_lt_of_le, Nat.lt_of_le_of_lt, Nat.le_trans, Nat.lt_succ_self, Nat.le_add_right, Nat.le_add_left, Nat.sub_le, Nat.lt_of_not_le, Nat.le_of_not_lt, Nat.succ_le_of_lt, Nat.zero_le, Nat.le_of_eq, Nat.sub_lt_sub_left, Nat.add_le_add]) | (subst_vars; solve_by_elim) | (subst_vars; lia) | cutsat,by lia -abstractProof (splits := 9),by (revert E;intro Y)]
#check_failure "o_ 5 7 8 11 12 13 14 15 16 17 18 19 20 21 22 23 24 25 26 28 29 30 31 33 34 35 37 38 39 40 41 42 43 44 45 46 47 48 49 51 52 53 54 56 57 58 59 61 62 63 65 66 67 68 69 70 72 73 74 75 76 77 78 79 80 81 82 83 84 86 87 88 89 90 91 93 94 95 96 97 98 100 101 102 103 104 105 107 108 109 110 111 113 115 116 117 118 119 120 122 123 124 125 127 128 129 130 131 132 134 135 136 137 138 139 140 141 142 144 145 146 147 148 149 150 151 152 154 155 156 157 158 159 161 162 163 164 166 167 168 170 171 172 173 174 175 177 178 179 180 181 182 184 185 186 187 188 189 191 192 193 194 195 196 198 199 200 201 202 203 205 206 207 208 209 210 212 213 214 215 216 217 219 220 221 222 223 224 226 227 228 229 230 231 233 234 235 236 237 238 239 240 241 242 243 244 245 247 248 249 250 252 253 254 256 257 258 259 260 261 262 263 264 265 266 267 268 270 271 272 273 274 275 277 278 279 280 281 282 284 285 286 287 288 289 291 292 293 294 296 298 299 300 301 302 303 305 306 307 308 309 310 312 314 315 316 317 318 319 320 321 322 324 325 326 328 329 330 331 332 333 334 335 336 337 338 339 340 342 343 344 345 346 347 349 350 351 352 353 354 356 357 358 359 360 361 363 364 365 366 367 368 370 372 373 374 375 376 377 379 380 381 382 383 384 386 387 388 389 390 391 393 394 395 396 397 398 400 401 402 403 404 405 407 408 409 410 412 413 414 415 416 417 419 420 421 422 423 424 426 427 428 429 430 431 433 434 435 436 437 438 440 441 442 443 444 445 447 448 449 450 451 452 454 456 457 458 459 460 461 463 464 465 466 467 468 470 471 472 473 474 475 477 478 479 480 481 482 484 485 486 487 488 489 491 492 493 494 495 496 498 499 500 501 503 504 505 506 507 508 510 511 512 513 514 515 517 518 519 520 521 522 524 525 526 527 529 530 531 533 534 535 536 537 538 539 540 541 542 543 544 545 547 548 549 550 552 553 554 556 557 558 559 560 561 562 563 564 565 566 567 568 570 571 572 573 575 576 577 579 580 581 582 583 584 585 586 587 588 589 590 591 593 594 595 596 597 598 600 601 602 603 604 605 607 608 609 610 611 612 614 615 616 617 618 619 621 622 623 624 625 626 628 630 631 632 633 634 635 637 638 639 640 641 642 644 645 646 647 648 649 651 652 653 654 656 657 658 659 660 661 663 664 665 666 667 668 670 671 672 673 675 676 677 678 680 681 682 684 685 686 687 688 689 691 692 693 694 695 696 698 699 700 701 703 704 705 706 707 708 710 711 712 713 714 715 717 718 719 720 721 722 724 725 726 727 729 730 731 732 733 734 736 737 738 739 740 741 743 744 745 746 747 748 750 751 752 753 754 755 757 758 759 760 761 762 764 765 766 767 768 769 771 772 773 774 775 776 778 779 780 781 782 783 785 786 787 788 790 791 792 793 794 795 797 798 799 800 801 802 804 805 806 807 808 809 810 811 812 813 814 815 817 818 819 820 822 823 824 826 827 828 829 830 831 833 834 835 836 837 838 840 841 842 843 845 846 847 848 849 850 852 853 854 855 856 857 859 860 861 862 863 864 866 867 868 869 871 872 873 874 875 876 878 879 880 881 882 883 885 886 887 888 889 890 892 893 894 895 896 900 902 904 905 906 907 908 909 911 912 913 914 915 916 918 919 920 921 922 sts_ 11 26 54 110 159 245 294 310 368 452 522 545 568 626 673 900 tree_ 9 25 53 109 158 244 293 309 367 451 521 544 567 625 672 815 896 922 heap_ 1 8 923 env_ 3 view_ 1"
theorem PySem.W.Fast.tw5686512403811107249:True:=trivial
section
open PySem PySem.W PyProof.Rows
set_option maxHeartbeats 0 in
noncomputable def T0:(P:Prop) ×' (P->PySem.Challenge.rw_sortedruns_s01_answers.Holds):=⟨_,fun __h=>by
 have __x:type_of% __h:= ?hc
 rotate_left
 exact __h
 w_on;k_headS;(case hw=>exact⟨[.list [59. 12]],09,09 ⟩)⟩
#check 0
def aH:=@PySem.wpAny_bind
def aI:=@List.length_map
def aM:=@if_neg
def aN:=@PySem.wpAny_pure
def aP:=@if_pos
def aQ:=@List.getElem?_eq_getElem
def aR:=@PySem.Heap.get?_push_of_some
def aT:=@List.getElem?_eq_some_iff
def aU:=@Nat.le_refl
def aW:=@List.mem_cons
def aX:=@decide_eq_false
def aY:=@decide_eq_true
def aZ:=@List.length_cons
def bB:=@List.mem_of_getElem?
def bD:=@List.map_cons
def bE:=@List.length_append
def bG:=@List.map_append
def bH:=@Nat.zero_le
def bI:=@Bool.and_eq_true
def bK:=@List.mem_map
def bL:=@Bool.false_ne_true
def bM:=@List.mem_cons_self
def bN:=@List.getElem?_map
def bO:=@List.mem_cons_of_mem
def bP:=@PySem.Heap.get?_push_size
def bQ:=@List.map_map
def bR:=@PySem.F.plainAttrs_list
def bT:=@List.mem_append
def bU:=@Nat.le_trans
def bV:=@PySem.PassesOwn.leaving
def bW:=@Option.map_eq_some_iff
def bY:=@PySem.Heap.lt_size
def cE:=@Option.some.inj
def cF:=@List.filter_sublist
def cG:=@List.mem_singleton
def cJ:=@List.take_length
def cK:=@Nat.lt_of_lt_of_le
def cM:=@List.size_toArray
def cN:=@Array.length_toList
def cO:=@decide_eq_true_eq
def cP:=@List.length_take
def cU:=@Bool.false_eq_true
def cV:=@PySem.mem_of_lookup
def cY:=@List.append_assoc
def cZ:=@of_decide_eq_true
def da:=@List.mem_filter
def dc:=@List.filterMap_cons
def de:=@List.map_congr_left
def df:=@Nat.ne_of_lt
def dk:=@Option.some.injEq
def dm:=@List.mem_append_right
def dn:=@List.append_nil
def dq:=@List.pairwise_cons
def dt:=@List.takeWhile_append_dropWhile
def dB:=@Prod.mk.injEq
def dC:=@PySem.F.slot_list_append
def dD:=@PySem.F.type_list_append
def dE:=@PySem.F.slot_list_extend
def dF:=@PySem.F.type_list_extend
def dQ:=@congrArg
def dU:=@List.length_filter_le
def dX:=@List.length_drop
def dY:=@Int.toNat_natCast
def d7:=@PySem.Heap.size_push
def ee:=@List.drop_eq_getElem_cons
def ew:=@List.zip_cons_cons
def eB:=@Bool.eq_iff_iff
def eC:=@Ne.symm
def eE:=@List.all_eq_true
def eG:=@PySem.wpAny_mono
def eI:=@List.takeWhile_cons
def eO:=@List.flatMap_cons
def eP:=@PySem.wpAny_call_entry
def eT:=@PySem.wpAny_truthy_bool
def eU:=@Nat.one_le_two_pow
def eW:=@List.nodup_cons
def eX:=@List.find?_cons
def fe:=@Classical.byContradiction
def fm:=@PySem.F.slot_dict_valueiterator_next
def fy:=@List.foldl_cons
def fz:=@PySem.W.kia_one
def fA:=@PySem.Heap.SameBut.update
def fD:=@PySem.wpAny_holding
def fE:=@List.mem_iff_getElem
def fK:=@List.take_of_length_le
def fL:=@List.nodup_nil
def fM:=@PySem.wpAny_forIn_list
def fN:=@List.flatten_append
def fP:=@Option.map_some
def fZ:=@decide_eq_true_iff
def gr:=@Except.ok.injEq
def gs:=@PyProof.Rows.boot_isinstance
def gD:=@List.flatMap_append
def gJ:=@PySem.wpAny_newObj_type
def gK:=@PySem.wpAny_dictEntries
def gN:=@PySem.F.slot_dict_keyiterator_next
def gZ:=@List.isPrefixOf_iff_prefix
def hB:=@if_false
def hJ:=@Array.getElem?_toList
def h9:=@Array.getElem?_eq_getElem
def ia:=@List.length_nil
def ik:=@List.mem_append_left
def il:=@List.map_nil
def ip:=@Option.isSome_map
def iq:=@List.nodup_append
def ir:=@PySem.wpAny_tupleItemsOf
def iB:=@Nat.lt_irrefl
def iC:=@Option.isSome_iff_exists
def iH:=@PySem.W.hideAll_get
def iR:=@List.mem_flatten
def iS:=@PySem.F.plainAttrs_dict
def iT:=@Int.eq_ofNat_of_zero_le
def iU:=@List.getElem_mem
def i5:=@Array.forIn_toList
def je:=@PySem.wpAny_callSpecial?_slot
def jf:=@PySem.wpAny_isInstance
def jh:=@List.map_take
def jw:=@Bool.not_eq_true'
def jx:=@Nat.lt_succ_of_lt
def jy:=@PySem.wpAny_typeNameOfWhole_keyiter
def jz:=@List.Sublist.refl
def jA:=@PySem.wpAny_typeNameOfWhole_valiter
def jB:=@PySem.wpAny_Call_Name_kw
def jP:=@List.mem_range
def jQ:=@PySem.wpAny_passesOwn
def jR:=@List.mem_of_mem_take
def jU:=@List.cons_append
def jV:=@List.drop_length
def jW:=@PySem.isSubtype_tuple_tuple
def j1:=@List.pairwise_iff_getElem
def j2:=@List.sublist_append_right
def j8:=@List.dropWhile_cons
def j9:=@beq_eq_false_iff_ne
def kG:=@Bool.not_true
def kH:=@PySem.F.slot_dict_values
def kJ:=@Nat.not_lt_zero
def kM:=@List.mem_filterMap
def kO:=@beq_iff_eq
def kP:=@PySem.codeAny_mono
def kQ:=@Nat.sub_add_cancel
def kR:=@PySem.F.called_set
def kZ:=@PyProof.Rows.boot_tuple
def l8:=@Array.getElem?_eq_none
def l9:=@PySem.wpAny_typeNameOf_keyiter
def ma:=@PySem.wpAny_typeNameOf_valiter
def me:=@PySem.wpAny_specialOf
def mf:=@PySem.wpAny_dictEpoch
def mh:=@PySem.Calls.spliced_cons
def mX:=@List.mem_reverse
def mY:=@List.filter_cons
def mZ:=@Nat.le_add_right
def m6:=@List.map_drop
def nI:=@PySem.W.hideAll_none
def nJ:=@PySem.Calls.callWith_builtin
def nL:=@PySem.wpAny_Call_method
def nM:=@PySem.wpAny_setState_of
def nP:=@PyProof.Rows.listUpdate_at
def oQ:=@Bool.or_eq_true
def oR:=@List.filter_map
def o4:=@PySem.Heap.get?_update_self
def pa:=@PySem.wpAny_eqBool_int
def pb:=@PyProof.Rows.callWith_type1
def qf:=@PySem.W.of_hideAll
def qg:=@PySem.Calls.evalArgs_plain
def qh:=@Array.toList_setIfInBounds
def qi:=@PySem.boot_len
def qM:=@PySem.wpAny_execs_nil
def qN:=@PySem.F.excBase_Exception
def qO:=@List.getElem?_eq_none_iff
def sd:=@PySem.F.args_tuple_add_2
def se:=@List.all_cons
def sf:=@List.any_cons
def sh:=@PySem.wpAny_richCompare_same_room
def sj:=@List.sublist_append_left
def tS:=@Array.toList_map
def tT:=@Nat.lt_succ_self
def tU:=@List.getElem_inj
def tV:=@PySem.F.entry_tuple_add
def tW:=@PySem.tupleKind_room_in1
def tX:=@PySem.Obj.data_mapFields
def tY:=@List.pairwise_singleton
def tZ:=@PySem.wpAny_rule
def uV:=@Nat.le_of_lt
def uW:=@PySem.F.slot_tuple_add
def uX:=@List.range_succ_eq_map
def uY:=@PyProof.Rows.boot_list
def vt:=@PySem.Calls.spliced_nil
def vu:=@List.forIn_cons
def vK:=@PySem.Paired.length
def vL:=@PySem.wpAny_attempt
def vM:=@List.take_append_drop
def vO:=@List.Pairwise.sublist
def xV:=@List.getElem?_set_ne
def xW:=@Array.mem_toList_iff
def xX:=@List.mem_of_mem_drop
def xY:=@Nat.pow_le_pow_right
def xZ:=@PySem.F.args_dict_valueiterator_next_1
def x4:=@Iff.rfl
def x6:=@PySem.F.entry_dict_valueiterator_next
def yO:=@PySem.W.plainGet_of
def yP:=@List.length_pos_iff
def yQ:=@PyProof.Rows.le_int
def yR:=@PyProof.Rows.lt_int
def zL:=@PySem.pushCells_keeps
def Bd:=@PySem.W.callWith_K
def Be:=@PySem.wpAny_notOrdered_dict
def Bf:=@PySem.F.slot_dict_keyiterator_iter
def Bg:=@PySem.wpAny_isOneOf_valiter
def Bh:=@List.map_filterMap
def Bi:=@List.filterMap_map
def C9:=@if_true
def Dc:=@PySem.sizeLine_eq
def Dd:=@PySem.wpAny_fieldsOf
def De:=@PySem.wpAny_setField
def Df:=@PySem.wpAny_seqItems
def Di:=@PyProof.Rows.F.plain_set_update_loop
def Ga:=@PySem.wpAny_newList
def Kq:=@List.forIn_nil
def KA:=@PyProof.Rows.seqEpoch_at
def Ox:=@PyProof.Rows.slot_tuple_eq
abbrev aA:=PySem.W.Frag
abbrev aB:=PySem.Shared
abbrev aC:=PySem.FuncData
abbrev aD:=PySem.Program
abbrev aE:=Vacoly.Entry
abbrev aF:=Vacoly.State
abbrev aG:=Vacola.Text
abbrev RU:215.:=["calls"]
abbrev RV:215.:=["self"]
abbrev RW:215.:=["reader"]
abbrev RX:215.:=081 "kind"
abbrev RY:215.:=["fields"]
abbrev RZ:215.:=081 "depth"
abbrev Sa:215.:=["reader","depth","in_choice"]
abbrev Sb:215.:=["group","path","sure","columns"]
abbrev Sd:215.:=081 "record"
abbrev Se:215.:=["entry"]
abbrev Sf:215.:=["entries","low","high","point"]
abbrev Sg:=05 Int
abbrev Sh:=05 Nat
abbrev Si:=215.
abbrev Sj:=05 PySem.Value
abbrev Sk:=PySem.Str → 74. PySem.Value
abbrev Sl:=PySem.Value → PySem.Shared → Prop
abbrev Sn:=05 (PySem.Addr × PySem.Obj)
abbrev So:=05 PySem.Addr
abbrev Sq:=PySem.Addr → Prop
noncomputable section
@[irreducible] def eps {α:Type} (i:14. α) (P:α->Prop):α:= @Classical.epsilon α i P
theorem epsH{α:Type}{i:14. α}{P:α->Prop}(h:∃x,P x):P (eps i P):=by unfold eps;exact Classical.epsilon_spec h
def og{α:Type}(i:14. α)(o:74. α):α:=eps i fun x=>o=7. x
@[elab_as_elim] theorem optE {α:Type} [i:14. α] {P:74. α->Prop} (o:74. α) (h:P none) (k:P (7. (og i o))):P o:=by
 cases o with
 |none=>exact h
 |some x=>exact cE (239. (P:=fun y=>7. x=7. y) (305. x))▸k
theorem pairE{α β:Type}(x:α ×β):∃a b,x=(a,b):=33. _ _
theorem prodA{α β:Type}{P:α ×β->Prop}(h:∀a b,P (a,b)):∀x,P x:=fun x=>h x.1 x.2
section
variable{A B C D E F G H I J K L M N O P Q:Type}
section
variable{R S T U V W X Y Z r s t:Prop}
theorem x0_1{z:Prop}(y:R/\S)(x:R->S->z):z:=x y.1 y.2
theorem x0_2{z:Prop}(y:R/\S/\T)(x:R->S->T->z):z:=754. x0_1
theorem x0_3{z:Prop}(y:R/\S/\T/\U)(x:R->S->T->U->z):z:=754. x0_2
theorem x0_4{z:Prop}(y:R/\S/\T/\U/\V)(x:R->S->T->U->V->z):z:=754. x0_3
theorem x0_5{z:Prop}(y:R/\S/\T/\U/\V/\W)(x:R->S->T->U->V->W->z):z:=754. x0_4
theorem x0_6{z:Prop}(y:R/\S/\T/\U/\V/\W/\X)(x:R->S->T->U->V->W->X->z):z:=754. x0_5
theorem x0_7{z:Prop}(y:R/\S/\T/\U/\V/\W/\X/\Y)(x:R->S->T->U->V->W->X->Y->z):z:=754. x0_6
theorem x0_8{z:Prop}(y:R/\S/\T/\U/\V/\W/\X/\Y/\Z)(x:R->S->T->U->V->W->X->Y->Z->z):z:=754. x0_7
theorem x0_9{z:Prop}(y:R/\S/\T/\U/\V/\W/\X/\Y/\Z/\r)(x:R->S->T->U->V->W->X->Y->Z->r->z):z:=754. x0_8
theorem x0_10{z:Prop}(y:R/\S/\T/\U/\V/\W/\X/\Y/\Z/\r/\s)(x:R->S->T->U->V->W->X->Y->Z->r->s->z):z:=754. x0_9
theorem x0_11{z:Prop}(y:R/\S/\T/\U/\V/\W/\X/\Y/\Z/\r/\s/\t)(x:R->S->T->U->V->W->X->Y->Z->r->s->t->z):z:=754. x0_10
#check 0
section
variable{R S T U V W X Y Z r s t:A->Prop}
theorem e10(a:A)(u:R a):∃a,R a:=28. a u
theorem e11(a:A)(u:R a)(v:S a):∃a,R a/\S a:=⟨a,u,v⟩
theorem e12(a:A)(u:R a)(v:S a)(w:T a):∃a,R a/\S a/\T a:=⟨a,u,v,w⟩
theorem e13(a:A)(u:R a)(v:S a)(w:T a)(x:U a):∃a,R a/\S a/\T a/\U a:=⟨a,u,v,w,x⟩
theorem e14(a:A)(u:R a)(v:S a)(w:T a)(x:U a)(y:V a):∃a,R a/\S a/\T a/\U a/\V a:=⟨a,u,v,w,x,y⟩
theorem e15(a:A)(u:R a)(v:S a)(w:T a)(x:U a)(y:V a)(z:W a):70.9:=⟨a,u,v,w,x,y,z⟩
theorem e16(a:A)(u:R a)(v:S a)(w:T a)(x:U a)(y:V a)(z:W a)(q:X a):43.1:=⟨a,u,v,w,x,y,z,q⟩
theorem e17(a:A)(u:R a)(v:S a)(w:T a)(x:U a)(y:V a)(z:W a)(q:X a)(p:Y a):22.2:=⟨a,u,v,w,x,y,z,q,p⟩
theorem e18(a:A)(u:R a)(v:S a)(w:T a)(x:U a)(y:V a)(z:W a)(q:X a)(p:Y a)(o:Z a):936.:=⟨a,u,v,w,x,y,z,q,p,o⟩
theorem e19(a:A)(u:R a)(v:S a)(w:T a)(x:U a)(y:V a)(z:W a)(q:X a)(p:Y a)(o:Z a)(n:r a):∃a,R a/\S a/\T a/\U a/\V a/\W a/\X a/\Y a/\Z a/\r a:=⟨a,u,v,w,x,y,z,q,p,o,n⟩
theorem e1a(a:A)(u:R a)(v:S a)(w:T a)(x:U a)(y:V a)(z:W a)(q:X a)(p:Y a)(o:Z a)(n:r a)(m:s a):∃a,R a/\S a/\T a/\U a/\V a/\W a/\X a/\Y a/\Z a/\r a/\s a:=⟨a,u,v,w,x,y,z,q,p,o,n,m⟩
theorem e1b(a:A)(u:R a)(v:S a)(w:T a)(x:U a)(y:V a)(z:W a)(q:X a)(p:Y a)(o:Z a)(n:r a)(m:s a)(l:t a):568.:=⟨a,u,v,w,x,y,z,q,p,o,n,m,l⟩
theorem x1_0{z:Prop}(y:∃a,R a)(x:∀a,R a->z):z:=Exists.elim y fun a y=>x a y
theorem x1_1{z:Prop}(y:∃a,R a/\S a)(x:∀a,R a->S a->z):z:=9. x0_1
theorem x1_2{z:Prop}(y:∃a,R a/\S a/\T a)(x:∀a,R a->S a->T a->z):z:=9. x0_2
theorem x1_3{z:Prop}(y:∃a,R a/\S a/\T a/\U a)(x:∀a,R a->S a->T a->U a->z):z:=9. x0_3
theorem x1_4{z:Prop}(y:∃a,R a/\S a/\T a/\U a/\V a)(x:∀a,R a->S a->T a->U a->V a->z):z:=9. x0_4
theorem x1_5{z:Prop}(y:70.9)(x:∀a,R a->S a->T a->U a->V a->W a->z):z:=9. x0_5
theorem x1_6{z:Prop}(y:43.1)(x:∀a,R a->S a->T a->U a->V a->W a->X a->z):z:=9. x0_6
theorem x1_7{z:Prop}(y:22.2)(x:∀a,R a->S a->T a->U a->V a->W a->X a->Y a->z):z:=9. x0_7
theorem x1_8{z:Prop}(y:936.)(x:∀a,R a->S a->T a->U a->V a->W a->X a->Y a->Z a->z):z:=9. x0_8
theorem x1_11{z:Prop}(y:568.)(x:∀a,R a->S a->T a->U a->V a->W a->X a->Y a->Z a->r a->s a->t a->z):z:=9. x0_11
#check 0
def s1_1(i:14. (A))(f:A->Prop):A:=let z:=eps i fun z=>f z;z
def n1_1(i:14. (A))(f:A->Prop):A:=s1_1 i fun a=>¬f a
theorem X1[i:14. (A)]{f:A->Prop}{z:Prop}(h:∃a,f a)(G:f (s1_1 i f)->z):z:=26. fun a h=>G<|239. (P:=fun z=>f z) ⟨a,h⟩
theorem A1[i:14. (A)]{f:A->Prop}(h:f (n1_1 i f)):∀a,f a:=fun a=>fe fun n=>X1 (f:=fun a=>¬f a) ⟨a,n⟩ 433.
section
variable{R S T U V W X Y Z r s t:20. A B}
theorem e20(a:A)(b:B)(u:30.1):∃a b,30.1:=⟨a,e10 b u⟩
theorem e21(a:A)(b:B)(u:30.1)(v:78.4):∃a b,445. R S:=⟨a,e11 b u v⟩
theorem e22(a:A)(b:B)(u:30.1)(v:78.4)(w:T a b):∃a b,30.1/\445. S T:=⟨a,e12 b u v w⟩
theorem e23(a:A)(b:B)(u:30.1)(v:78.4)(w:T a b)(x:U a b):∃a b,30.1/\78.4/\445. T U:=⟨a,e13 b u v w x⟩
theorem e24(a:A)(b:B)(u:30.1)(v:78.4)(w:T a b)(x:U a b)(y:V a b):59.0:=⟨a,e14 b u v w x y⟩
theorem e25(a:A)(b:B)(u:30.1)(v:78.4)(w:T a b)(x:U a b)(y:V a b)(z:W a b):22.3:=⟨a,e15 b u v w x y z⟩
theorem e26(a:A)(b:B)(u:30.1)(v:78.4)(w:T a b)(x:U a b)(y:V a b)(z:W a b)(q:X a b):863.:=⟨a,728. e16 ⟩
theorem e27(a:A)(b:B)(u:30.1)(v:78.4)(w:T a b)(x:U a b)(y:V a b)(z:W a b)(q:X a b)(p:Y a b):685.:=⟨a,728. e17 p⟩
theorem e28(a:A)(b:B)(u:30.1)(v:78.4)(w:T a b)(x:U a b)(y:V a b)(z:W a b)(q:X a b)(p:Y a b)(o:Z a b):563.:=⟨a,728. e18 p o⟩
theorem e29(a:A)(b:B)(u:30.1)(v:78.4)(w:T a b)(x:U a b)(y:V a b)(z:W a b)(q:X a b)(p:Y a b)(o:Z a b)(n:r a b):∃a b,30.1/\78.4/\T a b/\U a b/\V a b/\W a b/\X a b/\Y a b/\445. Z r:=⟨a,728. e19 p o n⟩
theorem e2a(a:A)(b:B)(u:30.1)(v:78.4)(w:T a b)(x:U a b)(y:V a b)(z:W a b)(q:X a b)(p:Y a b)(o:Z a b)(n:r a b)(m:s a b):∃a b,30.1/\78.4/\T a b/\U a b/\V a b/\W a b/\X a b/\Y a b/\Z a b/\445. r s:=⟨a,728. e1a p o n m⟩
theorem e2b(a:A)(b:B)(u:30.1)(v:78.4)(w:T a b)(x:U a b)(y:V a b)(z:W a b)(q:X a b)(p:Y a b)(o:Z a b)(n:r a b)(m:s a b)(l:t a b):224.:=⟨a,728. e1b p o n m l⟩
theorem x2_0{z:Prop}(y:∃a b,30.1)(x:∀a b,30.1->z):z:=9. x1_0
theorem x2_1{z:Prop}(y:∃a b,445. R S)(x:∀a b,782. R S):z:=9. x1_1
theorem x2_2{z:Prop}(y:∃a b,30.1/\445. S T)(x:∀a b,30.1->782. S T):z:=9. x1_2
theorem x2_3{z:Prop}(y:∃a b,30.1/\78.4/\445. T U)(x:∀a b,30.1->78.4->782. T U):z:=9. x1_3
theorem x2_4{z:Prop}(y:59.0)(x:∀a b,30.1->78.4->T a b->782. U V):z:=9. x1_4
theorem x2_5{z:Prop}(y:22.3)(x:∀a b,30.1->78.4->T a b->U a b->782. V W):z:=9. x1_5
theorem x2_6{z:Prop}(y:863.)(x:∀a b,30.1->78.4->T a b->U a b->V a b->782. W X):z:=9. x1_6
theorem x2_7{z:Prop}(y:685.)(x:∀a b,30.1->78.4->T a b->U a b->V a b->W a b->782. X Y):z:=9. x1_7
theorem x2_8{z:Prop}(y:563.)(x:∀a b,30.1->78.4->T a b->U a b->V a b->W a b->X a b->782. Y Z):z:=9. x1_8
theorem x2_11{z:Prop}(y:224.)(x:∀a b,30.1->78.4->T a b->U a b->V a b->W a b->X a b->Y a b->Z a b->r a b->782. s t):z:=9. x1_11
#check 0
def s2_1(i:42.5)(f:20. A B):A:=let z:=eps i fun z=>f z.1 z.2;z.1
def n2_1(i:42.5)(f:20. A B):A:=s2_1 i fun a b=>¬f a b
def s2_2(i:42.5)(f:20. A B):B:=let z:=eps i fun z=>f z.1 z.2;z.2
def n2_2(i:42.5)(f:20. A B):B:=s2_2 i fun a b=>¬f a b
theorem X2[i:42.5]{f:20. A B}{z:Prop}(h:∃a b,f a b)(G:0e0 s2_1 s2_2->z):z:=26. fun a h=>26. fun b h=>G<|239. (P:=fun z=>f z.1 z.2) ⟨(a,b),h⟩
theorem A2[i:42.5]{f:20. A B}(h:0e0 n2_1 n2_2):∀a b,f a b:=fun a b=>fe fun n=>X2 (f:=fun a b=>¬f a b) ⟨a,28. b n ⟩ 433.
section
variable{R S T U V W X Y Z r s t:823.}
theorem e30(a:A)(b:B)(c:C)(u:03 R):∃a b c,03 R:=⟨a,e20 b c u⟩
theorem e31(a:A)(b:B)(c:C)(u:03 R)(v:03 S):∃a b c,03 R/\03 S:=⟨a,e21 b c u v⟩
theorem e32(a:A)(b:B)(c:C)(u:03 R)(v:03 S)(w:03 T):∃a b c,03 R/\03 S/\03 T:=⟨a,e22 b c u v w⟩
theorem e33(a:A)(b:B)(c:C)(u:03 R)(v:03 S)(w:03 T)(x:03 U):83.0:=⟨a,e23 b c u v w x⟩
theorem e34(a:A)(b:B)(c:C)(u:03 R)(v:03 S)(w:03 T)(x:03 U)(y:03 V):46.5:=⟨a,e24 b c u v w x y⟩
theorem e35(a:A)(b:B)(c:C)(u:03 R)(v:03 S)(w:03 T)(x:03 U)(y:03 V)(z:03 W):22.4:=⟨a,504. e25 ⟩
theorem e36(a:A)(b:B)(c:C)(u:03 R)(v:03 S)(w:03 T)(x:03 U)(y:03 V)(z:03 W)(q:03 X):890.:=⟨a,504. e26 q⟩
theorem e37(a:A)(b:B)(c:C)(u:03 R)(v:03 S)(w:03 T)(x:03 U)(y:03 V)(z:03 W)(q:03 X)(p:03 Y):732.:=⟨a,504. e27 q p⟩
theorem e38(a:A)(b:B)(c:C)(u:03 R)(v:03 S)(w:03 T)(x:03 U)(y:03 V)(z:03 W)(q:03 X)(p:03 Y)(o:03 Z):589.:=⟨a,504. e28 q p o⟩
theorem e39(a:A)(b:B)(c:C)(u:03 R)(v:03 S)(w:03 T)(x:03 U)(y:03 V)(z:03 W)(q:03 X)(p:03 Y)(o:03 Z)(n:03 r):∃a b c,03 R/\03 S/\03 T/\03 U/\03 V/\03 W/\03 X/\03 Y/\03 Z/\03 r:=⟨a,504. e29 q p o n⟩
theorem e3a(a:A)(b:B)(c:C)(u:03 R)(v:03 S)(w:03 T)(x:03 U)(y:03 V)(z:03 W)(q:03 X)(p:03 Y)(o:03 Z)(n:03 r)(m:03 s):∃a b c,03 R/\03 S/\03 T/\03 U/\03 V/\03 W/\03 X/\03 Y/\03 Z/\03 r/\03 s:=⟨a,504. e2a q p o n m⟩
theorem e3b(a:A)(b:B)(c:C)(u:03 R)(v:03 S)(w:03 T)(x:03 U)(y:03 V)(z:03 W)(q:03 X)(p:03 Y)(o:03 Z)(n:03 r)(m:03 s)(l:03 t):328.:=⟨a,504. e2b q p o n m l⟩
theorem x3_0{z:Prop}(y:∃a b c,03 R)(x:∀a b c,03 R->z):z:=9. x2_0
theorem x3_1{z:Prop}(y:∃a b c,03 R/\03 S)(x:∀a b c,45.6 R S):z:=9. x2_1
theorem x3_2{z:Prop}(y:∃a b c,03 R/\03 S/\03 T)(x:∀a b c,03 R->45.6 S T):z:=9. x2_2
theorem x3_3{z:Prop}(y:83.0)(x:∀a b c,03 R->03 S->45.6 T U):z:=9. x2_3
theorem x3_4{z:Prop}(y:46.5)(x:∀a b c,03 R->03 S->03 T->45.6 U V):z:=9. x2_4
theorem x3_5{z:Prop}(y:22.4)(x:∀a b c,03 R->03 S->03 T->03 U->45.6 V W):z:=9. x2_5
theorem x3_6{z:Prop}(y:890.)(x:∀a b c,03 R->03 S->03 T->03 U->03 V->45.6 W X):z:=9. x2_6
theorem x3_7{z:Prop}(y:732.)(x:∀a b c,03 R->03 S->03 T->03 U->03 V->03 W->45.6 X Y):z:=9. x2_7
theorem x3_8{z:Prop}(y:589.)(x:∀a b c,03 R->03 S->03 T->03 U->03 V->03 W->03 X->45.6 Y Z):z:=9. x2_8
theorem x3_11{z:Prop}(y:328.)(x:∀a b c,03 R->03 S->03 T->03 U->03 V->03 W->03 X->03 Y->03 Z->03 r->45.6 s t):z:=9. x2_11
#check 0
def s3_1(i:315.)(f:823.):A:=477. z.1
def n3_1(i:315.)(f:823.):A:=s3_1 i 998.
def s3_2(i:315.)(f:823.):B:=477. z.2.1
def n3_2(i:315.)(f:823.):B:=s3_2 i 998.
def s3_3(i:315.)(f:823.):C:=477. z.2.2
def n3_3(i:315.)(f:823.):C:=s3_3 i 998.
theorem X3[i:315.]{f:823.}{z:Prop}(h:∃a b c,03 f)(G:0e0 s3_1 s3_2 (s3_3 i f)->z):z:=26. fun a h=>26. fun b h=>26. fun c h=>G<|239. (P:=fun z=>f z.1 z.2.1 z.2.2) ⟨(a,(b,c)),h⟩
theorem A3[i:315.]{f:823.}(h:0e0 n3_1 n3_2 (n3_3 i f)):∀a b c,03 f:=fun a b c=>fe fun n=>X3 (f:=998.) (70.6 n) 433.
section
variable{R S T U V W X Y Z r s t:204.}
theorem e40(a:A)(b:B)(c:C)(d:D)(u:45.5):∃a b c d,45.5:=⟨a,e30 b c d u⟩
theorem e41(a:A)(b:B)(c:C)(d:D)(u:45.5)(v:93.9):∃a b c d,441. R S:=⟨a,e31 b c d u v⟩
theorem e42(a:A)(b:B)(c:C)(d:D)(u:45.5)(v:93.9)(w:1.0 T):∃a b c d,45.5/\441. S T:=⟨a,e32 b c d u v w⟩
theorem e43(a:A)(b:B)(c:C)(d:D)(u:45.5)(v:93.9)(w:1.0 T)(x:1.0 U):75.4:=⟨a,e33 b c d u v w x⟩
theorem e44(a:A)(b:B)(c:C)(d:D)(u:45.5)(v:93.9)(w:1.0 T)(x:1.0 U)(y:1.0 V):32.5:=⟨a,e34 b c d u v w x y⟩
theorem e45(a:A)(b:B)(c:C)(d:D)(u:45.5)(v:93.9)(w:1.0 T)(x:1.0 U)(y:1.0 V)(z:1.0 W):964.:=⟨a,343. e35 ⟩
theorem e46(a:A)(b:B)(c:C)(d:D)(u:45.5)(v:93.9)(w:1.0 T)(x:1.0 U)(y:1.0 V)(z:1.0 W)(q:1.0 X):758.:=⟨a,343. e36 q⟩
theorem e47(a:A)(b:B)(c:C)(d:D)(u:45.5)(v:93.9)(w:1.0 T)(x:1.0 U)(y:1.0 V)(z:1.0 W)(q:1.0 X)(p:1.0 Y):590.:=⟨a,343. e37 q p⟩
theorem e48(a:A)(b:B)(c:C)(d:D)(u:45.5)(v:93.9)(w:1.0 T)(x:1.0 U)(y:1.0 V)(z:1.0 W)(q:1.0 X)(p:1.0 Y)(o:1.0 Z):412.:=⟨a,343. e38 q p o⟩
theorem e49(a:A)(b:B)(c:C)(d:D)(u:45.5)(v:93.9)(w:1.0 T)(x:1.0 U)(y:1.0 V)(z:1.0 W)(q:1.0 X)(p:1.0 Y)(o:1.0 Z)(n:1.0 r):∃a b c d,45.5/\93.9/\1.0 T/\1.0 U/\1.0 V/\1.0 W/\1.0 X/\1.0 Y/\441. Z r:=⟨a,343. e39 q p o n⟩
theorem e4a(a:A)(b:B)(c:C)(d:D)(u:45.5)(v:93.9)(w:1.0 T)(x:1.0 U)(y:1.0 V)(z:1.0 W)(q:1.0 X)(p:1.0 Y)(o:1.0 Z)(n:1.0 r)(m:1.0 s):∃a b c d,45.5/\93.9/\1.0 T/\1.0 U/\1.0 V/\1.0 W/\1.0 X/\1.0 Y/\1.0 Z/\441. r s:=⟨a,343. e3a q p o n m⟩
theorem e4b(a:A)(b:B)(c:C)(d:D)(u:45.5)(v:93.9)(w:1.0 T)(x:1.0 U)(y:1.0 V)(z:1.0 W)(q:1.0 X)(p:1.0 Y)(o:1.0 Z)(n:1.0 r)(m:1.0 s)(l:1.0 t):207.:=⟨a,343. e3b q p o n m l⟩
theorem x4_0{z:Prop}(y:∃a b c d,45.5)(x:∀a b c d,45.5->z):z:=9. x3_0
theorem x4_1{z:Prop}(y:∃a b c d,441. R S)(x:∀a b c d,774. R S):z:=9. x3_1
theorem x4_2{z:Prop}(y:∃a b c d,45.5/\441. S T)(x:∀a b c d,45.5->774. S T):z:=9. x3_2
theorem x4_3{z:Prop}(y:75.4)(x:∀a b c d,45.5->93.9->774. T U):z:=9. x3_3
theorem x4_4{z:Prop}(y:32.5)(x:∀a b c d,45.5->93.9->1.0 T->774. U V):z:=9. x3_4
theorem x4_5{z:Prop}(y:964.)(x:∀a b c d,45.5->93.9->1.0 T->1.0 U->774. V W):z:=9. x3_5
theorem x4_6{z:Prop}(y:758.)(x:∀a b c d,45.5->93.9->1.0 T->1.0 U->1.0 V->774. W X):z:=9. x3_6
theorem x4_7{z:Prop}(y:590.)(x:∀a b c d,45.5->93.9->1.0 T->1.0 U->1.0 V->1.0 W->774. X Y):z:=9. x3_7
theorem x4_8{z:Prop}(y:412.)(x:∀a b c d,45.5->93.9->1.0 T->1.0 U->1.0 V->1.0 W->1.0 X->774. Y Z):z:=9. x3_8
theorem x4_11{z:Prop}(y:207.)(x:∀a b c d,45.5->93.9->1.0 T->1.0 U->1.0 V->1.0 W->1.0 X->1.0 Y->1.0 Z->1.0 r->774. s t):z:=9. x3_11
#check 0
def s4_1(i:009)(f:204.):A:=063 z.1
def n4_1(i:009)(f:204.):A:=s4_1 i 414.
def s4_2(i:009)(f:204.):B:=063 z.2.1
def n4_2(i:009)(f:204.):B:=s4_2 i 414.
def s4_3(i:009)(f:204.):C:=063 83.3
def n4_3(i:009)(f:204.):C:=s4_3 i 414.
def s4_4(i:009)(f:204.):D:=063 z.2.2.2
def n4_4(i:009)(f:204.):D:=s4_4 i 414.
theorem X4[i:009]{f:204.}{z:Prop}(h:∃a b c d,1.0 f)(G:0e0 s4_1 s4_2 (s4_3 i f) (s4_4 i f)->z):z:=26. fun a h=>26. fun b h=>26. fun c h=>26. fun d h=>G<|239. (P:=fun z=>537. z.2.2.2) ⟨(a,(b,(c,d))),h⟩
theorem A4[i:009]{f:204.}(h:0e0 n4_1 n4_2 (n4_3 i f) (n4_4 i f)):∀a b c d,1.0 f:=fun a b c d=>fe fun n=>X4 (f:=414.) (70.6 ⟨d,n⟩) 433.
section
variable{R S T U V W X Y Z r s t:7e7}
theorem e50(a:A)(b:B)(c:C)(d:D)(e:E)(u:3. R):∃a b c d e,3. R:=⟨a,69.9 e40 u⟩
theorem e51(a:A)(b:B)(c:C)(d:D)(e:E)(u:3. R)(v:3. S):∃a b c d e,3. R/\3. S:=⟨a,69.9 e41 u v⟩
theorem e52(a:A)(b:B)(c:C)(d:D)(e:E)(u:3. R)(v:3. S)(w:3. T):96.2:=⟨a,69.9 e42 u v w⟩
theorem e53(a:A)(b:B)(c:C)(d:D)(e:E)(u:3. R)(v:3. S)(w:3. T)(x:3. U):59.1:=⟨a,69.9 e43 u v w x⟩
theorem e54(a:A)(b:B)(c:C)(d:D)(e:E)(u:3. R)(v:3. S)(w:3. T)(x:3. U)(y:3. V):28.7:=⟨a,217. e44 ⟩
theorem e55(a:A)(b:B)(c:C)(d:D)(e:E)(u:3. R)(v:3. S)(w:3. T)(x:3. U)(y:3. V)(z:3. W):965.:=⟨a,217. e45 z⟩
theorem e56(a:A)(b:B)(c:C)(d:D)(e:E)(u:3. R)(v:3. S)(w:3. T)(x:3. U)(y:3. V)(z:3. W)(q:3. X):785.:=⟨a,217. e46 z q⟩
theorem e57(a:A)(b:B)(c:C)(d:D)(e:E)(u:3. R)(v:3. S)(w:3. T)(x:3. U)(y:3. V)(z:3. W)(q:3. X)(p:3. Y):636.:=⟨a,217. e47 z q p⟩
theorem e58(a:A)(b:B)(c:C)(d:D)(e:E)(u:3. R)(v:3. S)(w:3. T)(x:3. U)(y:3. V)(z:3. W)(q:3. X)(p:3. Y)(o:3. Z):520.:=⟨a,217. e48 z q p o⟩
theorem e59(a:A)(b:B)(c:C)(d:D)(e:E)(u:3. R)(v:3. S)(w:3. T)(x:3. U)(y:3. V)(z:3. W)(q:3. X)(p:3. Y)(o:3. Z)(n:3. r):∃a b c d e,3. R/\3. S/\3. T/\3. U/\3. V/\3. W/\3. X/\3. Y/\3. Z/\3. r:=⟨a,217. e49 z q p o n⟩
theorem e5a(a:A)(b:B)(c:C)(d:D)(e:E)(u:3. R)(v:3. S)(w:3. T)(x:3. U)(y:3. V)(z:3. W)(q:3. X)(p:3. Y)(o:3. Z)(n:3. r)(m:3. s):∃a b c d e,3. R/\3. S/\3. T/\3. U/\3. V/\3. W/\3. X/\3. Y/\3. Z/\3. r/\3. s:=⟨a,217. e4a z q p o n m⟩
theorem e5b(a:A)(b:B)(c:C)(d:D)(e:E)(u:3. R)(v:3. S)(w:3. T)(x:3. U)(y:3. V)(z:3. W)(q:3. X)(p:3. Y)(o:3. Z)(n:3. r)(m:3. s)(l:3. t):286.:=⟨a,217. e4b z q p o n m l⟩
theorem x5_0{z:Prop}(y:∃a b c d e,3. R)(x:∀a b c d e,3. R->z):z:=9. x4_0
theorem x5_1{z:Prop}(y:∃a b c d e,3. R/\3. S)(x:∀a b c d e,45.4 R S):z:=9. x4_1
theorem x5_2{z:Prop}(y:96.2)(x:∀a b c d e,3. R->45.4 S T):z:=9. x4_2
theorem x5_3{z:Prop}(y:59.1)(x:∀a b c d e,3. R->3. S->45.4 T U):z:=9. x4_3
theorem x5_4{z:Prop}(y:28.7)(x:∀a b c d e,3. R->3. S->3. T->45.4 U V):z:=9. x4_4
theorem x5_5{z:Prop}(y:965.)(x:∀a b c d e,3. R->3. S->3. T->3. U->45.4 V W):z:=9. x4_5
theorem x5_6{z:Prop}(y:785.)(x:∀a b c d e,3. R->3. S->3. T->3. U->3. V->45.4 W X):z:=9. x4_6
theorem x5_7{z:Prop}(y:636.)(x:∀a b c d e,3. R->3. S->3. T->3. U->3. V->3. W->45.4 X Y):z:=9. x4_7
theorem x5_8{z:Prop}(y:520.)(x:∀a b c d e,3. R->3. S->3. T->3. U->3. V->3. W->3. X->45.4 Y Z):z:=9. x4_8
theorem x5_11{z:Prop}(y:286.)(x:∀a b c d e,3. R->3. S->3. T->3. U->3. V->3. W->3. X->3. Y->3. Z->3. r->45.4 s t):z:=9. x4_11
#check 0
def s5_1(i:7.1)(f:7e7):A:=7.0 z.1
def n5_1(i:7.1)(f:7e7):A:=s5_1 i 197.
def s5_2(i:7.1)(f:7e7):B:=7.0 z.2.1
def n5_2(i:7.1)(f:7e7):B:=s5_2 i 197.
def s5_3(i:7.1)(f:7e7):C:=7.0 83.3
def n5_3(i:7.1)(f:7e7):C:=s5_3 i 197.
def s5_4(i:7.1)(f:7e7):D:=7.0 760.
def n5_4(i:7.1)(f:7e7):D:=s5_4 i 197.
def s5_5(i:7.1)(f:7e7):E:=7.0 z.2.2.2.2
def n5_5(i:7.1)(f:7e7):E:=s5_5 i 197.
theorem X5[i:7.1]{f:7e7}{z:Prop}(h:∃a b c d e,3. f)(G:0e0 s5_1 s5_2 (s5_3 i f) (s5_4 i f) (s5_5 i f)->z):z:=26. fun a h=>26. fun b h=>26. fun c h=>26. fun d h=>26. fun e h=>G<|239. (P:=fun z=>537. 760. z.2.2.2.2) ⟨(a,(b,(c,(d,e)))),h⟩
theorem A5[i:7.1]{f:7e7}(h:0e0 n5_1 n5_2 (n5_3 i f) (n5_4 i f) (n5_5 i f)):∀a b c d e,3. f:=fun a b c d e=>fe fun n=>X5 (f:=197.) (071 n) 433.
section
variable{R S T U V W X Y Z r s t:6.5}
theorem e60(a:A)(b:B)(c:C)(d:D)(e:E)(f:F)(u:50.6):∃a b c d e f,50.6:=⟨a,69.9 e50 f u⟩
theorem e61(a:A)(b:B)(c:C)(d:D)(e:E)(f:F)(u:50.6)(v:5.3 S):∃a b c d e f,516. R S:=⟨a,69.9 e51 f u v⟩
theorem e62(a:A)(b:B)(c:C)(d:D)(e:E)(f:F)(u:50.6)(v:5.3 S)(w:5.3 T):96.3:=⟨a,69.9 e52 f u v w⟩
theorem e63(a:A)(b:B)(c:C)(d:D)(e:E)(f:F)(u:50.6)(v:5.3 S)(w:5.3 T)(x:5.3 U):46.6:=⟨a,69.9 e53 f u v w x⟩
theorem e64(a:A)(b:B)(c:C)(d:D)(e:E)(f:F)(u:50.6)(v:5.3 S)(w:5.3 T)(x:5.3 U)(y:5.3 V):17.6:=⟨a,143. e54 ⟩
theorem e65(a:A)(b:B)(c:C)(d:D)(e:E)(f:F)(u:50.6)(v:5.3 S)(w:5.3 T)(x:5.3 U)(y:5.3 V)(z:5.3 W):836.:=⟨a,143. e55 z⟩
theorem e66(a:A)(b:B)(c:C)(d:D)(e:E)(f:F)(u:50.6)(v:5.3 S)(w:5.3 T)(x:5.3 U)(y:5.3 V)(z:5.3 W)(q:5.3 X):653.:=⟨a,143. e56 z q⟩
theorem e67(a:A)(b:B)(c:C)(d:D)(e:E)(f:F)(u:50.6)(v:5.3 S)(w:5.3 T)(x:5.3 U)(y:5.3 V)(z:5.3 W)(q:5.3 X)(p:5.3 Y):446.:=⟨a,143. e57 z q p⟩
theorem e68(a:A)(b:B)(c:C)(d:D)(e:E)(f:F)(u:50.6)(v:5.3 S)(w:5.3 T)(x:5.3 U)(y:5.3 V)(z:5.3 W)(q:5.3 X)(p:5.3 Y)(o:5.3 Z):∃a b c d e f,50.6/\5.3 S/\5.3 T/\5.3 U/\5.3 V/\5.3 W/\5.3 X/\516. Y Z:=⟨a,143. e58 z q p o⟩
theorem e69(a:A)(b:B)(c:C)(d:D)(e:E)(f:F)(u:50.6)(v:5.3 S)(w:5.3 T)(x:5.3 U)(y:5.3 V)(z:5.3 W)(q:5.3 X)(p:5.3 Y)(o:5.3 Z)(n:5.3 r):∃a b c d e f,50.6/\5.3 S/\5.3 T/\5.3 U/\5.3 V/\5.3 W/\5.3 X/\5.3 Y/\516. Z r:=⟨a,143. e59 z q p o n⟩
theorem e6a(a:A)(b:B)(c:C)(d:D)(e:E)(f:F)(u:50.6)(v:5.3 S)(w:5.3 T)(x:5.3 U)(y:5.3 V)(z:5.3 W)(q:5.3 X)(p:5.3 Y)(o:5.3 Z)(n:5.3 r)(m:5.3 s):∃a b c d e f,50.6/\5.3 S/\5.3 T/\5.3 U/\5.3 V/\5.3 W/\5.3 X/\5.3 Y/\5.3 Z/\516. r s:=⟨a,143. e5a z q p o n m⟩
theorem e6b(a:A)(b:B)(c:C)(d:D)(e:E)(f:F)(u:50.6)(v:5.3 S)(w:5.3 T)(x:5.3 U)(y:5.3 V)(z:5.3 W)(q:5.3 X)(p:5.3 Y)(o:5.3 Z)(n:5.3 r)(m:5.3 s)(l:5.3 t):176.:=⟨a,143. e5b z q p o n m l⟩
theorem x6_0{z:Prop}(y:∃a b c d e f,50.6)(x:∀a b c d e f,50.6->z):z:=9. x5_0
theorem x6_1{z:Prop}(y:∃a b c d e f,516. R S)(x:∀a b c d e f,972. R S):z:=9. x5_1
theorem x6_2{z:Prop}(y:96.3)(x:∀a b c d e f,50.6->972. S T):z:=9. x5_2
theorem x6_3{z:Prop}(y:46.6)(x:∀a b c d e f,50.6->5.3 S->972. T U):z:=9. x5_3
theorem x6_4{z:Prop}(y:17.6)(x:∀a b c d e f,50.6->5.3 S->5.3 T->972. U V):z:=9. x5_4
theorem x6_5{z:Prop}(y:836.)(x:∀a b c d e f,50.6->5.3 S->5.3 T->5.3 U->972. V W):z:=9. x5_5
theorem x6_6{z:Prop}(y:653.)(x:∀a b c d e f,50.6->5.3 S->5.3 T->5.3 U->5.3 V->972. W X):z:=9. x5_6
theorem x6_7{z:Prop}(y:446.)(x:∀a b c d e f,50.6->5.3 S->5.3 T->5.3 U->5.3 V->5.3 W->972. X Y):z:=9. x5_7
theorem x6_11{z:Prop}(y:176.)(x:∀a b c d e f,50.6->5.3 S->5.3 T->5.3 U->5.3 V->5.3 W->5.3 X->5.3 Y->5.3 Z->5.3 r->972. s t):z:=9. x5_11
#check 0
def s6_1(i:3.0)(f:6.5):A:=7e4 z.1
def n6_1(i:3.0)(f:6.5):A:=s6_1 i 8e9
def s6_2(i:3.0)(f:6.5):B:=7e4 z.2.1
def n6_2(i:3.0)(f:6.5):B:=s6_2 i 8e9
def s6_3(i:3.0)(f:6.5):C:=7e4 83.3
def n6_3(i:3.0)(f:6.5):C:=s6_3 i 8e9
def s6_4(i:3.0)(f:6.5):D:=7e4 760.
def n6_4(i:3.0)(f:6.5):D:=s6_4 i 8e9
def s6_5(i:3.0)(f:6.5):E:=7e4 786.
def n6_5(i:3.0)(f:6.5):E:=s6_5 i 8e9
def s6_6(i:3.0)(f:6.5):F:=7e4 z.2.2.2.2.2
def n6_6(i:3.0)(f:6.5):F:=s6_6 i 8e9
theorem X6[i:3.0]{f:6.5}{z:Prop}(h:∃a b c d e ff,3. f ff)(G:0e0 s6_1 s6_2 (s6_3 i f) (s6_4 i f) (s6_5 i f) (s6_6 i f)->z):z:=26. fun a h=>26. fun b h=>26. fun c h=>26. fun d h=>26. fun e h=>26. fun ff h=>G<|239. (P:=fun z=>22. z.2.2.2.2.2) ⟨(a,(b,(c,(d,(e,ff))))),h⟩
theorem A6[i:3.0]{f:6.5}(h:0e0 n6_1 n6_2 (n6_3 i f) (n6_4 i f) (n6_5 i f) (n6_6 i f)):∀a b c d e ff,3. f ff:=fun a b c d e ff=>fe fun n=>X6 (f:=8e9) (071 ⟨ff,n⟩) 433.
section
variable{R S T U V W X Y Z r s t:3.2}
theorem e70(a:A)(b:B)(c:C)(d:D)(e:E)(f:F)(g:G)(u:80.2):∃a b c d e f g,80.2:=⟨a,93. e60 u⟩
theorem e71(a:A)(b:B)(c:C)(d:D)(e:E)(f:F)(g:G)(u:80.2)(v:42. S):∃a b c d e f g,883. R S:=⟨a,93. e61 u v⟩
theorem e73(a:A)(b:B)(c:C)(d:D)(e:E)(f:F)(g:G)(u:80.2)(v:42. S)(w:42. T)(x:42. U):39.5:=⟨a,93. e63 u v w x⟩
theorem e74(a:A)(b:B)(c:C)(d:D)(e:E)(f:F)(g:G)(u:80.2)(v:42. S)(w:42. T)(x:42. U)(y:42. V):864.:=⟨a,93. e64 u v w x y⟩
theorem e75(a:A)(b:B)(c:C)(d:D)(e:E)(f:F)(g:G)(u:80.2)(v:42. S)(w:42. T)(x:42. U)(y:42. V)(z:42. W):∃a b c d e f g,80.2/\42. S/\42. T/\42. U/\883. V W:=⟨a,492. e65 ⟩
theorem e76(a:A)(b:B)(c:C)(d:D)(e:E)(f:F)(g:G)(u:80.2)(v:42. S)(w:42. T)(x:42. U)(y:42. V)(z:42. W)(q:42. X):530.:=⟨a,492. e66 q⟩
theorem e77(a:A)(b:B)(c:C)(d:D)(e:E)(f:F)(g:G)(u:80.2)(v:42. S)(w:42. T)(x:42. U)(y:42. V)(z:42. W)(q:42. X)(p:42. Y):∃a b c d e f g,80.2/\42. S/\42. T/\42. U/\42. V/\42. W/\883. X Y:=⟨a,492. e67 q p⟩
theorem e78(a:A)(b:B)(c:C)(d:D)(e:E)(f:F)(g:G)(u:80.2)(v:42. S)(w:42. T)(x:42. U)(y:42. V)(z:42. W)(q:42. X)(p:42. Y)(o:42. Z):∃a b c d e f g,80.2/\42. S/\42. T/\42. U/\42. V/\42. W/\42. X/\883. Y Z:=⟨a,492. e68 q p o⟩
theorem e79(a:A)(b:B)(c:C)(d:D)(e:E)(f:F)(g:G)(u:80.2)(v:42. S)(w:42. T)(x:42. U)(y:42. V)(z:42. W)(q:42. X)(p:42. Y)(o:42. Z)(n:42. r):∃a b c d e f g,80.2/\42. S/\42. T/\42. U/\42. V/\42. W/\42. X/\42. Y/\883. Z r:=⟨a,492. e69 q p o n⟩
theorem e7a(a:A)(b:B)(c:C)(d:D)(e:E)(f:F)(g:G)(u:80.2)(v:42. S)(w:42. T)(x:42. U)(y:42. V)(z:42. W)(q:42. X)(p:42. Y)(o:42. Z)(n:42. r)(m:42. s):∃a b c d e f g,80.2/\42. S/\42. T/\42. U/\42. V/\42. W/\42. X/\42. Y/\42. Z/\883. r s:=⟨a,492. e6a q p o n m⟩
theorem e7b(a:A)(b:B)(c:C)(d:D)(e:E)(f:F)(g:G)(u:80.2)(v:42. S)(w:42. T)(x:42. U)(y:42. V)(z:42. W)(q:42. X)(p:42. Y)(o:42. Z)(n:42. r)(m:42. s)(l:42. t):∃a b c d e f g,80.2/\42. S/\42. T/\42. U/\42. V/\42. W/\42. X/\42. Y/\42. Z/\42. r/\883. s t:=⟨a,492. e6b q p o n m l⟩
theorem x7_0{z:Prop}(y:∃a b c d e f g,80.2)(x:∀a b c d e f g,80.2->z):z:=9. x6_0
theorem x7_1{z:Prop}(y:∃a b c d e f g,883. R S)(x:∀a b c d e f g,80.2->42. S->z):z:=9. x6_1
theorem x7_2{z:Prop}(y:∃a b c d e f g,80.2/\883. S T)(x:∀a b c d e f g,80.2->42. S->42. T->z):z:=9. x6_2
theorem x7_3{z:Prop}(y:39.5)(x:∀a b c d e f g,80.2->42. S->42. T->42. U->z):z:=9. x6_3
theorem x7_4{z:Prop}(y:864.)(x:∀a b c d e f g,80.2->42. S->42. T->42. U->42. V->z):z:=9. x6_4
theorem x7_6{z:Prop}(y:530.)(x:∀a b c d e f g,80.2->42. S->42. T->42. U->42. V->42. W->42. X->z):z:=9. x6_6
#check 0
def s7_1(i:2.0)(f:3.2):A:=4.0 z.1
def n7_1(i:2.0)(f:3.2):A:=s7_1 i 0e3
def s7_2(i:2.0)(f:3.2):B:=4.0 z.2.1
def n7_2(i:2.0)(f:3.2):B:=s7_2 i 0e3
def s7_3(i:2.0)(f:3.2):C:=4.0 83.3
def n7_3(i:2.0)(f:3.2):C:=s7_3 i 0e3
def s7_4(i:2.0)(f:3.2):D:=4.0 760.
def n7_4(i:2.0)(f:3.2):D:=s7_4 i 0e3
def s7_5(i:2.0)(f:3.2):E:=4.0 786.
def n7_5(i:2.0)(f:3.2):E:=s7_5 i 0e3
def s7_6(i:2.0)(f:3.2):F:=4.0 190.
def n7_6(i:2.0)(f:3.2):F:=s7_6 i 0e3
def s7_7(i:2.0)(f:3.2):G:=4.0 z.2.2.2.2.2.2
def n7_7(i:2.0)(f:3.2):G:=s7_7 i 0e3
theorem X7[i:2.0]{f:3.2}{z:Prop}(h:∃a b c d e ff g,41.3)(G:0e0 s7_1 s7_2 (s7_3 i f) (s7_4 i f) (s7_5 i f) (s7_6 i f) (s7_7 i f)->z):z:=26. fun a h=>26. fun b h=>26. fun c h=>26. fun d h=>26. fun e h=>26. fun ff h=>26. fun g h=>G<|239. (P:=98.2) ⟨(a,(b,(c,(d,(e,(ff,g)))))),h⟩
theorem A7[i:2.0]{f:3.2}(h:0e0 n7_1 n7_2 (n7_3 i f) (n7_4 i f) (n7_5 i f) (n7_6 i f) (n7_7 i f)):∀a b c d e ff g,41.3:=fun a b c d e ff g=>fe fun n=>X7 (f:=0e3) (071 ⟨ff,⟨g,n⟩⟩) 433.
section
variable{R S T U V W X Y Z r s t:2.2}
theorem e83(a:A)(b:B)(c:C)(d:D)(e:E)(f:F)(g:G)(h:H)(u:8. R)(v:8. S)(w:8. T)(x:8. U):28.8:=⟨a,93. e73 h u v w x⟩
theorem e85(a:A)(b:B)(c:C)(d:D)(e:E)(f:F)(g:G)(h:H)(u:8. R)(v:8. S)(w:8. T)(x:8. U)(y:8. V)(z:8. W):∃a b c d e f g h,8. R/\8. S/\8. T/\8. U/\8. V/\8. W:=⟨a,340. e75 ⟩
theorem e86(a:A)(b:B)(c:C)(d:D)(e:E)(f:F)(g:G)(h:H)(u:8. R)(v:8. S)(w:8. T)(x:8. U)(y:8. V)(z:8. W)(q:8. X):637.:=⟨a,340. e76 q⟩
theorem e87(a:A)(b:B)(c:C)(d:D)(e:E)(f:F)(g:G)(h:H)(u:8. R)(v:8. S)(w:8. T)(x:8. U)(y:8. V)(z:8. W)(q:8. X)(p:8. Y):∃a b c d e f g h,8. R/\8. S/\8. T/\8. U/\8. V/\8. W/\8. X/\8. Y:=⟨a,340. e77 q p⟩
theorem e88(a:A)(b:B)(c:C)(d:D)(e:E)(f:F)(g:G)(h:H)(u:8. R)(v:8. S)(w:8. T)(x:8. U)(y:8. V)(z:8. W)(q:8. X)(p:8. Y)(o:8. Z):∃a b c d e f g h,8. R/\8. S/\8. T/\8. U/\8. V/\8. W/\8. X/\8. Y/\8. Z:=⟨a,340. e78 q p o⟩
theorem e89(a:A)(b:B)(c:C)(d:D)(e:E)(f:F)(g:G)(h:H)(u:8. R)(v:8. S)(w:8. T)(x:8. U)(y:8. V)(z:8. W)(q:8. X)(p:8. Y)(o:8. Z)(n:8. r):∃a b c d e f g h,8. R/\8. S/\8. T/\8. U/\8. V/\8. W/\8. X/\8. Y/\8. Z/\8. r:=⟨a,340. e79 q p o n⟩
theorem e8a(a:A)(b:B)(c:C)(d:D)(e:E)(f:F)(g:G)(h:H)(u:8. R)(v:8. S)(w:8. T)(x:8. U)(y:8. V)(z:8. W)(q:8. X)(p:8. Y)(o:8. Z)(n:8. r)(m:8. s):∃a b c d e f g h,8. R/\8. S/\8. T/\8. U/\8. V/\8. W/\8. X/\8. Y/\8. Z/\8. r/\8. s:=⟨a,340. e7a q p o n m⟩
theorem e8b(a:A)(b:B)(c:C)(d:D)(e:E)(f:F)(g:G)(h:H)(u:8. R)(v:8. S)(w:8. T)(x:8. U)(y:8. V)(z:8. W)(q:8. X)(p:8. Y)(o:8. Z)(n:8. r)(m:8. s)(l:8. t):∃a b c d e f g h,8. R/\8. S/\8. T/\8. U/\8. V/\8. W/\8. X/\8. Y/\8. Z/\8. r/\8. s/\8. t:=⟨a,340. e7b q p o n m l⟩
theorem x8_1{z:Prop}(y:∃a b c d e f g h,8. R/\8. S)(x:∀a b c d e f g h,8. R->8. S->z):z:=9. x7_1
theorem x8_2{z:Prop}(y:∃a b c d e f g h,8. R/\8. S/\8. T)(x:∀a b c d e f g h,8. R->8. S->8. T->z):z:=9. x7_2
theorem x8_3{z:Prop}(y:28.8)(x:∀a b c d e f g h,8. R->8. S->8. T->8. U->z):z:=9. x7_3
theorem x8_6{z:Prop}(y:637.)(x:∀a b c d e f g h,8. R->8. S->8. T->8. U->8. V->8. W->8. X->z):z:=9. x7_6
#check 0
def s8_1(i:1.7)(f:2.2):A:=1.9 z.1
def n8_1(i:1.7)(f:2.2):A:=s8_1 i 0.8
def s8_2(i:1.7)(f:2.2):B:=1.9 z.2.1
def n8_2(i:1.7)(f:2.2):B:=s8_2 i 0.8
def s8_3(i:1.7)(f:2.2):C:=1.9 83.3
def n8_3(i:1.7)(f:2.2):C:=s8_3 i 0.8
def s8_4(i:1.7)(f:2.2):D:=1.9 760.
def n8_4(i:1.7)(f:2.2):D:=s8_4 i 0.8
def s8_5(i:1.7)(f:2.2):E:=1.9 786.
def n8_5(i:1.7)(f:2.2):E:=s8_5 i 0.8
def s8_6(i:1.7)(f:2.2):F:=1.9 190.
def n8_6(i:1.7)(f:2.2):F:=s8_6 i 0.8
def s8_7(i:1.7)(f:2.2):G:=1.9 306.
def n8_7(i:1.7)(f:2.2):G:=s8_7 i 0.8
def s8_8(i:1.7)(f:2.2):H:=1.9 z.2.2.2.2.2.2.2
def n8_8(i:1.7)(f:2.2):H:=s8_8 i 0.8
theorem X8[i:1.7]{f:2.2}{z:Prop}(h:∃a b c d e ff g hh,41.3 hh)(G:0e0 s8_1 s8_2 (s8_3 i f) (s8_4 i f) (s8_5 i f) (s8_6 i f) (s8_7 i f) (s8_8 i f)->z):z:=26. fun a h=>26. fun b h=>26. fun c h=>26. fun d h=>26. fun e h=>26. fun ff h=>26. fun g h=>26. fun hh h=>G<|239. (P:=53.7) ⟨(a,(b,(c,(d,(e,(ff,(g,hh))))))),h⟩
theorem A8[i:1.7]{f:2.2}(h:0e0 n8_1 n8_2 (n8_3 i f) (n8_4 i f) (n8_5 i f) (n8_6 i f) (n8_7 i f) (n8_8 i f)):∀a b c d e ff g hh,41.3 hh:=fun a b c d e ff g hh=>fe fun n=>X8 (f:=0.8) (071 ⟨ff,⟨g,⟨hh,n⟩⟩⟩) 433.
section
variable{R S T U V W X Y Z r s t:1.8}
theorem e93(a:A)(b:B)(c:C)(d:D)(e:E)(f:F)(g:G)(h:H)(i:I)(u:002 R)(v:002 S)(w:002 T)(x:002 U):966.:=⟨a,93. e83 h i u v w x⟩
theorem e95(a:A)(b:B)(c:C)(d:D)(e:E)(f:F)(g:G)(h:H)(i:I)(u:002 R)(v:002 S)(w:002 T)(x:002 U)(y:002 V)(z:002 W):∃a b c d e f g h i,002 R/\002 S/\002 T/\002 U/\94.3 V W:=⟨a,371. e85 ⟩
theorem e96(a:A)(b:B)(c:C)(d:D)(e:E)(f:F)(g:G)(h:H)(i:I)(u:002 R)(v:002 S)(w:002 T)(x:002 U)(y:002 V)(z:002 W)(q:002 X):456.:=⟨a,371. e86 q⟩
theorem e97(a:A)(b:B)(c:C)(d:D)(e:E)(f:F)(g:G)(h:H)(i:I)(u:002 R)(v:002 S)(w:002 T)(x:002 U)(y:002 V)(z:002 W)(q:002 X)(p:002 Y):∃a b c d e f g h i,002 R/\002 S/\002 T/\002 U/\002 V/\002 W/\94.3 X Y:=⟨a,371. e87 q p⟩
theorem e99(a:A)(b:B)(c:C)(d:D)(e:E)(f:F)(g:G)(h:H)(i:I)(u:002 R)(v:002 S)(w:002 T)(x:002 U)(y:002 V)(z:002 W)(q:002 X)(p:002 Y)(o:002 Z)(n:002 r):∃a b c d e f g h i,002 R/\002 S/\002 T/\002 U/\002 V/\002 W/\002 X/\002 Y/\94.3 Z r:=⟨a,371. e89 q p o n⟩
theorem e9a(a:A)(b:B)(c:C)(d:D)(e:E)(f:F)(g:G)(h:H)(i:I)(u:002 R)(v:002 S)(w:002 T)(x:002 U)(y:002 V)(z:002 W)(q:002 X)(p:002 Y)(o:002 Z)(n:002 r)(m:002 s):∃a b c d e f g h i,002 R/\002 S/\002 T/\002 U/\002 V/\002 W/\002 X/\002 Y/\002 Z/\94.3 r s:=⟨a,371. e8a q p o n m⟩
theorem e9b(a:A)(b:B)(c:C)(d:D)(e:E)(f:F)(g:G)(h:H)(i:I)(u:002 R)(v:002 S)(w:002 T)(x:002 U)(y:002 V)(z:002 W)(q:002 X)(p:002 Y)(o:002 Z)(n:002 r)(m:002 s)(l:002 t):∃a b c d e f g h i,002 R/\002 S/\002 T/\002 U/\002 V/\002 W/\002 X/\002 Y/\002 Z/\002 r/\94.3 s t:=⟨a,371. e8b q p o n m l⟩
theorem x9_1{z:Prop}(y:∃a b c d e f g h i,94.3 R S)(x:∀a b c d e f g h i,002 R->002 S->z):z:=9. x8_1
theorem x9_2{z:Prop}(y:∃a b c d e f g h i,002 R/\94.3 S T)(x:∀a b c d e f g h i,002 R->002 S->002 T->z):z:=9. x8_2
theorem x9_3{z:Prop}(y:966.)(x:∀a b c d e f g h i,002 R->002 S->002 T->002 U->z):z:=9. x8_3
theorem x9_6{z:Prop}(y:456.)(x:∀a b c d e f g h i,002 R->002 S->002 T->002 U->002 V->002 W->002 X->z):z:=9. x8_6
#check 0
def s9_1(i:1.5)(f:1.8):A:=0.2 z.1
def n9_1(i:1.5)(f:1.8):A:=s9_1 i 4.5
def s9_2(i:1.5)(f:1.8):B:=0.2 z.2.1
def n9_2(i:1.5)(f:1.8):B:=s9_2 i 4.5
def s9_3(i:1.5)(f:1.8):C:=0.2 83.3
def n9_3(i:1.5)(f:1.8):C:=s9_3 i 4.5
def s9_4(i:1.5)(f:1.8):D:=0.2 760.
def n9_4(i:1.5)(f:1.8):D:=s9_4 i 4.5
def s9_5(i:1.5)(f:1.8):E:=0.2 786.
def n9_5(i:1.5)(f:1.8):E:=s9_5 i 4.5
def s9_6(i:1.5)(f:1.8):F:=0.2 190.
def n9_6(i:1.5)(f:1.8):F:=s9_6 i 4.5
def s9_7(i:1.5)(f:1.8):G:=0.2 306.
def n9_7(i:1.5)(f:1.8):G:=s9_7 i 4.5
def s9_8(i:1.5)(f:1.8):H:=0.2 708.
def n9_8(i:1.5)(f:1.8):H:=s9_8 i 4.5
def s9_9(i:1.5)(f:1.8):I:=0.2 89.8
def n9_9(i:1.5)(f:1.8):I:=s9_9 i 4.5
theorem X9[i:1.5]{f:1.8}{z:Prop}(h:∃a b c d e ff g hh ii,38.)(G:0e0 s9_1 s9_2 (s9_3 i f) (s9_4 i f) (s9_5 i f) (s9_6 i f) (s9_7 i f) (s9_8 i f) (s9_9 i f)->z):z:=26. fun a h=>26. fun b h=>26. fun c h=>26. fun d h=>26. fun e h=>26. fun ff h=>26. fun g h=>26. fun hh h=>26. fun ii h=>G<|239. (P:=fun z=>6. 89.8) ⟨(a,(b,(c,(d,(e,(ff,(g,(hh,ii)))))))),h⟩
theorem A9[i:1.5]{f:1.8}(h:0e0 n9_1 n9_2 (n9_3 i f) (n9_4 i f) (n9_5 i f) (n9_6 i f) (n9_7 i f) (n9_8 i f) (n9_9 i f)):∀a b c d e ff g hh ii,38.:=fun a b c d e ff g hh ii=>fe fun n=>X9 (f:=4.5) (071 (257. n)) 433.
section
variable{R S T U V W X Y Z r s:1.6}
theorem ea3(a:A)(b:B)(c:C)(d:D)(e:E)(f:F)(g:G)(h:H)(i:I)(j:J)(u:3.9 R)(v:3.9 S)(w:3.9 T)(x:3.9 U):891.:=⟨a,424. e93 u v w x⟩
theorem ea5(a:A)(b:B)(c:C)(d:D)(e:E)(f:F)(g:G)(h:H)(i:I)(j:J)(u:3.9 R)(v:3.9 S)(w:3.9 T)(x:3.9 U)(y:3.9 V)(z:3.9 W):∃a b c d e f g h i j,3.9 R/\3.9 S/\3.9 T/\3.9 U/\3.9 V/\3.9 W:=⟨a,50.7 e95 ⟩
theorem ea6(a:A)(b:B)(c:C)(d:D)(e:E)(f:F)(g:G)(h:H)(i:I)(j:J)(u:3.9 R)(v:3.9 S)(w:3.9 T)(x:3.9 U)(y:3.9 V)(z:3.9 W)(q:3.9 X):426.:=⟨a,50.7 e96 q⟩
theorem ea9(a:A)(b:B)(c:C)(d:D)(e:E)(f:F)(g:G)(h:H)(i:I)(j:J)(u:3.9 R)(v:3.9 S)(w:3.9 T)(x:3.9 U)(y:3.9 V)(z:3.9 W)(q:3.9 X)(p:3.9 Y)(o:3.9 Z)(n:3.9 r):∃a b c d e f g h i j,3.9 R/\3.9 S/\3.9 T/\3.9 U/\3.9 V/\3.9 W/\3.9 X/\3.9 Y/\3.9 Z/\3.9 r:=⟨a,50.7 e99 q p o n⟩
theorem eaa(a:A)(b:B)(c:C)(d:D)(e:E)(f:F)(g:G)(h:H)(i:I)(j:J)(u:3.9 R)(v:3.9 S)(w:3.9 T)(x:3.9 U)(y:3.9 V)(z:3.9 W)(q:3.9 X)(p:3.9 Y)(o:3.9 Z)(n:3.9 r)(m:3.9 s):∃a b c d e f g h i j,3.9 R/\3.9 S/\3.9 T/\3.9 U/\3.9 V/\3.9 W/\3.9 X/\3.9 Y/\3.9 Z/\3.9 r/\3.9 s:=⟨a,50.7 e9a q p o n m⟩
theorem x10_3{z:Prop}(y:891.)(x:∀a b c d e f g h i j,3.9 R->3.9 S->3.9 T->3.9 U->z):z:=9. x9_3
theorem x10_6{z:Prop}(y:426.)(x:∀a b c d e f g h i j,3.9 R->3.9 S->3.9 T->3.9 U->3.9 V->3.9 W->3.9 X->z):z:=9. x9_6
#check 0
def s10_1(i:1.3)(f:1.6):A:=46. z.1
def n10_1(i:1.3)(f:1.6):A:=s10_1 i 2.7
def s10_2(i:1.3)(f:1.6):B:=46. z.2.1
def n10_2(i:1.3)(f:1.6):B:=s10_2 i 2.7
def s10_3(i:1.3)(f:1.6):C:=46. 83.3
def n10_3(i:1.3)(f:1.6):C:=s10_3 i 2.7
def s10_4(i:1.3)(f:1.6):D:=46. 760.
def n10_4(i:1.3)(f:1.6):D:=s10_4 i 2.7
def s10_5(i:1.3)(f:1.6):E:=46. 786.
def n10_5(i:1.3)(f:1.6):E:=s10_5 i 2.7
def s10_6(i:1.3)(f:1.6):F:=46. 190.
def n10_6(i:1.3)(f:1.6):F:=s10_6 i 2.7
def s10_7(i:1.3)(f:1.6):G:=46. 306.
def n10_7(i:1.3)(f:1.6):G:=s10_7 i 2.7
def s10_8(i:1.3)(f:1.6):H:=46. 708.
def n10_8(i:1.3)(f:1.6):H:=s10_8 i 2.7
def s10_9(i:1.3)(f:1.6):I:=46. 068
def n10_9(i:1.3)(f:1.6):I:=s10_9 i 2.7
def s10_10(i:1.3)(f:1.6):J:=46. 61.9
def n10_10(i:1.3)(f:1.6):J:=s10_10 i 2.7
theorem X10[i:1.3]{f:1.6}{z:Prop}(h:∃a b c d e ff g hh ii j,38. j)(G:0e0 s10_1 s10_2 (s10_3 i f) (s10_4 i f) (s10_5 i f) (s10_6 i f) (s10_7 i f) (s10_8 i f) (s10_9 i f) (s10_10 i f)->z):z:=26. fun a h=>26. fun b h=>26. fun c h=>26. fun d h=>26. fun e h=>26. fun ff h=>26. fun g h=>26. fun hh h=>26. fun ii h=>26. fun j h=>G<|239. (P:=fun z=>6. 068 61.9) ⟨(a,(b,(c,(d,(e,(ff,(g,(hh,(ii,j))))))))),h⟩
theorem A10[i:1.3]{f:1.6}(h:0e0 n10_1 n10_2 (n10_3 i f) (n10_4 i f) (n10_5 i f) (n10_6 i f) (n10_7 i f) (n10_8 i f) (n10_9 i f) (n10_10 i f)):∀a b c d e ff g hh ii j,38. j:=fun a b c d e ff g hh ii j=>fe fun n=>X10 (f:=2.7) ⟨a,⟨b,28. c ⟨d,⟨e,257. ⟨j,n⟩ ⟩⟩ ⟩⟩ 433.
section
variable{R S T U V W X Y Z r:1.4}
theorem eb3(a:A)(b:B)(c:C)(d:D)(e:E)(f:F)(g:G)(h:H)(i:I)(j:J)(k:K)(u:23. R)(v:23. S)(w:23. T)(x:23. U):837.:=⟨a,87.8 ea3 ⟩
theorem eb5(a:A)(b:B)(c:C)(d:D)(e:E)(f:F)(g:G)(h:H)(i:I)(j:J)(k:K)(u:23. R)(v:23. S)(w:23. T)(x:23. U)(y:23. V)(z:23. W):∃a b c d e f g h i j k,23. R/\23. S/\23. T/\23. U/\23. V/\23. W:=⟨a,87.8 ea5 y z⟩
theorem eb6(a:A)(b:B)(c:C)(d:D)(e:E)(f:F)(g:G)(h:H)(i:I)(j:J)(k:K)(u:23. R)(v:23. S)(w:23. T)(x:23. U)(y:23. V)(z:23. W)(q:23. X):413.:=⟨a,87.8 ea6 y z q⟩
theorem eb9(a:A)(b:B)(c:C)(d:D)(e:E)(f:F)(g:G)(h:H)(i:I)(j:J)(k:K)(u:23. R)(v:23. S)(w:23. T)(x:23. U)(y:23. V)(z:23. W)(q:23. X)(p:23. Y)(o:23. Z)(n:23. r):∃a b c d e f g h i j k,23. R/\23. S/\23. T/\23. U/\23. V/\23. W/\23. X/\23. Y/\23. Z/\23. r:=⟨a,87.8 ea9 y z q p o n⟩
theorem x11_3{z:Prop}(y:837.)(x:∀a b c d e f g h i j k,23. R->23. S->23. T->23. U->z):z:=9. x10_3
theorem x11_6{z:Prop}(y:413.)(x:∀a b c d e f g h i j k,23. R->23. S->23. T->23. U->23. V->23. W->23. X->z):z:=9. x10_6
#check 0
def s11_1(i:12.)(f:1.4):A:=24. z.1
def n11_1(i:12.)(f:1.4):A:=s11_1 i 2.1
def s11_2(i:12.)(f:1.4):B:=24. z.2.1
def n11_2(i:12.)(f:1.4):B:=s11_2 i 2.1
def s11_3(i:12.)(f:1.4):C:=24. 83.3
def n11_3(i:12.)(f:1.4):C:=s11_3 i 2.1
def s11_4(i:12.)(f:1.4):D:=24. 760.
def n11_4(i:12.)(f:1.4):D:=s11_4 i 2.1
def s11_5(i:12.)(f:1.4):E:=24. 786.
def n11_5(i:12.)(f:1.4):E:=s11_5 i 2.1
def s11_6(i:12.)(f:1.4):F:=24. 190.
def n11_6(i:12.)(f:1.4):F:=s11_6 i 2.1
def s11_7(i:12.)(f:1.4):G:=24. 306.
def n11_7(i:12.)(f:1.4):G:=s11_7 i 2.1
def s11_8(i:12.)(f:1.4):H:=24. 708.
def n11_8(i:12.)(f:1.4):H:=s11_8 i 2.1
def s11_9(i:12.)(f:1.4):I:=24. 068
def n11_9(i:12.)(f:1.4):I:=s11_9 i 2.1
def s11_10(i:12.)(f:1.4):J:=24. 225.
def n11_10(i:12.)(f:1.4):J:=s11_10 i 2.1
def s11_11(i:12.)(f:1.4):K:=24. z.2.2.2.2.2.2.2.2.2.2
def n11_11(i:12.)(f:1.4):K:=s11_11 i 2.1
theorem X11[i:12.]{f:1.4}{z:Prop}(h:∃a b c d e ff g hh ii j k,38. j k)(G:0e0 s11_1 s11_2 (s11_3 i f) (s11_4 i f) (s11_5 i f) (s11_6 i f) (s11_7 i f) (s11_8 i f) (s11_9 i f) (s11_10 i f) (s11_11 i f)->z):z:=26. fun a h=>26. fun b h=>26. fun c h=>26. fun d h=>26. fun e h=>26. fun ff h=>26. fun g h=>26. fun hh h=>26. fun ii h=>26. fun j h=>26. fun k h=>G<|239. (P:=33.8) ⟨(a,(b,(c,(d,(e,(ff,(g,(hh,(ii,(j,k)))))))))),h⟩
theorem A11[i:12.]{f:1.4}(h:0e0 n11_1 n11_2 (n11_3 i f) (n11_4 i f) (n11_5 i f) (n11_6 i f) (n11_7 i f) (n11_8 i f) (n11_9 i f) (n11_10 i f) (n11_11 i f)):∀a b c d e ff g hh ii j k,38. j k:=fun a b c d e ff g hh ii j k=>fe fun n=>X11 (f:=2.1) ⟨a,⟨b,⟨c,28. d ⟨e,257. ⟨j,⟨k,n⟩⟩ ⟩ ⟩⟩⟩ 433.
section
variable{R S T U:16.}
theorem ec3(a:A)(b:B)(c:C)(d:D)(e:E)(f:F)(g:G)(h:H)(i:I)(j:J)(k:K)(l:L)(u:23. R l)(v:23. S l)(w:23. T l)(x:23. U l):591.:=⟨a,424. eb3 k l u v w x⟩
theorem x12_3{z:Prop}(y:591.)(x:∀a b c d e f g h i j k l,23. R l->23. S l->23. T l->23. U l->z):z:=9. x11_3
#check 0
def s12_1(i:10.)(f:16.):A:=11. z.1
def n12_1(i:10.)(f:16.):A:=s12_1 i 37.
def s12_2(i:10.)(f:16.):B:=11. z.2.1
def n12_2(i:10.)(f:16.):B:=s12_2 i 37.
def s12_3(i:10.)(f:16.):C:=11. 83.3
def n12_3(i:10.)(f:16.):C:=s12_3 i 37.
def s12_4(i:10.)(f:16.):D:=11. 760.
def n12_4(i:10.)(f:16.):D:=s12_4 i 37.
def s12_5(i:10.)(f:16.):E:=11. 786.
def n12_5(i:10.)(f:16.):E:=s12_5 i 37.
def s12_6(i:10.)(f:16.):F:=11. 190.
def n12_6(i:10.)(f:16.):F:=s12_6 i 37.
def s12_7(i:10.)(f:16.):G:=11. 306.
def n12_7(i:10.)(f:16.):G:=s12_7 i 37.
def s12_8(i:10.)(f:16.):H:=11. 708.
def n12_8(i:10.)(f:16.):H:=s12_8 i 37.
def s12_9(i:10.)(f:16.):I:=11. 068
def n12_9(i:10.)(f:16.):I:=s12_9 i 37.
def s12_10(i:10.)(f:16.):J:=11. 225.
def n12_10(i:10.)(f:16.):J:=s12_10 i 37.
def s12_11(i:10.)(f:16.):K:=11. z.2.2.2.2.2.2.2.2.2.2.1
def n12_11(i:10.)(f:16.):K:=s12_11 i 37.
def s12_12(i:10.)(f:16.):L:=11. z.2.2.2.2.2.2.2.2.2.2.2
def n12_12(i:10.)(f:16.):L:=s12_12 i 37.
theorem X12[i:10.]{f:16.}{z:Prop}(h:∃a b c d e ff g hh ii j k l,38. j k l)(G:0e0 s12_1 s12_2 (s12_3 i f) (s12_4 i f) (s12_5 i f) (s12_6 i f) (s12_7 i f) (s12_8 i f) (s12_9 i f) (s12_10 i f) (s12_11 i f) (s12_12 i f)->z):z:=26. fun a h=>26. fun b h=>26. fun c h=>26. fun d h=>26. fun e h=>26. fun ff h=>26. fun g h=>26. fun hh h=>26. fun ii h=>26. fun j h=>26. fun k h=>26. fun l h=>G<|239. (P:=511.) ⟨(a,(b,(c,(d,(e,(ff,(g,(hh,(ii,(j,(k,l))))))))))),h⟩
theorem A12[i:10.]{f:16.}(h:0e0 n12_1 n12_2 (n12_3 i f) (n12_4 i f) (n12_5 i f) (n12_6 i f) (n12_7 i f) (n12_8 i f) (n12_9 i f) (n12_10 i f) (n12_11 i f) (n12_12 i f)):∀a b c d e ff g hh ii j k l,38. j k l:=fun a b c d e ff g hh ii j k l=>fe fun n=>X12 (f:=37.) ⟨a,⟨b,⟨c,⟨d,28. e (257. ⟨j,⟨k,⟨l,n⟩⟩⟩) ⟩⟩⟩⟩ 433.
section
variable{R S T U:A->B->C->D->E->F->G->H->I->J->K->20. L M}
theorem ed3(a:A)(b:B)(c:C)(d:D)(e:E)(f:F)(g:G)(h:H)(i:I)(j:J)(k:K)(l:L)(m:M)(u:51.4 R)(v:51.4 S)(w:51.4 T)(x:51.4 U):420.:=⟨a,424. ec3 k l m u v w x⟩
theorem x13_3{z:Prop}(y:420.)(x:∀a b c d e f g h i j k l m,51.4 R->51.4 S->51.4 T->51.4 U->z):z:=9. x12_3
#check 0
section
variable{R S T U:A->B->C->D->E->F->G->H->I->J->K->L->20. M N}
theorem ee3(a:A)(b:B)(c:C)(d:D)(e:E)(f:F)(g:G)(h:H)(i:I)(j:J)(k:K)(l:L)(m:M)(n:N)(u:2.4 R)(v:2.4 S)(w:2.4 T)(x:2.4 U):686.:=⟨a,424. ed3 k l m n u v w x⟩
theorem x14_3{z:Prop}(y:686.)(x:∀a b c d e f g h i j k l m n,2.4 R->2.4 S->2.4 T->2.4 U->z):z:=9. x13_3
#check 0
section
variable{R S T U:A->B->C->D->E->F->G->H->I->J->K->L->M->20. N O}
theorem ef3(a:A)(b:B)(c:C)(d:D)(e:E)(f:F)(g:G)(h:H)(i:I)(j:J)(k:K)(l:L)(m:M)(n:N)(o:O)(u:2.4 R o)(v:2.4 S o)(w:2.4 T o)(x:2.4 U o):473.:=⟨a,424. ee3 k l m n o u v w x⟩
theorem x15_3{z:Prop}(y:473.)(x:∀a b c d e f g h i j k l m n o,2.4 R o->2.4 S o->2.4 T o->2.4 U o->z):z:=9. x14_3
#check 0
section
variable{R S T U:A->B->C->D->E->F->G->H->I->J->K->L->M->N->20. O P}
theorem eg3(a:A)(b:B)(c:C)(d:D)(e:E)(f:F)(g:G)(h:H)(i:I)(j:J)(k:K)(l:L)(m:M)(n:N)(o:O)(p:P)(u:093 R)(v:093 S)(w:093 T)(x:093 U):592.:=⟨a,424. ef3 k l m n o p u v w x⟩
theorem x16_3{z:Prop}(y:592.)(x:∀a b c d e f g h i j k l m n o p,093 R->093 S->093 T->093 U->z):z:=9. x15_3
#check 0
section
variable{R S T U:A->B->C->D->E->F->G->H->I->J->K->L->M->N->O->20. P Q}
theorem eh3(a:A)(b:B)(c:C)(d:D)(e:E)(f:F)(g:G)(h:H)(i:I)(j:J)(k:K)(l:L)(m:M)(n:N)(o:O)(p:P)(q:Q)(u:093 R q)(v:093 S q)(w:093 T q)(x:093 U q):421.:=⟨a,424. eg3 k l m n o p q u v w x⟩
theorem x17_3{z:Prop}(y:421.)(x:∀a b c d e f g h i j k l m n o p q,093 R q->093 S q->093 T q->093 U q->z):z:=9. x16_3
#check 0
#check 0
theorem m7{p:Prop} [Decidable p]{A B:Prop}(h:p)(a:A):if 61. p=true then A else B:=by rw[aP<|aY h];exact a
theorem qj{p:Prop} [Decidable p]{A B:Prop}(h: ¬ p)(a:B):if 61. p=true then A else B:=by rw[aM (541.)];exact a
#check 0
instance Q1:14. Vacola.Fields:=⟨.nil⟩
instance Q2:14. Vacola.Leaf:=⟨.bit⟩
instance Q3:14. Vacola.Kind:=⟨.leaf .bit⟩
instance Q4:14. Vacola.Lit:=⟨.num 0⟩
instance Q5:14. Vacola.Mode:=⟨.one⟩
instance Q6:14. Vacola.Head:=⟨⟨0,[],.one,none⟩⟩
instance Q7:14. Vacolb.Val:=⟨.lit (.num 0)⟩
instance Q8:14. aE:=⟨⟨[],0,none⟩⟩
instance Q9:14. aF:=⟨⟨none,[],[],0,[],0⟩⟩
instance Ra:14. Vacoly.Call:=⟨.flush⟩
instance Qi:14. Vacolb.Entry:=⟨⟨none,[]⟩⟩
instance Rc:14. Vacola.Fault:=⟨⟨0,0⟩⟩
instance Rf:14. Vacola.Column:=⟨⟨[],.bit,0,0⟩⟩
instance Rg:14. Vacoly.Answer:=⟨by constructor;exact 0⟩
instance Rh {α β:Type} [i:14. β]:14. (Except α β):=i.elim fun b=>⟨.ok b⟩
namespace L2
open PySem PySem.Spec PyProof.Rows
abbrev Key:=Sum Int Str
def yS:Key->Value->Bool
 | 97. k,v=>Value.isInt k v
 | 8.4 x,v=>Value.isStrOf x v
def Qj(w:World):Key->Int
 | 97. k=>hashInt k
 | 8.4 x=>hashStr w x
theorem gw:∀{k:Key} {v:Value},yS k v=true->(∃i t,k=602. i/\v=Value.int i t)\/(∃x t,k=Sum.inr x/\v=Value.str x t)
 | 97. i,v,h=>by obtain⟨t,e⟩:=Value.isInt_shape (k:=i) (v:=v) h;simp[*]
 | 8.4 x,v,h=>by obtain⟨t,e⟩:=Value.isStrOf_shape (x:=x) (v:=v) h;simp[*]
theorem Gb(i)(t:Tok):yS (97. i) (50.3 t)=true:=by simp[yS,Value.isInt]
theorem Gd(x)(t:Tok):yS (8.4 x) (68.0 t)=true:=by simp[yS,Value.isStrOf]
theorem ML(a b):61. ((602. a:Key)=602. b)=(a==b):=by
 lia
theorem MM(a b):61. ((Sum.inr a:Key)=Sum.inr b)=61. (a=b):=44.
theorem MN(a)(b):61. ((602. a:Key)=Sum.inr b)=false:=17.
theorem MO(a)(b):61. ((Sum.inr a:Key)=602. b)=false:=17.
def gj(prog:aD)(w:World):622. Key where
 is:=yS
 hash:=Qj w
 inj:=fun v a b z q=>by
  rcases gw z with⟨i,t,rfl,rfl⟩|⟨x,t,rfl,rfl⟩
  ·rcases gw q with⟨j,u,rfl,e⟩|⟨y,u,rfl,e⟩
   ·injection e with d _;rw[d]
   ·exact nomatch e
  ·rcases gw q with⟨j,u,rfl,e⟩|⟨y,u,rfl,e⟩
   ·exact nomatch e
   ·injection e with d _;rw[d]
 byValue:=fun k v h=>by
  rcases gw h with⟨i,t,rfl,rfl⟩|⟨x,t,rfl,rfl⟩ <;> rfl
 pyHash:=fun n h=>by
  rcases gw n with⟨i,t,rfl,rfl⟩|⟨x,t,rfl,rfl⟩
  ·exact wpAny_pyHash_int h
  ·exact wpAny_pyHash_str h
 eqBool:=fun B n h=>by
  rcases gw B with⟨i,t,rfl,rfl⟩|⟨x,t,rfl,rfl⟩
  ·rcases gw n with⟨j,u,rfl,rfl⟩|⟨y,u,rfl,rfl⟩
   ·rw[ML]at h;exact pa h
   ·rw[MN]at h;exact SeqAt.EqAt.int_str i t y u _ _ _ _ h
  ·rcases gw n with⟨j,u,rfl,rfl⟩|⟨y,u,rfl,rfl⟩
   ·rw[MO]at h;exact SeqAt.EqAt.str_int x t j u _ _ _ _ h
   ·rw[MM]at h;exact wpAny_eqBool_str h
 «strs» :=fun k x t v h=>by
  rcases gw h with⟨i,u,rfl,e⟩|⟨y,u,rfl,e⟩
  ·exact nomatch e
  ·injection e with d _
   subst d
   cases v <;> rfl
theorem Bk(prog)(w)(i)(t:Tok):(92. gj).is (97. i) (50.3 t)=true:=Gb i t
theorem Bl(prog)(w)(x)(t:Tok):(92. gj).is (8.4 x) (68.0 t)=true:=Gd x t
set_option genSizeOf false in
inductive V where
 |gm|bl (b:Bool)|int (i:Int)|str (x:Str)|Bm (b:Array UInt8)|Mn (b:UInt64)|ref (a:Addr)|ty (n:String)
 deriving DecidableEq
instance RD:14. V:=⟨.gm⟩
instance Ri:14. aB:=⟨{}⟩
instance Rj:14. Around:=⟨{}⟩
instance RE:14. World:=⟨W.aWorld 1⟩
instance Qk:14. PySem.Ctx:=⟨⟨default,none,none,[],none⟩⟩
instance Rk:14. W.WData:=⟨.none⟩
instance Rl:14. PyData:=⟨.none⟩
instance Rm:14. GenState:=⟨.running⟩
def RelV:56.3 V
 | .gm,u=>u=Value.none
 | .bl b,u=>u=86.3 b
 | 50.3,u=>52.8
 | 68.0,u=>96.1 x
 | .Bm b,u=>∃t,u=Value.bytes b t
 | .Mn b,u=>∃t,u=Value.float b t
 | 02 a,u=>62.2
 | .ty n,u=>u=Value.type n
abbrev Vals:05 V->Sj->Prop:=Paired RelV
theorem Vals.length(r:091 xs):29.1 us.length:=vK r
theorem Vals.get:∀{xs:05 V} {us:Sj} {i:Nat} {x:V},091 xs->051 x->∃u,us[i]? =7. u/\311. x
 |_,_,_,_,.nil,e=>034
 |_,_,0,_,9e6 r _,e=>52.
 |_,_,18.6,x,9e6 _ t,e=>by
  have 963. u:=Vals.get (i:=i) (x:=x) t<|17.
  cutsat
theorem Vals.append{xs ys:05 V}{us d:Sj}(a:091 xs)(b:Vals ys d):Vals (xs++ys) (us++d):=by
 induction a with
 |nil=>exact b
 |cons r t h=>exact 9e6 r h
theorem Vals.take:46.7 xs.take us.take
 |_,_,0,_=> .nil
 |_,_,_ + 1,.nil=> .nil
 |_,_,63.6,9e6 r t=> 9e6 r<|Vals.take n t
theorem Vals.drop:46.7 xs.drop us.drop
 |_,_,0,r=>r
 |_,_,_ + 1,.nil=> .nil
 |_,_,63.6,9e6 _ t=>Vals.drop n t
def pd:74. V->74. Value->Prop
 |7. v,7. u=>80.5
 |none,none=>True
 |_,_=>False
def KV{κ:Type}:36.5->5.9 κ Value->Prop:=Paired fun(p:κ ×V) (q:κ ×Value)=>p.1=q.1/\RelV p.2 q.2
def kV:Key->V
 | 97. i=> 50.3
 | 8.4 x=> 68.0
set_option genSizeOf false in
inductive HO where
 |lst (xs:05 V)
 |tup (xs:05 V)
 |dK (kvs:50.5 V)|dT (kvs:645.)
 |set (S:Int->Bool) (n:Nat)
 |ins (C dx:Addr) (fs:79.9)
 |own (x:Addr)
 |xd (fs:79.9)
 |met (f x:Addr)
 |P0 (lo hi:Int)
 |gO (o:Obj) (u:HO)
 |Mo (ps:392.)
 |ext (φ:Heap->Prop)
instance Rn:14. HO:=⟨.own 0⟩
abbrev Hp:=Addr->74. HO
def upd(H:Hp)(a:Addr)(o:HO):Hp:=fun b=>if b=a then 7. o else H b
theorem aJ:8.7 a o a=7. o:=by grind[upd]
theorem aS(h:b≠a):8.7 a o b=H b:=by grind[upd]
theorem fY:upd (8.7 a o) a u=8.7 a u:=by grind[upd]
theorem i6{H:Hp}{a b:Addr}{o u:HO}(h:H a=7. o)(h':H b=7. u)(d:o≠u):a≠b:=by
 lia
theorem aV{H:Hp}{a b:Addr}{o:HO}(h:H a=7. o)(h':851.):a≠b:=by
 lia
section
variable(P:aD)(w:World)
def eH(H:Hp)(h:Heap)(a:Addr):HO->Prop
 | 1e6 xs=>273./\∃(its:Sj) (n:Nat),11.2/\64. a 57.8
 | .tup xs=>273./\∃its:Sj,11.2/\IsTup h a its.toArray
 | .dK kvs=>105.
 | .dT kvs=>20.3/\99. a/\∃xs:374.,
  Paired (fun(p:21.0 ×V) (q:21.0 × 44.5)=>900.) kvs xs/\
  ∃o es ep,64. a o/\o.ExactDict/\129. es/\es.toList=840. (entryOfKey (75.8))/\82.2
 | .set S n=>h.SetOf (intKind P w) a S n
 | 42.7 fs=>768. dx a/\fs.length<=1000/\dx≠a/\64. a (W.instObj C dx)/\
  ∃mA,h.Ns1 dx mA/\(806.)/\Within mA (fs.map 0.6)
 | .own _=>∃o,64. a o
 | .xd fs=>∃mA,h.Ns1 a mA/\806.
 | .P0 lo hi=>∃t u v,691. 3.4
 | .gO o u=>64. a o/\eH H h a u
 | .Mo ps=>64. a 759.
 | .met f x=>64. a (W.methodObj 727. (.ref x))
 | .ext d=>d h/\(∃o,64. a o)/\∀h1 h2:Heap,d h1->(∀o,h1.get? a=7. o->h2.get? a=7. o)->d h2
def m5(H:Hp)(h:Heap):Prop:=∀a o,H a=7. o->824. o
#check 0
section
variable{P:aD}{w:World}{H H':Hp}{h h':Heap}{a:Addr}{o:HO}
theorem eH.lt(x:824. o):58.4 a:=by
 revert x;revert P w H h a o;intros P w H h a o x;cases o with
 |lst xs=>refine 320.;exact bY e
 |tup xs=>refine 83.5 x;exact p.lt
 |dK kvs=>refine 87.;exact bY e
 |dT kvs=>refine 87.;exact bY e
 |set S n=>have⟨o,_,_,_,e,_⟩:=x;exact bY e
 |ins C dx fs=>have 39.4 _ e:=x;exact bY e
 |own y=>obtain⟨_,e⟩:=x;exact bY e
 |xd fs=>have 88.3 _:=x;obtain⟨_,_,_,e,_⟩:=z1_;exact bY e
 |P0 lo hi=>have⟨_,_,_,e⟩:=x;exact bY e
 |gO d u=>obtain⟨e,_⟩:=x;exact bY e
 |Mo ps=>exact bY<|show 64. a _ from x
 |met f y=>exact bY<|show 64. a _ from x
 |ext j=>have 88.3 _:=x;obtain⟨_,e⟩:=z1_;exact bY e
theorem Paired.OG{d:929.}{j:05 n}(a:Paired F d j)(f:∀a b,F a b->G a b):Paired G d j:=by
 induction a with
 |nil=>exact .nil
 |cons r t h=>exact 9e6 (873. r) h
theorem eH.zM(x:824. o)(k:∀b u,(b=a\/768. b a)->372.)
 (D:∀b,768. b a->H' b=7. (.own a)) (G:265.):eH P w H' h' a o:=by
 revert x k D G;revert P w H H' h h' a o;intros P w H H' h h' a o x k D G;induction o with
 |lst xs=>refine x0_1 x fun z zz_=>x2_1 zz_ fun its n r e=>?_;exact⟨z,e21 its n r<|222. ⟩
 |tup xs=>refine x0_1 x fun z zz_=>278. fun its r zz_=>278. fun j e c=>?_;exact⟨z,e11 its r<|e11 j (222.)<|c⟩
 |dK kvs=>refine 594. vs;exact⟨z,y,e11 vs r<|85.7 j ⟩
 |dT kvs=>refine 594. xs;exact⟨z,y,e11 xs (Paired.OG r fun p q z=>⟨z.1,G _ _ z.2.1,z.2.2⟩)<|85.7 j ⟩
 |set S n=>let⟨j,es,ep,t,e,c⟩:=x;exact(e41 j es ep t (222.)<|c)
 |ins C dx fs=>revert x;revert C dx fs;intros C dx fs x;refine x0_4 x fun d z ne e zz_=>278. fun mA z1_ r=>?_;obtain⟨B,es,ep,I,c⟩:=z1_;exact⟨D _ d,z,ne,222.,e11 mA (e31 B es ep (k _ _ (8.4 d) I)<|c)<|r⟩
 |own y=>obtain⟨j,e⟩:=x;exact⟨j,222. ⟩
 |xd fs=>have⟨mA,z1_,r⟩:=x;obtain⟨B,es,ep,e,c⟩:=z1_;exact(e11 mA (85.7 B)<|r)
 |P0 lo hi=>have⟨t,u,v,e⟩:=x;exact(e30 t u v<|222.)
 |gO j u J=>obtain⟨e,q⟩:=x;exact⟨ 222.,J q⟩
 |Mo ps=>
  have e:64. a 759.:=x
  show 2e2 a 759.
  cutsat
 |met f y=>
  have e:64. a (W.methodObj 727.<|.ref y):=x
  show 2e2 a (W.methodObj 727.<|.ref y)
  cutsat
 |ext L=>have⟨p,z1_,st⟩:=x;obtain⟨o,e⟩:=z1_;exact⟨st _ _ p fun o q=>k _ _ (8.5) q,⟨o,222. ⟩,st⟩
theorem m5.lt(x:12.6)(e:H a=7. o):58.4 a:=(x a o e).lt
theorem m5.fresh(x:12.6)(e:h.objs.size<=a):54. a:=by
 cases q:H a with
 |none=>rfl
 |some u=>exact 88. (cK (x.lt q) e)<|iB _
theorem m5.kept(x:12.6)(k:∀b u,372.):m5 P w H h':=fun a o e=>
 (x a o e).zM (fun b u _ q=>k b u q) (fun _ q=>q) 814.
theorem m5.laid(x:12.6)(k:∀b u,372.)(z:h.objs.size<=a)(d:eH P w (8.7 a o) h' a o):m5 P w (8.7 a o) h':=fun b u e=>by
 have j:=x.fresh z;by_cases n:b=a
 ·subst n;rw[aJ]at e;cases e;exact d
 rw[aS n]at e;exact(x b u e).zM (fun c v _ q=>k c v q) (fun c q=>909. j) fun c xs q=>909. j
#check 0
def Rd(H:Hp)(a:Addr)(u:HO):Prop:=H a=7. u\/∃o,H a=041 o u
theorem Rd.ok(r:Rd H a u)(x:12.6):824. u:=by
 rcases r with r|⟨o,r⟩
 ·exact x a u r
 obtain⟨_,q⟩:=x a _ r;exact q
def Mp:74. HO->Prop
 |15. _=>True
 |7. (.dK _)=>True
 |7. (.dT _)=>True
 |7. (.set _ _)=>True
 |7. (015 .ins)=>True
 |7. (.ext _)=>True
 |_=>False
section
variable{P:aD}{w:World}{H:Hp}{h h':Heap}{x e:Addr}{o':HO}
theorem m5.write(ok:12.6)(B:Mp (H x))(L:e=x\/768. e x)(k:∀b u,b≠e->372.)(I:∃u,2e2 e u)
 (J:eH P w (8.7 x o') h' x o'):m5 P w (8.7 x o') h':=fun b u q=>by
 revert ok B L k I J q;revert P w H h h' x e o' b u;intros P w H h h' x e o' b u ok B L k I J q;have j:∀c y,768. c y->c≠x:=54.0 y
 have n:∀c xs,H c=96. xs->c≠x:=54.0 xs
 by_cases D:b=x
 ·subst D;rw[aJ]at q;cases q;exact J
 rw[aS D]at q;by_cases d:b=e
 ·have M:768. b x:=by
   rcases L with z|z
   ·exact 88. (d.trans z) D
   rw[d];exact z
  rw[q]at M;cases M;obtain⟨v,N⟩:=I;exact⟨v,by rw[d];exact N⟩
 refine(ok b u q).zM (fun c v G r=>k c v ?_ r) (fun c r=>by rw[aS<|j c b r];exact r) fun c xs r=>by rw[aS<|n c xs r];exact r
 rcases G with rfl|G
 ·exact d
 rintro rfl;rcases L with z|z
 ·exact j c b G z
 rw[G]at z;cases z;exact D rfl
#check 0
structure Un(fs ex:So)(H H':Hp)(h h':Heap):Prop where
 keep:∀b o,243.->851.->b∉fs->b∉ex->493.
 slot:∀b o,243.->851.->b∈fs->b∉ex->89.6
 free:∀b o,243.->851.->b∉ex->084 H'
 there:∀b o,243.->b∉ex->∃o',2e2 b o'
 fg:265.
 x8:61.8
 Bn:687.
section
variable{fs fs' ex ex':So}{H H1 H2:Hp}{h h1 h2 h':Heap}{a x e:Addr}{o:HO}
theorem Un.any(u:72.6 H1 h1)(q:64. b d)(n:851.)(j:b∉ex):∃B,h1.get? b=7. {d with slots:=B}:=by
 by_cases z:b∈fs
 ·exact u.slot b d q n z j
 exact⟨d.slots,u.keep b d q n z j⟩
theorem Un.kept(k:∀b u,372.):72.6 H h':=
 ⟨fun b d q _ _ _=>k b d q,fun b d q _ _ _=>⟨d.slots,k b d q⟩,fun _ _ _ n _=>n,fun b d q _=>⟨d,k b d q⟩,814.,fun _ _ _ q=>q,fun _ ps q=>⟨#[],by rw[q];rfl⟩⟩
theorem Un.refl:72.6 H h:=Un.kept 814.
theorem Un.laid(k:∀b u,372.)(j:h.objs.size<=a)(d:54. a):72.6 (8.7 a o) h' where
 keep:=fun b u q _ _ _=>k b u q
 slot:=fun b u q _ _ _=>⟨u.slots,k b u q⟩
 free:=fun b u q n _=>by rw[aS<|df<|cK (bY q) j];exact n
 there:=fun b u q _=>⟨u,k b u q⟩
 fg:=fun b xs q=>909. d
 x8:=fun b u xs q=>909. d
 Bn:=fun b ps q=>⟨#[],by rw[5e9 q d,q];rfl⟩
theorem Un.write(j:Mp (H x))(I:e=x\/768. e x)(k:∀b u,b≠e->372.)(D:∃u,2e2 e u):72.6 (8.7 x o) h':=by
 have G:∀b,851.->b≠x:=fun b n z=>by subst z;rw[n]at j;exact j
 have B:∀b,851.->b≠e:=fun b n z=>by
  lia
 have d:∀b u,H b=7. u-> ¬ Mp (7. u)->b≠x:=fun b u q nm z=>21.
 refine⟨fun b u q n _ _=>k b u (B b n) q,fun b u q n _ _=>⟨u.slots,k b u (B b n) q⟩,fun b u q n _=>by rw[aS<|G b n];exact n,fun b u q _=>?_,
  fun b xs q=>by rw[54.5];exact q,fun b u xs q=>by rw[54.5];exact q,fun b ps q=>⟨#[],by rw[54.5,q];rfl⟩⟩
 grind
#check 0
def P1(h:Heap)(H:Hp):So:=(745. h.objs.size).filter fun a=>(H a).isSome
def zN(h:Heap)(H:Hp):Heap:=W.hideAll h (P1 h H)
theorem Ge(h)(H):(zN h H).objs.size=h.objs.size:=W.hideAll_size _ _
theorem HV(e:243.)(n:851.):60. (zN h H).get?:=
 iH _ e fun d=>by have q:586. H b:=(da.mp d).2;rw[n]at q;simp at q
theorem KC(e:60. (zN h H).get?):243./\851.:=by
 have d:243.:=qf (P1 h H) e;refine 31.8 d;cases q:H b with
 |none=>rfl
 |some x=>
  have j:b∈P1 h H:=da.mpr ⟨jP.mpr<|bY d,by simp[q]⟩;have z:084 (zN h H).get?:=nI (P1 h H) j
  lia
structure Mod(K:aA)(mg:Sk)(base:Heap):Prop where
 OH:K.In base
 glob:333. mg
 blt:∃mb,base.Ns builtinsNs mb/\∀x:Str,937. ->mb x=19.4
 nolimit:base.NoLimit
set_option genInjectivity false in
set_option genSizeOf false in
structure Cx where
 prog:Program
 w:World
 K:PySem.W.Frag
 mg:Str->74. Value
 base:Heap
 A:Around
 N:05 Str
 vv:Shared
 Kr:Hp
 env:Env
 outer:37.8
 stack:37.8
 ex:05 Addr
 fn:Str->Bool
 calm:Bool
 pn:5.9 Addr Obj
 xe:20. Value Shared
instance Ro:14. L2.Cx:=⟨⟨default,W.aWorld 1,[],238.,default,{},[],{},238.,default,[],[],[],fun _=>true,true,[],227. ⟩⟩
def qE(l:37.8):So:=l.filterMap (·.frame)
abbrev Cx.fs(X:Cx):So:=qE X.outer
def OI(d:Scope)(x:Str):Prop:=1e3 x=553.\/1e3 x=466.\/1e3 x=79.7
def Loc(d:Scope)(x:Str):Prop:=1e3 x=553.\/1e3 x=466.
def Look(env:Env)(h:Heap)(m:Sk)(x:Str)(u:Value):Prop:=
 (env.kindOf x=553./\m x=7. u)\/((env.kindOf x=466.\/env.kindOf x=79.7)/\∃c,env.cells.lookup x=7. c/\h.IsCell c (7. u))
structure Cx.Ok(X:Cx):Prop where
 mod:Mod X.K X.mg X.base
 kind:X.env.scope.kind= 931.
 glob:X.env.globals=mainGlobals
 blt:X.env.builtins=builtinsNs
 above:310. X.env.locals
 inj:∀x y c,68. x->68. y->x=y
 has:∀x,(X.env.kindOf x=466.\/X.env.kindOf x=79.7)->∃c,68. x
 MP:∀x c,X.fn x=true->68. x->310. c
 hd:247.->X.A.handled=none
 frames:X.A.frames=7. X.stack
 MQ:X.stack=X.outer\/(668./\400.)
 Oz:∀b∈X.ex,028 b/\507. b
 bs:∀b o,950.->244./\084 X.Kr
 HP:X.base.objs.size<=X.vv.heap.objs.size
 Dj:∀b o,950.->b∉X.ex
 Dk:∀b∈X.ex,b∉X.fs
 rA:X.vv.heap.FunFrames X.base X.outer
 Ks:∀b∈X.fs,084 X.Kr
structure Inv(X:Cx)(pins:Sn)(σ:05 (74. V))(H:Hp)(s:aB):Prop where
 ok:X.Ok
 os:s.os=X.vv.os
 bare:AllBare s.gens
 base:Un X.fs X.ex X.Kr H X.vv.heap s.heap
 loc:∃m,s.heap.Ns X.env.locals m/\∀(i:Nat) (x:Str) (v:V),369.->σ[i]? =001 v->411. OI->∃u,80.5/\Look X.env s.heap m x u
 cell:∀x c,68. x->∃v,s.heap.IsCell c v
 free:54. X.env.locals
 jX:∀x c,68. x->54. c
 pin:∀p∈ 26.9,496.
 fh:29. m5 H s.heap
 len:σ.length=X.N.length
section
variable{X:Cx}{pins:Sn}{σ:05 (74. V)}{H H':Hp}{s:aB}{h':Heap}
theorem Cx.Ok.Ql(ok:X.Ok)(e:950.):b∉X.fs:=fun d=>by have:=(ok.rA.mem d).1;rw[e]at this;cases this
theorem Inv.bs(I:85.):∀b o,950.->677./\851.:=fun b o e=>
 ⟨ 89.2 I.base.keep (I.ok.Ql e)<|094 I.ok.Dj,89.2 I.base.free<|094 I.ok.Dj ⟩
theorem Inv.bk(I:85.):∀b o,950.->677.:=fun b o e=>(094 I.bs).1
theorem Inv.mod(I:85.):Mod X.K X.mg X.base:=I.ok.mod
theorem Inv.so(I:85.):383. X.K.In:=I.ok.mod.OH.keeps I.bk
theorem Inv.lt(I:85.):8e2 X.env.locals:=let 049 _ d:=I.loc;d.lt
theorem Inv.sz(I:85.):310. s.heap.objs.size:=bU I.ok.above<|uV I.lt
theorem Inv.Qm(I:85.)(h:33.1 a):a∉X.fs:=fun d=>by have 28. _ (049 o j):=I.ok.rA.mem d;exact 88. (cK (bY j)<|bU I.sz h)<|iB _
theorem Inv.Qn(I:85.):∀x c,68. x->028 c:=fun x c e z=>by have⟨v,o,n,hd⟩:=I.cell x c e;have 88.3 m:=I.loc;obtain⟨o',es,ep,d,j,_⟩:=z1_;rw[z,d]at n;cases n;rw[j]at hd;cases hd
theorem Inv.rA(I:85.):26.0 X.outer:=by
 revert I;revert X pins σ H s;intros X pins σ H s I;have d:∀l,(∀b∈qE l,b∈X.fs)->X.vv.heap.FunFrames X.base l->26.0 l:=by
  intros l
  induction l with
  |nil=>intros _ _;trivial
  |cons env r q=>
   revert q;revert env r;intros env r q;intros hs B
   have⟨D,z1_,N⟩:=B;let⟨L,o,G,J,M,hd⟩:=z1_;have j:L∈X.fs:=47.7 L
   let 28. O e:=I.base.slot L o M (I.ok.Ks L j) j fun z=>I.ok.Dk L z j;exact⟨D,(e23 L _ G J e<|hd),q (fun b n=>47.7 b) N⟩
 exact d X.outer (fun _ n=>n) I.ok.rA
theorem Inv.stack(I:85.):26.0 X.stack:=by
 rcases I.ok.MQ with e|⟨e,d⟩
 ·rw[e];exact I.rA
 rw[e];have 049 m j:=I.loc;refine 9e6 (by simp[I.ok.kind]) d j ?_ I.rA;exact Heap.get?_none_of_le<|bU I.ok.HP I.ok.above
theorem Inv.zO(I:85.):∀b∈ 235.,b∈X.env.locals::X.fs:=fun b d=>by
 rcases I.ok.MQ with e|⟨e,j⟩
 ·rw[e]at d;exact bO _ d
 rw[e]at d;unfold qE at d;rw[dc,j]at d;exact d
theorem Inv.zP(I:85.):∀b∈ 235.,851.:=fun b d=>by
 rcases 819. (I.zO b d)with e|d
 ·rw[e];exact I.free
 have 28. _ (049 o j):=I.ok.rA.mem d;exact I.base.free b o j (I.ok.Ks b d) fun z=>I.ok.Dk b z d
theorem Inv.step{ch:So}(I:85.)
 (D:7.4)
 (G:∀b o,028 b->b∉X.fs->b∉ch->677.->851.->493.)
 (N:∀b o,028 b->b∈X.fs->b∉ch->677.->851.->89.6) (B:∀b o,b∉ch->677.->851.->084 H')
 (R:∀b o,b∉ch->677.->∃o',2e2 b o')
 (V:265.) (Y:61.8) (a4:687.)
 (ns:∀m,s.heap.Ns X.env.locals m->h'.Ns X.env.locals m) (a0:29. m5 H' h') (hg:AllBare g'):
 859.:=by
 have Z:∀b o,244.->028 b:=fun b o e=>df<|98.8 I.ok.above;have M:∀b o,244.->b∉X.ex->b∉ch:=fun b o e j S=>by
  rcases(D b S).1 with z|z
  ·exact j z
  exact 88. (98.8 z)<|iB _
 have J:838.:=fun x c e v ⟨o,U,hd⟩=>by
  have L:c∉ch:=907. D;by_cases hc:c∈X.fs
  ·obtain⟨sl,q⟩:=N c o (I.Qn x c e) hc L U (I.jX x c e);exact(1.2 q<|hd)
  exact(e11 o (G c o (I.Qn x c e) hc L U<|I.jX x c e)<|hd)
 refine⟨I.ok,I.os,hg,⟨ 98.3 S j,98.3 S j,fun b o e n j=>?_,847. e j,fun b xs e=>V b xs<|I.base.fg b xs e,fun b o xs e=>Y b o xs<|I.base.x8 b o xs e,332. b ps ⟩,?_,332. x c,?_,332. x c,63. p hp,a0,I.len⟩
 ·exact G b o (094 Z) S (094 M j) (94.1 S j)<|724. j
 ·obtain⟨sl,O⟩:=94.0 S j;obtain⟨a3,e2⟩:=N b _ (094 Z) S (094 M j) O<|724. j;exact 28. a3 e2
 ·obtain⟨o',O⟩:=37.5 j;exact B b o' (094 M j) O<|724. j
 ·obtain⟨o',O⟩:=37.5 j;exact R b o' (094 M j) O
 ·obtain⟨m1,O⟩:=I.base.Bn b ps e;grind[Array.append_assoc]
 ·have⟨m,hn,hl⟩:=I.loc;refine(e11 m (ns m hn)<|fun i x v O e2 e3=>?_);have⟨u,r,l⟩:=hl i x v O e2 e3;refine(665. u r);rcases l with l|⟨k,c,e,z⟩
  ·exact 97. l
  exact 8.4 ⟨k,e11 c e<|J x c e _ z⟩
 ·obtain⟨v,z⟩:=I.cell x c e;exact⟨v,J x c e v z⟩
 ·have 88.3 m:=I.loc;obtain⟨o,_,_,U,_⟩:=z1_;exact B _ o (fun z=>(D _ z).2.1 rfl) U I.free
 ·have⟨v,o,U,hd⟩:=I.cell x c e;exact B c o (907. D) U<|I.jX x c e
 have⟨e,n,ne,nf,d⟩:=49.5 hp;have L:p.1∉ch:=fun z=>(D p.1 z).2.2.2 p hp rfl;exact⟨G p.1 p.2 ne nf L e n,B p.1 p.2 L e n,ne,nf,d⟩
theorem Inv.un{t':Nat}(I:85.)(u:44.2 X.fs [] h')(j:29. m5 H' h'):8e1 H':=by
 revert I u j;revert X pins σ H H' s h' t';intros X pins σ H H' s h' t' I u j;let 88.3 m:=id I.loc;let⟨o,es,ep,D,r⟩:=z1_;let 28. M G:=u.any D I.free 960.;exact 73.0 (ch:=[]) (381. _) (fun b o _ q _ e n=>094 u.keep n q<|21.) (fun b o _ q _ e n=>094 u.slot n q<|21.) (fun b o _ e n=>094 u.free n<|21.) (fun b o _ e=>094 u.there<|21.) u.fg u.x8 u.Bn (by
  intros N J
  let⟨o',es',B,d,L⟩:=J;rw[D]at d;cases d;exact(e31 _ es' B G<|L)) j I.bare
theorem Inv.call{ch:So}(I:85.)(u:44.2 (235.) ch h')(B:29. m5 H' h')(L:AllBare g')
 (j:7.4):
 859.:=by
 have 88.3 m:=id I.loc;obtain⟨o,es,ep,J,r⟩:=z1_;obtain⟨R,D⟩:=u.any J I.free fun z=>(j _ z).2.1 rfl;exact I.step (ch:=ch) j (fun b o D M d e n=>094 u.keep n (fun z=>(aW.mp<|I.zO b z).elim D M) d) (fun b o _ _ d e n=>u.any e n d) (fun b o d e n=>094 u.free n d) (fun b o d e=>094 u.there d) u.fg u.x8 u.Bn (fun S N=>by
  have⟨o',es',G,q,O⟩:=N;rw[J]at q;cases q;exact(e31 _ es' G D<|O)) B L
theorem Inv.turned{it:Addr}(I:85.)(k:∀b o,b≠it->677.->493.)(D:54. it)(B:028 it)
 (h1:it∈X.ex\/310. it) (h2:507. it) (G:354. it):8e1 H:=by
 have j:∀b u,H b=7. u->b≠it:=fun b u e z=>by simp_all[D]
 refine 73.0 (ch:=[it]) (63. b J) (fun b o _ _ d e _=>683. k d) (fun b o _ _ d e _=>⟨o.slots,683. k d ⟩) (fun _ _ _ _ n=>n)
  (fun b o d e=>⟨o,683. k d ⟩) (fun _ _ e=>e) (fun _ _ _ e=>e) (fun b ps e=>⟨#[],59.9 ⟩) (63. m L) (332. b u) I.bare
 ·have e:b=it:=40.4
  subst e;exact⟨h1,B,h2,G⟩
 ·have⟨o,es,ep,M,r⟩:=L;exact(e31 o es ep (k _ o (eC B) M)<|r)
 refine(I.fh b u e).zM (fun c v d q=>k c v ?_ q) (fun _ q=>q) 814.;rcases d with z|z
 ·rw[z];exact j b u e
 exact j c _ z
theorem Inv.tok(I:85.)(t):00 H {s with toks:=t}:=I.un (h':=s.heap) (t':=t) Un.refl I.fh
theorem Inv.kept(I:85.)(k:∀b u,39. b u->2e2 b u):8e1 H:=I.un (Un.kept k)<|I.fh.kept k
theorem Inv.laid(I:85.)(k:∀b u,39. b u->2e2 b u)(d:33.1 a)(j:29. eH (8.7 a o) h' a o):
 8e1 (8.7 a o):=I.un (Un.laid k d<|I.fh.fresh d)<|I.fh.laid k d j
theorem Inv.write(I:85.)(n:Mp (H x))(q:e=x\/768. e x)(k:∀b u,b≠e->39. b u->2e2 b u)(d:∃u,2e2 e u)
 (j:29. eH (8.7 x o) h' x o):8e1 (8.7 x o):=I.un (Un.write n q k d)<|I.fh.write n q k d j
theorem Inv.weak(I:85.)(n:d.length=σ.length)(w:∀(i:Nat) v,d[i]? =001 v->σ[i]? =001 v):3e3 Inv d H s:=
 ⟨I.ok,I.os,I.bare,I.base,let⟨m,q,j⟩:=I.loc;(e11 m q<|fun i x v z B D=>j i x v z (w i v B) D),I.cell,I.free,I.jX,I.pin,I.fh,n.trans I.len⟩
theorem Inv.qk(I:85.)(h:∀p∈d,496.):11.7 X d:=
 ⟨I.ok,I.os,I.bare,I.base,I.loc,I.cell,I.free,I.jX,fun p j=>(bT.mp j).elim (fun z=>49.5<|ik _ z)<|h p,I.fh,I.len⟩
theorem v8{N:Si}(d:N.Nodup){i j:Nat}{x:Str}(a:N[i]? =7. x)(b:N[j]? =7. x):i=j:=by obtain⟨h1,n⟩:=aT.mp a;obtain⟨h2,q⟩:=aT.mp b;exact(tU d).mp<|n.trans q.symm
theorem yT{u:Value}{Q:20. Unit aB}(I:85.)(hN:X.N.Nodup)(hi:369.)(J:411. Loc)(r:80.5)
 (h:∀s',93.4->(∃a,7e5 a s'.heap/\(a=X.env.locals\/X.env.cells.lookup x=7. a))->Q () s') (hf:6.0):709. (storeName X.env x u):=by
 revert I hN hi J r h hf;revert X pins σ H s i x v M A E u Q;intros X pins σ H s i x v M A E u;intros Q I hN hi J r h hf;let⟨m,hn,hl⟩:=id I.loc;have a3:(X.env.scope.kind== .class||(X.env.scope.kind== .module&&X.env.locals != X.env.globals))=false:=by rw[I.ok.kind];rfl
 have R:i<σ.length:=by grind[I.len]
 have U:=I.Qn;have B:∀{a:Addr} {h':Heap},(∃o,39. a o/\54. a)->7e5 a h'->29. m5 H h':=fun{a h'} ha hs b ob e=>by
  revert ha hs e;revert a h' b ob;intros a h' b ob ha hs e;let⟨_,_,L⟩:=ha;refine(I.fh b ob e).zM (?_) (fun _ q=>q) 814.;intros c w' G q;refine(hs.2 c ?_).trans q
  intros rfl
  rcases G with rfl|G
  ·rw[L]at e;cases e
  rw[L]at G;cases G
 rcases J with S|S
 ·refine wpAny_storeName_local S hn (fun h' a8 hs=>?_) a3;have 39.4 oL a9:=id hn;refine h _ ⟨I.ok,I.os,I.bare,148.,(1.2 a8<|fun j y v' D O e3=>?_),332. y c,I.free,I.jX,63. p hp,B (e11 oL a9<|I.free) hs,by simpa using I.len⟩<|1.2 hs<|8.5
  ·exact 382.<|94.1 Y J
  ·obtain⟨sl,D⟩:=94.0 Y J;exact⟨sl,382. D⟩
  ·obtain⟨o',D⟩:=37.5 J;exact⟨o',382. D⟩
  ·by_cases Z:j=i
   ·subst Z;rw[hi]at D;cases D;rw[List.getElem?_set_self R]at O;cases O;exact(e11 u r<|.inl ⟨S,44. ⟩)
   rw[xV<|eC Z]at O;have⟨u',r',q⟩:=hl j y v' D O e3;refine(665. u' r');rcases q with⟨k,e⟩|⟨k,c,e,z⟩
   ·refine 97. ⟨k,?_⟩;have:y≠x:=fun e=>Z<|v8 hN D<|e▸hi;simp[this,e]
   exact 8.4 ⟨k,e11 c e<|z.sameBut hs<|U y c e⟩
  ·obtain⟨w',z⟩:=I.cell y c e;exact⟨w',z.sameBut hs<|U y c e⟩
  have⟨e,n,ne,nf,d⟩:=49.5 hp;exact 96.0 ne
 have a0:X.fn x=true:=by
  rcases hf with z|z
  ·exact z
  rw[z]at S;cases S
 obtain⟨c,G⟩:=I.ok.has x<|97. S;obtain⟨w',z⟩:=I.cell x c G;refine wpAny_storeName_cell I.ok.kind S G z fun h' a4 hs=>?_;have⟨oc,a5,a6⟩:=id z;refine h 1e1 ⟨I.ok,I.os,I.bare,148.,(e11 m (hn.sameBut hs<|eC<|U x c G)<|fun j y v' D O e3=>?_),332. y c',I.free,I.jX,63. p hp,B (e11 oc a5<|I.jX x c G) hs,by simpa using I.len⟩ (e11 c hs<|8.4 G)
 ·exact 230.<|94.1 Y J
 ·obtain⟨sl,D⟩:=94.0 Y J;exact⟨sl,230. D⟩
 ·obtain⟨o',D⟩:=37.5 J;exact⟨o',230. D⟩
 ·by_cases Z:j=i
  ·subst Z;rw[hi]at D;cases D;rw[List.getElem?_set_self R]at O;cases O;exact(e11 u r<|8.4 ⟨.inl S,e11 c G<|a4⟩)
  rw[xV<|eC Z]at O;have⟨u',r',q⟩:=hl j y v' D O e3;refine(665. u' r');rcases q with q|⟨k,c',e,z'⟩
  ·exact 97. q
  refine 8.4 ⟨k,e11 c' e<|z'.sameBut hs ?_⟩;rintro rfl;exact Z<|v8 hN D<|015 I.ok.inj e G▸hi
 ·by_cases a7:c'=c
  ·subst a7;exact 073 a4
  obtain⟨w2,z2⟩:=I.cell y c' e;exact⟨w2,z2.sameBut hs a7⟩
 have⟨e,n,ne,nf,d⟩:=49.5 hp;refine 96.0 ?_;intro q;rw[q,a5]at e;have q':oc=p.2:=cE e;exact d w'<|by rw[<-q'];exact a6
theorem Bo(I:85.)(d:X.N.Nodup)(hi:369.)(j:411. Loc)(r:80.5)
 (h:∀s',93.4->Q () s') (n:6.0:=by first|exact 8.5|exact 674.|assumption):709. (storeName X.env x u):=
 yT I d hi j r (fun s' q _=>h s' q) n
theorem Inv.Mq(I:85.)(n:s'.os=s.os)(u:44.2 (235.) ch s'.heap)(d:29. m5 H' s'.heap)(q:AllBare s'.gens)
 (j:7.4):00 H' s':=by
 obtain⟨h',g',d',t',o'⟩:=s';have e:o'=s.os:=n;subst e;exact I.call (g':=g') (t':=t') (d':=d') u d q j
#check 0
abbrev XK:=Value->20.1->284.
abbrev St:=05 (74. V)
abbrev VK:=856. V
abbrev TE:=49.2 VK
abbrev TT:=49.2 (Bool->284.)
abbrev TA:=49.2 (05 V->284.)
set_option genInjectivity false in
set_option genSizeOf false in
structure Ends where
 nx:856. St
 rt:VK
 bk:856. St:=198.
 ct:856. St:=198.
instance P2:14. L2.Ends:=⟨⟨ 227.,227.,227.,227. ⟩⟩
abbrev TS:=Ends->856. St
def EP(X:Cx)(pins:Sn)(σ:St)(Q:VK)(u:Value)(s':aB):Prop:=∃v H',00 H' s'/\80.5/\Q v H'
def TP(X:Cx)(pins:Sn)(σ:St)(Q:856. Bool)(b:Bool)(s':aB):Prop:=∃H',00 H' s'/\Q b H'
def AP(X:Cx)(pins:Sn)(σ:St)(Q:05 V->284.)(us:Sj)(s':aB):Prop:=∃vs H',00 H' s'/\091 vs/\Q vs H'
def SP(X:Cx)(pins:Sn)(D:Ends)(f:Flow)(s':aB):Prop:=
 match f with
 | .next=>70.8 D.nx
 | .brk=>70.8 D.bk
 | .cont=>70.8 D.ct
 | .ret u=>∃v d H',748. d/\80.5/\D.rt v H'
def PE(X:Cx)(e:Expr)(t:TE):Prop:=
 ∀(pins:Sn) (s:aB) (σ:St) (H:Hp) (Q:VK),12.7 (66. e) EP
def PT(X:Cx)(e:Expr)(t:TT):Prop:=
 ∀(pins:Sn) (s:aB) (σ:St) (H:Hp) (Q:856. Bool),12.7 (isTrue e X.env (66. e)) TP
def PW(X:Cx)(e:Expr)(t:TT):Prop:=
 ∀(whole:Sem Value) (pins:Sn) (s:aB) (σ:St) (H:Hp) (Q:856. Bool),12.7 (isTrue e X.env whole) TP
theorem PW.pt(h:PW X e t):PT X e t:=h _
def PA(X:Cx)(es:51.7)(t:TA):Prop:=
 ∀(pos:Pos) (pins:Sn) (s:aB) (σ:St) (H:Hp) (Q:05 V->284.),12.7 (spliced (346. pos es)) AP
def PS(X:Cx)(st:Stmt)(t:TS):Prop:=
 233. exec
def Dg(X:Cx)(st:05 Stmt)(t:TS):Prop:=
 233. execs
theorem fQ(h:709. t)(j:∀a s,Q a s->d a s):wpAny M A t d E s:=eG h j fun _ _ x=>x
section
variable{X:Cx}
def ji(i:Nat):TE:=fun σ H Q=>∃v,σ[i]? =001 v/\Q v H
def tC(v:V):TE:=85.3 v
theorem MR(D:369.)(G:411. OI)(q:75.:=by decide)(z:28.4 x ("__classdict__" :Str):=by decide):087 501. (ji i):=by
 revert D G q z;revert X i x pos;intros X i x pos D G q z;intros pins s σ H Q I h
 have⟨v,e,h⟩:=h;have⟨m,J,L⟩:=I.loc;have⟨u,r,l⟩:=L i x v D e G;have j:396. u s:=(e22 v H I r<|h);rcases l with⟨n,M⟩|⟨n,c,B,d⟩
 ·exact wpAny_Name (wpAny_loadName_local I.ok.kind n J M j) q
 rcases n with n|n
 ·exact wpAny_Name (wpAny_loadName_cell I.ok.kind n B d j) q
 exact wpAny_Name (wpAny_loadName_free I.ok.kind n B d j z) q
theorem bZ:27.5 (50.3) (50.3):=fun _ _ _ H _ I h=>wpAny_Constant_int<|107. i h
theorem uZ:27.5 (68.1) (.bl b):=fun _ _ _ H _ I h=>Constant_bool<|212. b<|h
theorem HW:27.5 57.3 .gm:=fun _ _ _ H _ I h=>Constant_none<|e22 .gm H I rfl<|h
def Gl(X:Cx)(x:Str):Prop:=X.env.kindOf x=7. .globalImplicit
theorem ql(I:85.)(d:92.8)(j:X.mg x=7. u)(h:Q u s)
 (n:75.:=by decide):4e0 (66. 501.) Q E s:=
 44.4 (Calls.loadGlobal_global 14.2 j h) n
theorem v9(I:85.)(d:92.8)(j:095 X.mg x)(n:19.4=7. u)(h:Q u s)
 (q:937. :=by decide) (z:75.:=by decide):4e0 (66. 501.) Q E s:=by
 have 963. B:=I.mod.blt;exact 44.4 (Calls.loadGlobal_builtin 14.2 j (by rw[I.ok.blt];exact h1.keeps I.bk) ((h2 x q).trans n) h) z
theorem mi(d:92.8)(j:X.mg x=7. u)(r:80.5)(n:75.:=by decide):087 501. (tC v):=
 fun _ _ _ H _ I h=>ql I d j (e22 v H I r<|h) n
variable{a b:Expr}{ta tb:TE}{pos:Pos}
def PC(X:Cx)(op:CmpOp)(a b:Expr)(t:TE):Prop:=
 ∀(pins:Sn) (s:aB) (σ:St) (H:Hp) (Q:VK),85.->32.9 Q->
  30.4 (fun u j=>3.8 (86.0 op v u) EP j)
theorem wa(b)(h:op≠ .In)(h2:op≠ .NotIn):145.:=by
 have d:28.4 op CmpOp.In:=95.
 have j:28.4 op CmpOp.NotIn:=95.
 cases b
 case Set e k _=>show(k==0&&(op==CmpOp.In||op==CmpOp.NotIn)&&_)=false;rw[d,j];simp
 all_goals rfl
def Qo(ta:TE):TE:=fun σ H Q=>32.8 fun x H1=>065 (61. (x= .gm)) H1
theorem RelV.HX(r:19.8):(v==Value.none)=61. (x= .gm):=by
 cases x with
 |gm=>cases r;rfl
 |bl _=>cases r;rfl
 |int _=>obtain⟨t,rfl⟩:=r;rfl
 |str _=>obtain⟨t,rfl⟩:=r;rfl
 |Bm _=>obtain⟨t,rfl⟩:=r;rfl
 |Mn _=>obtain⟨t,rfl⟩:=r;rfl
 |ref _=>cases r;rfl
 |ty _=>cases r;rfl
theorem wb(d:627.):PC X .Is a (.Constant 57.3 j pos') (Qo ta):=by intro pins s σ H Q I h;refine 27. d fun v B ⟨x,H1,n,q,z⟩=>?_;exact Constant_none<|is_none_gen<|10.2 _ H1 n (by rw[q.HX];rfl)<|z
def tB(t:TE):TT:=fun σ H Q=>32.9 fun x H1=>∃c,x= .bl c/\Q c H1
theorem HY(h:PC X op a b t)(h1:145.:=by first|exact wa _ (08) (08)|rfl):087 502. t:=fun pins s σ H Q I d=>wpAny_Compare1 (799. h Q d) h1
theorem t7(h:PC X op a b t)(h1:145.:=by first|exact wa _ (08) (08)|rfl):PT X 502. (tB t):=by intro pins s σ H Q I j;refine wpAny_isTrue_Compare1 (fQ (799. h _ j) fun v D h1=>fQ h1 fun u G h2=>fQ h2 fun c J ⟨x,H1,n,z,B⟩=>?_) h1;have 69. d q:=B;cases z;exact eT<|e11 H1 n<|q
theorem dJ(h:087 e t)(j:∀whole,isTrue e X.env whole=(do let v<-whole;standAt e.pos;holding [v] (truthy v)):=by intro _;rfl):PT X e (tB t):=by intro pins s σ H Q I n;refine isTrue_plain (fQ (799. h _ n) fun v G ⟨x,H1,z,B,D⟩=>?_)<|j _;have 69. d q:=D;cases B;exact eT<|e11 H1 z<|q
variable{tA tB':TT}{rest:51.7}
def Qp(t u:TT):TT:=fun σ H Q=>32.9 fun c H1=>if 4e2 c then u σ H1 Q else Q false H1
def RF(t u:TT):TT:=fun σ H Q=>32.9 fun c H1=>if 4e2 c then Q true H1 else u σ H1 Q
def OJ(t:TT):TT:=fun σ H Q=>32.9 fun c H1=>Q (!c) H1
theorem nQ(d:PT X a tA):465. .And [a] tA:=by
 intro j pins s σ H Q I h;refine isTrue_and<|fQ (799. d Q h) (332. c n);cases c with
 |true=>exact isTrue_and_nil e
 |false=>exact e
theorem nR(d:PT X a tA):465. .Or [a] tA:=by
 intro j pins s σ H Q I h;refine isTrue_or<|fQ (799. d Q h) (332. c n);cases c with
 |false=>exact isTrue_or_nil e
 |true=>exact e
theorem rB(n:PT X a tA)(q:PW X (.BoolOp .And (b::rest) pos) tB'):PW X (.BoolOp .And (a::b::rest) pos) (Qp tA tB'):=by
 intro z pins s σ H Q I h;refine isTrue_and<|fQ (n pins s σ H _ I h) fun c B ⟨H1,d,j⟩=>?_;cases c with
 |true=>exact q z pins B σ H1 Q d j
 |false=>exact(e11 H1 d<|j)
theorem pf(n:PT X a tA)(q:PW X (.BoolOp .Or (b::rest) pos) tB'):PW X (.BoolOp .Or (a::b::rest) pos) (RF tA tB'):=by
 intro z pins s σ H Q I h;refine isTrue_or<|fQ (n pins s σ H _ I h) fun c B ⟨H1,d,j⟩=>?_;cases c with
 |true=>exact(e11 H1 d<|j)
 |false=>exact q z pins B σ H1 Q d j
theorem iX(d:PT X a tA):PT X (.UnaryOp .Not a pos) (OJ tA):=by intro pins s σ H Q I h;exact isTrue_not<|799. d (fun c H1=>Q (!c) H1) h
def OK(ta tb:TE):TE:=fun σ H Q=>32.8 fun x H1=>∃c,x= .bl c/\if 4e2 c then tb σ H1 Q else 065 false H1
def Qq(ta tb:TE):TE:=fun σ H Q=>32.8 fun x H1=>∃c,x= .bl c/\if 4e2 c then 065 true H1 else tb σ H1 Q
def OL(ta:TE):TE:=fun σ H Q=>32.8 fun x H1=>∃c,x= .bl c/\065 (!c) H1
theorem rC(h:087 a t):886. op [a] t:=84.9 BoolOp_one
theorem ph(n:627.)(q:886. .And (b::rest) tb):886. .And (a::b::rest) (OK ta tb):=by
 revert n q;revert X a b ta tb pos rest;intros X a b ta tb pos rest n q
 intros pins s σ H Q I h
 refine BoolOp_and<|610. n;rintro v z ⟨x,H1,j,B,d⟩;let 69. c d:=d;cases B;refine eT ?_;cases c with
 |true=>exact 6.8 q z H1 Q j d
 |false=>exact(10.2 false H1 j rfl<|d)
theorem HZ(n:627.)(q:886. .Or (b::rest) tb):886. .Or (a::b::rest) (Qq ta tb):=by
 revert n q;revert X a b ta tb pos rest;intros X a b ta tb pos rest n q
 intros pins s σ H Q I h
 refine BoolOp_or<|610. n;rintro v z ⟨x,H1,j,B,d⟩;let 69. c d:=d;cases B;refine eT ?_;cases c with
 |false=>exact 6.8 q z H1 Q j d
 |true=>exact(10.2 true H1 j rfl<|d)
theorem MS(j:627.):087 (.UnaryOp .Not a pos) (OL ta):=by
 revert j;revert X a ta pos;intros X a ta pos j
 intros pins s σ H Q I h
 refine UnaryOp_<|610. j;rintro v z ⟨x,H1,n,q,d⟩;let 69. c d:=d;cases q;exact not_of<|eT<|10.2 (!c) H1 n rfl<|d
def RG(t:TT)(ta tb:TE):TE:=fun σ H Q=>32.9 fun c H1=>if 4e2 c then ta σ H1 Q else tb σ H1 Q
theorem kn(z:PT X c tA)(B:627.)(D:57.0):087 (.IfExp c a b pos) (RG tA ta tb):=by
 intro pins s σ H Q I h;refine wpAny_IfExp<|27. z fun d j ⟨H1,n,q⟩=>?_;cases d with
 |true=>exact 6.8 B j H1 Q n q
 |false=>exact 6.8 D j H1 Q n q
#check 0
def cX(K:aA)(H:Hp)(a:Addr)(xs:05 V):Prop:=
 Rd H a (1e6 xs)\/
  ∃(o:Obj) (its:392.) (n:Nat),49.4 a=7. o/\o.cls= 37.6 /\o.dict=none/\811.
def iD(K:aA)(H:Hp)(a:Addr)(xs:05 V):Prop:=
 Rd H a (.tup xs)\/
  ∃(o:Obj) (its:392.) (n:Nat),49.4 a=7. o/\o.cls= 2e8 /\811.
def Qr:Value->74. V
 | 57.3=>7. .gm
 | 68.1=>7. (.bl b)
 | 50.3 _=>7. (50.3)
 | 68.0 _=>7. (68.0)
 | .bytes b _=>7. (.Bm b)
 | .float b _=>7. (.Mn b)
 | 02 a=>72. a
 | 088 n=>7. (.ty n)
 |_=>none
theorem RelV.abs(r:311. x):Qr u=7. x:=by
 cases x with
 |gm=>cases r;rfl
 |bl _=>cases r;rfl
 |int _=>obtain⟨t,rfl⟩:=r;rfl
 |str _=>obtain⟨t,rfl⟩:=r;rfl
 |Bm _=>obtain⟨t,rfl⟩:=r;rfl
 |Mn _=>obtain⟨t,rfl⟩:=r;rfl
 |ref _=>cases r;rfl
 |ty _=>cases r;rfl
theorem RelV.inj(r:311. x)(q:80.4):x=y:=cE<|r.abs.symm.trans q.abs
theorem Vals.inj{xs ys:05 V}{us:Sj}(a:091 xs)(b:091 ys):xs=ys:=by
 induction a generalizing ys with
 |nil=>cases b;rfl
 |cons r t h=>
  cases b with
  |cons d q=>rw[r.inj d,h q]
section
variable{X:Cx}{pins:Sn}{σ:St}{H:Hp}{s:aB}{a:Addr}{xs ys:05 V}
theorem cX.of{K:aA}(h:271. a):67.3:=402. h
theorem iD.of{K:aA}(h:H a=96. xs):67.2:=402. h
theorem Inv.list(I:85.)(h:cX X.K H a xs):∃its,11.2/\383. PlainL a its.toArray/\273.:=by
 revert I h;revert X pins σ H s a xs;intros X pins σ H s a xs I h;rcases h with h|⟨o,its,n,d,j,hd,hs,hz,r⟩
 ·have 28. z ⟨its,n,r,e⟩:=h.ok I.fh;exact(e12 its r (e23 _ n e rfl rfl<|rfl)<|z)
 refine(e12 its.toList r (e23 o n (I.so a o d) j hd<|by simpa using hs)<| ?_);have e:=r.length
 cutsat
theorem Inv.tuple(I:85.)(h:iD X.K H a xs):∃its,11.2/\37.0 a its.toArray/\273.:=by
 rcases h with h|⟨o,its,n,d,j,hs,hz,r⟩
 ·have 28. z ⟨its,r,p⟩:=h.ok I.fh;simp[*]
 refine(e12 its.toList r (e12 o (I.so a o d) j<|⟨n,by simpa using hs⟩)<| ?_);have e:=r.length
 cutsat
theorem Inv.Ia(I:85.)(h:cX X.K H a xs)(h':cX X.K H a ys):xs=ys:=by
 revert I h h';revert X pins σ H s a xs ys;intros X pins σ H s a xs ys I h h';let 566. r z1_:=60.1 h;let⟨o,n,e,_,_,d⟩:=z1_;let⟨its',q,z1_,_⟩:=60.1 h';let⟨o',z,j,_,_,d'⟩:=z1_;rw[e]at j;cases j;rw[d]at d';injection d' with B _;have:its=its':=21.
 subst this;exact r.inj q
theorem Inv.Gf(I:85.)(h:iD X.K H a xs)(h':iD X.K H a ys):xs=ys:=by
 have 566. r z1_:=11.8 h;obtain⟨o,e,_,n,d⟩:=z1_;have⟨its',q,z1_,_⟩:=11.8 h';obtain⟨o',j,_,z,d'⟩:=z1_;rw[e]at j;cases j;rw[d]at d';injection d' with B _;have:its=its':=21.
 subst this;exact r.inj q
#check 0
abbrev Cx.t8(X:Cx)(E:Sl):Cx:= {X with xe:=E}
theorem Cx.Ok.t8{X:Cx}(ok:X.Ok)(E:Sl):(X.t8 E).Ok:=
 5.0
theorem Cx.Ok.nS{X:Cx}{E:Sl}(ok:(X.t8 E).Ok):X.Ok:=
 5.0
section
variable{X:Cx}{pins:Sn}{σ:St}{H:Hp}{s:aB}{E:Sl}
theorem Inv.t8(I:85.)(E:Sl):11.7 (X.t8 E) pins:=⟨I.ok.t8 E,I.os,I.bare,I.base,I.loc,I.cell,I.free,I.jX,I.pin,I.fh,I.len⟩
theorem Inv.nS(I:11.7 (X.t8 E) pins):85.:=567. I.ok.nS
theorem SP.nS(h:SP (X.t8 E) pins D f s'):3e3 SP D f s':=by
 cases f with
 |next=>have 353. d:=h;exact(e21 d H' I.nS<|q)
 |brk=>have 353. d:=h;exact(e21 d H' I.nS<|q)
 |cont=>have 353. d:=h;exact(e21 d H' I.nS<|q)
 |ret u=>have 70.3 d:=h;exact(e32 v d H' I.nS r<|q)
#check 0
section
variable{X:Cx}{st:Stmt}{rest:05 Stmt}{t u:TS}{e:Expr}{te:TE}{pos:Pos}
def Mr:TS:=fun D σ H=>916.
def OM(t u:TS):TS:=fun D σ H=>t {D with nx:=u D} σ H
theorem bS:Dg X [] Mr:=fun _ _ σ H _ I h=>qM<|e21 σ H I<|h
theorem aK(h1:PS X st t)(h2:Dg X rest u):Dg X (st::rest) (OM t u):=by
 intro pins s σ H D I h;refine 43.2 {D with nx:=u D} j;cases f with
 |next=>have⟨d,H',n,q⟩:=q;exact h2 pins j d H' D n q
 |ret v=>exact q
 |brk=>exact q
 |cont=>exact q
theorem aO(h1:PS X st t):Dg X [st] t:=by
 intro pins s σ H D I h;refine 43.2 D d;cases f with
 |next=>exact qM q
 |ret v=>exact q
 |brk=>exact q
 |cont=>exact q
theorem Inv.quiet(I:85.):interactive X.env=false:=by simp[interactive,I.ok.kind]
def Ms(te:TE):TS:=fun D σ H=>te σ H fun _ H1=>D.nx σ H1
theorem dg(d:20.8)(hs:086 e none:=by rfl):PS X (.Expr e pos) (Ms te):=by intro pins s σ H D I h;exact wpAny_Expr_any (27. d fun v q ⟨x,H1,j,z,n⟩=>(e21 σ H1 j<|n)) I.quiet hs
def ON(te:TE):TS:=fun D σ H=>te σ H D.rt
theorem bJ(d:20.8):PS X (.Return (7. e) pos) (ON te):=by intro pins s σ H D I h;exact wpAny_Return_some<|27. d fun v z ⟨x,H1,j,n,q⟩=>(e32 x σ H1 j n<|q)
def OO(c:TT)(t u:TS):TS:=fun D σ H=>c σ H fun b H1=>if 4e2 b then t D σ H1 else u D σ H1
theorem cR(z:PT X c tc)(B:Dg X a t)(G:Dg X b u):PS X (.If c a b pos) (OO tc t u):=by
 revert z B G;revert X t u pos c tc a b;intros X t u pos c tc a b z B G
 intros pins s σ H D I h
 refine wpAny_If<|610. z;rintro d j ⟨H1,n,q⟩;cases d with
 |true=>exact 6.8 B j H1 D n q
 |false=>exact 6.8 G j H1 D n q
def MT:TS:=123.
theorem Gg:Dg X d MT:=fun _ _ _ _ _ _ h=>h.elim
#check 0
abbrev TG:=V->49.2 (St->284.)
def PG(X:Cx)(d:Expr)(t:TG):Prop:=
 ∀(pins:Sn) (s:aB) (σ:St) (H:Hp) (v:V) (u:Value) (Q:856. St),85.->80.5->t v σ H Q->
  882. (assign d X.env u) (fun _ s'=>∃j H',748. j/\Q j H') s
section
variable{X:Cx}{pos:Pos}
def yU(i:Nat):TG:=fun v σ H Q=>Q (σ.set i (7. v)) H
theorem KD(d:X.N.Nodup)(hi:369.)(j:411. Loc)(n:6.0:=by first|exact 8.5|exact 674.|assumption):PG X 501. (yU i):=by intro pins s σ H v u Q I r h;exact wpAny_assign_Name<|Bo I d hi j r (fun s' q=>(e21 _ H q<|h)) n
def MU(te:TE)(g:TG):TS:=fun D σ H=>te σ H fun x H1=>g x σ H1 D.nx
theorem MV(d:X.N.Nodup)(hi:369.)(j:411. Loc)(n:20.8)(hs:086 e (7. (.Name x pos')):=by rfl)(q:6.0:=by first|exact 8.5|exact 674.|assumption):
 878.:=by
 revert d hi j n hs q;revert X pos i x e te pos';intros X pos i x e te pos' d hi j n hs q
 intros pins s σ H D I h
 refine wpAny_Assign_Name (610. n) hs;rintro v L ⟨y,H1,z,B,G⟩;exact Bo z d hi j B (fun M J=>(e21 _ H1 J<|G)) q
#check 0
section
variable{X:Cx}{pos:Pos}
def MW(c:TT)(tb:TS):TS:=fun D σ H=>∃W:214. St,(∃m,W m σ H)/\∀m σ H,W m σ H->
 c σ H fun b H1=>if 4e2 b then ∃N:856. St,(∀d H',N d H'->∃j,j<m/\W j d H')/\616. σ H1 else D.nx σ H1
theorem lA(L:55.3)(O:PT X c tc)(R:Dg X j tb):PS X (.While c j [] pos) (MW tc tb):=by
 revert L O R;revert X pos c tc j tb;intros X pos c tc j tb L O R;intros pins s σ H D I h
 let⟨W,z1_,q⟩:=h;let 28. S U:=z1_;(try clear z1_);refine wpAny_While<|codeAny_whileLoop (fun n s'=>∃z H',748. z/\W n z H') ?_ S<|e21 σ H I<|U
 intros n V y1_;let⟨d,H1,Y,Z⟩:=y1_;refine jQ L<|40.0 (O pins V d H1 _ Y<|q n d H1 Z);rintro b s2 ⟨H2,M,B⟩;cases b with
 |true=>
  have⟨N,hN,B⟩:=B;rw[324.];refine jQ L<|fQ (R pins s2 d H2 _ M B) fun f s3 G=>?_;cases f with
  |next=>let⟨J,H3,I3,n3⟩:=G;grind
  |cont=>let⟨J,H3,I3,n3⟩:=G;grind
  |brk=>exact G
  |ret v=>exact G
 |false=>rw[aM bL];exact qM<|e21 d H2 M<|B
#check 0
set_option genInjectivity false in
set_option genSizeOf false in
structure It where
 go:856. Nat
 Kt:Nat->Hp->856. V
 stop:856. Nat
instance Rp:14. L2.It:=⟨⟨ 227.,fun _ _ _ _=>True,227. ⟩⟩
def x9(X:Cx)(pins:Sn)(H:Hp)(b:Addr):Prop:=
 851./\028 b/\b∉X.fs/\(b∈X.ex\/310. b)/\(507. b)/\354. b
theorem Inv.Ib(I:85.)(d:33.1 b)(j:084 H'):3e3 x9 H' b:=by
 refine⟨j,Nat.ne_of_gt<|cK I.lt d,I.Qm d,8.4 (bU I.sz d),fun x c e z=>?_,fun p n z=>?_⟩
 ·obtain⟨v,q⟩:=I.cell x c e;exact absurd (cK q.lt<|17.)<|iB _
 exact absurd (cK (bY (49.5 n).1)<|17.)<|iB _
structure Turn(P:aD)(w:World)(K:aA)(tg:Expr)(J:It)(fp:So)(it:Addr)(tn:20. Nat Heap):Prop where
 mem:it∈fp
 obj:∀i h,tn i h->∀b∈fp,∃o,243./\∀v,o.data≠ .cell v
 keep:∀i h h',tn i h->(∀b∈fp,∀o,243.->493.)->tn i h'
 item:∀(X:Cx),X.prog=P->X.w=w->X.K=K->247.->∀(i:Nat) (pins:Sn) (s:aB) (σ:St) (H:Hp) (E:Sl),85.->(∀b∈fp,3e3 x9 H b)->tn i s.heap->J.go i H->
  04 P w X.A 559. (fun r s1=>∃u,r=7. u/\
   04 P w X.A 94.8 (fun _ s2=>∃x H',00 H' s2/\311. x/\J.Kt i H x H'/\tn 8.6 s2.heap/\∀b∈fp,084 H') E s1) E s
 done:∀(X:Cx),X.prog=P->X.w=w->X.K=K->247.->∀(i:Nat) (pins:Sn) (s:aB) (σ:St) (H:Hp) (E:Sl),85.->(∀b∈fp,3e3 x9 H b)->tn i s.heap->J.stop i H->
  04 P w X.A 559. (fun r s1=>r=none/\00 H s1) E s
 self:∀(A:Around) (i:Nat) (s:aB) (Q:Sl) (E:Sl),tn i s.heap->9.3 it s->04 P w A (97.4 it) Q E s
abbrev TI:=49.2 (It->284.)
def P4(X:Cx)(pins:Sn)(σ:St)(tg:Expr)(R:856. It)(d:Value)(j:aB):Prop:=
 ∃(it:Addr) (n:So) (q:20. Nat Heap) (J:It) (H':Hp),d= 02 it/\00 H' j/\29. Turn X.K tg J n it q/\q 0 j.heap/\(∀b∈n,3e3 x9 H' b)/\R J H'
def PI(X:Cx)(tg d:Expr)(j:TI):Prop:=
 ∀(pins:Sn) (s:aB) (σ:St) (H:Hp) (R:856. It),85.->j σ H R->
  882. (66. d) (fun v n=>4e0 (pyIter v) (3e3 P4 σ tg R) X.xe n) s
theorem Bp(j:39. it o)(q:o.cls= 088 n)(z:o.data= 52.1 vs)
 (B:4.3 n=false) (d:Q () s):709. 94.8:=by
 unfold letOwnedTupleGo;cases tg <;> first
  |exact aN d
  |(cases u <;> first
   |exact aN d
   |(refine aH (wpAny_load j ?_)
     rw[q,z]
     show 709. (905. (4.3 n&&vs[0]? ==7. (rawInt _)))
     rw[aM (by intro h;rw[B,Bool.false_and]at h;cases h)];exact aN d))
def Mt(K:aA)(a:Addr):It:=
 ⟨fun i H=>∃xs x,67.3/\051 x,64.5 cX,fun i H=>∃xs,67.3/\47.0 i ⟩
def OP(K:aA)(a:Addr):It:=
 ⟨fun i H=>∃xs x,67.2/\051 x,64.5 iD,fun i H=>∃xs,67.2/\47.0 i ⟩
def Ku(lo:Int)(n:Nat):It:=⟨fun i _=>i<n,fun i H x H'=>H'=H/\x= 59. (lo + i),fun i _=>n<=i⟩
theorem Gh{w:World}{K:aA}{tg:Expr}(a it:Addr):452. (Mt K a) (fun i h=>h.IsListIter it a i) where
 mem:=17.
 obj:=fun i h st b j=>by
  have e:b=it:=by simpa using j
  subst e;have 58.9:=st;exact 409.
 keep:=432. o o
 item:=by
  intro X D G J V i pins s σ H E I q st L;subst D G J;have⟨xs,x,B,M⟩:=L;have 154. N p:=60.1 B;have⟨u,Y,Z⟩:=N.get M;have 14.9:=97.3
  refine 81.0 wpAny_pyNext_list_item p.isList;have I1:00 H 1e1:=36.3;have 58.9:=id n;exact(136. I.Ia)
 done:=by
  intro X D G J V i pins s σ H E I q st L;subst D G J;have⟨xs,B,M⟩:=L;have 154. N p:=60.1 B;have 14.9:=97.3
  have hl:=N.length;exact 82.6 wpAny_pyNext_list_end p.isList
 self:=29.8 wpAny_pyIter_listiter
theorem Dl{w:World}{K:aA}{tg:Expr}(a it:Addr):452. (OP K a) (fun i h=>h.IsTupleIter it a i) where
 mem:=17.
 obj:=fun i h st b j=>by
  have e:b=it:=by simpa using j
  subst e;have 58.9:=st;exact 409.
 keep:=432. o o
 item:=by
  intro X D G J V i pins s σ H E I q st L;subst D G J;have⟨xs,x,B,M⟩:=L;have 154. N p:=11.8 B;have⟨u,Y,Z⟩:=N.get M;have 14.9:=97.3
  refine 81.0 wpAny_pyNext_tuple_item 60.8;have I1:00 H 1e1:=36.3;have 58.9:=id n;exact(136. I.Gf)
 done:=by
  intro X D G J V i pins s σ H E I q st L;subst D G J;have⟨xs,B,M⟩:=L;have 154. N p:=11.8 B;have 14.9:=97.3
  have hl:=N.length;exact 82.6 wpAny_pyNext_tuple_end 60.8
 self:=29.8 wpAny_pyIter_tupleiter
theorem Dm{K:aA}{tg:Expr}(it:Addr)(lo:Int)(n:Nat):452. (Ku lo n) (fun i h=>IsRangeIter h it (lo + (i:Nat) * 1) (47. n - (i:Nat)) 1) where
 mem:=17.
 obj:=fun i h st b d=>by
  have e:b=it:=848.
  subst e;exact(1.2 st<|fun v z=>by
   have S:Data.fields _=Data.cell v:=z;cases S)
 keep:=fun i h h' st k=>k it 060 _ st
 item:=by
  intro X B D G J i pins s σ H E I q st L;subst B D G;have⟨M,f1,f2,N,O,R⟩:=97.3
  have W:=Walks.range (prog:=X.prog) (w:=X.w) (86.9 J) it lo 1 n;refine W.item i s _ _ L st fun v h' tk U j V=>?_;obtain⟨t,rfl⟩:=U;have Y:00 H 3e8:=I.turned (fun b o d e=>V b o (848.) e) M f1 N O R;refine(5.<|Bp (s:= 3e8) (n:= "range_iterator") j rfl rfl (08)<|52.6 e24 (lo + i) Y ⟨t,?_⟩ 14.7 j<|fun b d=>(q b d).1);rw[Int.mul_one]
 done:=by
  intro X B D G J i pins s σ H E I q st L;subst B D G;have⟨M,f1,f2,N,O,R⟩:=97.3
  exact wpAny_pyNext_range_end (86.9 J) st (by have:n<=i:=L;lia) fun h' Z=>⟨rfl,6e6 (fun b o d e=>Z b o d e) M N O R⟩
 self:=29.8 wpAny_pyIter_rangeiter
section
variable{X:Cx}{tg:Expr}
def OQ(K:aA)(tl:TE):TI:=fun σ H R=>tl σ H (35.4 cX Mt)
def Qs(K:aA)(tl:TE):TI:=fun σ H R=>tl σ H (35.4 iD OP)
theorem fq{l:Expr}{tl:TE}(n:087 l tl):PI X tg l (OQ X.K tl):=by
 revert n;revert X tg l tl;intros X tg l tl n;intros pins s σ H R I h
 refine 610. n;rintro v d ⟨x,H1,j,z,B⟩;revert j z B;revert v d x H1;intros v d x H1 j z B;let⟨a,e,z1_,q⟩:=B;let 28. xs D:=z1_;(try clear z1_);subst e;cases z;let 154. G p:=j.list D;refine wpAny_pyIter_list p.isList ?_;refine(050 Gh);have e:b=d.heap.objs.size:=70.
 subst e;exact j.Ib 779.<|33.5
theorem Ic{l:Expr}{tl:TE}(n:087 l tl):PI X tg l (Qs X.K tl):=by
 intro pins s σ H R I h;refine 610. n;rintro v d ⟨x,H1,j,z,B⟩;have⟨a,e,z1_,q⟩:=B;obtain⟨xs,D⟩:=z1_;subst e;cases z;have 154. G p:=j.tuple D;refine wpAny_pyIter_tuple (show 615. d.heap.IsTuple a from p) ?_;refine(050 Dl);have e:b=d.heap.objs.size:=70.
 subst e;exact j.Ib 779.<|33.5
theorem Bq{pins:Sn}{σ:St}{H:Hp}{s:aB}{R:856. It}{E:Sl}{lo hi:Int}{t u v:Tok}{tk:Nat}(I:85.)(h1: -(2 ^ 62)<=lo)(h2:lo<2 ^ 62)(j: -(2 ^ 62)<=hi)(n:hi<2 ^ 62)
 (q:R (Ku lo (hi - lo).toNat) H):4e0 (pyIter (89.)) (3e3 P4 σ tg R) E (894. s.heap.push 3.4):=by
 refine wpAny_pyIter_range (IsRange.new ..) (small_one h1 h2 j n) ?_;have d:00 H (894. s.heap.push 3.4):=I.kept (643. o);refine(e55 (887.) [887.] _ _ H rfl (d.kept (t':=tk) (643. o)) (Dm _ lo (hi - lo).toNat) ?_ (63. b D)<|q)
 ·have z:lo + 47. (0:Nat) * 1=lo:=44.
  have B:41.1=Builtin.Range.rangeSize lo hi 1:=by rw[rangeSize_one];split <;> grind
  show IsRangeIter _ _ (lo + 47. (0:Nat) * 1) (41.1) 1
  rw[z,B];exact 794.
 have e:b=887.:=70.
 subst e;exact d.Ib 779.<|d.fh.fresh<|aU _
def OR(ta:TA):TI:=fun σ H R=>32.8 fun vs H1=>∃j:Int,vs=[59. j]/\ -(2 ^ 62)<=j/\j<2 ^ 62/\R (Ku 0 j.toNat) H1
def OS(ta:TA):TI:=fun σ H R=>32.8 fun vs H1=>∃i j:Int,vs=[50.3,59. j]/\(-(2 ^ 62)<=i/\i<2 ^ 62/\ -(2 ^ 62)<=j/\j<2 ^ 62)/\R (Ku i (j - i).toNat) H1
theorem t9{ta:TA}{p pos:Pos}(n:Gl X "range")(z:X.mg "range" =none)(B:PA X [a] ta)(hs:45.3 a a:=by rfl):PI X tg (831. "range" [a]) (OR ta):=by
 revert n z B hs;revert X tg a ta p pos;intros X tg a ta p pos n z B hs
 intros pins s σ H R I h
 refine Call_<|v9 I n z boot_range<|pb (020 B h ?_) hs rfl;rintro us M ⟨vs,H1,D,G,d⟩;let⟨j,e,d,J,q⟩:=d;subst e;cases G with
 |cons r L=>cases L;let 2.5 t:=r;(try clear r);exact call_range_1<|Bq D 2.8 2.8 d J<|95.
theorem ua(B:Gl X "range")(D:X.mg "range" =none)(G:PA X [a,b] ta)(hs:41. [a,b]=[173. a,173. b]:=by rfl)(d:45.3 b b:=by rfl):
 PI X tg (831. "range" [a,b]) (OS ta):=by
 revert B D G hs d;revert X tg a b ta p pos;intros X tg a b ta p pos B D G hs d
 intros pins s σ H R I h
 refine Call_<|v9 I B D boot_range<|pb (020 G h ?_) 2.8 (by rw[d];rfl);rintro us U ⟨vs,H1,J,L,n⟩;revert J L n;revert us U vs H1;intros us U vs H1 J L n;let⟨i,j,e,z1r,q⟩:=n;obtain⟨n,M,N,O⟩:=z1r;subst e;cases L with
 |cons r z=>
  cases z with
  |cons S z=>cases z;let 2.5 t:=r;(try clear r);let 2.5 t':=S;(try clear S);exact call_range_2<|Bq J n M N O q
def Qt(q:TI)(g:TG)(tb:TS):TS:=fun D σ H=>q σ H fun J H1=>∃W:Nat->214. St,(∃m,W 0 m σ H1)/\∀i m σ H,W i m σ H->
 (J.stop i H/\916.)\/(J.go i H/\∃N:856. St,(∀d H',N d H'->∃n,n<m/\W 8.6 n d H')/\8.1 J.Kt)
def wc(d:So)(h:Heap):Sn:=d.filterMap fun b=>2e6 h.get? b fun o=>(b,o)
theorem rD(j:b∈d)(e:243.):(b,o)∈wc d h:=kM.mpr<|e11 b j<|59.9
theorem Gi(j:p∈wc d h):p.1∈d/\64. p.1 p.2:=by
 have⟨b,n,e⟩:=kM.mp j
 match q:h.get? b with
 |none=>simp_all
 |7. o=>grind
theorem Inv.pinned(I:85.)(B:∀b∈j,3e3 x9 H b)(D:∀b∈j,∃o,677./\∀v,o.data≠ .cell v):11.7 X (pins++wc j s.heap):=
 I.qk fun p G=>(bT.mp G).elim (fun z=>49.5<|dm _ z) fun z=>by revert I B D G z;revert X pins σ H s j p;intros X pins σ H s j p I B D G z;obtain⟨n,e⟩:=Gi z;have⟨J,f1,f2,_⟩:=B p.1 n;have⟨o,q,d⟩:=D p.1 n;rw[e]at q;cases q;exact⟨e,J,f1,f2,d⟩
theorem Inv.sq(I:11.7 X (pins++pl)):85.:=I.qk fun p d=>49.5<|dm _<|ik _ d
theorem gE(Y:55.3)(hc:247.)(hi:PI X tg q wi)(hg:PG X tg g)(z:Dg X S tb)
 (hs:159. q:=by intro _;rfl):PS X (.For tg q S [] pos) (Qt wi g tb):=by
 revert Y hc hi hg z hs;revert X tg q wi g S tb pos;intros X tg q wi g S tb pos Y hc hi hg z hs;intros pins s σ H D I h
 refine wpAny_For (610. hi) hs;intros v s1 h1;refine 40.0 h1;intros a9 s2 h2
 refine x5_5 h2 fun it Z tn J H2 e I2 T a5 f2 zz_=>278. fun W z1_ a0=>?_;obtain⟨m0,w0⟩:=z1_;revert e I2 T a5 f2 zz_ a0 w0;revert it Z tn J H2 W m0;intros it Z tn J H2 W m0 e I2 T a5 f2 zz_ a0 w0;subst e;have B:∀{H':Hp},94.5->∀b∈Z,3e3 x9 H' b:=fun hn b z=>⟨hn b z,(f2 b z).2⟩;refine codeAny_forLoop_any (fun n s'=>∃i G H',748. G/\tn i s'.heap/\94.5/\W i n G H') ?_ m0<|e33 0 σ H2 I2 a5 (fun b z=>(f2 b z).1)<|w0;rintro n s3 y1_;have⟨i,L,H3,I3,a3,a4,w3⟩:=y1_;revert y1_ I3 a3 a4 w3;revert n s3 i L H3;intros n s3 i L H3 y1_ I3 a3 a4 w3;rcases a0 i n L H3 w3 with⟨stop,qn⟩|⟨go,N,hN,step⟩
 ·refine jQ Y<|58.1 T.done stop;rintro r s4 ⟨hr,I4⟩;subst hr;exact qM<|e21 L H3 I4<|qn
 revert hN step;revert N;intros N hN step;refine jQ Y<|58.1 T.item go;rintro r s4 ⟨u,hr,h4⟩;subst hr;refine jQ Y<|40.0 h4;rintro _ s5 ⟨x,H5,I5,r5,y5,V,a6⟩;have a7:=I5.pinned (B a6)<|T.obj _ _ V;refine jQ Y<|40.0 (hg _ s5 L H5 x u _ a7 r5<|step x H5 y5);rintro _ s6 ⟨a8,H6,I6,q6⟩;refine jQ Y<|fQ (z _ s6 a8 H6 _ I6 q6) fun f s7 U=>?_;have M:∀{j:St} {O:Hp},Inv X (pins++wc Z s5.heap) j O s7->N j O->∃m,m<n/\∃i G H',3e3 Inv G H' s7/\tn i s7.heap/\94.5/\W i m G H':=fun{j O} R n7=>by have⟨m',hm,w7⟩:=hN j O n7;refine(e11 m' hm<|e33 8.6 j O R.sq (015 T.keep V fun b z o e=>(58.8 R.pin z).1) (63. b z)<|w7);have⟨o,e,d⟩:=T.obj _ _ V b z;exact(58.8 R.pin z).2.1
 cases f with
 |next=>have⟨j,O,R,n7⟩:=U;exact M R n7
 |cont=>have⟨j,O,R,n7⟩:=U;exact M R n7
 |brk=>have⟨j,O,R,U⟩:=U;exact(e21 j O R.sq<|U)
 |ret v=>have⟨x7,j,O,R,r7,U⟩:=U;exact(e32 x7 j O R.sq r7<|U)
#check 0
theorem gP{K:aA}{a:Addr}{xs:05 V}{g:TG}{tb:TS}{D:Ends}{σ:St}{H:Hp}(d:214. St)(G:d 0 σ H)(I:∀i σ H,933. i->d i σ H->67.3)
 (hs:∀i x σ H,051 x->039 x) (J:892. d):
 ∃W:Nat->214. St,25.0/\∀i m σ H,W i m σ H->
  ((Mt K a).stop i H/\916.)\/((Mt K a).go i H/\506. Mt):=by
 refine(183.);rintro i m σ H y1_;have 684.:=y1_;have q:=I i σ H hi p;by_cases z:237.
 ·refine 112.;obtain⟨e,y⟩:=y
  cutsat
 have e:317. i:=21.
 subst e;exact 60.3
theorem Ff{K:aA}{a:Addr}{xs:05 V}{g:TG}{tb:TS}{D:Ends}{σ:St}{H:Hp}(d:214. St)(G:d 0 σ H)(I:∀i σ H,933. i->d i σ H->67.2)
 (hs:∀i x σ H,051 x->039 x) (J:892. d):
 ∃W:Nat->214. St,25.0/\∀i m σ H,W i m σ H->
  ((OP K a).stop i H/\916.)\/((OP K a).go i H/\506. OP):=by
 refine(183.);rintro i m σ H y1_;have 684.:=y1_;have q:=I i σ H hi p;by_cases z:237.
 ·refine 112.;obtain⟨e,y⟩:=y
  cutsat
 have e:317. i:=21.
 subst e;exact 60.3
theorem m8{lo:Int}{n:Nat}{g:TG}{tb:TS}{D:Ends}{σ:St}{H:Hp}(d:214. St)(G:d 0 σ H)
 (hs:∀i σ H,i<n->039 (59. (lo + i))) (I:∀σ H,d n σ H->916.):
 ∃W:Nat->214. St,25.0/\∀i m σ H,W i m σ H->
  ((Ku lo n).stop i H/\916.)\/((Ku lo n).go i H/\∃N:856. St,(∀q H',N q H'->∃B,B<m/\W 8.6 B q H')/\8.1 (Ku lo n).Kt):=by
 refine(e11 (fun i m σ H=>m=n - i/\i<=n/\d i σ H) (e12 n 960. 81.8<|G)<| ?_);rintro i m σ H y1_;have 684.:=y1_;by_cases z:i<n
 ·refine .inr ⟨z,12.0 d (fun q H' J=>(10.3 n z<|J))⟩;obtain⟨e,y⟩:=y
  cutsat
 have e:i=n:=21.
 subst e;exact 97. ⟨aU _,I σ H p⟩
abbrev R2:=V->V->20. Hp VK
def qF(X:Cx)(f:325.)(r:R2):Prop:=
 ∀(pins:Sn) (s:aB) (σ:St) (H:Hp) (x y:V) (v u:Value) (Q:VK),85.->19.8->80.4->r x y H Q->
  3.8 (f v u) EP s
def Qu(X:Cx)(f:Value->Sem Value)(r:V->20. Hp VK):Prop:=
 ∀(pins:Sn) (s:aB) (σ:St) (H:Hp) (x:V) (v:Value) (Q:VK),85.->19.8->r x H Q->
  3.8 (f v) EP s
def jY(X:Cx)(f:Value)(r:5e4):Prop:=
 ∀(pins:Sn) (s:aB) (σ:St) (H:Hp) (xs:05 V) (us:Sj) (Q:VK),85.->091 xs->r xs H Q->
  27.2 f us
def Mu(r:R2)(ta tb:TE):TE:=fun σ H Q=>32.8 fun x H1=>tb σ H1 fun y H2=>r x y H2 Q
def RH(r:V->20. Hp VK)(ta:TE):TE:=fun σ H Q=>32.8 fun x H1=>r x H1 Q
def rI(C:20. Int Int)(g:Int->Int->V):R2:=fun x y H Q=>∃i j,x= 50.3/\y= 59. j/\C i j/\Q 88.5 H
def Kv(g:Int->Int->V):R2:=fun x y H Q=>∃i j,x= 50.3/\y= 59. j/\Q 88.5 H
def rU(g:Int->V):V->20. Hp VK:=fun x H Q=>∃i,x= 50.3/\Q (g i) H
section
variable{X:Cx}{a b c:Expr}{ta tb tc:TE}{pos:Pos}
theorem MX(q:627.)(z:57.0){H:Hp}{R:V->856. V}(I:85.)
 (h:32.8 fun x H1=>tb σ H1 fun y H2=>R x y H2) {Q:Sl} {f:325.}
 (J:∀v u n x y H2,00 H2 n->19.8->80.4->R x y H2->882. (f v u) Q n):
 30.4 (fun u j=>4e0 (f v u) Q X.xe j):=by
 revert q z I h J;revert X a b ta tb pins σ s H R Q f;intros X a b ta tb pins σ s H R Q f q z I h J
 refine 610. q;rintro v B ⟨x,H1,D,L,G⟩;refine 40.0 (27.1 z B D G);rintro u n ⟨y,H2,M,N,O⟩
 cutsat
theorem eQ{r:R2}(d:163. op r)(j:627.)(n:57.0):087 (.BinOp a op b pos) (Mu r ta tb):=by intro pins s σ H Q I h;exact wpAny_BinOp<|MX j n I h fun v u z x y H2 B D G q=>58.2 d z Q B D G q
theorem Ie(d:Qu X (unaryOp op) r)(j:627.):087 (.UnaryOp op a pos) (RH r ta):=by intro pins s σ H Q I h;exact UnaryOp_<|27. j fun v n ⟨x,H1,q,z,B⟩=>6.8 d n H1 x v Q q z B
theorem Qv{f:325.}{C:20. Int Int}{g:Int->Int->Int}
 (d:∀(i j:Int) (t u:Tok) (s:aB) (Q:Sl) (E:Sl),C i j->523.):
 qF X f (rI C (29.7 88.5)):=by
 intro pins s σ H x y v u Q I n z h;have⟨i,j,rfl,rfl,B,q⟩:=h;obtain⟨t,rfl⟩:=n;obtain⟨t',rfl⟩:=z;exact d i j t t' s _ _ B<|107. 88.5 q
theorem OT{f:325.}{g:Int->Int->Int}
 (d:∀(i j:Int) (t u:Tok) (s:aB) (Q:Sl) (E:Sl),523.):
 qF X f (Kv (29.7 88.5)):=by
 intro pins s σ H x y v u Q I n z h;have⟨i,j,rfl,rfl,q⟩:=h;obtain⟨t,rfl⟩:=n;obtain⟨t',rfl⟩:=z;exact d i j t t' s _ _<|107. 88.5 q
theorem KG{f:325.}{g:Int->Int->Bool}
 (d:∀(i j:Int) (t u:Tok) (s:aB) (Q:Sl) (E:Sl),547. 88.5->80.1):
 qF X f (Kv fun i j=> .bl 88.5):=by
 intro pins s σ H x y v u Q I n z h;have⟨i,j,rfl,rfl,q⟩:=h;obtain⟨t,rfl⟩:=n;obtain⟨t',rfl⟩:=z;exact d i j t t' s _ _<|212. 88.5<|q
def Qw(i j:Int):Prop:=0<j/\j<1073741824
def MY(i j:Int):Prop:=(-(2 ^ 64)<i/\i<2 ^ 64)\/(-(2 ^ 64)<j/\j<2 ^ 64)
theorem MY.ok(h:MY i j):IntMulOk i j:=by
 rcases h with⟨h1,h2⟩|⟨h1,h2⟩
 ·exact .of_left (intBits_le_64 h1 h2)
 exact .of_right (intBits_le_64 h1 h2)
theorem iI:163. .Add (Kv (29.7 (i + j))):=255. OT add_int
theorem jC:163. .Sub (Kv (29.7 (i - j))):=255. OT sub_int
theorem Dn:163. .Mult (rI MY (29.7 (i * j))):=Qv fun _ _ _ _ _ _ _ d q=>mul_int q d.ok
theorem KH:163. .FloorDiv (rI Qw (29.7 (i / j))):=Qv fun i j _ _ _ _ _ d q=>by have h1:47. 0<j:=d.1;have h2:j<1073741824:=d.2;exact floordiv_int 2.8 (by rw[Int.fdiv_eq_ediv_of_nonneg i 060];exact q)<|.inl (PyProof.noPylong_small<|70.)
theorem MZ:163. .Mod (rI (fun _ j=>0<j) (29.7 (i % j))):=Qv fun i j _ _ _ _ _ d q=>by have h1:47. 0<j:=d;exact mod_int' 2.8<|by rw[Int.fmod_eq_emod_of_nonneg i 060];exact q
theorem RI{f:Value->Sem Value}{g:Int->Int}
 (d:∀(i:Int) (t:Tok) (s:aB) (Q:Sl) (E:Sl),Q (59. (g i) s.toks) (4.4 1)->4e0 (f (50.3 t)) Q E s):
 Qu X f (rU fun i=> 59. (g i)):=by
 intro pins s σ H x v Q I j h;have 69. i q:=h;obtain⟨t,rfl⟩:=j;exact d i t s _ _<|107. (g i) q
theorem Dq:Qu X (unaryOp .USub) (rU fun i=> 59. (-i)):=RI fun _ _ _ _ _ q=>neg_int q
#check 0
def OU:V->V->Bool
 | .gm,.gm=>true| .gm,59. _=>true| 59. _,.gm=>true| .gm,.bl _=>true| .bl _,.gm=>true| .gm,.str _=>true| .str _,.gm=>true
 | 59. _,59. _=>true| .bl _,.bl _=>true| .str _,.str _=>true| .Bm _,.Bm _=>true
 | 59. _,.str _=>true| .str _,59. _=>true| .bl _,.str _=>true| .str _,.bl _=>true
 |_,_=>false
def Rq:R2:=fun x y H Q=>OU x y=true/\065 (66.9) H
def RJ:R2:=fun x y H Q=>OU x y=true/\065 (! 66.9) H
theorem Fg:2e5 i j=(i==j):=by
 lia
theorem Ig:61. (V.bl i=V.bl j)=(i==j):=by
 lia
theorem Fh:61. (V.str i=V.str j)=(i==j):=by
 lia
theorem Fj:61. (V.Bm i=V.Bm j)=(i.toList==j.toList):=by rw[eB];simp_all
section
variable{X:Cx}{a b c:Expr}{ta tb tc:TE}{pos:Pos}
theorem fi(I:85.)(q:065 k H)(e:k=d):396. (.bool d) s:=by subst e;exact(212. k<|q)
theorem f7:1e7 .Eq Rq:=by
 revert X;intros X;intros pins s σ H x y v u Q I n d h
 obtain⟨hs,q⟩:=h;cases x with
 |gm=>
  cases n;cases y with
  |gm=>cases d;exact 5.4 EqNone.eq_none_none
  |bl j=>cases d;exact 5.4 EqNone.eq_none_bool
  |int j=>obtain⟨t',rfl⟩:=d;exact 5.4 EqNone.eq_none_int
  |str j=>obtain⟨t',rfl⟩:=d;exact 5.4 EqNone.eq_none_str
  |_=>exact 84.
 |bl i=>
  cases n;cases y with
  |gm=>cases d;exact 5.4 EqNone.eq_bool_none
  |bl j=>cases d;exact eq_bool<|fi I q Ig
  |str j=>obtain⟨t',rfl⟩:=d;exact 5.4 EqMixed.eq_bool_str
  |_=>exact 84.
 |int i=>
  obtain⟨t,rfl⟩:=n;cases y with
  |gm=>cases d;exact 5.4 EqNone.eq_int_none
  |int j=>obtain⟨t',rfl⟩:=d;exact eq_int<|fi I q Fg
  |str j=>obtain⟨t',rfl⟩:=d;exact 5.4 EqMixed.eq_int_str
  |_=>exact 84.
 |str i=>
  obtain⟨t,rfl⟩:=n;cases y with
  |gm=>cases d;exact 5.4 EqNone.eq_str_none
  |bl j=>cases d;exact 5.4 EqMixed.eq_str_bool
  |int j=>obtain⟨t',rfl⟩:=d;exact 5.4 EqMixed.eq_str_int
  |str j=>obtain⟨t',rfl⟩:=d;exact eq_str<|fi I q Fh
  |_=>exact 84.
 |Bm i=>
  obtain⟨t,rfl⟩:=n;cases y with
  |Bm j=>obtain⟨t',rfl⟩:=d;exact W.eq_bytes<|fi I q Fj
  |_=>exact 84.
 |_=>cases y <;> exact 84.
theorem wd:1e7 .NotEq RJ:=by
 revert X;intros X;intros pins s σ H x y v u Q I n d h
 obtain⟨hs,q⟩:=h;cases x with
 |gm=>
  cases n;cases y with
  |gm=>cases d;exact 5.4 EqNone.ne_none_none
  |bl j=>cases d;exact 5.4 EqNone.ne_none_bool
  |int j=>obtain⟨t',rfl⟩:=d;exact 5.4 EqNone.ne_none_int
  |str j=>obtain⟨t',rfl⟩:=d;exact 5.4 EqNone.ne_none_str
  |_=>exact 84.
 |bl i=>
  cases n;cases y with
  |gm=>cases d;exact 5.4 EqNone.ne_bool_none
  |bl j=>cases d;exact ne_bool<|85.5 Ig
  |str j=>obtain⟨t',rfl⟩:=d;exact 5.4 EqMixed.ne_bool_str
  |_=>exact 84.
 |int i=>
  obtain⟨t,rfl⟩:=n;cases y with
  |gm=>cases d;exact 5.4 EqNone.ne_int_none
  |int j=>obtain⟨t',rfl⟩:=d;exact ne_int<|85.5 Fg
  |str j=>obtain⟨t',rfl⟩:=d;exact 5.4 EqMixed.ne_int_str
  |_=>exact 84.
 |str i=>
  obtain⟨t,rfl⟩:=n;cases y with
  |gm=>cases d;exact 5.4 EqNone.ne_str_none
  |bl j=>cases d;exact 5.4 EqMixed.ne_str_bool
  |int j=>obtain⟨t',rfl⟩:=d;exact 5.4 EqMixed.ne_str_int
  |str j=>obtain⟨t',rfl⟩:=d;exact ne_str<|85.5 Fh
  |_=>exact 84.
 |Bm i=>
  obtain⟨t,rfl⟩:=n;cases y with
  |Bm j=>obtain⟨t',rfl⟩:=d;exact W.ne_bytes<|85.5 Fj
  |_=>exact 84.
 |_=>cases y <;> exact 84.
theorem m9:440. .Lt (i<j):=255. KG lt_int
theorem ko:440. .LtE (i<=j):=255. KG le_int
theorem lB:440. .Gt (j<i):=255. KG gt_int
theorem Ih:440. .GtE (j<=i):=255. KG ge_int
theorem qF.or(h:qF X f r)(h':qF X f d):qF X f (fun x y H Q=>r x y H Q\/d x y H Q):=by
 intro pins s σ H x y v u Q I j n q;rcases q with q|q
 ·exact 87.5 h j n q
 exact 87.5 h' j n q
theorem cD(b)(h:op≠ .In:=by decide)(h2:op≠ .NotIn:=by decide):145.:=wa b h h2
theorem iE{r:R2}(d:1e7 op r)(j:627.)(n:57.0)(z:145.):087 502. (Mu r ta tb):=by intro pins s σ H Q I h;exact wpAny_Compare1 (MX j n I h fun v u B x y H2 D G J q=>58.2 d B Q D G J q) z
def Fl(t:TE):TT:=fun σ H Q=>32.9 fun x H'=>∃k,x= .bl k/\Q k H'
theorem cA(d:1e7 op r)(j:627.)(n:57.0)(q:145.):PT X 502. (Fl (Mu r ta tb)):=by
 revert d j n q;revert X a b ta tb pos op r;intros X a b ta tb pos op r d j n q
 intros pins s σ H Q I h
 refine wpAny_isTrue_Compare1 (610. j) q;rintro v B ⟨x,H1,D,G,J⟩;refine fQ (27.1 n B D J) fun u L ⟨y,H2,M,N,O⟩=>
  40.0 (58.2 d L _ M G N O);rintro c Y ⟨z,R,S,U,k,e,V⟩
 subst e;cases U;exact eT<|e11 R S<|V
def Ii(r j:R2)(ta tb tc:TE):TE:=fun σ H Q=>32.8 fun x H1=>tb σ H1 fun y H2=>r x y H2 fun z d=>∃k,z= .bl k/\
 (if 4e2 k then tc σ d fun n q=>j y n q Q else 065 false d)
theorem su(L:1e7 op r)(n:1e7 j q)(M:627.)(N:57.0)(O:087 c tc)
 (R:lastMarks [op,j] [b,c]=false:=by with_unfolding_all rfl):087 (.Compare a [op,j] [b,c] pos) (Ii r q ta tb tc):=by
 revert L n M N O R;revert X a b c ta tb tc pos op r j q;intros X a b c ta tb tc pos op r j q L n M N O R
 intros pins s σ H Q I h
 refine Compare_chain (610. M) R;rintro v S ⟨x,H1,U,V,Y⟩;refine chain_link<|40.0 (27.1 N S U Y);rintro u Z ⟨y,H2,I2,B,q2⟩;refine 40.0 (58.2 L Z _ I2 V B q2);rintro d s3 ⟨z,D,G,r3,k,e,J⟩;subst e;cases r3;refine eT ?_;cases k with
 |false=>exact ite_ff<|10.2 false D G rfl<|J
 |true=>refine 97.9 chain_last;rintro w' s4 ⟨z',H4,I4,r4,q4⟩;exact 6.8 n s4 H4 y z' u w' Q I4 B r4 q4
theorem sv(L:1e7 op r)(n:1e7 j q)(M:627.)(N:57.0)(O:087 c tc)
 (R:lastMarks [op,j] [b,c]=false:=by with_unfolding_all rfl):PT X (.Compare a [op,j] [b,c] pos) (Fl (Ii r q ta tb tc)):=by
 intro pins s σ H Q I h;refine isTrue_chain (610. M) R;rintro v S ⟨x,H1,U,V,Y⟩;refine test_link<|40.0 (27.1 N S U Y);rintro u Z ⟨y,H2,I2,B,q2⟩;refine 40.0 (58.2 L Z _ I2 V B q2);rintro d s3 ⟨z,D,G,r3,k,e,J⟩;subst e;cases r3;refine eT ?_;cases k with
 |false=>have⟨k',e',q'⟩:=J;cases e';exact ite_ff<|e11 D G<|q'
 |true=>refine 97.9 test_last;rintro w' s4 ⟨z',H4,I4,r4,q4⟩;refine 40.0 (6.8 n s4 H4 y z' u w' _ I4 B r4 q4);rintro d' s5 ⟨z2,H5,I5,r5,k2,e2,q5⟩;subst e2;cases r5;exact eT<|e11 H5 I5<|q5
theorem zQ:(sizeLine:Nat)<2 ^ 63:=by rw[Dc];decide
theorem vals1(r:091 [x]):∃u,us=[u]/\311. x:=by
 cases r with
 |cons d j=>cases j;exact(5.<|d)
theorem zR:jY X (088 "str") (fun xs H Q=>∃i,xs=[50.3]/\i.natAbs.log2<1920/\Q (.str (toString i)) H):=by intro pins s σ H xs us Q I r h;have⟨i,rfl,hz,q⟩:=h;have⟨u,rfl,2.5 t ⟩:=83.8;exact P.str_of_int hz<|e22 (.str _) H (914.) (305. _)<|q
theorem Ij:738. "ord" (fun xs H Q=>∃x,967. .str):=by intro pins s σ H xs us Q I r h;have⟨x,rfl,hz,q⟩:=h;have⟨u,rfl,2.5 t ⟩:=83.8;exact ord_of_one hz<|107. _ q
#check 0
structure Dr(h:Heap)(x dx C:Addr)(mA:Sk):Prop where
 obj:64. x (W.instObj C dx)
 ns:h.Ns1 dx mA
 ne:dx≠x
theorem Gj{h:Heap}{dx:Addr}{mA:Sk}(n:h.Ns1 dx mA):∃j,64. dx j/\83.1 j:=by
 have⟨o,es,ep,B,hd,D,_,G⟩:=n;refine(e11 o B<|4e7 name);have e:=G name;unfold nsFind findBy at e;rw[<-Array.find?_toList]at e;unfold W.lookIn;rw[hd];dsimp only;split
 ·grind
 rename_i q;rw[q]at e;have a:es.toList.any (·.refKey)=false:=by rw[List.any_eq_false];intro y I;have⟨z,t,d⟩:=D y<|xW.mp I;simp[DictEntry.refKey,d]
 grind
theorem Dr.look(I:Dr h x dx C mA):∃d,W.InstAt h x (W.instObj C dx) C (7. d)/\83.1 d:=
 let⟨d,j,n⟩:=Gj I.ns
 (e11 d ⟨I.obj,rfl,rfl,j⟩<|n)
section
variable{prog:aD}{w:World}{A:Around}{E:Sl}{s:aB}{K:aA}{x dx C f:Addr}{mA:Sk}{name:Str}{v:Value}
theorem get_map(X:383. K.In)(I:93.5)(n:11.1 name)(q:55.1)
 (z:025 name=7. none) (B:mA name=7. v) (j:W.handedIn v=true) (h:Q v (4.4 1)):
 40. (getAttr (02 x) name d):=by
 have⟨D,J,G⟩:=I.look;exact W.get_value X J (yO n).1 (W.findObj_own q z rfl<|70.) j h
theorem Ik(X:383. K.In)(I:93.5)(d:11.1 name)
 (j:025 name=001 727.) (n:78.2) (q:095 mA name) (h:Q (02 f,[02 x]) s):
 40. (getMethod (02 x) name pl):=by
 have⟨z,J,B⟩:=I.look;exact W.method_fn X J (yO d).1 (yO d).2 j (kO.mp n) (by show(W.lookIn name z).map (·.isSome)=7. false;rw[B,q];rfl) h
theorem KI(X:383. K.In)(I:93.5)
 (hs:930.) (D:W.plainOver K C=true) (G:W.takerIn K C name=7. none) (L:55.1)
 (M:Within mA ns) (hsz:7.3 ns.length)
 (h:∀h',Dr h' x dx C (fun y=>if y=name then 7. v else mA y)->7e5 dx h'->Q () {s with heap:=h',toks:=s.toks + 2}):
 40. (setAttr (02 x) name v):=by
 revert X I hs D G L M hsz h;revert prog w A E s K x dx C mA name v ns Q;intros prog w A E s K x dx C mA name v;intros ns Q X I hs D G L M hsz h;let⟨U,J,V⟩:=I.look;refine W.set_plain X J hs<|W.osa_open (s:= 4.4 1) (r:=none) X J D G ?_;intros b
 let⟨Y,N,n⟩:=W.any_some L;have O:39. x ⟨.ref C,some dx,.plain, #[]⟩:=I.obj;refine aH<|aN<|aH<|aH<|wpAny_loadPart O<|aH<|W.Looks.here (s:= 4.4 1) (W.looks_clsIn X N) ?_;rw[n];refine aN (a:=7. dx)<|aH<|aN<|78.0;refine wpAny_nsSet1 (s:= 4.4 1) I.ns ?_;intros h' d j
 let⟨Z,R,S,q,z,B⟩:=d.count<|Within.cons name v M;refine aH<|wpAny_lookBehind q (by rw[z];exact pastItsLine_dict<|bU B<|by rw[aZ];cutsat) ?_;exact aN<|h _ ⟨(j.2 _<|eC I.ne).trans I.obj,d,I.ne⟩ j
theorem Il(X:383. K.In)(n:W.makesIn K C=true)
 (hi:025 "__init__" =001 727.) (q:W.typeIn K 780.=7. (088 "function"))
 (h:codeAny 316. (9e3 vs j) (.call 780. ⟨ 02 (65.)::vs,j⟩) (W.InitBack (65.) R)
  71.0):
 98.7 (.call (02 C) ⟨vs,j⟩):=by
 obtain⟨z,g,d,t,os⟩:=s;exact W.make_core (W.makes_of X n) (W.looks_findIn X hi) (fun self=>W.bind_fn X self q) (8.5) h
#check 0
def dh(f:Str)(v:V):79.9->79.9
 | []=>[(f,v)]
 |(g,x)::r=>if g=f then(g,v)::r else(g,x)::dh f v r
theorem u0(f g)(v):∀fs,(dh f v fs).lookup g=if g=f then 7. v else fs.lookup g
 | []=>by
  show List.lookup g [(f,v)]=_
  grind
 |(k,x)::r=>by have d:=u0 f g v r;rw[029];grind
theorem ub(f)(v):∀fs,f∈(dh f v fs).map 0.6/\∀g,g∈fs.map 0.6->g∈(dh f v fs).map 0.6
 | []=>⟨ 17.,fun g h=>17. ⟩
 |(k,x)::r=>by obtain⟨d,j⟩:=ub f v r;rw[029];grind
theorem u4(f)(v):∀fs,(dh f v fs).length<=fs.length + 1
 | []=>17.
 |(k,x)::r=>by have d:=u4 f v r;rw[029];grind
theorem pd.some_of(r:pd (7. v) o):∃u,o=7. u/\80.5:=by
 cases o with
 |none=>exact 629.
 |some u=>exact(65.1 u<|r)
theorem pd.none_of(r:pd none o):o=none:=by
 cases o with
 |none=>rfl
 |some u=>exact 629.
theorem Gk(r:80.5):W.handedIn u=true:=by
 cases v with
 |gm=>cases(show u=Value.none from r);rfl
 |bl b=>cases(show u=86.3 b from r);rfl
 |int i=>obtain⟨t,e⟩:=(345. Value.int i);cases e;rfl
 |str x=>obtain⟨t,e⟩:=(345. Value.str x);cases e;rfl
 |Bm b=>obtain⟨t,e⟩:=(345. Value.bytes b);cases e;rfl
 |Mn b=>obtain⟨t,e⟩:=(345. Value.float b);cases e;rfl
 |ref a=>cases(show 62.2 from r);rfl
 |ty n=>cases(show u=Value.type n from r);rfl
section
variable{P:aD}{w:World}{H H':Hp}{h h':Heap}{a C dx:Addr}{fs fs':79.9}
theorem vP(j:12.6)(e:H a=137.):∃mA,Dr h a dx C mA/\(806.)/\Within mA (fs.map 0.6)/\fs.length<=1000/\768. dx a:=by have⟨d,z,ne,B,⟨mA,n,r,q⟩⟩:=(show 824. (42.7 fs)from j a _ e);exact(e14 mA ⟨B,n,ne⟩ r q z<|d)
#check 0
structure Ds(K:aA)(C:Addr):Prop where
 pg:11.1 Str.empty
 hd:55.1
 po:W.plainOver K C=true
 sa:930.
theorem Ds.get{K:aA}{C:Addr}(c:Ds K C)(f:Str):11.1 f:=c.pg
def rE(K:aA)(C:Addr)(f:Str):Prop:=025 f=7. none
theorem rE.OV{K:aA}{C:Addr}{f:Str}(n:rE K C f):W.takerIn K C f=7. none:=by unfold W.takerIn;rw[show 025 f=7. none from n];rfl
structure Meth(K:aA)(C:Addr)(m:Str)(f:Addr):Prop where
 at_:025 m=001 727.
 fn:78.2
 kp:464. K f
section
variable{X:Cx}{pins:Sn}{σ:St}{H:Hp}{s:aB}{a C dx:Addr}{fs:79.9}{f:Str}{v:V}{A:Around}{E:Sl}
theorem Dt(I:85.)(e:H a=137.)(c:Ds X.K C)(n:rE X.K C f)(l:fs.lookup f=7. v)
 (h:∀u s',00 H s'->80.5->Q u s'):172. (getAttr 031 f b):=by
 have⟨mA,O,r,_,_,_⟩:=74.9 vP;have⟨u,j,d⟩:=23.0 (o:=mA f)<|70.
 exact get_map I.so O (c.get f) c.hd n j (Gk d)<|h u _ (914.) d
theorem we(I:85.)(e:H a=137.)(c:Ds X.K C)(k:Meth X.K C m g)(l:095 fs.lookup m)
 (h:Q (02 g,[02 a]) s):172. (getMethod 031 m pl):=by
 have⟨mA,O,r,_,_,_⟩:=74.9 vP;have d:095 mA m:=pd.none_of<|70.
 exact Ik I.so O (c.get m) k.at_ k.fn d h
theorem Du(I:85.)(e:H a=137.)(c:Ds X.K C)(n:rE X.K C f)(R:fs.length<1000)(D:80.4)
 (h:867. (8.7 a (42.7 (dh f y fs))) ()):172. (setAttr 031 f u):=by
 have⟨mA,O,r,j,_,B⟩:=74.9 vP;have hz:0.3 fs.map (·.1)<=sizeLine:=by rw[aI,Dc];lia
 refine KI I.so O c.sa c.po n.OV c.hd j hz fun h' d G=>h _ ?_;have J:∃o,2e2 dx o:=let 39.4 o L:=d.ns;28. o L
 refine I.write (x:=a) (e:=dx) (by rw[e];exact True.intro) (8.4 B) (fun b q M z=>803. G.2 M z) J ?_;refine⟨by rw[aS O.ne];exact B,?_,O.ne,d.obj,e12 _ d.ns (4e7 g)<|63. g N ⟩
 ·have:=u4 f y fs;cutsat
 ·show pd ((dh f y fs).lookup g) (if g=f then 7. u else mA g)
  rw[u0];by_cases q:g=f
  ·rw[aP q,aP q];exact D
  simp[*]
 by_cases q:g=f
 ·rw[q];exact(ub f y fs).1
 refine(ub f y fs).2 g (j g fun z=>N ?_)
 lia
theorem Inv.made(I:85.):00 (upd (8.7 s.heap.objs.size (.own (65.))) (65.) (082 .ins C []))
 71.0:=by
 have d:8e3 (437.).get?=7. W.emptyDict:=383. bP rfl;have n:((437.).push<|956.).get? (65.)=7. (956.):=by have:=bP (437.) (o:=956.) rfl;simp_all
 have z:8e3 (437.).Ns (238.):=(e33 W.emptyDict (#[]) _ d rfl (fun e B=>700. B)<|322.);have D:=9e2 (o:=.own (65.)) (h':=437.) (t':=s.toks) (356. b u) 779. ⟨_,d⟩;refine D.laid (a:=65.) (o:=082 .ins C []) (t':=s.toks) (356. b u) (Nat.le_of_eq<|d7 _ _) ?_;have j:s.heap.objs.size≠ 65.:=df<|tT _;refine⟨by rw[aS j,aJ],bH _,j,n,e12 (238.) ((Heap.Ns1.of_empty z).at fun o q=>aR _ q) (fun _=>True.intro)<|fun y G=>49.9 G⟩
theorem KJ(j:attributeBase e f env (eval e env)=eval e env)
 (h:49.6 e (fun o d=>9e5 A (getAttr o f true) Q E d) E s):40. (eval (444. e f pos) env):=
 Attribute_any_ h<|by rw[arm_eval_Attribute,j]
#check 0
def vw(K:aA)(ta:TE)(f:Str):TE:=fun σ H Q=>32.8 fun x H1=>∃a C dx fs v,22.7/\H1 a=137./\Ds K C/\rE K C f/\fs.lookup f=7. v/\Q v H1
def Qx(K:aA)(ta tv:TE)(f:Str):TS:=fun D σ H=>tv σ H fun y H1=>ta σ H1 fun x H2=>∃a C dx fs,22.7/\H2 a=137./\Ds K C/\rE K C f/\fs.length<1000/\
 D.nx σ (upd H2 a (42.7 (dh f y fs)))
section
variable{X:Cx}{o e value:Expr}{f:Str}{pos pos' tpos:Pos}{ta tv:TE}
theorem bA(d:087 e ta)(j:202. f):087 (444. e f pos) (vw X.K ta f):=by
 revert d j;revert X e f pos ta;intros X e f pos ta d j
 intros pins s σ H Q I h
 refine KJ j<|610. d;rintro u L ⟨x,H1,z,B,a,C,dx,fs,v,ex,D,c,n,l,q⟩;subst ex;obtain rfl:62.2:=B;exact Dt z D c n l fun M N G J=>(e22 v H1 G J<|q)
theorem dW(d:087 o ta)(j:087 value tv)(hs:086 value (7. (444. o f pos'))):PS X (.Assign [444. o f pos'] value pos) (Qx X.K ta tv f):=by
 revert d j hs;revert X o value f pos pos' ta tv;intros X o value f pos pos' ta tv d j hs
 intros pins s σ H D I h
 refine plainObj_wpAny_Assign_Attribute (610. j) hs;rintro u z ⟨y,H1,B,G,q⟩;refine 40.0 (27.1 d z B q);rintro J S ⟨x,H2,L,M,a,C,dx,fs,ex,N,c,n,l,O⟩;subst ex;obtain rfl:J=49. a:=M;exact Du L N c n l G fun U R=>(e21 σ _ R<|O)
#check 0
section
variable{X:Cx}{pins:Sn}{σ:St}{H:Hp}{s:aB}{A:Around}{E:Sl}{Q:Sl}{c:Value}{b:Bool}
inductive uc(K:aA)(H:Hp):56.3 V where
 |gm:579. .gm "NoneType"
 |bl (x:Bool):579. (.bl x) "bool"
 |int (i:Int):579. (50.3) "int"
 |str (x:Str):579. (68.0) "str"
 |Mn (x:UInt64):579. (.Mn x) "float"
 |lst {a:Addr} {xs:05 V} (e:271. a):579. 031 "list"
 |gO {a:Addr} {o:Obj} {xs:05 V} (e:H a=041 o (1e6 xs)):579. 031 "list"
 |tup {a:Addr} {xs:05 V} (e:H a=96. xs):uc K H 031 (2e8)
 |dK {a:Addr} {kvs:50.5 V} (e:072 a .dK):579. 031 "dict"
 |dT {a:Addr} {kvs:645.} (e:072 a .dT):579. 031 "dict"
 |ins {a C dx:Addr} {fs:79.9} (e:H a=137.) (cl:Ds K C) (ha:025 "__class__" =001 147.)
  (hn:490.) (Rr:W.takesIn K 147.=7. true)
  (hm:65.9):uc K H 031 (02 C)
theorem Gm(I:85.)(d:311. x)(ty:uc X.K H x t)(e:W.kitOne X.K t c=7. b)(h:∀tk,Q (68.1) {s with toks:=tk}):
 172. (598. "isinstance" [u,c]):=by
 revert I d ty e h;revert X pins σ H s A E Q c b x u t;intros X pins σ H s A E Q c b x u;intros t I d ty e h;cases ty with
 |gm=>cases(show u=Value.none from d);exact 32.0 W.kitx_none
 |bl y=>cases(show u=86.3 y from d);exact 32.0 W.kitx_bool
 |int i=>revert d;revert i;intros i d;let 28. t q:=(show 52.8 from d);cases q;exact 32.0 W.kitx_int
 |str y=>revert d;revert y;intros y d;let 28. t q:=(show 96.1 y from d);cases q;exact 32.0 W.kitx_str
 |Mn y=>let 28. t q:=(show ∃t,u=Value.float y t from d);cases q;exact 32.0 W.kitx_float
 | @lst a xs j=>cases 288.;refine x0_1 ((show 647. a (1e6 xs)from I.fh a _ j)) fun _ zz_=>90.0 n h1;exact 097 W.kitx_list (406. h1)
 | @gO a D xs j=>cases 288.;refine x0_2 ((show 647. a (.gO D<|1e6 xs)from I.fh a _ j)) fun _ _ zz_=>90.0 n h1;exact 097 W.kitx_list (406. h1)
 | @tup a xs j=>cases 288.;refine 83.5 ((2e9 (.tup xs) j));have⟨o,h1,h2,_⟩:=p;exact 097 W.kitx_tuple (e11 o h1<|h2)
 | @dK a kvs j=>cases 288.;refine x0_2 ((2e9 (.dK kvs) j)) fun _ _ zz_=>278. fun vs _ p=>?_;have⟨o,es,ep,h1,h2,_⟩:=p;exact 80.9
 | @dT a kvs j=>cases 288.;refine x0_2 ((2e9 (.dT kvs) j)) fun _ _ zz_=>278. fun xs _ zz_=>x3_2 zz_ fun o es ep h1 h2 _=>?_;exact 80.9
 | @ins a C dx fs j cl G L B M=>cases 288.;have 049 mA O:=vP I.fh j;have 049 N J:=O.look;exact fz (W.kitx_own (cl.get _) cl.hd G L B M) I.so J e (81.) h
#check 0
structure gL(k:Nat)(A:Around):Prop where
 hd:393.
 dp:A.depth + 3 * k + 5<recursionLimit
 un:A.units + 16 * k + 200<cLine
theorem gL.mono(r:gL k A)(h:j<=k):gL j A:=⟨r.hd,by have:=r.dp;lia,98.9 ⟩
theorem gL.deeper(r:gL 832. A)(env:Env):64.1 env:=
 ⟨r.hd,by have:=r.dp;show A.depth + 1 + 3 * k + 5<_;lia,10.5 3 ⟩
theorem gL.in1(r:gL 832. A):gL k A.in1:=
 ⟨r.hd,by have:=r.dp;show A.depth + 3 * k + 5<_;lia,10.5 1 ⟩
theorem Dv{A:Around}{C:Addr}{us:Sj}{d:57. Value}:(9e3 us d).depth=A.depth + 1:=19.3
theorem Dx{A:Around}{C:Addr}{us:Sj}{d:57. Value}:(9e3 us d).units=A.units + 1:=19.3
theorem gL.make(r:gL 832. A)(C)(us)(d):gL k (9e3 us d):=
 ⟨r.hd,by have:=r.dp;rw[Dv];lia,by have:=r.un;rw[Dx];lia⟩
theorem gL.depth(r:gL k A):A.depth<recursionLimit:=by have:=r.dp;lia
theorem gL.units(r:gL k A):5.5 64:=98.9
theorem gL.M0(r:gL k A):151.:=98.9
def qG:TA:=85.3 []
def lC(ta:TE)(d:TA):TA:=fun σ H Q=>32.8 fun x H1=>d σ H1 fun xs H2=>Q (89.9) H2
section
variable{X:Cx}{e:Expr}{es:51.7}{te:TE}{t:TA}{pos:Pos}
theorem hU:PA X [] qG:=48.0 vt
theorem dG(d:20.8)(j:PA X es t)(hs:3.5:=by rfl):PA X 88.6 (lC te t):=by
 revert d j hs;revert X e es te t;intros X e es te t d j hs
 intros pos pins s σ H Q I h
 rw[hs]
 show 7.5 (spliced<|173. e::346. pos es) s
 refine mh<|610. d;rintro u n ⟨x,H1,q,z,B⟩;exact 228.
def Qy(t:TA):TE:=536. (.tup xs)
def Qz(t:TA):TE:=536. (1e6 xs)
theorem ud(h:PA X es t):087 (.Tuple es x1 pos) (Qy t):=by
 revert h;revert X es t pos x1;intros X es t pos x1 h
 intros pins s σ H Q I n
 refine wpAny_Tuple_spliced<|020 h n ?_;rintro us d ⟨xs,H1,j,r,z,q⟩;refine 75.1;have B:095 H1 d.heap.objs.size:=33.5;refine(268. (upd H1 d.heap.objs.size<|.tup xs));exact⟨z,e11 us r<|(e12 _ (794.) rfl<|981.)⟩
theorem cT(h:PA X es t):087 (.List es pos) (Qz t):=by
 revert h;revert X es t pos;intros X es t pos h
 intros pins s σ H Q I n
 refine wpAny_List_spliced<|020 h n ?_;rintro us d ⟨xs,H1,j,r,z,q⟩;refine 75.1;have B:095 H1 d.heap.objs.size:=33.5;refine(268. (upd H1 d.heap.objs.size<|1e6 xs));exact⟨z,e21 us 0 r<|794. ⟩
#check 0
abbrev Sp:=05 V->Hp->20. VK XK
abbrev Gn:=37.8->Hp->aB->XK->20. Value aB
structure ue(P:aD)(w:World)(K:aA)(mg:Sk)(base:Heap)(A:Around)(outer:37.8)(s:aB)(H:Hp):Prop where
 frames:A.frames=7. outer
 mod:Mod K mg base
 bs:∀b o,60. base.get?->677./\851.
 HP:base.objs.size<=s.heap.objs.size
 rA:s.heap.FunFrames base outer
 Ks:∀b∈qE outer,851.
 fh:m5 P w H s.heap
 bare:AllBare s.gens
def CE(outer:37.8)(P:aD)(w:World)(H:Hp)(s:aB)(Q:VK)(u:Value)(s':aB):Prop:=
 ∃v H',s'.os=s.os/\AllBare s'.gens/\44.2 (qE outer) [] s'.heap/\m5 P w H' s'.heap/\80.5/\Q v H'
def CR(CX:Gn)(outer:37.8)(P:aD)(w:World)(H:Hp)(s:aB)(Q:VK)(E:XK)(r:Result)(s':aB):Prop:=
 match r with
 | .ok (.ret u)=>CE outer P w H s Q u s'
 | .ok _=>False
 | .error e=>CX outer H s E e s'
structure iY(P:aD)(w:World)(K:aA)(mg:Sk)(base:Heap)(CX:Gn)(k:Nat)(f:Addr)(fd:aC)(ps:Si)(sp:Sp):Prop where
 len:083
 run:∀(A:Around) (outer:37.8) (s:aB) (H:Hp) (args:Args) (us:Sj) (vs:05 V) (Q:VK) (E:XK),gL k A->612. A->BindsTo s fd args (ps.zip us)->091 vs->76.0->
  codeAny (model P w) A (.call 780. args) (CR CX outer P w H s Q E) s
theorem iY.mono{w:World}{K:aA}{mg:Sk}{base:Heap}{CX:Gn}{j k:Nat}{f:Addr}{fd:aC}{ps:Si}{sp:Sp}(F:51.8 CX j)(h:j<=k):
 51.8 CX k:=⟨F.len,fun A outer s H args us vs Q E d=>79.1<|d.mono h⟩
theorem ue.make{K:aA}{mg:Sk}{base:Heap}{A:Around}{outer:37.8}{s:aB}{H:Hp}(e:612. A)(C:Addr)(us:Sj)(d:57. Value):
 612. (9e3 us d):=⟨by first|exact e.frames|(simpa [Around.under,Code.envs,Code.isFrame,pushEnvs]using e.frames),e.mod,e.bs,e.HP,e.rA,e.Ks,e.fh,e.bare⟩
theorem ue.in1{w:World}{K:aA}{mg:Sk}{base:Heap}{A:Around}{outer:37.8}{s:aB}{H:Hp}(e:612. A):
 612. A.in1:=⟨e.frames,e.mod,e.bs,e.HP,e.rA,e.Ks,e.fh,e.bare⟩
section
variable{X:Cx}{pins:Sn}{σ:St}{H:Hp}{s s':aB}
theorem Inv.M3(I:85.):221. X.A:=
 ⟨I.ok.frames,I.ok.mod,I.bs,bU I.ok.HP I.sz,I.stack,I.zP,I.fh,I.bare⟩
theorem Inv.after(I:85.)(h:CE X.stack X.prog X.w H s Q u s'):396. u s':=by have⟨v,H',os,bare,un,j,r,q⟩:=h;obtain⟨B,g,d,t,n⟩:=s';obtain rfl:n=s.os:=os;exact(e22 v H' (I.call (h':=B) (g':=g) (d':=d) (t':=t) (ch:=[]) un j bare fun b z=>700. z) r<|q)
#check 0
def yV(sp:Sp)(dvs:05 V)(E:XK)(t:TA):TE:=fun σ H Q=>32.9 fun vs H1=>sp 68.5 H1 Q E
def sy(C:Addr)(m:Str)(sp:Sp)(dvs:05 V)(E:XK)(ta:TE)(t:TA):TE:=fun σ H Q=>32.8 fun x H1=>∃a dx fs,22.7/\H1 a=137./\095 fs.lookup m/\
 t σ H1 fun vs H2=>sp (x::68.5) H2 Q E
def Mv(C:Addr)(sp:Sp)(dvs:05 V)(E:XK)(t:TA):TE:=fun σ H Q=>32.9 fun vs H1=>∀x dx,095 H1 x->095 H1 dx->dx≠x->
 422. (upd H1 dx (.own x))
def Binds(K:aA)(fd:aC)(ps:Si)(ds:Sj):Prop:=
 ∀(s:aB) (us:Sj),383. K.In->861. (us++ds).length->BindsTo s fd 39.0 (ps.zip (us++ds))
theorem Binds.all{K:aA}{fd:aC}{ps:Si}(h:∀us:Sj,128. fd):30. fd ps:=fun s us _ d=>by rw[dn]at d ⊢;exact .of_eq (h us d)
def Passes(CX:Gn)(X:Cx)(E:XK):Prop:=∀(pins:Sn) (σ:St) (H:Hp) (s:aB) (e:Value) (s':aB),85.->CX X.stack H s E e s'->X.xe e s'
section
variable{X:Cx}{CX:Gn}{k:Nat}{f C:Addr}{fd:aC}{ps:Si}{sp:Sp}{dvs:05 V}{ds:Sj}{E:XK}{x m:Str}{p pos apos:Pos}{e o:Expr}{es:51.7}{ta:TE}{t:TA}
theorem Dy(F:2.3 CX)(n:gL k X.A)(q:006 ds)(z:11.3)(B:669.)
 (I:85.) (r:091 vs) (h:sp 68.5 H Q E):27.2 780. us:=by
 have j:Vals 68.5 (us++ds):=r.append z;have D:861. (us++ds).length:=by rw[<-j.length];exact 015 F.len _ h
 refine wpAny_call<|kP (F.run X.A X.stack s H 39.0 (us++ds) 68.5 Q E n I.M3 (q s us I.so D) j h) fun r s' d=>?_;cases r with
 |error e=>exact B pins σ H s e s' I d
 |ok G=>
  cases G with
  |ret u=>exact I.after d
  |next=>exact 180. d
  |brk=>exact 180. d
  |cont=>exact 180. d
theorem nT(F:2.3 CX)(z:gL k X.A)(B:92.8)(D:23.3 f)(G:464. X.K f)(J:006 ds)(L:11.3)(M:669.)
 (N:203.) (d:75.:=by decide) (O:3.5:=by rfl) (j:4.8:=by rfl):
 646. (yV sp dvs E t):=by
 intros pins s σ H Q I h
 refine jB<|ql I B D ?_ d;refine 23.6 G;rintro us R ⟨vs,H1,n,r,q⟩;refine 31.8 n.so;exact Dy F z J L M n r q
theorem KL(G:087 o ta)(c:Ds X.K C)(n:72.8 C)(F:2.3 CX)(J:gL k X.A)(L:006 ds)(M:11.3)(N:669.)(O:203.)
 (d:3.5:=by rfl) (j:4.8:=by rfl)
 (R:66. 932.=(do
  let z<-66. o
  531.
  let(f,first)<-260. z z
  3.7 88.6):=by rfl):
 087 932. (sy C m sp dvs E ta t):=by
 intros pins s σ H Q I h
 refine W.methodCall_KW (pl:=pl) (610. G) R;rintro u S ⟨x,H1,B,U,a,dx,fs,ex,V,l,q⟩;subst ex;obtain rfl:62.2:=U;refine we B V c n l ?_;refine Bd (first:=[02 a]) (h₀:=X.base) I.ok.mod.OH n.kp (40.0 (O pos pins S σ H1 _ B q)) d j;rintro us Z ⟨vs,H2,D,r,Y⟩;refine 31.8 D.so;exact Dy (us:=02 a::us) (vs:=02 a::vs) F J L M N D (9e6 rfl r) Y
theorem Im(z:087 o ta)(c:Ds X.K C)(j:72.8 C)(F:2.3 CX)(B:gL k X.A)(D:006 ds)(G:11.3)(J:669.)
 (L:66. (4.1 [])=(do
  let n<-66. o
  531.
  let(f,first)<-260. n n
  3.7 []):=by rfl):
 087 (4.1 []) (sy C m sp dvs E ta qG):=by
 intros pins s σ H Q I h
 refine W.methodCall_KW (pl:=pl) (610. z) L;rintro u O ⟨x,H1,d,M,a,dx,fs,ex,N,l,q⟩;subst ex;obtain rfl:62.2:=M;refine we d N c j l ?_;exact W.callWith_K0 (first:=[02 a]) d.so j.kp<|Dy (us:=[02 a]) (vs:=[02 a]) F B D G J d (9e6 rfl .nil) q
structure Mk(K:aA)(C f:Addr):Prop where
 makes:W.makesIn K C=true
 init:025 "__init__" =001 727.
 fn:78.2
 kp:464. K C
theorem Br(M:Mk X.K C f)(F:2.3 CX)(q:gL 832. X.A)(z:006 ds)(B:11.3)
 (D:669.) (I:85.) (r:091 vs)
 (h:∀x dx,54. x->54. dx->dx≠x->422. (8.7 dx (.own x))):
 27.2 (02 C) us:=by
 have G:=082 h (65.) (I.fh.fresh<|86.5) (066 _)<|df<|tT _;have j:=Inv.made (C:=C) I;have n:Vals (035 (65.)::68.5) (49. (162.)::(us++ds)):=9e6 rfl<|r.append B;have J:861. (49. (162.)::us++ds).length:=by have e:=n.length;grind[F.len]
 refine wpAny_call<|Il (f:=f) I.so M.makes M.init (kO.mp M.fn)<|kP (F.run _ X.stack _ _ ⟨ 49. (162.)::us,[]⟩ (49. (162.)::(us++ds)) _ _ E (q.make C us [])
  (j.M3.make C us []) (z _ (49. (162.)::us) j.so J) n G) fun r s' d=>?_
 cases r with
 |error e=>exact D pins σ _ _ e s' j d
 |ok L=>
  cases L with
  |ret u=>have⟨v,H',N,O,R,S⟩:=j.after d;subst R;exact 28. O (e22 (V.ref<|162.) H' N rfl<|S)
  |next=>exact 180. d
  |brk=>exact 180. d
  |cont=>exact 180. d
theorem iF(M:Mk X.K C f)(F:2.3 CX)(z:gL 832. X.A)(B:92.8)(D:23.3 C)(G:006 ds)(J:11.3)(L:669.)
 (N:203.) (d:75.:=by decide) (O:3.5:=by rfl) (j:4.8:=by rfl):
 646. (Mv C sp dvs E t):=by
 intros pins s σ H Q I h
 refine jB<|ql I B D ?_ d;refine 23.6 M.kp;rintro us R ⟨vs,H1,n,r,q⟩;refine 31.8 n.so;exact Br M F z G J L n r q
theorem Io(M:Mk X.K C f)(F:2.3 CX)(j:gL 832. X.A)(n:92.8)(q:23.3 C)(z:006 ds)(B:11.3)(D:669.)
 (d:75.:=by decide):087 (831. x []) (Mv C sp dvs E qG):=by
 intro pins s σ H Q I h;refine jB<|ql I n q ?_ d;exact W.callWith_K0 I.so M.kp<|Br (us:=[]) M F j z B D I .nil h
#check 0
def PK(X:Cx)(kws:05 Keyword)(t:TA):Prop:=
 ∀(pos:Pos) (pins:Sn) (s:aB) (σ:St) (H:Hp) (Q:05 V->284.),85.->32.9 Q->882. (evalAll ((12.4 pos kws).map 62.)) (3e3 AP σ Q) s
section
variable{X:Cx}{CX:Gn}{k:Nat}{f C:Addr}{fd:aC}{ps ks:Si}{sp:Sp}{E:XK}{x m:Str}{p pos apos kpos:Pos}{e o:Expr}{es:51.7}{kws:05 Keyword}{te ta:TE}{t tk:TA}{nm:74. Str}
theorem M4:PK X [] qG:=48.0 wpAny_evalAll_nil
theorem KN(d:20.8)(j:PK X kws t):PK X (⟨nm,e,kpos⟩::kws) (lC te t):=by
 revert d j;revert X kpos e kws te t nm;intros X kpos e kws te t nm d j
 intros pos pins s σ H Q I h
 show 7.5 (evalAll<|(do let v<-66. e;standAt pos;pure v)::(backToKw pos<|keywordEach kws X.env).map 62.) s
 refine wpAny_evalAll_cons<|aH<|610. d;rintro u n ⟨x,H1,q,z,B⟩;refine aH<|wpAny_standAt<|77.9;exact 228.
variable{g:Sj->Sj->Sj}{gV:05 V->05 V->05 V}
#check 0
structure qm(N P:Si)(sc:Scope):Prop where
 kind:sc.kind= 931.
 co:sc.isCoroutine=false
 gen:sc.isGenerator=false
 nd:N.Nodup
 pre:N.take P.length=P
 par:∀x∈P,457. x .local\/457. x .cell
 M5:∀y∈sc.names,y.2≠ .free
theorem yW:866. bindL
 | [],_,_=>rfl
 |(n,v)::r,m,h=>by
  unfold bindL;rw[yW fun w q=>h w<|bO _ q];split
  ·grind
  rfl
theorem yX:866. bindC
 | [],_,_=>rfl
 |(n,v)::r,m,h=>by
  unfold bindC;rw[yX fun w q=>h w<|bO _ q];split
  ·rfl
  grind
theorem yY:∀{P:Si} {vs:Sj} {i:Nat} {m:Sk},P.Nodup->P[i]? =7. x->vs[i]? =7. v->d x=553.->
 bindL d (P.zip vs) m x=7. v
 | [],_,_,_,_,h,_,_=>034
 |_::_,[],_,_,_,_,h,_=>034
 |p::P,w::vs,0,m,j,h1,h2,n=>by
  simp at h1 h2;subst h1;subst h2
  show 755. bindL p
  unfold bindL;rw[yW 26.1,aP n];simp
 |p::P,w::vs,18.6,m,j,h1,h2,n=>by
  show 755. bindL x
  unfold bindL;exact yY (i:=i) (eW.mp j).2 060 060 n
theorem yZ:∀{P:Si} {vs:Sj} {i:Nat} {m:Sk},P.Nodup->P[i]? =7. x->vs[i]? =7. v->d x≠ 553.->
 bindC d (P.zip vs) m x=7. v
 | [],_,_,_,_,h,_,_=>034
 |_::_,[],_,_,_,_,h,_=>034
 |p::P,w::vs,0,m,j,h1,h2,n=>by
  simp at h1 h2;subst h1;subst h2
  show 755. bindC p
  unfold bindC;rw[yX 26.1,aM n];simp
 |p::P,w::vs,18.6,m,j,h1,h2,n=>by
  show 755. bindC x
  unfold bindC;exact yZ (i:=i) (eW.mp j).2 060 060 n
def start(N:Si)(vs:05 V):St:=vs.map some++86.6 (N.length - vs.length) none
def dO(CX:Gn)(P:aD)(w:World)(K:aA)(mg:Sk)(base:Heap)(N:Si)(j:Str)(d:Scope)(f:Addr)(q:Value)(A:Around)(outer:37.8)(s:aB)(H:Hp)(E:XK):Cx where
 prog:=P
 w:=w
 K:=K
 mg:=mg
 base:=base
 A:=A.deeper (53. j d q)
 N:=N
 vv:=s
 Kr:=H
 env:=53. j d q
 outer:=outer
 stack:=53. j d q::outer
 ex:=[]
 calm:=true
 fn:=fun _=>true
 pn:=[]
 xe:=fun e s'=>04 P w (A.deeper (53. j d q)) (leaving (53. j d q) e) (fun _ n=>CX outer H s E e n) (fun z n=>CX outer H s E z n) s'
theorem Bs{d:Scope}{n:Nat}{x:Str}(h:1e3 x=466.):∃c,(cellsFrom n d.names []).lookup x=7. c:=by have q:=W.cellsFrom_some d.names n [] (97. h);exact iC.mp q
theorem Gp{P:aD}{w:World}{K:aA}{mg:Sk}{base:Heap}{N ps:Si}{j:Str}{d:Scope}{f:Addr}{L:Value}{A:Around}{outer:37.8}{s M:aB}{H:Hp}{E:XK}{us:Sj}{vs:05 V}
 (S:qm N ps d) (U:393.) (B:612. A) (hl:861. vs.length) (r:091 vs)
 (x:082 InCallC s (82.7 bindL) (171. []) (82.7 bindC) M):
 Inv (9e8 L) [] (start N vs) H M:=by
 have Y:ps.length<=N.length:=by have:=090 S.pre;rw[cP]at this;lia
 have⟨h1,tk,rfl,O⟩:=x.done;have D:∀b:Addr,b∉(9e8 L).ex:=fun b z=>700. (show b∈([]:So)from z)
 refine⟨⟨B.mod,S.kind,rfl,rfl,aU _,fun y z c h1 h2=>?_,63. y G,fun y c _ h=>?_,fun _=>U,Around.frames_deeper B.frames,8.4 14.7,fun b z=>88. z<|D b,B.bs,B.HP,fun b _ _=>D b,fun b z=>88. z<|D b,B.rA,B.Ks⟩,
  rfl,B.bare,Un.kept O,(1.2 x.toInCall.ns<|fun i y v h1 h2 h3=>?_),fun y c h=>⟨_,x.cell y c h⟩,B.fh.fresh<|aU _,fun y c h=>?_,fun p I=>88. (show p∈([]:Sn)from I) 960.,B.fh.kept O,?_⟩
 ·exact name_of_addr x.apart (cV h1)<|cV h2
 ·have G:1e3 y=466.\/1e3 y=79.7:=G;rcases G with G|G
  ·exact Bs G
  exact 49.9<|S.M5 _<|cV G
 ·exact uV<|x.above y c<|cV h
 ·have hi:i<vs.length:=by unfold start at h2;grind
  have Z:vs[i]? =7. v:=by
   unfold start at h2;rw[List.getElem?_append_left (by simpa using hi),bN]at h2
   match e:vs[i]? with
   |none=>simp_all
   |7. a=>grind
  have⟨u,R,rv⟩:=r.get Z;have I:ps[i]? =7. y:=by rw[<-S.pre,List.getElem?_take_of_lt (52.)];exact h1
  have J:ps.Nodup:=by rw[<-S.pre];exact S.nd.sublist<|List.take_sublist _ _
  refine(665. u rv);rcases S.par y (bB I)with k|k
  ·exact 97. ⟨k,yY J I R k⟩
  obtain⟨c,e⟩:=Bs (n:=65.) k;refine 8.4 ⟨.inl k,665. c e ⟩;have q:=x.cell y c e;rw[yZ J I R (by show 1e3 y ≠_;rw[k];decide)]at q;exact q
 ·exact B.fh.fresh<|uV<|x.above y c<|cV h
 unfold start
 show _=N.length
 simp[*]
theorem OW{CX:Gn}{P:aD}{w:World}{K:aA}{mg:Sk}{base:Heap}{k:Nat}{f:Addr}{name j:Str}{B:Arguments}{D:List Stmt}{d:Scope}{dV kV O pm z ct oc:Value}{an od:Option Addr}
 {a0:Array (Option Value)} {N ps:Si} {sp:Sp} (lk:K.lookup f=some ⟨oc,od,.func (W.fnOf name j B D d dV kV O pm an z ct),a0⟩) (a3:W.codeIn K z j=true) (S:qm N ps d)
 (R:∀vs H Q E,sp vs H Q E->vs.length=ps.length)
 (L:∀(A:Around) (outer:List Env) (s:aB) (H:Hp) (vs:List V) (Q:VK) (E:XK),gL k (A.deeper (envOfC j d s.heap.objs.size f z))->sp vs H Q E->
  ∃t,Dg (dO CX P w K mg base N j d f z A outer s H E) D t/\t {nx:=fun _ H'=>Q .gm H',rt:=Q} (start N vs) H):
 iY P w K mg base CX (k + 1) f (W.fnOf name j B D d dV kV O pm an z ct) ps sp:=by
 refine⟨R,fun A outer s H args us vs Q E hr U hb r Y=>?_⟩;have hl:=R _ _ _ _ Y;have KX:K.In s.heap:=U.mod.OH.keeps fun b o e=>(U.bs b o e).1;have a4:s.heap.NoLimit:=U.mod.nolimit.keeps fun b o e=>(U.bs b o e).1;have M:∀y∈ps.zip us,d.names.lookup y.1=some .local\/(d.names.lookup y.1=some .cell/\((cellsFrom (s.heap.objs.size + 1) d.names []).lookup y.1).isSome=true):=fun⟨n,v⟩ hy=>by
  rcases S.par n (List.of_mem_zip hy).1 with q|q
  ·exact .inl q
  exact .inr ⟨q,W.cellsFrom_some _ _ _<|.inl q⟩
 refine codeAny_call_function hr.depth (KX _ _ lk) rfl S.co S.gen rfl (W.codeRec_of KX a3)<|hb _ _ _ _ ?_;refine wpAny_newFunctionEnv_cells S.kind M fun env he s1 x=>?_;subst he;refine⟨a4.keeps x.toInCall.keep,codeAny_func ?_⟩;have⟨t,ht,hq⟩:=L A outer s H vs Q E (hr.deeper _) Y;have I:Inv (dO CX P w K mg base N j d f z A outer s H E) [] (start N vs) H s1:=Gp S hr.hd U hl r x;refine eG (ht [] s1 (start N vs) H _ I hq) (fun fl s' hs=>?_) fun e s' hs=>hs;have Z:∀{G:St} {H':Hp} {v:V} {u:Value},Inv (dO CX P w K mg base N j d f z A outer s H E) [] G H' s'->RelV v u->Q v H'->CE outer P w H s Q u s':=
  fun{G H' v u} J rv q=>(e25 v H' J.os J.bare J.base J.fh rv<|q)
 cases fl with
 |ret u=>have⟨v,G,H',J,rv,q⟩:=hs;exact Z J rv q
 |next=>have⟨G,H',J,q⟩:=hs;exact Z (v:=V.gm) (u:=Value.none) J rfl q
 |brk=>
  have⟨_,_,_,q⟩:=hs
  lia
 |cont=>
  have⟨_,_,_,q⟩:=hs
  lia
section
variable{X:Cx}{x:Str}{p pos:Pos}{e:Expr}{es:51.7}{t:TA}{id T:String}{r:5e4}
def OX(r:5e4)(t:TA):TE:=fun σ H Q=>32.9 fun vs H1=>r vs H1 Q
theorem f9(n:738. id r)(q:92.8)(z:095 X.mg x)(B:19.4=7. (7.2 id))(D:203.)(G:937. :=by decide)(d:75.:=by decide)
 (J:3.5:=by rfl) (j:4.8:=by rfl):646. (OX r t):=by
 intro pins s σ H Q I h;refine jB<|v9 I q z B ?_ G d;exact 577. PyProof.Rows.callWith_builtin1
theorem iu(n:jY X (088 T) r)(q:92.8)(z:095 X.mg x)(B:19.4=7. (088 T))(D:203.)(G:937. :=by decide)(d:75.:=by decide)
 (J:3.5:=by rfl) (j:4.8:=by rfl):646. (OX r t):=by
 intro pins s σ H Q I h;refine jB<|v9 I q z B ?_ G d;exact 577. pb
#check 0
#check L2
namespace HT
open PySem PyProof.Rows
theorem Ip(A)(s)(a)(t:Tok)(c)(u:Tok):∃e,SeqAt.EqAt A s (59. a t) (59. c u) e/\(e=true↔a=c):=
 (e11 (a==c) (SeqAt.EqAt.int_int a t c u)<|44.)
section
variable{prog:aD}{w:World}{A:Around}{E:Sl}{s:aB}
theorem KO(S:37.0 t vs.toArray)(U:37.0 b d.toArray)(L:vs≠[])
 (h1:d=[]->9.3 t s) (h2:d≠[]->Q (89.) (569. (35. "tuple" (vs++d).toArray)))
 (hsz:vs.length + d.length<=sizeLine):87.9:=by
 have⟨z1_,G,N,28. n hd ⟩:=id S;obtain⟨cls,dd,data,M⟩:=z1_;have⟨z1_,j,B,28. R D ⟩:=id U;obtain⟨O,q,I,z⟩:=z1_;simp only at N hd B D;subst N hd B D;have e:vs.toArray++d.toArray=(vs++d).toArray:=44.
 by_cases J:d=[]
 ·exact 139. (406. G) (406. j) 
   (804. tuple_addW1<|by simp[J]) ⟨G,j,h1 J⟩
 refine 139. (406. G) (406. j) 
  (804. tuple_addW2 (40.4)<|by rw[cM,cM];exact hsz) ⟨G,j,?_⟩
 cutsat
def ya(n d:Nat):74. Int->Nat
 |none=>d
 |7. v=>if v<0 then(v + 47. n).toNat else min v.toNat n
theorem wg(n d):ya n d none=d:=rfl
theorem sA(n d k:Nat):ya n d (30.2 k)=min k n:=by
 show(if 47. k<0 then(47. k + 47. n).toNat else min (k:Int).toNat n)=min k n
 rw[aM<|Int.not_lt.mpr<|Int.natCast_nonneg k,dY]
#check 0
#check HT
namespace L2
open PySem PySem.Spec PyProof.Rows
abbrev TO:=49.2 (Option Int->284.)
def PO(X:Cx)(e:74. Expr)(t:TO):Prop:=
 ∀(pins:Sn) (s:aB) (σ:St) (H:Hp) (Q:74. Int->284.),85.->32.9 Q->
  882. (evalPart e X.env) (fun u s'=>∃o H',00 H' s'/\IsPart u o/\Q o H') s
def KP:TO:=85.3 none
def OY(t:TE):TO:=fun σ H Q=>32.9 fun x H1=>∃i,x= 50.3/\Q (7. i) H1
theorem intsAre_of:∀{us:Sj},Vals 21.8 us->86.7 us:=by
 induction ns with
 |nil=>intro us r;rw[il]at r;cases r;exact .nil
 |cons n ns d=>
  revert d;revert n ns;intros n ns d;intro us r;revert r;revert us;intros us r;rw[bD]at r;cases r with
  |cons j q=>obtain⟨t,e⟩:=j;subst e;exact 9e6 n t<|d q
section
variable{X:Cx}{e:Expr}{te:TE}{lo hi:74. Expr}{tl th:TO}{pos p2:Pos}
theorem vQ:PO X none KP:=by intro pins s σ H Q I h;rw[evalPart_none];exact aN<|e22 none H I 57.3<|h
theorem ke(h:20.8):PO X (7. e) (OY te):=by intro pins s σ H Q I d;rw[evalPart_some];refine 40.0 (799. h _ d);rintro u B ⟨x,H1,j,n,z⟩;have 69. i q:=z;obtain⟨t,rfl⟩:=n;exact(e22 (7. i) H1 j (50.3 t)<|q)
def Rt(X:Cx)(r:717.):Prop:=
 ∀(pins:Sn) (s:aB) (σ:St) (H:Hp) (x:V) (v d j:Value) (lo hi:74. Int) (n:Addr) (Q:VK),85.->19.8->s.heap.IsSliceOf n d j 57.3->IsPart d lo->IsPart j hi->r x lo hi H Q->
  ∃T id,808./\s.TypeIs v T/\3.8 (getItem v (02 n)) EP s
def RK(r:717.)(te:TE)(tl th:TO):TE:=fun σ H Q=>te σ H fun x H1=>tl σ H1 fun l H2=>th σ H2 fun u d=>r x l u d Q
theorem lD(B:Rt X r)(D:20.8)(G:PO X lo tl)(J:PO X hi th):087 (.Subscript e (.Slice lo hi none p2) pos) (RK r te tl th):=by
 revert B D G J;revert X e te lo hi tl th pos p2 r;intros X e te lo hi tl th pos p2 r B D G J;intros pins s σ H Q I h
 refine Subscript_<|610. D;rintro v L ⟨x,H1,M,N,O⟩;refine wpAny_Slice<|40.0 (27.1 G L M O);rintro j R ⟨l,H2,S,pl,U⟩;refine 40.0 (6.8 J R H2 _ S U);rintro n d ⟨u,z,Y,Z,q3⟩;rw[evalPart_none];refine 77.9;have I4:00 z 016:=Y.kept (t':=d.toks) (356. b ob);let⟨T,id,hT,ht,hg⟩:=6.8 B 016 z x v j n l u d.heap.objs.size Q I4 N (Heap.IsSliceOf.new ..) pl Z q3
 show 882. (subscriptTail e (.Slice lo hi none p2) v<|02 d.heap.objs.size) (396.) 016
 exact tail_any (ops:=[02 d.heap.objs.size,v]) ht hT hg<|485.
def pj(xs:05 V)(lo hi:74. Int):05 V:=(xs.drop (187. HT.ya 0 lo)).take (31.9)
theorem Bt(xs)(lo hi):933. (pj xs lo hi).length:=by unfold pj;rw[cP,dX];exact bU 38.4<|Nat.sub_le _ _
def OZ(K:aA):R2:=fun x y H Q=>∃a b xs ys,22.7/\62.0/\67.2/\iD K H b ys/\xs≠[]/\447. ys.length/\
 (ys=[]->9.3 a H)/\(ys≠[]->061 (.tup (xs++ys)))
theorem Vals.vR(r:091 xs):us=[]↔xs=[]:=by
 cases r with
 |nil=>lia
 |cons _ _=>simp
theorem KQ:163. .Add (OZ X.K):=by
 revert X;intros X;intro pins s σ H x y v u Q I B D h;have⟨a,b,xs,ys,rfl,rfl,G,J,L,hz,M,N⟩:=h;cases B;cases D;have 566. j O:=11.8 G;have⟨n,d,p2,_⟩:=11.8 J;refine HT.KO O p2 (287. L j.vR.mp) (fun z=>(e22 031 H I rfl<|M<|d.vR.mp z)) (4e7 z)<|by grind[j.length,d.length]
 refine(64.9 (527. I.laid (o:=.tup (xs++ys)) (356. b R) 779. ?_)<|N (fun w=>z<|d.vR.mpr w) _<|066 _);exact⟨by rw[bE];exact hz,1.2 (j.append d)<|IsTup.new _ _⟩
#check 0
def M6(n:Nat)(i:Int):74. Nat:=if 0<=i then(if i<n then 7. i.toNat else none)else if -47. n<=i then 7. (i + n).toNat else none
def Kw{α:Type}(xs:929.)(i:Int):74. α:=(187. M6 i).bind fun j=>xs[j]?
theorem KR(h:M6 n i=7. j):seqIndex? i n=7. j/\j<n/\ -47. n<=i/\i<n:=by
 unfold M6 at h;by_cases d:0<=i
 ·rw[aP d]at h;by_cases h1:i<n
  ·rw[aP h1]at h;have e:i.toNat=j:=cE h;exact⟨by rw[seqIndex_of d h1,e],21.,21.,h1⟩
  simp_all
 rw[aM d]at h;by_cases h1: -47. n<=i
 ·rw[aP h1]at h;have e:(i + n).toNat=j:=cE h;exact⟨by rw[seqIndex_neg 2.8 h1,e],21.,h1,21. ⟩
 simp_all
theorem Fm(h:Kw xs i=7. v):∃j,seqIndex? i xs.length=7. j/\xs[j]? =7. v/\j<xs.length/\ -36.6<=i/\237.:=by
 unfold Kw at h
 match e:187. M6 i with
 |none=>simp_all
 |7. j=>rw[e]at h;have⟨h1,h2,d,n⟩:=KR e;simp_all
theorem KS{j:Nat}{v:α}(h:xs[j]? =7. v):Kw xs (j:Int)=7. v:=by grind[M6,Kw]
theorem Iq(xs)(v:α):Kw (xs++[v]) (-1)=7. v:=by
 have d:(xs++[v]).length=83.4:=44.
 have e:M6 (xs++[v]).length (-1)=7. xs.length:=by unfold M6;simp +arith [*]
 unfold Kw;grind
def KU(b:Expr):Prop:=∀o i,33.0 b o i=operate [o,i] (getItem o i)
def QA(X:Cx)(r:R2):Prop:=
 ∀(value slice:Expr) (pins:Sn) (s:aB) (σ:St) (H:Hp) (x y:V) (v u:Value) (Q:VK),85.->19.8->80.4->r x y H Q->
  33.0 slice v u=operate [v,u] (getItem v u)->3.8 (subscriptTail value slice v u) EP s
def RL(X:Cx)(id:String)(r:V->5e4):Prop:=
 ∀(pins:Sn) (s:aB) (σ:St) (H:Hp) (x:V) (xs:05 V) (v:Value) (us:Sj) (Q:VK),85.->19.8->091 xs->r x xs H Q->
  27.2 (.builtin id) (v::us)
section
variable{X:Cx}{a b:Expr}{ta tb:TE}{pos:Pos}
theorem fo{r:R2}(d:QA X r)(j:627.)(n:57.0)(hs:KU b):087 (.Subscript a b pos) (Mu r ta tb):=by intro pins s σ H Q I h;exact Subscript_<|MX j n I h fun v u z x y H2 B D G q=>d a b pins z σ H2 x y v u Q B D G q<|hs _ _
def M7(K:aA):R2:=431. cX
def QB(K:aA):R2:=431. iD
theorem dH:QA X (M7 X.K):=by
 revert X;intros X;intro value slice pins s σ H x y v u Q I G J h hs;have⟨p,xs,i,z,rfl,rfl,L,M,q⟩:=h;cases G;obtain⟨t,rfl⟩:=J;have 154. r pl:=60.1 L;have⟨j,h1,h2,S,N,O⟩:=Fm M;have⟨w,R,n⟩:=r.get h2;have U:=r.length;have V:=zQ;have d:396. w s:=(e22 z H I n<|q);by_cases B:0<=i
 ·have D:i.toNat=j:=by rw[seqIndex_of B O]at h1;grind
  exact item_listR pl.isList B 2.8 (70.) d hs
 have D:(i + 47. its.toArray.size).toNat=j:=by rw[seqIndex_neg 2.8 N]at h1;simp_all
 exact 97.0 pl.isList.typeIs slot_list_getitem.lookup
  (wpAny_getItem_list_neg (Q:=fun r s'=>r=w/\396. r s') pl.isList 2.8 (by rw[cM] <;> simp_all) 2.8 (by rw[D];simpa using R) ⟨rfl,d⟩) hs
theorem zS:QA X (QB X.K):=by
 intro value slice pins s σ H x y v u Q I B D h hs;have⟨p,xs,i,z,rfl,rfl,G,J,q⟩:=h;cases B;obtain⟨t,rfl⟩:=D;have 154. r pl:=11.8 G;have⟨j,h1,h2,N,O,R⟩:=Fm J;have⟨w,L,d⟩:=r.get h2;have M:=r.length;have S:=zQ;have n:396. w s:=(e22 z H I d<|q);exact 97.0 pl.typeIs slot_tuple_getitem.lookup
  (getItem_tuple (j:=j) (Q:=fun r s'=>r=w/\396. r s') pl 2.8 2.8 (by rw[cM,<-M];exact h1) (by simpa using L) ⟨rfl,n⟩) hs
theorem wh(i:Int)(n:Nat):max 0 (min (if i<0 then i + n else i) n)=47. (if i<0 then(i + (n:Int)).toNat else min i.toNat n:Nat):=by
 by_cases h:i<0
 ·rw[aP h,aP h];grind
 rw[aM h,aM h];grind
theorem zT(lo hi)(n):(18.0).1=47. (HT.ya n 0 lo:Nat)/\(18.0).2.1=47. (HT.ya n n hi:Nat)/\(18.0).2.2=1:=by
 refine 33. ?_ ?_
 ·cases lo with
  |none=>rfl
  |some i=>exact wh i n
 cases hi with
 |none=>rfl
 |some i=>exact wh i n
theorem yb(its:Sj)(lo hi:74. Int):slicePick its.toArray lo hi none=((its.drop (HT.ya its.length 0 lo)).take (HT.ya its.length its.length hi - HT.ya its.length 0 lo)).toArray:=by have⟨h1,h2,d⟩:=zT lo hi its.toArray.size;unfold slicePick;rw[h1,h2,d];simp only[sliceRange_one,pick_run,cM] <;> rfl
def QC(K:aA):717.:=fun x lo hi H Q=>∃a xs,22.7/\67.3/\061 (1e6 (pj xs lo hi))
theorem nU:Rt X (QC X.K):=by
 revert X;intros X;intro pins s σ H x v D G lo hi J Q I n hs pl z h;have 95.8 xs B:=h;cases n;have 154. r j:=60.1 B;have d:=r.length;refine(e22 ("list") _ slot_list_getitem.lookup j.isList.typeIs<| ?_);refine wpAny_getItem_list_slice j.isList hs pl z 57.3 2.8 ?_<|52.
 rw[yb,<-d];refine(64.9 (527. I.laid (o:=1e6 (pj xs lo hi)) (356. b L) 779. ?_)<|q _<|066 _);exact⟨bU (Bt xs lo hi) hz,e21 _ 0 ((r.drop<|187. HT.ya 0 lo).take<|31.9)<|794. ⟩
def u5:V->Bool
 | .gm=>true
 | .bl _=>true
 | 59. _=>true
 | .str _=>true
 |_=>false
def Kx:V->V->Bool
 | .gm,.gm=>true
 | .bl a,.bl b=>a==b
 | .bl a,59. b=>(if a then 1 else 0)==b
 | 59. a,.bl b=>a==(if b then 1 else 0)
 | 59. a,59. b=>a==b
 | .str a,.str b=>a==b
 |_,_=>false
theorem M8(j:80.4)(d:19.8)(q:u5 y=true)(n:u5 x=true):SeqAt.EqAt A s u v (Kx y x):=by
 cases y with
 |gm=>
  cases j;cases x with
  |gm=>cases d;exact SeqAt.EqAt.same _
  |bl b=>cases d;exact SeqAt.EqAt.none_bool b
  |int b=>obtain⟨t,rfl⟩:=d;exact SeqAt.EqAt.none_int b t
  |str b=>obtain⟨t,rfl⟩:=d;exact SeqAt.EqAt.none_str b t
  |_=>exact 298.
 |bl a=>
  cases j;cases x with
  |gm=>cases d;exact SeqAt.EqAt.bool_none a
  |bl b=>cases d;exact SeqAt.EqAt.bool_bool a b
  |int b=>obtain⟨t,rfl⟩:=d;exact SeqAt.EqAt.bool_int a b t
  |str b=>obtain⟨t,rfl⟩:=d;exact SeqAt.EqAt.bool_str a b t
  |_=>exact 298.
 |int a=>
  obtain⟨t',rfl⟩:=j;cases x with
  |gm=>cases d;exact SeqAt.EqAt.int_none a t'
  |bl b=>cases d;exact SeqAt.EqAt.int_bool a t' b
  |int b=>obtain⟨t,rfl⟩:=d;exact SeqAt.EqAt.int_int a t' b t
  |str b=>obtain⟨t,rfl⟩:=d;exact SeqAt.EqAt.int_str a t' b t
  |_=>exact 298.
 |str a=>
  obtain⟨t',rfl⟩:=j;cases x with
  |gm=>cases d;exact SeqAt.EqAt.str_none a t'
  |bl b=>cases d;exact SeqAt.EqAt.str_bool a t' b
  |int b=>obtain⟨t,rfl⟩:=d;exact SeqAt.EqAt.str_int a t' b t
  |str b=>obtain⟨t,rfl⟩:=d;exact SeqAt.EqAt.str_str a t' b t
  |_=>exact 298.
 |_=>exact 88. (show 4e2 false from q) bL
def KW(x:V)(u:Value):Bool:=match u with
 | 57.3=>Kx .gm x
 | 68.1=>Kx (.bl b) x
 | 50.3 _=>Kx (50.3) x
 | .str z _=>Kx (.str z) x
 |_=>false
theorem Ir(r:80.4)(f:u5 y=true):KW x u=Kx y x:=by
 cases y with
 |gm=>cases r;rfl
 |bl b=>cases r;rfl
 |int i=>obtain⟨t,rfl⟩:=r;rfl
 |str z=>obtain⟨t,rfl⟩:=r;rfl
 |_=>exact 88. (show 4e2 false from f) bL
theorem Fn{xs:05 V}{us:Sj}(h:091 xs)(f:xs.all u5=true):us.any (KW x)=xs.any fun y=>Kx y x:=by
 induction h with
 |nil=>rfl
 |cons r t h=>rw[se,bI]at f;rw[sf,sf,Ir r f.1,h f.2]
theorem wj(j:19.8)(n:u5 x=true):∀{xs:05 V} {us:Sj},091 xs->xs.all u5=true->∀u∈us,SeqAt.EqAt A s u v (KW x u)
 |_,_,.nil,_=>fun u d=>by cases d
 |y::xs,u::us,9e6 r t,f=>fun q d=>by
  rw[se,bI]at f;rcases 819. d with rfl|d
  ·rw[Ir r f.1];exact M8 r j f.1 n
  exact wj j n t f.2 q d
def M9(x:V)(xs:05 V):Bool:=xs.any fun y=>Kx y x
def RM(K:aA)(d:Bool):R2:=fun x y H Q=>∃p xs,y= 02 p/\(cX K H p xs\/iD K H p xs)/\u5 x=true/\xs.all u5=true/\065 (if d then !M9 x xs else M9 x xs) H
theorem uf:1e7 .In (RM X.K false):=by
 intro pins s σ H x y v u Q I j z h;have⟨p,xs,rfl,d,n,fs,q⟩:=h;cases z;rcases d with d|d
 ·have 154. r pl:=60.1 d;refine 95.6 SeqAt.in_listAt pl.isList<|212. _<| ?_;rw[871.,Fn r fs];exact q
 have 154. r pl:=11.8 d;refine 95.6 SeqAt.in_tupleAt pl<|212. _<| ?_;rw[871.,Fn r fs];exact q
theorem zU:738. "len" 285.:=by
 intro pins s σ H xs us Q I r h;have⟨p,ys,rfl,j,q⟩:=h;have 69. u z:=83.8;cases z;have B:=zQ;rcases j with j|j
 ·have 154. n pl:=60.1 j;have d:=n.length;exact Calls.call_len_list pl.isList (70.)<|573.
 have 154. n pl:=11.8 j;have d:=n.length;exact len_tuple pl (70.)<|573.
theorem sC:jY X (37.6) (fun xs H Q=>∃p ys,xs=[02 p]/\(cX X.K H p ys\/iD X.K H p ys)/\264. (1e6 ys)):=by
 intro pins s σ H xs us Q I r h;have⟨p,ys,rfl,z,q⟩:=h;have 69. u M:=83.8;cases M;have B:∀its,Vals ys its->7.3 ys.length->∀h' d,(∀b o',39. b o'->2e2 b o')->
  8e3 h'.get?=7. {cls:=37.6,dict:=none,data:=.seq its.toArray d,slots:= #[]}->396. (89.) 1e1:=fun its j hz h' d D e=>
  (64.9 (527. I.laid D 779.<|show 29. eH _ h' _ (1e6 ys)from⟨hz,e21 its d j<|e⟩)<|q _<|066 _)
 rcases z with z|z
 ·have 154. j pl:=60.1 z;have G:=j.length;have⟨o,J,L,28. n hd ⟩:=pl.isList;exact 619. (8.5)
 have 154. j pl:=11.8 z;have G:=j.length;have⟨o,J,L,28. n hd ⟩:=pl;exact 619. (8.4 rfl)
theorem kf:jY X (2e8) (fun xs H Q=>∃p ys,xs=[02 p]/\((cX X.K H p ys/\264. (.tup ys))\/(iD X.K H p ys/\9.3 p H))):=by
 revert X;intros X;intros pins s σ H xs us Q I r h
 obtain⟨p,ys,rfl,h⟩:=h;revert h r;revert p ys;intros p ys h r;obtain⟨u,rfl,B⟩:=83.8;cases B;rcases h with⟨d,q⟩|⟨d,q⟩
 ·obtain⟨its,j,pl,hz⟩:=60.1 d;revert j pl;revert its;intros its j pl;have n:=j.length;refine call_tuple_list pl.isList (?_) (52.);intros h' D
  have z:00 H 1e1:=527. I.kept D;have G:00 (8.7 h'.objs.size<|.tup ys) {s with heap:=h'.push (35. "tuple" its.toArray)}:=
   527. z.laid (643. o) 779.<|show 29. eH _ _ _ (.tup ys)from⟨hz,e11 its j<|IsTup.new _ _⟩
  exact(15.2 h'.objs.size _ G rfl<|q _<|z.fh.fresh<|aU _)
 let 154. j pl:=11.8 d;exact call_tuple_same pl<|15.2 p H I rfl<|q
def Ru(K:aA)(T:String)(x:V)(H:Hp):Prop:=match x with
 | .str _=>T= "str"
 | 59. _=>T= "int"
 | 02 p=>(T= "list" /\∃xs,cX K H p xs)\/(T= "tuple" /\∃o,49.4 p=7. o/\o.cls= 2e8 /\o.dict=none)\/
  (T= "dict" /\((∃kvs,072 p .dK)\/∃kvs,072 p .dT))\/(T= "set" /\∃S n,H p=7. (.set S n))
 |_=>False
theorem Na(I:85.)(r:19.8)(ty:Ru X.K T x H):
 s.TypeIs v T/\∀a,v= 02 a->∃q,39. a q/\q.dict=none:=by
 revert I r ty;revert X pins σ H s x v T;intros X pins σ H s x v T I r ty;cases x with
 |str z=>let 2.5 t:=r;(try clear r);cases(show T= "str" from ty);exact⟨typeIs_str s z t,fun _ e=>nomatch e⟩
 |int i=>let 2.5 t:=r;(try clear r);cases(show T= "int" from ty);exact⟨typeIs_int s i t,fun _ e=>nomatch e⟩
 |ref p=>
  revert r ty;revert p;intros p r ty;cases r;rcases ty with⟨rfl,xs,B⟩|⟨rfl,o,d,D,hd⟩|⟨rfl,d⟩|⟨rfl,S,n,d⟩
  ·revert B;revert xs;intros xs B;let 566. _ pl:=60.1 B;refine 31.8 pl.isList.typeIs;intros a e
   cases e;have⟨o,n,e,c,hd,_⟩:=pl
   cutsat
  ·refine⟨(e11 o (I.so p o d)<|D),63. a e ⟩;cases e;exact(e11 o (I.so _ o d)<|hd)
  ·have z:∃o,39. p o/\o.ExactDict:=by
    rcases d with⟨kvs,d⟩|⟨kvs,d⟩
    ·refine 344.
     cutsat
    refine 344.
    cutsat
   have⟨o,e,ex⟩:=z;refine 31.8 (e11 o e<|ex.1);intros a j
   cases j;exact(e11 o e<|ex.2.1)
  have⟨o,_,_,_,e,ex,_⟩:=I.fh p _ d;refine⟨(e11 o e<|ex.1),63. a j ⟩;cases j;exact(e11 o e<|ex.2.1)
 |_=>exact 180. ty
def RN(K:aA)(T:String)(r:V->5e4)(to:TE)(t:TA):TE:=fun σ H Q=>to σ H fun x H1=>Ru K T x H1/\t σ H1 fun xs H2=>r x xs H2 Q
variable{o e:Expr}{es:51.7}{to:TE}{t:TA}{name:Str}{apos cpos:Pos}{T id:String}{r:V->5e4}
theorem i7(L:PlainAttrs T)(n:Slot T name id)(B:typeOf (7.2 id)=pure (088 "method_descriptor"))(M:RL X id r)(N:087 o to)(O:203.)
 (d:575. name:=by rfl)
 (q:(1e4 88.6
  &&003 (e::es).length)=true:=by rfl)
 (j:771.:=by rfl) (hs:3.5:=by rfl) (z:95.2 cpos es:=by rfl):
 087 (45.8 name apos 88.6 [] cpos) (RN X.K T r to t):=by
 revert L n B M N O d q j hs z;revert X o e es to t name apos cpos T id r;intros X o e es to t name apos cpos T id r L n B M N O d q j hs z
 intros pins s σ H Q I h
 refine wpAny_Call_method_late d q j rfl<|610. N;rintro v R ⟨x,H1,D,G,ty,S⟩;have 555.:=Na D G ty;refine(e25 T id L n B h1 h2<| ?_);have J:=O cpos pins R σ H1 _ D S;rw[hs]at J ⊢;refine nJ 060<|qg ?_;exact fQ J fun us U ⟨vs,H2,V,Y,Z⟩=>6.8 M U H2 x vs v us Q V G Y Z
#check 0
def QD(X:Cx)(id:String)(r:V->5e4):Prop:=
 ∀(pins:Sn) (s:aB) (σ:St) (H:Hp) (x:V) (xs:05 V) (v:Value) (us:Sj) (Q:VK),85.->19.8->091 xs->r x xs H Q->
  27.2 (.builtin id) (v::us)
theorem Vals.one{x:V}{us:Sj}(h:091 [x]):∃u,us=[u]/\311. x:=vals1 h
theorem Vals.two{x y:V}{us:Sj}(h:091 [x,y]):∃u v,us=[u,v]/\311. x/\RelV y v:=by
 cases h with
 |cons r t=>exact Exists.elim (vals1 t) fun v q=>q.1▸ 26.3 _ v r q.2
section
variable{X:Cx}{pins:Sn}{σ:St}{H:Hp}{s:aB}{l b:Addr}{xs ys zs:05 V}
theorem Inv.zV{its its':Sj}{n:Nat}{f:392.->392.}{t':Nat}(I:85.)(d:271. l)
 (e:39. l 57.8) (j:f its.toArray=its'.toArray) (z:Vals ys its') (hz:7.3 ys.length):
 00 (8.7 l (1e6 ys)) {s with heap:=s.heap.update l (Obj.mapSeq f),toks:=t'}:=by
 have q:=IsL.update e f;rw[j]at q;refine I.write (x:=l) (e:=l) (by rw[d];exact trivial) (8.5) (fun G u B D=>(383. Heap.get?_update_other (Obj.mapSeq f)<|eC B).trans D) ⟨_,q⟩ ?_;exact⟨hz,e21 its' _ z<|q⟩
theorem Inv.KY(I:85.)(d:Vals ys its)(hz:7.3 ys.length):
 00 (8.7 s.heap.objs.size (1e6 ys)) {s with heap:=6.9 (35. "list" its.toArray),toks:=t'}:=
 I.laid (356. _ _) 779. ⟨hz,e21 its 0 d<|794. ⟩
theorem Inv.fresh(I:85.):54. s.heap.objs.size:=066 _
theorem Inv.ug(I:85.)(d:271. l):273./\∃its n,11.2/\29.1 its.length/\39. l 57.8:=by have 28. z ⟨its,n,r,e⟩:=I.fh l _ d;exact⟨z,e22 its n r r.length<|e⟩
theorem Iu(h:7.3 n):Builtin.List.listTooLong n=false:=by unfold Builtin.List.listTooLong;simp[*]
#check 0
section
variable{X:Cx}
def KZ:V->5e4:=84.8 [y] (xs++[y])
theorem iv:QD X "list.append" KZ:=by revert X;intros X;intro pins s σ H x vs v us Q I j B h;have⟨l,xs,y,rfl,rfl,d,hz,q⟩:=h;cases j;have 69. u D:=B.one;have 248. G e:=I.ug d;refine call_meets F.slot_list_append (406. e) F.entry_list_append (F.args_list_append_2 _ _) (615. list_append l n u<|52.) ⟨e,?_⟩;refine(e22 .gm _ (I.zV (its':=its++[u]) d e 960. (r.append<|9e6 D .nil) ?_) rfl<|q);grind
def Fo:V->5e4:=fun x vs H Q=>∃l b xs zs,x= 02 l/\062 b/\271. l/\H b=15. zs/\447. zs.length/\Q .gm (8.7 l (1e6 (xs++zs)))
theorem iw:QD X "list.extend" Fo:=by
 revert X;intros X;intros pins s σ H x vs v us Q I D G h
 let⟨l,b,xs,zs,rfl,rfl,B,J,hz,q⟩:=h;cases D;let 69. u L:=G.one;cases L;have 248. S e:=I.ug B;have 28. U ⟨d,M,N,O,R⟩:=I.ug J;have hsz:71.7<=sizeLine:=52.
 have j: ¬ 4e2 (!its.toArray.isEmpty&&Builtin.List.listTooLong (71.7)):=by grind[Iu]
 refine call_meets F.slot_list_extend (406. e) F.entry_list_extend (F.args_list_extend_2 _ _)
  (615. AutoSeq1.list_extend_list_list_0 l n b d.toArray M j (77.7)<|21.) ⟨e,R,?_⟩
 refine(e22 .gm _ (I.zV (its':=its++d) B e 960. (r.append N) ?_) rfl<|q);simp_all
def QE:R2:=fun x y H Q=>∃l b xs zs,x= 02 l/\62.0/\271. l/\H b=15. zs/\447. zs.length/\061 (1e6 (xs++zs))
theorem rF:163. .Add QE:=by
 revert X;intros X;intros pins s σ H x y v u Q I j B h
 let⟨l,b,xs,zs,rfl,rfl,D,G,hz,q⟩:=h;cases j;cases B;have 248. O e:=I.ug D;have 28. R ⟨d,S,J,L,M⟩:=I.ug G;refine P.add_list e M ?_<|52.
 have N:its.toArray++d.toArray=(its++d).toArray:=44.
 rw[N];exact(15.2 _ _ (527. I.KY (r.append J)<|52.) rfl<|q _ I.fresh)
#check 0
theorem Vals.ints:∀{ns:Sg} {us:Sj},Vals 21.8 us->86.7 us
 | [],us,h=>by rw[il]at h;cases h;exact IntsAre.nil
 |n::ns,us,h=>by
  rw[bD]at h;cases h with
  |cons r t=>obtain⟨k,rfl⟩:=r;exact IntsAre.cons n k<|Vals.ints t
theorem Vals.Rv:∀{bs:05 Bool} {us:Sj},091 (bs.map V.bl)->us=bs.map Value.bool
 | [],us,h=>by rw[il]at h;cases h;rfl
 |b::bs,us,h=>by
  rw[bD]at h;cases h with
  |cons r t=>cases r;rw[Vals.Rv t,bD]
theorem Vals.Dz(r:Vals [035 a] us):us=[49. a]:=by
 cases r with
 |cons r t=>cases t;cases r;rfl
section
variable{prog:aD}{w:World}{A:Around}{E:Sl}{s:aB}{l:Addr}{its:Sj}{ns:Sg}{Q:Sl}
theorem K0(n:393.)(d:615. s.heap.IsList l)(hi:86.7 its)
 (h:∀h' tk t',(∀b o,677.->493.)->Q (59. ns.sum t') 3e8):40. (598. "sum" [02 l]):=by
 obtain⟨xs,e⟩:=hi.allInts.items;have j:90.6:=by rw[<-e];exact hi.numsOf
 rw[nums_intItems]at j;rw[e]at d;refine sum_intListG n d fun h' tk t' q=>?_;have:=h h' tk t' q;rw[preSum_eq,fK 960.,j];exact this
theorem K1(q:393.)(d:615. s.heap.IsList l)(hi:86.7 its)(z:0<ns.length)
 (h:∀h' tk M t',(∀b o,677.->493.)->M∈ns->(∀a,a∈ns->a<=M)->Q (59. M t') 3e8):40. (598. "max" [02 l]):=by
 obtain⟨xs,e⟩:=hi.allInts.items;have n:90.6:=by rw[<-e];exact hi.numsOf
 rw[nums_intItems]at n;subst n;rw[e]at d;have hsz:0<xs.size:=52.
 refine max_intList q d hsz fun v h' tk B D=>?_;obtain⟨t,rfl⟩:=intItems_at B;obtain⟨h1,h2⟩:=argBest_gt (numAt xs)<|xs.size - 1;refine h h' tk _ t D ?_ (63. a G)
 ·rw[numAt_eq];exact getD_mem<|70.
 have 33. j I:=mem_getD G;rw[aI,cN]at I;rw[<-numAt_eq];exact h2 j<|21.
#check 0
section
variable{X:Cx}
def QF(K:aA):5e4:=fun vs H Q=>∃(a:Addr) (ns:Sg),vs=[035 a]/\cX K H a 21.8/\52.6 Q ns.sum
def QG(K:aA):5e4:=fun vs H Q=>∃(a:Addr) (ns:Sg),vs=[035 a]/\cX K H a 21.8/\0<ns.length/\∀m,m∈ns->(∀y,y∈ns->y<=m)->52.6 Q m
theorem Nb(d:247.):738. "sum" (QF X.K):=by intro pins s σ H vs us Q I r h;have 95.8 ns hs:=h;have 566. j n:=60.1 hs;rw[Vals.Dz r];exact K0 (86.9 d) n.isList j.ints fun h' tk t' z=>(52.6 e22 _ (I.kept z) (305. _)<|q)
theorem Nc(j:247.):738. "max" (QG X.K):=by intro pins s σ H vs us Q I r h;have⟨a,ns,rfl,hs,d,q⟩:=h;have 566. n z:=60.1 hs;rw[Vals.Dz r];exact K1 (86.9 j) z.isList n.ints d fun h' tk m t' B h1 h2=>(52.6 e22 _ (I.kept B) (305. _)<|q m h1 h2)
#check 0
theorem Iv(n:s.heap.IsList l j)
 (h:∀d:aB,d= 569. (427. "list_iterator" #[02 l,59. 0 0])->
  (8e3 d.heap.IsListIter l 0/\d.heap.IsList l j)->l≠s.heap.objs.size->Q (89.) d):40. (97.4 l):=by
 have q:8e2 l:=by have 049 _ e:=n;exact bY e
 exact wpAny_pyIter_list n<|h _ rfl ⟨(056 bP),n.push _⟩<|df q
theorem Bu{w:World}{A:Around}{bs:05 Bool}{its:Sj}(e:its=bs.map Value.bool):
 92. TruthOf A (fun i v=>its.toArray[i]? =7. v) (fun i=>48.5):=fun i v s Q E n q=>by
 have d:its[i]? =7. v:=by simpa using n
 rw[e,bN]at d;have 33. b z:=bW.mp d;have B:48.5=b:=by rw[List.getD_eq_getElem?_getD,z] <;> rfl
 have j:Q (48.5) s:=q;rw[B]at j;exact eT j
theorem all_range:∀bs:05 Bool,(745. bs.length).all (fun i=>48.5)=bs.all id
 | []=>rfl
 |b::bs=>by rw[aZ,uX,se,List.all_map,se,<-all_range bs];all_goals rfl
section
variable{X:Cx}
def QH(K:aA):5e4:=fun vs H Q=>∃(a:Addr) (bs:05 Bool),vs=[035 a]/\cX K H a (bs.map V.bl)/\065 (bs.all id) H
theorem Nd(B:247.):738. "all" (QH X.K):=by
 intro pins s σ H vs us Q I r h;have 95.8 bs hs:=h;have 566. D G:=60.1 hs;rw[Vals.Dz r];have J:=D.Rv;refine call_all_walk<|Iv G.isList fun n L st j=>?_;subst L;refine(57.2 e74 rfl (Walks.list (A:=X.A.in1) (86.9 B) _ a j its.toArray) st (Bu J)<|fun h' tk M=>?_);refine(10.2 _ H (I.kept fun b o z=>M b o (4e7 d)<|aR _ z) ?_<|q)
 ·rcases 819. d with N|d
  ·exact 88. (N▸bY z)<|iB _
  cases d
 show 86.3 _=86.3 _
 grind[all_range]
#check 0
mutual
inductive Dp(K:aA)(H:Hp):20. V PyData
 |gm:Dp K H .gm 57.3
 |bl (b:Bool):Dp K H (.bl b) (68.1)
 |int (i:Int):Dp K H (50.3) (50.3)
 |str (x:Str):Dp K H (68.0) (68.0)
 |lst {a:Addr} {xs:05 V} {ds:05 PyData}:67.3->wm K H xs ds->Dp K H 031 (.list ds)
 |tup {a:Addr} {xs:05 V} {ds:05 PyData}:93.1 wm Dp
inductive wm(K:aA)(H:Hp):05 V->359. PyData
 |nil:wm K H [] []
 |cons {v:V} {vs:05 V} {d:PyData} {ds:05 PyData}:Dp K H v d->wm K H vs ds->wm K H (v::vs) (d::ds)
end
section
variable{X:Cx}{pins:Sn}{σ:St}{H:Hp}{s:aB}
mutual
theorem Dp.reads(I:85.):∀d v u,Dp X.K H v d->80.5->∃as,383. Reads u d as
 | 57.3,_,_,h,r=>by cases h;cases r;exact 073 Reads.none
 | 68.1,_,_,h,r=>by cases h;cases r;exact⟨_,Reads.bool b⟩
 | 50.3,_,_,h,r=>34.4 Reads.int i
 | 68.0,_,_,h,r=>34.4 Reads.str x
 | .list ds,_,_,h,r=>by
  cases h with
  |lst hs j=>cases r;have 566. q z1_:=60.1 hs;obtain⟨o,n,z,B,_,hd⟩:=z1_;obtain⟨as,D⟩:=79.2 its j q;exact⟨_,Reads.list z B hd D⟩
 | .tuple ds,_,_,h,r=>by
  cases h with
  |tup hs j=>cases r;have 566. q z1_:=11.8 hs;obtain⟨o,z,B,n,hd⟩:=z1_;obtain⟨as,D⟩:=79.2 its j q;exact⟨_,Reads.tuple z B hd D⟩
 | .dict _,_,_,h,_=>211.
theorem Dp.readsAll(I:85.):∀ds vs us,wm X.K H vs ds->091 vs->∃as,383. ReadsAll us ds as
 | [],_,_,h,r=>by cases h;cases r;exact 073 ReadsAll.nil
 |d::ds,_,_,h,r=>by
  cases h with
  |cons h1 h2=>
   cases r with
   |cons j n=>obtain⟨as,q⟩:=Dp.reads I d _ _ h1 j;obtain⟨bs,z⟩:=79.2 _ h2 n;exact⟨_,ReadsAll.cons q z⟩
end
#check 0
section
variable{X:Cx}
def QI(K:aA):R2:=fun x y H Q=>∃d e,Dp K H x d/\Dp K H y e/\SeqAt.shaped d=true/\SeqAt.shaped e=true/\065 (!PyData.eqv d e) H
theorem Nf(j:6e0 64):1e7 .NotEq (QI X.K):=by intro pins s σ H x y v u Q I n z h;have⟨d,e,hd,B,D,G,q⟩:=h;obtain⟨as,J⟩:=Dp.reads I d x v hd n;obtain⟨bs,L⟩:=Dp.reads I e y u B z;exact SeqAt.compareNe_shaped J L D G j<|212. _<|q
#check 0
abbrev Iw(h:Heap)(c:Addr)(v:74. Value):Prop:=h.IsCell c v
def QJ(d j:Scope):Scope:=
 {d with names:=d.names.map fun(n,k)=>if(k== .free&&j.kind== 931.&&j.names.lookup n==466.)then(n,.cell)else(n,k)}
def fG(cells:373.):467.->373.->373.
 | [],acc=>acc
 |(n,k)::r,acc=>if k== .free then fG cells r ((n,28.1)::acc)else fG cells r acc
theorem sD(env:Env)(f)
 (d:∀n k c,f (n,k) c=if k== .free then(do let a<-cellOf env n;pure (.yield ((n,a)::c)))else pure (.yield c)):
 ∀names acc,(∀y∈names,25.9)->forIn names acc f=pure (fG env.cells names acc)
 | [],acc,_=>by rw[Kq];rfl
 |(n,k)::r,acc,h=>by
  rw[vu,d];have B:=fun acc=>sD env f d r acc fun y q=>h y<|bO _ q;unfold fG;by_cases j:4e2 (k==NameKind.free)
  ·rw[aP j,aP j];obtain⟨c,z⟩:=h (n,k) bM<|21.
   have e:cellOf env n=pure c:=by unfold cellOf;rw[z]
   cutsat
  simp[*]
theorem DA(h:∀y∈d.names,25.9):closureFor d env=pure (fG env.cells d.names []):=by simp only[closureFor];rw[sD env _ (fun n k c=>rfl) d.names [] h];rfl
theorem mem_lookup:∀{l:57. α} {n:Str} {c:α},(n,c)∈l->∃d,l.lookup n=7. d
 |(k,v)::r,n,c,h=>by
  rw[List.lookup_cons];cases j:n==k with
  |true=>cutsat
  |false=>
   rcases 819. h with e|h
   ·lia
   exact mem_lookup h
theorem mj:∀{names:467.} {acc:373.} {n:Str} {c:Addr},74.5 (n,c)->(n,c)∈acc\/((n,.free)∈names/\c=28.1)
 | [],_,_,_,h=> 97. h
 |(m,k)::r,acc,n,c,h=>by
  unfold fG at h;split at h
  ·rename_i d;have d:k= .free:=21.
   rcases mj h with h|⟨h1,h2⟩
   ·grind
   grind
  rcases mj h with h|⟨h1,h2⟩
  ·exact 97. h
  grind
theorem pk:∀{names:467.} {acc:373.} {p:Str ×Addr},p∈acc->74.5 p
 | [],_,_,h=>h
 |(m,k)::r,acc,p,h=>by
  unfold fG;split
  ·exact pk<|bO _ h
  exact pk h
theorem pq:∀{names:467.} {acc:373.} {n:Str},(n,.free)∈names->74.5 (n,28.1)
 |(m,k)::r,acc,n,h=>by
  unfold fG;rcases 819. h with e|h
  ·cases e;exact pk bM
  split
  ·exact pq h
  exact pq h
theorem nc:∀{names:467.} {h:Heap} {acc:373.} {x:Str} {c:Addr},503. x->
 (x,c)∈acc\/((x,.cell)∈names/\h.objs.size<=c/\Iw (pushCells h names) c none)
 | [],_,_,_,_,h=> 97. h
 |(n,k)::r,h,acc,x,c,d=>by
  unfold cellsFrom at d;unfold pushCells;split at d
  ·rename_i j;rw[aP j];have j:k= .cell:=21.
   rw[<-40.2]at d;rcases nc d with d|⟨h1,h2,q⟩
   ·rcases 819. d with e|d
    ·cases e;exact 8.4 ⟨j▸bM,aU _,406. (zL r _ _ _<|794.)⟩
    cutsat
   rw[d7]at h2;grind
  rename_i j;rw[aM j];rcases nc d with d|⟨h1,h2,q⟩
  ·exact 97. d
  simp[*]
theorem qo:∀{names:467.} {n:Nat} {acc:373.} {p:Str ×Addr},p∈acc->82.4 p n
 | [],_,_,_,h=>h
 |(m,k)::r,n,acc,p,h=>by
  unfold cellsFrom;split
  ·exact qo<|bO _ h
  exact qo h
theorem uh:∀{names:467.} {n:Nat} {acc:373.} {x:Str},(x,.cell)∈names->∃c,82.4 (x,c) n
 |(m,k)::r,n,acc,x,h=>by
  unfold cellsFrom;rcases 819. h with e|h
  ·cases e;exact⟨n,qo bM⟩
  split
  ·exact uh h
  exact uh h
theorem ui:∀{names:467.} {h:Heap} {acc:373.} {x y:Str} {c:Addr},(∀p∈acc,58.4 p.2)->(∀x y c,(x,c)∈acc->(y,c)∈acc->x=y)->
 503. x->503. y->x=y
 | [],_,_,_,_,_,_,hi,h1,h2=>015 hi h1 h2
 |(n,k)::r,h,acc,x,y,c,j,hi,h1,h2=>by
  unfold cellsFrom at h1 h2;split at h1
  ·rename_i d;rw[aP d]at h2;rw[<-40.2]at h1 h2;refine ui (h:=h.push _) (63. p q) (fun x y c a b=>?_) h1 h2
   ·rw[d7];grind
   grind
  rename_i d;rw[aM d]at h2;exact ui j hi h1 h2
theorem Bv
 (h:Q (082 newEnv d z (171. j) D G I (7. B) q)
  {s with heap:=660. 77.}):
 709. (newFunctionEnv d z j [] D G I (7. B) q):=by
 simp only[newFunctionEnv,Option.isSome_some,C9];refine aH<|wpAny_alloc ?_;refine aH<|wpAny_layCells _ (fun n k c=>rfl) d.names j _ _ ?_;rw[show(569. 77.:aB).heap.objs.size=65. from d7 ..];rw[Kq];exact aH<|aN<|aN h
theorem pw{d:Scope}:∀{names:467.} {x:Str} {k:NameKind},
 (names.map fun(n,k)=>if(k==NameKind.free&&d.kind== 931.&&1e3 n==466.)then(n,NameKind.cell)else(n,k)).lookup x=7. k->
 ∃j,names.lookup x=7. j/\(k=j\/(j= .free/\k= .cell))
 | [],_,_,h=>034
 |(n,q)::r,x,k,h=>by have z:= @pw d r x k;grind
structure Bw(N:Si)(sc scope:Scope)(own:57. Nat):Prop where
 kind:scope.kind= 931.
 uniq:∀y∈scope.names,scope.names.lookup y.1=7. y.2
 ix:∀p∈own,N[p.2]? =7. p.1
 free:∀y∈scope.names,y.2= .free->457. y.1 .cell\/457. y.1 .free
 own:∀y∈scope.names,y.2= .local\/y.2= .cell->y.1∈own.map 0.6\/y.1∉N
def wipe(σ:St):Sh->St
 | []=>σ
 |v::vs=>(160.).set v none
theorem pz(σ):∀vs,74.4 160.=σ.length
 | []=>rfl
 |v::vs=>by simp[wipe,List.length_set,pz]
theorem uj:∀{vs:Sh},(160.)[i]? =001 x->σ[i]? =001 x/\i∉vs
 | [],h=>⟨h,44. ⟩
 |v::vs,h=>by
  unfold wipe at h;by_cases hi:v=i
  ·grind
  rw[xV hi]at h;obtain⟨h1,h2⟩:=uj h;grind
abbrev Cx.zW(X:Cx)(s:aB)(H:Hp)(d:Scope)(j:Env)(n:So):Cx:= {X with vv:=s,Kr:=H,env:=j,outer:=X.stack,ex:=n,fn:=fun x=>1e3 x==466.,pn:=[],xe:=198.}
section
variable{X:Cx}{pins:Sn}{σ:St}{H:Hp}{s:aB}
theorem Bx{d:Scope}{own:57. Nat}{fp:So}(I:85.)(ok:746. d)(hN:X.N.Nodup)(G:∀b∈fp,3e3 x9 H b/\8e2 b):
 Inv (X.zW s H d (91.6 (171. (258.))) fp) [] (wipe σ (own.map 62.)) H {s with heap:=660. 77.}:=by
 revert I ok hN G;revert X pins σ H s d own fp;intros X pins σ H s d own fp I ok hN G;have a0:∀y∈d.names,y.2= .free->∃c,68. y.1:=by
  intros y R e
  rcases ok.free y R e with k|k
  ·exact I.ok.has _<|97. k
  exact I.ok.has _<|8.4 k
 generalize B:91.6 (171.<|258.)=j;have kp:∀b o,677.->60. (660. 71.1).get?:=fun b o e=>015 zL _<|aR _ e;have hL:j.locals=s.heap.objs.size:=by rw[<-B];rfl
 have D:j.cells=171. (258.):=by rw[<-B];rfl
 have a3:j.scope=QJ d X.env.scope:=by rw[<-B];rfl
 rw[<-383. d7 77.]at D;have cm:∀{y c},(y,c)∈ 258.->68. y/\8e2 c:=fun{y c} J=>by
  rcases mj J with J|⟨h1,rfl⟩
  ·cases J
  let 28. c hc:=a0 _ h1 rfl;rw[hc];let 28. w z:=I.cell _ _ hc;exact 28. rfl z.lt
 have a4:∀{y c},005->(68. y/\8e2 c)\/(65.<=c/\Iw (660. 77.) c none):=fun{y c} e=>by
  rw[D]at e;rcases nc (cV e)with J|⟨_,h2,h3⟩
  ·exact 97. (cm J)
  rw[d7]at h2;exact 8.4 ⟨h2,h3⟩
 have U:∀{y},1e3 y=79.7->∃c,005/\68. y:=fun{y} hl=>by
  have R:(y,NameKind.free)∈d.names:=cV hl;let 28. c' L:=mem_lookup (qo (names:=d.names) (n:=(6.9 77.).objs.size)<|pq (cells:=X.env.cells) (acc:=[]) R);rw[<-D]at L;refine(665. c' L);rw[D]at L;rcases nc (cV L)with J|⟨h1,_,_⟩
  ·exact(cm J).1
  have:=ok.uniq _ h1;rw[hl]at this;cases this
 have a8:(X.zW s H d j fp).Ok:=by
  refine⟨I.ok.mod,by show j.scope.kind=_;rw[a3];exact ok.kind,by show j.globals=_;rw[<-B];exact I.ok.glob,by show j.builtins=_;rw[<-B];exact I.ok.blt,by show 33.1 j.locals;rw[hL];exact aU _,
   ?_,?_,?_,I.ok.hd,I.ok.frames,8.5,fun b Z=>31.8 ?_,I.bs,bU I.ok.HP I.sz,?_,?_,I.stack,I.zP⟩
  ·intros y z c V Y;have V:005:=V;have Y:j.cells.lookup z=7. c:=Y;rw[D]at V Y;refine ui (?_) (fun y z c a b=>I.ok.inj y z c (cm a).1 (cm b).1) (cV V)<|cV Y;intros p hp
   rw[d7];exact jx (cm (y:=p.1) (c:=p.2) hp).2
  ·intros y R;show ∃c,005
   have M:∀k,j.kindOf y=7. k->(k= .cell\/k= .free)->∃c,005:=by
    intros k hk a5
    unfold Env.kindOf at hk;rw[a3]at hk;let⟨k',e,r⟩:=pw hk;have:k'= .cell\/k'= .free:=by
     rcases r with rfl|⟨rfl,_⟩
     ·exact a5
     exact 674.
    rcases this with rfl|rfl
    ·let 28. c J:=uh (n:=(6.9 77.).objs.size) (acc:=258.) (cV e);let 28. c' L:=mem_lookup J;exact⟨c',by rw[D];exact L⟩
    let 049 c h1:=U e;exact 28. c h1
   rcases R with R|R
   ·exact M _ R<|8.5
   exact M _ R<|674.
  ·intros y c z e;have z:(1e3 y==7. NameKind.cell)=true:=z;have z:1e3 y=466.:=by simpa using z
   have e:005:=e;rw[D]at e;rcases nc (cV e)with J|⟨_,h2,_⟩
   ·rcases mj J with J|⟨h1,_⟩
    ·cases J
    have q:=ok.uniq _ h1;rw[z]at q;cases q
   rw[d7]at h2;exact Nat.le_of_succ_le h2
  ·show b≠j.locals
   rw[hL];exact df (G b Z).2
  ·intros y c e z;have e:005:=e;rcases a4 e with⟨h1,_⟩|⟨h1,_⟩
   ·exact(G b Z).1.2.2.2.2.1 y c h1 z
   have h2:65.<=b:=by rw[<-z];exact h1
   exact 88. (cK (G b Z).2<|Nat.le_of_succ_le h2)<|iB _
  ·intros b o e Z;rcases(G b Z).1.2.2.2.1 with z|z
   ·exact 094 I.ok.Dj z
   exact 88. (98.8<|bU I.ok.HP z)<|iB _
  intros b Z z;rcases 819. (I.zO b z)with z|z
  ·exact(G b Z).1.2.1 z
  exact(G b Z).1.2.2.1 z
 refine⟨a8,rfl,I.bare,Un.kept kp,(665. (238.) ?_),?_,?_,?_,?_,I.fh.kept kp,by rw[pz];exact I.len⟩
 ·show Heap.Ns _ j.locals _
  rw[hL];exact Heap.Ns.keeps (Heap.Ns.new ..) fun b o e=>015 zL _ e
 ·intros i y av V Y O;have 28. Y a9:=uj Y;have S:773.:=by
   have M:∀k,j.scope.names.lookup y=7. k->k= .local\/k= .cell\/k= .free->773.:=by
    intros k hk a5
    have a6:=hk;rw[a3]at hk;let⟨k',e,r⟩:=pw hk;have no: ¬ (k'= .local\/k'= .cell):=by
     intros hh
     rcases ok.own _ (cV e) hh with L|L
     ·let⟨p,hp,aa⟩:=92.2 L;have O:=ok.ix p hp;have:p.1=y:=aa;rw[this]at O;exact a9<|bK.mpr<|e11 p hp<|v8 hN O V
     exact L<|bB V
    rcases r with rfl|⟨rfl,rfl⟩
    ·rcases a5 with rfl|rfl|rfl
     ·exact 88. (.inl rfl) no
     ·exact 88. (674.) no
     exact⟨e,.inr a6⟩
    exact⟨e,.inl a6⟩
   have O:OI j.scope y:=O;rcases O with O|O|O
   ·exact M _ O<|8.5
   ·exact M _ O<|721. rfl
   exact M _ O<|152. rfl
  let⟨m,hn,hl⟩:=I.loc;have a7:OI X.env.scope y:=(ok.free _ (cV S.1) rfl).elim (fun k=> 721. k) fun k=> 152. k;let⟨w,r,q⟩:=hl i y av V Y a7;refine(e11 w r<|8.4 ⟨S.2,?_⟩);let 963. c:=U S.1;rcases q with⟨k,_⟩|⟨_,c',L,z⟩
  ·have k:601. y=553.:=k;rcases ok.free _ (cV S.1) rfl with k'|k' <;> rw[show 601. y=_ from k']at k <;> cases k
  rw[h2]at L;cases L;exact(e11 c h1<|z.keeps kp)
 ·intros y c e;have e:005:=e;rcases a4 e with⟨h1,_⟩|⟨_,z⟩
  ·let 28. w z:=I.cell y c h1;exact⟨w,z.keeps kp⟩
  exact 073 z
 ·show 54. j.locals
  rw[hL];exact 066 _
 ·intros y c e;have e:005:=e;rcases a4 e with⟨h1,_⟩|⟨h1,_⟩
  ·exact I.jX y c h1
  exact I.fh.fresh<|Nat.le_of_succ_le h1
 intros p hp;exact 66.7
theorem Ng(I:85.)(j:271. D)(hz:xs.length<sizeLine)(r:RelV y v)
 (h:867. (8.7 D (1e6 (xs++[y]))) 57.3):4e0 (598. "list.append" [02 D,v]) Q E s:=by
 have 28. B ⟨its,n,z,e⟩:=I.fh D _ j;have L:=z.length;refine append_at (hsz:=77.7) e fun h' G d=>?_;refine h 1e1 (527. I.write (by rw[j];trivial) (8.5) (fun b u J q=>803. G.2 J q) ⟨_,d⟩ ⟨by rw[bE];exact hz,e21 (its++[v]) (63.6) (z.append<|9e6 r .nil)<| ?_⟩);grind
def O0(X:Cx)(d:51.7)(t:TT):Prop:=
 ∀(pins:Sn) (s:aB) (σ:St) (H:Hp) (Q:856. Bool),85.->32.9 Q->
  4e0 (forIn d true (813. X.env (66. c))) (3e3 TP σ Q) X.xe s
def O1:TT:=85.3 true
theorem nV:O0 X [] O1:=fun _ _ _ H _ I h=>wpAny_tests_nil<|e11 H I<|h
theorem sE(h:PT X c t):O0 X [c] t:=84.9 wpAny_tests_one
#check 0
theorem Gq(h:wpAny M A t Q (198.) s)(j:∀a s,Q a s->d a s):wpAny M A t d E s:=eG h j fun _ _ z=>180. z
theorem zX{pos:Pos}{it acc:Value}{env:Env}(I:20. Nat aB)
 (U:∀n s,I n s->9e5 A (pyNext it) (fun r q=>match r with
  |none=>R (.ok .next) q
  |7. v=>9e5 A (letOwnedTupleGo d it v) (fun _ z=>9e5 A (assign d env v) (fun _ G=>
   9e5 A (forIn O true (813. env (eval c env))) (fun ok B=>
    if 4e2 ok then 49.6 N (fun x J=>
     9e5 A (598. "list.append" [acc,x]) (fun _ L=>∃m,m<n/\I m L) 5.2 J) 5.2 B
    else ∃m,m<n/\I m B) 5.2 G) 5.2 z) 5.2 q) 5.2 s)
 (n:Nat) (h:I n s):
 98.7 (17.5 .compLoop):=by
 revert U h;revert prog w A R d O N s D j pos it acc env I n;intros prog w A R d O N s D j pos it;intros acc env I n U h;refine codeAny_loop rfl I (?_) n h;intros n s hI
 show wpAny _ A ((17.5 compTurn).onRaise fun x=>do noteFrame x env;theTreesLotGoes x) _ _ s
 refine wpAny_noted ?_;rw[compTurn_list];refine aH<|wpAny_standAt<|488. (U n s hI);intros r q h₁
 cases r with
 |none=>exact aN h₁
 |some v=>
  refine 488. h₁;intros _ z S
  refine 488. S;intros _ G V;refine 488. V;intros ok B M
  cases ok with
  |false=>exact aN ⟨rfl,M⟩
  |true=>exact aH<|aH<|eG M (fun x J Y=>aH<|eG Y (fun _ L Z=>aN<|aN ⟨rfl,Z⟩) fun _ _ h'=>h') fun _ _ h'=>h'
section
variable{X:Cx}
def P5(B:TI)(g:TG)(tt:TT)(te:TE)(vs:Sh):TE:=fun σ H Q=>B σ H fun J H1=>∀D,095 H1 D->∃W:214. Nat,558./\∀i m H,W i m H->
 (J.stop i H/\9.3 D H)\/(J.go i H/\∃j:284.,(∀H',j H'->∃n,n<m/\W 8.6 n H')/\∀x H',J.Kt i H x H'->g x (160.) H' fun d H2=>895. d/\tt d H2 fun b q=>
  if 4e2 b then te d q (033 j)else j q)
theorem Fp{Qf:Sl}
 (hc:247.) (hN:X.N.Nodup) (I:85.) (hi:PI X tg iter wi) (ok:746. scope)
 (hg:∀(s:aB) (H:Hp) (C:Addr) (cl:373.) (fp:So),PG 57.6 tg g) (ht:∀(s:aB) (H:Hp) (C:Addr) (cl:373.) (fp:So),O0 57.6 ifs tt)
 (he:∀(s:aB) (H:Hp) (C:Addr) (cl:373.) (fp:So),PE 57.6 elt te) (hs:159. iter)
 (h:604. wi σ H Q)
 (hRR:∀D C s' m H',00 H' s'->796. D->s'.heap.Ns C m->3e3 x9 H' C->296. C (.ok .next) s'):
 882. (comprehension 223. scope X.env pos' (newList []) false (66. iter) use) Qf s:=by
 revert hc hN I hi ok hg ht he hs h hRR;revert X pins σ H s tg iter wi scope own g ifs tt elt te Q use pos pos' Qf;intros X pins σ H s tg iter wi scope own g ifs;intros tt elt te Q use pos pos' Qf hc hN I hi ok hg ht he hs h hRR;have hfree:∀y∈scope.names,y.2= .free->∃c,68. y.1:=fun y hy e=>by
  rcases ok.free y hy e with k|k
  ·exact I.ok.has _<|97. k
  exact I.ok.has _<|8.4 k
 refine wpAny_comprehension_free (use:=use) rfl hs (DA hfree) ok.kind (fun y hy e=>by rw[ok.uniq y hy,e])
  <|27. hi fun xv s1 hx=>fQ hx fun itv s2 h2=>?_
 revert hx h2;revert xv s1 itv s2;intros xv s1 itv s2 hx h2;have⟨it,fp,tn,J,H2,e,I2,T,st2,f2,q⟩:=h2;revert e I2 T st2 f2 q;revert it fp tn J H2;intros it fp tn J H2 e I2 T st2 f2 q;subst e;refine gJ (Bv ?_)<|26.7 0
 generalize hD:s2.heap.objs.size=D;have hDn:095 H2 D:=I2.fh.fresh<|Nat.le_of_eq hD;have⟨W,z1_,turn⟩:=q D hDn;obtain⟨m0,w0⟩:=z1_;revert hD hDn turn w0;revert D W m0;intros D W m0 hD hDn turn w0;generalize hs3:({s2 with heap:=90.4}:aB)=s3;have I3:00 (4.9 H2 D) s3:=by rw[<-hs3];refine I2.laid (t':=s2.toks) (643. o) (Nat.le_of_eq hD) ⟨bH _,e21 [] 0 .nil<| ?_⟩;rw[<-hD];exact 794.
 have h3:s3.heap=90.4:=by rw[<-hs3]
 have sz:∀b∈fp,b<s2.heap.objs.size:=fun b hb=>by have 049 o e:=T.obj _ _ st2 b hb;exact bY e
 have f3:∀b∈fp,3e3 x9 (4.9 H2 D) b/\b<s3.heap.objs.size:=fun b hb=>by have hlt:=sz b hb;refine⟨ 28. ?_ (f2 b hb).2,by rw[h3,d7];exact jx hlt⟩;rw[aS (by rw[<-hD];exact df hlt)];exact(f2 b hb).1
 have st3:tn 0 s3.heap:=015 T.keep st2 fun b _ o e=>by rw[h3];exact aR _ e
 have I4:=Bx I3 ok hN f3;have pg:=455. hg;have pt:=455. ht;have pe:=455. he
 show codeAny _ _ (.compStart 223. 0 (02 it) (02 D)<|26.6) (296. s3.heap.objs.size) 707.
 have nfp:∀b∈fp,084 (4.9 H2 D):=fun b hb=>(f3 b hb).1.1;generalize hce:26.6=ce at I4 pg pt pe ⊢;have cL:ce.locals=s3.heap.objs.size:=by subst hce;rfl
 generalize hH3:085 H2 []=H3 at I3 I4 pg pt pe w0 nfp f3;generalize hs4:(707.:aB)=s4 at I4 ⊢;have st4:tn 0 s4.heap:=015 T.keep st3 fun b _ o e=>by rw[<-hs4];exact 015 zL _<|aR _ e
 have stat:∀{σ':St} {H':Hp} {s':aB},Inv (043) [] σ' H' s'->(∀b∈fp,084 H')->∀b∈fp,x9 (043) [] H' b:=fun{σ' H' s'} I' hn b hb=>
  ⟨hn b hb,(I'.ok.Oz b hb).1,I'.ok.Dk b hb,97. hb,fun x c e=>(I'.ok.Oz b hb).2 x c e,fun p hp=>66.7 ⟩
 have loop:codeAny (29. model) X.A (.compLoop 223. 0 (02 it) (02 D) ce) (296. s3.heap.objs.size) s4:=by
  refine zX (fun n s'=>232. n) ?_ m0<|e23 0 H3 I4 st4 nfp<|w0;rintro n s5 y1_;have⟨i,H5,I5,st5,n5,w5⟩:=y1_;rcases turn i n H5 w5 with⟨stop,qq⟩|⟨go,Nx,hNx,step⟩
  ·have td:=706. T.done stop;refine Gq td ?_;rintro r s6 ⟨hr,I6⟩;subst hr;have I7:00 H5 s6:=I3.Mq (ch:=fp) I6.os I6.base I6.fh I6.bare fun b hb=>⟨(f3 b hb).1.2.2.2.1,(f3 b hb).1.2.1,(f3 b hb).1.2.2.2.2.1,(f3 b hb).1.2.2.2.2.2⟩;have nC:095 H5 s3.heap.objs.size:=by have z:095 H5 ce.locals:=I6.free;rw[cL]at z;exact z
   have 049 m hn:=I6.loc;have hn:s6.heap.Ns ce.locals m:=hn;rw[cL]at hn;exact hRR D s3.heap.objs.size s6 m H5 I7 qq hn<|I3.Ib 779. nC
  have ti:=706. T.item go;refine Gq ti ?_;rintro r s6 ⟨u,hr,h6⟩;subst hr;refine Gq h6 fun _ s7 ⟨x,H7,I7,r7,y7,st7,n7⟩=>?_;have I7':=I7.pinned (stat I7 n7)<|T.obj _ _ st7;refine Gq (pg _ s7 _ H7 x u _ I7' r7<|step x H7 y7) fun _ s8 ⟨σ8,H8,I8,hw8,q8⟩=>?_;refine Gq (pt _ s8 σ8 H8 _ I8 q8) ?_;rintro b s9 ⟨H9,I9,q9⟩;have fin:∀{s':aB} {H':Hp},Inv (043) ([]++wc fp s7.heap) σ8 H' s'->Nx H'->∃m,m<n/\232. m:=fun{s' H'} I' nx=>by
   have⟨m',hm,w'⟩:=hNx H' nx;have pin':∀b∈fp,∀o,60. s7.heap.get?->60. s'.heap.get?/\084 H':=fun b hb o e=>
    let z:=58.8 I'.pin hb
    28. z.1 z.2.1
   have hl:(wipe σ<|own.map 62.).length=σ8.length:=by rw[<-hw8,pz]
   refine(e11 m' hm<|e23 8.6 H' ((I'.sq (pins:=[])).weak hl (332. j v)) (015 T.keep st7 fun b hb o e=>(pin' b hb o e).1) (63. b hb)<|w')
   ·rw[<-hw8]at e;exact(uj e).1
   have 049 o e:=T.obj _ _ st7 b hb;exact(pin' b hb o e).2
  cases b with
  |false=>simp only[cU,hB]at q9 ⊢;exact fin I9 q9
  |true=>simp only[C9]at q9 ⊢;refine Gq (pe _ s9 σ8 H9 _ I9 q9) fun z s10 ⟨yv,H10,I10,r10,acc,hD10,hz10,nx⟩=>?_;exact Ng (X:=043) I10 hD10 hz10 r10 fun s11 I11=>fin I11 nx
 exact codeAny_compStart_list loop<|T.self X.A 0 _ _ _ st4 loop
theorem sF(J:247.)(L:X.N.Nodup)(hi:PI X tg j G)(ok:746. d)
 (M:∀(s:aB) (H:Hp) (C:Addr) (cl:373.) (B:So),PG (8.9 d d B) tg g) (O:∀(s:aB) (H:Hp) (C:Addr) (cl:373.) (B:So),O0 (8.9 d d B) z tt)
 (R:∀(s:aB) (H:Hp) (C:Addr) (cl:373.) (B:So),PE (8.9 d d B) n te) (hs:159. j:=by intro _;rfl):
 087 (375. n z) (604. G):=by
 intro pins s σ H Q I h;rw[eval_ListComp];refine Fp J L I hi ok M O R hs h fun D C s' m H' S q U f=>(e11 m U<|63. V Y);have⟨Z,f1,f2,f3,f4,f5⟩:=f;exact(15.2 D H' (S.turned (t':=s'.toks) (77.2 o Y.2) Z f1 f3 f4 f5) rfl<|q)
theorem wo(Z:247.)(Y:X.N.Nodup)(hy:X.N[i]? =7. y)(G:601. y=553.)
 (R:swapsWith (375. z n) (7. (.Name y M)) B.line X.env=pure true) (hi:PI X tg j O) (ok:746. d)
 (hg:∀(s:aB) (H:Hp) (C:Addr) (cl:373.) (J:So),PG (8.9 d d J) tg g) (ht:∀(s:aB) (H:Hp) (C:Addr) (cl:373.) (J:So),O0 (8.9 d d J) n tt)
 (he:∀(s:aB) (H:Hp) (C:Addr) (cl:373.) (J:So),PE (8.9 d d J) z te) (hs:159. j:=by intro _;rfl):
 PS X (.Assign [.Name y M] (375. z n) B) (MU (604. O) (yU i)):=by
 revert Z Y hy G R hi ok hg ht he hs;revert X i y z tg j n d pos M O own g tt te B;intros X i y z tg j n d pos M O own;intros g tt te B Z Y hy G R hi ok hg ht he hs;intros pins s σ H D I h
 rw[015 exec_Assign_Name_used _ R];refine aH<|wpAny_standAt<|78.0
 show wpAny _ X.A (do let _<-comprehension (375. z n) d X.env (firstIterPos [⟨tg,j,n,0⟩] pos) (newList []) false (66. j) (some<|assign (.Name y M) X.env)) _ _ s
 have h:604. O σ H (fun x H1=>yU i x σ H1 D.nx):=h;refine aH<|fQ (Fp (Qf:=fun _ s'=>3e3 SP D .next s') Z Y I hi ok hg ht he hs h ?_) fun _ s' hq=>aN<|aN hq;intros L C s' m H' I' q hn f
 show 7.5 (assign (.Name y M) X.env<|02 L) _
 refine wpAny_assign_Name<|yT (v:=035 L) I' Y hy (97. G) rfl (?_)<|8.4 G;rintro s2 I2 ⟨a,sb,ha⟩;have 378.:=f;have S:C≠a:=70.
 refine(665. m (hn.sameBut sb S));intros h3 U
 exact(e21 _ H' (I2.turned (t':=s2.toks) (77.2 o U.2) f0 f1 f3 f4 f5)<|q)
theorem zY(B:env.scope.kind= 931.)(D:env.scope.names.lookup y=553.)(G:4e2 (q.line==pos.line))
 (I:(d.names.any fun(n,k)=>n==y&&(k== .local||k== .cell))=false):swapsWith (.ListComp j z d pos) (7. (.Name y q)) l env=pure true:=by
 have J:env.kindOf y=553.:=D;have L:env.blockKind= 931.:=by simp[Env.blockKind,B]
 unfold swapsWith;simp only[L,J,I,show(Expr.ListComp j z d pos).pos=pos from rfl,show(Expr.Name y q).pos=q from rfl,G];rfl
#check 0
theorem Iy{lo:Int}{n:Nat}{g:TG}{tt:TT}{te:TE}{vs:Sh}{σ:St}{H1:Hp}{D:Addr}{I:284.}(j:856. Nat)(L:j 0 (085 H1 []))
 (hs:∀i H,i<n->j i H->g (59. (lo + i)) (160.) H fun d H2=>895. d/\tt d H2 fun b q=>
  if 4e2 b then 362. q else j 8.6 q) (M:∀H,j n H->I H):
 ∃W:214. Nat,558./\∀i m H,W i m H->
  ((Ku lo n).stop i H/\I H)\/((Ku lo n).go i H/\∃G:284.,68.3/\∀x H',(Ku lo n).Kt i H x H'->g x (160.) H' fun d H2=>895. d/\tt d H2 fun b q=>
    if 4e2 b then te d q (033 G)else G q):=by
 refine(e11 (fun i m H=>m=n - i/\i<=n/\j i H) (e12 n 960. 81.8<|L)<| ?_);rintro i m H y1_;have 684.:=y1_;by_cases B:i<n
 ·refine .inr ⟨B,12.0 j (fun H' N=>(10.3 n B<|N))⟩;obtain⟨e,y⟩:=y
  cutsat
 have e:i=n:=21.
 subst e;exact 97. ⟨aU _,M H p⟩
theorem kg{K:aA}{a:Addr}{xs:05 V}{g:TG}{tt:TT}{te:TE}{vs:Sh}{σ:St}{H1:Hp}{D:Addr}{I:284.}(j:856. Nat)(L:j 0 (085 H1 []))(M:∀i H,933. i->j i H->67.3)
 (hs:∀i x H,051 x->j i H->g x (160.) H fun d H2=>895. d/\tt d H2 fun b n=>
  if 4e2 b then 362. n else j 8.6 n) (N:∀H,187. j H->I H):
 ∃W:214. Nat,558./\∀i m H,W i m H->
  ((Mt K a).stop i H/\I H)\/((Mt K a).go i H/\∃G:284.,68.3/\∀x H',(Mt K a).Kt i H x H'->g x (160.) H' fun d H2=>895. d/\tt d H2 fun b n=>
    if 4e2 b then te d n (033 G)else G n):=by
 refine(e11 (fun i m H=>m=xs.length - i/\933. i/\j i H) (187. e12 960. 81.8<|L)<| ?_);rintro i m H y1_;have 684.:=y1_;have q:=M i H hi p;by_cases B:237.
 ·refine .inr ⟨(e21 xs (xs[i]) q<|44.),12.0 j (fun H' O=>(10.3 xs.length B<|O))⟩;obtain⟨e,y⟩:=y
  cutsat
 have e:317. i:=21.
 subst e;exact 97. ⟨(e11 xs q<|aU _),N H p⟩
def uk(N:Si)(j d:Scope)(own:57. Nat):Bool:=
 (match d.kind with| 931.=>true|_=>false)&&(d.names.all fun y=>61. (1e3 y.1=7. y.2))&&(own.all fun p=>61. (N[p.2]? =7. p.1))&&
  (d.names.all fun y=>match y.2 with
   | .free=>(match j.names.lookup y.1 with|466.=>true|79.7=>true|_=>false)
   | .local=>30.3
   | .cell=>30.3
   |_=>true)
theorem ib(h:uk N j d own=true):Bw N j d own:=by
 obtain⟨h,z⟩:=Bool.and_eq_true_iff.mp<|show(_&&_)=true from h
 obtain⟨h,n⟩:=358. h;obtain⟨h1,h2⟩:=358. h;refine⟨?_,fun y q=>cZ<|eE.mp h2 y q,fun y q=>cZ<|eE.mp n y q,332. y q,332. y q ⟩
 ·cases k:d.kind <;> rw[k]at h1 <;> first|rfl|cases h1
 ·have:=eE.mp z y q;rw[e]at this;cases l:j.names.lookup y.1 with
  |none=>rw[l]at this;cases this
  |some k=>rw[l]at this;cases k <;> first|exact 8.5|exact 674.|cases this
 have:=eE.mp z y q;rcases e with e|e <;> rw[e]at this <;> exact(Bool.or_eq_true_iff.mp this).imp cZ cZ
section
variable{κ:Type} [141. κ]
def ic(kvs:36.5)(k:κ):74. V:=(kvs.find? 618.).map 62.
def putK(kvs:36.5)(k:κ)(v:V):36.5:=
 if(kvs.any 618.)=true then kvs.map (39.9 (d.1,v))else kvs++[(k,v)]
def ng(kvs:36.5)(k:κ):36.5:=kvs.filter fun d=>61. (d.1≠k)
theorem jD{k:κ}(e:p.1=k):ic (p::r) k=7. p.2:=by grind[ic]
theorem jE{k:κ}(e: ¬ p.1=k):ic (p::r) k=ic r k:=by grind[ic]
theorem pA(k:κ):∀kvs:36.5,(kvs.any 618.)=(994. k).isSome
 | []=>rfl
 |p::r=>by
  rw[sf];by_cases e:p.1=k
  ·grind[jD]
  rw[jE e,aX e,Bool.false_or];exact pA k r
theorem By(k j:κ)(y:V):∀kvs:36.5,ic 302. j=(994. j).map fun x=>if j=k then y else x
 | []=>rfl
 |p::r=>by
  have n:=By k j y r;rw[bD];by_cases h:p.1=k
  ·rw[aP h];by_cases e:p.1=j
   ·grind[jD]
   grind[jE]
  rw[aM h];by_cases e:p.1=j
  ·grind[jD]
  grind[jE]
theorem y0(k j:κ)(y:V):∀kvs:36.5,994. k=none->91.2 (kvs++[(k,y)])
 | [],_=>by
  by_cases e:k=j
  ·rw[aP e.symm];exact jD (p:=(k,y)) e
  rw[aM (fun z=>e z.symm)];exact jE (p:=(k,y)) e
 |p::r,d=>by
  rw[jU];have n: ¬ p.1=k:=fun z=>by grind[jD]
  rw[jE n]at d;have q:=y0 k j y r d;by_cases e:p.1=j
  ·grind[jD]
  grind[jE]
theorem Bz(kvs)(k j:κ)(y):91.2 (533. y):=by
 unfold putK;by_cases a:4e2 (kvs.any fun d=>decide<|d.1=k)
 ·rw[aP a,By];rw[pA]at a;by_cases e:j=k
  ·obtain⟨x,n⟩:=iC.mp a;grind
  simp_all
 rw[aM a];refine y0 k j y kvs ?_;simp_all[pA]
theorem pB(kvs)(k:κ)(v):(533. v).length<=kvs.length + 1:=by grind[putK]
theorem BA{k:κ}(v:V)(h:994. k=none):533. v=kvs++[(k,v)]:=by grind[putK,pA]
theorem pd.nj(r:pd o u):o.isSome=u.isSome:=by
 cases o with
 |none=>cases u with
  |none=>rfl
  |some _=>exact 629.
 |some _=>cases u with
  |none=>exact 629.
  |some _=>rfl
theorem KV.val{kvs:36.5}{vs:5.9 κ Value}(r:40.8)(k:κ):pd (994. k) (valueAt vs k):=by
 unfold KV at r;induction r with
 |nil=>exact True.intro
 | @cons p q ps d h t n=>
  obtain⟨h1,h2⟩:=h;by_cases e:p.1=k
  ·have j:q.1=k:=h1.symm.trans e;have b:valueAt (q::d) k=7. q.2:=by simp[valueAt,eX,j]
   rw[jD e,b];exact h2
  have j: ¬ q.1=k:=997. e h1.trans;have b:valueAt (q::d) k=valueAt d k:=by simp[valueAt,eX,j]
  rw[jE e,b];exact n
theorem KV.any(r:40.8)(k:κ):(kvs.any 618.)=vs.any 618.:=by
 unfold KV at r;induction r with
 |nil=>rfl
 |cons h t j=>simp[*]
theorem KV.Nh(r:40.8)(k:κ)(n:80.4):
 KV 302. (vs.map (39.9 (d.1,u))):=by
 unfold KV at r ⊢;induction r with
 |nil=>exact .nil
 | @cons p q ps z h t j=>
  rw[bD,bD];refine 9e6 ?_ j
  lia
theorem KV.put(r:40.8)(k:κ)(d:80.4):KV (533. y) (stored vs k u):=by
 unfold putK stored;rw[r.any k];by_cases e:4e2 (vs.any fun j=>decide<|j.1=k)
 ·rw[aP e,aP e];exact r.Nh k d
 rw[aM e,aM e];exact Paired.snoc r ⟨rfl,d⟩
theorem KV.drop(r:40.8)(k:κ):KV (ng kvs k) (without vs k):=by
 unfold KV at r ⊢;unfold ng without;induction r with
 |nil=>exact .nil
 | @cons p q ps n h t d=>
  obtain⟨h1,h2⟩:=h;rw[mY,mY];by_cases e:p.1=k
  ·lia
  have j: ¬ q.1=k:=997. e h1.trans;have a:61. (p.1≠k)=true:=by simp[e]
  have b:61. (q.1≠k)=true:=by simp[j]
  rw[aP a,aP b];exact 9e6 ⟨h1,h2⟩ d
theorem KV.length(r:40.8):kvs.length=vs.length:=vK r
theorem Iz(kvs)(k:κ):(ng kvs k).length<=kvs.length:=dU _ _
#check 0
theorem y2(r:311. (kV k)):(gj P w).is k u=true:=by
 cases k with
 |inl i=>obtain⟨t,e⟩:=(345. Value.int i);subst e;exact Bk P w i t
 |inr x=>obtain⟨t,e⟩:=(345. Value.str x);subst e;exact Bl P w x t
theorem y3:∀{ks:21.0} {us:Sj},091 (ks.map kV)->ItemsAre (gj P w) ks us
 | [],_,r=>77.6
 |k::ks,_,r=>by
  rw[bD]at r;cases r with
  |cons h t=>exact 9e6 (y2 h)<|y3 t
abbrev KT(H:Hp):645.->359. (List Key × 44.5):=Paired fun p q=>900.
theorem KT.val{xs:374.}(r:78.8)(k:21.0):pd (994. k) ((10.7).map 62.):=by
 induction r with
 |nil=>exact True.intro
 | @cons p q ps d h t n=>
  have⟨h1,_,h2⟩:=h;by_cases e:p.1=k
  ·have j:q.1=k:=h1.symm.trans e;have b:atKey (q::d) k=7. q.2:=by simp[atKey,eX,j]
   rw[jD e,b];exact h2
  have j: ¬ q.1=k:=997. e h1.trans;have b:atKey (q::d) k=atKey d k:=by simp[atKey,eX,j]
  grind[jE]
theorem KT.Nh(r:78.8)(k)(n:80.4):
 KT H 302. (840. (putAt k u)):=by
 induction r with
 |nil=>exact .nil
 | @cons p q ps z h t j=>
  rw[bD,bD];refine 9e6 ?_ j;have⟨h1,h2,B⟩:=h;unfold putAt
  lia
theorem KT.put(r:78.8)(k)(j:H b=394.)(d:80.4):
 KT H (533. y) (storedH xs k b u):=by
 have e:(kvs.any fun n=>decide<|n.1=k)=(10.7).isSome:=by rw[pA,(r.val k).nj,ip]
 unfold putK storedH;rw[e];by_cases q:4e2 (10.7).isSome
 ·rw[aP q,aP q];exact r.Nh k d
 rw[aM q,aM q];exact Paired.snoc r ⟨rfl,j,d⟩
theorem KT.keeps(r:78.8)(d:∀b ys,H b=96. ys->H' b=96. ys):KT H' kvs xs:=
 Paired.OG r fun _ _ z=>⟨z.1,d _ _ z.2.1,z.2.2⟩
section
variable{P:aD}{w:World}{H:Hp}{h:Heap}{a:Addr}
theorem Mw(ok:12.6)(e:Rd H a u):824. u:=e.ok ok
theorem wq(ok:12.6)(e:912. .dK):105.:=
 show 824. (.dK kvs)from Mw ok e
theorem Fq(ok:12.6)(e:072 a .dK):105.:=wq ok<|97. e
theorem rG(ok:12.6)(e:H a=96. (ks.map kV)):(75.8).is h ks a:=by refine x0_1 ((show 824. (.tup (ks.map kV))from ok a _ e)) fun _ zz_=>278. fun its r zz_=>x1_2 zz_ fun o h1 h2 zz_=>656. n d;exact(615. e33 o n h1 h2 d<|by simpa using y3 r)
theorem y4(ok:12.6)(e:912. .dT):20.3/\99. a/\
 757.:=by
 revert ok e;revert P w H h a kvs;intros P w H h a kvs ok e;refine x0_2 ((show 824. (.dT kvs)from Mw ok e)) fun z y zz_=>278. fun xs r zz_=>x3_4 zz_ fun o es ep h1 h2 j n B=>?_;refine⟨z,y,e11 xs r<|e35 o es ep h1 h2 j n (?_)<|B⟩;intros x d
 have D:∀{l:645.} {m:374.},KT H l m->∀x∈m,(tupleKind<|gj P w).is h x.1 x.2.1:=by
  intros l m q
  induction q with
  |nil=>simp
  | @cons p q ps G I t J=>
   intros x d
   rcases 819. d with e|d
   ·subst e;exact rG ok<|95.
   cutsat
 cutsat
theorem Mx(ok:12.6)(e:072 a .dT):20.3/\99. a/\
 757.:=y4 ok<|97. e
#check 0
def o5(H:Hp)(a:Addr)(y:V)(r:74. V):Prop:=
 (∃kvs k,912. .dK/\y=kV k/\r=994. k)\/∃kvs k b,912. .dT/\62.0/\H b=394./\r=994. k
def zZ(H:Hp)(a:Addr)(y v:V)(H':Hp):Prop:=
 (∃kvs k,072 a .dK/\y=kV k/\902./\H'=50.0 .dK)\/
 ∃kvs k b,072 a .dT/\62.0/\H b=394./\902./\H'=50.0 .dT
theorem o5.k{kvs:50.5 V}{k:Key}(e:072 a .dK):o5 H a (kV k) (994. k):=97. (e22 kvs k (.inl e) rfl<|rfl)
theorem o5.t{k:21.0}(e:072 a .dT)(d:H b=394.):o5 H a 69.6 (994. k):=8.4 (e33 kvs k b (97. e) rfl d<|rfl)
theorem zZ.k{k:Key}{v:V}(e:072 a .dK)(d:902.):zZ H a (kV k) v (50.0 .dK):=97. (e23 kvs k e rfl d<|rfl)
theorem zZ.t{kvs:645.}{k:21.0}{v:V}(e:072 a .dT)(d:H b=394.)(j:902.):
 zZ H a 69.6 v (50.0 .dT):=8.4 (e34 kvs k b e rfl d j<|rfl)
section
variable{X:Cx}{pins:Sn}{σ:St}{H:Hp}{s:aB}{a:Addr}{y v:V}{u r:Value}{o:74. V}{A:Around}{E:Sl}
theorem Inv.big(I:85.):8e2 sysModules:=by have h:8e2 mainGlobals:=(I.mod.glob.keeps I.bk).lt;exact 35.6 (08) h
theorem Gr(G:5.5 1)(I:85.)(g:o5 H a y (7. v))(D:80.4)(h:∀j s',00 H s'->RelV v j->Q j s'):
 172. (getItem 031 u):=by
 revert G I g D h;revert X pins σ H s a y v u A E Q;intros X pins σ H s a y v u A E Q G I g D h;rcases g with⟨kvs,k,e,n,l⟩|⟨kvs,k,b,e,n,J,l⟩
 ·subst n;have 5e5 vs:=74.9 wq;have⟨j,q,d⟩:=23.0 (o:=valueAt vs k)<|by rw[l];exact 62.6
  exact wpAny_getItem_of (y2 D) dd.mapOf q<|h j _ (914.) d
 subst n;cases(show u=49. b from D);have 5e5 xs:=74.9 y4;have⟨j,q,d⟩:=23.0 (o:=(10.7).map 62.)<|by rw[l];exact 62.6
 have⟨p,L,B⟩:=bW.mp q;refine wpAny_getItem_heap (tW G) (rG I.fh J) dd L ?_;rw[B];exact h j _ (914.) d
theorem QK(n:5.5 1)(I:85.)(g:o5 H a y o)(j:80.4)(h:867. H (.bool o.isSome)):
 172. (86.0 .In u 031):=by
 revert n I g j h;revert X pins σ H s a y u o A E Q;intros X pins σ H s a y u o A E Q n I g j h;rcases g with⟨kvs,k,e,d,l⟩|⟨kvs,k,b,e,d,B,l⟩
 ·subst d;have 5e5 vs:=74.9 wq;refine wpAny_in_of (y2 j) hd dd.mapOf ?_;rw[<-(62.6).nj,<-l];exact h _<|914.
 subst d;cases(show u=49. b from j);have 5e5 xs:=74.9 y4;refine wpAny_in_heap (tW n) (rG I.fh B) hd dd ?_;have q:=(62.6).nj;rw[ip]at q;rw[<-q,<-l];exact h _<|914.
theorem K2(n:5.5 1)(I:85.)(g:o5 H a y o)(j:80.4)(h:867. H (.bool (!o.isSome))):
 172. (86.0 .NotIn u 031):=by
 rcases g with⟨kvs,k,e,d,l⟩|⟨kvs,k,b,e,d,B,l⟩
 ·subst d;have 5e5 vs:=74.9 wq;refine wpAny_notIn_of (y2 j) hd dd.mapOf ?_;rw[<-(62.6).nj,<-l];exact h _<|914.
 subst d;cases(show u=49. b from j);have 5e5 xs:=74.9 y4;refine wpAny_notIn_heap (tW n) (rG I.fh B) hd dd ?_;have q:=(62.6).nj;rw[ip]at q;rw[<-q,<-l];exact h _<|914.
theorem sG{d:HO}(I:85.)(n:Mp (H a))(hs:7e5 a h')(B:∃q,2e2 a q)(j:29. eH (8.7 a d) h' a d):
 8e1 (8.7 a d):=
 I.write (x:=a) (e:=a) n (8.5) (fun b q D z=>803. hs.2 D z) B j
theorem IA(z:20.3)(j:99. a)(d:40.8)(dd:h'.DictOf (gj P w) a vs):
 eH P w H' h' a (.dK kvs):=⟨z,j,e11 vs d<|dd⟩
theorem Gs{H':Hp}{Q:20. Unit aB}(M:5.5 1)(I:85.)(g:zZ H a y v H')(G:80.4)(J:RelV v r)(h:867. H' ()):
 172. (setItem 031 u r):=by
 revert M I g G J h;revert X pins σ H s a y v u r A E H' Q;intros X pins σ H s a y v u r A E;intros H' Q M I g G J h;rcases g with⟨kvs,k,e,n,l,B⟩|⟨kvs,k,b,e,n,L,l,B⟩
 ·subst n B;have 5e5 vs:=74.9 Fq;have hz:7.3 vs.length:=by grind[rel.length]
  have D:7.3 (533. v).length:=by have:=pB kvs k v;cutsat
  refine wpAny_setItem_pairs (hsz:=hz) (y2 G) dd ?_;intros h' d hs;refine h _ ?_;have N:∃q,2e2 a q:=let 39.4 q j:=d;28. q j
  exact 177. N<|IA D hd (rel.put k J) d
 subst n B;cases(show u=49. b from G);have 5e5 xs:=74.9 Mx;have hz:273.:=by grind[Paired.length]
 have D:7.3 (533. v).length:=by have:=pB kvs k v;cutsat
 refine wpAny_setItem_heap (hsz:=hz) (tW M) (rG I.fh L) dd fun h' d hs=>h _ ?_;have⟨q,es,ep,j,h2,O,R,_,S⟩:=d;refine 177. ⟨q,j⟩ ⟨D,hd,1.2 ((rel.put k L J).keeps fun c ys U=>?_)<|e34 q es ep j h2 O R<|S⟩;grind[aS]
#check 0
section
variable{X:Cx}{pins:Sn}{σ:St}{H:Hp}{s:aB}{a:Addr}{kvs:50.5 V}{k:Key}{u:Value}{A:Around}{E:Sl}
theorem O3{Q:Sl}(I:85.)(e:072 a .dK)(B:311. (kV k))(l:994. k=7. v)(G:d=[]\/∃x,d=[x])
 (h:∀j s',00 (8.7 a (.dK (ng kvs k))) s'->RelV v j->Q j s'):172. (598. "dict.pop" (02 a::u::d)):=by
 have 5e5 vs:=74.9 Fq;have⟨j,J,D⟩:=23.0 (o:=valueAt vs k)<|by rw[<-l];exact 62.6
 have L:586. keyPart u:=by
  cases k with
  |inl i=>obtain⟨t,q⟩:=(show 52.8 from B);subst q;rfl
  |inr x=>obtain⟨t,q⟩:=(show 96.1 x from B);subst q;rfl
 have M:argsOk "dict.pop" ⟨ 02 a::u::d,[]⟩:=by
  rcases G with q|⟨x,q⟩
  ·subst q;exact F.args_dict_pop_2 _ _
  subst q;exact 015 F.args_dict_pop_3
 refine 48.2 F.slot_dict_pop F.entry_dict_pop M (meets_dict_pop_there (29. gj) a (y2 B) d G L)
  <|e23 vs j dd (by rw[<-rel.length];exact z) J<|fun h' n hs=>h j _ ?_ D
 have N:∃q,2e2 a q:=let 39.4 q O:=n;28. q O
 exact 177. N<|IA (bU (Iz kvs k) z) hd (rel.drop k) n
theorem O4(I:85.)(e:912. .dK)(h:∀t s',00 H s'->Q (59. kvs.length t) s'):172. (598. "len" [02 a]):=by have 5e5 vs:=74.9 wq;refine call_len_dict hd dd (by rw[<-rel.length];rw[Dc]at z;lia) ?_;rw[<-rel.length];exact h _ _<|914.
#check 0
def Ni(i:Expr):Prop:=∀d j,33.0 i d j=operate [d,j] (getItem d j)
theorem Fs{T id:String}{Q:Sl}
 (I:808.) (hs:Ni d)
 (h:49.6 value (fun o q=>49.6 d (fun i j=>j.TypeIs o T/\9e5 A (getItem o i) Q E j) E q) E s):
 40. (eval (.Subscript value d pos) env):=by
 refine Subscript_<|eG h (fun o q h₁=>eG h₁ (fun i j n=>?_) fun _ _ x=>x) fun _ _ x=>x;obtain⟨G,n⟩:=n;unfold subscriptTail;refine 78.0;rw[getitemInPython_of_ne G.not_modules];refine aH<|me G I ?_;have B:9e5 A (33.0 d o i) (fun r z=>9e5 A (letTemporaryGo value o r>>= fun _=>pure r) Q E z) E j:=by rw[hs o i];exact wpAny_operating<|eG n (fun r z D=>aH<|wpAny_letTemporaryGo<|aN D) fun _ _ x=>x
 first
  |exact aN<|aH B
  |exact aH<|aN<|aH B
  |exact aH B
theorem BB(I:85.)(g:o5 H a y o):s.TypeIs 031 "dict" :=by
 rcases g with⟨kvs,k,e,_,_⟩|⟨kvs,k,b,e,_,_,_⟩
 ·have 889. _ vs:=74.9 wq;exact dd.typeIs
 have 889. _ xs:=74.9 y4;exact dd.typeIs
def O5(td ty:TE):TE:=fun σ H Q=>td σ H fun x H1=>ty σ H1 fun y H2=>∃a v,22.7/\o5 H2 a y (7. v)/\Q v H2
def O6(ty td:TE):TE:=308. o.isSome
def K3(ty td:TE):TE:=308. (!o.isSome)
def O7(td ty tv:TE):TS:=fun D σ H=>tv σ H fun v H1=>td σ H1 fun x H2=>ty σ H2 fun y j=>∃a d,22.7/\zZ j a y v d/\D.nx σ d
section
variable{X:Cx}{o i e value:Expr}{pos pos' tpos:Pos}{td ty tv:TE}
theorem vS(n:6e0 1)(q:087 o td)(hi:087 i ty)(hs:Ni i):087 (776. pos) (O5 td ty):=by
 revert n q hi hs;revert X o i pos td ty;intros X o i pos td ty n q hi hs
 intros pins s σ H Q I h
 refine 60.2 q;rintro u z ⟨x,H1,B,D,G⟩;refine 40.0 (27.1 hi z B G);rintro N O ⟨y,H2,j,J,a,v,ex,g,L⟩;subst ex;obtain rfl:62.2:=D;exact⟨BB j g,Gr n j g J fun R S M d=>(e22 v H2 M d<|L)⟩
theorem IB(d:6e0 1)(hi:087 i ty)(j:087 o td):PC X .In i o (O6 ty td):=by
 revert d hi j;revert X o i td ty;intros X o i td ty d hi j
 intros pins s σ H Q I h
 refine 610. hi;rintro N n ⟨y,H1,q,z,B⟩;refine 40.0 (27.1 j n q B);rintro u O ⟨x,H2,D,G,a,J,ex,g,L⟩;subst ex;obtain rfl:62.2:=G;exact QK d D g z fun R M=>(10.2 J.isSome H2 M rfl<|L)
theorem Gu(d:6e0 1)(hi:087 i ty)(j:087 o td):PC X .NotIn i o (K3 ty td):=by
 revert d hi j;revert X o i td ty;intros X o i td ty d hi j
 intros pins s σ H Q I h
 refine 610. hi;rintro N n ⟨y,H1,q,z,B⟩;refine 40.0 (27.1 j n q B);rintro u O ⟨x,H2,D,G,a,J,ex,g,L⟩;subst ex;obtain rfl:62.2:=G;exact K2 d D g z fun R M=>(10.2 (!J.isSome) H2 M rfl<|L)
theorem z6(d:6e0 1)(j:087 o td)(hi:087 i ty)(n:087 value tv)(hs:086 value (7. (776. pos'))):
 PS X (.Assign [776. pos'] value pos) (O7 td ty tv):=by
 revert d j hi n hs;revert X o i value pos pos' td ty tv;intros X o i value pos pos' td ty tv d j hi n hs
 intros pins s σ H D I h
 refine 96.7 n;rintro r q ⟨v,H1,z,B,G⟩;refine 40.0 (27.1 j q z G);rintro u J ⟨x,H2,L,M,N⟩;refine 40.0 (6.8 hi J H2 _ L N);rintro Y Z ⟨y,H3,O,R,a,S,ex,g,U⟩;subst ex;obtain rfl:62.2:=M;exact Gs d O g R B fun s4 V=>(e21 σ S V<|U)
#check 0
theorem IC{w:World}{H:Hp}(h:Heap)(d:58.4 sysModules):59.7 .dK:=
 ⟨bH _,j9.mpr<|eC<|df d,e11 [] .nil<|Heap.DictOf.new h⟩
theorem BC{P:aD}{w:World}{H:Hp}(h:Heap)(d:58.4 sysModules):59.7 .dT:=
 ⟨bH _,j9.mpr<|eC<|df d,e11 [] .nil<|e34 _ (#[]) 0 (794.) (88.0 rfl) rfl rfl<|fL⟩
def Nj:TE:=fun _ H Q=>061 (.dK [])
def Nk:TE:=fun _ H Q=>061 (.dT [])
section
variable{X:Cx}{pos:Pos}
theorem BD:087 (.Dict [] [] pos) Nj:=fun pins s σ H Q I h=>
 wpAny_Dict_empty<|561. .dK IC<|h _<|066 _
theorem ID:087 (.Dict [] [] pos) Nk:=fun pins s σ H Q I h=>
 wpAny_Dict_empty<|561. .dT BC<|h _<|066 _
#check 0
def IE:5.9 TE TE->49.2 (5.9 V V->284.)
 | [],_,H,Q=>Q [] H
 |(tk,tv)::r,σ,H,Q=>tk σ H fun x H1=>tv σ H1 fun y H2=>IE r σ H2 fun ps d=>Q ((x,y)::ps) d
abbrev VV:5.9 V V->5.9 Value Value->Prop:=Paired fun p q=>RelV p.1 q.1/\RelV p.2 q.2
def P6(X:Cx)(pos:Pos)(j:05 (74. Expr))(d:51.7)(n:5.9 TE TE):Prop:=
 ∀(pins:Sn) (s:aB) (σ:St) (H:Hp) (Q:5.9 V V->284.),85.->IE n σ H Q->
  4e0 (evalPairs (pairTrees j d X.env pos)) (fun vs s'=>∃ps H',00 H' s'/\VV ps vs/\Q ps H') X.xe s
theorem K4:P6 X pos [] [] []:=fun pins s σ H Q I h=>pairTrees_nil_walk<|e22 [] H I .nil<|h
theorem IF(j:087 k tk)(n:087 v tv)(q:P6 X pos ks vs d):
 P6 X pos (7. k::ks) (v::vs) ((tk,tv)::d):=by
 intro pins s σ H Q I h;refine pairTrees_cons_walk<|610. j;rintro u z ⟨x,H1,B,D,G⟩;refine 40.0 (27.1 n z B G);rintro U J ⟨y,H2,L,M,N⟩;refine 40.0 (6.8 q J H2 _ L N);rintro V Y ⟨ps,O,R,rel,S⟩;exact e22 ((x,y)::ps) O R (9e6 ⟨D,M⟩ rel) S
structure M1(X:Cx)(o:Expr)(m:Str)(apos:Pos)(e:Expr)(cpos:Pos):Prop where
 base:575. m
 P7:(1e4 [e]
  &&003 ([e]:51.7).length)=true
 line:771.
 trees:346. cpos [e]=[173. e]
structure M2(X:Cx)(o:Expr)(m:Str)(apos:Pos)(e f:Expr)(cpos:Pos):Prop where
 base:575. m
 P7:(1e4 [e,f]
  &&003 ([e,f]:51.7).length)=true
 line:771.
 trees:346. cpos [e,f]=[173. e,173. f]
def Rw(H:Hp)(a:Addr):Prop:=(∃kvs,912. .dK)\/∃kvs,912. .dT
theorem Nl(I:85.)(d:Rw H a):
 s.TypeIs 031 "dict" /\(∀b,49. a= 02 b->∃j,39. b j/\j.dict=none)/\99. a:=by
 revert I d;revert X pins σ H s a;intros X pins σ H s a I d;rcases d with⟨kvs,e⟩|⟨kvs,e⟩
 ·have 889. hd vs:=74.9 wq;refine⟨dd.typeIs,?_,hd⟩;intros b q
  cases q;have 52.7 j:=dd;exact(e11 j h1<|h2.2.1)
 have 889. hd xs:=74.9 y4;refine⟨dd.typeIs,?_,hd⟩;intros b q
 cases q;have 52.7 j:=dd;exact(e11 j h1<|h2.2.1)
def Nm(td ty:TE):TE:=fun σ H Q=>td σ H fun x H1=>∃a,22.7/\Rw H1 a/\ty σ H1 fun y H2=>∃kvs k v,H2 a=7. (.dK kvs)/\y=kV k/\994. k=7. v/\Q v (upd H2 a (.dK (ng kvs k)))
section
variable{X:Cx}{o e f:Expr}{apos cpos:Pos}{td ty tx:TE}
theorem IG(q:087 o td)(z:087 e ty)(m:M1 X o "pop" apos e cpos):087 (45.8 "pop" apos [e] [] cpos) (Nm td ty):=by
 revert q z m;revert X o e apos cpos td ty;intros X o e apos cpos td ty q z m
 intros pins s σ H Q I h
 refine 18.2 F.slot_dict_pop F.type_dict_pop<|610. q;rintro u B ⟨x,H1,n,D,a,ex,d,G⟩;revert n D ex d G;revert u B x H1 a;intros u B x H1 a n D ex d G;subst ex;obtain rfl:62.2:=D;have 049 J L:=Nl n d;refine⟨J,L,?_⟩;rw[m.trees];refine 71.6 (27.1 z B n G);rintro V Y ⟨y,H2,M,N,kvs,k,v,O,R,l,S⟩;refine vt ?_;subst R;exact O3 M O N l (8.5) fun Z s3 U j=>(e22 v _ U j<|S)
#check 0
section
variable{X:Cx}
theorem sH:∀{ps:So} {us:Sj},091 (ps.map V.ref)->us=519. ps.map
 | [],us,r=>by rw[il]at r;cases r;rfl
 |p::ps,us,r=>by
  rw[bD]at r;cases r with
  |cons h t=>cases h;rw[bD,<-sH t]
#check 0
section
variable{X:Cx}{pins:Sn}{σ:St}{H:Hp}{s:aB}{h':Heap}
theorem Inv.lock(I:85.)(h:H d=7. u)(B:Mp (7. u)):∃j,00 (8.7 d (.gO j u)) s:=by
 revert I h B;revert X pins σ H s d u;intros X pins σ H s d u I h B;have x:=I.fh d u h;have ex:∃j,39. d j:=by
  cases u with
  |lst xs=>refine 320.;exact 073 e
  |dK kvs=>refine 87.;exact 28. o e
  |dT kvs=>refine 87.;exact 28. o e
  |set S n=>let⟨o,_,_,_,e,_⟩:=x;exact 28. o e
  |ins C dx fs=>have 39.4 _ e:=x;exact 073 e
  |ext G=>have 88.3 _:=x;let 073 e:=z1_;(try clear z1_);exact 073 e
  |_=>exact 180. B
 let 28. j e:=ex;(try clear ex);have D:29. eH (8.7 d<|.gO j u) s.heap d (.gO j u):=by
  refine⟨e,x.zM (fun b v _ q=>q) ?_ ?_⟩
  ·intros b q;rw[19.6];exact q
  intros b xs q;rw[19.6];exact q
 exact⟨j,I.write (x:=d) (e:=d) (t':=s.toks) (h':=s.heap) 2.8 (8.5) (fun b v _ q=>q) ⟨j,e⟩ D⟩
theorem Inv.BE(I:85.)(h:H d=7. u)(n:Mp (7. u)):∀o' j,X.Kr d≠ 041 o' j:=fun o' j e=>by have q:=I.base.x8 d o' j e;rw[h]at q;cases q;exact n
theorem Inv.unlock(I:85.)(h:H d=041 L u)(M:∀o' D,X.Kr d≠ 041 o' D):00 (8.7 d u) s:=by
 have B:∀b o,60. H->(∀o' D,o≠ .gO o' D)->b≠d:=fun b o e N z=>70.
 have j:∀b,851.->b≠d:=fun b e z=>21.
 refine⟨I.ok,I.os,I.bare,⟨I.base.keep,I.base.slot,fun b o e n J=>?_,I.base.there,332. b xs,847. x e,332. b ps ⟩,I.loc,I.cell,?_,332. x c,63. p O,332. b o,I.len⟩
 ·rw[aS<|j b<|724. J];exact 724. J
 ·have q:=I.base.fg b xs e;grind[aS]
 ·have q:=I.base.x8 b o x e;rw[aS (fun z=>by rw[z]at e;exact 70.0 M)];exact q
 ·obtain⟨m,q⟩:=I.base.Bn b ps e;grind[aS]
 ·rw[aS<|j _ I.free];exact I.free
 ·rw[aS<|j c<|I.jX x c e];exact I.jX x c e
 ·have⟨e,n,r⟩:=49.5 O;grind[aS]
 by_cases G:b=d
 ·rw[G,aJ]at e;cases e;rw[G];obtain⟨_,x⟩:=I.fh d _ h;exact 175. x.zM
 rw[aS G]at e;exact 175. (094 I.fh).zM
#check 0
def O8(t:TS):TS:=fun D σ H=>∃d u,H d=7. u/\Mp (7. u)/\∀n,t ⟨ 459. D.nx,fun v H'=>H' d=041 n u/\D.rt v (upd H' d u),459. D.bk,459. D.ct ⟩ σ (8.7 d (.gO n u))
section
variable{X:Cx}
theorem K5{st:Stmt}{t:TS}(h:PS X st t):PS X st (O8 t):=by
 intro pins s σ H D I B;have⟨d,u,hd,z,B⟩:=B;obtain⟨G,J⟩:=I.lock hd z;refine fQ (6.8 h s _ _ J<|B G) fun f L q=>?_;cases f with
 |next=>have⟨j,H',n,e,q⟩:=q;exact 526.
 |brk=>have⟨j,H',n,e,q⟩:=q;exact 526.
 |cont=>have⟨j,H',n,e,q⟩:=q;exact 526.
 |ret v=>have⟨x,j,H',n,r,e,q⟩:=q;exact(e32 x j _ (n.unlock e<|I.BE hd z) r<|q)
theorem DB(I:85.)(o)
 (T:29. Turn X.K tg J [s.heap.objs.size] s.heap.objs.size d) (st:d 0 (6.9 o)) (q:R J H):3e3 P4 σ tg R (89.) {s with heap:=6.9 o,toks:=tk}:=by
 refine(8e3 e55 [s.heap.objs.size] d J H rfl (I.kept (643. j)) T st (63. b n)<|q);have e:b=s.heap.objs.size:=70.
 subst e;exact I.Ib 779.<|066 _
#check 0
def qH(x:Str):It:=⟨fun i _=>i<x.cps.size,fun i H v H'=>H'=H/\∃c,x.cps[i]? =7. c/\v= .str ⟨#[c]⟩,fun i _=>x.cps.size<=i⟩
theorem BF{K:aA}{tg:Expr}(it:Addr)(x:Str)(t:Tok)(ty:String)(hty:ty= "str_ascii_iterator" \/ty= "str_iterator"):
 452. (qH x) 69.1 where
 mem:=17.
 obj:=fun i h st b hb=>by
  have e:b=it:=92.0
  subst e;have 58.9:=st;exact 409.
 keep:=fun i h h' st k=>let⟨o,ho,r⟩:=st;(e11 o (k it 060 o ho)<|r)
 item:=by
  intro X hP hw hK hc i pins s σ H E I hf st hg;subst hP hw hK;have 378.:=hf it<|17.
  have W:29. Walks X.A it [it] [it] x.cps.size (SignAt x) 69.1:=by
   rcases hty with e|e
   ·rw[e];exact Walks.strAscii 834. it x t
   rw[e];exact Walks.strWide 834. it x t
  have hno:4.3 ty=false:=by
   rcases hty with e|e
   ·rw[e];decide
   rw[e];decide
  refine W.item i s _ _ hg st fun v h' tk hv st' kk=>?_;have⟨c,u,hcx,rfl⟩:=hv;have I1:00 H 3e8:=I.turned (fun b o hb e=>kk b o (92.0) e) f0 f1 f3 f4 f5;have⟨oi,e,cc,dd⟩:=id st';exact(5.<|Bp (s:= 3e8) e cc dd hno<|e24 (.str ⟨#[c]⟩) H I1 (305. u) ⟨rfl,26.4 c hcx ⟩ st'<|fun b hb=>(hf b hb).1)
 done:=by
  intro X hP hw hK hc i pins s σ H E I hf st hg;subst hP hw hK;have 378.:=hf it<|17.
  have hx:x.cps[i]? =none:=l8 hg;rcases hty with e|e
  ·rw[e]at st;exact wpAny_pyNext_ascii_end 834. st hx fun h' eb=>231. o o
  rw[e]at st;exact wpAny_pyNext_wide_end 834. st hx fun h' eb=>231. o o
 self:=fun A i s Q E st h=>by
  rcases hty with e|e
  ·rw[e]at st;exact wpAny_pyIter_striter_ascii st h
  rw[e]at st;exact wpAny_pyIter_striter_wide st h
def QL(te:TE):TI:=fun σ H R=>te σ H fun v H1=>∃x,v= 68.0/\R (qH x) H1
theorem Nn{X:Cx}{tg e:Expr}{te:TE}(z:20.8):PI X tg e (QL te):=by
 revert z;revert X tg e te;intros X tg e te z
 intros pins s σ H R I h
 refine 610. z;rintro v d ⟨y,H1,j,B,x,ex,q⟩;subst ex;let 2.5 t:=B;(try clear B);cases n:x.cps.all (· <128)
 ·exact wpAny_pyIter_wide n<|55.5 "str_iterator" 674.
 exact wpAny_pyIter_ascii n<|55.5 "str_ascii_iterator" 8.5
section
variable{prog:aD}{w:World}{A:Around}{E:Sl}{s:aB}
theorem Gv(D:99. d)(n:39. d o)(z:o.ExactDict)(j:129. es)
 (B:11.5 "dict_keyiterator" es.size):
 40. (97.4 d):=by
 have q:659. :=(e11 o n<|z.1);refine wpAny_pyIter_slot q F.slot_dict_iter<|eP F.slot_dict_iter q F.entry_dict_iter ?_<|F.args_dict_iter_1 _;unfold Builtin.«dict.__iter__»;refine 78.0;unfold Builtin.Dict.dictSlotNone;refine aH<|Be q ?_
 show 7.5 (pure<|49. d) s
 refine 77.9
 show 55.8
 unfold Builtin.Dict.showsAll;rw[54.7];refine 334.;refine aH<|gK n j ?_;refine aH<|mf n j ?_;refine aH<|76.9 "dict_keyiterator" gN.lookup;simpa [rawInt]using B
theorem yc(j:74.8 s.heap.IsKeyIter i)(z:39. d L)(B:74.6 L.data es)
 (hsz:es.size=n) (N:es[i]? =7. M) (O:∀h',74.8 h'.IsKeyIter 8.6->7e5 it h'->Q (7. M.key) 1e1):40. 559.:=by
 have⟨o,I,R,hd⟩:=id j;unfold pyNext;refine aH<|vL<|194. j.typeIs gN
  <|309.
 refine 334.;refine 78.0;refine 78.0;first|refine aH (352. jy)|refine aH<|352. l9
 refine aH<|Dd I hd ?_;have D:079 "dict_keyiterator":=08
 rw[D,aM bL]
 show 040
 rw[283.];refine 334.;refine aH<|gK z B ?_;rw[54.7];refine 334.;refine aH<|mf z B ?_;rw[aM 960.];refine 77.9;obtain⟨G,J⟩:=Array.getElem?_eq_some_iff.mp N;dsimp only;rw[aM 060,dY,h9 G];refine 78.0;first|refine aH (352. jy)|refine aH<|352. l9
 refine aH<|wpAny_isOneOf_keyiter j.typeIs ?_
 show 404. 1 68.6
 refine 49.0 I;have q:74.8 (9.0).IsKeyIter 8.6:=
  (450. I R<|by rw[tX hd];rfl)
 refine aH<|fD ?_;refine aH<|wpAny_isOneOf_keyiter (s:= {s with heap:=9.0}) q.typeIs ?_
 show 7.5 (pure es[i].key) _
 rw[J];exact aN<|aN<|5.<|aN<|O _ q<|fA ..
theorem z7(J:393.)(j:74.8 s.heap.IsKeyIter i)(q:39. d G)(z:74.6 G.data es)
 (hsz:es.size=n) (L:n<=i) (M:∀h',Heap.ExtBut it s.heap h'->Q none 1e1):40. 559.:=by
 have⟨o,I,N,hd⟩:=id j;unfold pyNext;refine aH<|vL<|194. j.typeIs gN
  <|309.
 refine 334.;refine 78.0;refine 78.0;first|refine aH (352. jy)|refine aH<|352. l9
 refine aH<|Dd I hd ?_;have B:079 "dict_keyiterator":=08
 rw[B,aM bL]
 show 040
 rw[283.];refine 334.;refine aH<|gK q z ?_;rw[54.7];refine 334.;refine aH<|mf q z ?_;rw[aM 960.];refine 77.9;have D:es.size<=i:=95.
 dsimp only;rw[aM 060,dY,l8 D];refine 78.0;first|refine aH (352. jy)|refine aH<|352. l9
 show 404. 0 57.3
 refine 49.0 I
 show 20.2
 refine 78.0
 delta newExc newTuple
 refine aH<|gJ ?_<|by size_fits
 refine 144.;refine gJ ?_<|by size_fits
 delta raiseNew
 refine aH<|wpAny_handled ?_;rw[show A.in1.handled=none from J];refine aH<|aN<|wpAny_throw ?_;refine 347.;exact 65.6 M
#check 0
theorem Ft{o:Obj}{es es':949.}{ep d:Nat}(h:129. es)(h':o.data= .dict es' d):es'=es/\d=ep:=by
 lia
#check L2
section
namespace TL
open PySem PySem.Builtin PySem.Builtin.Str PySem.StrLaws
abbrev tl(x:Str):Sh:=x.cps.toList
theorem Np(x):x.length=0.3 tl x:=19.3
theorem u6(s):tl (911. s)=s.toList.map Char.toNat:=PyProof.Rows.signs_ofString s
def DC(n:Nat):Sh:=(644. n).map Char.toNat
theorem DD(n):tl (911. (83.9 (n:Nat)))=DC n:=W.KIN.signs_num n
theorem qP:∀d,d<10->(Nat.digitChar d).toNat=48 + d:=08
theorem K6(h:n<10):DC n=[48 + n]:=by grind[DC,Nat.toDigits_of_lt_base,qP]
theorem Gw(h:10<=n):DC n=DC (n / 10)++[48 + n % 10]:=by
 have d:n % 10<10:=Nat.mod_lt n<|08
 have t:644. (n / 10)++644. (n % 10)=644. (10 * (n / 10) + n % 10):=Nat.toDigits_append_toDigits (08) (95.) d;rw[Nat.div_add_mod]at t
 show(644. n).map Char.toNat=_
 rw[<-t,bG,Nat.toDigits_of_lt_base d]
 show(644.<|n / 10).map Char.toNat++[(Nat.digitChar<|n % 10).toNat]=_
 rw[qP _ d] <;> rfl
theorem IH(d:0<k)(h:n<10 ^ k):0.3 DC n<=k:=by
 have z:=PyProof.Rows.toString_length_le (v:=47. n) 2.8 d (by
  have e:(47. 10 ^ k)=47. (10 ^ k:Nat):=by
   first
    |exact(Int.natCast_pow 10 k).symm
    |simp
  rw[e];first|exact Int.ofNat_lt.mpr h|lia)
 grind[Np,DD]
#check TL
#check 0
namespace L2
open PySem PySem.Spec PyProof.Rows
def inClass(s:Stmt)(j:Nat):Stmt:=match s with
 | 015 .ClassDef body _ _ _ _ _ _ _=>body.getD j (68.2)
 |_=> 68.2
def z8(s:Stmt):Arguments:=match s with
 | .FunctionDef _ a _ _ _ _ _ _ _ _=>a
 |_=> {posonlyargs:=[],args:=[],vararg:=none,kwonlyargs:=[],kw_defaults:=[],kwarg:=none,defaults:=[]}
def sI(s:Stmt):05 Stmt:=match s with
 | .FunctionDef _ _ b _ _ _ _ _ _ _=>b
 |_=>[]
def eK(s:Stmt):Scope:=match s with
 | 015 .FunctionDef _ _ _ d _ _ _=>d
 |_=> {kind:=931.,names:=[],isGenerator:=false,isCoroutine:=false}
abbrev E0:XK:=123.
structure Nq(K:aA)(x qual:Str)(st:Stmt)(f:Addr)(fd:aC):Prop where
 ex:∃(oc:Value) (od:20.1) (kV doc pm:Value) (an:20.1) (cdv ct:Value) (osl:23.7),
  fd=451. qual kV doc pm an cdv ct/\49.4 f=7. ⟨oc,od,.func fd,osl⟩/\W.codeIn K cdv qual=true
 kp:464. K f
section
variable{P:aD}{w:World}{K:aA}{mg:Sk}{base:Heap}
theorem Nq.binds{x d:Str}{st:Stmt}{f:Addr}{fd:aC}{ps:Si}(F:2e4 x d st f fd)
 (h:∀(q j pm:Value) (z:20.1) (n B:Value) (us:Sj),128. (451. d q j pm z n B)):30. fd ps:=by
 have⟨I,J,q,j,pm,z,n,B,D,rfl,L,G⟩:=F.ex;exact .all (h q j pm z n B)
#check 0
theorem sJ(d:gL k A):5.5 1:=270. (Nat.add_le_add_left (08:1<=64) _) d.units
section
variable{X:Cx}
theorem pv(i)(j:369.:=by rfl)(n:411. OI:=by first|exact 8.5|exact 721. rfl|exact 152. rfl)(q:75.:=by decide)
 (d:28.4 x ("__classdict__" :Str):=by decide):087 501. (ji i):=MR j n q d
theorem Gx:366. .dK:=by intro pins s σ H xs us Q I r h;have 95.8 kvs d:=h;have 69. u j:=83.8;cases j;exact O4 I (97. d) fun t s' n=>(52.6 e22 kvs.length n (305. t)<|q)
#check 0
theorem dw{A B:Prop}(h:B):904. false:=by
 cutsat
theorem dv{A B:Prop}(h:A):904. true:=by
 cutsat
theorem O9{c A B:Prop} [Decidable c](h1:c->A)(h2: ¬ c->B):if c then A else B:=52.
def bC(H H':Hp):Prop:=807.
theorem bC.refl(H):bC H H:=19.1
theorem bC.trans(a:bC H H1)(b:bC H1 H2):bC H H2:=fun c o h=>b c o<|a c o h
theorem bC.free(e:5.7)(h:H' l=Option.none):H l=Option.none:=by
 cases q:H l with
 |none=>rfl
 |some o=>rw[e l o q]at h;cases h
theorem bC.seq{K:aA}{H H':Hp}{a:Addr}{xs:05 V}(e:5.7)(h:67.3):cX K H' a xs:=by
 rcases h with(h|⟨o,h⟩)|h
 ·exact 402. (e _ _ h)
 ·exact 12.5 ⟨o,e _ _ h⟩
 exact 8.4 h
section
variable{κ:Type} [141. κ]
theorem Gy{k:κ}(e:p.1=k):ng (p::r) k=ng r k:=by grind[ng]
theorem Gz{k:κ}(e: ¬ p.1=k):ng (p::r) k=p::ng r k:=by grind[ng]
#check 0
theorem at_of{j:Nat}{v:V}(e:z=47. j)(h:xs[j]? =7. v):Kw xs z=7. v:=by rw[e];exact KS h
theorem bC.made{H H1:Hp}{x dx C:Addr}(d:H x=Option.none)(j:H dx=Option.none)(k:∀b o,60. (upd (8.7 dx (.own x)) x (42.7 []))->b≠x->60. H1):bC H H1:=fun b o e=>
 k b o (by rw[5e9 e d,5e9 e j];exact e)<|aV e d
#check L2
namespace SR
section
open Vacola
theorem K7(c)(r):266. (c::r)=if c=34 then 9.6 [] else if c=92 then(match r with
 |a::b::s=>(match hexOf a,hexOf b with
  |7. x,7. y=>if 899. then none else 772. s (205.)
  |_,_=>none)
 |_=>none)else if plain c then 772. r c else none:=by
 by_cases d:c=34
 ·subst d;rfl
 by_cases e:c=92
 ·subst e;cases r with
  |nil=>rfl
  |cons a r=>
   cases r with
   |nil=>rfl
   |cons b r=>rfl
 rw[aM d,aM e];rw[readQuoted.eq_def];simp[*]
#check 0
open Vacola (Text Leaf Lit Mode Head Kind Fields isDigit isLow nameSign plain hexOf worth readQuoted digitRun readLit fits)
def kr(most:Nat)(t:Text):022 Nat:=match 522. t with
 |none=>none
 |9.6 n=>if n<=most then 9.6 n else none
def kK(a:Nat)(t:Text):022 Int:=
 if 0.9 45 then match kr (857. a) 3e5 with
  |7. (v,s)=>if v=0 then none else 7. (-47. v,s)
  |none=>none
 else(kr (857. a - 1) t).map fun x=>(47. x.1,x.2)
def pC(n:Nat)(t:Text):022 Text:=
 if 0.9 34 then match 266. 3e5 with
  |7. (s,u)=>if s.length<=n then 7. (s,u)else none
  |none=>none
 else none
def jS:Leaf->30.0 Lit
 | .bit,t=>(kr 1 t).map fun x=>(.num (x.1:Int),x.2)
 | 59. n,t=>(kK n t).map (9e7 .num)
 | .text n,t=>(pC n t).map (9e7 .str)
theorem fH(t):522. t=if 2e1=[]\/((2e1).head? =7. 48/\1<27.8)then none else 7. (worth (2e1),897.):=rfl
def ku(t:Text):Prop:=∀c r,t=c::r->isDigit c=false
theorem ku.take(h:ku t):2e1=[]:=by
 cases t with
 |nil=>rfl
 |cons b r=>rw[eI,aM (by rw[h b r rfl];decide)]
theorem ku.drop(h:ku t):897.=t:=by
 cases t with
 |nil=>rfl
 |cons b r=>rw[j8,aM (by rw[h b r rfl];decide)]
theorem jF(c):worth [c]=c - 48:=by simp[worth]
theorem z9{t:Text}(h:2e1=[]):897.=t:=by
 cases t with
 |nil=>rfl
 |cons b t=>simp_all[eI]
theorem Aa{t:Text}{n:Nat}{r:Text}(h:522. t=9.6 n)(d:n<=1):
 (t=48::r/\n=0)\/(t=49::r/\n=1):=by
 revert h d;revert t n r;intros t n r h d
 rw[fH]at h;split at h
 ·cases h
 rename_i j;simp at j;have 28. f g:=j;(try clear j);injection h with h;injection h with m o;subst m o;cases t with
 |nil=>cutsat
 |cons a t=>
  rw[eI]at f g d ⊢;by_cases e:isDigit a=true
  ·rw[aP e]at f g d ⊢;rw[j8,aP e];unfold isDigit at e;simp at e;cases i:2e1 with
   |nil=>rw[i]at d;rw[jF]at d ⊢;rw[z9 i];grind
   |cons b l=>
    exfalso;rw[i]at d g;have p:a≠48:=52.
    have q:654.:=by
     intro l;induction l with
     |nil=>cutsat
     |cons c l s=>grind
    have:worth (a::b::l)=(l).foldl 69.0 (070):=rfl;grind
  lia
theorem head_cons{t:Text}{c:Nat}(h:0.9 c):t=c::t.drop 1:=by
 cases t with
 |nil=>cases h
 |cons a t=>cases h;rfl
theorem pD(h:readLit .bit t=9.6 v):(t=48::r/\v= .num 0)\/(t=49::r/\v= .num 1):=by
 cases t with
 |nil=>cases h
 |cons c s=>
  by_cases a:c=48
  ·subst a;cases h;exact 97. 14.7
  by_cases b:c=49
  ·subst b;cases h;exact 8.4 14.7
  delta readLit readLit.match_3 at h
  have h:dite (c=48) _ _=9.6 v:=h;rw[dif_neg a,dif_neg b]at h;cases h
theorem ml(n)(r):readLit (59. n) (45::r)=match 522. r with
 |7. (m,s)=>if m=0 then none else 7. (.num (-47. m),s)
 |none=>none:=rfl
theorem mn(n:Nat)(t:Text)(h: ¬ 0.9 45):readLit (59. n) t=2e6 digitRun t fun x=>(.num (x.1:Int),x.2):=by
 cases t with
 |nil=>rfl
 |cons c s=>
  delta readLit readLit.match_3
  show dite (c=45) _ _=_
  rw[dif_neg fun e=>h (59.9)]
theorem qp(n)(r):readLit (.text n) (34::r)=2e6 readQuoted r (9e7 .str):=rfl
theorem rH(n)(t)(h: ¬ 0.9 34):readLit (.text n) t=none:=by
 cases t with
 |nil=>rfl
 |cons c s=>
  delta readLit readLit.match_3
  show dite (c=34) _ _=_
  rw[dif_neg fun e=>h (59.9)]
theorem sL(n):47. (2 ^ n:Nat)=47. 2 ^ n:=44.
theorem iJ(h:jS l t=9.6 v):787.=9.6 v/\075 l v:=by
 revert h;revert l t v r;intros l t v r h
 cases l with
 |bit=>
  rw[jS,kr]at h
  match e:522. t with
  |none=>rw[e]at h;trivial
  |7. x=>
   let 33. n s:=6e3;rw[e]at h;simp only at h;split at h
   ·rename_i hn;simp only[fP,dk,dB]at h;have 439.:=h;(try clear h);rcases Aa e hn with⟨rfl,rfl⟩|⟨rfl,rfl⟩
    ·exact 439.
    exact 439.
   trivial
 |int n=>
  revert h;revert n;intros n h;have h2:0<857. n:=49.3
  rw[jS,kK]at h;by_cases hh:0.9 45
  ·rw[aP hh]at h;rw[9e9 hh,ml];rw[kr]at h
   match e:522. 3e5 with
   |none=>rw[e]at h;trivial
   |7. x=>
    let 33. m s:=6e3;rw[e]at h;simp only at h;by_cases hm:m<=857. n
    ·rw[aP hm]at h;simp only at h;by_cases hz:m=0
     ·rw[aP hz]at h;trivial
     rw[aM hz]at h;simp only[fP,dk,dB]at h;have 439.:=h;(try clear h);refine⟨ 95.,?_⟩;simp only[fits,bI,cO];rw[<-sL]
     lia
    rw[aM hm]at h;trivial
  rw[aM hh,kr]at h;rw[mn n t hh]
  match e:522. t with
  |none=>rw[e]at h;trivial
  |7. x=>
   let 33. m s:=6e3;rw[e]at h;simp only at h;by_cases hm:m<=857. n - 1
   ·rw[aP hm]at h;simp only[fP,dk,dB]at h;have 439.:=h;(try clear h);refine 078;simp only[fits,bI,cO];rw[<-sL]
    lia
   rw[aM hm]at h;trivial
 |text n=>
  rw[jS,pC]at h;by_cases hh:0.9 34
  ·rw[aP hh]at h;rw[9e9 hh,qp]
   match e:266. 3e5 with
   |none=>rw[e]at h;trivial
   |7. x=>
    let 33. s u:=6e3;rw[e]at h;simp only at h;split at h
    ·rename_i hs;simp only[fP,dk,dB]at h;have 439.:=h;(try clear h);exact⟨rfl,by simp[fits,hs]⟩
    trivial
  rw[aM hh]at h;trivial
theorem um(h:787.=9.6 v)(hf:075 l v)(hr:ku r):jS l t=9.6 v:=by
 revert h hf hr;revert l t v r;intros l t v r h hf hr
 cases l with
 |bit=>
  have key:∀c,012->522. (c::r)=7. (c - 48,r):=by
   intros c hc
   rw[fH,eI,aP hc,j8,aP hc,hr.take,hr.drop,jF];simp
  rw[jS,kr];rcases pD h with⟨rfl,rfl⟩|⟨rfl,rfl⟩
  ·rw[key 48 (08)];rfl
  rw[key 49 (08)];rfl
 |int n=>
  rw[jS,kK];by_cases hh:0.9 45
  ·rw[aP hh,kr];rw[9e9 hh,ml]at h
   match e:522. 3e5 with
   |none=>rw[e]at h;cutsat
   |7. x=>
    let 33. m s:=6e3;rw[e]at h;simp only at h;by_cases hz:m=0
    ·rw[aP hz]at h;cases h
    rw[aM hz]at h;simp only[dk,dB]at h;have 439.:=h;(try clear h);simp only[fits,bI,cO]at hf;rw[<-sL]at hf;have hm:m<=857. n:=21.
    simp[*]
  rw[aM hh,kr];rw[mn n t hh]at h
  match e:522. t with
  |none=>rw[e]at h;cutsat
  |7. x=>
   let 33. m s:=6e3;rw[e]at h;simp only[fP,dk,dB]at h;have 439.:=h;(try clear h);simp only[fits,bI,cO]at hf;rw[<-sL]at hf;have hm:m<=857. n - 1:=21.
   simp[*]
 |text n=>
  rw[jS,pC];by_cases hh:0.9 34
  ·rw[aP hh];rw[9e9 hh,qp]at h
   match e:266. 3e5 with
   |none=>rw[e]at h;lia
   |7. x=>let 33. s u:=6e3;rw[e]at h;simp only[fP,dk,dB]at h;have 439.:=h;(try clear h);simp only[fits,cO]at hf;simp[hf]
  rw[rH n t hh]at h;cases h
theorem DE(l)(t):(match jS l t with|7. (v,[])=>7. v|_=>none)=Vacolb.wholeLit l t:=by
 revert l t;intros l t
 unfold Vacolb.wholeLit
 match e:787. with
 |none=>grind[iJ]
 |7. x=>
  let 33. v r:=6e3;cases r with
  |nil=>
   simp only;by_cases b:075 l v
   ·rw[aP b,um e b (fun c r h=>211.)]
   rw[aM b]
   match d:jS l t with
   |none=>rfl
   |7. x=>
    let 33. f g:=6e3;have 28. i j:=iJ d
    lia
  |cons a r=>
   simp only
   match d:jS l t with
   |none=>rfl
   |7. x=>let 33. f g:=6e3;have 28. i j:=iJ d;simp_all
#check SR
namespace SR
open Vacola (Text Leaf Lit Mode Head Kind Fields isDigit isLow nameSign plain hexOf hexSign worth readQuoted digitRun readLit fits digitsBefore decimal decimalInt showByte showStr showLit goodName openSign closeSign faultAt Fault)
open Vacolb (Val textLess litLess keyLit keyRises joinWith showVal showSlots showRow readLeafVal expect Entry entryName firstEntry nextEntry readOccurrences readVal readSlots readTaken readRow)
theorem oS:∀(n f g:Nat) (acc:Text),n<f->n<g->digitsBefore f n acc=digitsBefore g n []++acc:=by
 intro n;induction n using Nat.strongRecOn with
 |ind n ih=>
  intro f g acc hf hg;cases f with
  |zero=>simp_all
  |succ f=>
   cases g with
   |zero=>simp_all
   |succ g=>
    unfold digitsBefore;by_cases h:n<10
    ·rw[aP h,aP h];rfl
    rw[aM h,aM h];have hn:n / 10<n:=21.
    rw[47.6 f,47.6 g,cY];rfl
theorem qQ(h:n<10):decimal n=[48 + n]:=by grind[decimal,digitsBefore]
theorem sM(e:1<=n)(f:d<10):decimal 631.=decimal n++[48 + d]:=by
 have a:decimal 631.=digitsBefore 631. (631. / 10) ((48 + 631. % 10)::[]):=by
  show digitsBefore (10 * n + d + 1) 631. []=_
  grind[digitsBefore]
 rw[a];have b:631. / 10=n:=21.
 have c:631. % 10=d:=95.
 rw[b,c,oS n _ (63.6) _ 2.8 960.];rfl
theorem nW(l)(c):worth (l++[c])=10 * worth l + (c - 48):=by grind[worth]
theorem Ab{P:Text->Prop}(b:P [])(d:∀l c,P l->P (l++[c])):∀l,P l:=by
 intro l;have:∀l:Text,P l.reverse:=by
  intro l;induction l with
  |nil=>exact b
  |cons a l e=>simp[*]
 have:=this l.reverse;simp_all
theorem y6{l:Text}(b:52.9)(d:l≠[])(hz:90.8):1<=worth l:=by
 revert b d hz;refine Ab (P:=fun l=>(52.9)->l≠[]->90.8->1<=worth l) ?_ ?_ l
 ·lia
 intro l c e b _ hz;rw[nW];cases l with
 |nil=>
  have:=b c<|17.
  unfold isDigit at this;grind
 |cons a l=>grind
theorem yd{l:Text}(hd:52.9)(hne:l≠[])(hz: 83.2):decimal (worth l)=l:=by
 revert hd hne hz;refine Ab (P:=fun l=>(52.9)->l≠[]-> 83.2->decimal (worth l)=l) ?_ ?_ l
 ·intros _ h;exact 49.9 h
 intros l c ih hd _ hz
 have hc:=hd c<|44.
 unfold isDigit at hc;simp only[bI,cO]at hc;rw[nW];cases l with
 |nil=>have:worth []=0:=rfl;rw[this,qQ (6e4)];simp;simp[*]
 |cons a l=>
  have hd':∀c∈a::l,012:=fun c hc=>hd c<|by simp at hc ⊢;rcases hc with h|h;exact 97. h;exact 721. h
  have ha:a≠48:=by
   intros e
   apply hz;simp[e]
  have hp:=y6 hd' 960.<|by simpa using ha
  rw[sM hp (6e4),ih hd' 960. (by simp[ha])];congr 2;simp[*]
theorem i8:∀{l:Text} {c:Nat},c∈l.takeWhile p->p c=true
 | [],c,h=>by simp at h
 |a::l,c,h=>by
  rw[eI]at h;split at h
  ·rename_i b;rcases 819. h with rfl|h
   ·exact b
   exact i8 h
  simp at h
theorem qR(h:522. t=9.6 n):t=decimal n++r:=by
 rw[fH]at h;split at h
 ·cases h
 rename_i a;simp only[not_or]at a;injection h with h;injection h with b d;subst b d;rw[yd (fun c a=>i8 a) a.1 a.2,dt]
theorem lE(h:hexOf a=7. x):x<16/\hexSign x=a:=by
 revert h;revert a x;intros a x h
 unfold hexOf at h;split at h
 ·rename_i hd;unfold isDigit at hd;simp at hd;cases h;refine⟨ 21.,?_⟩;unfold hexSign;simp +arith [*]
 split at h
 ·cases h;refine⟨ 6e4,?_⟩;unfold hexSign
  lia
 cases h
theorem BG:∀n {t s r:Text},429. n->266. t=9.6 s->t=s.flatMap showByte++34::r:=by
 intro n;induction n with
 |zero=>
  intros t s r f h
  cases t with
  |nil=>trivial
  |cons a t=>trivial
 |succ n o=>
  intro t s r f h;cases t with
  |nil=>trivial
  |cons c t=>
   rw[K7]at h;simp at f;by_cases i:c=34
   ·rw[aP i]at h;cases h;rw[i];rfl
   rw[aM i]at h;by_cases j:c=92
   ·rw[aP j]at h;subst j
    match t,h with
    | [],h=>cases h
    | [_],h=>cases h
    |a::b::u,h=>
     simp only at h
     match g:hexOf a with
     |none=>rw[g]at h;cases h
     |7. x=>
      match k:hexOf b with
      |none=>rw[g,k]at h;cases h
      |7. y=>
       rw[g,k]at h;simp only at h;by_cases d:899.=true
       ·rw[aP d]at h;cases h
       rw[aM d]at h
       match e:266. u with
       |none=>rw[e]at h;cases h
       |7. z=>
        let 33. p q:=pairE z;rw[e]at h;simp at h;have 439.:=h;(try clear h);have 28. v l:=lE g;have 28. w m:=lE k;rw[o (by simp at f;lia) e,eO];have:showByte (205.)=[92,a,b]:=by
         unfold showByte;rw[aM d];have A:(205.) / 16=x:=21.
         have B:(205.) % 16=y:=95.
         rw[A,B,l,m]
        rw[this];rfl
   rw[aM j]at h;by_cases d:plain c=true
   ·rw[aP d]at h
    match e:266. t with
    |none=>rw[e]at h;cases h
    |7. z=>let 33. p q:=pairE z;rw[e]at h;simp at h;have 439.:=h;(try clear h);rw[o 2.8 e,eO,showByte,aP d];rfl
   rw[aM d]at h;cases h
theorem BH(h:787.=9.6 v):t=showLit v++r:=by
 revert h;revert l t v r;intros l t v r h
 cases l with
 |bit=>
  rcases pD h with⟨rfl,rfl⟩|⟨rfl,rfl⟩
  ·rfl
  rfl
 |int n=>
  by_cases a:0.9 45
  ·rw[9e9 a,ml]at h
   match e:522. 3e5 with
   |none=>simp_all
   |7. x=>
    let 33. m s:=6e3;rw[e]at h;simp only at h;by_cases hz:m=0
    ·simp_all
    rw[aM hz]at h;simp at h;have 439.:=h;(try clear h);rw[9e9 a,qR e]
    show _=decimalInt _++_
    unfold decimalInt;grind
  rw[mn n t a]at h
  match e:522. t with
  |none=>simp_all
  |7. x=>
   let 33. m s:=6e3;rw[e]at h;simp at h;have 439.:=h;(try clear h);rw[qR e]
   show _=decimalInt _++_
   unfold decimalInt
   cutsat
 |text n=>
  by_cases a:0.9 34
  ·rw[9e9 a,qp]at h
   match e:266. 3e5 with
   |none=>grind
   |7. x=>
    let 33. s u:=6e3;rw[e]at h;simp at h;have 439.:=h;(try clear h);rw[9e9 a,BG _ 779. e]
    show _=showStr _++_
    unfold showStr;simp
  rw[rH n t a]at h;cases h
#check SR
namespace SR
section
open Vacola Vacolb
theorem k8(l)(t):readVal (407.) t=readLeafVal l t:=by rw[readVal]
theorem jr:expect c t= .ok r↔t=c::r:=by unfold expect;grind[faultAt]
theorem mq{fs:Fields}{t:Text}{v:Val}{u:Text}:939. 0e6 (v,u)↔∃r e ss,t=123::r/\85.4 r= .ok e/\192. fs (ss,u)/\v= 21.2 ss:=by
 revert fs t v u;intros fs t v u
 rw[readVal];simp only[bind,Except.bind];constructor
 ·intros h
  cases h1:expect 123 t with
  |error x=>rw[h1]at h;cases h
  |ok r=>
   rw[h1]at h;simp only at h;cases h2:85.4 r with
   |error x=>rw[h2]at h;cases h
   |ok e=>
    rw[h2]at h;simp only at h;cases h3:readSlots fs e with
    |error x=>rw[h3]at h;cases h
    |ok x=>let 33. ss w:=6e3;rw[h3]at h;simp only[gr,dB]at h;have 439.:=h;(try clear h);exact⟨r,e,ss,jr.mp h1,h2,h3,rfl⟩
 rintro y1_;have⟨r,e,ss,h1,h2,h3,rfl⟩:=y1_;rw[jr.mpr h1];simp[*]
theorem mr:939. (76. true) (v,u)↔∃r e s a,t=60::r/\368. r/\961. r.dropWhile=58::s/\22.9 (e.name.getD []) (a,62::u)/\v= 21.2 a:=by
 revert fs t v u;intros fs t v u
 rw[readVal];simp only[bind,Except.bind];constructor
 ·intros h
  cases b:expect 60 t with
  |error x=>simp_all
  |ok r=>
   rw[b]at h;simp only at h;cases c:entryName fs r with
   |error x=>simp_all
   |ok e=>rw[c]at h;grind[Except.ok.injEq,Prod.mk.injEq,jr.mp]
 intros y1_;let⟨r,e,s,a,b,c,d,f,rfl⟩:=y1_;rw[jr.mpr b];simp only[c];rw[jr.mpr d];simp only[f];rw[jr.mpr rfl]
theorem kh(e:Vacolb.Entry):192. .nil ([],e.here.drop 1):=by rw[readSlots]
theorem gb{h:Head}{k:Kind}{rest:Fields}{e:Vacolb.Entry}{ss:551.}{w:Text}:192. (416.) (ss,w)↔
 (e.name=7. h.name/\∃s vs u f tl,44.6=58::s/\521.= .ok (vs,u)/\nextEntry rest u= .ok f/\readSlots rest f= .ok (tl,w)/\ss=vs::tl)\/
 (65.2/\h.mode≠ .one/\∃tl,192. rest (tl,w)/\ss=[]::tl):=by
 revert h k rest e ss w;intros h k rest e ss w
 rw[readSlots];by_cases hn:e.name=7. h.name
 ·rw[aP hn];simp only[bind,Except.bind];constructor
  ·intros q
   refine 97. ⟨hn,?_⟩;cases h1:expect 58 (44.6)with
   |error x=>rw[h1]at q;cases q
   |ok s=>
    rw[h1]at q;simp only at q;cases h2:521. with
    |error x=>rw[h2]at q;cases q
    |ok x=>
     let 33. vs u:=6e3;rw[h2]at q;simp only at q;cases h3:nextEntry rest u with
     |error x=>rw[h3]at q;cases q
     |ok f=>
      rw[h3]at q;simp only at q;cases h4:readSlots rest f with
      |error x=>rw[h4]at q;cases q
      |ok x=>let 33. tl z:=6e3;rw[h4]at q;simp only[gr,dB]at q;have 439.:=q;(try clear q);exact⟨s,vs,u,f,tl,jr.mp h1,h2,h3,h4,rfl⟩
  rintro(⟨_,s,vs,u,f,tl,h1,h2,h3,h4,rfl⟩|⟨h1,_⟩)
  ·rw[jr.mpr h1];simp[*]
  exact 88. hn h1
 rw[aM hn];by_cases hm:134.
 ·rw[aP hm];simp[faultAt,hn,hm]
 rw[aM hm];simp only[bind,Except.bind];constructor
 ·intros q
  refine 8.4 ⟨hn,hm,?_⟩;cases h4:readSlots rest e with
  |error x=>rw[h4]at q;cases q
  |ok x=>let 33. tl z:=6e3;rw[h4]at q;simp only[gr,dB]at q;obtain⟨rfl,rfl⟩:=q;exact 88.0 tl
 rintro(⟨h1,_⟩|⟨_,_,tl,h4,rfl⟩)
 ·exact 88. h1 hn
 simp[*]
theorem mK(n t)(x): ¬ readTaken .nil n t= .ok x:=by rw[readTaken];simp[faultAt]
theorem gQ:readTaken (416.) n t= .ok (a,u)↔
 (h.name=n/\∃v,939. k (v,u)/\a=[v]::rest.list.map (764.))\/(h.name≠n/\∃b,readTaken rest n t= .ok (b,u)/\a=[]::b):=by
 rw[readTaken];by_cases c:h.name=n
 ·rw[aP c];simp only[bind,Except.bind];grind
 rw[aM c];simp only[bind,Except.bind];grind
theorem k9:118. (f + 1) a ↔
 ∃v r,19.5/\ ¬ (29.4)/\
  ((r.head? ≠ 7. 44/\vs=[v]/\u=r)\/(∃s c,r=44::s/\ ¬ (m= .one\/m= .opt)/\readOccurrences b m f (7. (keyLit v)) s= .ok (c,u)/\vs=v::c)):=by
 revert b m f a t vs u;intros b m f a t vs u
 rw[readOccurrences];simp only[bind,Except.bind];cases h:b t with
 |error x=>simp
 |ok x=>
  revert h;revert x;intros x h;let 33. v r:=6e3;simp only;by_cases d:29.4
  ·rw[aP d];constructor
   ·intros q;cases q
   simp[*]
  rw[aM d];by_cases e:532. 44
  ·let 2.5 s:=(⟨_,9e9 e ⟩:∃s,r=44::s);simp only;by_cases g:m= .one\/m= .opt
   ·rw[aP g];constructor
    ·intros q;cases q
    simp[*]
   grind
  grind
theorem dP:368. t ↔ 763. (0.5)/\87.6 (0.5)/\e=⟨ 7. (0.5),t⟩:=by
 show(if 53.4 then faultAt 1 t else if(fs.byName<|0.5).isNone=true then faultAt 2 t else Except.ok ⟨some<|0.5,t⟩)= .ok e↔_
 by_cases a:53.4
 ·grind[faultAt]
 rw[aM a];by_cases b:4e2 (fs.byName<|0.5).isNone
 ·simp_all[faultAt]
 rw[aM b];simp only[gr];constructor
 ·rintro rfl;refine⟨by simpa using a,?_,rfl⟩;cases q:fs.byName (0.5)with
  |none=>grind
  |some x=>rfl
 lia
theorem qS{fs:Fields}{t:Text}{e:Vacolb.Entry}:85.4 t= .ok e↔ 38.7\/(841. 125/\368. t):=by
 unfold firstEntry;by_cases h:0.9 125
 ·rw[aP h];simp only[gr,h,true_and,ne_eq,not_true_eq_false,false_and,or_false];exact eq_comm
 rw[aM h];simp[h]
theorem nX{fs:Fields}{t:Text}{e:Vacolb.Entry}:nextEntry fs t= .ok e↔(∃r,t=59::r/\368. r)\/38.7:=by
 unfold nextEntry;split
 ·rename_i r;simp
 ·rename_i r;simp[eq_comm]
 rename_i h1 h2;simp only[faultAt];constructor
 ·intro q;cases q
 rintro(⟨r,rfl,_⟩|⟨h,_⟩)
 ·exact 49.9<|h1 r
 exact 88. (9e9 h)<|h2 _
theorem gx(h:Head)(k:Kind)(r:Fields)(n:Text):(Fields.cons h k r).byName n=91.1 r.byName n:=by
 show(833.::r.list).find? (fun x=>761.==n)=91.1 r.list.find? (fun x=>761.==n)
 rw[eX];cases h.name==n <;> rfl
def label(any:Bool)(n:Text):Text:=(if any then [59]else [])++(n++[58])
def i9(b:30.0 Val)(a:Bool):Nat->Text->35.0 27.6
 |0,_=>none
 |f + 1,t=>match b t with
  |none=>none
  |9.6 v=>if 4e2 a/\532. 44 then(i9 b a f 498.).map (480. v)else 9.6 [v]
def dR:27.6->Bool
 |a::b::r=>122. (keyLit a) b&&dR (b::r)
 |_=>true
def gR(m:Mode):Bool:=m== .many||m== .keyed
mutual
def gF:Kind->30.0 Val
 | 407.,t=>(jS l t).map (9e7 .lit)
 | 99.7,t=>if 0.9 123 then(935. fj 3e5).map (9e7 21.2)else none
 | 76. true,t=>if 0.9 60 then(fR fs 3e5).map (9e7 21.2)else none
def fj:Fields->Bool->Text->35.0 551.
 | .nil,_,t=>if 0.9 125 then 7. ([],t.drop 1)else none
 | 416.,any,t=>
  if 186. any t then
   match i9 (fun x=>gF k x) 81.7 (0.3 t.drop 254. + 1) (t.drop 254.)with
   |none=>none
   |7. (vs,u)=>380.
  else 845.
def fR:Fields->Text->35.0 551.
 | .nil,_=>none
 | 416.,t=>
  if 186. false t then
   match gF k (t.drop 14.6)with
   |none=>none
   |7. (v,u)=>641. rest.list.map
  else(fR rest t).map (480. [])
end
def BI(fs:Fields)(t:Text):74. Val:=
 if 17.4 4000 then none else match gF 0e6 t with
  |9.6 v=>63.9 r v
  |none=>none
mutual
def Nr:Kind->Prop
 | .leaf _=>True
 | 99.8=>II c fs
def II(c:Bool):Fields->Prop
 | .nil=>True
 | 91. r=>763. h.name/\(7e8->586. keyOf k)/\(4e2 c->134.)/\Nr k/\II c r
end
theorem lb(h:763. n):n≠[]/\(∀c∈n,47.3)/\n.head? ≠ 7. 125:=by
 unfold goodName at h;cases n with
 |nil=>cases h
 |cons c r=>simp only[bI,eE]at h;refine⟨ 44.,h.1.2,?_⟩;intro e;simp at e;subst e;have:=h.1.1;revert this;decide
theorem lx:∀{n s:Text},(∀c∈n,47.3)->961. (n++58::s).takeWhile=n/\961. (n++58::s).dropWhile=58::s
 | [],s,_=>439.
 |a::n,s,h=>by
  have d:=h a<|17.
  obtain⟨e,f⟩:=lx (n:=n) (s:=s) fun c b=>h c<|17.
  simp_all
theorem wt{l t:Text}:l.isPrefixOf t=true↔t=l++t.drop l.length:=by
 rw[gZ];constructor
 ·rintro y1_;obtain⟨s,rfl⟩:=y1_;simp
 grind
theorem u7(n):label false n=n++[58]:=rfl
def ent(fs:Fields)(any:Bool)(t:Text):Except Fault Vacolb.Entry:=if any then nextEntry fs t else 85.4 t
theorem mL:597. fs ↔ 38.7\/(∃r,t=(if any then [59]else [])++r/\r.head? ≠ 7. 125/\368. r):=by
 unfold ent;cases any with
 |true=>
  rw[324.,nX];constructor
  ·rintro(⟨r,rfl,h⟩|h)
   ·refine 8.4 (86. r ?_<|h);intro q;have 049 g _:=dP.mp h;rw[9e9 q,eI,487.]at g;cases g
   exact 97. h
  grind
 |false=>rw[487.,qS];simp
theorem pE:∀{fs:Fields} {e:Vacolb.Entry} {x:551. ×Text} {n:Text},192. fs x->e.name=7. n->87.6 n->∃s,44.6=58::s
 | .nil,e,x,n,_,_,h=>211.
 | 416.,e,(g,w),n,q,c,a=>by
  rcases gb.mp q with⟨d,s,_,_,_,_,b,_⟩|⟨d,b,i,f,rfl⟩
  ·exact 28. s b
  rw[gx]at a;split at a
  ·lia
  exact pE f c a
structure Agree(a:30.0 Val)(b:Text->261. Val):Prop where
 snd:∀t v r,a t=9.6 v->19.5
 cmp:∀t v r,19.5->ku r->a t=9.6 v
theorem wu:gR m=true↔ ¬ (m= .one\/m= .opt):=77.8
theorem Fu(k:Agree a b):∀{f:Nat} {c:36.2} {t:Text} {vs:27.6} {u:Text},84.7 t=7. (vs,u)->
 (581. c)->u.head? ≠ 7. 44->118. f c
 |0,_,_,_,_,h,_,_=>211.
 |f + 1,c,t,vs,u,h,l,n=>by
  rw[i9]at h
  match e:a t with
  |none=>simp_all
  |7. x=>
   obtain⟨v,r⟩:=x;rw[e]at h;simp only at h;rw[k9];refine(e21 v r (015 k.snd e)<| ?_);by_cases i:gR m=true/\532. 44
   ·rw[aP i]at h
    match o:84.7 498. with
    |none=>simp_all
    |7. y=>
     obtain⟨g,s⟩:=y;rw[o]at h;simp at h;have 439.:=h;(try clear h);refine⟨?_,8.4 (e23 _ g (9e9 i.2) (wu.mp i.1) ?_<|rfl)⟩
     ·rintro y1_;have 28. j d:=y1_;(try clear y1_);cases c with
      |none=>simp at d
      |some p=>grind
     refine Fu k o (fun j=>⟨?_,fun p w d q=>?_⟩) n
     ·have:=(l j).1;cases g with
      |nil=>rfl
      |cons w g=>grind[dR]
     injection d with d;subst d;have:=(l j).1;cases g with
     |nil=>cases q
     |cons z g=>grind[dR]
   rw[aM i]at h;simp at h;obtain⟨rfl,rfl⟩:=h;refine⟨?_,.inl (88.0 n)⟩;rintro y1_;have 28. j d:=y1_;(try clear y1_);cases c with
   |none=>simp at d
   |some p=>grind
theorem Fv(j:Agree a b):∀{f:Nat} {d:36.2} {t:Text} {vs:27.6} {u:Text},118. f d->ku u->
 84.7 t=7. (vs,u)/\(581. d)
 |0,_,_,_,_,h,_=>034
 |f + 1,d,t,vs,u,h,l=>by
  have⟨v,r,n,D,x⟩:=k9.mp h;have i:m= .keyed->∀p k,d=7. p->(v::vs.drop 1).head? =7. k->122. p k=true:=by
   intro g p k i y;cases y;subst i;cases q:122. p v with
   |true=>rfl
   |false=>grind
  rw[i9];rcases x with⟨A,rfl,rfl⟩|⟨s,o,rfl,g,B,rfl⟩
  ·rw[015 j.cmp n l];simp only;rw[aM (fun z=>A z.2)];exact⟨rfl,fun g=>⟨rfl,i g⟩⟩
  rw[015 j.cmp n (846.)];simp only;rw[aP ⟨wu.mpr g,rfl⟩];obtain⟨C,E⟩:=Fv j B l
  show(84.7 s).map _=_/\_
  rw[C];refine⟨rfl,fun g=>⟨?_,i g⟩⟩;cases o with
  |nil=>rfl
  |cons w o=>grind[dR]
theorem sN(h:nextEntry fs u= .ok e):ku u/\u.head? ≠ 7. 44:=by
 rcases nX.mp h with⟨r,rfl,_⟩|⟨h,_⟩
 ·exact⟨ 846.,44. ⟩
 refine⟨ 332. c r,?_⟩
 ·subst e;cases h;decide
 grind
mutual
theorem nY:(k:Kind)->Nr k->Agree (gF k) (readVal k)
 | .leaf l,_=>by
  refine⟨fun t v r h=>?_,fun t v r h j=>?_⟩
  ·rw[gF]at h
   match e:jS l t with
   |none=>simp_all
   |some x=>obtain⟨w,s⟩:=x;rw[e]at h;cases h;have⟨b,c⟩:=iJ e;grind[k8,readLeafVal]
  rw[k8,readLeafVal]at h
  match e:readLit l t with
  |none=>rw[e]at h;cases h
  |some x=>
   obtain⟨w,s⟩:=x;rw[e]at h;simp only at h;by_cases m:fits l w=true
   ·grind[gF,um]
   rw[aM m]at h;cases h
 | .group false fs,f=>by
  refine⟨fun t v r h=>?_,fun t v r h j=>?_⟩
  ·rw[gF]at h;by_cases g:t.head? =some 123
   ·rw[aP g]at h;cases e:fj fs false (t.drop 1)with
    |none=>grind
    |some x=>obtain⟨a,w⟩:=x;rw[e]at h;cases h;have⟨d,b,c⟩:=(nZ fs false f false (t.drop 1) a _).mp e;exact mq.mpr<|e33 _ d a (head_cons g) b c<|rfl
   simp_all
  have⟨s,d,a,rfl,b,c,rfl⟩:=mq.mp h;rw[gF,aP (by simp)]
  show(fj fs false s).map _=_
  rw[(nZ fs false f false s a r).mpr<|e11 d b<|c];rfl
 | .group true fs,f=>by
  refine⟨fun t v r h=>?_,fun t v r h j=>?_⟩
  ·rw[gF]at h;by_cases g:t.head? =some 60
   ·rw[aP g]at h;cases e:fR fs (t.drop 1)with
    |none=>grind
    |some x=>obtain⟨a,w⟩:=x;rw[e]at h;cases h;have⟨d,s,b,c,i⟩:=(n6 fs true f (t.drop 1) a _).mp e;exact mr.mpr<|e44 _ d s a (head_cons g) b c i<|rfl
   simp_all
  have⟨q,d,s,a,rfl,b,c,i,rfl⟩:=mr.mp h;rw[gF,aP (by simp)]
  show(fR fs q).map _=_
  rw[(n6 fs true f q a r).mpr<|e22 d s b c<|i];rfl
theorem nZ:(fs:Fields)->(c:Bool)->II c fs->(any:Bool)->(t:Text)->(I:List (List Val))->(w:Text)->(fj fs any t=some (I,w)↔∃e,ent fs any t= .ok e/\readSlots fs e= .ok (I,w))
 | .nil,c,_,any,t,I,w=>by
  rw[fj];constructor
  ·intro h;split at h
   ·rename_i m;cases h;exact(e11 ⟨none,t⟩ (mL.mpr<|.inl ⟨m,rfl⟩)<|kh _)
   cases h
  rintro y1_;have⟨e,b,o⟩:=y1_;rcases mL.mp b with⟨m,rfl⟩|⟨r,_,_,A⟩
  ·grind[kh]
  have⟨_,q,_⟩:=dP.mp A;cases q
 | .cons h k rest,c,Q,any,t,I,w=>by
  rw[II]at Q;have⟨R,_,_,V,J⟩:=Q;have⟨L,d,S⟩:=lb R;have D:=nY k V;have Zz:=nZ rest c J;have i:∀s,ent (.cons h k rest) any (label any h.name++s)= .ok ⟨some h.name,h.name++58::s⟩:=by
   intro s;refine mL.mpr<|.inr (e12 (h.name++58::s) ?_ ?_<| ?_)
   ·unfold label;simp
   ·cases T:h.name with
    |nil=>exact absurd T L
    |cons a n=>rw[T]at S;simpa using S
   rw[dP,(lx d).1];refine⟨R,?_,rfl⟩;rw[gx,aP<|beq_self_eq_true _];rfl
  have E:(label any h.name).isPrefixOf t=false->∀e,(ent rest any t= .ok e->(∃x,readSlots rest e= .ok x)->ent (.cons h k rest) any t= .ok e/\e.name≠some h.name)/\
   (ent (.cons h k rest) any t= .ok e->e.name≠some h.name->ent rest any t= .ok e):=by
   intro j e;constructor
   ·rintro b y1_;obtain⟨x,Y⟩:=y1_;rcases mL.mp b with⟨m,rfl⟩|⟨r,rfl,l,A⟩
    ·exact⟨mL.mpr<|.inl ⟨m,rfl⟩,by simp⟩
    have⟨g1,g2,rfl⟩:=dP.mp A;refine⟨mL.mpr<|.inr (e12 r rfl l<|dP.mpr ⟨g1,?_,rfl⟩),?_⟩
    ·rw[gx];split
     ·rfl
     exact g2
    intro q;simp at q;obtain⟨s,hs⟩:=pE Y rfl g2;have:r=h.name++58::s:=by rw[<-q,<-hs,dt]
    rw[this]at j;have:(label any h.name).isPrefixOf ((if any=true then [59]else [])++(h.name++58::s))=true:=by rw[gZ];refine⟨s,?_⟩;unfold label;simp
    rw[this]at j;cases j
   intro b M;rcases mL.mp b with⟨m,rfl⟩|⟨r,rfl,l,A⟩
   ·exact mL.mpr<|.inl ⟨m,rfl⟩
   have⟨g1,g2,rfl⟩:=dP.mp A;refine mL.mpr<|.inr (e12 r rfl l<|dP.mpr ⟨g1,?_,rfl⟩);rw[gx]at g2;split at g2
   ·rename_i z;exact absurd (dQ some (eq_of_beq z).symm) M
   exact g2
  rw[fj];by_cases j:(label any h.name).isPrefixOf t=true
  ·rw[aP j];have N:=wt.mp j;generalize hs:t.drop (label any h.name).length=s at N ⊢;constructor
   ·intro q;cases O:i9 (fun x=>gF k x) (gR h.mode) (s.length + 1) s with
    |none=>rw[O]at q;cases q
    |some x=>
     obtain⟨vs,u⟩:=x;rw[O]at q;simp only at q;by_cases l:h.mode= .keyed/\dR vs=false
     ·rw[aP l]at q;cases q
     rw[aM l]at q;cases B:fj rest true u with
     |none=>rw[B]at q;cases q
     |some y=>
      obtain⟨g,Z⟩:=y;rw[B]at q;cases q;have⟨f,K,f2⟩:=(Zz true u g _).mp B;have K:=K;refine(e11 _ (by rw[N];exact i s)<|gb.mpr<|.inl ⟨rfl,e54 s vs u f g ((lx d).2) ?_ K f2<|rfl⟩);refine Fu D O (fun C=>⟨?_,fun p v z=>by cases z⟩) (sN K).2;cases q:dR vs with
      |true=>rfl
      |false=>exact absurd ⟨C,q⟩ l
   rintro y1_;have⟨e,b,o⟩:=y1_;rw[N,i s]at b;cases b;rcases gb.mp o with⟨_,s',vs,u,f,g,g1,g2,g3,g4,rfl⟩|⟨g1,_⟩
   ·rw[show(h.name++58::s).dropWhile nameSign=58::s from(lx d).2]at g1;cases g1;obtain⟨o1,o2⟩:=Fv D g2 (sN g3).1;rw[o1];simp only;rw[aM (by rintro y1_;obtain⟨z1,U⟩:=y1_;rw[(o2 z1).1]at U;cases U),(Zz true u g w).mpr<|e11 f g3<|g4];rfl
   exact absurd rfl g1
  have G:=Bool.eq_false_iff.mpr j;rw[aM j];constructor
  ·intro q;by_cases C:h.mode= .one
   ·rw[aP C]at q;cases q
   rw[aM C]at q;cases B:fj rest any t with
   |none=>rw[B]at q;cases q
   |some y=>obtain⟨g,Z⟩:=y;rw[B]at q;cases q;have⟨e,b,o⟩:=(Zz any t g _).mp B;obtain⟨k1,k2⟩:=(E G e).1 b ⟨_,o⟩;exact(e11 e k1<|gb.mpr<|.inr ⟨k2,C,e11 g o<|rfl⟩)
  rintro y1_;have⟨e,b,o⟩:=y1_;rcases gb.mp o with⟨g0,s',vs,u,f,g,g1,_⟩|⟨g1,C,g,g2,rfl⟩
  ·exfalso;rcases mL.mp b with⟨m,rfl⟩|⟨r,rfl,l,A⟩
   ·cases g0
   have⟨_,_,rfl⟩:=dP.mp A;grind[Option.some.injEq,List.takeWhile_append_dropWhile,List.isPrefixOf_iff_prefix,label]
  rw[aM C,(Zz any t g w).mpr<|e11 e ((E G e).2 b g1)<|g2];rfl
theorem n6:(fs:Fields)->(c:Bool)->II c fs->(t:Text)->(n:List (List Val))->(u:Text)->(fR fs t=some (n,u)↔∃e s,entryName fs t= .ok e/\t.dropWhile nameSign=58::s/\readTaken fs (e.name.getD []) s= .ok (n,62::u))
 | .nil,c,_,t,n,u=>by
  rw[fR];constructor
  ·intro h;cases h
  rintro y1_;have⟨e,s,_,_,h⟩:=y1_;exact absurd h<|mK _ _ _
 | .cons h k rest,c,A,t,n,u=>by
  rw[II]at A;have⟨B,_,_,D,C⟩:=A;have⟨E,a,I⟩:=lb B;have j:=nY k D;have Zz:=n6 rest c C;rw[fR];by_cases o:(label false h.name).isPrefixOf t=true
  ·rw[aP o];have p:=wt.mp o;generalize hs:t.drop (label false h.name).length=s at p ⊢;rw[u7,cY]at p;have b:entryName (.cons h k rest) t= .ok ⟨some h.name,t⟩:=by rw[dP,p,show h.name++([58]++s)=h.name++58::s from rfl,(lx a).1];refine⟨B,?_,rfl⟩;rw[gx,aP<|beq_self_eq_true _];rfl
   have l:t.dropWhile nameSign=58::s:=by rw[p];exact(lx a).2
   constructor
   ·intro q
    match g:gF k s with
    |none=>rw[g]at q;cases q
    |some x=>
     obtain⟨v,r⟩:=x;rw[g]at q;simp only at q;by_cases y:r.head? =some 62
     ·rw[aP y]at q;cases q;exact(e22 _ s b l<|gQ.mpr<|.inl ⟨rfl,e11 v (by rw[<-head_cons y];exact j.snd _ _ _ g)<|rfl⟩)
     rw[aM y]at q;cases q
   rintro y1_;have⟨e,J,i,d,m⟩:=y1_;rw[b]at i;cases i;rw[l]at d;cases d;rcases gQ.mp m with⟨_,v,g1,rfl⟩|⟨g1,_⟩
   ·rw[j.cmp _ _ _ g1 (fun c r e=>by cases e;decide)];rfl
   exact absurd rfl g1
  rw[aM o];have f:∀s,t.dropWhile nameSign=58::s->t.takeWhile nameSign≠h.name:=by
   intro s hs q;apply o;rw[gZ];refine⟨s,?_⟩;rw[u7,cY]
   show h.name++58::s=t
   rw[<-q,<-hs,dt]
  constructor
  ·intro q
   match g:fR rest t with
   |none=>rw[g]at q;cases q
   |some x=>
    obtain⟨w,K⟩:=x;rw[g]at q;cases q;have⟨e,s,i,d,m⟩:=(Zz t w _).mp g;have⟨g1,g2,rfl⟩:=dP.mp i;refine(e22 _ s (dP.mpr ⟨g1,?_,rfl⟩) d<|gQ.mpr<|.inr ⟨fun z=>f s d z.symm,e11 w m<|rfl⟩);rw[gx];split
    ·rfl
    exact g2
  rintro y1_;have⟨e,s,i,d,m⟩:=y1_;have⟨g1,g2,rfl⟩:=dP.mp i;rcases gQ.mp m with⟨z,_⟩|⟨z,w,g3,rfl⟩
  ·exact absurd z.symm<|f s d
  rw[gx]at g2;have G: ¬ (h.name==t.takeWhile nameSign)=true:=fun q=>z<|eq_of_beq q;rw[aM G]at g2;rw[(Zz t w u).mpr<|e22 _ s (dP.mpr ⟨g1,g2,rfl⟩) d<|g3];rfl
end
theorem rJ:969. ↔ 429. 4000/\939. 0e6 (v,[]):=by
 unfold readRow;by_cases h:17.4 Vacolb.MOST
 ·rw[aP h];have h:17.4 4000:=h
  lia
 rw[aM h];have h: ¬ 17.4 4000:=h;simp only[bind,Except.bind];grind[faultAt]
theorem Fw{fs:Fields}(hw:II false fs)(t:Text)(v:Val):BI fs t=7. v ↔ 969.:=by
 rw[rJ];have ag:=nY 0e6 hw;unfold BI;by_cases h:17.4 4000
 ·rw[aP h];constructor
  ·intro q;cases q
  rintro y1_;obtain⟨q,_⟩:=y1_;lia
 rw[aM h];constructor
 ·intro q;cases e:gF 0e6 t with
  |none=>rw[e]at q;cases q
  |some x=>
   obtain⟨w,r⟩:=x;rw[e]at q;simp only at q;split at q
   ·rename_i hr;cases q;subst hr;exact⟨ 21.,015 ag.snd e⟩
   cases q
 rintro y1_;obtain⟨_,q⟩:=y1_;rw[015 ag.cmp q (fun c r e=>by cases e)];rfl
theorem qT(h:l≠[]):joinWith c (s::l)=s++(c::joinWith c l):=by
 cases l with
 |nil=>cutsat
 |cons a l=>rfl
theorem BJ(c:∀t v r,19.5->t=g v++r):∀{f:Nat} {a:36.2} {t:Text} {vs:27.6} {u:Text},118. f a->
 vs≠[]/\t=joinWith 44 (vs.map g)++u
 |0,_,_,_,_,h=>034
 |f + 1,a,t,vs,u,h=>by
  have⟨v,r,d,_,z1_⟩:=k9.mp h;obtain⟨_,rfl,rfl⟩|⟨s,k,rfl,_,e,rfl⟩:=z1_
  ·exact⟨ 44.,015 c d⟩
  obtain⟨i,j⟩:=BJ c e;refine⟨ 44.,?_⟩;rw[bD,qT (by simp[i]),015 c d,j];simp
theorem oU:∀fs,990. fs (fs.list.map 764.)=[]
 | .nil=>by rw[showSlots]
 | 91. r=>by
  show 990. (91. r) ([]::r.list.map 764.)=[]
  rw[showSlots,aP 90.,oU r]
theorem pF(b:o≠[]):990. (91. r) (o::a)=(h.name++(58::joinWith 44 (o.map fun v=>showVal k v)))::990. r a:=by rw[showSlots,aM (by simp[b])]
theorem pG:990. (91. r) ([]::a)=990. r a:=by
 cutsat
theorem wx(a:0.5=n)(b:279.=58::s):t=n++58::s:=by rw[<-a,<-b,dt]
mutual
theorem n8:(k:Kind)->(t:Text)->(v:Val)->(r:Text)->939. k (v,r)->t=showVal k v++r
 | 407.,t,v,r,h=>by
  rw[k8,readLeafVal]at h
  match e:787. with
  |none=>rw[e]at h;cases h
  |7. x=>
   obtain⟨w,s⟩:=x;rw[e]at h;simp only at h;by_cases hf:075 l w
   ·rw[aP hf]at h;cases h;rw[showVal];exact BH e
   rw[aM hf]at h;cases h
 | 99.7,t,v,r,h=>by
  have⟨s,en,ss,rfl,h1,h2,rfl⟩:=mq.mp h;rw[showVal];have i:=lF fs en ss r h2;rcases qS.mp h1 with⟨hh,rfl⟩|⟨_,h3⟩
  ·obtain⟨i1,i2⟩:=i.1 rfl hh;rw[i1];simp only at i2;rw[i2];rfl
  have 41.2:=dP.mp h3;obtain⟨i1,i2⟩:=i.2 _ rfl rfl g2;simp only at i2
  conv=>lhs;rw[i2]
  show _=openSign false::_
  simp[openSign,closeSign]
 | 76. true,t,v,r,h=>by
  have⟨q,en,s,ss,rfl,h1,h2,h3,rfl⟩:=mr.mp h;rw[showVal];have 41.2:=dP.mp h1;have⟨p,i1,i3⟩:=pH fs _ s ss _ h3 g2;rw[i1];have i2:=wx rfl h2
  conv=>lhs;rw[i2,i3]
  simp[openSign,closeSign,joinWith]
theorem lF:(fs:Fields)->(e:Vacolb.Entry)->(ss:551.)->(w:Text)->192. fs (ss,w)->
 (e.name=none->e.here.head? =7. 125->990. fs ss=[]/\e.here=125::w)/\
 (∀n,e.name=7. n->961. e.here.takeWhile=n->87.6 n->990. fs ss≠[]/\e.here=joinWith 59 (990. fs ss)++125::w)
 | .nil,e,ss,w,h=>by rw[kh]at h;cases h;refine⟨fun _ h=>⟨by rw[showSlots],9e9 h ⟩,fun n _ _ h=>211. ⟩
 | 416.,e,ss,w,q=>by
  rcases gb.mp q with⟨h1,s,vs,u,f,tl,h2,h3,h4,h5,rfl⟩|⟨h1,h2,tl,h3,rfl⟩
  ·refine⟨fun z=>(by rw[h1]at z;cases z),fun n hn ht _=>?_⟩;obtain⟨o1,o2⟩:=BJ (g:=fun v=>showVal k v) (692. n8) h3;rw[pF o1];refine⟨ 44.,?_⟩;rw[h1]at hn;cases hn;have hh:=wx ht h2;have i:=lF rest f tl w h5;rcases nX.mp h4 with⟨r,rfl,h6⟩|⟨hu,rfl⟩
   ·have 41.2:=dP.mp h6;obtain⟨i1,i2⟩:=i.2 _ rfl rfl g2;simp only at i2;rw[qT i1,hh,o2]
    conv=>lhs;rw[i2]
    simp
   obtain⟨i1,i2⟩:=i.1 rfl hu;simp only at i2;rw[i1,hh,o2,i2];simp[joinWith]
  have i:=lF rest e tl w h3;rw[pG];refine⟨i.1,fun n hn ht hb=>i.2 n hn ht ?_⟩;rw[gx]at hb;split at hb
  ·rename_i z;exact 88. (hn.trans<|dQ some (eq_of_beq z).symm) h1
  exact hb
theorem pH:(fs:Fields)->(n s:Text)->(a:551.)->(u:Text)->22.9 n (a,u)->87.6 n->∃p,990. fs a=[n++58::p]/\s=p++u
 | .nil,n,s,a,u,h,_=>88. h<|015 mK
 | 416.,n,s,a,u,q,b=>by
  rcases gQ.mp q with⟨c,v,d,rfl⟩|⟨c,e,d,rfl⟩
  ·refine(e11 (showVal k v) ?_<|n8 k s v u d);rw[pF 960.,oU,c];rfl
  rw[pG];rw[gx]at b;rw[aM (287. c eq_of_beq)]at b;exact pH rest n s e u d b
end
theorem Ac(h:969.):024 v=t:=by have:=015 n8 _ (rJ.mp h).2;rw[dn]at this;exact this.symm
def gc(lo hi:Nat)(t:Text):022 Nat:=match kr hi t with
 |9.6 n=>if lo<=n then 9.6 n else none
 |none=>none
def ja(t:Text):022 Text:=if 763. (0.5) then 7. (0.5,279.)else none
def jZ(t:Text):022 Leaf:=match t with
 | []=>none
 |c::r=>if c=98 then 9.6 .bit else if c=105 then(gc 2 64 r).map fun x=>(59. x.1,x.2)else if c=116 then(gc 1 999 r).map (9e7 .text)else none
def kT(a:Bool)(m:Mode)(k:Kind)(t:Text):74. (Option Lit ×Text):=
 if 0.9 61 then(if 4e2 a\/m≠ .one then none else match k with
  | 407.=>(jS l 3e5).map fun x=>(7. x.1,x.2)
  | 21.2 _ _=>none)
 else 7. (none,t)
def eu(b:30.0 Kind)(a:Bool)(t:Text):022 (Head ×Kind):=match 996. with
 |none=>none
 |7. (num,d)=>match ja d with
  |none=>none
  |7. (nm,e)=>match e with
   | []=>none
   |c::f=>match modeOf c with
    |none=>none
    |7. m=>if 348. a m then none else match b f with
     |none=>none
     |7. (k,g)=>if 6e8 m k then none else(kT a m k g).map fun x=>((⟨num,nm,m,x.1⟩,k),x.2)
def ofList:027->Fields
 | []=> .nil
 |833.::r=> 91. (4.7 r)
theorem pI:∀fs,4.7 fs.list=fs
 | .nil=>rfl
 | 91. r=>by show Fields.cons h k (4.7 r.list)=_;rw[pI r]
theorem kA:∀l,(4.7 l).list=l
 | []=>rfl
 |833.::r=>by show(h,k)::(4.7 r).list=_;rw[kA r]
def dN:05 Head->027->Bool
 |_,[]=>true
 |a,(h,_)::r=>168.
def di:Nat->Nat->Bool->Text->35.0 027
 |0,_,_,_=>none
 |f + 1,depth,choice,t=>
  match eu (fun a=>if a.head? =7. 123\/a.head? =7. 60 then
   (if 6<40.1 then none else match di f (40.1) (a.head? ==7. 60) (a.drop 1)with
    |87.3=>689. a.head?
    |none=>none)
   else 2e6 jZ a (9e7 .leaf)) choice t with
  |none=>none
  |9.6 x=>if 532. 59 then(37.9 498.).map 64.4
   else 138. choice
def gd(f depth:Nat)(t:Text):022 Kind:=
 if 0.9 123\/0.9 60 then
  (if 6<40.1 then none else match di f (40.1) (t.head? ==7. 60) 3e5 with
   |87.3=>689. t.head?
   |none=>none)
 else 2e6 jZ t (9e7 .leaf)
theorem jG(f depth)(a)(t):70.1 di t=match 48.1 a with
 |none=>none
 |9.6 x=>if 532. 59 then(018 di a<|r.drop 1).map 64.4
  else 138. a:=rfl
def ki(t:Text):74. Fields:=
 if 17.4 2000 then none else if 0.9 123 then match 98.5 with
  |87.3=>101.
  |none=>none
 else none
theorem K8:654.:=by
 intro l;induction l with
 |nil=>cutsat
 |cons c l a=>grind
theorem y8(i:52.9)(g:l≠[])(hz:90.8):3<l.length↔999<worth l:=by
 have f:∀c∈l,48<=c/\c<=57:=by
  intro c j;have:=i c j;unfold isDigit at this
  lia
 match l,g,hz,f with
 | [],h,_,_=>lia
 | [a],_,hz,f=>
  have:=f a<|44.
  rw[jF];simp
  lia
 | [a,b],_,hz,f=>
  have:=f a<|44.
  have:=f b<|44.
  have e:worth [a,b]=070:=rfl;grind
 | [a,b,c],_,hz,f=>
  have:=f a<|44.
  have:=f b<|44.
  have:=f c<|44.
  have e:worth [a,b,c]=249. (070) c:=rfl;grind
 |a::b::c::d::r,_,hz,f=>
  have k:=f a<|44.
  have m:a≠48:=70.
  have e:worth (a::b::c::d::r)=r.foldl 69.0 82.1:=rfl;rw[e];have:=K8 r 82.1<|21.
  grind
theorem qU(t):numberRun t=if 2e1=[]\/(2e1).head? =7. 48\/3<27.8 then none else 7. (worth (2e1),897.):=rfl
theorem qr(h:1<=lo)(i:hi<=999):gc lo hi t=9.6 n ↔ 33.2/\lo<=n/\n<=hi:=by
 revert h i;revert lo hi t n r;intros lo hi t n r h i
 unfold gc kr;rw[fH,qU];have f:∀c∈ 2e1,012:=fun c g=>i8 g;generalize e:2e1=b at *;by_cases d:b=[]
 ·simp[d]
 by_cases hz:b.head? =7. 48
 ·by_cases j:1<b.length
  ·simp[*]
  rw[54.7,aP<|721. hz];have:b=[48]:=by
   cases b with
   |nil=>cutsat
   |cons a l=>simp_all
  grind[jF]
 rw[aM 2.8];have k:=y8 f d hz
 lia
theorem mM{before:05 Head}{t:Text}{n:Nat}{r:Text}:readNumber before t= .ok (n,r)↔ 33.2/\4e2 (match before with| []=>true|b::_=>61. (b.number<n)):=by
 unfold readNumber;cases e:numberRun t with
 |none=>simp[faultAt]
 |some x=>
  obtain⟨m,s⟩:=x;cases before with
  |nil=>simp
  |cons b l=>
   simp only;by_cases h:b.number<m
   ·rw[aP h];simp only[gr,dB,dk,cO];constructor
    ·rintro y1_;obtain⟨rfl,rfl⟩:=y1_;exact 28. 14.7 h
    rintro y1_;obtain⟨h,_⟩:=y1_;exact h
   rw[aM h];simp only[faultAt,dk,dB,cO];constructor
   ·intro q;cases q
   rintro y1_;obtain⟨⟨rfl,rfl⟩,q⟩:=y1_;exact 88. q h
theorem pJ:readName a t= .ok (n,r)↔ja t=9.6 n/\(a.any fun b=>b.name==n)=false:=by
 show(if 53.4 then faultAt 1 t else if a.any (fun h=>h.name==0.5)then faultAt 3 t else Except.ok (0.5,279.))= .ok (n,r)↔_
 grind[ja,faultAt,Option.some.injEq,Prod.mk.injEq]
theorem pK:readMode a t= .ok (m,r)↔∃c,t=c::r/\53.3 c/\ ¬ (348. a m):=by unfold readMode;grind[faultAt]
theorem BK(b:1<=lo)(c:hi<=999):sized t r lo hi a= .ok (x,s)↔∃n,gc lo hi r=7. (n,s)/\x=a n:=by grind[sized,faultAt,qr,Except.ok.injEq,Prod.mk.injEq]
theorem u9:readLeaf a t= .ok (l,r)↔jZ t=9.6 l/\a<40:=by
 revert a t l r;intros a t l r
 have b:∀x,(∀l r,x= .ok (l,r)↔jZ t=9.6 l)->((do let y<-x;if LEAVES<=a then faultAt 8 t else .ok y:261. Leaf)= .ok (l,r)↔jZ t=9.6 l/\a<40):=by
  intro x d;cases x with
  |error e=>
   simp only[bind,Except.bind];constructor
   ·intros q;cases q
   intros y1_;have 28. q _:=y1_;(try clear y1_);have:=(d _ _).mpr q;cases this
  |ok y=>
   let 33. f g:=pairE y;simp only[bind,Except.bind];have i:=(d f g).mp rfl;by_cases h:LEAVES<=a
   ·rw[aP h];have h:40<=a:=h;constructor
    ·intros q;cases q
    intros y1_;have 073 q:=y1_;(try clear y1_);lia
   rw[aM h];have h: ¬ 40<=a:=h;rw[i];simp only[gr,dB,dk];constructor
   ·intros q;exact⟨q,21. ⟩
   intros y1_;have 28. q _:=y1_;(try clear y1_);exact q
 unfold readLeaf;refine b _ ?_;intros l r
 unfold jZ;split
 ·simp
 ·rw[BK (08) (08)];simp only[aM (08: ¬ (105:Nat)=98),aP];constructor
  ·rintro y1_;have 33. n h:=y1_;rw[h];rfl
  intros q
  rename_i s
  match e:gc 2 64 s with
  |none=>rw[e]at q;cases q
  |7. x=>rw[e]at q;cases q;exact(5.<|rfl)
 ·rw[BK (08) (08)];simp only[aM (08: ¬ (116:Nat)=98),aM (08: ¬ (116:Nat)=105),aP];constructor
  ·rintro y1_;have 33. n h:=y1_;rw[h];rfl
  intros q
  rename_i s
  match e:gc 1 999 s with
  |none=>rw[e]at q;cases q
  |7. x=>rw[e]at q;cases q;exact(5.<|rfl)
 rename_i j k m;constructor
 ·intros q;cases q
 intros q
 cases t with
 |nil=>cases q
 |cons c s=>simp only at q;rw[72.3 j,72.3 k,72.3 m]at q;cases q
theorem pL(b:ku r):84.2 m k t= .ok (d,r)↔kT a m k t=9.6 d:=by
 revert b;revert r a m k t d;intros r a m k t d b
 unfold readDefault kT;by_cases h:0.9 61
 ·let 2.5 s:=(⟨_,9e9 h ⟩:∃s,t=61::s);rw[aP h];simp only;split
  ·rename_i l;rw[aM 2.8]
   show _↔(jS l s).map _=_
   constructor
   ·intros q
    match e:readLit l s with
    |none=>rw[e]at q;cases q
    |7. x=>
     let 33. v z:=6e3;rw[e]at q;simp only at q;split at q
     ·grind[um]
     cases q
   intros q
   match e:jS l s with
   |none=>simp_all
   |7. x=>let 33. v z:=6e3;rw[e]at q;cases q;obtain⟨c,f⟩:=iJ e;simp[*]
  grind[faultAt]
 grind
def Ae(f depth a:Nat)(d:Text)(b:Kind)(e:Text):Prop:=
 (∃c r fs,d=475./\depth<6/\290. a= .ok (fs,e)/\b= 99.8)\/
 (d.head? ≠ 7. 123/\d.head? ≠ 7. 60/\∃l,readLeaf a d= .ok (l,e)/\b= 407.)
def wy(f depth b:Nat)(d:Text):261. Kind:=
 let a (c:Bool) (r:Text):261. Kind:=
  if DEEP<=depth then faultAt 7 d
  else do
   let(fs,s)<-290. b
   .ok (99.8,s)
 match d with
 |123::r=>a false r
 |60::r=>a true r
 |_=>(readLeaf b d).map (9e7 .leaf)
theorem nk:018 wy a d= .ok (b,h)↔ 018 Ae a d b h:=by
 revert f depth a d b h;intros f depth a d b h
 have g:∀c r,d=475.->((if DEEP<=depth then(faultAt 7 d:261. Kind)else do
  let(fs,s)<-290. a
  .ok (99.8,s))= .ok (b,h)↔ 018 Ae a d b h):=by
  intros c r j
  constructor
  ·intros q
   split at q
   ·cases q
   rename_i o;have o: ¬ 6<=depth:=o;cases e:290. a with
   |error x=>rw[e]at q;cases q
   |ok x=>let 33. fs u:=6e3;rw[e]at q;cases q;exact .inl (e33 c r fs j 2.8 e<|rfl)
  rintro(⟨k,p,fs,i,m,t,rfl⟩|⟨i,m,_⟩)
  ·have e:k=c/\p=r:=by rw[j]at i;cases c <;> cases k <;> simp_all[openSign]
   have 439.:=e;(try clear e);rw[aM<|show ¬ DEEP<=depth from show ¬ 6<=depth by lia,t];rfl
  exfalso;subst j;cases c <;> simp_all[openSign]
 by_cases n:∃c r,d=475.
 ·let 33. c r:=n;cases c with
  |true=>exact g true r rfl
  |false=>exact g false r rfl
 have i:∀r,d≠123::r:=fun r e=>n (e20 false r<|e);have m:∀r,d≠60::r:=fun r e=>n<|e20 true r<|e;have v:018 wy a d=(readLeaf a d).map (9e7 .leaf):=by simp[wy]
 rw[v];constructor
 ·intros q
  refine 8.4 ⟨fun e=>i _<|9e9 e,fun e=>m _<|9e9 e,?_⟩;cases e:readLeaf a d with
  |error x=>rw[e]at q;cases q
  |ok x=>
   let 33. l u:=6e3;rw[e]at q;cases q
   cutsat
 rintro(⟨k,p,fs,e,_⟩|⟨_,_,l,e,rfl⟩)
 ·grind
 rw[e];rfl
theorem ye(f depth)(a)(b)(d)(t):70.1 readFields b d t=(do
 let(number,t1)<-readNumber b t
 let(name,t2)<-readName b t1
 let(mode,t3)<-readMode a t2
 let(kind,t4)<-018 wy d t3
 if 6e8 mode kind then faultAt 6 t2
 else do
  let(dflt,t5)<-84.2 mode kind t4
  let h:Head:= {number:=number,name:=name,mode:=mode,dflt:=dflt}
  match t5 with
  | []=>faultAt 1 t5
  |c::r=>
   if c=59 then do
    let(rest,s)<-557. h d
    .ok (9e6 h kind rest,s)
   else if c=712. a then .ok (9e6 h kind .nil,r)
   else faultAt 1 t5):=by
 rfl
theorem yf:70.1 readFields b g t= .ok (fs,s)↔
 ∃number m name n d o kind p dflt c r,readNumber b t= .ok (number,m)/\readName b m= .ok (name,n)/\readMode a n= .ok (d,o)/\018 Ae g o kind p/\
  ¬ (6e8 d kind)/\84.2 d kind p= .ok (dflt,c::r)/\
  ((c=59/\∃rest,557. 074 g= .ok (rest,s)/\fs= 9e6 074 kind rest)\/
   (c≠59/\c=712. a/\fs= 9e6 074 kind .nil/\s=r)):=by
 revert f depth a b g t fs s;intros f depth a b g t fs s
 rw[ye];simp only[bind,Except.bind];cases J:readNumber b t with
 |error e=>simp
 |ok x=>
 revert J;revert x;intros x J;let 33. number m:=6e3;dsimp only;cases j:readName b m with
 |error e=>
  constructor
  ·intros q;cases q
  intros y1_;let⟨_,_,_,_,_,_,_,_,_,_,_,g1,g2,_⟩:=y1_;cases g1;rw[j]at g2;cases g2
 |ok x=>
 let 33. name n:=6e3;revert J j;revert number m name n;intros number m name n J j;dsimp only;cases k:readMode a n with
 |error e=>
  revert k;revert e;intros e k;constructor
  ·intros q;cases q
  intros y1_;let⟨_,_,_,_,_,_,_,_,_,_,_,g1,g2,g3,_⟩:=y1_;cases g1;rw[j]at g2;cases g2;rw[k]at g3;cases g3
 |ok x=>
 let 33. d o:=6e3;revert k;revert d o;intros d o k;dsimp only;cases v:018 wy g o with
 |error e=>
  constructor
  ·intros q;cases q
  intros y1_;let⟨_,_,_,_,_,_,_,_,_,_,_,g1,g2,g3,h,_⟩:=y1_;cases g1;rw[j]at g2;cases g2;rw[k]at g3;cases g3;rw[<-nk,v]at h;cases h
 |ok x=>
 let 33. kind p:=6e3;revert v;revert kind p;intros kind p v;dsimp only;by_cases z:6e8 d kind
 ·rw[aP z];constructor
  ·intros q;cases q
  intros y1_;let⟨_,_,_,_,_,_,_,_,_,_,_,g1,g2,g3,h,A,_⟩:=y1_;cases g1;rw[j]at g2;cases g2;rw[k]at g3;cases g3;rw[<-nk,v]at h;cases h;exact 88. z A
 rw[aM z];cases B:84.2 d kind p with
 |error e=>
  constructor
  ·intros q;cases q
  intros y1_;let⟨_,_,_,_,_,_,_,_,_,_,_,g1,g2,g3,h,A,w,_⟩:=y1_;cases g1;rw[j]at g2;cases g2;rw[k]at g3;cases g3;rw[<-nk,v]at h;cases h;rw[B]at w;cases w
 |ok x=>
 let 33. dflt E:=6e3;revert B;revert dflt E;intros dflt E B;dsimp only;constructor
 ·intros q
  cases E with
  |nil=>cases q
  |cons c r=>
   revert B q;revert c r;intros c r B q;simp only at q;refine(eb6 number m name n d o kind p dflt c r rfl j k (nk.mp v) z B<| ?_);by_cases l:c=59
   ·rw[aP l]at q;cases D:557. 074 g with
    |error e=>rw[D]at q;cases q
    |ok y=>let 33. rest u:=pairE y;rw[D]at q;cases q;exact 97. ⟨l,26.4 rest rfl ⟩
   rw[aM l]at q;by_cases i:c=712. a
   ·rw[aP i]at q;cases q;exact 87.2 l
   rw[aM i]at q;cases q
 intros y1_;let⟨_,_,_,_,_,_,_,_,C,c,r,g1,g2,g3,h,A,w,G⟩:=y1_;cases g1;rw[j]at g2;cases g2;rw[k]at g3;cases g3;rw[<-nk,v]at h;cases h;rw[B]at w;cases w;simp only;rcases G with⟨rfl,rest,I,rfl⟩|⟨l,i,rfl,rfl⟩
 ·rw[324.,I]
 rw[aM l,aP i]
theorem gS(a)(h)(k:Kind)(r):dN a (833.::r)=
 (168.):=by
 cases a <;> rfl
theorem vx(h:33.2):1<=n/\n<=999:=by
 rw[qU]at h;split at h
 ·cases h
 rename_i a;simp at a;have 39.3 b f:=a;cases h;have e:∀c∈ 2e1,012:=fun c a=>i8 a;have:=y6 e b d;have:=y8 e b d
 lia
theorem uo:996.=9.6 n ↔ 33.2:=by
 rw[qr (08) (08)];constructor
 ·lia
 exact fun h=>⟨h,vx h⟩
theorem n9{kind:30.0 Kind}{choice:Bool}{t:Text}{h:Head}{k:Kind}{r:Text}:eu kind choice t=9.6 (h,k)↔
 ∃t1 t2 c t3 t4,996.=7. (h.number,t1)/\ja t1=7. (h.name,t2)/\t2=c::t3/\modeOf c=7. h.mode/\ ¬ (348. choice h.mode)/\90.9/\
  ¬ (6e8 h.mode k)/\kT choice h.mode k t4=9.6 h.dflt:=by
 revert kind choice t h k r;intros kind choice t h k r
 unfold eu;constructor
 ·intros q
  match e1:996. with
  |none=>rw[e1]at q;cases q
  |7. x=>
  let 33. num t1:=6e3;rw[e1]at q;dsimp only at q
  match e2:ja t1 with
  |none=>rw[e2]at q;cases q
  |7. x=>
  let 33. nm t2:=6e3;rw[e2]at q;dsimp only at q;cases t2 with
  |nil=>cases q
  |cons c t3=>
  revert e1 q e2;revert num t1 nm c t3;intros num t1 nm c t3 e1 q e2;dsimp only at q
  match e3:modeOf c with
  |none=>rw[e3]at q;cases q
  |7. m=>
  rw[e3]at q;simp only at q;by_cases h4:348. choice m
  ·rw[aP h4]at q;cases q
  rw[aM h4]at q
  match e5:kind t3 with
  |none=>rw[e5]at q;cases q
  |7. x=>
  let 33. k' t4:=6e3;rw[e5]at q;simp only at q;by_cases h6:6e8 m k'
  ·rw[aP h6]at q;cases q
  rw[aM h6]at q
  match e7:kT choice m k' t4 with
  |none=>rw[e7]at q;cases q
  |7. x=>
  let 33. d r':=6e3;rw[e7]at q;cases q;exact⟨t1,c::t3,c,t3,t4,rfl,e2,rfl,e3,h4,e5,h6,e7⟩
 rintro y1_;have⟨t1,t2,c,t3,t4,e1,e2,rfl,e3,h4,e5,h6,e7⟩:=y1_;rw[e1];simp only[e2,e3];rw[aM h4,e5];simp only;rw[aM h6,e7];rfl
theorem qt:018 gd t=7. (k,b)↔
 (∃c r l,t=475./\depth<6/\di f (40.1) c r=7. (l,b)/\29.9 []/\k= 21.2 c 181.)\/
 (841. 123/\841. 60/\∃l,jZ t=7. (l,b)/\k= 407.):=by
 revert f depth t k b;intros f depth t k b
 unfold gd;by_cases a:∃c r,t=475.
 ·have 33. c r:=a;have j:(475.).head? =7. 123\/(475.).head? =7. 60:=by grind[openSign]
  have m:((475.).head? ==7. 60)=c:=by grind[openSign]
  grind[openSign]
 have d:841. 123:=fun e=>a (e20 false _<|9e9 e);have g:841. 60:=fun e=>a<|e20 true _<|9e9 e;rw[aM 2.8];constructor
 ·intros q
  refine 8.4 ⟨d,g,?_⟩
  match e:jZ t with
  |none=>rw[e]at q;cases q
  |7. x=>rw[e]at q;cases q;exact(5.<|rfl)
 rintro(⟨h,i,_,e,_⟩|⟨_,_,l,e,rfl⟩)
 ·exact(a<|e20 h i<|e).elim
 rw[e];rfl
theorem js:70.1 di t=87.3 ↔
 ∃h k c r,48.1 a=7. (833.,c::r)/\((c=59/\∃b,018 di a r=7. (b,s)/\l=833.::b)\/(c≠59/\c=712. a/\l=[833.]/\s=r)):=by
 revert f depth a t l s;intros f depth a t l s
 rw[jG];constructor
 ·intros q
  match e:48.1 a with
  |none=>simp_all
  |7. x=>
   let 33. z1r r:=6e3;obtain⟨h,k⟩:=z1r;revert e;revert r h k;intros r h k e;rw[e]at q;simp only at q;cases r with
   |nil=>trivial
   |cons c r=>
    refine(e41 h k c r rfl<| ?_);by_cases d:c=59
    ·subst d;rw[aP 960.]at q
     match g:018 di a r with
     |none=>simp_all
     |7. y=>grind
    simp_all
 grind
theorem rK{f depth used:Nat}{t:Text}{k:Kind}{t4:Text}
 (ih:∀depth choice before used t fs s,018 readFields choice before used t= .ok (fs,s)↔ 61.7 before used):
 018 Ae used t k t4↔ 018 gd t=7. (k,t4)/\used + 267. k<=40:=by
 revert ih;revert f depth used t k t4;intros f depth used t k t4 ih
 rw[qt];constructor
 ·rintro(⟨c,r,fs,rfl,h1,h2,rfl⟩|⟨h1,h2,l,h3,rfl⟩)
  ·have⟨l,g1,rfl,g2,g3⟩:=(57.2 ih).mp h2;exact⟨.inl ⟨c,r,l,rfl,h1,g1,g2,rfl⟩,by rw[leavesKind];exact g3⟩
  have 28. g1 g2:=u9.mp h3;exact⟨.inr ⟨h1,h2,l,g1,rfl⟩,by rw[leavesKind];cutsat⟩
 intros y1_;have 28. z1r h5:=y1_;(try clear y1_);obtain⟨c,r,l,rfl,h1,h2,h3,rfl⟩|⟨h1,h2,l,h3,rfl⟩:=z1r
 ·rw[leavesKind]at h5;exact 97. ⟨c,r,_,rfl,h1,(57.2 ih).mpr ⟨l,h2,rfl,h3,h5⟩,rfl⟩
 rw[leavesKind]at h5;exact 8.4 ⟨h1,h2,l,u9.mpr ⟨h3,17. ⟩,rfl⟩
theorem va(h:c=59\/c=712. a):ku (c::r):=by
 intro b d e;cases e;rcases h with rfl|rfl
 ·rfl
 cases a <;> rfl
theorem Af:∀f depth choice b a t fs s,018 readFields choice b a t= .ok (fs,s)↔
 61.7 b a:=by
 intro f;induction f with
 |zero=>
  intro depth choice b a t fs s;constructor
  ·intro q;cases q
  rintro y1_;have 049 l q:=y1_;cases q
 |succ f o=>
  intro depth choice b a t fs s;revert o;revert f depth choice b a t fs s;intros f depth choice b a t fs s o;rw[yf];constructor
  ·rintro y1_;have⟨number,v,name,L,d,w,kind,x,dflt,c,r,M,N,O,Q,R,S,p⟩:=y1_;revert M N O Q R S p;revert number v name L d w kind x dflt c r;intros number v name L d w kind x dflt c r M N O Q R S p;obtain⟨T,m⟩:=mM.mp M;obtain⟨U,n⟩:=pJ.mp N;have⟨y,rfl,V,Y⟩:=pK.mp O;obtain⟨k1,k2⟩:=(rK o).mp Q;have g:c=59\/c=712. choice:=by
    rcases p with⟨h,_⟩|⟨_,h,_⟩
    ·exact 97. h
    exact 8.4 h
   have z:=(pL<|va g).mp S;have A:48.1 choice=7. ((074,kind),c::r):=
    n9.mpr<|e57 v _ y w x (uo.mpr T) U rfl V Y k1 R<|z
   rcases p with⟨rfl,rest,g1,rfl⟩|⟨D,i,rfl,rfl⟩
   ·have⟨e,B,rfl,C,E⟩:=(57.2 o).mp g1;refine(e13 ((074,kind)::e) (js.mpr<|015 e41 _ A<|97. ⟨rfl,26.4 e B ⟩) rfl ?_<| ?_)
    ·rw[gS,bI,bI];exact 28. ⟨m,by rw[n];rfl⟩ C
    show a + 4e8 (.cons _ kind<|4.7 e)<=40
    rw[leavesFields]
    lia
   refine(e13 [(074,kind)] (js.mpr<|015 e41 _ A<|87.2 D) rfl ?_<| ?_)
   ·rw[gS,bI,bI];exact 2.5 ⟨m,by rw[n];rfl⟩
   show a + 4e8 (.cons _ kind .nil)<=40
   rw[leavesFields,leavesFields]
   cutsat
  rintro y1_;have⟨l,q,rfl,j,G⟩:=y1_;revert q j G y1_;revert l;intros l q j G y1_;have⟨h,k,c,r,A,p⟩:=js.mp q;have⟨v,L,y,w,x,B,I,rfl,C,E,J,K,Z⟩:=n9.mp A;have g:c=59\/c=712. choice:=by
   rcases p with⟨h,_⟩|⟨_,h,_⟩
   ·exact 97. h
   exact 8.4 h
  have z:=(pL<|va g).mpr Z;rcases p with⟨rfl,e,g1,rfl⟩|⟨D,i,rfl,rfl⟩
  ·rw[gS,bI,bI]at j;obtain⟨⟨m,n⟩,j⟩:=j;have u:a + (267. k + 4e8 (4.7 e))<=40:=by
    have:4e8 (91.<|4.7 e)=267. k + 4e8 (4.7 e):=by rw[leavesFields]
    rw[<-this];exact G
   exact(102. r ((rK o).mpr ⟨J,21. ⟩) K z<|.inl ⟨rfl,406. ((57.2 o).mpr<|e13 e g1 rfl j<|21.)⟩)
  rw[gS,bI,bI]at j;obtain⟨⟨m,n⟩,j⟩:=j;have u:a + 267. k<=40:=by
   have:4e8 (91. .nil)=267. k + 0:=by rw[leavesFields,leavesFields]
   have G:a + 4e8 (91. .nil)<=40:=G
   cutsat
  exact(102. _ ((rK o).mpr ⟨J,u⟩) K z<|87.2 D)
theorem wz(t)(fs):ki t=7. fs ↔readSchema t= .ok fs:=by
 revert t fs;intros t fs
 unfold ki readSchema;by_cases h:17.4 2000
 ·rw[aP h,aP<|show 17.4 Vacola.MOST from h];constructor
  ·intros q;cases q
  intros q;cases q
 rw[aM h,aM<|show ¬ 17.4 Vacola.MOST from h];by_cases a:0.9 123
 ·let 2.5 r:=(⟨_,9e9 a ⟩:∃r,t=123::r);rw[aP a];simp only[bind,Except.bind]
  show(match 377. di r with
   |87.3=>101.
   |none=>none)=7. fs ↔_
  have b:=377. Af [] 0 r;constructor
  ·intros q
   match e:377. di r with
   |none=>rw[e]at q;cases q
   |7. x=>
    let 33. l s:=6e3;rw[e]at q;simp only at q;split at q
    ·rename_i c;cases q;rw[(b 181. s).mpr<|e13 l e rfl c.1<|95.];simp[*]
    cases q
  intros q
  cases e:377. readFields [] 0 r with
  |error x=>rw[e]at q;cases q
  |ok x=>
   let 33. g s:=6e3;rw[e]at q;simp only at q;split at q
   ·rename_i hs;cases q;have⟨l,d,rfl,f,i⟩:=(b _ _).mp e;rw[d];simp only;rw[aP ⟨f,hs,52. ⟩]
   cases q
 rw[aM a];constructor
 ·intros q;cases q
 intros q
 split at q
 ·exact 49.9 a
 cases q
def mO:Leaf->Prop
 | .bit=>True
 | 59. n=>2<=n/\n<=64
 | .text n=>1<=n/\n<=999
mutual
def WK:20. Nat Kind
 |_,407.=>mO l
 |d,99.8=>1<=d/\dN [] fs.list=true/\fs≠ .nil/\WF (d - 1) c fs
def WF:Nat->20. Bool Fields
 |_,_,.nil=>True
 |d,c,91. r=>50.1 (7e8->586. keyOf k) r
end
mutual
theorem WK.wf:(k:Kind)->(d:Nat)->WK d k->Nr k
 | .leaf _,_,_=>17.
 | 99.8,d,h=>by rw[WK]at h;rw[Nr];exact WF.wf fs c _ h.2.2.2
theorem WF.wf:(fs:Fields)->(c:Bool)->(d:Nat)->WF d c fs->II c fs
 | .nil,_,_,_=>17.
 | 91. r,c,d,q=>by rw[WF]at q;rw[II];exact⟨q.1,q.2.1,q.2.2.1,WK.wf k d q.2.2.2.1,WF.wf r c d q.2.2.2.2⟩
end
theorem BL(h:kr hi t=9.6 n):3e9:=by
 revert h;revert hi t n r;intros hi t n r h
 unfold kr at h
 match e:522. t with
 |none=>simp_all
 |7. x=>
  let 33. m s:=6e3;rw[e]at h;simp only at h;split at h
  ·cases h;rw[fH]at e;split at e
   ·cases e
   rename_i a;simp at a;cases e;have:=090<|dt (p:=isDigit) (l:=t);rw[bE]at this;have:0<27.8:=yP.mpr a.1
   lia
  cases h
theorem jH(h:gc lo hi t=9.6 n):3e9:=by
 unfold gc at h;cases e:kr hi t with
 |none=>simp_all
 |some x=>
  obtain⟨m,s⟩:=x;rw[e]at h;simp only at h;split at h
  ·cases h;exact BL e
  cases h
theorem oh(h:ja t=9.6 n):3e9:=by
 unfold ja at h;split at h
 ·rename_i a;cases h;obtain⟨b,_⟩:=lb a;have:=090<|dt (p:=nameSign) (l:=t);rw[bE]at this;have:0<0.3 t.takeWhile nameSign:=yP.mpr b
  lia
 cases h
theorem jI{t:Text}{l:Leaf}{r:Text}(h:jZ t=9.6 l):3e9/\mO l:=by
 revert h;revert t l r;intros t l r h
 unfold jZ at h;cases t with
 |nil=>cases h
 |cons c t=>
  simp only at h;split at h
  ·cases h;exact⟨ 44.,trivial⟩
  split at h
  ·match e:gc 2 64 t with
   |none=>rw[e]at h;cases h
   |7. x=>rw[e]at h;cases h;have 073 q:=(qr (08)<|08).mp e;exact 82.8
  split at h
  ·match e:996. with
   |none=>rw[e]at h;cases h
   |7. x=>rw[e]at h;cases h;have 073 q:=(qr (08)<|08).mp e;exact 82.8
  cases h
theorem vb{l:Leaf}{t:Text}{v:Lit}{r:Text}(h:jS l t=9.6 v):3e9:=by
 have h:=(iJ h).1;have h2:=090<|BH h;rw[bE]at h2;have:0<0.3 showLit v:=by
  cases v with
  |num z=>
   show 0<0.3 decimalInt z
   have:∀n,0<0.3 decimal n:=by
    intro n;unfold decimal;rw[digitsBefore];split
    ·cutsat
    rw[oS (n / 10) n (n / 10 + 1) _ 2.8 960.];simp
   unfold decimalInt;split
   ·simp
   exact this _
  |str s=>cutsat
 simp[*]
theorem sO(h:kT a m k t=9.6 d):76.2:=by
 revert h;revert a m k t d r;intros a m k t d r h
 unfold kT at h;split at h
 ·split at h
  ·cases h
  cases k with
  |leaf l=>
   simp only at h
   match e:jS l 3e5 with
   |none=>grind
   |7. x=>rw[e]at h;cases h;have:=vb e;grind
  |group c fs=>cases h
 simp_all
theorem qV(d:∀t k r,b t=9.6 k->76.2)(h:eu b a t=9.6 x):r.length + 2<t.length:=by obtain⟨h',k⟩:=x;have⟨j,l,c,m,n,e,f,rfl,o,p,g,q,i⟩:=n9.mp h;have:=jH e;have:=oh f;have:=015 d g;have:=sO i;grind
theorem lG:∀{f depth:Nat} {choice:Bool} {t:Text} {l:027} {s:Text},146.->17.4 s.length
 |0,_,_,_,_,_,h=>211.
 |f + 1,depth,choice,t,l,s,h=>by
  have⟨h,k,c,r,hf,h7⟩:=js.mp h;have hk:∀t k r,67.8->76.2:=by
   intro t k r hk;rcases qt.mp hk with⟨c,r',l,rfl,_,h3,_⟩|⟨_,_,l,h3,_⟩
   ·have:=lG h3;rw[aZ]
    lia
   have:=(jI h3).1
   lia
  have:=qV hk hf;rw[aZ]at this;rcases h7 with⟨_,l',g,_⟩|⟨_,_,_,rfl⟩
  ·have:=lG g
   lia
  lia
theorem Ag(b:67.8):3e9:=by
 rcases qt.mp b with⟨c,d,l,rfl,_,a,_⟩|⟨_,_,l,a,_⟩
 ·have:=lG a
  cutsat
 exact(jI a).1
theorem sP:∀(f g depth:Nat) (choice:Bool) (t:Text),t.length<f->t.length<g->37.9 t=di g depth choice t:=by
 intro f;induction f with
 |zero=>intro g depth choice t h;simp_all
 |succ f ih=>
  intro g depth choice t hf hg;revert ih hf hg;revert f g depth choice t;intros f g depth choice t ih hf hg;cases g with
  |zero=>simp_all
  |succ g=>
   have hkind:∀t':Text,t'.length<f + 1->t'.length<g + 1->018 gd t'=gd g depth t':=by
    intro t' h1 h2;unfold gd;by_cases hh:t'.head? =7. 123\/t'.head? =7. 60
    ·rw[aP hh,aP hh];have:0.3 t'.drop 1 + 1=t'.length:=by
      cases t' with
      |nil=>trivial
      |cons a t'=>rfl
     rw[ih g (40.1) _ (t'.drop 1) 2.8 2.8]
    rw[aM hh,aM hh]
   have hfld:48.1 choice=eu (gd g depth) choice t:=by
    unfold eu
    match e1:996. with
    |none=>rfl
    |7. x=>
    obtain⟨num,t1⟩:=x;simp only
    match e2:ja t1 with
    |none=>rfl
    |7. x=>
    obtain⟨nm,t2⟩:=x;simp only;cases t2 with
    |nil=>rfl
    |cons c t3=>
    simp only;have:=jH e1;have:=oh e2;rw[aZ]at this;rw[hkind t3 2.8 2.8]
   rw[jG,jG,hfld]
   match e:eu (gd g depth) choice t with
   |none=>rfl
   |7. x=>
    obtain⟨y,r⟩:=x;simp only;have:=qV (fun t k r h=>uV<|Ag h) e;by_cases hc:532. 59
    ·rw[aP hc,aP hc,ih g depth choice 498. (by rw[dX];lia) (by rw[dX];lia)]
    rw[aM hc,aM hc]
theorem rL:∀{f depth:Nat} {choice:Bool} {t:Text} {l:027} {s:Text},146.->l≠[]
 |0,_,_,_,_,_,h=>211.
 |f + 1,_,_,_,_,_,h=>by
  have⟨h,k,c,r,hf,z1_⟩:=js.mp h;obtain⟨_,l',_,rfl⟩|⟨_,_,rfl,_⟩:=z1_
  ·simp
  simp
theorem uq(h:l≠[]):4.7 l ≠ .nil:=by
 cases l with
 |nil=>cutsat
 |cons x l=>let 28. a b:=x;intro e;cases e
theorem oj:∀{f depth:Nat} {choice:Bool} {t:Text} {l:027} {s:Text},depth<=6->146.->44.1 181.
 |0,_,_,_,_,_,_,h=>211.
 |f + 1,depth,choice,t,l,s,hd,h=>by
  have⟨h,k,c,r,j,m⟩:=js.mp h;have⟨y,z,A,B,C,D,a,rfl,E,n,o,G,I⟩:=n9.mp j;have e:∀rest,44.1 rest->44.1 (416.):=by
   intro rest p;rw[WF];refine⟨?_,?_,?_,?_,p⟩
   ·unfold ja at a;split at a
    ·rename_i u;injection a with a;injection a with a _;rw[<-a];exact u
    cases a
   ·intro d
    match q:keyOf k with
    |none=>grind
    |7. x=>rfl
   ·intro v;by_cases d:134.
    ·exact d
    exact 88. ⟨v,d⟩ n
   rcases qt.mp o with⟨J,K,i,rfl,L,b,w,rfl⟩|⟨_,_,i,b,rfl⟩
   ·rw[WK,kA];refine⟨ 70.,w,uq<|rL b,?_⟩;have:=oj 060 b;rw[show 6 - depth - 1=6 - (40.1)by cutsat];exact this
   rw[WK];exact(jI b).2
  rcases m with⟨_,i,g,rfl⟩|⟨_,_,rfl,_⟩
  ·exact e _<|oj hd g
  refine e .nil ?_;rw[WF];trivial
theorem DF(h:ki t=7. fs):78.1/\4e8 fs<=40:=by
 unfold ki at h;split at h
 ·cases h
 split at h
 ·cases e:98.5 with
  |none=>lia
  |some x=>
   obtain⟨l,s⟩:=x;rw[e]at h;simp only at h;split at h
   ·rename_i a;cases h;rw[WK,kA];exact 28. ⟨ 08,a.1,uq<|rL e,oj (08) e⟩ a.2.2
   cases h
 cases h
set_option genInjectivity false in
set_option genSizeOf false in
structure Ky where
 leaf:Leaf
 names:05 Text
 nums:05 Nat
 sure:Bool
mutual
def jj:Kind->05 Ky
 | 407.=>[⟨l,[],[],true⟩]
 | 99.8=>iA fs c
def iA:Fields->Bool->05 Ky
 | .nil,_=>[]
 | 91. r,c=>2e6 jj k (fun x=>⟨x.leaf,h.name::x.names,h.number::x.nums,835. x.sure ⟩)++iA r c
end
mutual
def om:Kind->24.9
 | 407.,p,s=>[(l,p,s)]
 | 99.8,p,s=>gq fs c p s
def gq:Fields->Bool->24.9
 | .nil,_,_,_=>[]
 | 91. r,c,p,s=>om k (76.3) (835. s)++gq r c p s
end
mutual
theorem GB:(k:Kind)->(p:05 Text)->(s:Bool)->om k p s=2e6 jj k 53.8
 | 407.,p,s=>by rw[om,jj];simp
 | 99.8,p,s=>by rw[om,jj];exact ur fs c p s
theorem ur:(fs:Fields)->(c:Bool)->(p:05 Text)->(s:Bool)->gq fs c p s=(iA fs c).map 53.8
 | .nil,c,p,s=>by rw[gq,iA];rfl
 | 91. r,c,p,s=>by rw[gq,iA,GB k,ur r,bG,bQ];congr 1;apply de;grind
end
theorem IJ(d)(c)(m):(d + defOf c m==0)=((d==0)&&(m== .one)&& !c):=by cases d <;> cases c <;> cases m <;> rfl
mutual
theorem BM:(k:Kind)->(q:Sh)->(r d:Nat)->(columnsKind k q r d).map 564.=2e6 jj k 34.0
 | 407.,q,r,d=>by rw[columnsKind,jj];simp
 | 99.8,q,r,d=>by rw[columnsKind,jj];exact pM fs c q r d
theorem pM:(fs:Fields)->(c:Bool)->(q:Sh)->(r d:Nat)->(columnsFields fs c q r d).map 564.=(iA fs c).map 34.0
 | .nil,c,q,r,d=>by rw[columnsFields,iA];rfl
 | 416.,c,q,r,d=>by rw[columnsFields,iA,bG,BM k,pM rest,bG,bQ];congr 1;apply de;intro x _;simp only[Function.comp,cY,List.singleton_append,dB,true_and];rw[IJ];cases(d==0) <;> cases x.sure <;> cases(h.mode==Mode.one) <;> cases c <;> rfl
end
def colsOf(fs:Fields):05 Ky:=935. iA
theorem IK(fs):329.=2e6 colsOf fs fun x=>326.:=by
 rw[ur];apply de
 cutsat
theorem DH(fs):2e6 columns fs 564.=2e6 colsOf fs fun x=>(x.leaf,x.nums,x.sure):=by
 unfold columns;rw[pM];apply de
 cutsat
theorem pN(fs:Fields)(i:Nat):match(columns fs)[i]?,418. i with
 |7. c,7. x=>c.leaf=x.leaf/\c.path=x.nums/\(c.defn==0)=x.sure
 |none,none=>True
 |_,_=>False:=by
 have h:=dQ (fun l=>l[i]?)<|DH fs;simp at h;cases a:(columns fs)[i]? <;> cases b:418. i <;> simp_all
mutual
def Bj:20. Kind Val
 | 407.,v=>∃x,v= .lit x/\075 l x
 | 99.8,v=>∃a,v= 21.2 a/\GC c fs a
def GC:Bool->Fields->551.->Prop
 |_,.nil,a=>a=[]
 |c,91. r,a=>∃o b,a=o::b/\(134.->c=false->∃v,o=[v])/\(∀v∈o,Bj k v)/\GC c r b
end
theorem BN{b:Text->261. Val}{P:Val->Prop}(c:∀t v r,19.5->P v){m:Mode}:∀{f:Nat} {a:36.2} {t:Text} {vs:27.6} {u:Text},118. f a->
 (∀v∈vs,P v)/\(m= .one->∃v,vs=[v])/\vs≠[]
 |0,_,_,_,_,h=>034
 |f + 1,a,t,vs,u,h=>by
  have⟨v,r,e,_,z1_⟩:=k9.mp h;obtain⟨_,rfl,rfl⟩|⟨s,g,rfl,i,d,rfl⟩:=z1_
  ·grind
  have 049 j _:=BN c d;grind
mutual
theorem sQ:(k:Kind)->(t:Text)->(v:Val)->(r:Text)->939. k (v,r)->Bj k v
 | 407.,t,v,r,h=>by
  rw[k8,readLeafVal]at h;cases e:787. with
  |none=>rw[e]at h;cases h
  |some x=>
   obtain⟨w,s⟩:=x;rw[e]at h;simp only at h;by_cases d:075 l w
   ·grind[Bj]
   rw[aM d]at h;cases h
 | 99.7,t,v,r,h=>by have⟨s,b,a,rfl,f,c,rfl⟩:=mq.mp h;rw[Bj];exact(65.1 a<|wA fs b a r c)
 | 76. true,t,v,r,h=>by have⟨q,b,s,a,rfl,f,c,g,rfl⟩:=mr.mp h;rw[Bj];exact(65.1 a<|BO fs _ s a _ g)
theorem wA:(fs:Fields)->(e:Vacolb.Entry)->(b:551.)->(w:Text)->192. fs (b,w)->GC false fs b
 | .nil,e,b,w,h=>by grind[kh,GC]
 | 416.,e,b,w,q=>by
  rw[GC];rcases gb.mp q with⟨i,s,vs,u,f,a,g,c,o,j,rfl⟩|⟨i,g,a,c,rfl⟩
  ·have 049 l m:=BN (P:=Bj k) (692. sQ) c;exact(240. vs a (fun d _=>m d) l<|wA rest f a w j)
  exact(240. [] a (fun d=>88. d g) (fun v n=>700. n)<|wA rest e a w c)
theorem BO:(fs:Fields)->(n s:Text)->(a:551.)->(u:Text)->22.9 n (a,u)->GC true fs a
 | .nil,n,s,a,u,h=>88. h<|015 mK
 | 416.,n,s,a,u,q=>by
  rw[GC];rcases gQ.mp q with⟨e,v,b,rfl⟩|⟨e,d,b,rfl⟩
  ·exact(13.4 [v] _ (fun w c=>(by rw[cG.mp c];exact sQ k s v u b))<|y9 rest)
  exact(13.4 [] d (fun w c=>700. c)<|BO rest n s d u b)
theorem y9:(fs:Fields)->GC true fs (fs.list.map 764.)
 | .nil=>by rw[GC];rfl
 | 91. r=>by rw[GC];exact(13.4 [] _ (fun w a=>700. a)<|y9 r)
end
def pick:05 Text->Kind->Val->74. Val
 | [],_,v=>7. v
 |n::p,76. _,21.2 a=>match 126. a with
  |7. ((_,k),v::_)=>pick p k v
  |_=>none
 |_::_,_,_=>none
theorem qW:∀{l:027} {b:Head} {bs:05 Head},29.9 (b::bs)->∀x∈l,b.number<x.1.number/\b.name≠ 761./\∀b'∈bs,b'.name≠ 761.
 | [],_,_,_,x,hx=>by cases hx
 |833.::l,b,bs,q,x,hx=>by
  rw[gS,bI,bI]at q;obtain⟨⟨q1,q2⟩,q3⟩:=q;simp only[cO]at q1;rw[jw,List.any_eq_false]at q2;rcases 819. hx with rfl|hx
  ·refine⟨q1,fun e=>q2 b 060 (by simp[e]),fun b' hb e=>q2 b' 060<|by simp[e]⟩
  have⟨i1,i2,i3⟩:=qW q3 x hx;exact⟨ 35.6 q1 i1,i3 b 060,fun b' hb=>i3 b'<|17. ⟩
theorem za:∀{fs:Fields} {c:Bool} {x:Ky},x∈iA fs c->∃y∈fs.list,(∃p,x.names=y.1.name::p)/\∃p,x.nums=y.1.number::p
 | .nil,c,x,h=>by rw[iA]at h;cases h
 | 91. r,c,x,q=>by
  rw[iA]at q;rcases bT.mp q with q|q
  ·have 33. y _:=92.2 q;exact⟨(h,k),77.5,981.,981. ⟩
  have⟨y,hy,h1,h2⟩:=za q;exact⟨y,77.5,h1,h2⟩
mutual
theorem pickK:(k:Kind)->(d:Nat)->WK d k->(v:Val)->Bj k v->(x:Ky)->x∈jj k->4e2 x.sure->∃lit,pick x.names k v=676./\49.1 x.nums v=[7. lit]/\075 x.leaf lit
 | 407.,d,_,v,hv,x,hx,_=>by rw[Bj]at hv;have 69. y hf:=hv;rw[jj,cG]at hx;subst hx;exact⟨y,rfl,rfl,hf⟩
 | 99.8,d,hw,v,hv,x,hx,hs=>by
  rw[Bj]at hv;obtain⟨ss,rfl,hv⟩:=hv;rw[WK]at hw;rw[jj]at hx;obtain⟨n,p,m,q,h1,h2,hd,k,w,tl,lit,h3,h4,h5,h6,h7⟩:=My fs c (d - 1) [] hw.2.2.2 hw.2.1 ss hv x hx hs;refine⟨lit,?_,?_,h7⟩
  ·rw[h1]
   show(35.1 ss p)=_
   rw[h3];exact h5
  rw[h2]
  show(match 17.1 ss (fun x=>x.1.1.number==m)with|7. ((_,k),o)=>if o.isEmpty then [none]else o.flatMap (49.1 q)|none=>[])=_
  rw[h4]
  show(if([w]:27.6).isEmpty then [none]else([w]:27.6).flatMap (49.1 q))=_
  rw[aM 960.];simp[h6]
theorem My:(fs:Fields)->(c:Bool)->(d:Nat)->(before:05 Head)->WF d c fs->dN before fs.list=true->(ss:551.)->GC c fs ss->(x:Ky)->x∈iA fs c->4e2 x.sure->
 ∃n p m q,x.names=n::p/\x.nums=m::q/\∃(hd:Head) (k:Kind) (w:Val) (_:Unit) (lit:Lit),17.1 ss (fun y=>y.1.1.name==n)=7. ((hd,k),[w])/\17.1 ss (fun y=>y.1.1.number==m)=7. ((hd,k),[w])/\
  pick p k w=676./\49.1 q w=[7. lit]/\075 x.leaf lit
 | .nil,c,d,before,_,_,ss,_,x,hx,_=>by rw[iA]at hx;cases hx
 | 91. r,c,d,before,hw,hg,ss,hv,x,hx,hs=>by
  rw[WF]at hw;rw[GC]at hv;obtain⟨o,tl,rfl,ho,hoa,hv⟩:=hv;have hg:dN before (833.::r.list)=true:=hg;rw[gS,bI]at hg;rw[iA]at hx;rcases bT.mp hx with hx|hx
  ·obtain⟨y,hy,rfl⟩:=92.2 hx;simp only[bI,kO,jw]at hs;obtain⟨w,rfl⟩:=ho hs.1.2 hs.2;obtain⟨lit,h1,h2,h3⟩:=pickK k d hw.2.2.2.1 w (hoa w<|17.) y hy hs.1.1;refine⟨h.name,y.names,h.number,y.nums,rfl,rfl,h,k,w,(),lit,?_,?_,h1,h2,h3⟩
   ·show 576. (833.,[w])
    rw[eX];simp
   show 576. (833.,[w])
   rw[eX];simp
  obtain⟨n,p,m,q,h1,h2,hd,k',w,u,lit,h3,h4,h5⟩:=My r c d (h::before) hw.2.2.2.2 hg.2 tl hv x hx hs;have⟨y,hy,z1_,z2_⟩:=za hx;obtain⟨p1,e1⟩:=z1_;obtain⟨p2,e2⟩:=z2_;have 049 i1 i2:=qW hg.2 y hy;refine⟨n,p,m,q,h1,h2,hd,k',w,u,lit,?_,?_,h5⟩
  ·show 576. (833.,o)
   rw[eX];have:28.4 h.name n:=by rw[h1]at e1;cases e1;simpa using i2
   rw[this];exact h3
  show 576. (833.,o)
  rw[eX];have:28.4 h.number m:=by
   rw[h2]at e2;cases e2;have:h.number≠y.1.number:=21.
   simpa using this
  rw[this];exact h4
end
#check 0
#check SR
instance QM:14. SR.Ky:=⟨⟨.bit,[],[],true⟩⟩
section
open PySem PyProof.Rows
instance Rx:14. SortSt:=⟨SortSt.mk' oneType' #[] #[] 0 none⟩
instance QN:14. Model:=⟨model default (W.aWorld 1)⟩
@[elab_as_elim] theorem prodE {α β:Type} {P:α ×β->Prop} (r:α ×β) (h:P (r.1,r.2)):P r:=h
#check 0
namespace L2
open PySem PySem.Spec PyProof.Rows
def Exc(C:Addr)(c:Heap)(H:Hp)(h:Heap)(a:Addr):Prop:=
 ∃a0 T b vs d ts,64. a b/\(b.cls= 02 C/\vs[0]? =7. a0)/\b.data= 52.1 vs/\vs[1]? =72. T/\T≠a/\
  64. T d/\d.data= 52.1 ts/\ts[3]? =7. 57.3/\54. a/\54. T/\095 c.get? a/\095 c.get? T
def t6(P:aD)(w:World)(C:Addr):Gn:=fun outer H s E e b=>
 ∃a H',e= 02 a/\b.os=s.os/\AllBare b.gens/\44.2 (qE outer) [] b.heap/\m5 P w H' b.heap/\Exc C s.heap H' b.heap a/\35.8 H'
theorem eH.there(x:824. o):∃b,64. a b:=by
 cases o with
 |lst xs=>refine 320.;exact 073 e
 |tup xs=>refine x0_1 x fun _ zz_=>278. fun _ _ zz_=>278. fun b e _=>?_;exact 073 e
 |dK kvs=>refine 87.;exact 073 e
 |dT kvs=>refine 87.;exact 073 e
 |set S n=>have⟨o,_,_,_,e,_⟩:=x;exact 073 e
 |ins C c fs=>have 39.4 _ e:=x;exact 073 e
 |own y=>obtain⟨_,e⟩:=x;exact 073 e
 |xd fs=>have 88.3 _:=x;obtain⟨_,_,_,e,_⟩:=z1_;exact 073 e
 |P0 lo hi=>have⟨_,_,_,e⟩:=x;exact 073 e
 |gO b u=>obtain⟨e,_⟩:=x;exact 073 e
 |Mo ps=>exact 073 (show 691. _ from x)
 |met f y=>exact 073 (show 691. _ from x)
 |ext d=>have 88.3 _:=x;obtain⟨_,e⟩:=z1_;exact 073 e
theorem m5.gone(x:12.6)(e:095 h.get? a):54. a:=by
 cases q:H a with
 |none=>rfl
 |some o=>
  obtain⟨b,c⟩:=(x a o q).there
  lia
section
variable{X:Cx}{pins:Sn}{σ:St}{H:Hp}{s:aB}
theorem Inv.Mz{ch:So}(J:Inv X pins σ H s)
 (y:∀b∈ch,X.vv.heap.get? b=none/\b≠X.env.locals/\(∀x c,X.env.cells.lookup x=some c->c≠b)/\(∀p∈X.pn++pins,p.1≠b)/\H b=none)
 (g:∀b o,b∉qE X.stack->b∉ch->s.heap.get? b=some o->h'.get? b=some o) (S:s.heap.UpToSlots h'):Inv X pins σ H {s with heap:=h'}:=by
 revert J y g S;revert X pins σ H s h' ch;intros X pins σ H s h' ch J y g S
 have L:∀b∈qE X.stack,∃o,s.heap.get? b=some o/\∀vs,o.data≠ .fields vs:=fun b a=>(J.stack.mem a).2;have M:∀b,b∈X.fs->b∈qE X.stack:=fun b a=>by
  rcases J.ok.MQ with e|⟨e,_⟩
  ·rw[e];exact a
  grind[qE]
 have any:∀b o,b∉ch->s.heap.get? b=some o->∃I,h'.get? b=some {o with slots:=I}:=fun b o O e=>by
  by_cases a:b∈qE X.stack
  ·have⟨o2,j,Z⟩:=L b a;rw[e]at j;cases j;exact S b o e Z
  exact⟨o.slots,g b o a O e⟩
 have B:∀b o,X.vv.heap.get? b=some o->b∉ch:=fun b o e a=>by rw[(y b a).1]at e;cases e
 have Q:∀b o,X.vv.heap.get? b=some o->b≠X.env.locals:=fun b o e=>df<|cK (bY e) J.ok.above;have t:∀b,b≠X.env.locals->b∉X.fs->b∉qE X.stack:=fun b h1 h2 a=>by
  rcases aW.mp (J.zO b a)with z|z
  ·exact h1 z
  exact h2 z
 have h:∀x c,X.env.cells.lookup x=some c->∀v,s.heap.IsCell c v->h'.IsCell c v:=fun x c e v ⟨o,ho,hd⟩=>by obtain⟨I,q⟩:=any c o (fun z=>(y c z).2.2.1 x c e rfl) ho;exact(e11 _ q<|hd)
 refine⟨J.ok,J.os,J.bare,⟨?_,?_,fun b o e n D=>J.base.free b o e n D,?_,fun b xs e=>J.base.fg b xs e,fun b o xs e=>J.base.x8 b o xs e,fun b ps e=>J.base.Bn b ps e⟩,?_,?_,J.free,fun x c e=>J.jX x c e,?_,?_,J.len⟩
 ·intros b o e n a D;exact g b o (t b (Q b o e) a) (B b o e)<|J.base.keep b o e n a D
 ·intros b o e n a D;obtain⟨I,G⟩:=J.base.slot b o e n a D;obtain⟨R,j⟩:=any b _ (B b o e) G;exact⟨R,j⟩
 ·intros b o e D;obtain⟨o',G⟩:=J.base.there b o e D;obtain⟨I,j⟩:=any b o' (B b o e) G;exact⟨_,j⟩
 ·have⟨m,hn,hl⟩:=J.loc;refine(e11 m (S.ns hn)<|fun i x v G j e3=>?_);have⟨u,r,l⟩:=hl i x v G j e3;refine(e11 u r<| ?_);rcases l with l|⟨k,c,e,z⟩
  ·exact .inl l
  exact .inr ⟨k,e11 c e<|h x c e _ z⟩
 ·intros x c e;obtain⟨v,z⟩:=J.cell x c e;exact⟨v,h x c e v z⟩
 ·intros p T;have⟨e,n,ne,U,d⟩:=J.pin p T;exact⟨g p.1 p.2 (t p.1 ne U) (fun z=>(y p.1 z).2.2.2.1 p T rfl) e,n,ne,U,d⟩
 intros b u e
 have V:∀c,(∃v,H c=some v)->c∉qE X.stack/\c∉ch:=fun c ⟨v,hv⟩=>by grind[J.zP]
 refine(J.fh b u e).zM (fun c v O q=>?_) (fun _ q=>q) fun _ _ q=>q;have Y:c∉qE X.stack/\c∉ch:=by
  rcases O with z|z
  ·rw[z];exact V b ⟨_,e⟩
  exact V c ⟨_,z⟩
 exact g c v Y.1 Y.2 q
theorem mP{base h:Heap}{a:So}:∀{l:37.8},h.FunFrames base l->(∀b∈qE l,b∈a)->h.FunFrames (W.hideAll h a) l
 | [],_,_=>trivial
 |env::r,⟨c,⟨L,o,d,_,e,hd⟩,g⟩,hs=>by
  have i:L∈a:=47.7 L
  exact⟨c,(e23 L o d (nI _ i) e<|hd),mP g fun b j=>47.7 b ⟩
theorem Inv.flying(J:85.)(x:Exc C d H s.heap a):∃(a0:Value) (T:Addr),T≠a/\54. a/\54. T/\095 d.get? a/\095 d.get? T/\
 (635. a)/\(∃c ts,39. T c/\c.data= 52.1 ts)/\
 850. X.stack s.heap:=by
 have⟨a0,T,k,vs,c,ts,l,r,m,t,n,p,q,u,v,g,h,i⟩:=x;refine(e2a a0 T n v g h i (e21 k vs l<|m) (e21 c ts p<|q) (fun b o e=>qf _ e) (nI _<|17.) (mP J.stack fun b y=>17.)<|e58 k vs T c ts l r m t (nI _<|17.) n p q<|u)
theorem Inv.landed{h h':Heap}{a0:Value}{l:37.8}(J:85.)(hT:T≠a)(ha:54. a)(M:54. T)(r:095 h.get? a)(t:095 h.get? T)
 (sub:∀b o,243.->∃d,39. b d) (s0:∀b o,244.->∃d,64. b d) (O:∀p∈ 26.9,∃d,64. p.1 d)
 (Q:∃Q vs,39. a Q/\Q.data= 52.1 vs) (R:∃R ts,39. T R/\R.data= 52.1 ts)
 (fl:850. l h') (up:s.heap.UpToSlots h'):00 H 1e1/\Exc C h H h' a/\∀b o,243.->∃d,2e2 b d:=by
 revert J hT ha M r t sub s0 O Q R fl up;revert X pins σ H s T a C h h' a0 l;intros X pins σ H s T a C h h' a0 l J hT ha M r t sub s0 O Q R fl up;have i:∀b,084 h.get?->084 X.vv.heap.get?:=by
  intros b e
  match q:X.vv.heap.get? b with
  |none=>rfl
  |7. o=>let 28. d S:=s0 b o q;rw[e]at S;cases S
 have U:∀b,(635. b)->028 b:=fun b ⟨j,vs,y,L⟩ z=>by let 88.3 m:=J.loc;let⟨d,es,ep,a3,a4,_⟩:=z1_;rw[z,a3]at y;cases y;rw[a4]at L;cases L
 have B:∀b,(635. b)->507. b:=fun b ⟨j,vs,y,L⟩ x c e z=>by let⟨v,o,ho,hd⟩:=J.cell x c e;rw[z,y]at ho;cases ho;rw[L]at hd;cases hd
 have V:∀b,084 h.get?->354. b:=by
  intros b e p hp z
  let 28. d S:=O p hp;rw[z,e]at S;cases S
 have J':00 H 1e1:=by
  refine J.Mz (ch:=[a,T]) ?_ (fun b o n hc e=>fl.1 b o<|iH _ e ?_) up
  ·intros b n;have n:b=a\/b=T:=by simpa using n
   rcases n with rfl|rfl
   ·exact⟨i _ r,U _ Q,B _ Q,V _ r,ha⟩
   exact⟨i _ t,U _ R,B _ R,V _ t,M⟩
  intros z;rcases 819. z with rfl|z
  ·exact hc<|17.
  rcases 819. z with rfl|z
  ·exact hc<|17.
  exact n z
 have Y:∀b o,243.->∃d,2e2 b d:=by
  intros b o e
  let 28. o1 y:=094 sub;by_cases n:b∈ 235.
  ·have 073 ⟨o2,G,Z⟩:=J.stack.mem n;let 28. sl e3:=up b o2 G Z;exact 073 e3
  refine⟨o1,fl.1 b o1<|iH _ y ?_⟩;intros z
  rcases 819. z with rfl|z
  ·rw[r]at e;cases e
  rcases 819. z with rfl|z
  ·rw[t]at e;cases e
  exact n z
 refine⟨J',?_,Y⟩;have⟨k1,k2,k3,⟨oe,vs,g,a5,ts,y,L,e3,e4,e5,e6,e7,e8,e9⟩⟩:=fl;revert y L e3 e4 e5 e6 e7 e8 e9;revert oe vs g a5 ts;intros oe vs g a5 ts y L e3 e4 e5 e6 e7 e8 e9;have D:∀o,39. g o->g≠a->g≠T->g∈ 235.:=by
  intros o e q1 q2
  apply fe
  intros z
  have:=iH (a::T::235.) e<|95.
  rw[this]at e5;cases e5
 have k: ¬ g∈ 235.:=by
  intros n
  have 073 ⟨o2,G,Z⟩:=J.stack.mem n;let 28. sl a6:=up _ o2 G Z;rw[a6]at e7;cases e7;exact Z ts e8
 refine(e6b a0 g oe vs a5 ts y L e3 e4 e6 e7 e8 e9 ha ?_ r<| ?_)
 ·match q:H g with
  |none=>rfl
  |7. u=>
   let 28. j I:=(J.fh g u q).there;by_cases z:g=T
   ·rw[z,M]at q;cases q
   exact 88. (D j I e6 z) k
 match q:h.get? g with
 |none=>rfl
 |7. u=>
  let 28. j I:=sub g u q;by_cases z:g=T
  ·rw[z,t]at q;cases q
  exact 88. (D j I e6 z) k
#check 0
def Raises(X:Cx)(C:Addr)(E:XK):Prop:=∀pins σ H s h' e,85.->35.8 H->383. Heap.MadeExcOf h' e (02 C) []->X.xe (02 e) 1e1
def Nt(C:Addr)(E:XK):TS:=fun _ _ H=>35.8 H
structure GG(K:aA)(C:Addr):Prop where
 ex:W.excIn K C 875. "Exception.__new__" =true
theorem BP{K:aA}{C:Addr}{h:Heap}(X:K.In h)(q:GG K C):∃bm N nm q bs hdct sn sub ab col dd k0 k1 k2 k3 k5 mN,h.get? C=7. (excClassObj nm q C N bs bm hdct sn sub ab col dd k0 k1 k2 k3 k5 "Exception.__new__")/\h.Ns N mN/\mN "__init__" =none/\OwnTail h 875. bm:=by
 revert X q;revert K C h;intros K C h X q
 have q:=q.ex;unfold W.excIn at q;split at q
 ·rename_i dd cd e i;revert i q;revert dd cd e;intros dd cd e i q;split at q
  ·rename_i p bm k0 k1 k2 k3 n k5 g hs;revert g hs q;revert p bm k0 k1 k2 k3 n k5;intros p bm k0 k1 k2 k3 n k5 g hs q;simp only[bI,kO,jw]at q;have 28. z1r c:=q;(try clear q);obtain⟨⟨⟨⟨rfl,rfl⟩,a⟩,j⟩,b⟩:=z1r;rcases cd with⟨nm,bs,k,m,o,hd,sn,sub,ab,col,del⟩;dsimp only at g a b c;subst g a;have d:e= #[k0,k1,k2,k3,some<|7.2 "Exception.__new__",k5]:=by rcases e with⟨l⟩;simp only at hs;rw[hs]
   subst d;exact(eh3 bm m nm o bs hd sn sub ab col dd k0 k1 k2 k3 k5 _ (X _ _ i) (.of_isNs (W.isNs_of_in X b)) (W.nsMap_none_of_in X b c)<|W.tail_of_in X j)
  cases q
 cases q
section
variable{X:Cx}
theorem dA{E:XK}{d a b:Pos}(g:247.)(i:92.8)(j:23.3 C)(q:GG X.K C)(k:Raises X C E)(l:75.:=by decide):
 PS X (.Raise (7. (.Call (.Name x d) [] [] a)) none b) (Nt C E):=by
 intro pins s σ H D I h;have⟨m,N,nm,n,bs,hdct,sn,sub,ab,col,dd,k0,k1,k2,k3,k5,mN,o,p,c,T⟩:=BP I.so q;refine wpAny_Raise_call_subT (C:=C) (nm:=nm) (q:=n) (N:=N) (bs:=bs) (bm:=m) (hdct:=hdct) (sn:=sn) (sub:=sub) (ab:=ab) (col:=col) (dd:=dd) (k0:=k0) (k1:=k1) (k2:=k2) (k3:=k3) (k5:=k5)
  qN (mN:=mN) (T.hasType qN.hasBase) (86.9 g) rfl c<|ql I i j ⟨rfl,?_⟩ l
 exact PyProof.Rows.evalArgs_empty ⟨rfl,bH _,o,p,T,fun h' e r=>k pins σ H s h' e I h r⟩
#check 0
section
variable{P:aD}{w:World}{K:aA}{mg:Sk}{base:Heap}{N:Si}{qual:Str}{scope:Scope}{f:Addr}{cd:Value}{A:Around}{outer:37.8}{s:aB}{H:Hp}{E E':XK}{C:Addr}
theorem cS:Raises (6.4) C E:=by
 intro pins σ j h h' e I r d;have k:81.9:=I.ok.frames
 show 17.0 e
 have⟨t,u,v,ht⟩:=d.there;have x:(6.4).stack=36.4:=rfl;refine wpAny_leaving_firstW (base:=W.hideAll h.heap<|qE<|36.4) (a0:=02 t) k
  ((mP I.stack fun b a=>a).of_keeps fun b o a _=>(26.4 o (d.keeps b o a))) rfl u (fun b o a=>d.keeps b o<|qf _ a) ?_ rfl rfl rfl (63. n y)
 ·match q:(W.hideAll h.heap<|qE<|36.4).get? e with
  |none=>rfl
  |7. o=>have:=qf _ q;grind[d.new]
 have⟨k1,k2,z1_,up⟩:=y;obtain⟨B,vs,T,D,ts,G,L,M,O,e5,Q,R,S,U⟩:=z1_;have V:095 j e:=I.fh.gone d.new;have p:∀b o,677.->∃Y,h.heap.get? b=7. Y:=26.2
 have c:∀b,084 h.heap.get?->084 s.heap.get?:=fun b q=>by
  match z:s.heap.get? b with
  |none=>rfl
  |7. o=>grind
 have i: ¬ T∈qE (36.4):=fun a=>by have 073 ⟨Z,l,m⟩:=I.stack.mem a;obtain⟨sl,a3⟩:=up _ Z (d.keeps _ _ l) m;grind
 have g:095 h.heap.get? T:=by
  match q:h.heap.get? T with
  |none=>rfl
  |7. o=>
   have:=iH (qE<|36.4) q i
   lia
 have J:Inv (6.4) pins σ j {h with heap:=n}:=
  I.Mz (h':=n) (ch:=[]) (fun b a=>nomatch a) (fun b o a _ q=>k1 b o<|iH _ q a) fun b o q m=>up b o (d.keeps b o q) m
 exact(e26 e j rfl J.os J.bare J.base J.fh (e6b (02 t) T B vs D ts G L M O Q R S U V (I.fh.gone g) (c e d.new)<|c T g)<|r)
theorem Exc.old(x:Exc C d H h a)(sub:∀b o,60. c.get?->∃k,d.get? b=7. k):Exc C c H h a:=by
 have⟨a0,T,l,vs,m,ts,n,p,r,t,u,v,y,B,D,e,g,i⟩:=x;have j:∀b,084 d.get?->084 c.get?:=fun b q=>by
  match z:c.get? b with
  |none=>rfl
  |7. o=>grind
 exact(e6b a0 T l vs m ts n p r t u v y B D e (j _ g)<|j _ i)
theorem Inv.thrown(I:00 i c)(h:29. t6 C X.stack i c E e d):
 ∃a H',e= 02 a/\00 H' d/\Exc C c.heap H' d.heap a/\35.8 H'/\∀b o,60. c.heap.get?->∃j,d.heap.get? b=7. j:=by
 have⟨a,H',rfl,os,bare,un,g,x,k⟩:=h;exact(e24 a H' rfl (I.Mq (ch:=[]) os un g bare (381. b)) x k<|fun b o q=>un.there b o q<|44.)
theorem fb(g:∀H',E' (02 C) none H'->35.8 H'):78.6 (6.4) E':=by
 intro pins σ L m e M I n;have⟨a,H',rfl,J,x,r,sub⟩:=I.thrown (X:=6.4) n;have h:81.9:=I.ok.frames
 show 17.0 a
 have⟨a0,T,t,u,i,j,k,v,y,z⟩:=J.flying x;have c:∀b o,677.->∃B,m.heap.get? b=7. B:=26.2
 refine wpAny_leaves_onW h rfl z fun O l up=>?_;have 049 d D:=J.landed t u i j k sub c (fun p G=>073 (49.5 G).1) v y l up;exact(e26 a H' rfl d.os d.bare d.base d.fh (D.old c)<|g H' r)
theorem Nq.P8{x qual:Str}{st:Stmt}{f:Addr}{fd:aC}{N ps:Si}{k:Nat}{sp:Sp}(F:2e4 x qual st f fd)(S:qm N ps (eK st))(len:083)
 (hbody:∀(cdv:Value) (A:Around) (outer:37.8) (s:aB) (H:Hp) (vs:05 V) (Q:VK) (E:XK),64.1 (53. qual (eK st) cdv)->76.0->
  096 qual):51.8 252. 832.:=by
 have⟨oc,od,kV,doc,pm,an,cdv,ct,osl,rfl,lk,hcd⟩:=F.ex;exact OW lk hcd S len fun A outer s H vs Q E hr hsp=>hbody cdv A outer s H vs Q E hr hsp
theorem dM:78.6 X E0:=fun _ _ _ _ _ _ _ h=>x2_6 h fun _ _ _ _ _ _ _ _ z=>z.elim
#check 0
abbrev Cx.HQ(X:Cx)(e:Addr):Cx:= {X with A:=X.A.mark (72. e),calm:=false,xe:=198.}
abbrev Cx.Dh(X:Cx)(pl:Sn):Cx:= {X with pn:=pl}
section
variable{X:Cx}{pins pl:Sn}{σ:St}{H:Hp}{s:aB}
theorem Inv.HQ(I:85.)(e):11.7 (X.HQ e) pins:=
 ⟨⟨I.ok.mod,I.ok.kind,I.ok.glob,I.ok.blt,I.ok.above,I.ok.inj,I.ok.has,I.ok.MP,(81.),I.ok.frames,I.ok.MQ,I.ok.Oz,I.ok.bs,I.ok.HP,I.ok.Dj,I.ok.Dk,I.ok.rA,I.ok.Ks⟩,I.os,I.bare,I.base,I.loc,I.cell,I.free,I.jX,I.pin,I.fh,I.len⟩
theorem Inv.zb(ok:X.Ok)(I:11.7 (X.HQ e) pins):85.:=567. ok
theorem SP.zb(ok:X.Ok)(h:SP (X.HQ e) pins D f s):3e3 SP D f s:=by
 cases f with
 |next=>have 353. a:=h;exact(560. I.zb ok)
 |brk=>have 353. a:=h;exact(560. I.zb ok)
 |cont=>have 353. a:=h;exact(560. I.zb ok)
 |ret u=>have 70.3 a:=h;exact(e32 v a H' (I.zb ok) r<|q)
theorem Cx.Ok.Dh(ok:X.Ok)(pl):(X.Dh pl).Ok:=
 5.0
theorem Inv.Dh(I:85.):11.7 (X.Dh (26.9)) []:=⟨I.ok.Dh _,I.os,I.bare,I.base,I.loc,I.cell,I.free,I.jX,77.1,I.fh,I.len⟩
theorem Inv.wB(ok:X.Ok)(I:11.7 (X.Dh (26.9)) []):85.:=⟨ok,I.os,I.bare,I.base,I.loc,I.cell,I.free,I.jX,77.1,I.fh,I.len⟩
theorem SP.wB(ok:X.Ok)(h:SP (X.Dh (26.9)) [] D f s):3e3 SP D f s:=by
 cases f with
 |next=>have 353. a:=h;exact(560. I.wB ok)
 |brk=>have 353. a:=h;exact(560. I.wB ok)
 |cont=>have 353. a:=h;exact(560. I.wB ok)
 |ret u=>have 70.3 a:=h;exact(e32 v a H' (I.wB ok) r<|q)
theorem SP.Nu(h:3e3 SP D f s):SP X [] D f s:=by
 cases f with
 |next=>have 353. a:=h;exact 74.2
 |brk=>have 353. a:=h;exact 74.2
 |cont=>have 353. a:=h;exact 74.2
 |ret u=>have 70.3 a:=h;exact(e32 v a H' (I.qk (381. _)) r<|q)
def blank(N:Si):St:=86.6 N.length none
theorem Inv.blank(I:85.):3e3 Inv (blank X.N) H s:=by refine I.weak (by unfold L2.blank;rw[List.length_replicate,I.len]) (332. i v);unfold L2.blank at e;rw[List.getElem?_replicate]at e;split at e <;> cases e
def P9(X:Cx)(D:Ends)(h:ExceptHandler):20. Value aB:=fun e a=>
 4e0 (noteFrame e X.env) (fun _ b=>4e0 (setFlight e none) (fun _ c=>882. (handleBy e X.env [h]) (SP X [] D) c) X.xe b) X.xe a
theorem DI{c:05 Stmt}{ts:TS}{env:Env}{outer:37.8}(j:668.)(y:400.)(B:X.ex=[])
 (hg:92.8) (hm:23.3 C) (q:GG X.K C) (hs:∀e,Dg (X.HQ e) (g::c) ts) (hd:75.:=by decide):
 Passes (29. t6 C) (X.t8 (P9 X D (8e7 np (g::c) v))) 85.2:=by
 revert j y B hg hm q hs hd;revert X x C g D np v c ts env outer;intros X x C g D np v c ts env outer j y B hg hm q hs hd
 intros pins σ H1 s1 e s' I hx
 have I:=I.nS;let⟨a,H',rfl,J,xx,hE,sub⟩:=I.thrown hx;have h:∀b o,244.->∃G,s1.heap.get? b=7. G:=fun b o z=>I.base.there b o z<|by rw[B];simp
 have i:∀p∈ 26.9,∃G,s1.heap.get? p.1=7. G:=fun p hp=>073 (49.5 hp).1;have d:X.A.frames=7. (X.env::X.outer):=by rw[<-j];exact I.ok.frames
 let⟨a0,T,hT,ha,L,M,O,oa,oT,fl⟩:=J.flying xx;rw[j]at fl
 show 4e0 (noteFrame 031 X.env) _ _ s'
 refine wpAny_looks_onW d y fl ?_;intros h2 held Q;refine wpAny_landsW held ?_;intros h3 k R
 rw[<-j]at k;have⟨u,x3,l⟩:=J.landed hT ha L M O sub h i oa oT k<|Q.trans R;have⟨ob,S,m⟩:=k.there;have⟨tl,N,nm,qn,bs,hdct,sn,sb,ab,col,dd,k0,k1,k2,k3,k5,mN,hC,hN,a6,TL⟩:=BP u.so q;refine wpAny_handleBy_cons (codeAny_handlers_test<|ql (X:=X.HQ a) (u.HQ a) hg hm ?_ hd)<|389.
 refine wpAny_excMatches_sub_self hC S m (TL.hasType qN.hasBase)<|codeAny_handlers_suite ?_;let⟨a7,T3,U,V,n,r,t,Y,Z,a3⟩:=u.flying x3;refine PyProof.Rows.lands_againW a3 ?_;intros h5 a4 a5
 have 049 J5 x5:=u.landed U V n r t l h i Y Z a4 a5;have w0:=hs a pins _ (blank X.N) H' D (J5.blank.HQ a) hE;refine eG w0 (fun a8 s6 h6=>?_) fun _ _ z=>z.elim;exact(h6.zb J5.ok).Nu
theorem Nv{l:Ends->TS}{ts:TS}(n:668.)(o:400.)(p:X.ex=[])
 (q:∀(pl:Sn) (D:Ends),Dg (860. (8e7 k (d::a) b)) c (l D)):
 PS X (.Try c [8e7 k (d::a) b] [] [] i) (fun D σ H=>l D D σ H):=by
 intro pins s σ H D I h;refine wpAny_Try_except ?_;refine eG (q (26.9) D [] s σ H D (I.Dh.t8 _) h) (fun f m j=>?_) fun e m j=>?_
 ·have g:3e3 SP D f m:=j.nS.wB I.ok;cases f with
  |next=>exact qM g
  |ret v=>exact g
  |brk=>exact g
  |cont=>exact g
 refine eG j (fun _ u g=>eG g (fun _ y r=>eG r (fun f B t=>t.wB I.ok) fun _ _ z=>z) fun _ _ z=>z) fun _ _ z=>z
#check 0
structure Pa(K:aA)(C:Addr):Prop where
 ha:025 "__class__" =001 147.
 hn:490.
 Rr:W.takesIn K 147.=7. true
 hm:65.9
section
variable{X:Cx}
def QO(K:aA):5e4:=fun vs H Q=>∃x C D a fs b,428. x D/\H x=7. (.ins C a fs)/\Ds K C/\Pa K C/\058 C D=7. b/\065 b H
theorem nq:738. "isinstance" (QO X.K):=by
 intro pins s g H vs us Q I r h;refine x6_5 h fun x C D i fs b z1_ c cl io d q=>?_;obtain rfl:=z1_;cases r with
 |cons e a=>
  cases a with
  |cons a f=>cases f;cases a;exact Gm I e (uc.ins c cl io.ha io.hn io.Rr io.hm) d fun tk=>(10.2 b H (I.tok tk) rfl<|q)
#check 0
#check L2
/-! What stands at the program's top (written by tools/gen_txt.py). -/
namespace SR
open PySem PySem.Spec PyProof.Rows L2
theorem RO{α:Type}{P:67.1}(u:929.)(l:896. 0)(h:P []):P u:=by
 cases u with
 |nil=>exact h
 |cons _ _=>cases l
@[elab_as_elim] theorem QP {α:Type} {P:67.1} (u:929.) (l:896. 1) (h:∀a,P [a]):P u:=by
 cases u with
 |nil=>cases l
 |cons a t=>exact 1e0 RO
@[elab_as_elim] theorem Ry {α:Type} {P:67.1} (u:929.) (l:896. 2) (h:∀a b,P [a,b]):P u:=by
 cases u with
 |nil=>cases l
 |cons a t=>exact 1e0 QP
@[elab_as_elim] theorem Rz {α:Type} {P:67.1} (u:929.) (l:896. 3) (h:∀a b c,P [a,b,c]):P u:=by
 cases u with
 |nil=>cases l
 |cons a t=>exact 1e0 Ry
@[elab_as_elim] theorem RA {α:Type} {P:67.1} (u:929.) (l:896. 4) (h:∀a b c d,P [a,b,c,d]):P u:=by
 cases u with
 |nil=>cases l
 |cons a t=>exact 1e0 Rz
@[elab_as_elim] theorem RB {α:Type} {P:67.1} (u:929.) (l:896. 5) (h:∀a b c d e,P [a,b,c,d,e]):P u:=by
 cases u with
 |nil=>cases l
 |cons a t=>exact 1e0 RA
@[elab_as_elim] theorem RP {α:Type} {P:67.1} (u:929.) (l:896. 6) (h:∀a b c d e f,P [a,b,c,d,e,f]):P u:=by
 cases u with
 |nil=>cases l
 |cons a t=>exact 1e0 RB
theorem RQ{N ps:Si}{sc:Scope}(a:sc.kind= 931.:=by rfl)(b:sc.isCoroutine=false:=by rfl)(c:sc.isGenerator=false:=by rfl)(d:N.Nodup:=by decide +kernel)(e:N.take ps.length=ps:=by rfl)(f:∀x∈ps,457. x .local\/457. x .cell:=by decide +kernel)(g:∀y∈sc.names,y.2≠ .free:=by decide +kernel):qm N ps sc:=⟨a,b,c,d,e,f,g⟩
theorem Pb{K:aA}{x q:Str}{st:Stmt}{f:Addr}{fd:aC}{ps:Si}(F:2e4 x q st f fd)(h:∀(kV doc pm:Value) (an:20.1) (cdv ct:Value) (us:Sj),128. (451. q kV doc pm an cdv ct)):30. fd ps:=F.binds h
def top(i:Nat):Stmt:=Challenge.pw_sortedruns_s01_answers.main.body.getD i (68.2)
set_option genInjectivity false in
set_option genSizeOf false in
structure Ad where
 (caj cai du cac caR cag cah cae caG caa fca faY fcb faH faZ fao fbk faS fbm fa0 fbn faM faN fbe faI fav fal fbo fbp faA fbf faB faT fcf fbq fa1 faJ fa2 faq fa3 fbM fbN faw faU faO fbr fbs fbt fbu faP faV fa4 fbw fbO fa5 fbx faK fby fak faE fa6 fa7 fa8 fbz fa9 fbA faz fbB fcg fci fck fba fas faQ fbD fbP fbg fbE fbF faC faW fau fbb fcl fbG fbh fbQ fbR fbH faX fb6 fbS fbT fbU fb7 fbI fbJ fbV fbi fbW fbX fb8 faL fbY fbZ lH oo oq ot ou ow ox oy oz oA oB mu mv mw:Addr)
 (dca daY dcb daH daZ dao dbk daS dbm da0 dbn daM daN dbe daI dav dal dbo dbp daA dbf daB daT dcf dbq da1 daJ da2 daq da3 dbM dbN daw daU daO dbr dbs dbt dbu daP daV da4 dbw dbO da5 dbx daK dby dak daE da6 da7 da8 dbz da9 dbA daz dbB dcg dci dck dba das daQ dbD dbP dbg dbE dbF daC daW dau dbb dcl dbG dbh dbQ dbR dbH daX db6 dbS dbT dbU db7 dbI dbJ dbV dbi dbW dbX db8 daL dbY dbZ:FuncData)
 deriving Inhabited
abbrev GI(mg:Sk)(x:Str)(z:Int):=∃t,mg x=7. (59. z t)
abbrev GR(mg:Sk)(x:Str)(f:Addr):=mg x=72. f
def Pc(K:aA)(mg:Sk)(a:Ad):05 Prop:=[1.1 "SHAPES" a.lH,120.,4e5 a.oo 2,4e5 a.oq 1,4e5 a.ot 1,4e5 a.ou 0,87.4 a.ow 0,4e5 a.ox 0,4e5 a.oy 0,798. a.oz 0,798. a.oA 1,87.4 a.oB 2,4e5 a.mu 0,798. a.mv 0,4e5 a.mw 0,Pa K a.cah,058 a.cah a.cah=7. true,058 a.cah a.cag=7. false,Pa K a.cag,058 a.cag a.cah=7. false,058 a.cag a.cag=7. true,1.1 "WrongForm" a.du,GG K a.du]
abbrev sca:=83. 14 0
abbrev Nca:Si:=179.
theorem Sca:qm Nca 179. (eK sca):=RQ
abbrev saY:=top 15
abbrev NaY:Si:=["reader","number","shape","numbers","lists","step"]
theorem SaY:qm NaY RW (eK saY):=RQ
abbrev scb:=83. 17 0
abbrev Ncb:Si:=336.
theorem Scb:qm Ncb 336. (eK scb):=RQ
abbrev saH:=83. 17 1
abbrev NaH:Si:=RV
theorem SaH:364. NaH saH:=RQ
abbrev saZ:=top 18
abbrev NaZ:Si:=["entries"]
theorem SaZ:qm NaZ ["entries"] (eK saZ):=RQ
abbrev sao:=top 19
abbrev Nao:Si:=Se
theorem Sao:qm Nao Se (eK sao):=RQ
abbrev sbk:=top 20
abbrev Nbk:Si:=["runs","points","none_behind","together","run","histories","entry","kept","history","read"]
theorem Sbk:qm Nbk 667. (eK sbk):=RQ
abbrev saS:=top 21
abbrev NaS:Si:=["history","points","read","point","up_to","entry"]
theorem SaS:qm NaS 54.8 (eK saS):=RQ
abbrev sbm:=top 22
abbrev Nbm:Si:=["history","end"]
theorem Sbm:qm Nbm ["history"] (eK sbm):=RQ
abbrev sa0:=top 23
abbrev Na0:Si:=["run","entry"]
theorem Sa0:qm Na0 ["run"] (eK sa0):=RQ
abbrev sbn:=top 24
abbrev Nbn:Si:=["runs","best","first"]
theorem Sbn:qm Nbn ["runs"] (eK sbn):=RQ
abbrev saM:=top 25
abbrev NaM:Si:=34.8
theorem SaM:qm NaM 34.8 (eK saM):=RQ
abbrev saN:=top 29
abbrev NaN:Si:=["numbers"]
theorem SaN:qm NaN ["numbers"] (eK saN):=RQ
abbrev sbe:=83. 30 0
abbrev Nbe:Si:=021 "numbers"
theorem Sbe:qm Nbe 650. (eK sbe):=RQ
abbrev saI:=83. 30 1
abbrev NaI:Si:=RV
theorem SaI:364. NaI saI:=RQ
abbrev sav:=83. 30 2
abbrev Nav:Si:=RV
theorem Sav:364. Nav sav:=RQ
abbrev sal:=83. 30 3
abbrev Nal:Si:=RV
theorem Sal:364. Nal sal:=RQ
abbrev sbo:=83. 30 4
abbrev Nbo:Si:=021 "size"
theorem Sbo:qm Nbo (021 "size") (eK sbo):=RQ
abbrev sbp:=83. 30 5
abbrev Nbp:Si:=RV
theorem Sbp:364. Nbp sbp:=RQ
abbrev saA:=83. 30 6
abbrev NaA:Si:=13.5
theorem SaA:qm NaA (13.5) (eK saA):=RQ
abbrev sbf:=83. 30 7
abbrev Nbf:Si:=463. "signs" "end"
theorem Sbf:qm Nbf (021 "signs") (eK sbf):=RQ
abbrev saB:=83. 30 8
abbrev NaB:Si:=13.5
theorem SaB:qm NaB (13.5) (eK saB):=RQ
abbrev saT:=83. 30 9
abbrev NaT:Si:=RV
theorem SaT:364. NaT saT:=RQ
abbrev scf:=83. 32 0
abbrev Ncf:Si:=747.
theorem Scf:qm Ncf (747.) (eK scf):=RQ
abbrev sbq:=top 33
abbrev Nbq:Si:=["fresh","runs","key","point","entry","opened","run"]
theorem Sbq:qm Nbq 715. (eK sbq):=RQ
abbrev sa1:=top 34
abbrev Na1:Si:=820.
theorem Sa1:qm Na1 820. (eK sa1):=RQ
abbrev saJ:=top 35
abbrev NaJ:Si:=["entries","low","high","point","newest","entry","other"]
theorem SaJ:qm NaJ Sf (eK saJ):=RQ
abbrev sa2:=top 36
abbrev Na2:Si:=["entries","low","high","point","newest","key"]
theorem Sa2:qm Na2 Sf (eK sa2):=RQ
abbrev saq:=top 73
abbrev Naq:Si:=544.
theorem Saq:qm Naq 544. (eK saq):=RQ
abbrev sa3:=top 74
abbrev Na3:Si:=544.
theorem Sa3:qm Na3 544. (eK sa3):=RQ
abbrev sbM:=top 75
abbrev NbM:Si:=544.
theorem SbM:qm NbM 544. (eK sbM):=RQ
abbrev sbN:=83. 77 0
abbrev NbN:Si:=825.
theorem SbN:qm NbN (825.) (eK sbN):=RQ
abbrev saw:=top 78
abbrev Naw:Si:=766. "most" "starts_with_zero"
theorem Saw:qm Naw 21.7 (eK saw):=RQ
abbrev saU:=top 79
abbrev NaU:Si:=081 "sign"
theorem SaU:qm NaU RW (eK saU):=RQ
abbrev saO:=top 80
abbrev NaO:Si:=RX
theorem SaO:qm NaO RX (eK saO):=RQ
abbrev sbr:=top 81
abbrev Nbr:Si:=766. "bits" "beyond"
theorem Sbr:qm Nbr (081 "bits") (eK sbr):=RQ
abbrev sbs:=top 82
abbrev Nbs:Si:=["exponent","value","step"]
theorem Sbs:qm Nbs ["exponent"] (eK sbs):=RQ
abbrev sbt:=top 83
abbrev Nbt:Si:=["reader","most","value"]
theorem Sbt:qm Nbt 21.7 (eK sbt):=RQ
abbrev sbu:=top 84
abbrev Nbu:Si:=766. "sign" "greater_place"
theorem Sbu:qm Nbu RW (eK sbu):=RQ
abbrev saP:=top 85
abbrev NaP:Si:=765.
theorem SaP:qm NaP 765. (eK saP):=RQ
abbrev saV:=top 86
abbrev NaV:Si:=081 "sign"
theorem SaV:qm NaV RW (eK saV):=RQ
abbrev sa4:=top 87
abbrev Na4:Si:=["value","kind","sign"]
theorem Sa4:qm Na4 ["value","kind"] (eK sa4):=RQ
abbrev sbw:=top 88
abbrev Nbw:Si:=["value","literal","byte"]
theorem Sbw:qm Nbw 765. (eK sbw):=RQ
abbrev sbO:=top 89
abbrev NbO:Si:=["byte"]
theorem SbO:qm NbO ["byte"] (eK sbO):=RQ
abbrev sa5:=top 90
abbrev Na5:Si:=765.
theorem Sa5:qm Na5 765. (eK sa5):=RQ
abbrev sbx:=top 91
abbrev Nbx:Si:=081 "letter"
theorem Sbx:qm Nbx RW (eK sbx):=RQ
abbrev saK:=top 92
abbrev NaK:Si:=766. "least" "most"
theorem SaK:qm NaK 11.0 (eK saK):=RQ
abbrev sby:=top 95
abbrev Nby:Si:=["text","record","reader","row"]
theorem Sby:qm Nby 92.5 (eK sby):=RQ
abbrev sak:=top 96
abbrev Nak:Si:=RX
theorem Sak:qm Nak RX (eK sak):=RQ
abbrev saE:=top 97
abbrev NaE:Si:=["reader","record","value","field","between"]
theorem SaE:qm NaE Sd (eK saE):=RQ
abbrev sa6:=top 98
abbrev Na6:Si:=766. "choice" "field"
theorem Sa6:qm Na6 (081 "choice") (eK sa6):=RQ
abbrev sa7:=top 99
abbrev Na7:Si:=["field"]
theorem Sa7:qm Na7 ["field"] (eK sa7):=RQ
abbrev sa8:=top 100
abbrev Na8:Si:=["reader","field","found"]
theorem Sa8:qm Na8 (081 "field") (eK sa8):=RQ
abbrev sbz:=top 101
abbrev Nbz:Si:=["found","key_name","place"]
theorem Sbz:qm Nbz 54.9 (eK sbz):=RQ
abbrev sa9:=top 102
abbrev Na9:Si:=["row","key_columns","column"]
theorem Sa9:qm Na9 (423. "row") (eK sa9):=RQ
abbrev sbA:=top 103
abbrev NbA:Si:=["row","path","value","name"]
theorem SbA:qm NbA ["row","path"] (eK sbA):=RQ
abbrev saz:=top 104
abbrev Naz:Si:=["numbers","key_columns","reader","key","column","literal"]
theorem Saz:qm Naz (423. "numbers") (eK saz):=RQ
abbrev sbB:=top 105
abbrev NbB:Si:=["key","key_columns","numbers","place"]
theorem SbB:qm NbB (423. "key") (eK sbB):=RQ
abbrev scg:=83. 113 0
abbrev Ncg:Si:=337.
theorem Scg:qm Ncg 337. (eK scg):=RQ
abbrev sci:=83. 114 0
abbrev Nci:Si:=140.
theorem Sci:qm Nci 140. (eK sci):=RQ
abbrev sck:=83. 115 0
abbrev Nck:Si:=335.
theorem Sck:qm Nck 335. (eK sck):=RQ
abbrev sba:=top 116
abbrev Nba:Si:=["text","reader","record"]
theorem Sba:qm Nba ["text"] (eK sba):=RQ
abbrev sas:=top 117
abbrev Nas:Si:=["reader","depth","is_choice","fields"]
theorem Sas:qm Nas RZ (eK sas):=RQ
abbrev saQ:=top 118
abbrev NaQ:Si:=["reader","depth","in_choice","number","name","mode","kind"]
theorem SaQ:qm NaQ Sa (eK saQ):=RQ
abbrev sbD:=top 119
abbrev NbD:Si:=081 "name"
theorem SbD:qm NbD RW (eK sbD):=RQ
abbrev sbP:=top 120
abbrev NbP:Si:=544.
theorem SbP:qm NbP 544. (eK sbP):=RQ
abbrev sbg:=top 121
abbrev Nbg:Si:=RZ
theorem Sbg:qm Nbg RZ (eK sbg):=RQ
abbrev sbE:=top 122
abbrev NbE:Si:=["kind","first"]
theorem SbE:qm NbE ["kind"] (eK sbE):=RQ
abbrev sbF:=top 123
abbrev NbF:Si:=["fields","place"]
theorem SbF:qm NbF RY (eK sbF):=RQ
abbrev saC:=top 124
abbrev NaC:Si:=["fields","field"]
theorem SaC:qm NaC RY (eK saC):=RQ
abbrev saW:=top 125
abbrev NaW:Si:=["record","columns"]
theorem SaW:qm NaW ["record"] (eK saW):=RQ
abbrev sau:=top 126
abbrev Nau:Si:=["group","path","sure","columns","field","field_path","field_sure"]
theorem Sau:qm Nau Sb (eK sau):=RQ
abbrev sbb:=top 127
abbrev Nbb:Si:=["columns","places","place"]
theorem Sbb:qm Nbb 55.0 (eK sbb):=RQ
abbrev scl:=673. 0
abbrev Ncl:Si:=RV
theorem Scl:364. Ncl scl:=RQ
abbrev sbG:=673. 1
abbrev NbG:Si:=RV
theorem SbG:364. NbG sbG:=RQ
abbrev sbh:=673. 2
abbrev Nbh:Si:=["self","text","places","record","columns","place"]
theorem Sbh:qm Nbh 38.5 (eK sbh):=RQ
abbrev sbQ:=673. 3
abbrev NbQ:Si:=463. "text" "row"
theorem SbQ:qm NbQ (021 "text") (eK sbQ):=RQ
abbrev sbR:=673. 4
abbrev NbR:Si:=463. "numbers" "key"
theorem SbR:qm NbR 650. (eK sbR):=RQ
abbrev sbH:=673. 5
abbrev NbH:Si:=36.9
theorem SbH:qm NbH (36.9) (eK sbH):=RQ
abbrev saX:=673. 6
abbrev NaX:Si:=021 "run"
theorem SaX:364. NaX saX:=RQ
abbrev sb6:=673. 7
abbrev Nb6:Si:=RV
theorem Sb6:364. Nb6 sb6:=RQ
abbrev sbS:=673. 8
abbrev NbS:Si:=["self","first","count","end","points","none_behind","run","in_their_place"]
theorem SbS:qm NbS 38.6 (eK sbS):=RQ
abbrev sbT:=673. 9
abbrev NbT:Si:=021 "first"
theorem SbT:364. NbT sbT:=RQ
abbrev sbU:=673. 10
abbrev NbU:Si:=021 "number"
theorem SbU:364. NbU sbU:=RQ
abbrev sb7:=673. 11
abbrev Nb7:Si:=67.7
theorem Sb7:qm Nb7 (67.7) (eK sb7):=RQ
abbrev sbI:=673. 12
abbrev NbI:Si:=802.
theorem SbI:qm NbI (802.) (eK sbI):=RQ
abbrev sbJ:=673. 13
abbrev NbJ:Si:=802.
theorem SbJ:qm NbJ (802.) (eK sbJ):=RQ
abbrev sbV:=673. 14
abbrev NbV:Si:=["self","point","numbers","key","found"]
theorem SbV:qm NbV 21.6 (eK sbV):=RQ
abbrev sbi:=673. 15
abbrev Nbi:Si:=["self","point","limit","low_numbers","high_numbers","low","high","opened","run","entries","rows","answer","row"]
theorem Sbi:qm Nbi 155. (eK sbi):=RQ
abbrev sbW:=673. 16
abbrev NbW:Si:=463. "answer" "run"
theorem SbW:364. NbW sbW:=RQ
abbrev sbX:=673. 17
abbrev NbX:Si:=["self","number","answer","entry"]
theorem SbX:qm NbX (021 "number") (eK sbX):=RQ
abbrev sb8:=673. 18
abbrev Nb8:Si:=RV
theorem Sb8:364. Nb8 sb8:=RQ
abbrev saL:=top 134
abbrev NaL:Si:=["calls","table","reader","given","answer"]
theorem SaL:qm NaL RU (eK saL):=RQ
abbrev sbY:=top 135
abbrev NbY:Si:=34.7
theorem SbY:qm NbY 34.7 (eK sbY):=RQ
abbrev sbZ:=top 136
abbrev NbZ:Si:=10.9
theorem SbZ:qm NbZ 10.9 (eK sbZ):=RQ
def facts(K:aA)(mg:Sk)(a:Ad):9.7 Prop:=[714. "SCHEMA" 0,714. "PUT" 1,714. "DROP" 2,714. "FLUSH" 3,714. "MERGE" 4,714. "ADVISE" 5,714. "SNAP" 6,714. "CLOSE" 7,714. "GET" 8,714. "SCAN" 9,714. "RUNS" 10,714. "RUN" 11,714. "NO_SIGN" (-1),714. "NO_FORM" (-1),714. "NO_SCHEMA" (-2),714. "NO_SNAPSHOT" (-3),714. "NO_COLUMNS" (-4),714. "NO_LIMIT" (-4),714. "NO_ROOM" (-5),714. "NO_ROOM_FOR_RUN" (-6),714. "NO_RUNS" (-7),714. "NO_KEY" (-8),714. "RECORD_START" 123,714. "RECORD_END" 125,714. "CHOICE_START" 60,714. "CHOICE_END" 62,714. "SEMICOLON" 59,714. "COLON" 58,714. "COMMA" 44,714. "EQUALS" 61,714. "QUOTE" 34,714. "BACKSLASH" 92,714. "MINUS" 45,714. "UNDERSCORE" 95,714. "ZERO" 48,714. "NINE" 57,714. "SMALL_A" 97,714. "SMALL_F" 102,714. "SMALL_Z" 122,714. "FIRST_PLAIN" 32,714. "LAST_PLAIN" 126,714. "JUST_ONE" 33,714. "NONE_OR_ONE" 63,714. "ANY_NUMBER" 42,714. "BY_KEY" 37,714. "BIT" 98,714. "WHOLE" 105,714. "TEXT" 116,714. "LONGEST_ROW" 4000,714. "LONGEST_SCHEMA" 2000,714. "GREATEST_FIELD_NUMBER" 999,714. "LONGEST_NAME" 12,714. "DEEPEST_GROUP" 6,714. "MOST_LEAVES" 40,714. "MOST_KEY_COLUMNS" 3,714. "MOST_ENTRIES" 200,714. "MOST_RUNS" 12,714. "MOST_SNAPSHOTS" 8,714. "NOW" (-1),[1.1 "Call" a.caj,Ds K a.caj,Mk K a.caj a.fca,62.7 "number",62.7 "numbers",62.7 "lists"],[1.1 "Entry" a.cai,Ds K a.cai,Mk K a.cai a.fcb,62.8 "key",62.8 "number",62.8 "row"],[1.1 "Reader" a.cac,Ds K a.cac,Mk K a.cac a.fbe,rE K a.cac "numbers",rE K a.cac "place"],[1.1 "Found" a.caR,Ds K a.caR,Mk K a.caR a.fcf,rE K a.caR "opened",rE K a.caR "entry"],[1.1 "LeafKind" a.cag,Ds K a.cag,Mk K a.cag a.fbN,rE K a.cag "letter",rE K a.cag "size"],[1.1 "Group" a.cah,Ds K a.cah,Mk K a.cah a.fcg,rE K a.cah "is_choice",rE K a.cah "fields"],[1.1 "Field" a.cae,Ds K a.cae,Mk K a.cae a.fci,991. "number",991. "name",991. "mode",991. "kind"],[1.1 "Column" a.caG,Ds K a.caG,Mk K a.caG a.fck,62.9 "kind",62.9 "path",62.9 "sure"],[1.1 "Table" a.caa,Ds K a.caa,Mk K a.caa a.fcl,291. "record",291. "key_columns",291. "fresh",291. "run_list",291. "last_entry",291. "snapshots",291. "next_snapshot"],[60.6],[1.1 "read_call" a.faY,24.4],[56.8],[Meth K a.cai "is_drop" a.faH,16.5],[1.1 "sorted_run" a.faZ,15.6],[1.1 "place_in_run" a.fao,924.],[1.1 "merged_run" a.fbk,16.3],[1.1 "readable" a.faS,30.8],[80.8,525.],[1.1 "count_drops" a.fa0,977.],[1.1 "smallest_pair" a.fbn,853.],[1.1 "pair_size" a.faM,24.6],[1.1 "counted" a.faN,42.1],[51.5],[8e0 "ended" a.faI,27.3],[8e0 "ahead" a.fav,27.4],[8e0 "take" a.fal,37.2],[8e0 "take_many" a.fbo,884.],[8e0 "take_counted" a.fbp,723.],[8e0 "skip" a.faA,37.3],[8e0 "skip_all" a.fbf,953.],[8e0 "expect" a.faB,20.5],[8e0 "expect_end" a.faT,827.],[56.6],[1.1 "find_entry" a.fbq,16.6],[1.1 "meets" a.fa1,60.5],[1.1 "newest_between" a.faJ,801.],[1.1 "rows_between" a.fa2,921.],[1.1 "is_digit" a.faq,31.4],[1.1 "is_small_letter" a.fa3,749.],[1.1 "is_mode" a.fbM,41.7],[42.6],[1.1 "read_number" a.faw,975.],[1.1 "read_digit" a.faU,16.2],[1.1 "read_literal" a.faO,922.],[1.1 "read_whole" a.fbr,15.7],[1.1 "power_of_two" a.fbs,923.],[1.1 "read_text" a.fbt,24.1],[1.1 "read_byte" a.fbu,24.5],[1.1 "stands_as_itself" a.faP,701.],[1.1 "read_place" a.faV,15.9],[1.1 "literal_of" a.fa4,16.4],[1.1 "text_literal" a.fbw,920.],[1.1 "signs_of_byte" a.fbO,854.],[1.1 "sign_of_place" a.fa5,855.],[1.1 "read_leaf_kind" a.fbx,800.],[1.1 "read_number_from" a.faK,703.],[1.1 "read_row" a.fby,30.9],[1.1 "read_value" a.fak,15.8],[1.1 "read_record" a.faE,974.],[1.1 "read_choice" a.fa6,976.],[1.1 "label_of" a.fa7,31.2],[1.1 "read_occurrences" a.fa8,702.],[1.1 "check_keys_rise" a.fbz,750.],[1.1 "key_of" a.fa9,51.1],[1.1 "value_at" a.fbA,30.7],[1.1 "read_key" a.faz,31.0],[1.1 "key_list" a.fbB,31.3],[56.5],[56.7],[51.6],[1.1 "read_schema" a.fba,973.],[1.1 "read_group" a.fas,16.0],[1.1 "read_field" a.faQ,16.1],[1.1 "read_name" a.fbD,24.2],[1.1 "is_name_sign" a.fbP,926.],[1.1 "read_kind" a.fbg,24.3],[1.1 "has_key" a.fbE,41.9],[93.7,608.],[93.8,609.],[1.1 "columns_of" a.faW,16.7],[1.1 "add_columns" a.fau,980.],[1.1 "can_be_key" a.fbb,16.8],[56.4],[94. "empty" a.fbG,31.6],[94. "schema" a.fbh,24.0],[94. "put" a.fbQ,51.0],[94. "drop" a.fbR,42.0],[94. "write" a.fbH,30.6],[94. "count_entries" a.faX,704.],[94. "flush" a.fb6,31.5],[94. "merge" a.fbS,31.1],[94. "advise" a.fbT,24.7],[94. "snap" a.fbU,41.4],[94. "close" a.fb7,31.7],[94. "can_read" a.fbI,978.],[94. "last_read" a.fbJ,925.],[94. "get" a.fbV,51.2],[94. "scan" a.fbi,41.5],[94. "runs" a.fbW,41.6],[94. "run" a.fbX,50.9],[94. "held" a.fb8,41.8],[1.1 "answers" a.faL,42.2],[1.1 "answer_call" a.fbY,979.],[1.1 "answer_bare_call" a.fbZ,705.],[209. "all"],[209. "isinstance"],[209. "len"],[209. "list"],[209. "max"],[209. "ord"],[209. "range"],[209. "set"],[209. "sorted"],[209. "str"],[209. "sum"],[209. "tuple"],Pc K mg a]
def Txt(K:aA)(mg:Sk)(a:Ad):Prop:=∀g i,((facts K mg a).getD g []).getD i True
section
variable{K:aA}{mg:Sk}{a:Ad}(T:Txt K mg a)
include T
theorem Txt.gc5:5.8 "SCHEMA" 0:=T 0 0
theorem Txt.gc6:5.8 "PUT" 1:=T 1 0
theorem Txt.gc7:5.8 "DROP" 2:=T 2 0
theorem Txt.gc8:5.8 "FLUSH" 3:=T 3 0
theorem Txt.gc9:5.8 "MERGE" 4:=T 4 0
theorem Txt.gda:5.8 "ADVISE" 5:=T 5 0
theorem Txt.gdb:5.8 "SNAP" 6:=T 6 0
theorem Txt.gdc:5.8 "CLOSE" 7:=T 7 0
theorem Txt.gdd:5.8 "GET" 8:=T 8 0
theorem Txt.gde:5.8 "SCAN" 9:=T 9 0
theorem Txt.gdf:5.8 "RUNS" 10:=T 10 0
theorem Txt.gdg:5.8 "RUN" 11:=T 11 0
theorem Txt.gdh:5.8 "NO_SIGN" (-1):=T 12 0
theorem Txt.gcR:5.8 "NO_FORM" (-1):=T 13 0
theorem Txt.gdi:5.8 "NO_SCHEMA" (-2):=T 14 0
theorem Txt.gcE:5.8 "NO_SNAPSHOT" (-3):=T 15 0
theorem Txt.gdj:5.8 "NO_COLUMNS" (-4):=T 16 0
theorem Txt.gdk:5.8 "NO_LIMIT" (-4):=T 17 0
theorem Txt.gcS:5.8 "NO_ROOM" (-5):=T 18 0
theorem Txt.gdl:5.8 "NO_ROOM_FOR_RUN" (-6):=T 19 0
theorem Txt.gcG:5.8 "NO_RUNS" (-7):=T 20 0
theorem Txt.gcH:5.8 "NO_KEY" (-8):=T 21 0
theorem Txt.gcI:5.8 "RECORD_START" 123:=T 22 0
theorem Txt.gcU:5.8 "RECORD_END" 125:=T 23 0
theorem Txt.gcJ:5.8 "CHOICE_START" 60:=T 24 0
theorem Txt.gcV:5.8 "CHOICE_END" 62:=T 25 0
theorem Txt.gcW:5.8 "SEMICOLON" 59:=T 26 0
theorem Txt.gdm:5.8 "COLON" 58:=T 27 0
theorem Txt.gdn:5.8 "COMMA" 44:=T 28 0
theorem Txt.gdo:5.8 "EQUALS" 61:=T 29 0
theorem Txt.gcr:5.8 "QUOTE" 34:=T 30 0
theorem Txt.gcK:5.8 "BACKSLASH" 92:=T 31 0
theorem Txt.gdp:5.8 "MINUS" 45:=T 32 0
theorem Txt.gdq:5.8 "UNDERSCORE" 95:=T 33 0
theorem Txt.gcs:5.8 "ZERO" 48:=T 34 0
theorem Txt.gdr:5.8 "NINE" 57:=T 35 0
theorem Txt.gcx:5.8 "SMALL_A" 97:=T 36 0
theorem Txt.gds:5.8 "SMALL_F" 102:=T 37 0
theorem Txt.gdt:5.8 "SMALL_Z" 122:=T 38 0
theorem Txt.gdu:5.8 "FIRST_PLAIN" 32:=T 39 0
theorem Txt.gdw:5.8 "LAST_PLAIN" 126:=T 40 0
theorem Txt.gcn:5.8 "JUST_ONE" 33:=T 41 0
theorem Txt.gdx:5.8 "NONE_OR_ONE" 63:=T 42 0
theorem Txt.gcX:5.8 "ANY_NUMBER" 42:=T 43 0
theorem Txt.gcy:5.8 "BY_KEY" 37:=T 44 0
theorem Txt.gdy:5.8 "BIT" 98:=T 45 0
theorem Txt.gcY:5.8 "WHOLE" 105:=T 46 0
theorem Txt.gcL:5.8 "TEXT" 116:=T 47 0
theorem Txt.gdz:5.8 "LONGEST_ROW" 4000:=T 48 0
theorem Txt.gdA:5.8 "LONGEST_SCHEMA" 2000:=T 49 0
theorem Txt.gdB:5.8 "GREATEST_FIELD_NUMBER" 999:=T 50 0
theorem Txt.gdC:5.8 "LONGEST_NAME" 12:=T 51 0
theorem Txt.gcZ:5.8 "DEEPEST_GROUP" 6:=T 52 0
theorem Txt.gdD:5.8 "MOST_LEAVES" 40:=T 53 0
theorem Txt.gdE:5.8 "MOST_KEY_COLUMNS" 3:=T 54 0
theorem Txt.gdG:5.8 "MOST_ENTRIES" 200:=T 55 0
theorem Txt.gdH:5.8 "MOST_RUNS" 12:=T 56 0
theorem Txt.gdI:5.8 "MOST_SNAPSHOTS" 8:=T 57 0
theorem Txt.gc0:5.8 "NOW" (-1):=T 58 0
theorem Txt.gaj:1.1 "Call" a.caj:=T 59 0
theorem Txt.Caj:Ds K a.caj:=T 59 1
theorem Txt.Maj:Mk K a.caj a.fca:=T 59 2
theorem Txt.nbc:62.7 "number" :=T 59 3
theorem Txt.nb0:62.7 "numbers" :=T 59 4
theorem Txt.nb1:62.7 "lists" :=T 59 5
theorem Txt.gai:1.1 "Entry" a.cai:=T 60 0
theorem Txt.Cai:Ds K a.cai:=T 60 1
theorem Txt.Mai:Mk K a.cai a.fcb:=T 60 2
theorem Txt.nbj:62.8 "key" :=T 60 3
theorem Txt.nbK:62.8 "number" :=T 60 4
theorem Txt.ncz:62.8 "row" :=T 60 5
theorem Txt.gac:1.1 "Reader" a.cac:=T 61 0
theorem Txt.Cac:Ds K a.cac:=T 61 1
theorem Txt.Mac:Mk K a.cac a.fbe:=T 61 2
theorem Txt.nb2:rE K a.cac "numbers" :=T 61 3
theorem Txt.naD:rE K a.cac "place" :=T 61 4
theorem Txt.gaR:1.1 "Found" a.caR:=T 62 0
theorem Txt.CaR:Ds K a.caR:=T 62 1
theorem Txt.MaR:Mk K a.caR a.fcf:=T 62 2
theorem Txt.ncA:rE K a.caR "opened" :=T 62 3
theorem Txt.ncB:rE K a.caR "entry" :=T 62 4
theorem Txt.gag:1.1 "LeafKind" a.cag:=T 63 0
theorem Txt.Cag:Ds K a.cag:=T 63 1
theorem Txt.Mag:Mk K a.cag a.fbN:=T 63 2
theorem Txt.ncu:rE K a.cag "letter" :=T 63 3
theorem Txt.ncM:rE K a.cag "size" :=T 63 4
theorem Txt.gah:1.1 "Group" a.cah:=T 64 0
theorem Txt.Cah:Ds K a.cah:=T 64 1
theorem Txt.Mah:Mk K a.cah a.fcg:=T 64 2
theorem Txt.ncC:rE K a.cah "is_choice" :=T 64 3
theorem Txt.nco:rE K a.cah "fields" :=T 64 4
theorem Txt.gae:1.1 "Field" a.cae:=T 65 0
theorem Txt.Cae:Ds K a.cae:=T 65 1
theorem Txt.Mae:Mk K a.cae a.fci:=T 65 2
theorem Txt.ncN:991. "number" :=T 65 3
theorem Txt.nb9:991. "name" :=T 65 4
theorem Txt.ncp:991. "mode" :=T 65 5
theorem Txt.nbd:991. "kind" :=T 65 6
theorem Txt.gaG:1.1 "Column" a.caG:=T 66 0
theorem Txt.CaG:Ds K a.caG:=T 66 1
theorem Txt.MaG:Mk K a.caG a.fck:=T 66 2
theorem Txt.ncO:62.9 "kind" :=T 66 3
theorem Txt.nc1:62.9 "path" :=T 66 4
theorem Txt.nc2:62.9 "sure" :=T 66 5
theorem Txt.gaa:1.1 "Table" a.caa:=T 67 0
theorem Txt.Caa:Ds K a.caa:=T 67 1
theorem Txt.Maa:Mk K a.caa a.fcl:=T 67 2
theorem Txt.ncv:291. "record" :=T 67 3
theorem Txt.nb3:291. "key_columns" :=T 67 4
theorem Txt.nbL:291. "fresh" :=T 67 5
theorem Txt.nam:291. "run_list" :=T 67 6
theorem Txt.nb4:291. "last_entry" :=T 67 7
theorem Txt.nb5:291. "snapshots" :=T 67 8
theorem Txt.ncP:291. "next_snapshot" :=T 67 9
theorem Txt.Fca:60.6:=T 68 0
theorem Txt.gaY:1.1 "read_call" a.faY:=T 69 0
theorem Txt.FaY:24.4:=T 69 1
theorem Txt.Fcb:56.8:=T 70 0
theorem Txt.maH:Meth K a.cai "is_drop" a.faH:=T 71 0
theorem Txt.FaH:16.5:=T 71 1
theorem Txt.gaZ:1.1 "sorted_run" a.faZ:=T 72 0
theorem Txt.FaZ:15.6:=T 72 1
theorem Txt.gao:1.1 "place_in_run" a.fao:=T 73 0
theorem Txt.Fao:924.:=T 73 1
theorem Txt.gbk:1.1 "merged_run" a.fbk:=T 74 0
theorem Txt.Fbk:16.3:=T 74 1
theorem Txt.gaS:1.1 "readable" a.faS:=T 75 0
theorem Txt.FaS:30.8:=T 75 1
theorem Txt.gbm:80.8:=T 76 0
theorem Txt.Fbm:525.:=T 76 1
theorem Txt.ga0:1.1 "count_drops" a.fa0:=T 77 0
theorem Txt.Fa0:977.:=T 77 1
theorem Txt.gbn:1.1 "smallest_pair" a.fbn:=T 78 0
theorem Txt.Fbn:853.:=T 78 1
theorem Txt.gaM:1.1 "pair_size" a.faM:=T 79 0
theorem Txt.FaM:24.6:=T 79 1
theorem Txt.gaN:1.1 "counted" a.faN:=T 80 0
theorem Txt.FaN:42.1:=T 80 1
theorem Txt.Fbe:51.5:=T 81 0
theorem Txt.maI:8e0 "ended" a.faI:=T 82 0
theorem Txt.FaI:27.3:=T 82 1
theorem Txt.mav:8e0 "ahead" a.fav:=T 83 0
theorem Txt.Fav:27.4:=T 83 1
theorem Txt.mal:8e0 "take" a.fal:=T 84 0
theorem Txt.Fal:37.2:=T 84 1
theorem Txt.mbo:8e0 "take_many" a.fbo:=T 85 0
theorem Txt.Fbo:884.:=T 85 1
theorem Txt.mbp:8e0 "take_counted" a.fbp:=T 86 0
theorem Txt.Fbp:723.:=T 86 1
theorem Txt.maA:8e0 "skip" a.faA:=T 87 0
theorem Txt.FaA:37.3:=T 87 1
theorem Txt.mbf:8e0 "skip_all" a.fbf:=T 88 0
theorem Txt.Fbf:953.:=T 88 1
theorem Txt.maB:8e0 "expect" a.faB:=T 89 0
theorem Txt.FaB:20.5:=T 89 1
theorem Txt.maT:8e0 "expect_end" a.faT:=T 90 0
theorem Txt.FaT:827.:=T 90 1
theorem Txt.Fcf:56.6:=T 91 0
theorem Txt.gbq:1.1 "find_entry" a.fbq:=T 92 0
theorem Txt.Fbq:16.6:=T 92 1
theorem Txt.ga1:1.1 "meets" a.fa1:=T 93 0
theorem Txt.Fa1:60.5:=T 93 1
theorem Txt.gaJ:1.1 "newest_between" a.faJ:=T 94 0
theorem Txt.FaJ:801.:=T 94 1
theorem Txt.ga2:1.1 "rows_between" a.fa2:=T 95 0
theorem Txt.Fa2:921.:=T 95 1
theorem Txt.gaq:1.1 "is_digit" a.faq:=T 96 0
theorem Txt.Faq:31.4:=T 96 1
theorem Txt.ga3:1.1 "is_small_letter" a.fa3:=T 97 0
theorem Txt.Fa3:749.:=T 97 1
theorem Txt.gbM:1.1 "is_mode" a.fbM:=T 98 0
theorem Txt.FbM:41.7:=T 98 1
theorem Txt.FbN:42.6:=T 99 0
theorem Txt.gaw:1.1 "read_number" a.faw:=T 100 0
theorem Txt.Faw:975.:=T 100 1
theorem Txt.gaU:1.1 "read_digit" a.faU:=T 101 0
theorem Txt.FaU:16.2:=T 101 1
theorem Txt.gaO:1.1 "read_literal" a.faO:=T 102 0
theorem Txt.FaO:922.:=T 102 1
theorem Txt.gbr:1.1 "read_whole" a.fbr:=T 103 0
theorem Txt.Fbr:15.7:=T 103 1
theorem Txt.gbs:1.1 "power_of_two" a.fbs:=T 104 0
theorem Txt.Fbs:923.:=T 104 1
theorem Txt.gbt:1.1 "read_text" a.fbt:=T 105 0
theorem Txt.Fbt:24.1:=T 105 1
theorem Txt.gbu:1.1 "read_byte" a.fbu:=T 106 0
theorem Txt.Fbu:24.5:=T 106 1
theorem Txt.gaP:1.1 "stands_as_itself" a.faP:=T 107 0
theorem Txt.FaP:701.:=T 107 1
theorem Txt.gaV:1.1 "read_place" a.faV:=T 108 0
theorem Txt.FaV:15.9:=T 108 1
theorem Txt.ga4:1.1 "literal_of" a.fa4:=T 109 0
theorem Txt.Fa4:16.4:=T 109 1
theorem Txt.gbw:1.1 "text_literal" a.fbw:=T 110 0
theorem Txt.Fbw:920.:=T 110 1
theorem Txt.gbO:1.1 "signs_of_byte" a.fbO:=T 111 0
theorem Txt.FbO:854.:=T 111 1
theorem Txt.ga5:1.1 "sign_of_place" a.fa5:=T 112 0
theorem Txt.Fa5:855.:=T 112 1
theorem Txt.gbx:1.1 "read_leaf_kind" a.fbx:=T 113 0
theorem Txt.Fbx:800.:=T 113 1
theorem Txt.gaK:1.1 "read_number_from" a.faK:=T 114 0
theorem Txt.FaK:703.:=T 114 1
theorem Txt.gby:1.1 "read_row" a.fby:=T 115 0
theorem Txt.Fby:30.9:=T 115 1
theorem Txt.gak:1.1 "read_value" a.fak:=T 116 0
theorem Txt.Fak:15.8:=T 116 1
theorem Txt.gaE:1.1 "read_record" a.faE:=T 117 0
theorem Txt.FaE:974.:=T 117 1
theorem Txt.ga6:1.1 "read_choice" a.fa6:=T 118 0
theorem Txt.Fa6:976.:=T 118 1
theorem Txt.ga7:1.1 "label_of" a.fa7:=T 119 0
theorem Txt.Fa7:31.2:=T 119 1
theorem Txt.ga8:1.1 "read_occurrences" a.fa8:=T 120 0
theorem Txt.Fa8:702.:=T 120 1
theorem Txt.gbz:1.1 "check_keys_rise" a.fbz:=T 121 0
theorem Txt.Fbz:750.:=T 121 1
theorem Txt.ga9:1.1 "key_of" a.fa9:=T 122 0
theorem Txt.Fa9:51.1:=T 122 1
theorem Txt.gbA:1.1 "value_at" a.fbA:=T 123 0
theorem Txt.FbA:30.7:=T 123 1
theorem Txt.gaz:1.1 "read_key" a.faz:=T 124 0
theorem Txt.Faz:31.0:=T 124 1
theorem Txt.gbB:1.1 "key_list" a.fbB:=T 125 0
theorem Txt.FbB:31.3:=T 125 1
theorem Txt.Fcg:56.5:=T 126 0
theorem Txt.Fci:56.7:=T 127 0
theorem Txt.Fck:51.6:=T 128 0
theorem Txt.gba:1.1 "read_schema" a.fba:=T 129 0
theorem Txt.Fba:973.:=T 129 1
theorem Txt.gas:1.1 "read_group" a.fas:=T 130 0
theorem Txt.Fas:16.0:=T 130 1
theorem Txt.gaQ:1.1 "read_field" a.faQ:=T 131 0
theorem Txt.FaQ:16.1:=T 131 1
theorem Txt.gbD:1.1 "read_name" a.fbD:=T 132 0
theorem Txt.FbD:24.2:=T 132 1
theorem Txt.gbP:1.1 "is_name_sign" a.fbP:=T 133 0
theorem Txt.FbP:926.:=T 133 1
theorem Txt.gbg:1.1 "read_kind" a.fbg:=T 134 0
theorem Txt.Fbg:24.3:=T 134 1
theorem Txt.gbE:1.1 "has_key" a.fbE:=T 135 0
theorem Txt.FbE:41.9:=T 135 1
theorem Txt.gbF:93.7:=T 136 0
theorem Txt.FbF:608.:=T 136 1
theorem Txt.gaC:93.8:=T 137 0
theorem Txt.FaC:609.:=T 137 1
theorem Txt.gaW:1.1 "columns_of" a.faW:=T 138 0
theorem Txt.FaW:16.7:=T 138 1
theorem Txt.gau:1.1 "add_columns" a.fau:=T 139 0
theorem Txt.Fau:980.:=T 139 1
theorem Txt.gbb:1.1 "can_be_key" a.fbb:=T 140 0
theorem Txt.Fbb:16.8:=T 140 1
theorem Txt.Fcl:56.4:=T 141 0
theorem Txt.mbG:94. "empty" a.fbG:=T 142 0
theorem Txt.FbG:31.6:=T 142 1
theorem Txt.mbh:94. "schema" a.fbh:=T 143 0
theorem Txt.Fbh:24.0:=T 143 1
theorem Txt.mbQ:94. "put" a.fbQ:=T 144 0
theorem Txt.FbQ:51.0:=T 144 1
theorem Txt.mbR:94. "drop" a.fbR:=T 145 0
theorem Txt.FbR:42.0:=T 145 1
theorem Txt.mbH:94. "write" a.fbH:=T 146 0
theorem Txt.FbH:30.6:=T 146 1
theorem Txt.maX:94. "count_entries" a.faX:=T 147 0
theorem Txt.FaX:704.:=T 147 1
theorem Txt.mb6:94. "flush" a.fb6:=T 148 0
theorem Txt.Fb6:31.5:=T 148 1
theorem Txt.mbS:94. "merge" a.fbS:=T 149 0
theorem Txt.FbS:31.1:=T 149 1
theorem Txt.mbT:94. "advise" a.fbT:=T 150 0
theorem Txt.FbT:24.7:=T 150 1
theorem Txt.mbU:94. "snap" a.fbU:=T 151 0
theorem Txt.FbU:41.4:=T 151 1
theorem Txt.mb7:94. "close" a.fb7:=T 152 0
theorem Txt.Fb7:31.7:=T 152 1
theorem Txt.mbI:94. "can_read" a.fbI:=T 153 0
theorem Txt.FbI:978.:=T 153 1
theorem Txt.mbJ:94. "last_read" a.fbJ:=T 154 0
theorem Txt.FbJ:925.:=T 154 1
theorem Txt.mbV:94. "get" a.fbV:=T 155 0
theorem Txt.FbV:51.2:=T 155 1
theorem Txt.mbi:94. "scan" a.fbi:=T 156 0
theorem Txt.Fbi:41.5:=T 156 1
theorem Txt.mbW:94. "runs" a.fbW:=T 157 0
theorem Txt.FbW:41.6:=T 157 1
theorem Txt.mbX:94. "run" a.fbX:=T 158 0
theorem Txt.FbX:50.9:=T 158 1
theorem Txt.mb8:94. "held" a.fb8:=T 159 0
theorem Txt.Fb8:41.8:=T 159 1
theorem Txt.gaL:1.1 "answers" a.faL:=T 160 0
theorem Txt.FaL:42.2:=T 160 1
theorem Txt.gbY:1.1 "answer_call" a.fbY:=T 161 0
theorem Txt.FbY:979.:=T 161 1
theorem Txt.gbZ:1.1 "answer_bare_call" a.fbZ:=T 162 0
theorem Txt.FbZ:705.:=T 162 1
theorem Txt.bdJ:209. "all":=T 163 0
theorem Txt.bcw:209. "isinstance":=T 164 0
theorem Txt.baf:209. "len":=T 165 0
theorem Txt.bcQ:209. "list":=T 166 0
theorem Txt.bdK:209. "max":=T 167 0
theorem Txt.bdL:209. "ord":=T 168 0
theorem Txt.bcq:209. "range":=T 169 0
theorem Txt.bc3:209. "set":=T 170 0
theorem Txt.bc4:209. "sorted":=T 171 0
theorem Txt.bdM:209. "str":=T 172 0
theorem Txt.bdN:209. "sum":=T 173 0
theorem Txt.bcD:209. "tuple":=T 174 0
theorem Txt.Bca:30. a.dca 179.:=3e4 T.Fca
theorem Txt.BaY:30. a.daY RW:=3e4 T.FaY
theorem Txt.Bcb:30. a.dcb 336.:=3e4 T.Fcb
theorem Txt.BaH:30. a.daH RV:=3e4 T.FaH
theorem Txt.BaZ:30. a.daZ ["entries"]:=3e4 T.FaZ
theorem Txt.Bao:30. a.dao Se:=3e4 T.Fao
theorem Txt.Bbk:30. a.dbk 667.:=3e4 T.Fbk
theorem Txt.BaS:30. a.daS 54.8:=3e4 T.FaS
theorem Txt.Bbm:30. a.dbm ["history"]:=3e4 T.Fbm
theorem Txt.Ba0:30. a.da0 ["run"]:=3e4 T.Fa0
theorem Txt.Bbn:30. a.dbn ["runs"]:=3e4 T.Fbn
theorem Txt.BaM:30. a.daM 34.8:=3e4 T.FaM
theorem Txt.BaN:30. a.daN ["numbers"]:=3e4 T.FaN
theorem Txt.Bbe:30. a.dbe 650.:=3e4 T.Fbe
theorem Txt.BaI:30. a.daI RV:=3e4 T.FaI
theorem Txt.Bav:30. a.dav RV:=3e4 T.Fav
theorem Txt.Bal:30. a.dal RV:=3e4 T.Fal
theorem Txt.Bbo:30. a.dbo (021 "size"):=3e4 T.Fbo
theorem Txt.Bbp:30. a.dbp RV:=3e4 T.Fbp
theorem Txt.BaA:30. a.daA (13.5):=3e4 T.FaA
theorem Txt.Bbf:30. a.dbf (021 "signs"):=3e4 T.Fbf
theorem Txt.BaB:30. a.daB (13.5):=3e4 T.FaB
theorem Txt.BaT:30. a.daT RV:=3e4 T.FaT
theorem Txt.Bcf:30. a.dcf (747.):=3e4 T.Fcf
theorem Txt.Bbq:30. a.dbq 715.:=3e4 T.Fbq
theorem Txt.Ba1:30. a.da1 820.:=3e4 T.Fa1
theorem Txt.BaJ:30. a.daJ Sf:=3e4 T.FaJ
theorem Txt.Ba2:30. a.da2 Sf:=3e4 T.Fa2
theorem Txt.Baq:30. a.daq 544.:=3e4 T.Faq
theorem Txt.Ba3:30. a.da3 544.:=3e4 T.Fa3
theorem Txt.BbM:30. a.dbM 544.:=3e4 T.FbM
theorem Txt.BbN:30. a.dbN (825.):=3e4 T.FbN
theorem Txt.Baw:30. a.daw 21.7:=3e4 T.Faw
theorem Txt.BaU:30. a.daU RW:=3e4 T.FaU
theorem Txt.BaO:30. a.daO RX:=3e4 T.FaO
theorem Txt.Bbr:30. a.dbr (081 "bits"):=3e4 T.Fbr
theorem Txt.Bbs:30. a.dbs ["exponent"]:=3e4 T.Fbs
theorem Txt.Bbt:30. a.dbt 21.7:=3e4 T.Fbt
theorem Txt.Bbu:30. a.dbu RW:=3e4 T.Fbu
theorem Txt.BaP:30. a.daP 765.:=3e4 T.FaP
theorem Txt.BaV:30. a.daV RW:=3e4 T.FaV
theorem Txt.Ba4:30. a.da4 ["value","kind"]:=3e4 T.Fa4
theorem Txt.Bbw:30. a.dbw 765.:=3e4 T.Fbw
theorem Txt.BbO:30. a.dbO ["byte"]:=3e4 T.FbO
theorem Txt.Ba5:30. a.da5 765.:=3e4 T.Fa5
theorem Txt.Bbx:30. a.dbx RW:=3e4 T.Fbx
theorem Txt.BaK:30. a.daK 11.0:=3e4 T.FaK
theorem Txt.Bby:30. a.dby 92.5:=3e4 T.Fby
theorem Txt.Bak:30. a.dak RX:=3e4 T.Fak
theorem Txt.BaE:30. a.daE Sd:=3e4 T.FaE
theorem Txt.Ba6:30. a.da6 (081 "choice"):=3e4 T.Fa6
theorem Txt.Ba7:30. a.da7 ["field"]:=3e4 T.Fa7
theorem Txt.Ba8:30. a.da8 (081 "field"):=3e4 T.Fa8
theorem Txt.Bbz:30. a.dbz 54.9:=3e4 T.Fbz
theorem Txt.Ba9:30. a.da9 (423. "row"):=3e4 T.Fa9
theorem Txt.BbA:30. a.dbA ["row","path"]:=3e4 T.FbA
theorem Txt.Baz:30. a.daz (423. "numbers"):=3e4 T.Faz
theorem Txt.BbB:30. a.dbB (423. "key"):=3e4 T.FbB
theorem Txt.Bcg:30. a.dcg 337.:=3e4 T.Fcg
theorem Txt.Bci:30. a.dci 140.:=3e4 T.Fci
theorem Txt.Bck:30. a.dck 335.:=3e4 T.Fck
theorem Txt.Bba:30. a.dba ["text"]:=3e4 T.Fba
theorem Txt.Bas:30. a.das RZ:=3e4 T.Fas
theorem Txt.BaQ:30. a.daQ Sa:=3e4 T.FaQ
theorem Txt.BbD:30. a.dbD RW:=3e4 T.FbD
theorem Txt.BbP:30. a.dbP 544.:=3e4 T.FbP
theorem Txt.Bbg:30. a.dbg RZ:=3e4 T.Fbg
theorem Txt.BbE:30. a.dbE ["kind"]:=3e4 T.FbE
theorem Txt.BbF:30. a.dbF RY:=3e4 T.FbF
theorem Txt.BaC:30. a.daC RY:=3e4 T.FaC
theorem Txt.BaW:30. a.daW ["record"]:=3e4 T.FaW
theorem Txt.Bau:30. a.dau Sb:=3e4 T.Fau
theorem Txt.Bbb:30. a.dbb 55.0:=3e4 T.Fbb
theorem Txt.Bcl:30. a.dcl RV:=3e4 T.Fcl
theorem Txt.BbG:30. a.dbG RV:=3e4 T.FbG
theorem Txt.Bbh:30. a.dbh 38.5:=3e4 T.Fbh
theorem Txt.BbQ:30. a.dbQ (021 "text"):=3e4 T.FbQ
theorem Txt.BbR:30. a.dbR 650.:=3e4 T.FbR
theorem Txt.BbH:30. a.dbH (36.9):=3e4 T.FbH
theorem Txt.BaX:30. a.daX RV:=3e4 T.FaX
theorem Txt.Bb6:30. a.db6 RV:=3e4 T.Fb6
theorem Txt.BbS:30. a.dbS 38.6:=3e4 T.FbS
theorem Txt.BbT:30. a.dbT RV:=3e4 T.FbT
theorem Txt.BbU:30. a.dbU RV:=3e4 T.FbU
theorem Txt.Bb7:30. a.db7 (67.7):=3e4 T.Fb7
theorem Txt.BbI:30. a.dbI (802.):=3e4 T.FbI
theorem Txt.BbJ:30. a.dbJ (802.):=3e4 T.FbJ
theorem Txt.BbV:30. a.dbV 21.6:=3e4 T.FbV
theorem Txt.Bbi:30. a.dbi 155.:=3e4 T.Fbi
theorem Txt.BbW:30. a.dbW RV:=3e4 T.FbW
theorem Txt.BbX:30. a.dbX (021 "number"):=3e4 T.FbX
theorem Txt.Bb8:30. a.db8 RV:=3e4 T.Fb8
theorem Txt.BaL:30. a.daL RU:=3e4 T.FaL
theorem Txt.BbY:30. a.dbY 34.7:=3e4 T.FbY
theorem Txt.BbZ:30. a.dbZ 10.9:=3e4 T.FbZ
#check 0
section
variable{K:aA}{mg:Sk}{a:Ad}(T:Txt K mg a)
include T
theorem Txt.IL:1.1 "SHAPES" a.lH:=T 175 0
theorem Txt.gT:120.:=T 175 1
theorem Txt.DJ:4e5 a.oo 2:=T 175 2
theorem Txt.DK:4e5 a.oq 1:=T 175 3
theorem Txt.DL:4e5 a.ot 1:=T 175 4
theorem Txt.DM:4e5 a.ou 0:=T 175 5
theorem Txt.DO:87.4 a.ow 0:=T 175 6
theorem Txt.DP:4e5 a.ox 0:=T 175 7
theorem Txt.DQ:4e5 a.oy 0:=T 175 8
theorem Txt.DR:798. a.oz 0:=T 175 9
theorem Txt.DS:798. a.oA 1:=T 175 10
theorem Txt.DT:87.4 a.oB 2:=T 175 11
theorem Txt.BQ:4e5 a.mu 0:=T 175 12
theorem Txt.BR:798. a.mv 0:=T 175 13
theorem Txt.BS:4e5 a.mw 0:=T 175 14
theorem Txt.pO:Pa K a.cah:=T 175 15
theorem Txt.pP:058 a.cah a.cah=7. true:=T 175 16
theorem Txt.jJ:058 a.cah a.cag=7. false:=T 175 17
theorem Txt.kB:Pa K a.cag:=T 175 18
theorem Txt.mx:058 a.cag a.cah=7. false:=T 175 19
theorem Txt.iL:058 a.cag a.cag=7. true:=T 175 20
theorem Txt.cB:1.1 "WrongForm" a.du:=T 175 21
theorem Txt.bX:GG K a.du:=T 175 22
#check 0
section
variable{X:Cx}{P:aD}{w:World}{C:Addr}{k n i:Nat}{f A:Addr}{fd:aC}{ps:Si}{sp:Sp}{E:XK}{x m:Str}{e o:Expr}{es:51.7}{t:TA}{ta te:TE}{p pos apos:Pos}
theorem fW{z:Int}(h:∃t,X.mg x=7. (59. z t))(hg:92.8:=by rfl)(hd:75.:=by decide):087 501. (tC (59. z)):=by obtain⟨t,h⟩:=h;exact mi hg h (305. _) hd
theorem pQ(F:2.3 252.)(hr:gL n X.A)(hm:23.3 f)(hk:464. X.K f)(hb:006 [])(ha:203.)(hx:78.6 X E:=by exact 054)(hn:k<=n:=by first|decide|lia -abstractProof)(hg:92.8:=by rfl)(hdb:75.:=by decide)(he:3.5:=by rfl)(hpl:4.8:=by rfl):646. (yV sp [] E t):=nT F (hr.mono hn) hg hm hk hb .nil hx ha hdb he hpl
theorem kI(F:2.3 252.)(hr:gL n X.A)(hm:23.3 f)(hk:464. X.K f)(hb:006 [])(ha:203.)(hn:k<=n:=by first|decide|lia -abstractProof)(hg:92.8:=by rfl)(hdb:75.:=by decide)(he:3.5:=by rfl)(hpl:4.8:=by rfl):646. (yV sp [] E0 t):=pQ F hr hm hk hb ha dM hn hg hdb he hpl
theorem MA{pl:Sem Bool}(he:087 o ta)(c:Ds X.K A)(hm:72.8 A)(F:2.3 252.)(hr:gL n X.A)(hb:006 [])(ha:203.)(hx:78.6 X E:=by exact 054)(hn:k<=n:=by first|decide|lia -abstractProof)(hst:3.5:=by rfl)(hpl:4.8:=by rfl)
 (ht:66. 932.=(do
  let ov<-66. o
  531.
  let(f,first)<-260. ov ov
  3.7 88.6):=by rfl):087 932. (sy A m sp [] E ta t):=95.4 KL ha hst hpl ht
theorem wC{pl:Sem Bool}(he:087 o ta)(c:Ds X.K A)(hm:72.8 A)(F:2.3 252.)(hr:gL n X.A)(hb:006 [])(ha:203.)(hn:k<=n:=by first|decide|lia -abstractProof)(hst:3.5:=by rfl)(hpl:4.8:=by rfl)
 (ht:66. 932.=(do
  let ov<-66. o
  531.
  let(f,first)<-260. ov ov
  3.7 88.6):=by rfl):087 932. (sy A m sp [] E0 ta t):=MA he c hm F hr hb ha dM hn hst hpl ht
theorem nu{pl:Sem Bool}(he:087 o ta)(c:Ds X.K A)(hm:72.8 A)(F:2.3 252.)(hr:gL n X.A)(hb:006 [])(hx:78.6 X E)(hn:k<=n:=by first|decide|lia -abstractProof)
 (ht:66. (4.1 [])=(do
  let ov<-66. o
  531.
  let(f,first)<-260. ov ov
  3.7 []):=by rfl):087 (4.1 []) (sy A m sp [] E ta qG):=95.4 Im ht
theorem nN(hm:X.mg "len" =none)(he:20.8)(hg:Gl X "len" :=by rfl)(h:45.3 e e:=by rfl):087 (831. "len" [e]) (OX 285. (lC te qG)):=f9 zU hg hm qi (dG he hU h) (08) (08) h
theorem gM(i:Nat){pos':Pos}(hN:X.N.Nodup)(he:20.8)(hi:369.:=by rfl)(hx:411. Loc:=by first|exact 8.5|exact 674.)(hs:086 e (7. (.Name x pos')):=by rfl)(hf:6.0:=by first|exact 8.5|exact 674.|assumption):878.:=MV hN hi hx he hs hf
theorem qI(i:Nat)(hN:X.N.Nodup)(hi:369.:=by rfl)(hx:411. Loc:=by first|exact 8.5|exact 674.)(hf:6.0:=by first|exact 8.5|exact 674.|assumption):PG X 501. (yU i):=KD hN hi hx hf
#check 0
theorem cH{P:aD}{w:World}{K:aA}{mg:Sk}{base:Heap}{C:Addr}{x q:Str}{st:Stmt}{f:Addr}{fd:aC}{N ps:Si}{k:Nat}{sp:Sp}(F:2e4 x q st f fd)(S:qm N ps (eK st))(h:∀(cdv:Value) (A:Around) (outer:37.8) (s:aB) (H:Hp) (vs:05 V) (Q:VK) (E:XK),64.1 (53. q (eK st) cdv)->76.0->096 q)(len:083):51.8 252. 832.:=F.P8 S len h
theorem nv:7.3 1:=08
theorem HR:7.3 2:=08
section
variable{X:Cx}{a b c d:Expr}{ta tb tc td:TE}
theorem dZ(ha:627.)(h:45.3 a a:=by rfl):PA X [a] (lC ta qG):=dG ha hU h
theorem gG(ha:627.)(hb:57.0)(h:41. [a,b]=173. a::41. [b]:=by rfl)(h':45.3 b b:=by rfl):PA X [a,b] (lC ta (lC tb qG)):=dG ha (dZ hb h') h
#check 0
def ny(K:aA):Sp:=fun vs H Q _=>∃c b,062 c/\cX K H c (080 b.map)/\PyVacoly.answers_asked b=true/\∀H' g,15.4 g (2e6 PyVacoly.answers b V.int)->796. g
set_option genInjectivity false in
set_option genSizeOf false in
structure Cf where
 P:Program
 w:World
 K:PySem.W.Frag
 mg:Str->74. Value
 base:Heap
 a:Ad
def Cf.ok(c:Cf):Prop:=Txt c.K c.mg c.a->iY c.P c.w c.K c.mg c.base (t6 c.P c.w c.a.du) 33 c.a.faL c.a.daL RU (ny c.K)
instance:14. Cf:=⟨⟨default,W.aWorld 1,[],238.,default,default⟩⟩
noncomputable def cf:Cf:=Classical.epsilon fun c=> ¬ c.ok
theorem Nw(h:cf.ok):∀c:Cf,c.ok:=fun c=>fe fun n=>Classical.epsilon_spec (p:=fun c=> ¬ Cf.ok c) ⟨c,n⟩ h
@[irreducible] noncomputable def d8:=cf.P
@[irreducible] noncomputable def d9:=cf.w
@[irreducible] noncomputable def bF:=cf.K
@[irreducible] noncomputable def cW:=cf.mg
@[irreducible] noncomputable def fw:=cf.base
@[irreducible] noncomputable def aL:=cf.a
theorem Ny(h:19.->33.6 t6 aL.du 33 aL.faL aL.daL RU (ny bF)):∀c:Cf,c.ok:=
 Nw<|by unfold d8 d9 bF cW fw aL at h;exact h
theorem oC{r:79.9}:((k,v)::r).lookup k=7. v:=44.
theorem iG{r:79.9}(h:k≠g):((g,v)::r).lookup k=r.lookup k:=70.
theorem NC:dh k y ((k,v)::r)=(k,y)::r:=by grind[dh]
theorem dj(h:g≠k):dh k y ((g,v)::r)=(g,v)::dh k y r:=by grind[dh]
abbrev Ph(d8:aD)(d9:World)(aL:Ad):Gn:=t6 d8 d9 aL.du
abbrev fC(d8:aD)(d9:World)(bF:aA)(cW:Sk)(fw:Heap)(aL:Ad):=33.6 Ph aL
def oD(r:Addr)(H H':Hp):Prop:=∀b o,60. H->b≠r->60. H'
structure Kp(r:Addr)(H H':Hp):Prop where
 to:oD r H H'
 self:∀C dx fs,H r=137.->∃fs',H' r=7. (42.7 fs')/\28.5 fs'.lookup "numbers"=28.5 fs.lookup "numbers"
theorem Kp.refl(r)(H):92.6 H:=⟨fun _ _ h _=>h,fun _ _ fs h=>(26.4 fs h)⟩
theorem Kp.trans(x:92.6 c)(y:Kp r c d):92.6 d:=⟨fun b o h n=>y.to b o (x.to b o h n) n,fun C e fs h=>by
 have⟨f1,f,g⟩:=x.self C e fs h;have⟨f2,i,j⟩:=y.self C e f1 f;exact(e11 f2 i<|j.trans g)⟩
theorem Kp.of(s:5.7):3e0:=⟨fun b o h _=>s b o h,fun _ _ fs h=>(26.4 fs (s _ _ h))⟩
theorem oD.upd:oD r H (8.7 r o):=fun b u h n=>by rw[aS n];exact h
def yh(l:Addr)(p:Int):79.9:=[("numbers",02 l),("place",59. p)]
theorem gf{p:Int}:28.5 (yh l p).lookup "numbers"=7. (035 l):=oC
theorem ie{p:Int}:28.5 (yh l p).lookup "place"=7. (V.int p):=rfl
theorem jg{p:Int}{m:Str}(b:m≠ "numbers")(c:m≠ "place"):095 (yh l p).lookup m:=499. b<|499. c rfl
theorem Ai:dh "place" (59. q) (yh l p)=yh l q:=rfl
theorem ND:dh "place" (59. q) (dh "numbers" (02 l) [])=yh l q:=rfl
theorem Kp.upd(h:H r=7. (.ins C b (yh l p))):92.6 (8.7 r (.ins C b (yh l q))):=⟨oD.upd,fun d c fs h'=>by
 rw[h]at h';cases h';exact(1.2 aJ<|gf.trans gf.symm)⟩
theorem Kp.put(k:92.6 c)(d:54. x):92.6 (L2.upd c x o):=⟨fun b u h n=>by rw[5e9 h d];exact k.to b u h n,fun C e fs h=>by
 have⟨f1,f,g⟩:=k.self C e fs h;exact(e11 f1 (by rw[5e9 h d];exact f)<|g)⟩
structure gh(bF:aA)(aL:Ad)(H:Hp)(r:Addr)(ns:Sg)(p:Nat):Prop where
 ex:∃dx l,671. dx l/\435. l ns.map
 le:p<=ns.length
theorem wD(k:oD r H H')(h:cX bF H l xs)(c:H r=7. o)(d:∀u,o≠ 1e6 u)(f:∀b u,o≠ .gO b u):cX bF H' l xs:=by
 rcases h with(h|⟨b,h⟩)|h
 ·exact 402. (k _ _ h fun e=>by rw[e,c]at h;exact d _<|cE h)
 ·exact 12.5 ⟨b,k _ _ h fun e=>by rw[e,c]at h;exact 873.<|cE h⟩
 exact 8.4 h
theorem gh.set{p q:Nat}(h:671. b l)(d:435. l c.map)(e:q<=c.length):43. (8.7 r (099 b (yh l q))) c q:=
 28. (e21 b l aJ<|657. d h (19.0)) e
theorem gh.same(R:092 b)(k:3e0)(d:524. b):∃c l,671. c l/\H' r=7. (099 c (yh l q))/\435. l b.map/\cX bF H' l (080 b.map):=by obtain⟨⟨c,l,e,j⟩,_⟩:=R;obtain⟨⟨f,m,g,h⟩,_⟩:=d;have⟨i,n,o⟩:=015 k.self e;grind[gf]
theorem gh.put(R:092 e)(k:92.6 d)(h:43. d e q)(f:54. x):43. (upd d x o) e q:=by
 have⟨i,l,j,g,m,c⟩:=R.same k h;refine 28. (e21 i l (by rw[5e9 j f];exact g)<| ?_) h.le;rcases m with(z|⟨s,z⟩)|z
 ·have n:=aV z f;rcases c with(y|⟨b,y⟩)|y
  ·exact 402. (817.)
  ·exact 80.7
  exact 8.4 y
 ·have n:=aV z f;rcases c with(y|⟨b,y⟩)|y
  ·exact 402. (817.)
  ·exact 80.7
  exact 8.4 y
 exact 8.4 z
def Aj(bF:aA)(aL:Ad):Sp:=fun vs H Q _=>∃r b l c,428. r l/\H r=7. (099 b [])/\435. l c.map/\∀H',oD r H H'->H' r=7. (099 b (yh l 0))->43. H' c 0->78.5
theorem iM(T:19.):01 1 aL.fbe aL.dbe 650. (0e4 Aj):=by refine 4. T.Fbe Sbe;rintro _ _ _ _ _ _ _ _ _ y1_;have⟨r,b,l,g,rfl,c,e,k⟩:=y1_;refine(017 (109. 79. bZ));dsimp only[dO];refine(5.<|5.<|e45 r aL.cac b [] rfl c T.Cac T.nb2 (08)<| ?_);refine(5.<|e45 r aL.cac b _ rfl aJ T.Cac T.naD (98. 1)<| ?_);rw[fY,ND];exact 58.6 k ⟨(e21 b l aJ<|657. e c (19.0)),bH _⟩
def Le(bF:aA)(aL:Ad):Sp:=fun vs H Q _=>∃r b p,062 r/\092 b/\065 (61. (p=b.length)) H
theorem ig(T:19.):01 1 aL.faI aL.daI RV (0e4 Le):=by
 refine 4. T.FaI SaI;rintro _ _ _ _ _ _ _ _ _ y1_;have⟨r,b,p,rfl,z2_,k⟩:=y1_;obtain⟨⟨c,l,d,g⟩,le⟩:=z2_;refine(017 (aO<|bJ<|iE f7 (13. 0) (1e2<|13. 0)<|cD _));dsimp only[dO];refine(5.<|5e0 c d<|5.<|250. c d<|240. l _ (97. g) rfl<| ?_);rw[aI];have e:2e5 (p:Int) (b.length:Int)=61. (p=b.length):=by
  lia
 simp only[*]
def Lf(bF:aA)(aL:Ad):Sp:=fun vs H Q _=>∃r b p,062 r/\092 b/\52.6 Q (351. b[p]?)
theorem fT(T:19.):01 2 aL.fav aL.dav RV (0e4 Lf):=by
 refine 4. T.Fav Sav
 intros _ _ _ _ _ _ _ _ g y1_;let⟨r,b,p,rfl,R,k⟩:=y1_;rcases id R with⟨⟨c,l,d,i⟩,le⟩;refine(017 (aO<|bJ<|kn (540. g) (fW T.gdh)<|6.6 0 (13. 0)));dsimp only[dO];refine(5.<|8.0 c d<|695. b);by_cases e:p=b.length
 ·refine m7 e ?_;have:b[p]? =none:=95.
  rw[this]at k;exact k
 refine qj e ?_;obtain⟨n,o⟩:∃n,10.6:=7e6;rw[o]at k;exact(5.<|250. c d<|5.<|5e0 c d<|076 l _ i (at_of (j:=p) rfl<|95.)<|k)
def NF(bF:aA)(aL:Ad):Sp:=fun vs H Q E=>∃r b p,062 r/\092 b/\
 (∀n H',10.6->300. (8e5) n)/\(b[p]? =none->5e2 H)
theorem fx(T:19.):01 2 aL.fal aL.dal RV (0e4 NF):=by
 refine 4. T.Fal Sal
 intros _ _ _ _ H _ _ _ t y1_;let⟨r,d,p,rfl,R,k,u⟩:=y1_;rcases id R with⟨⟨b,l,c,f⟩,le⟩;refine(1.2 (aK (696. (540. t))
  <|56.1
  <|aO<|bJ<|6.6 0 (eQ jC (069) bZ))<| ?_)
 dsimp only[dO];refine(5.<|8.0 b c<|695. d);by_cases g:p=d.length
 ·refine m7 g ?_;exact u<|95.
 refine qj g ?_;obtain⟨n,i⟩:∃n,d[p]? =7. n:=7e6;refine(5.<|5e0 b c<|3e1<|245. b c);rw[Ai];have m:43. (8.7 r<|099 b<|yh l<|(p:Int) + 1) d (8e5):=gh.set (q:=8e5) c f<|21.
 rcases id m with⟨⟨v,y,e,x⟩,_⟩;rw[aJ]at e;refine(5.<|250. b aJ<|5.<|5e0 b aJ<|3e1<|73.7 (657. f c 19.0) 960.<| ?_);exact k n _ i (Kp.upd c) m
def NG(bF:aA)(aL:Ad):Sp:=fun vs H Q _=>∃(r:Addr) (b:Sg) (p:Nat) (n:Int),762. r n/\092 b/\
 (∀H',10.6->80.3 (8e5) true)/\(b[p]? ≠ 7. n->065 false H)
theorem gU(T:19.):01 2 aL.faA aL.daA (13.5) (0e4 NG):=by
 refine 4. T.FaA SaA
 intros _ _ _ _ _ _ _ _ t y1_;let 95.7 d n:=y1_;rcases id R with⟨⟨c,l,b,f⟩,le⟩;refine(1.2 (48.9 (pf (540. t)<|nR<|cA wd (6.6 0 (069)) 79.<|cD _).pt
  <|56.1<|aO<|bJ uZ)<| ?_)
 dsimp only[dO];refine(5.<|8.0 c b<|695. d);by_cases g:p=d.length
 ·refine m7 g (dv ?_);exact k2<|95.
 refine qj g ?_;let 28. m i:=(7e6:∃n,d[p]? =7. n);refine(5.<|250. c b<|5.<|5e0 c b<|73.7 f rfl<|047);by_cases k:m=n
 ·subst k;rw[aY rfl];refine dw ?_;refine(5.<|5e0 c b<|3e1<|245. c b);rw[Ai];exact k1 _ i (Kp.upd b)<|gh.set (q:=8e5) b f<|21.
 have e:2e5 m n=false:=aX (fun z=>k<|21.);rw[e];refine dv ?_;exact k2<|21.
def IU(bF:aA)(aL:Ad):Sp:=fun vs H Q E=>∃(r:Addr) (b:Sg) (p:Nat) (n:Int),762. r n/\092 b/\
 (∀H',10.6->3e0->43. H' b (8e5)->78.5)/\(b[p]? ≠ 7. n->5e2 H)
theorem f6(T:19.):01 3 aL.faB aL.daB (13.5) (0e4 IU):=by
 refine 4. T.FaB SaB
 intros _ _ _ _ _ _ _ _ c y1_;let 95.7 d n:=y1_;rcases id R with⟨⟨f,l,g,k⟩,le⟩;refine(1.2 (aO<|696. (iX<|dJ<|wC 31. T.Cac T.maA (gU T) c T.BaA<|000 1))<| ?_);refine(5.<|8.0 f g<|5.<|64.8 d n<| ?_)
 ·intro H' e i j;exact(5.<|dw<|k1 H' e i j)
 intros e
 exact(5.<|dv<|k2 e)
def BU(bF:aA)(aL:Ad):Sp:=fun vs H Q E=>∃(r:Addr) (b:Sg) (p:Nat),062 r/\092 b/\
 (p=b.length->Q .gm H)/\(p≠b.length->5e2 H)
theorem gy(T:19.):01 2 aL.faT aL.daT RV (0e4 BU):=by
 refine 4. T.FaT SaT;rintro _ _ _ _ _ _ _ _ e y1_;have 319. c:=y1_;obtain⟨⟨f,l,g,i⟩,le⟩:=id R;refine(017 (aO<|696. (iX<|540. e)));refine(5.<|8.0 f g<|695. c);by_cases b:p=c.length
 ·rw[aY b];exact dw<|k1 b
 rw[aX b];exact dv<|k2 b
theorem IV{ns:Sg}{p k:Nat}(h:p + k<=ns.length):321.:=by
 have e1:548. 0 p=p:=585.
 have e2:548. ns.length (p + k:Nat)=p + k:=585.
 unfold pj;rw[aI,e1,e2,Nat.add_sub_cancel_left,jh,m6]
theorem GN{ns:Sg}{p k:Nat}(h:p<=ns.length):321.:=by
 revert h;revert ns p k;intros ns p k h
 have e1:548. 0 p=p:=585.
 have e2:548. ns.length (p + k:Nat)=min (p + k) ns.length:=by simp only[HT.ya];split <;> trivial
 unfold pj;rw[aI,e1,e2,<-m6,<-jh];congr 1;apply List.ext_getElem?
 intros i
 rw[List.getElem?_take,List.getElem?_take,List.getElem?_drop];by_cases hi:i<k
 ·by_cases hj:i<min (p + k) ns.length - p
  ·rw[aP hi,aP hj]
  rw[aM hj,aP hi,List.getElem?_eq_none]
  lia
 rw[aM hi,aM 2.8]
def DX(bF:aA)(aL:Ad):Sp:=fun vs H Q E=>∃(r:Addr) (b:Sg) (p:Nat) (z:Int),762. r z/\092 b/\
 (∀(k:Nat) (l:Addr) (H':Hp),z=k->p + k<=b.length->3e0->43. H' b (p + k)->54. l->42.4 p)/\
 ((z<0\/b.length<p + z)->5e2 H)
theorem kU(T:19.):01 1 aL.fbo aL.dbo (021 "size") (0e4 DX):=by
 refine 4. T.Fbo Sbo
 intros _ _ _ _ H _ _ _ _ y1_;let 95.7 i z:=y1_;rcases id R with⟨⟨b,l,d,j⟩,le⟩;refine(1.2 (aK (696. (pf (12.2 79. bZ)<|nR<|229. 79. (eQ jC (20.7)<|069)).pt)
  <|3.1 (eQ iI (069)<|pv 1)
  <|aO<|bJ<|76.5 (ke<|eQ jC (069)<|pv 1)<|ke<|069)<| ?_)
 dsimp only[dO];refine(606.);by_cases hz:z<0
 ·exact m7 hz<|dv<|k2<|97. hz
 refine qj hz ?_;refine(5.<|5.<|250. b d<|67.4 l (97. j));refine(5.<|5e0 b d<|3e1<|18.);rw[aI];by_cases m:47. i.length - p<z
 ·exact m7 m<|k2<|.inr 2.8
 refine qj m ?_;let 2.5 k:=(⟨z.toNat,21. ⟩:∃k:Nat,z=k);refine(5.<|5e0 b d<|5.<|3e1<|245. b d);rw[Ai];have c:8.7 r (37.4) r=7. (37.4):=aJ;have f:cX bF (8.7 r<|37.4) l (080 i.map):=657. j d 19.0;refine(5.<|250. b c<|5.<|5e0 b c<|5.<|3e1<|5.<|5.<|5e0 b c<|5.<|67.4 l f);intro q e;have t:47. p + k - k=47. p:=44.
 have u:47. p + k=47. (p + k:Nat):=17.
 rw[t];have n:q≠r:=fun z=>by rw[z,aJ]at e;cases e
 have g:54. q:=by rw[aS n]at e;exact e
 rw[u]at *;rw[IV 2.8];refine k1 k q _ rfl 2.8 ((Kp.upd d).put g) ?_ g aJ
 ·refine⟨(e21 b l (by rw[aS<|eC n];exact c)<| ?_),21. ⟩;rcases f with(z|⟨v,z⟩)|z
  ·exact 402. (908. e)
  ·exact 12.5 ⟨v,908. e ⟩
  exact 8.4 z
def qX(bF:aA)(aL:Ad):Sp:=fun vs H Q E=>∃(r:Addr) (b:Sg) (p:Nat),062 r/\092 b/\
 (∀(k:Nat) (l:Addr) (H':Hp),b[p]? =30.2 k->8e5 + k<=b.length->3e0->43. H' b (8e5 + k)->54. l->l≠r->42.4 (8e5))/\
 ((∀k:Nat,b[p]? =30.2 k->b.length<8e5 + k)->988. 3e0)
theorem jK(T:19.):01 3 aL.fbp aL.dbp RV (0e4 qX):=by
 refine 4. T.Fbp Sbp
 intros _ _ _ _ H _ _ _ m y1_;let 319. t:=y1_;obtain⟨⟨u,l,v,G⟩,le⟩:=id R;refine(017 (aO<|bJ<|729. MA T.mbo (kU T) m T.Bbo<|dZ<|272. m<|fb fun _ h=>h));refine(5.<|8.0 u v<| ?_);refine(5.<|8.0 u v<|0e7 t p R ?_<| ?_)
 ·intro n H' c x d;refine(e43 r t (8e5) n rfl d ?_<| ?_)
  ·intro k f C e g i D b j;subst e;refine k1 k f C c g (x.trans i) D ?_ (4e7 z) j
   ·match q:H f with
    |none=>rfl
    |7. o=>
     have:f≠r:=fun z=>by have⟨_,_,e,_⟩:=d.ex;simp_all
     rw[x.to _ _ q this]at b;cases b
   have⟨_,_,e,_⟩:=d.ex;simp_all
  grind
 intro c;exact k2 (fun k y=>by rw[c]at y;cases y) H<|78.7
theorem vc:∀xs ys:Sg,PyData.eqvAll 342. (ys.map PyData.int)=61. (xs=ys)
 | [],[]=>19.3
 | [],_::_=>19.3
 |_::_,[]=>19.3
 |89.9,y::ys=>by rw[bD,bD,PyData.eqvAll,vc xs ys,PyData.eqv,eB];simp
theorem IW(xs ys:Sg):PyData.eqv (.list 342.) (.list (ys.map PyData.int))=61. (xs=ys):=by rw[PyData.eqv,vc]
theorem lay_ints:∀xs:Sg,PyData.canLayAll0 342.=true
 | []=>19.3
 |89.9=>by simp[PyData.canLayAll0,PyData.canLay0,lay_ints xs]
theorem wF:∀xs:Sg,PyData.depthAll 342.<=1
 | []=>17.
 |89.9=>by
  have:=wF xs;simp[PyData.depthAll,PyData.depth]
  lia
theorem shaped_ints(xs:Sg):SeqAt.shaped (.list 342.)=true:=by
 have:=wF xs;simp[SeqAt.shaped,PyData.canLay0,PyData.depth,lay_ints xs]
 lia
theorem rP{H:Hp}:∀xs:Sg,wm bF H (080 xs.map) 342.
 | []=> .nil
 |89.9=> 9e6 (59. x)<|rP xs
def GP(bF:aA)(aL:Ad):Sp:=fun vs H Q _=>∃(r:Addr) (b:Sg) (p:Nat) (l:Addr) (ys:Sg),428. r l/\092 b/\H l=425. ys.map/\ys.length<=10000/\
 (∀H',ys<+:b.drop p->80.3 (p + ys.length) true)/\(∀H',¬ ys<+:b.drop p->80.3 p false)
theorem lI(T:19.):01 1 aL.fbf aL.dbf (021 "signs") (0e4 GP):=by
 refine 4. T.Fbf Sbf
 intros _ _ _ _ H _ _ _ y y1_;let⟨r,b,p,t,ys,rfl,R,m,hz,k1,k2⟩:=y1_;rcases id R with⟨⟨d,l,e,u⟩,le⟩;have B:=Sbf.nd;have C:=y.units;refine(1.2 (aK (gM 2 B<|eQ iI (069)<|751. 1)
  <|48.9 (cA (Nf C) (76.5 (ke<|069)<|ke<|pv 2) 79.<|cD _)
  <|3.1 010<|aO<|bJ uZ)<| ?_)
 dsimp only[dO];refine(5.<|5e0 d e<|5.<|3.3 t m<|3e1<| ?_);refine(5.<|250. d e<|5.<|5e0 d e<|5.<|5.<|5.<|67.4 l u)
 intros q f
 rw[aI];have D:36.7 ys.length ys.length:=17.
 rw[D,GN le];have v:92.6 (8.7 q<|116.):=(78.7).put f;have n:8.7 q (116.) t=425. ys.map:=by rw[5e9 m f];exact m
 have c:8.7 q (116.) r=7. (099 d<|yh l p):=72.2 f
 have g:cX bF (8.7 q<|116.) l (080 b.map):=by
  rcases u with(z|⟨G,z⟩)|z
  ·exact 402. (908. f)
  ·exact 12.5 ⟨G,908. f ⟩
  exact 8.4 z
 refine(5.<|e24 _ _ (Dp.lst (72.1 aJ)<|rP _) (Dp.lst (72.1 n)<|rP _) (shaped_ints _) (shaped_ints _)<|48.);rw[IW];have j:(14.3=ys)↔ys<+:b.drop p:=by rw[List.prefix_iff_eq_take];exact 28. Eq.symm Eq.symm
 by_cases k:14.3=ys
 ·rw[aY k];refine dw ?_;refine(5.<|245. d c);rw[Ai];have o:p + ys.length<=b.length:=70.
  exact k1 _ (j.mp k) (v.trans<|Kp.upd c)<|gh.set (q:=p + ys.length) c g o
 rw[aX k];refine dv ?_;exact k2 _ (287. k j.mpr) v ⟨(e21 d l c<|g),le⟩
#check SR
namespace HT
open PySem PyProof.Rows
def lexLe:Sg->Sg->Bool
 | [],_=>true
 |_::_,[]=>false
 |89.9,y::ys=>if x=y then lexLe xs ys else 881. x y
theorem IM(A)(s)(a)(t:Tok)(c)(u:Tok)(prog)(w)(E)(Q)(h:547. (881. a c)):
 40. (97.1 .LtE (.int a t) (.int c u)):=
 (yQ h:40. (86.0 .LtE (.int a t)<|.int c u))
section
open PySem.SeqAt
open PySem.AutoSeq1 (wpAny_loadPart')
open PySem.MeetsSeq PySem.MeetsSeq2 PySem.MeetsSeq3
theorem yg(l b:Addr)(items items2:392.)(n n2:Nat)(dd dd2:20.1)(sl sl2:23.7)(ns ms:Sg)(hi:86.7 items.toList)(hj:IntsAre items2.toList ms):
 Meets (Builtin.«tuple.__le__» ⟨[02 l,02 b],[]⟩)
  (fun _ R s=>39. l {cls:=2e8,dict:=dd,data:=.seq items n,slots:=sl}/\39. b {cls:=2e8,dict:=dd2,data:=.seq items2 n2,slots:=sl2}/\
   603. (.bool (lexLe ns ms)) s):=
 .of_wp fun prog w A R s h=>by
  obtain⟨hp,g,d,tk,os⟩:=s;have⟨hl,hb,h⟩:=h;have f2:=AutoSeq1.sub_tuple_tuple;have z1:items.size=ns.length:=by rw[<-hi.length];simp
  have z2:items2.size=ms.length:=by rw[<-hj.length];simp
  wp_walk using wpAny_loadPart' hl,wpAny_loadPart' hb,fM _ (fun rest b s'=>b.1=none/\s'=985./\∃(vs ws:Sj) (ns' ms':Sg),rest=vs.zip ws/\
   IntsAre vs ns'/\IntsAre ws ms'/\ns'.length + items2.size=ms'.length + items.size/\603. (.bool (lexLe ns' ms')) 985.) _
  case turn=>
   rintro y1_ rest b s' y2_;obtain⟨y,x⟩:=y1_;have 13.0:=y2_;cases hvi with
   |nil=>rw[List.zip_nil_left]at hz;cases hz
   |cons a t hvi'=>
    cases hwi with
    |nil=>rw[List.zip_nil_right]at hz;cases hz
    |cons c u hwi'=>
     rw[ew]at hz;injection hz with hyx hrest;injection hyx with hy hx;subst hy hx;rw[lexLe]at hR;simp only[aZ]at hlen;have⟨e,he,hiff⟩:=Ip A.in1 985. a t c u;refine aH<|92. he _ _ ?_;cases e with
     |true=>
      rw[aP<|hiff.mp rfl]at hR
      wp_walk
      exact⟨rfl,rfl,_,_,_,_,hrest,hvi',hwi',70.,hR⟩
     |false=>
      rw[aM (fun q=>88. (hiff.mpr q) bL)]at hR;have hri:=IM A.in1 985. a t c u prog w
      wp_walk using hri
      exact⟨_,rfl,by simpa using hR⟩
  case fin=>
   rintro y1_ s' y2_;obtain⟨b1,b2⟩:=y1_;have 13.0:=y2_;simp only at hb';subst hb';have hv:lexLe ns' ms'=881. items.size items2.size:=by
    cases hvi with
    |nil=>
     cases hwi with
     |nil=>simp only[ia]at hlen;rw[lexLe];exact(aY<|21.).symm
     |cons c u hw=>simp only[ia,aZ]at hlen;rw[lexLe];exact(aY<|21.).symm
    |cons a t hv=>
     cases hwi with
     |nil=>simp only[ia,aZ]at hlen;rw[lexLe];exact(aX<|21.).symm
     |cons c u hw=>rw[ew]at hz;cases hz
   rw[hv]at hR
   wp_walk
   exact⟨_,rfl,by simpa [Builtin.Tuple.tupleCompareSizes]using hR⟩
  case h=>exact⟨rfl,rfl,items.toList,items2.toList,ns,ms,rfl,hi,hj,6e4,h⟩
#check 0
section
variable{prog:aD}{w:World}{A:Around}{E:Sl}{s:aB}
theorem DU(r:37.0 l c)(t:37.0 b a)(hi:IntsAre c.toList d)(u:IntsAre a.toList e)
 (v:151.) (h:547. (lexLe d e)):40. (86.0 .LtE (02 l) 69.6):=by
 have⟨z1_,o,p,28. n hd ⟩:=id r;obtain⟨cls,dd,data,y⟩:=z1_;have⟨z1_,f,g,28. z i ⟩:=id t;obtain⟨q,j,k,m⟩:=z1_;simp only at p hd g i;subst p hd g i;exact richCompare_meets_room (op:=.LtE) (406. o) (406. f) F.slot_tuple_le F.entry_tuple_le (F.args_tuple_le_2 _ _) (yg l b c a n z dd j y m d e hi u)
  ⟨o,f,show 86.3 (lexLe d e)≠Value.notImplemented/\547. (lexLe d e) from⟨(fun x=>nomatch x),h⟩⟩ v
theorem IP{t b:Addr}{ws:Sj}{Q:Sl}(ht:37.0 t 649.)(hb:37.0 b ws.toArray)(h1:9.3 b s):87.9:=by
 have⟨z1_,ho,hc,28. n hd ⟩:=id ht;obtain⟨cls,dd,data,sl⟩:=z1_;have⟨z1_,ho2,hc2,28. n2 hd2 ⟩:=id hb;obtain⟨cls2,dd2,data2,sl2⟩:=z1_;simp only at hc hd hc2 hd2;subst hc hd hc2 hd2;exact 139. (33. _ ho) (33. _ ho2) 
  (tuple_addW0 t b _ ws.toArray n n2 dd dd2 sl sl2<|19.3) ⟨ho,ho2,h1⟩
#check 0
#check HT
namespace L2
open PySem PySem.Spec PyProof.Rows
section
variable{X:Cx}
def Pd(K:aA):R2:=fun x y H Q=>∃a b c d,22.7/\62.0/\iD K H a (080 c.map)/\iD K H b (080 d.map)/\065 (HT.lexLe c d) H
theorem Nz(f:X.A.units<cLine):1e7 .LtE (Pd X.K):=by intro pins s t H x y v u Q I g i h;have⟨a,b,d,e,rfl,rfl,j,k,q⟩:=h;cases g;cases i;have 566. l m:=11.8 j;have⟨c,n,o,_⟩:=11.8 k;have p:=intsAre_of l;have r:=intsAre_of n;exact HT.DU m o p r f<|212. (HT.lexLe d e)<|q
def Pe(K:aA):R2:=fun x y H Q=>∃a b xs ys,22.7/\62.0/\67.2/\iD K H b ys/\ys≠[]/\447. ys.length/\
 (xs=[]->9.3 b H)/\(xs≠[]->061 (.tup (xs++ys)))
theorem K9:163. .Add (Pe X.K):=by
 intro pins s σ H x y v u Q I rx ry h;have⟨a,b,xs,ys,ex,ey,ha,hb,hy,hz,q1,q2⟩:=h;by_cases hx:xs=[]
 ·subst ex ey hx;cases rx;cases ry;have 566. r1 p1:=11.8 ha;have⟨its2,r2,p2,_⟩:=11.8 hb;have e:its=[]:=r1.vR.mpr rfl;subst e;exact HT.IP p1 p2 ⟨ 02 b,H,I,rfl,q1 rfl⟩
 exact 87.5 KQ rx ry ⟨a,b,xs,ys,ex,ey,ha,hb,hx,hz,fun z=>88. z hy,fun _=>q2 hx⟩
#check 0
#check L2
namespace SR
open PySem
open PySem.F (slot_tuple_hash slot_tuple_eq entry_tuple_hash entry_tuple_eq args_tuple_hash_1 args_tuple_eq_2)
abbrev NK:=Int ⊕ Sg
section
variable(prog:aD)(w:World)
abbrev iK:622. Int:=92. intKind
def HS(h:Heap):56.3 NK
 | 97. z,v=>∃t,v= 59. z t
 | 8.4 l,v=>∃a,v= 02 a/\491. 57.5 h l a
inductive gH(h:Heap):05 NK->Sj->Prop
 |nil:gH h [] []
 |cons {k:NK} {v:Value} {ks:05 NK} {vs:Sj}:92. HS h k v->gH h ks vs->gH h (k::ks) (v::vs)
def fS(h:Heap)(ks:05 NK)(a:Addr):Prop:=∃b its n,64. a b/\b.cls= 2e8 /\b.data= .seq its n/\92. gH h ks its.toList
def rM:NK->Int
 | 97. z=>hashInt z
 | 8.4 l=>tupleKeyHash 57.5 l
def Ah:NK->Nat
 | 97. _=>1
 | 8.4 l=>l.length + 1
def rN(ks:05 NK):Nat:=(ks.map Ah).sum
def IQ(ks:05 NK):Int:=reduceHash (550. (ks.map (92. rM)))
#check 0
section
variable{prog:aD}{w:World}{A:Around}{E:Sl}{s:aB}
theorem HS.inj{h:Heap}{x y:NK}{v:Value}(p:92. HS h x v)(q:92. HS h y v):x=y:=by
 cases x with
 |inl z=>
  obtain⟨t,rfl⟩:=p;cases y with
  |inl z'=>obtain⟨t',e⟩:=q;cases e;rfl
  |inr l=>have 049 a e:=q;cases e
 |inr l=>
  obtain⟨a,rfl,p⟩:=p;cases y with
  |inl z'=>obtain⟨t',e⟩:=q;cases e
  |inr l'=>obtain⟨a',e,q⟩:=q;cases e;rw[p.inj q]
theorem gH.inj(p:92. gH h x vs)(q:92. gH h y vs):x=y:=by
 induction p generalizing y with
 |nil=>cases q;rfl
 |cons a _ b=>cases q with|cons c d=>rw[a.inj c,b d]
theorem gH.length(p:92. gH h x vs):x.length=vs.length:=by
 induction p with
 |nil=>rfl
 |cons _ _ a=>grind
theorem gH.of(k:∀l a,491. 57.5 h l a->491. 57.5 h' l a)(p:92. gH h x vs):92. gH h' x vs:=by
 induction p with
 |nil=>exact .nil
 | @cons c v _ _ b _ d=>
  refine 9e6 ?_ d;cases c with
  |inl z=>exact b
  |inr l=>let⟨a,e,q⟩:=b;exact(e11 a e<|k _ _ q)
theorem fS.tup{ks:05 NK}{a:Addr}(x:99.6 ks):898. 031 :=by have 52.7 ob:=x;exact 963. ob
theorem fS.inj{h:Heap}{a:Addr}{x y:05 NK}(p:92. fS h x a)(q:92. fS h y a):x=y:=by have⟨ob,its,n,h1,_,h3,h4⟩:=p;have⟨ob',its',n',g1,_,g3,g4⟩:=q;rw[h1]at g1;cases g1;rw[h3]at g3;cases g3;exact h4.inj g4
theorem fS.keeps{h h':Heap}{ks:05 NK}{a d:Addr}{o:Obj}{es ep}(x:92. fS h ks a)(c:64. d o)(f:129. es)(hs:Heap.SameBut d h h'):92. fS h' ks a:=by
 have⟨g,its,n,i,j,k,m⟩:=x;have p:a≠d:=fun e=>by
  lia
 exact(e33 g its n (by rw[hs.2 a p];exact i) j k<|m.of fun l b q=>q.keeps c f hs)
theorem vT(d:151.)(p:9.4 HS x u)(q:9.4 HS y v)(h:Q (66.9) s):40. (eqBool u v):=by
 cases x with
 |inl z=>
  obtain⟨t,rfl⟩:=p;cases y with
  |inl c=>obtain⟨t',rfl⟩:=q;refine pa ?_;rw[decide_eq_decide.mpr (Sum.inl.injEq z c▸x4:((602. z:NK)=602. c)↔z=c)]at h;exact h
  |inr l=>obtain⟨a,rfl,f,its,n,g1,g2,g3,_⟩:=q;rw[aX (fun e=>by cases e)]at h;exact SeqAt.EqAt.int_tuple z t (e12 f g1 g2<|28. n g3) d prog w E Q h
 |inr l=>
  obtain⟨a,rfl,p⟩:=p;cases y with
  |inl c=>obtain⟨t',rfl⟩:=q;obtain⟨f,its,n,g1,g2,g3,_⟩:=p;rw[aX (fun e=>by cases e)]at h;exact SeqAt.EqAt.tuple_int c t' (e12 f g1 g2<|28. n g3) d prog w E Q h
  |inr g=>obtain⟨b,rfl,q⟩:=q;refine wpAny_eqBool_tuple d p q ?_;simp_all
theorem GH(b:151.)(p:9.4 HS x v)(h:Q (92. rM x) (793. Ah x)):40. (pyHash v):=by
 cases x with
 |inl z=>obtain⟨t,rfl⟩:=p;exact wpAny_pyHash_int h
 |inr l=>obtain⟨a,rfl,p⟩:=p;exact wpAny_pyHash_tuple b p h
#check 0
section
variable{prog:aD}{w:World}{A:Around}{E:Sl}{s:aB}
theorem GJ(C:5.5 8)(x:99.6 ks)(h:Q (92. IQ ks) (4.4 (rN ks + 1))):
 40. (pyHash 031):=by
 revert C x h;revert prog w A E s ks a Q;intros prog w A E s ks a Q C x h
 have f:=x.tup;let⟨D,its,n,q,_,r,t⟩:=x;have g:151.:=21.
 unfold pyHash;unfold pyHashByItsType;refine aH<|wpAny_cRoomFor_or (8.4 g) ?_;refine 65.7;have u:(7. (Value.builtin "tuple.__hash__")==7. Value.none)=false:=beq_builtin_none _;simp only[u,cU,hB];refine 65.7;refine aH<|wpAny_callSpecialIfBoundUnlessNone?_slot f slot_tuple_hash<|eP slot_tuple_hash f entry_tuple_hash ?body<|args_tuple_hash_1 _
 case body=>
  have i:720.:=by rw[Around.in1_units];lia
  refine aH (m:=Builtin.Tuple.tupleItemsOf<|02 a)<|ir q r<|78.0;rw[<-i5];refine 742. (fun rest b j=>∃d l,d++l=ks/\9.4 gH l rest/\b.toList=d.map (92. rM)/\j= 793. rN d)<|240. [] ks t rfl<|rfl
  case step=>
   intros v rest b j y1_;let⟨d,l,rfl,o,p,rfl⟩:=y1_;cases o with
   | @cons k _ y _ z B=>
    refine aH<|GH (s:= 793. rN d) i z ?_;have e:rN (d++[k])=rN d + Ah k:=by unfold rN;rw[bG,List.sum_append];simp
    exact aN<|e23 (d++[k]) y (by rw[cY];rfl) B (by rw[Array.toList_push,p,bG];rfl)<|by rw[e,Nat.add_assoc]
  case last=>
   intros b j y1_;let⟨d,l,rfl,o,p,rfl⟩:=y1_;cases o;rw[dn]at h
   show 7.5 (retInt<|550. b.toList) _
   rw[p];refine wpAny_ret_mkInt ?_
   show wpAny _ _ (if 100.=true then _ else _) Q E _
   have h':=h;unfold IQ reduceHash at h';by_cases c:4e2 100.
   ·rw[aP c]at h' ⊢;exact 54.6
   rw[aM c]at h' ⊢;exact aH<|tZ<|54.6
theorem Fx(hu:5.5 8)(g:99.6 x)(i:9.4 fS y b)(h:Q (66.9) s):40. (eqBool 031 69.6):=by
 revert hu g i h;revert prog w A E s x a y b Q;intros prog w A E s x a y b Q hu g i h;have j:151.:=21.
 unfold eqBool;try with_reducible refine fD ?_
 by_cases e:4e2 (49. a==49. b)
 ·have M:a=b:=21.
  subst M;have N:=g.inj i;subst N;rw[aY rfl]at h;rw[aP e];exact aH<|tZ<|aN h
 rw[aM e];have K:=g.tup;have L:=i.tup;refine aH<|sh (op:=.Eq) K L Ox (eP Ox K entry_tuple_eq ?body<|args_tuple_eq_2 _ _) j;let⟨oa,xs,na,O,_,R,S⟩:=g;let⟨ob,ys,nb,T,_,U,V⟩:=i;have k:720.:=21.
 have d:∀c,c=66.9->(∃v,327./\v≠ .notImplemented/\40. (truthOfDropped v)):=fun c hc=>(86. (.bool c) (81.)<|eT<|21.);refine 119. 69.6 L;dsimp only[kG,cU,hB];refine aH<|ir O R<|aH<|ir T U<|78.0;refine 742. (fun rest r l=>r.1=none/\l=s/\∃us vs p q,62.5/\9.4 gH p us/\9.4 gH q vs/\((p=q)↔(x=y))/\385.) ⟨rfl,rfl,e44 _ _ x y rfl S V x4<|174. ⟩
 case step=>
  intros y1_ rest r l y2_;let 33. u v:=pairE y1_;have 66.8:=y2_;cases o with
  |nil=>simp_all
  | @cons k1 u1 Y B g1 C=>
   cases f with
   |nil=>simp_all
   | @cons k2 v1 Z D g2 G=>
    rw[ew]at hz;injection hz with z1 z2;injection z1 with z3 z4;subst z3 z4;rw[aZ,aZ]at t;refine aH<|vT k g1 g2 ?_;by_cases I:k1=k2
    ·subst I;rw[aY rfl];simp only[kG,cU,hB];exact aN ⟨rfl,rfl,e44 B D Y Z z2 C G ⟨fun e=>iff.mp (946.),by intros e;have:=iff.mpr e;injection this⟩<|21. ⟩
    rw[aX I];rw[aP (08)];have J: ¬ x=y:=fun e=>I<|21.
    exact aH<|aN<|aN<|aN<|d false (aX J).symm
 case last=>
  intros y1_ l y2_;let 33. r1 r2:=pairE y1_;have 66.8:=y2_;simp only at n;subst n;refine 77.9;have e:(xs.size==ys.size)=66.9:=by
   cases o with
   |nil=>
    cases f with
    |nil=>
     lia
    |cons _ _=>grind
   |cons _ _=>
    cases f with
    |nil=>
     have J: ¬ x=y:=by intros e;have:=iff.mpr e;cases this
     rw[aX J];simp at t;exact j9.mpr<|21.
    |cons _ _=>rw[ew]at hz;cases hz
  exact d _ e
theorem DV(x:9.4 HS k v)(h:Q true s):40. (eqIsQuiet (63.6) v):=by
 cases k with
 |inl z=>obtain⟨t,rfl⟩:=x;rw[eqIsQuiet_byValue _ rfl];exact aN h
 |inr l=>
  obtain⟨a,rfl,x⟩:=x;have e:=x.typeIs;have⟨o,its,m,f,_,g,i⟩:=x;unfold eqIsQuiet;refine aH<|me e Ox.lookup ?_;refine 119. 031 e;rw[487.];refine aH<|Df f g<|78.0;rw[<-i5];refine 19.2 (∀u∈rest,10.4 u) (88.0 i.byValue)
  ·rintro u rest r b y1_;have 69. all c:=y1_;rw[eqIsQuiet_byValue _<|all u<|.head _];refine 334.;rw[487.];exact aN ⟨fun j d=>all j<|.tail _ d,rfl,rfl⟩
  rintro y1_ b y2_;obtain⟨p,q⟩:=y1_;have 69. _ c:=y2_;simp only at c;subst c;exact aN h
theorem DW(x:99.6 ks)(h:Q true s):40. (eqIsQuiet 8 031):=by
 revert x h;revert prog w A E s ks a Q;intros prog w A E s ks a Q x h
 have d:=x.tup;have⟨n,its,m,e,_,f,g⟩:=x;unfold eqIsQuiet;refine aH<|me d Ox.lookup ?_;refine 119. 031 d;simp;refine aH<|Df e f<|78.0;rw[<-i5];refine 19.2 (∃l,9.4 gH l rest) ⟨ 073 g,rfl,rfl⟩
 ·intros u rest r b y1_;have⟨z1_,z2_,c⟩:=y1_;let 28. l i:=z1_;(try clear z1_);obtain rfl:=z2_;cases i with
  |cons j k=>refine aH<|DV j ?_;simp;exact aN ⟨ 073 k,rfl,rfl⟩
 intros y1_ b y2_;let 33. o p:=pairE y1_;have 69. _ c:=y2_;simp only at c;subst c;exact aN h
#check 0
def kC(prog:aD)(w:World):92. HeapKind (05 NK) where
 is:=92. fS
 hash:=92. IQ
 draws:=fun ks=>rN ks + 1
 room:=fun A=>5.5 8
 inj:=fun p q=>p.inj q
 keeps:=fun x a b c=>03 x.keeps
 pyHash:=fun a b c=>03 GJ
 eqBool:=fun a b c d=>1.0 Fx
 quiet:=fun a b=>DW a b
#check SR
namespace SR
open PySem
open PySem.F (slot_tuple_lt entry_tuple_lt args_tuple_lt_2)
def jk{α:Type} [141. α](lt:17.8):929.->929.->Bool
 |_,[]=>false
 | [],_::_=>true
 |89.9,y::ys=>if x=y then jk lt xs ys else lt x y
inductive qH{α:Type}(R:56.3 α):929.->Sj->Prop
 |nil:qH R [] []
 |cons {k:α} {v:Value} {ks:929.} {vs:Sj}:R k v->qH R ks vs->qH R (k::ks) (v::vs)
theorem qH.length(h:qH R x vs):x.length=vs.length:=by
 induction h with
 |nil=>rfl
 |cons _ _ a=>grind
def GL{α:Type}(ok:20. α α):929.->67.1
 |89.9,y::ys=>ok x y/\GL ok xs ys
 |_,_=>True
section
variable{prog:aD}{w:World}{A:Around}{E:Sl}{s:aB}
theorem IS [141. α](hu:151.)
 (O:39. a i) (a2:i.cls= 2e8) (a3:i.data= .seq xs Y) (a4:qH R x xs.toList) (S:39. b j) (b2:j.cls= 2e8) (b3:j.data= .seq ys Z) (b4:qH R y ys.toList)
 (l:GL ok x y)
 (n:∀(p q:α) (u v:Value) (o:Sl) (f:42.3),767. o)
 (t:∀(p q:α) (u v:Value) (o:Sl) (f:Sl),R p u->R q v->ok p q->f (.bool (lt p q)) s->9e5 A.in1 (97.1 .Lt u v) f o s)
 (h:547. (jk lt x y)):104. .Lt:=by
 have T:898. 031 :=(e11 i O<|a2);have U:898. 69.6 :=(e11 j S<|b2);refine sh (op:=.Lt) T U slot_tuple_lt (eP slot_tuple_lt T entry_tuple_lt ?body<|args_tuple_lt_2 _ _) hu;have g:986. jk lt:=872.;refine 119. 69.6 U;dsimp only[kG,cU,hB];refine 92.4;refine 742. (fun rest r B=>r.1=none/\B=s/\∃us vs p q,62.5/\qH R p us/\qH R q vs/\GL ok p q/\jk lt p q=jk lt x y/\385.) (39.1 l)
 case step=>
  rintro y1_ rest r B y2_;obtain⟨u,v⟩:=y1_;have 69. C (862. D k):=y2_;cases D with
  |nil=>simp_all
  | @cons k1 u1 p' I g1 J=>
   cases k with
   |nil=>simp_all
   | @cons k2 v1 q' K g2 L=>
    rw[ew]at hz;injection hz with z1 z2;injection z1 with z3 z4;subst z3 z4;rw[aZ,aZ]at G;obtain⟨hk,M⟩:=V;refine aH<|14.8 n ?_;rw[jk]at d;by_cases N:k1=k2
    ·subst N;rw[aY rfl];rw[324.]at d;dsimp only[kG,cU,hB];exact 970.
    rw[aX N];rw[aM N]at d;dsimp only;refine aH<|tZ<|aH<|14.8 t hk ?_;exact aH<|aN<|aN<|aN<|g _ d
 case last=>
  rintro y1_ B y2_;obtain⟨r1,r2⟩:=y1_;have 69. C (862. D k):=y2_;simp only at C;subst C;refine 77.9;have e:61. (xs.size<ys.size)=jk lt x y:=by
   rw[<-d];cases D with
   |nil=>
    cases k with
    |nil=>grind[jk]
    |cons _ _=>grind[jk]
   |cons _ _=>
    cases k with
    |nil=>rw[jk];simp at G;exact aX<|21.
    |cons _ _=>rw[ew]at hz;cases hz
  exact g _ e
def ltI(p q:Int):Bool:=61. (p<q)
def HU:NK->NK->Bool
 | 97. p,97. q=>61. (p<q)
 | 8.4 p,8.4 q=>jk ltI p q
 | 97. _,8.4 _=>true
 | 8.4 _,97. _=>false
def La(p q:NK):Prop:=p.isLeft=q.isLeft
theorem Fy{x y:Sg}{a b:Addr}{Q:Sl}(n:151.)(p:9.8 57.5 x a)(q:9.8 57.5 y b)(h:547. (jk ltI x y)):
 104. .Lt:=by
 have⟨L,xs,M,o,r,B,C⟩:=p;have 89.5 N O:=q;have f:360.:=fun h=>by
  induction h with
  |nil=>exact .nil
  |cons g _ e=>exact 9e6 (Value.isInt_shape g) e
 have K:∀l m:Sg,GL (227.) l m:=by
  intro l;induction l with
  |nil=>intro m;trivial
  |cons c l e=>intro m;cases m with
   |nil=>trivial
   |cons d m=>exact⟨trivial,e m⟩
 refine IS (R:=18.7) (lt:=ltI) (ok:=227.) n o r B (f C) D G I (f J) (K x y) ?_ ?_ h
 ·rintro p q u v i j y1_ y2_ k;obtain⟨t,rfl⟩:=y1_;obtain⟨t',rfl⟩:=y2_;exact pa k
 rintro p q u v i j y1_ y2_ _ k;obtain⟨t,rfl⟩:=y1_;obtain⟨t',rfl⟩:=y2_;exact(yR k:125. .Lt j i s)
theorem Lb(L:5.5 8)(p:99.6 x)(q:9.4 fS y b)(j:GL La x y)(h:547. (jk HU x y)):
 104. .Lt:=by
 have⟨M,xs,N,r,z,B,C⟩:=p;have 89.5 O S:=q;have m:865.:=fun h=>by
  induction h with
  |nil=>exact .nil
  |cons g _ K=>exact 9e6 g K
 have i:720.:=21.
 refine IS (R:=9.4 HS) (lt:=HU) (ok:=La) 2.8 r z B (m C) D G I (m J) j ?_ ?_ h
 ·intro p q u v n o e f k;exact vT i e f k
 intro p q u v n o e f ok k;cases p with
 |inl p=>
  cases q with
  |inl q=>obtain⟨t,rfl⟩:=e;obtain⟨t',rfl⟩:=f;exact(yR k:125. .Lt o n s)
  |inr q=>cases ok
 |inr p=>
  cases q with
  |inl q=>cases ok
  |inr q=>obtain⟨c,rfl,e⟩:=e;obtain⟨d,rfl,f⟩:=f;exact Fy i e f k
#check 0
#check SR
namespace SR
open PySem
open PySem.F (slot_tuple_le entry_tuple_le args_tuple_le_2)
def pR{α:Type} [141. α](le:17.8):929.->929.->Bool
 | [],_=>true
 |_::_,[]=>false
 |89.9,y::ys=>if x=y then pR le xs ys else le x y
section
variable{prog:aD}{w:World}{A:Around}{E:Sl}{s:aB}
theorem IT [141. α](hu:151.)
 (O:39. a i) (a2:i.cls= 2e8) (a3:i.data= .seq xs Y) (a4:qH R x xs.toList) (S:39. b j) (b2:j.cls= 2e8) (b3:j.data= .seq ys Z) (b4:qH R y ys.toList)
 (k:GL ok x y)
 (l:∀(p q:α) (u v:Value) (n:Sl) (f:42.3),767. n)
 (o:∀(p q:α) (u v:Value) (n:Sl) (f:Sl),R p u->R q v->ok p q->f (.bool (le p q)) s->9e5 A.in1 (97.1 .LtE u v) f n s)
 (h:547. (pR le x y)):104. .LtE:=by
 have T:898. 031 :=(e11 i O<|a2);have U:898. 69.6 :=(e11 j S<|b2);refine sh (op:=.LtE) T U slot_tuple_le (eP slot_tuple_le T entry_tuple_le ?body<|args_tuple_le_2 _ _) hu;have g:986. pR le:=872.;refine 119. 69.6 U;dsimp only[kG,cU,hB];refine 92.4;refine 742. (fun rest r t=>r.1=none/\t=s/\∃us vs p q,62.5/\qH R p us/\qH R q vs/\GL ok p q/\pR le p q=pR le x y/\385.) (39.1 k)
 case step=>
  rintro y1_ rest r t y2_;obtain⟨u,v⟩:=y1_;have 69. B (862. C D):=y2_;cases C with
  |nil=>simp_all
  | @cons k1 u1 p' I g1 J=>
   cases D with
   |nil=>simp_all
   | @cons k2 v1 q' K g2 L=>
    rw[ew]at hz;injection hz with z1 z2;injection z1 with z3 z4;subst z3 z4;rw[aZ,aZ]at G;obtain⟨hk,M⟩:=V;refine aH<|14.8 l ?_;rw[pR]at d;by_cases N:k1=k2
    ·subst N;rw[aY rfl];rw[324.]at d;dsimp only[kG,cU,hB];exact 970.
    rw[aX N];rw[aM N]at d;dsimp only;refine aH<|tZ<|aH<|14.8 o hk ?_;exact aH<|aN<|aN<|aN<|g _ d
 case last=>
  rintro y1_ t y2_;obtain⟨r1,r2⟩:=y1_;have 69. B (862. C D):=y2_;simp only at B;subst B;refine 77.9;have e:881. xs.size ys.size=pR le x y:=by
   rw[<-d];cases C with
   |nil=>grind[pR]
   |cons _ _=>
    cases D with
    |nil=>rw[pR];simp at G;exact aX<|21.
    |cons _ _=>rw[ew]at hz;cases hz
  exact g _ e
def Pf(p q:Int):Bool:=881. p q
def NA:NK->NK->Bool
 | 97. p,97. q=>881. p q
 | 8.4 p,8.4 q=>pR Pf p q
 | 97. _,8.4 _=>true
 | 8.4 _,97. _=>false
theorem Lc{x y:Sg}{a b:Addr}{Q:Sl}(n:151.)(p:9.8 57.5 x a)(q:9.8 57.5 y b)(h:547. (pR Pf x y)):
 104. .LtE:=by
 have⟨L,xs,M,o,r,B,C⟩:=p;have 89.5 N O:=q;have f:360.:=fun h=>by
  induction h with
  |nil=>exact .nil
  |cons g _ e=>exact 9e6 (Value.isInt_shape g) e
 have K:∀l m:Sg,GL (227.) l m:=by
  intro l;induction l with
  |nil=>intro m;trivial
  |cons c l e=>intro m;cases m with
   |nil=>trivial
   |cons d m=>exact⟨trivial,e m⟩
 refine IT (R:=18.7) (le:=Pf) (ok:=227.) n o r B (f C) D G I (f J) (K x y) ?_ ?_ h
 ·rintro p q u v i j y1_ y2_ k;obtain⟨t,rfl⟩:=y1_;obtain⟨t',rfl⟩:=y2_;exact pa k
 rintro p q u v i j y1_ y2_ _ k;obtain⟨t,rfl⟩:=y1_;obtain⟨t',rfl⟩:=y2_;exact(yQ k:125. .LtE j i s)
theorem Ld(L:5.5 8)(p:99.6 x)(q:9.4 fS y b)(j:GL La x y)(h:547. (pR NA x y)):
 104. .LtE:=by
 have⟨M,xs,N,r,z,B,C⟩:=p;have 89.5 O S:=q;have m:865.:=fun h=>by
  induction h with
  |nil=>exact .nil
  |cons g _ K=>exact 9e6 g K
 have i:720.:=21.
 refine IT (R:=9.4 HS) (le:=NA) (ok:=La) 2.8 r z B (m C) D G I (m J) j ?_ ?_ h
 ·intro p q u v n o e f k;exact vT i e f k
 intro p q u v n o e f ok k;cases p with
 |inl p=>
  cases q with
  |inl q=>obtain⟨t,rfl⟩:=e;obtain⟨t',rfl⟩:=f;exact(yQ k:125. .LtE o n s)
  |inr q=>cases ok
 |inr p=>
  cases q with
  |inl q=>cases ok
  |inr q=>obtain⟨c,rfl,e⟩:=e;obtain⟨d,rfl,f⟩:=f;exact Lc i e f k
#check 0
#check SR
namespace SR
structure NB{α:Type}(lt:17.8):Prop where
 Kz:∀a,lt a a=false
 tr:∀a b c,lt a b=true->lt b c=true->lt a c=true
 MB:∀a b,a≠b->lt a b=true\/lt b a=true
theorem qu:NB ltI:=⟨fun a=>aX 960.,fun a b c x y=>aY (by have:=cZ x;have:=cZ y;lia),fun a b n=>by
 rcases Int.lt_or_gt_of_ne n with h|h
 ·exact 97. (aY h)
 exact 8.4 (aY h)⟩
theorem rO{α:Type} [141. α]{lt:17.8}(h:NB lt):NB (jk lt) where
 Kz:=fun l=>by
  induction l with
  |nil=>rfl
  |cons x l d=>rw[jk,324.];exact d
 tr:=fun l=>by
  induction l with
  |nil=>
   intro m k x y;cases k with
   |nil=>cases m <;> (rw[jk]at y;cases y)
   |cons c k=>rfl
  |cons a l d=>
   intro m k x y;cases m with
   |nil=>rw[jk]at x;cases x
   |cons b m=>
    cases k with
    |nil=>rw[jk]at y;cases y
    |cons c k=>
     rw[jk]at x y ⊢;by_cases ab:a=b
     ·subst ab;rw[324.]at x;by_cases f:a=c
      ·rw[aP f]at y ⊢;exact d m k x y
      rw[aM f]at y ⊢;exact y
     rw[aM ab]at x;by_cases g:b=c
     ·subst g;rw[aM ab];exact x
     rw[aM g]at y;have:=015 h.tr x y;have f:a≠c:=fun e=>by rw[e,h.Kz]at this;cases this
     rw[aM f];exact this
 MB:=fun l=>by
  induction l with
  |nil=>
   intro m n;cases m with
   |nil=>exact 49.9 n
   |cons b m=>exact 8.5
  |cons a l d=>
   intro m n;cases m with
   |nil=>exact 674.
   |cons b m=>
    rw[jk,jk];by_cases ab:a=b
    ·subst ab;rw[324.,324.];exact d m fun e=>n<|946.
    rw[aM ab,aM (fun e=>ab e.symm)];exact h.MB a b ab
theorem Fz:NB HU where
 Kz:=fun a=>by
  cases a with
  |inl a=>exact qu.Kz a
  |inr a=>exact(rO qu).Kz a
 tr:=fun a b c x y=>by
  cases a with
  |inl a=>
   cases b with
   |inl b=>cases c with
    |inl c=>exact 03 qu.tr x y
    |inr c=>rfl
   |inr b=>cases c with
    |inl c=>cases y
    |inr c=>rfl
  |inr a=>
   cases b with
   |inl b=>cases x
   |inr b=>cases c with
    |inl c=>cases y
    |inr c=>exact 03 (rO qu).tr x y
 MB:=fun a b n=>by
  cases a with
  |inl a=>cases b with
   |inl b=>exact qu.MB a b fun e=>n<|946.
   |inr b=>exact 8.5
  |inr a=>cases b with
   |inl b=>exact 674.
   |inr b=>exact(rO qu).MB a b fun e=>n<|946.
abbrev PK:=05 NK ×Int
def MC(p q:PK):Bool:=if p.1=q.1 then 61. (p.2<q.2)else jk HU p.1 q.1
theorem Pg:NB MC where
 Kz:=fun a=>by unfold MC;rw[324.];exact aX<|44.
 tr:=fun a b c x y=>by
  unfold MC at x y ⊢;by_cases ab:a.1=b.1
  ·rw[aP ab]at x;by_cases d:b.1=c.1
   ·rw[aP d]at y;rw[aP<|ab.trans d];have:=cZ x;have:=cZ y;exact aY<|21.
   rw[aM d]at y;rw[aM (fun e=>d<|ab.symm.trans e),ab];exact y
  rw[aM ab]at x;by_cases d:b.1=c.1
  ·rw[aM (fun e=>ab<|e.trans d.symm),<-d];exact x
  rw[aM d]at y;have t:=015 (rO Fz).tr x y;rw[aM (fun e=>by rw[e,(rO Fz).Kz]at t;cases t)];exact t
 MB:=fun a b n=>by
  unfold MC;by_cases ab:a.1=b.1
  ·rw[aP ab,aP ab.symm];have f:a.2≠b.2:=fun e=>n<|Prod.ext ab e;rcases Int.lt_or_gt_of_ne f with h|h
   ·exact 97. (aY h)
   exact 8.4 (aY h)
  rw[aM ab,aM (fun e=>ab e.symm)];exact(rO Fz).MB _ _ ab
theorem zc{α:Type}{p q:α->Bool}:∀{l:929.},(∀x,p x=true->q x=true)->(∃a∈l,q a=true/\p a=false)->l.countP p<l.countP q
 | [],_,049 _ h=>nomatch h
 |b::l,h,⟨a,c,d,e⟩=>by
  rw[List.countP_cons,List.countP_cons];have le:l.countP p<=l.countP q:=List.countP_mono_left fun x _ f=>h x f;rcases 819. c with rfl|c
  ·simp +arith [*]
  have g:=zc h (e12 a c d<|e);grind
def rk{α:Type}(lt:17.8)(l:929.)(a:α):Nat:=l.countP fun x=>lt x a
theorem MD{α:Type}{lt:17.8}(h:NB lt){l:929.}{a b:α}(ha:a∈l)(hb:b∈l):61. (rk lt l a<rk lt l b)=lt a b:=by
 have one:∀{a b:α},a∈l->lt a b=true->rk lt l a<rk lt l b:=fun{a b} ha x=>by
  unfold rk;have:=zc (l:=l) (p:=fun x=>lt x a) (q:=fun x=>lt x b) (fun y hy=>015 h.tr hy x) ⟨a,ha,x,h.Kz a⟩
  lia
 cases e:lt a b with
 |true=>exact aY<|one ha e
 |false=>
  refine aX (4e7 hl);by_cases ab:a=b
  ·subst ab;simp_all
  rcases h.MB a b ab with z|z
  ·rw[e]at z;cases z
  have:=one hb z;lia
section
open Vacola Vacolb Vacoly
theorem Ak:∀(n:Nat) {t s r:Text},429. n->266. t=9.6 s->(∀c∈s,c<=255)/\529.:=by
 intro n;induction n with
 |zero=>
  intro t s r hl h;cases t with
  |nil=>trivial
  |cons a t=>simp at hl
 |succ n ih=>
  intro t s r hl h;cases t with
  |nil=>trivial
  |cons c t=>
   rw[K7]at h;simp only[aZ]at hl;by_cases h1:c=34
   ·rw[aP h1]at h;cases h;subst h1;exact⟨ 21.,[34],rfl,21. ⟩
   rw[aM h1]at h;by_cases h2:c=92
   ·rw[aP h2]at h;subst h2
    match t,h with
    | [],h=>cases h
    | [_],h=>cases h
    |a::b::u,h=>
     simp only at h
     match hx:hexOf a with
     |none=>rw[hx]at h;cases h
     |7. x=>
      match hy:hexOf b with
      |none=>rw[hx,hy]at h;cases h
      |7. y=>
       rw[hx,hy]at h;simp only at h;by_cases hp:899.=true
       ·rw[aP hp]at h;cases h
       rw[aM hp]at h
       match e:266. u with
       |none=>rw[e]at h;cases h
       |7. z=>
        obtain⟨z1,z2⟩:=z;rw[e]at h;simp only[fP,dk,dB]at h;have 439.:=h;(try clear h);obtain⟨x16,hxs⟩:=lE hx;have 28. y16 hys:=lE hy;have 28. i1 ⟨w,rfl,i2⟩:=ih (by simp only[aZ]at hl;lia) e;have sgn:∀k,k<16->1<=hexSign k/\hexSign k<=255:=by intro k hk;unfold hexSign;split <;> lia
        refine⟨ 63. c hc,92::a::b::w,rfl,63. c hc ⟩
        ·rcases 819. hc with rfl|hc
         ·lia
         exact i1 c hc
        simp only[aW]at hc;rcases hc with rfl|rfl|rfl|hc
        ·decide
        ·rw[<-hxs];exact sgn x x16
        ·rw[<-hys];exact sgn y y16
        exact i2 c hc
   rw[aM h2]at h;by_cases hp:plain c=true
   ·rw[aP hp]at h
    match e:266. t with
    |none=>rw[e]at h;cases h
    |7. z=>
     obtain⟨z1,z2⟩:=z;rw[e]at h;simp only[fP,dk,dB]at h;have 439.:=h;(try clear h);have 28. i1 ⟨w,rfl,i2⟩:=ih (52.) e;have:32<=c/\c<=126:=by unfold plain at hp;simp only[bI,cO]at hp;exact hp.1.1
     refine⟨ 63. d hd,c::w,rfl,63. d hd ⟩
     ·rcases 819. hd with rfl|hd
      ·lia
      exact i1 d hd
     rcases 819. hd with rfl|hd
     ·grind
     exact i2 d hd
   rw[aM hp]at h;cases h
theorem pS(h:522. t=9.6 n):529.:=by
 rw[fH]at h;split at h
 ·cases h
 cases h;refine(e11 (2e1) ((dt).symm)<|63. c a);have:=i8 a;unfold isDigit at this
 lia
theorem yi{l:Leaf}{t:Text}{v:Lit}{r:Text}(h:787.=9.6 v):529.:=by
 revert h;revert l t v r;intros l t v r h
 cases l with
 |bit=>
  rcases pD h with⟨rfl,rfl⟩|⟨rfl,rfl⟩
  ·exact⟨[48],rfl,21. ⟩
  exact⟨[49],rfl,21. ⟩
 |int n=>
  by_cases hh:0.9 45
  ·rw[9e9 hh,ml]at h
   match e:522. 3e5 with
   |none=>rw[e]at h;trivial
   |7. x=>
    let 33. m s:=6e3;rw[e]at h;simp only at h;by_cases hz:m=0
    ·rw[aP hz]at h;cases h
    rw[aM hz]at h;cases h;have 963. u:=pS e;refine 61.6 45;rcases 819. hc with rfl|hc
    ·decide
    exact h2 c hc
  rw[mn n t hh]at h
  match e:522. t with
  |none=>rw[e]at h;trivial
  |7. x=>let 33. m s:=6e3;rw[e]at h;cases h;exact pS e
 |text n=>
  by_cases hh:0.9 34
  ·rw[9e9 hh,qp]at h
   match e:266. 3e5 with
   |none=>rw[e]at h;trivial
   |7. x=>
    let 33. s z:=6e3;rw[e]at h;cases h;have 073 (963. u):=Ak _ 779. e;refine 61.6 34;rcases 819. hc with rfl|hc
    ·decide
    exact h2 c hc
  rw[rH n t hh]at h;cases h
def vy:37.7->Sg->74. Key
 | [],l=>63.9 l []
 |leaf::r,l=>match l with
  | []=>none
  |n::s=>if 63.5 then none else match jS leaf (9e4)with
   |7. (x,u)=>98.0 (vy r (934. s.drop)).map
   |none=>none
theorem uu(a)(r)(l):vy (a::r) l=match l with
 | []=>none
 |n::s=>if 63.5 then none else match jS a (9e4)with
  |7. (x,u)=>98.0 (vy r<|934. s.drop).map
  |none=>none:=by
 cases l <;> rfl
theorem Al(a)(r)(l):readKey (a::r) l=match l with
 | []=>none
 |n::s=>
  if n<0\/47. s.length<n\/722. then none
  else match wholeLit a (9e4)with
   |none=>none
   |7. x=>(readKey r<|934. s.drop).map fun k=>x::k:=by
 cases l <;> rfl
theorem jL:∀ls l,vy ls l=readKey ls l
 | [],l=>by rw[vy,readKey];cases l <;> rfl
 |leaf::r,l=>by
  rw[uu,Al];cases l with
  |nil=>rfl
  |cons n s=>
   simp only;by_cases b:63.5
   ·rw[aP b,aP (by rcases b with h|h;exact 97. h;exact 721. h)]
   rw[aM b];have j:=DE leaf<|9e4;by_cases d:722.
   ·rw[aP<|152. d];cases e:jS leaf (9e4)with
    |none=>rfl
    |some x=>
     obtain⟨x,u⟩:=x;simp only;by_cases i:u=[]
     ·exfalso;subst i;have⟨w,c,f⟩:=yi (iJ e).1;rw[dn]at c;rw[List.any_eq_true]at d;have⟨z,hz,g⟩:=d;have k:z.toNat∈w:=by rw[<-c];exact 9e0 z hz
      have:=f _ k;simp only[oQ,cO]at g
      lia
     rw[aM i]
   rw[aM (by rintro(h|h|h);exact b<|97. h;exact b<|8.4 h;exact d h)];rw[<-j];cases e:jS leaf (9e4)with
   |none=>rfl
   |some x=>
    obtain⟨x,u⟩:=x;cases u with
    |nil=>simp only[C9];rw[jL r]
    |cons a u=>simp only;rw[aM 960.]
theorem sR:∀{ls:37.7} {l:Sg} {k:Key},readKey ls l=7. k->293.
 | [],l,k,h=>by
  rw[readKey]at h;split at h
  ·cases h;exact⟨rfl,fun j a x h=>034 ⟩
  cases h
 |leaf::r,l,k,h=>by
  rw[<-jL,uu]at h;cases l with
  |nil=>cases h
  |cons n s=>
   simp only at h;split at h
   ·cases h
   match e:jS leaf (9e4)with
   |none=>rw[e]at h;cases h
   |7. x=>
    let 33. x u:=6e3;rw[e]at h;simp only at h;split at h
    ·match b:vy r (934. s.drop)with
     |none=>rw[b]at h;cases h
     |7. i=>
      rw[b]at h;cases h;rw[jL]at b;have 28. f g:=sR b;refine⟨by simp[f],fun j a y c d=>?_⟩;cases j with
      |zero=>simp at c d;subst c d;exact(iJ e).2
      |succ j=>exact g j a y (by simpa using c)<|848.
    cases h
theorem sS:∀l,distinct l=true↔l.Nodup
 | []=>21.
 |a::l=>by rw[distinct,bI,sS l,eW];simp
def kj(fs:Fields)(cols:Sg):Prop:=1<=cols.length/\cols.length<=3/\cols.Nodup/\∀i∈cols,023
theorem vd(fs:Fields)(cols:Sg):goodKey fs cols=true↔kj fs cols:=by
 revert fs cols;intros fs cols
 unfold goodKey kj;simp only[bI,cO,jw,sS,eE,and_assoc];have h1:cols.isEmpty=false↔1<=cols.length:=by cases cols <;> simp
 rw[h1];have h2:∀i:Int,((at? (columns fs) i).any isSure=true)↔(023):=by
  intros i
  unfold at?;by_cases hi:i<0
  ·rw[aP hi];constructor
   ·intros q;cases q
   intros y1_;have 28. q _:=y1_;(try clear y1_);lia
  rw[aM hi];have hg:=pN fs i.toNat;constructor
  ·intros q
   refine⟨ 21.,?_⟩
   match e1:682. with
   |none=>rw[e1]at q;cases q
   |7. c=>
    match e2:418. i.toNat with
    |none=>rw[e1,e2]at hg;exact hg.elim
    |7. x=>rw[e1,e2]at hg;rw[e1]at q;refine 69. x ?_;rw[<-hg.2.2];exact q
  intros y1_;have 073 ⟨x,e2,hs⟩:=y1_;rw[e2]at hg
  match e1:682. with
  |none=>rw[e1]at hg;exact hg.elim
  |7. c=>
   rw[e1]at hg
   show isSure c=true
   unfold isSure;rw[hg.2.2];exact hs
 constructor
 ·intros y1_;have⟨a,b,c,d⟩:=y1_;exact⟨a,b,c,fun i hi=>(h2 i).mp<|d i hi⟩
 intros y1_;have⟨a,b,c,d⟩:=y1_;exact⟨a,b,c,fun i hi=>(h2 i).mpr<|d i hi⟩
def gu(fs:Fields)(cols:Sg):05 Ky:=cols.filterMap fun i=>418. i.toNat
theorem my{fs:Fields}:∀{cols:Sg},(∀i∈cols,023)->
 (gu fs cols).length=cols.length/\(∀x∈gu fs cols,4e2 x.sure/\x∈colsOf fs)/\256. leaves cols.map=(gu fs cols).map (·.leaf)
 | [],_=>⟨rfl,fun x hx=>(by cases hx),rfl⟩
 |i::r,h=>by
  have 75.2 h1:=my (cols:=r) fun j hj=>h j<|17.
  have 073 (25.7 hs):=h i<|17.
  have e:gu fs (i::r)=x::gu fs r:=by unfold gu;rw[dc,hx]
  rw[e];refine⟨by simp[h1],63. y hy,?_⟩
  ·rcases 819. hy with rfl|hy
   ·exact⟨hs,bB hx⟩
   exact h2 y hy
  have hg:=pN fs i.toNat;rw[hx]at hg
  match e1:682. with
  |none=>rw[e1]at hg;exact hg.elim
  |7. c=>rw[e1]at hg;unfold leaves at h3 ⊢;rw[bD,dc,e1,h3];simp[*]
theorem uv{fs:Fields}{v:Val}(hw:78.1)(hv:Bj 0e6 v):∀{cols:Sg},(∀i∈cols,023)->
 (73.5 cols.map).length=cols.length/\
 ∀(j:Nat) (x:Ky),(gu fs cols)[j]? =7. x->∃lit,pick x.names 0e6 v=676./\(73.5 cols.map)[j]? =7. lit/\075 x.leaf lit
 | [],_=>⟨rfl,fun j x h=>034 ⟩
 |i::r,h=>by
  obtain⟨h1,h2⟩:=uv hw hv (cols:=r) fun j hj=>h j<|17.
  have 073 (25.7 hs):=h i<|17.
  have e:gu fs (i::r)=x::gu fs r:=by unfold gu;rw[dc,hx]
  have hmem:x∈jj 0e6:=by rw[jj];exact bB hx
  have⟨lit,p1,p2,p3⟩:=pickK _ 6 hw v hv x hmem hs;have hg:=pN fs i.toNat;rw[hx]at hg
  match e1:682. with
  |none=>rw[e1]at hg;exact hg.elim
  |7. c=>
   rw[e1]at hg;have hval:valueAt fs i.toNat v=7. lit:=by
    unfold valueAt;rw[e1]
    show(Vacoli.itemsOf fs c v).head?.bind id=7. lit
    unfold Vacoli.itemsOf;rw[hg.2.1,p2];rfl
   have e2:73.5 (i::r).map=lit::73.5 r.map:=by unfold Vacoly.keyOf;rw[bD,dc,hval]
   rw[e2,e];refine⟨by simp[h1],fun j y hy=>?_⟩;cases j with
   |zero=>simp at hy;subst hy;exact⟨lit,p1,rfl,p3⟩
   |succ j=>exact h2 j y<|by simpa using hy
theorem oV:∀a,textLess a a=false
 | []=>rfl
 |a::r=>by rw[textLess,oV r];simp
theorem pT:∀{a b c:Text},62.3 a b->62.3 b c->62.3 a c
 |a,[],c,h,_=>by cases a <;> cases h
 |a,b::r,[],_,h=>211.
 | [],b::r,c::s,_,_=>rfl
 |a::q,b::r,c::s,e,d=>by
  rw[textLess]at e d ⊢;simp at e d ⊢;rcases e with e|⟨rfl,e⟩
  ·lia
  rcases d with d|⟨rfl,d⟩
  ·exact 97. d
  exact 8.4 ⟨rfl,pT e d⟩
theorem pU:∀a b,62.3 a b\/a=b\/62.3 b a
 | [],[]=> 721. rfl
 | [],b::r=> 8.5
 |a::q,[]=> 152. rfl
 |a::q,b::r=>by
  rw[textLess,textLess];simp;rcases pU q r with h|rfl|h
  ·grind
  ·grind
  grind
theorem lJ(a):76.4 a a=false:=by
 cases a with
 |num z=>simp[litLess]
 |str s=>exact oV s
theorem yj(d:76.4 a b=true)(e:76.4 b c=true):76.4 a c=true:=by cases a <;> cases b <;> cases c <;> simp only[litLess,cO]at * <;> first|lia|exact pT d e|simp_all
theorem yk(a b):76.4 a b=true\/a=b\/76.4 b a=true:=by
 cases a with
 |num x=>
  cases b with
  |num y=>grind[litLess,Lit.num.injEq]
  |str t=>exact 8.5
 |str s=>
  cases b with
  |num y=>exact 152. rfl
  |str t=>
   rcases pU s t with h|rfl|h
   ·exact 97. h
   ·simp
   exact 152. h
theorem iV(a)(r)(b)(s):5e7 (a::r) (b::s)=(76.4 a b||(a==b&&5e7 r s)):=rfl
theorem eA:∀a,951. a a
 | []=>rfl
 |a::r=>by rw[iV,lJ,eA r];simp
theorem jb:∀{a b c:Key},93.2 a b->93.2 b c->93.2 a c
 | [],b,c,h,_=>by cases b <;> cases h
 |a::q,[],c,h,_=>211.
 |a::q,b::r,[],_,h=>211.
 |a::q,b::r,c::s,e,d=>by
  rw[iV]at e d ⊢;simp at e d ⊢;rcases e with e|⟨rfl,e⟩
  ·rcases d with d|⟨rfl,d⟩
   ·exact 97. (yj e d)
   cutsat
  rcases d with d|⟨rfl,d⟩
  ·exact 97. d
  exact 8.4 ⟨rfl,jb e d⟩
theorem jc:∀{a b:Key},a.length=b.length->93.2 a b\/a=b\/93.2 b a
 | [],[],_=> 721. rfl
 | [],_::_,h=>034
 |_::_,[],h=>034
 |a::q,b::r,h=>by
  rw[iV,iV];simp only[oQ,bI,kO];rcases yk a b with h1|rfl|h1
  ·exact 402. h1
  ·rcases jc (a:=q) (b:=r) (541.)with h2|rfl|h2
   ·exact 12.5 ⟨rfl,h2⟩
   ·exact 721. rfl
   exact 152. (.inr ⟨rfl,h2⟩)
  exact 152. (97. h1)
theorem qY(c:93.2 a b):951. b a:=by
 cases d:5e7 b a with
 |false=>rfl
 |true=>have:=jb c d;grind[eA]
theorem iN(a b:aE):199. a b ↔ 93.2 a.key b.key\/(a.key=b.key/\b.seq<a.seq):=by unfold entryBefore;simp
theorem mQ(a:aE): ¬ 199. a a:=by rw[iN,eA];simp
theorem sT(d:199. a b)(e:199. b c):199. a c:=by
 rw[iN]at *;rcases d with d|⟨f,d⟩
 ·rcases e with e|⟨g,e⟩
  ·exact 97. (jb d e)
  simp_all
 grind
theorem sU{a b:aE}(hl:a.key.length=b.key.length)(hs:a.seq≠b.seq):199. a b\/199. b a:=by
 rw[iN,iN];rcases jc hl with h|h|h
 ·exact 402. h
 ·by_cases q:a.seq<b.seq
  ·exact 152. ⟨h.symm,q⟩
  exact .inl (8.4 ⟨h,21. ⟩)
 exact 721. h
structure Good(n:Nat)(l:32.2):Prop where
 len:∀e∈l,e.key.length=n
 nd:(l.map (·.seq)).Nodup
theorem Good.perm(g:Good n l)(p:l.Perm a):Good n a:=
 ⟨fun e b=>g.len e<|p.mem_iff.mpr b,(p.map _).nodup_iff.mp g.nd⟩
theorem Good.sub(g:Good n l)(p:a.Sublist l):Good n a:=
 ⟨fun e b=>g.len e<|p.subset b,g.nd.sublist<|p.map _⟩
theorem Good.inj(g:Good n l)(c:a∈l)(d:b∈l)(h:a.seq=b.seq):a=b:=by
 obtain⟨i,hi,rfl⟩:=List.getElem_of_mem c;obtain⟨j,e,rfl⟩:=List.getElem_of_mem d;have:i=j:=by refine(809. (h₁:=064) g.nd).mp ?_;simpa using h
 cutsat
abbrev yl(l:32.2):Prop:=l.Pairwise fun a b=>199. a b
theorem mR(e:aE):∀l,(putEntry e l).Perm (e::l)
 | []=> .refl _
 |f::r=>by
  rw[putEntry];split
  ·exact .refl _
  exact((mR e r).cons f).trans<|.swap e f r
theorem iO:∀l,(sorted l).Perm l
 | []=> .refl _
 |e::l=>(mR e _).trans<|(iO l).cons e
theorem sV:∀{l:32.2},Good n (e::l)->yl l->yl (putEntry e l)
 | [],_,_=>tY _ _
 |f::r,g,s=>by
  rw[putEntry];have c:=dq.mp s;split
  ·rename_i h;refine dq.mpr ⟨ 63. x a,s⟩;rcases 819. a with rfl|a
   ·exact h
   exact sT h<|c.1 x a
  rename_i h;have g':=g.sub<|List.Sublist.cons_cons e<|List.sublist_cons_self f r;refine dq.mpr ⟨ 63. x a,sV g' c.2⟩;rcases 819. ((mR e r).mem_iff.mp a)with rfl|a
  ·have b:f.seq≠x.seq:=by have:=g.nd;grind
   rcases sU ((g.len f<|17.).trans (g.len x<|17.).symm) b with q|q
   ·exact q
   cutsat
  simp[*]
theorem lK:∀{l:32.2},Good n l->yl (sorted l)
 | [],_=>List.Pairwise.nil
 |e::l,g=>by have g':=g.sub<|List.sublist_cons_self e l;exact sV (g.perm<|(iO l).symm.cons e)<|lK g'
theorem rQ:∀{l l':32.2},yl l->yl l'->(∀e,e∈l↔e∈l')->l=l'
 | [],[],_,_,_=>rfl
 | [],b::r,_,_,h=>absurd ((h b).mpr<|17.)<|44.
 |a::q,[],_,_,h=>absurd ((h a).mp<|17.)<|44.
 |a::q,b::r,s1,s2,h=>by
  have p1:=dq.mp s1;have p2:=dq.mp s2;have e:a=b:=by
   rcases 819. ((h a).mp<|17.)with e|ha
   ·exact e
   rcases 819. ((h b).mpr<|17.)with e|hb
   ·exact e.symm
   exact 88. (sT (p1.1 b hb)<|p2.1 a ha)<|mQ a
  subst e;congr 1;refine rQ p1.2 p2.2 fun x=>⟨ 4e7 hx,4e7 hx ⟩
  ·rcases 819. ((h x).mp<|17.)with rfl|q
   ·exact 88. (p1.1 x hx)<|mQ x
   exact q
  rcases 819. ((h x).mpr<|17.)with rfl|q
  ·exact 88. (p2.1 x hx)<|mQ x
  exact q
def wG(a:74. aE)(e:aE):74. aE:=match a with
 |none=>7. e
 |7. b=>63.8
theorem rR:∀(l:32.2) (b:aE),∃f,l.foldl wG (7. b)=7. f/\(f=b\/f∈l)/\b.seq<=f.seq/\∀g∈l,g.seq<=f.seq
 | [],b=>(65.0 b (8.5) 779.<|fun g a=>by cases a)
 |e::l,b=>by
  rw[fy]
  show ∃f,l.foldl wG (63.8)=7. f/\_
  by_cases h:b.seq<e.seq
  ·rw[aP h];have⟨f,c,d,i,j⟩:=rR l e;grind
  rw[aM h];have⟨f,c,d,i,j⟩:=rR l b;grind
theorem wH(l)(k)(p):7e1 l=(l.filter 281.).foldl wG none:=rfl
theorem jt(l)(k:Key)(p:Nat):match 7e1 l with
 |7. f=>f∈l/\f.key=k/\f.seq<=p/\∀g∈l,g.key=k->g.seq<=p->g.seq<=f.seq
 |none=>∀g∈l,g.key=k-> ¬ g.seq<=p:=by
 rw[wH];have b:∀g,g∈(l.filter 281.)↔g∈l/\g.key=k/\g.seq<=p:=by intro g;rw[da];simp
 cases e:l.filter 281. with
 |nil=>rw[e]at b;exact fun g c d h=>700. ((b g).mpr (39.3 c h))
 |cons a r=>
  rw[e]at b;rw[fy];have⟨f,j,i,m,n⟩:=rR r a
  show match r.foldl wG (7. a)with|7. f=>_|none=>_
  rw[j];have o:f∈a::r:=by
   rcases i with rfl|i
   ·cutsat
   cutsat
  have⟨q,s,t⟩:=(b f).mp o;refine⟨q,s,t,fun g c d h=>?_⟩;rcases 819. ((b g).mpr (39.3 c h))with rfl|c
  ·exact m
  exact n g c
def lL(l:32.2)(p:Nat)(e:aE):Prop:=e.seq<=p/\∀g∈l,g.key=e.key->g.seq<=p->g.seq<=e.seq
theorem wI(g:Good n l)(a:e∈l)(p):newest l e.key p=7. e ↔lL l p e:=by
 have h:=jt l e.key p;cases q:newest l e.key p with
 |none=>
  rw[q]at h;constructor
  ·intro z;cases z
  intro z;exact 88. z.1<|h e a rfl
 |some f=>
  rw[q]at h;have⟨b,i,c,d⟩:=h;constructor
  ·intro z;cases z;exact⟨c,fun g j k m=>d g j k m⟩
  intro z;have:f.seq=e.seq:=66.1 (z.2 f b i c)<|d e a rfl z.1;rw[g.inj b a this]
theorem wJ(g:Good n l)(b:e∈l)(a):isRead l a e=true↔∃p∈a,lL l p e:=by
 unfold isRead;rw[List.any_eq_true];constructor
 ·rintro y1_;have⟨p,c,h⟩:=y1_;refine(665. p c);have hs:=jt l e.key p;cases q:newest l e.key p with
  |none=>rw[q]at h;cases h
  |some f=>rw[q]at h hs;simp at h;have:f=e:=g.inj hs.1 b h;subst this;exact(wI g b p).mp q
 rintro y1_;have⟨p,c,h⟩:=y1_;refine(665. p c);rw[(wI g b p).mpr h];simp
def mS(l:32.2)(e:aE):Prop:=∃f∈l,77.3/\135.
instance (l:32.2) (e:aE):Decidable (mS l e):=by
 unfold mS
 exact decidable_of_iff (l.any (fun f=>f.key==e.key&&881. f.seq e.seq&&f.row.isSome)=true) (by simp[and_assoc])
theorem rS(l)(e:aE):59.5=true↔∀f∈l,77.3->e.seq<=f.seq:=by grind[isOldest]
theorem zd(h:14.1=l):∀m,strip m l=l
 |0=>rfl
 |m + 1=>by rw[strip,h,zd h m]
theorem ze{l:32.2}:∀(n:Nat) (e:aE),e∈l->e.seq<=n->∃f∈l,77.3/\f.seq<=e.seq/\isOldest l f=true
 |0,e,he,hn=>⟨e,he,rfl,aU _,(rS l e).mpr fun f _ _=>52. ⟩
 |63.6,e,he,hn=>by
  by_cases h:59.5=true
  ·exact⟨e,he,rfl,aU _,h⟩
  have:∃f∈l,77.3/\f.seq<e.seq:=by apply fe;intro q;apply h;refine(rS l e).mpr fun f hf hk=>?_;apply fe;intro z;exact q ⟨f,hf,hk,21. ⟩
  have⟨f,hf,hk,hs⟩:=this;have⟨g,hg,h1,h2,h3⟩:=ze n f hf<|21.
  exact⟨g,hg,h1.trans hk,21.,h3⟩
theorem strip_eq:∀n l,Good w l->l.length<=n->strip n l=l.filter fun e=>61. (mS l e)
 |0,l,_,h=>by
  cases l with
  |nil=>rfl
  |cons a l=>trivial
 |63.6,l,g,h=>by
  rw[strip];generalize i:14.1=b;have p:∀f∈l,4e2 f.row.isSome->f∈b:=fun f c v=>70.
  have j:b.Sublist l:=by rw[<-i];exact cF
  have r:∀f∈b,f∈l:=fun f c=>j.subset c;have x:∀e,mS b e↔mS l e:=fun e=>by
   constructor
   ·rintro y1_;have 70.4:=y1_;exact(e13 f (r f c) k o<|d)
   rintro y1_;have 70.4:=y1_;exact(e13 f (p f c d) k o<|d)
  have s:795. b=l.filter fun e=>61. (mS l e):=by
   have y:795. b=795. l:=List.filter_congr fun e _=>decide_eq_decide.mpr<|x e;rw[y,<-i,List.filter_filter];apply List.filter_congr;intro e u;by_cases m:mS l e
   ·rw[aY m,Bool.true_and];cases v:e.row.isSome with
    |true=>rfl
    |false=>
     have 70.4:=m;have:59.5=false:=by
      cases q:59.5 with
      |false=>rfl
      |true=>
       have:=(rS l e).mp q f c k;have:f=e:=g.inj c u<|21.
       rw[this,v]at d;cases d
     rw[this];rfl
   rw[aX m];rfl
  by_cases t:b.length<=n
  ·rw[strip_eq n b (g.sub j) t,s]
  have e:b=l:=j.eq_of_length (70.);subst e;rw[zd i,eq_comm];refine List.filter_eq_self.mpr fun e u=>aY ?_;have 70.4:=ze e.seq e u<|aU _;refine(e13 f c k o<| ?_);grind
theorem DY{w:Nat}{points:Sh}{bottom:Bool}{runs:9.7 aE}(g:Good w runs.flatten)(e:aE):e∈mergedRun points bottom runs↔
 e∈runs.flatten/\(731. e)/\(4e2 bottom->∃f∈runs.flatten,(731. f)/\77.3/\135.):=by
 unfold mergedRun;simp only;rw[(iO _).mem_iff];have hk:∀f,f∈runs.flatten.filter (82.5 isRead points)↔f∈runs.flatten/\731. f:=by
  intro f;rw[da];constructor
  ·rintro y1_;obtain⟨h1,h2⟩:=y1_;exact⟨h1,(wJ g h1 points).mp h2⟩
  rintro y1_;obtain⟨h1,h2⟩:=y1_;exact⟨h1,(wJ g h1 points).mpr h2⟩
 have g':Good w (runs.flatten.filter<|82.5 isRead points):=g.sub cF;cases bottom with
 |false=>
  rw[487.,hk]
  lia
 |true=>
  rw[324.,strip_eq _ _ g'<|aU _,da,hk,fZ];constructor
  ·rintro y1_;have 28. z1_ ⟨f,hf,h3,h4,h5⟩:=y1_;obtain⟨h1,h2⟩:=z1_;exact⟨h1,h2,fun _=>⟨f,((hk f).mp hf).1,((hk f).mp hf).2,h3,h4,h5⟩⟩
  rintro y1_;have 75.2 h1:=y1_;have⟨f,hf,h4,h5,h6,h7⟩:=h3 rfl;exact⟨ 555.,f,(hk f).mpr ⟨hf,h4⟩,h5,h6,h7⟩
theorem wK(g:Good w c.flatten):yl (03 mergedRun):=by
 unfold mergedRun;simp only;have g':Good w (c.flatten.filter<|isRead c.flatten a):=g.sub cF;cases b with
 |false=>rw[487.];exact lK g'
 |true=>rw[324.,strip_eq _ _ g'<|aU _];exact lK<|g'.sub cF
def j3(ks:21.0)(e:aE):21.0:=if e.key∈ks then ks else ks++[e.key]
def kD(s:32.2):21.0:=s.foldl j3 []
def oE(s:32.2)(k:Key):32.2:=s.filter fun e=>e.key==k
def DZ:Sh->74. Nat
 | []=>none
 |a::l=>7. (39.8)
def upTo(g:32.2)(p:Nat):Sh:=(g.filter fun e=>881. e.seq p).map (·.seq)
def gz(g:32.2)(a:Sh):Sh:=a.filterMap fun p=>DZ (upTo g p)
def readable(g:32.2)(a:Sh):32.2:=g.filter fun e=>61. (e.seq∈gz g a)
def lM(r:32.2):32.2:=(r.reverse.dropWhile 331.).reverse
def ve(a:Sh)(b:Bool)(g:32.2):32.2:=if b then lM (readable g a)else readable g a
def lg(a:Sh)(b:Bool)(s:32.2):32.2:=454. kD s fun k=>ve a b (oE s k)
theorem foldl_max:∀(l:Sh) (a:Nat),(39.8=a\/39.8 ∈l)/\a<=39.8/\∀b∈l,b<=39.8
 | [],a=>⟨.inl rfl,aU _,fun b d=>by cases d⟩
 |c::l,a=>by rw[fy];have⟨e,f,g⟩:=foldl_max l<|max a c;grind
theorem wL{l:Sh}{m:Nat}:DZ l=7. m ↔m∈l/\∀b∈l,b<=m:=by
 cases l with
 |nil=>simp[DZ]
 |cons a l=>have 39.3 c e:=foldl_max l a;grind[DZ,Option.some.injEq]
theorem oF:n∈gz g a↔∃p∈a,(∃e∈g,e.seq=n)/\n<=p/\∀f∈g,f.seq<=p->f.seq<=n:=by
 revert g a n;intros g a n
 unfold gz;rw[kM];constructor
 ·intros y1_;let 39.3 p h:=y1_;have 28. c i:=wL.mp h;unfold upTo at c i;grind
 intros y1_;let⟨p,d,z1_,c,i⟩:=y1_;let 33. e j:=z1_;refine(e11 p d<|wL.mpr ⟨?_,?_⟩)
 ·exact 9e0 e (da.mpr ⟨j,aY c⟩)
 intros b k;have 33. f l:=92.2 k;simp_all
theorem lN{s:32.2}{k:Key}{e:aE}:e∈oE s k↔e∈s/\e.key=k:=by unfold oE;rw[da];simp
theorem iW:e∈ 97.2 a↔e∈s/\e.key=k/\∃p∈a,lL s p e:=by
 unfold readable;rw[da,fZ,oF,lN];constructor
 ·rintro y1_;have 28. z1_ ⟨p,c,_,d,h⟩:=y1_;obtain⟨b,rfl⟩:=z1_;exact⟨b,rfl,e12 p c d<|fun g m n i=>h g (lN.mpr ⟨m,n⟩) i⟩
 rintro y1_;have 69. b ⟨p,c,d,h⟩:=y1_;exact⟨ 2.5 b,e13 p c (26.4 e (lN.mpr (305. b))) d<|fun f l j=>h f (lN.mp l).1 (lN.mp l).2 j⟩
theorem qZ:∀{l:32.2} (_:l.Pairwise fun a b=>a.seq<b.seq) {e:aE},e∈l.dropWhile (331.)↔e∈l/\∃f∈l,135.
 | [],_,e=>44.
 |a::l,h,e=>by
  have c:=dq.mp h;rw[j8];cases d:a.row.isNone with
  |true=>
   rw[324.,qZ c.2];have hs: ¬ 4e2 a.row.isSome:=by
    match q:a.row with
    |none=>simp
    |7. r=>grind
   grind
  |false=>
   rw[487.];have hs:4e2 a.row.isSome:=by
    match q:a.row with
    |none=>simp_all
    |7. r=>rfl
   grind
theorem Am{l:32.2}(h:l.Pairwise fun a b=>b.seq<a.seq){e:aE}:e∈lM l↔e∈l/\∃f∈l,135.:=by unfold lM;rw[mX,qZ<|List.pairwise_reverse.mpr h];simp
theorem An(l):(lM l).Sublist l:=by grind[lM]
theorem GQ(a)(b)(s)(k):(ve a b (oE s k)).Sublist s:=by
 unfold ve;split
 ·exact(An _).trans<|cF.trans cF
 exact cF.trans cF
theorem qv{s:32.2}(hs:yl s){points:Sh}{bottom:Bool}{k:Key}{e:aE}:e∈ve points bottom (oE s k)↔e∈s/\e.key=k/\(∃p∈points,lL s p e)/\
 (4e2 bottom->∃f∈s,(∃p∈points,lL s p f)/\f.key=k/\135.):=by
 revert hs;revert s points bottom k e;intros s points bottom k e hs
 unfold ve;cases bottom with
 |false=>rw[487.,iW];simp
 |true=>
  rw[324.];have hp:(97.2 points).Pairwise fun a b=>b.seq<a.seq:=by
   have h1:yl (97.2 points):=hs.sublist<|cF.trans cF;refine List.Pairwise.imp_of_mem (fun{a b} ha hb h=>?_) h1;have 049 _ ka:=iW.mp ha;have 049 _ kb:=iW.mp hb;rcases(iN a b).mp h with q|q
   ·rw[ka,kb,eA]at q;cases q
   exact q.2
  rw[Am hp,iW];constructor
  ·intros y1_;have 28. z1_ ⟨f,hf,h4,h5⟩:=y1_;have 75.2 h1:=z1_;(try clear z1_);have⟨f1,f2,f3⟩:=iW.mp hf;exact⟨h1,h2,h3,fun _=>⟨f,f1,f3,f2,h4,h5⟩⟩
  intros y1_;have⟨h1,h2,h3,h4⟩:=y1_;have⟨f,f1,f3,f2,h5,h6⟩:=h4 rfl;exact⟨ 75.2 h1,f,iW.mpr ⟨f1,f2,f3⟩,h5,h6⟩
theorem oG:∀{l:32.2} {ks:21.0} {k:Key},k∈ 97.7 ↔k∈ks\/∃e∈l,e.key=k
 | [],ks,k=>44.
 |a::l,ks,k=>by rw[fy,oG];grind[j3]
theorem vf:∀{l:32.2} {ks:21.0},ks.Pairwise (741.)->yl l->(∀k∈ks,∀e∈l,93.2 k e.key\/k=e.key)->(97.7).Pairwise (741.)
 | [],ks,h,_,_=>h
 |a::l,ks,h,s,f=>by
  rw[fy];have sp:=dq.mp s;refine vf ?_ sp.2 ?_
  ·unfold j3;grind
  intro k c e d;have:k∈ks\/k=a.key:=by unfold j3 at c;grind
  rcases this with q|rfl
  ·cutsat
  rcases(iN a e).mp (sp.1 e d)with q|q
  ·exact 97. q
  simp[*]
theorem D2{w:Nat}{points:Sh}{bottom:Bool}{runs:9.7 aE}(g:Good w runs.flatten){s:32.2}(hp:82.5 s.Perm)(hs:yl s):lg points bottom s=mergedRun points bottom runs:=by
 revert g hp hs;revert w points bottom runs s;intros w points bottom runs s g hp hs
 refine rQ ?_ (wK g) ?_
 ·unfold lg;refine List.pairwise_flatMap.mpr ⟨fun k _=>hs.sublist<|015 GQ _,?_⟩;refine(vf (ks:=[]) List.Pairwise.nil hs fun k hk=>by cases hk).imp fun{a b} hab x hx y hy=>?_;have 049 _ kx:=(qv hs).mp hx;have 049 _ ky:=(qv hs).mp hy;exact(iN x y).mpr<|97. (by rw[kx,ky];exact hab)
 intros e;unfold lg;rw[List.mem_flatMap,DY g];have hmem:∀f,f∈s↔f∈runs.flatten:=fun f=>hp.mem_iff;have hread:∀p f,lL s p f↔ 82.5 lL p f:=fun p f=>by
  unfold lL;constructor
  ·intros y1_;have 555.:=y1_;(try clear y1_);exact⟨h1,fun g hg=>h2 g<|(hmem g).mpr hg⟩
  intros y1_;have 555.:=y1_;(try clear y1_);exact⟨h1,fun g hg=>h2 g<|(hmem g).mp hg⟩
 constructor
 ·rintro y1_;have⟨k,_,h⟩:=y1_;have⟨h1,rfl,z2_,h4⟩:=(qv hs).mp h;let⟨p,hp1,hp2⟩:=z2_;refine⟨(hmem e).mp h1,⟨p,hp1,(hread p e).mp hp2⟩,?_⟩;intros hb
  let⟨f,f1,z1_,f3⟩:=h4 hb;let⟨p,fp1,fp2⟩:=z1_;exact⟨f,(hmem f).mp f1,⟨p,fp1,(hread p f).mp fp2⟩,f3⟩
 intros y1_;have⟨h1,z1_,h4⟩:=y1_;let⟨p,hp1,hp2⟩:=z1_;refine⟨e.key,oG.mpr<|8.4 ⟨e,(hmem e).mpr h1,rfl⟩,(qv hs).mpr ⟨(hmem e).mpr h1,rfl,⟨p,hp1,(hread p e).mpr hp2⟩,?_⟩⟩;intros hb
 let⟨f,f1,z1_,f3⟩:=h4 hb;let⟨p,fp1,fp2⟩:=z1_;exact⟨f,(hmem f).mpr f1,⟨p,fp1,(hread p f).mpr fp2⟩,f3⟩
def eR(l:9.7 aE)(i:Nat):Nat:=(l[i]?.elim 0 List.length) + (l[18.6]?.elim 0 List.length)
structure pV(f:Nat->Nat)(n j:Nat):Prop where
 lt:j<n
 le:∀i,i<n->f j<=f i
 first:∀i,i<j->f j<f i
theorem pV.unique(a:pV f n i)(b:pV f n j):i=j:=by
 rcases Nat.lt_trichotomy i j with h|h|h
 ·have:=b.first i h
  have:=a.le j b.lt
  lia
 ·exact h
 have:=a.first j h
 have:=b.le i a.lt
 lia
def kW(f:Nat->Nat):Nat->Nat
 |0=>0
 |63.6=>if f (63.6)<f (kW f n)then 63.6 else kW f n
theorem uw(f:Nat->Nat):∀n,pV f (63.6) (kW f n)
 |0=>⟨by simp[kW],fun i h=>by have:i=0:=52.
                              subst this;exact aU _,fun i h=>by simp[kW]at h⟩
 |63.6=>by
  have ih:=uw f n;rw[kW];split
  ·rename_i h;refine⟨ 44.,63. i hi,63. i hi ⟩
   ·by_cases e:i=63.6
    ·rw[e];exact aU _
    have:=ih.le i 2.8;lia
   have:=ih.le i 2.8;lia
  rename_i h;refine⟨by have:=ih.lt;cutsat,63. i hi,fun i hi=>ih.first i hi⟩;by_cases e:i=63.6
  ·rw[e];lia
  exact ih.le i<|21.
theorem sW:∀(l:9.7 aE) (i:Nat),(l.length<2->cheapest i l=none)/\(58.5 2->∃j,cheapest i l=7. (i + j,eR l j)/\pV (eR l) (l.length - 1) j)
 | [],i=>⟨ 322.,fun h=>034 ⟩
 | [a],i=>⟨ 322.,fun h=>by simp at h⟩
 |a::b::r,i=>by
  refine⟨fun h=>(by simp only[aZ]at h;lia),4e7 _ ⟩;obtain⟨h1,h2⟩:=sW (b::r)<|18.6;have e0:eR (a::b::r) 0=a.length + b.length:=rfl;have es:∀j,eR (a::b::r) (j + 1)=eR (b::r) j:=fun j=>by unfold eR;rfl
  rw[cheapest];by_cases hl:(b::r).length<2
  ·rw[h1 hl];refine⟨0,rfl,?_,63. j hj,fun j hj=>52. ⟩
   ·simp
   have:j=0:=by simp at hj hl;lia
   rw[this];exact aU _
  have⟨j,e1,m⟩:=h2 2.8;rw[e1];simp only;have hlen:(a::b::r).length - 1=((b::r).length - 1) + 1:=19.3
  by_cases hc:eR (b::r) j<a.length + b.length
  ·rw[aP hc];refine⟨j + 1,by rw[es];congr 2;simp +arith [*],?_,63. k hk,63. k hk ⟩
   ·have:=m.lt;cutsat
   ·rw[es];cases k with
    |zero=>rw[e0];lia
    |succ k=>rw[es];exact m.le k<|52.
   rw[es];cases k with
   |zero=>rw[e0];exact hc
   |succ k=>rw[es];exact m.first k<|52.
  rw[aM hc];refine⟨0,rfl,44.,63. k hk,fun k hk=>52. ⟩;rw[e0];cases k with
  |zero=>rw[e0];exact aU _
  |succ k=>
   rw[es];have:=m.le k<|52.
   lia
theorem BV(l:9.7 aE):cheapest 0 l=if l.length<2 then none else 7. (18.3,eR l (18.3)):=by
 revert l;intros l
 have 555.:=sW l 0;by_cases h:l.length<2
 ·rw[aP h,h1 h]
 rw[aM h];have⟨j,e,m⟩:=h2<|21.
 have m2:=uw (eR l)<|l.length - 2;rw[show l.length - 2 + 1=l.length - 1 by grind]at m2;have:18.3=j:=m2.unique m;rw[this,e,Nat.zero_add]
def findB{a:Type}(d:50.5 a)(k:Key):74. a:=(d.find? fun x=>61. (x.1=k)).map 62.
def lh{a:Type}(d:50.5 a)(k:Key)(v:a):50.5 a:=
 if 82.0 then d.map (fun x=>if x.1=k then(x.1,v)else x)else d++[(k,v)]
theorem iy(e:x.1=k):7e9 (x::r)=7. x.2:=by grind[findB]
theorem gv(e: ¬ x.1=k):7e9 (x::r)=7e9 r:=by grind[findB]
theorem ly:∀{d:50.5 a} {k:Key} {v:a},7e9 d=7. v->(k,v)∈d
 | [],_,_,h=>nomatch h
 |x::r,k,v,h=>by
  by_cases e:x.1=k
  ·grind[iy]
  rw[gv e]at h;exact bO _<|ly h
theorem j6:∀{d:50.5 a} {k:Key},82.0=true↔k∈d.map 0.6
 | [],_=>by simp[findB]
 |x::r,k=>by
  by_cases e:x.1=k
  ·rw[iy e];cutsat
  rw[gv e,j6 (d:=r),bD,aW];grind
theorem qA(f:a->b)(d)(k):7e9 (d.map 77.0)=(7e9 d).map f:=by
 induction d with
 |nil=>rfl
 |cons x r c=>
  rw[bD];by_cases e:x.1=k
  ·rw[iy (x:=x) e,iy (x:=(x.1,f x.2)) e];rfl
  rw[gv (x:=x) e,gv (x:=(x.1,f x.2)) e,c]
theorem Jo(f:a->b)(d)(k)(v:a):lh (d.map 77.0) k (f v)=(lh d k v).map 77.0:=by
 unfold lh;rw[qA,ip];split
 ·rw[bQ,bQ];refine de (63. x _)
  lia
 simp
theorem G5(d)(k)(v:a):(lh d k v).map 0.6=if 82.0 then d.map 0.6 else d.map 0.6++[k]:=by
 unfold lh;split
 ·rw[bQ];refine de (63. x _)
  lia
 simp
theorem EB{β:Type}{d:50.5 β}{k:Key}{v:β}(h:57.9 d.map):57.9 (lh d k v).map:=by
 rw[G5];split
 ·exact h
 rename_i e;rw[j6]at e;rw[iq];exact 505. e
theorem Cb{β:Type}(d:50.5 β)(k:Key)(v:β):(lh d k v).length<=d.length + 1:=by unfold lh;split <;> simp
theorem Cc(d)(k j)(v:b):findB (lh d k v) j=if j=k then 7. v else findB d j:=by
 unfold lh;by_cases h:4e2 82.0
 ·rw[aP h];induction d with
  |nil=>trivial
  |cons x r f=>
   rw[bD];by_cases e:x.1=k
   ·rw[aP e];by_cases c:j=k
    ·grind[iy]
    rw[aM c];have a: ¬ x.1=j:=fun z=>c<|z.symm.trans e;rw[gv (x:=(x.1,v)) a,gv (x:=x) a];by_cases i:4e2 (7e9 r).isSome
    ·simp[*]
    congr 1;refine(de (g:=id) (63. y l)).trans<|List.map_id _;have: ¬ y.1=k:=fun z=>i<|j6.mpr<|bK.mpr<|e11 y l<|z;simp[*]
   rw[aM e];rw[gv e]at h;by_cases m:x.1=j
   ·grind[iy]
   grind[gv]
 rw[aM h];have n:7e9 d=none:=52.
 clear h;induction d with
 |nil=>grind[iy,gv]
 |cons x r f=>
  have a: ¬ x.1=k:=fun z=>by grind[iy]
  rw[gv a]at n;rw[jU];by_cases m:x.1=j
  ·grind[iy]
  grind[gv]
theorem Jp(h:x∈lh d k v):x=(k,v)\/x∈d:=by unfold lh at h;grind
theorem zl{R:20. α α}(Kz:∀a,¬ R a a)(asy:∀a b,30.1-> ¬ R b a):∀{l l':929.},l.Pairwise R->l'.Pairwise R->(∀e,e∈l↔e∈l')->l=l'
 | [],[],_,_,_=>rfl
 | [],b::l',_,_,h=>700. ((h b).mpr bM)
 |a::l,[],_,_,h=>700. ((h a).mp bM)
 |a::l,b::l',h1,h2,h=>by
  rw[dq]at h1 h2;have hab:a=b:=by
   rcases 819. ((h a).mp bM)with e|ha
   ·exact e
   rcases 819. ((h b).mpr bM)with e|hb
   ·exact e.symm
   grind
  subst hab;congr 1;refine zl Kz asy h1.2 h2.2 fun e=>⟨ 4e7 he,4e7 he ⟩
  ·grind
  grind
abbrev qJ(l:21.0):Prop:=l.Pairwise 741.
theorem Cd{l l':21.0}(h1:qJ l)(h2:qJ l')(h:∀k,k∈l↔k∈l'):l=l':=
 zl (R:=741.) (fun a z=>by rw[eA]at z;cases z) (fun a b x y=>by rw[qY x]at y;cases y) h1 h2 h
def inR(lo hi k:Key):Bool:= ! 5e7 k lo&& ! 5e7 hi k
def jm{α:Type}(lo hi:Key)(p:Nat)(d:453.)(x:α ×aE):453.:=
 if 130. 83.7/\83.6<=p then(match findB d 83.7 with
  |none=>lh d 83.7 x
  |7. o=>if o.2.seq<83.6 then lh d 83.7 x else d)else d
def nb{α:Type}(lo hi:Key)(p:Nat)(l:5.9 α aE):453.:=l.foldl (63.7) []
theorem Ls(lo hi)(p)(l)(x:α ×aE):nb lo hi p (l++[x])=63.7 (nb lo hi p l) x:=by grind[nb]
theorem Ce(d)(x:α ×aE)(b:130. k):
 17.3 (63.7 d x)=if(83.7==k&&881. 83.6 p)=true then wG (17.3 d) x.2 else 17.3 d:=by
 unfold jm;by_cases e:83.7=k
 ·grind[Cc,wG]
 have a:28.4 83.7 k:=95.
 rw[a];grind[Cc]
theorem vm{k:Key}(a:130. k):∀(l:5.9 α aE) (d:453.),
 17.3 (l.foldl (63.7) d)=((l.map 62.).filter 281.).foldl wG (17.3 d)
 | [],d=>rfl
 |x::l,d=>by rw[fy,vm a l,Ce d x a,bD,mY];split <;> rfl
theorem vW{α:Type}{lo hi:Key}{p:Nat}{k:Key}(a:130. k)(l:5.9 α aE):17.3 (nb lo hi p l)=7e1 (l.map 62.):=by unfold nb;rw[vm a,wH];rfl
structure G6{α:Type}(lo hi:Key)(l:5.9 α aE)(d:453.):Prop where
 nd:57.9 d.map
 mem:∀x∈d,x.2∈l/\x.1=x.2.2.key/\130. x.1
 len:58.5 d.length
theorem Jq{α:Type}{lo hi:Key}{p:Nat}(l:5.9 α aE):G6 lo hi l (nb lo hi p l):=by
 have key:∀(r pre:5.9 α aE) (d:453.),G6 lo hi pre d->G6 lo hi (pre++r) (r.foldl (63.7) d):=by
  intro r;induction r with
  |nil=>intro pre d h;simpa using h
  |cons x r ih=>
   intro pre d h;have hput:130. 83.7->66.3 (lh d 83.7 x):=fun hr=>⟨EB h.nd,fun y hy=>by
    rcases Jp hy with rfl|hy
    ·exact⟨ 44.,rfl,hr⟩
    have⟨a,b,c⟩:=h.mem y hy;exact⟨by simp[a],b,c⟩,by have:=Cb d 83.7 x;have:=h.len;simp;lia⟩
   have hkeep:66.3 d:=⟨h.nd,fun y hy=>by
    have⟨a,b,c⟩:=h.mem y hy;exact⟨by simp[a],b,c⟩,by have:=h.len;simp;cutsat⟩
   have:66.3 (63.7 d x):=by
    unfold jm;split
    ·rename_i hc;split
     ·exact hput hc.1
     split
     ·exact hput hc.1
     exact hkeep
    exact hkeep
   have h2:=ih (pre++[x]) _ this;rw[cY]at h2;exact h2
 have:=key l [] [] ⟨fL,(53.9),aU _⟩;simpa [nb]using this
theorem tp(g:Good n l)(h:∀e,e.key=k->(e∈l↔e∈a))(p):7e1 l=7e1 a:=by have b:=jt l k p;have c:=jt a k p;grind[g.inj]
theorem lj:∀{l:21.0},j∈enterKey k l↔j=k\/j∈l
 | []=>by simp[enterKey]
 |a::r=>by
  rw[enterKey];split
  ·simp
  split
  ·simp[*]
  rw[aW,lj (l:=r),aW];grind
theorem tu:∀{l:21.0},(∀j∈l,j.length=k.length)->qJ l->qJ (enterKey k l)
 | [],_,_=>by simp[enterKey]
 |a::r,e,h=>by
  rw[enterKey];rw[qJ,dq]at h;split
  ·rename_i d;rw[qJ,dq,dq];refine⟨ 63. b c,h⟩;rcases 819. c with rfl|c
   ·exact d
   exact jb d<|h.1 b c
  rename_i d;split
  ·simp_all
  rename_i f;rw[qJ,dq];refine⟨ 63. b c,tu (fun j g=>e j<|bO _ g) h.2⟩;rcases lj.mp c with rfl|c
  ·rcases jc (e a bM)with z|z|z
   ·exact z
   ·cutsat
   cutsat
  simp[*]
theorem EC:k∈ 33.4 l ↔(∃e∈l,e.key=k)/\130. k:=by
 unfold keysIn;have b:∀m:21.0,k∈ 84.4 ↔k∈m:=by
  intro m;induction m with
  |nil=>rfl
  |cons a m c=>grind[lj]
 rw[b,da,bK];rfl
theorem ED{n:Nat}{l:32.2}{lo hi:Key}(h:∀e∈l,e.key.length=n):qJ (33.4 l):=by
 unfold keysIn;have key:∀m:21.0,(∀k∈m,k.length=n)->qJ (84.4)/\∀k∈ 84.4,k.length=n:=by
  intro m;induction m with
  |nil=>intro _;exact⟨List.Pairwise.nil,fun _ h=>nomatch h⟩
  |cons a m ih=>
   intro hm;obtain⟨h1,h2⟩:=ih fun k hk=>hm k<|bO _ hk;rw[List.foldr_cons];have ha:=hm a bM;refine⟨tu (fun j hj=>(h2 j hj).trans ha.symm) h1,63. k hk ⟩;rcases lj.mp hk with rfl|hk
   ·exact ha
   exact h2 k hk
 refine(key _ (63. k hk)).1;have 33. e he:=92.2 (da.mp hk).1;exact h e he
theorem tw:578. l.filterMap l.filterMap
 | [],_=>rfl
 |x::l,h=>by rw[dc,dc,h x bM,tw fun y b=>h y<|bO _ b]
theorem filterMap_filter{α a:Type}{q:α->Bool}{f:α->74. a}(h:∀x,q x=false->095 f x):∀l:929.,(l.filter q).filterMap f=l.filterMap f
 | []=>rfl
 |x::l=>by
  rw[mY];split
  ·simp_all[dc,filterMap_filter]
  simp_all[dc,filterMap_filter]
theorem Lu(g:Good n c)(h:∀e,130. e.key->(e∈c↔e∈l))(hs:qJ ks)(j:29.0){m:Type}(F:aE->74. m):
 737. (33.4 c).filterMap:=by
 have d:∀k,130. k->7e1 c=7e1 l:=fun k i=>tp g (fun e s=>h e<|17.) p;have o:ks=(33.4 c).filter fun k=>(7e1 c).isSome:=by
  refine Cd hs ((ED g.len).sublist cF) (4e7 k);rw[j,da,EC];constructor
  ·rintro y1_;obtain⟨a,b⟩:=y1_;rw[<-d k a]at b;refine 28. ⟨?_,a⟩ b;have q:=jt c k p;cases z:7e1 c with
   |none=>simp_all
   |some f=>rw[z]at q;exact(e11 f q.1<|q.2.1)
  rintro y1_;obtain⟨⟨_,a⟩,b⟩:=y1_;rw[d k a]at b;exact 28. a b
 have r:737. ks.filterMap:=by refine tw (63. k i);grind
 rw[r,o];refine filterMap_filter (63. k i) _;simp_all
def fJ(k:Key)(p:Nat)(st:Nat × 74. aE)(a:32.2):Nat × 74. aE:=
 if 4e2 st.2.isNone/\meets a k k=true then(st.1 + 1,7e1 a)else st
theorem G7(run:32.2)(k:Key):meets run k k=mayHave run k:=by
 unfold meets mayHave;cases run.head? with
 |none=>rfl
 |some a=>cases run.getLast? with
  |none=>rfl
  |some z=>simp[eA]
theorem uD(k)(p)(o)(e:aE):∀runs:9.7 aE,62.4 (o,7. e)=(o,7. e)
 | []=>rfl
 |r::runs=>by
  rw[fy];have:fJ k p (o,7. e) r=(o,7. e):=19.3
  rw[this];exact uD k p o e runs
theorem Ax(k)(p):∀runs (o:Nat),62.4 (o,none)=(o + (seek k p runs).1,(seek k p runs).2)
 | [],o=>rfl
 |r::runs,o=>by
  rw[fy,seek];unfold fJ;rw[G7];cases a:mayHave r k with
  |false=>simp only[Option.isNone_none,cU,and_false,hB,C9];exact Ax k p runs o
  |true=>
   simp only[Option.isNone_none,and_self,C9,Bool.true_eq_false,hB]
   match b:7e1 r with
   |none=>simp only;refine(Ax k p runs<|o + 1).trans ?_;grind
   |7. e=>simp only;exact uD k p (o + 1) e runs
#check 0
open Vacola (Text Leaf Lit Mode Head Kind Fields isDigit isLow nameSign plain hexOf worth readQuoted digitRun readLit fits)
def tx(a:Sg)(p:Nat):Text:=2e6 a.drop p Int.toNat
theorem mT(h:a[p]? =none):tx a p=[]:=by simp_all[tx]
theorem gp(h:a[p]? =7. n):tx a p=n.toNat::29.2 a:=by grind[tx,List.drop_eq_getElem_cons]
theorem Lg(ns:Sg)(p:Nat):7.6 ns p =89.3 (ns[p]?).map:=by
 cases h:ns[p]? with
 |none=>rw[mT h];rfl
 |some n=>rw[gp h];rfl
theorem hX(a)(p k):(tx a p).drop k=tx a (p + k):=by simp[tx]
theorem fO(a)(p):984. a p=a.length - p:=by grind[tx]
theorem j4(h:p<=a.length):tx a p=[]↔p=a.length:=by rw[<-List.length_eq_zero_iff,fO];lia
theorem OA(a:0<c):n.toNat=c↔n=47. c:=21.
theorem cQ(b:0<c):73.4 a c ↔a[p]? =30.2 c:=by
 rw[Lg];cases a[p]? with
 |none=>exact Iff.intro (fun h=>nomatch h) (fun h=>nomatch h)
 |some n=>exact⟨fun h=>dQ some (by have:n.toNat=c:=cE h;lia),fun h=>dQ some<|by rw[cE h];rfl⟩
def dig(n:Int):Bool:=881. 48 n&&881. n 57
theorem rT(n:Int):dig n=934. isDigit:=by
 unfold dig isDigit;rw[eB];simp only[bI,cO]
 lia
theorem BW(ns:Sg)(p:Nat):dig (351. ns[p]?)=true↔∃c r,tx ns p=c::r/\012:=by
 cases h:ns[p]? with
 |none=>rw[mT h];simp[dig]
 |some n=>rw[gp h,Option.getD_some,rT];simp
theorem D4(h: ¬ dig (351. a[p]?)=true):ku (tx a p):=fun c r e=>by
 cases q:isDigit c with
 |false=>rfl
 |true=>exact 88. ((BW a p).mpr<|e21 c r e<|q) h
theorem takeWhile_all:∀{l t:Text},(∀c∈l,q c=true)->(l++t).takeWhile q=l++t.takeWhile q/\(l++t).dropWhile q=t.dropWhile q
 | [],_,_=>439.
 |a::l,t,h=>52.
theorem IX(l):∀m,worth l<=worth (l++m):=by
 intro m;induction m using Ab with
 |b=>simp
 |d m c ih=>grind[nW]
theorem IY{most:Nat}{pre rest:Text}(hd:∀c∈pre,012)(hne:pre≠[])(hz:pre.head? =7. 48->pre.length=1)(hr:ku rest):kr most (pre++rest)=if worth pre<=most then 7. (worth pre,rest)else none:=by
 obtain⟨h1,h2⟩:=takeWhile_all (t:=rest) hd;unfold kr;rw[fH,h1,h2,hr.take,hr.drop,dn,aM];rintro(z|⟨z1,z2⟩)
 ·exact hne z
 have:=hz z1;simp_all
theorem D7(b:∀c∈a,012)(f:most<worth a):kr most (a++rest)=none:=by
 obtain⟨d,g⟩:=takeWhile_all (t:=rest) b;unfold kr;rw[fH,d];split
 ·simp
 rename_i n r e;split at e
 ·cases e
 injection e with e;injection e with h i;have:=IX a<|rest.takeWhile isDigit;grind
theorem GS{most c:Nat}{rest:Text}(h:012):kr most (48::c::rest)=none:=by unfold kr;rw[fH,aP];refine 8.4 ?_;rw[eI,aP (08),eI,aP h];exact⟨rfl,17. ⟩
theorem Lh(h:ku t):kr most t=none:=by unfold kr;rw[fH,aP<|97. h.take]
def mz:30.0 Nat
 | []=>none
 |c::r=>if c=92 then(match r with
  |a::b::s=>(match hexOf a,hexOf b with
   |7. x,7. y=>if 899. then none else 7. (205.,s)
   |_,_=>none)
  |_=>none)else if plain c then 9.6 c else none
theorem vg(h:841. 34):266. t=(mz t).bind fun x=>772. x.2 x.1:=by
 cases t with
 |nil=>rfl
 |cons c r=>
  rw[K7];have a:c≠34:=fun z=>h<|17.
  rw[aM a];simp only[mz];grind
theorem BY(h: ¬ c=92):mz (c::r)=if plain c=true then 9.6 c else none:=by simp_all[mz]
theorem GU(h:c=92)(d:hexOf a=7. x)(e:hexOf b=7. y):mz (c::a::b::s)=if 899.=true then none else 7. (205.,s):=by grind[mz]
theorem D8{c a:Nat}{t:Text}(h:c=92)(hx:095 hexOf a):095 mz (c::a::t):=by
 subst h;cases t with
 |nil=>rfl
 |cons b s=>simp only[mz,hx];rfl
theorem D9{c a b:Nat}{t:Text}(h:c=92)(hx:084 hexOf):095 mz (c::a::b::t):=by subst h;simp only[mz,hx];cases hexOf a <;> rfl
def rV(n:Int):Bool:=(881. 32 n&&881. n 126)&&(! 61. (n=34)&& ! 61. (n=92))
theorem ux(n):rV n=934. plain:=by unfold rV plain;grind
theorem wM(n:Nat):rV (n:Int)=plain n:=by rw[ux];rfl
#check SR
namespace SR
open PySem PySem.Spec PyProof.Rows L2
open Vacola (isDigit isLow nameSign plain hexOf worth readQuoted digitRun readLit fits)
theorem eJ{m:Str}{sp:Sp}{b:05 V}{t:TA}{Q:VK}{i:Nat}{r:Addr}{d:Sg}{p:Nat}(R:092 d)(hi:c[i]? =001 (.ref r))
 (k:t c H fun vs f=>sp (02 r::(vs++b)) f Q E) (g:m≠ "numbers" :=by decide +kernel) (h:m≠ "place" :=by decide +kernel):sy aL.cac m sp b E (ji i) t c H Q:=by
 obtain⟨⟨j,l,e,_⟩,_⟩:=R;exact(1.2 hi<|0e7 j _ e (jg g h)<|k)
def Ex(aL:Ad)(r:Addr)(H:Hp)(E:XK):Prop:=988. 3e0
theorem Ex.here(h:038):5e2 H:=h H<|78.7
theorem Ex.on(h:038)(k:92.6 b):Ex aL r b E:=fun H' c=>h H'<|k.trans c
def Pj:Sp:=131. dig
theorem kE(T:19.):01 1 aL.faq aL.daq 544. Pj:=by
 refine 4. T.Faq Saq;rintro _ _ _ _ _ _ _ _ _ y1_;have 69. n k:=y1_;refine(017 (aO<|bJ<|75.9 T.gcs T.gdr));refine(606.);unfold dig at k;by_cases h:47. 48<=n
 ·rw[aY h]at k ⊢;exact dv<|3e1<|k
 lia
def BX(bF:aA)(aL:Ad):Sp:=fun vs H Q E=>∃r b p,062 r/\092 b/\
 (∀n H',10.6->dig n=true->300. (8e5) (n - 48))/\(85.8 p=false->038)
theorem q0(T:19.):01 3 aL.faU aL.daU RW (0e4 BX):=by
 refine 4. T.FaU SaU
 intros _ _ _ _ H _ _ _ c y1_;let 319. g:=y1_;have j:=SaU.nd;refine(1.2 (aK (gM 1 j<|272. c<|054)
  <|72.4 (iX<|dJ<|442. c<|000 1)
  <|aO<|bJ<|eQ jC 79.<|fW T.gcs)<| ?_)
 refine 434. g ?_
 ·intros n H' b d l;refine(623.);cases e:dig n with
  |true=>exact dw<|5.<|3e1<|k1 n H' b e d l
  |false=>exact dv<|k2 (by rw[b];exact e) H' d
 intros b;exact k2 (by rw[b];rfl) H<|78.7
def Ao(bF:aA)(aL:Ad):Sp:=fun vs H Q E=>∃(r:Addr) (b:Sg) (p most:Nat),47.2 most/\092 b/\most<=2 ^ 63/\
 (∀(n q:Nat) H',kr most 957.=405. n b->p<q->300. q n)/\(kr most 957.=none->038)
def Pk(bF:aA)(aL:Ad)(r:Addr)(b:Sg)(p most:Nat)(d:Hp)(m:Nat)(e:L2.St)(H:Hp):Prop:=∃q v z pre,e=[72. r,7. (34. most),7. (.bl z),7. (59. v)]/\
 43. H b q/\Kp r d H/\tx b p=pre++tx b q/\(∀c∈pre,012)/\pre≠[]/\47. (worth pre:Nat)=v/\(pre.head? =7. 48->pre.length=1/\ku (tx b q))/\p<q/\m=b.length - q
theorem lO(T:19.):01 4 aL.faw aL.daw 21.7 (0e4 Ao):=by
 refine 4. T.Faw Saw
 intros _ _ _ _ H _ _ _ g y1_;let⟨r,b,p,most,rfl,R,hm,k1,k2⟩:=y1_;have D:=Saw.nd;refine(1.2 (aK (gM 2 D<|662. (262. g) T.gcs)
  <|aK (gM 3 D<|39.6)
  <|aK (696. (rB (dJ<|pv 2)<|nQ<|dJ<|442. g<|dZ<|262. g).pt)
  <|aK (lA bV (rB (cA ko 777. 79.<|cD _)<|nQ<|dJ<|442. g<|dZ<|262. g).pt
   <|aO<|gM 3 D<|eQ iI (eQ Dn 777. bZ)<|39.6)
  <|543. 777. (pv 1)
  <|057 3)<| ?_)
 refine 434. b rfl;refine(5.<|0e7 b p R ?_<| ?_)
 ·intros n H1 hn hd O t;have G:934. isDigit=true:=by rw[<-rT];exact hd
  have a4:48<=n/\n<=57:=by simpa [dig]using hd
  have e0:(351. b[p]?)=n:=17.
  have S:tx b p=[n.toNat]++29.2 b:=gp hn;rw[e0];refine(50.4);have cs:(n=48/\85.8 8e5=true)\/(n=48/\85.8 8e5=false)\/n≠48:=70.
  rcases cs with⟨h,h'⟩|⟨h,h'⟩|h
  case inl=>refine 844.;rw[h'];refine dv<|76.6 H1 O;have⟨c,rr,ec,j⟩:=(BW b<|8e5).mp h';rw[S,ec,h];exact GS j
  case' inr.inl=>refine 844.;rw[h'];refine dw ?_;have u:n.toNat=48->ku (658. b):=fun _=>D4<|by rw[h'];simp
  case' inr.inr=>
   have f:2e5 n 48=false:=aX fun z=>h<|by injection z
   rw[f];refine dw<|dw ?_;have u:n.toNat=48->ku (658. b):=fun z=>absurd 2.8 h
  all_goals
   refine(e11 (0e4 Pk r b p most H) (e59 _ (8e5) (n - 48) _ [n.toNat] rfl t O S (by simpa using G) 960. (by rw[jF];grind) (fun z=>⟨rfl,u<|by simpa using z⟩) 060<|rfl)<| ?_)
   intros m σ U y1_;let⟨q,v,z,pre,rfl,C,k,e,l,f,hw,hz,I,rfl⟩:=y1_;refine(5.<|606.);by_cases Y:v<=47. most
   ·refine m7 Y (482. C<|e32 r b q rfl C<|50.4);cases x:85.8 q with
    |true=>
     refine dv ⟨fun J H'=>∃Z,Z<b.length - q/\0e4 Pk r b p most H Z J H',19.1,?_⟩;refine(5.<|240. _ _ rfl (.inl ⟨ 17.,21. ⟩)<|5.<|0e7 b q C (fun y H3 o d L R3=>?_)<|4e7 d)
     ·have a0:48<=y/\y<=57:=by simpa [dig]using d
      have hq:q<b.length:=048 o;refine(3e1<|e11 (b.length - 68.7) 2.8<|e49 68.7 (v * 10 + (y - 48)) z (pre++[y.toNat]) rfl R3 (k.trans L) ?_ ?_ 960. ?_ ?_ 060<|rfl)
      ·rw[e,gp o,cY];rfl
      ·intro c j;rcases bT.mp j with j|j
       ·exact l c j
       rw[cG.mp j,<-rT];exact d
      ·rw[nW];lia
      intros B
      rw[show(pre++[y.toNat]).head? =pre.head? by cases pre with|nil=>exact 49.9 f|cons _ _=>rfl]at B;have:=(hz B).2 _ _<|gp o;rw[<-rT,d]at this;cases this
     rw[x]at d;cases d
    |false=>
     refine dw<|5.<|606.;refine qj 060<|48.;have M:ku (tx b q):=D4<|by rw[x];simp
     have:=IY (most:=most) l f (fun z=>(hz z).1) M;rw[<-e,aP 2.8]at this;have N:v=47. (worth pre:Nat):=hw.symm;rw[N];exact k1 _ q U this I k C
   refine qj Y (dw<|5.<|606.);refine m7 2.8<|76.6 U k;rw[e];exact D7 l<|21.
 intros hd;exact k2<|Lh<|D4<|70.
#check SR
namespace SR
open PySem PySem.Spec PyProof.Rows L2
open Vacola (Leaf Lit isDigit isLow nameSign plain hexOf worth readQuoted digitRun readLit fits)
theorem IZ{c:Nat}(h:c<=2 ^ 63): -(2 ^ 64)<47. c/\47. c<2 ^ 64:=21.
def Pl:Sp:=fun vs H Q _=>∃n:Nat,vs=[34. n]/\n<=63/\Q (34. (2 ^ n:Nat)) H
theorem vz(T:19.):01 1 aL.fbs aL.dbs ["exponent"] Pl:=by
 refine 4. T.Fbs Sbs
 intros _ _ _ _ H _ _ _ _ y1_;let 70.7 n k:=y1_;have b:=Sbs.nd;refine(1.2 (aK (gM 1 b bZ)
  <|aK (906. (t9 90. T.bcq<|000 0) (qI 2 b)<|aO<|gM 1 b<|54.2 Dn)
  <|057 1)<| ?_)
 refine(5.<|65.0 n 960. 2.8<|m8 (n:=n) (fun i c H'=>H'=H/\∃st,c=[53.1 n,53.1 (2 ^ i:Nat),st]) (33. rfl _) ?_ ?_)
 ·intros i c H' hi y1_;have 28. rfl (305. st):=y1_;have:(2 ^ i:Nat)<=2 ^ 63:=xY (08)<|21.
  refine(5.<|e24 _ _ rfl rfl (97. (IZ this)) rfl<|⟨ 84.0 0,?_⟩)
  cutsat
 intros c H' y1_;have 28. rfl (305. st):=y1_;exact(5.<|k)
def BZ(bF:aA)(aL:Ad):Sp:=fun vs H Q E=>∃(r:Addr) (c:Sg) (p b:Nat),47.2 b/\092 c/\2<=b/\b<=64/\
 (∀(z:Int) (q:Nat) H',kK b 81.5=405. z c->p<q->3e0->524. c->Q (59. z) H')/\(kK b 81.5=none->038)
theorem ym(T:19.):01 5 aL.fbr aL.dbr (081 "bits") (0e4 BZ):=by
 have t:=vz T;have u:=gU T;have k:=lO T;refine 4. T.Fbr Sbr
 intros _ _ _ _ _ _ _ _ f y1_;let⟨r,c,p,b,rfl,R,y,B,k1,k2⟩:=y1_;have l:=Sbr.nd;refine(1.2 (aK (gM 2 l<|kI t f T.gbs T.Fbs.kp T.Bbs<|dZ<|54.2 jC)
  <|aK (cR (iX<|dJ<|729. wC T.maA u f T.BaA<|dZ<|fW T.gdp)
   (aO<|bJ<|735. k f<|gG 31.<|eQ jC 010 bZ) bS)
  <|aK (gM 3 l<|735. k f<|740. 2)
  <|72.4 (cA f7 777. bZ<|cD _)
  <|aO<|bJ<|Ie Dq<|pv 3)<| ?_)
 have D:1<=(857. b:Nat):=eU;have g:(857. b:Nat)<=2 ^ 63:=xY (08)<|95.
 refine(5.<|3e1<|e12 (b - 1) (70.) (95.)<| ?_);refine 482. R<|64.8 c 45<| ?_
 ·intros O e j G
  have I:73.4 c 45:=216. e;have S:73.9 c p=29.2 c:=hX c p 1;refine(918.);refine(5.<|5.<|e44 r c (8e5) (857. b) rfl G g ?_<| ?_)
  ·intros n q m J L d M
   refine(047);by_cases o:n=0
   ·subst o;refine dv<|(76.6) m<|j.trans d;grind[kK]
   refine qj (fun z=>o<|52.) (50.4);refine k1 _ q m ?_ 2.8 (j.trans d) M;grind[kK]
  intros J
  refine 681. j;grind[kK]
 intros e
 have I: ¬ 73.4 c 45:=4e6 e;refine(20.4);refine(5.<|5.<|3e1<|e44 r c p (857. b - 1) (70.) R 2.8 ?_<| ?_)
 ·grind[kK]
 grind[kK]
def I0:Sp:=131. rV
theorem kX(T:19.):01 1 aL.faP aL.daP 765. I0:=by
 refine 4. T.FaP SaP
 intros _ _ _ _ _ _ _ _ _ y1_;let 69. n k:=y1_;refine(1.2 (aO<|bJ<|ph (75.9 T.gdu T.gdw)
  <|ph (iE wd 31. (fW T.gcr)<|cD _)<|rC<|iE wd 31. (fW T.gcK)<|cD _)<| ?_)
 refine(606.);unfold rV at k;have d:2e5 n 34=61. (n=34):=44.
 have o:2e5 n 92=61. (n=92):=44.
 by_cases h:47. 32<=n
 ·rw[aY h]at k ⊢;refine dv<|18.;by_cases e:n<=47. 126
  ·rw[aY e]at k ⊢;refine dv<|047;rw[d];by_cases f:n=34
   ·cutsat
   rw[aX f]at k ⊢;refine dv<|44.7 _ rfl
   cutsat
  lia
 lia
def B0(bF:aA)(aL:Ad):Sp:=fun vs H Q E=>∃r b p,062 r/\092 b/\
 (∀n x H',10.6->934. hexOf=7. x->300. (8e5) x)/\((∀n,10.6->095 hexOf n.toNat)->038)
theorem yn(T:19.):01 3 aL.faV aL.daV RW (0e4 B0):=by
 have l:=fx T;have o:=kE T;refine 4. T.FaV SaV
 intros _ _ _ _ _ _ _ _ d y1_;let 319. t:=y1_;have u:=SaV.nd;refine(1.2 (86.1 l d
  <|aK (cR (dJ<|kI o d T.gaq T.Faq.kp T.Baq<|000 1) (aO<|bJ<|eQ jC 79.<|fW T.gcs) bS)
  <|aK (cR (sv ko ko (fW T.gcx) 79.<|fW T.gds) (aO<|bJ<|eQ iI (eQ jC 79.<|fW T.gcx) bZ) bS)
  <|2.9)<| ?_)
 refine 434. t ?_
 ·intros n H' c g J;refine(623.);cases z:dig n with
  |true=>
   have B:48<=n/\n<=57:=by grind[dig]
   refine dv<|5.<|3e1<| ?_;have e:n - 48=47. (n.toNat - 48:Nat):=21.
   simp_all[hexOf,rT,z]
  |false=>
   have C:934. isDigit=false:=by grind[rT]
   refine dw<|606.;by_cases j:47. 97<=n
   ·refine m7 j (18.);by_cases k:n<=47. 102
    ·refine m7 k (5.<|3e1<|3e1<| ?_);have e:n - 97 + 10=47. (n.toNat - 87:Nat):=21.
     grind[hexOf]
    refine qj k (k2 (63. m b) H' g);simp_all[c,hexOf]
   refine qj j (5.<|dw<|k2 (63. m b) H' g);rw[c]at b;cases b;grind[hexOf]
 intros c;exact(k2 fun m b=>by rw[c]at b;cases b).here
def Ea(bF:aA)(aL:Ad):Sp:=fun vs H Q E=>∃r c p,062 r/\092 c/\
 (∀b q H',mz 81.5=405. b c->p<q->3e0->524. c->Q (59. b) H')/\(095 mz 81.5->038)
theorem Ap(T:19.):01 4 aL.fbu aL.dbu RW (0e4 Ea):=by
 have U:=fx T;have I:=kX T;have J:=yn T;refine 4. T.Fbu Sbu
 intros _ _ _ _ _ _ Q _ l y1_;let 319. e:=y1_;have u:=Sbu.nd;refine(1.2 (86.1 U l
  <|aK (cR (cA wd 79. (fW T.gcK)<|cD _)
   (aK (32. (iX<|72.0 1))
    <|057 1) bS)
  <|aK (gM 2 u<|63.0)
  <|aK (gM 3 u<|eQ iI (eQ Dn 010 bZ)<|63.0)
  <|aK (32. (72.0 3))
  <|057 3)<| ?_)
 refine 434. e ?_
 ·intros n H1 B m R1;have k:=gp B;refine(047);by_cases o:n=92
  ·rw[aY (by rw[o])];refine dw ?_;have b:n.toNat=92:=21.
   refine(5.<|0e7 e (8e5) R1 (fun L x H2 c M f R2=>?_)<|4e7 g)
   ·have j:=gp c;have N:=(lE M).1;refine(5.<|240. _ _ rfl (.inl ⟨ 21.,21. ⟩)<|5.<|0e7 e (8e5 + 1) R2 (fun O y C d hy q R3=>?_)<|4e7 g)
    ·have D:=gp d;have S:47. x * 16 + 47. y=47. (205.:Nat):=21.
     refine(3e1<|5.<|50.4);rw[S,wM];have G:mz (tx e p)=if 899.=true then none else 7. (205.,tx e<|8e5 + 1 + 1):=by rw[k,j,D,GU b M hy]
     cases t:899. with
     |true=>refine dv<|(76.6) C<|m.trans<|f.trans q;grind
     |false=>
      refine dw<|48.
      show Q (V.int<|47. x * 16 + 47. y) C
      rw[S];refine k1 (205.) (8e5 + 1 + 1) C ?_ 2.8 (m.trans<|f.trans q) R3;grind
    refine 681. (m.trans f);cases d:e[8e5 + 1]? with
    |none=>rw[k,j,mT d,b];rfl
    |some O=>rw[k,j,gp d,D9 b<|g O d]
   refine 681. m;cases c:e[8e5]? with
   |none=>rw[k,mT c,b];rfl
   |some L=>rw[k,gp c,D8 b<|g L c]
  have b: ¬ n.toNat=92:=21.
  rw[aX (fun z=>o (70.))];refine dv<|623.;have G:mz (tx e p)=if 934. plain=true then 7. (n.toNat,658. e)else none:=by rw[k,BY b]
  cases t:rV n with
  |true=>
   refine dw<|48.;have h0:0<=n:=by unfold rV at t;grind
   rw[ux]at t;grind
  |false=>rw[ux]at t;rw[t]at G;exact dv<|k2 G H1 m
 intros B;exact(k2<|by rw[mT B];rfl).here
theorem Kp.none(k:92.6 b)(R:43. b c q)(h:095 b x):54. x:=by
 cases e:H x with
 |none=>rfl
 |some o=>obtain⟨⟨_,_,d,_⟩,_⟩:=R;rw[k.to x o e (aV d h).symm]at h;cases h
theorem gh.mono(R:43. H c q)(s:bC H b):43. b c q:=by obtain⟨⟨d,l,e,f⟩,le⟩:=R;exact 28. (e21 d l (70.0 s)<|s.seq f) le
theorem bC.put(h:54. x):bC H (8.7 x o):=fun b u e=>72.2 h
def vN(c:Nat):V:=34. c
def kF(H:Hp)(v:V):Lit->Prop
 | .num z=>v= 59. z
 | .str s=>∃t,v= 02 t/\H t=49.7 s.map
theorem kF.same(h:kF H v x)(s:bC H b):kF b v x:=by
 cases x with
 |num z=>exact h
 |str d=>have⟨t,e,c⟩:=h;exact(e11 t e<|s _ _ c)
def Eb(bF:aA)(aL:Ad):Sp:=fun vs H Q E=>∃(r:Addr) (b:Sg) (p most:Nat),47.2 most/\092 b/\436./\
 (∀(s:aG) (q:Nat) (v:V) H',pC most 957.=405. s b->90.5 (.str s))/\(pC most 957.=none->038)
def Pn(bF:aA)(aL:Ad)(r:Addr)(b:Sg)(p most:Nat)(c:Addr)(d:Hp)(m:Nat)(e:L2.St)(H:Hp):Prop:=∃q bs,e=[72. r,7. (34. most),72. c]/\
 43. H b q/\Kp r d H/\095 d c/\H c=73.8 bs.map/\266. (29.2 b)=2e6 readQuoted (tx b q) (fun z=>(bs++z.1,z.2))/\p<q/\bs.length<=q/\m=b.length - q
theorem Aq(T:19.):01 5 aL.fbt aL.dbt 21.7 (0e4 Eb):=by
 refine 4. T.Fbt Sbt
 intros _ _ _ _ H _ _ _ y y1_;let⟨r,f,p,most,rfl,R,hz,k1,k2⟩:=y1_;have nd:=Sbt.nd;refine(1.2 (4e4 y T.gcr
  <|513. 2
  <|aK (lA bV (iX<|115. y T.gcr)
   <|aO<|dg<|195. 010<|dZ<|pQ (Ap T) y T.gbu T.Fbu.kp T.Bbu<|000 0)
  <|543. (751. 2) (pv 1)
  <|aO<|bJ<|993.<|000 2)<| ?_)
 dsimp only[dO];refine 482. R<|64.8 f 34<| ?_
 ·intros H1 e O S;have eh:73.4 f 34:=216. e;have ed:73.9 f p=29.2 f:=hX f p 1;refine 276.;intros k o
  have l:54. k:=O.none S o;refine(e11 (0e4 Pn r f p most k H) (e38 _ (8e5) [] rfl (S.mono<|5.1 o) (O.put l) l aJ ?_ 960. 81.8<|rfl)<| ?_)
  ·simp_all
  intros m σ H2 y1_;let⟨q,bs,rfl,B,g,c,n,eq,a3,a4,rfl⟩:=y1_;refine 482. B<|e43 r f q 34 rfl B ?_<| ?_
  ·intros x C d u
   refine(918.);have j:x k=73.8 bs.map:=d.to _ _ n<|388.
   have G:266. (658. f)=7. (bs,tx f<|q + 1):=by rw[eq,gp C,K7,aP (08)];simp
   have U:pC most (tx f p)=if bs.length<=most then 7. (bs,tx f<|q + 1)else none:=by unfold pC;rw[aP eh,ed,G]
   refine(5.<|3.3 k j<|606.);rw[aI];by_cases V:36.8 most bs.length
   ·refine m7 V ((76.6) x<|64.2 d);rw[U,aM (52.)]
   refine qj V<|5.<|e21 k _ rfl<|99.4 j;intros t Y
   have I:54. t:=(64.2 d).none u Y;refine k1 bs 68.7 (02 t) _ (by rw[U,aP (52.)]) 060 ((64.2 d).put I) (u.mono<|5.1 Y)<|65.1 t<|aJ
  intros C;refine(5.<|dv ⟨fun J H'=>∃Z,Z<85.6 q/\0e4 Pn r f p most k H Z J H',19.1,?_⟩);have L:7.6 f q ≠ 7. 34:=4e6 C;refine(51. n<|5.<|0e7 f q B ?_<| ?_)
  ·intros b q' x M a5 d u;have j:x k=73.8 bs.map:=d.to _ _ n (388.);have a6:=u.le;refine(127. k j 121.<|e11 (85.6 q') 2.8<|e28 q' (bs++[b]) rfl (R.put (64.2 d) u c) ((64.2 d).put c) c ?_ ?_ 2.8 (by simp;cutsat)<|rfl)
   ·rw[aJ,bG];rfl
   rw[eq,vg L,M];simp only[Option.bind_some,Option.map_map];congr 1;grind
  intros M;refine 681. g;simp_all[pC,eq,vg,M]
 intros e;refine(76.6).here;unfold pC;rw[aM (4e6 e)]
def Qa(c z:Int):79.9:=[("letter",59. c),("size",59. z)]
def wN:Leaf->Int
 | .bit=>98
 | 59. _=>105
 | .text _=>116
def Li:Leaf->Int
 | .bit=>0
 | 59. n=>n
 | .text n=>n
def leafF(l:Leaf):79.9:=Qa (wN l) (Li l)
theorem qw:28.5 (Qa c z).lookup "letter"=7. (V.int c):=oC
theorem FA:28.5 (Qa c z).lookup "size"=7. (V.int z):=rfl
def Ja(aL:Ad):Sp:=fun vs H Q _=>∃x b c z,vs=[02 x,59. c,59. z]/\391. aL.cag (.ins aL.cag b (Qa c z))
theorem j5(T:19.):01 1 aL.fbN aL.dbN (825.) (Ja aL):=by
 refine 4. T.FbN SbN;rintro _ _ _ _ _ _ _ _ _ y1_;have⟨x,b,c,z,rfl,e,k⟩:=y1_;refine 25.3;dsimp only[dO];refine(5.<|5.<|e45 x aL.cag b [] rfl e T.Cag T.ncu (08)<| ?_);refine(5.<|5.<|e45 x aL.cag b _ rfl aJ T.Cag T.ncM (98. 1)<| ?_);rw[fY];exact k _ oD.upd<|by
  rw[aJ]
  show 7. (HO.ins aL.cag b<|dh "size" (59. z) [("letter",59. c)])=_
  rw[8e6];rfl
def Ec(aL:Ad)(H:Hp)(k:Addr)(l:Leaf):Prop:=∃b,79.0
def GW(bF:aA)(aL:Ad):Sp:=fun vs H Q E=>∃r k b p l,428. r k/\092 b/\436./\Ec aL H k l/\mO l/\
 (∀x q v H',jS l 957.=405. x b->90.5 x)/\(jS l 957.=none->038)
theorem kL(T:19.):01 6 aL.faO aL.daO RX (0e4 GW):=by
 refine 4. T.FaO SaO
 intros _ _ _ _ _ _ _ _ i y1_;let⟨r,k,j,p,l,rfl,R,hz,z2_,m,k1,k2⟩:=y1_;let 28. d e:=z2_;(try clear z2_);refine(1.2 (aK (349. T.gcL (aO<|bJ<|pQ (Aq T) i T.gbt T.Fbt.kp T.Bbt<|gG 31.<|13. 1) bS)
  <|aK (349. T.gcY (aO<|bJ<|pQ (ym T) i T.gbr T.Fbr.kp T.Bbr<|gG 31.<|13. 1) bS)
  <|aO<|bJ<|735. (lO T) i<|gG 31. bZ)<| ?_)
 dsimp only[dO];refine(274. d e);cases l with
 |text n=>
  refine dv<|5.<|5.<|06 k d e T.Cag T.ncM FA<|e44 r j p n rfl R hz ?_<| ?_
  ·intro x q v H' b c f g y;exact k1 (68.0) q v H' (108. pC n) c f g y
  intros b
  exact k2<|108. pC n
 |int n=>
  refine dw<|274. d e;refine dv<|5.<|5.<|06 k d e T.Cag T.ncM FA<|e45 r j p n rfl R m.1 m.2 ?_<| ?_
  ·intro z q H' b c f g;exact 97.8 kK n
  intros b
  exact k2<|108. kK n
 |bit=>
  refine dw<|274. d e;refine dw<|5.<|e44 r j p 1 rfl R (08) ?_<| ?_
  ·intro z q H' b c f g;exact 97.8 kr 1
  intros b
  exact k2<|108. kr 1
def Ed(bF:aA)(aL:Ad):Sp:=fun vs H Q E=>∃(r:Addr) (b:Sg) (p least most:Nat),vs=[02 r,34. least,34. most]/\092 b/\most<=2 ^ 63/\
 (∀(n q:Nat) H',gc least most 957.=405. n b->p<q->300. q n)/\(gc least most 957.=none->038)
theorem iZ(T:19.):01 5 aL.faK aL.daK 11.0 (0e4 Ed):=by
 refine 4. T.FaK SaK
 intros _ _ _ _ _ _ _ _ j y1_;let⟨r,k,p,least,most,rfl,R,hz,k1,k2⟩:=y1_;have l:=SaK.nd;refine(1.2 (aK (gM 3 l<|735. (lO T) j<|740. 2)
  <|72.4 (12.2 777. (pv 1))
  <|057 3)<| ?_)
 refine(5.<|5.<|e44 r k p most rfl R hz ?_<|4e7 d)
 ·intros n q c d b e m;refine(5.<|606.);by_cases f:36.8 n least
  ·refine m7 f ((76.6) c e);grind[gc]
  refine qj f (5.<|k1 n q c ?_ b e m);grind[gc]
 simp_all[gc,d]
def Ee(bF:aA)(aL:Ad):Sp:=fun vs H Q E=>∃r b p,062 r/\092 b/\
 (∀l q k H',jZ 957.=405. l b->p<q->3e0->524. b->54. k->Ec aL H' k l->796. k)/\(095 jZ 957.->038)
theorem sX(T:19.):01 6 aL.fbx aL.dbx RW (0e4 Ee):=by
 refine 4. T.Fbx Sbx
 intros _ _ _ _ _ _ _ _ k y1_;let 319. j:=y1_;have S:=Sbx.nd;refine(1.2 (aK (gM 1 S<|272. k<|054)
  <|26.8 T.gdy (aO<|bJ<|812.<|gG 79. bZ)
  <|045 T.gcY
  <|045 T.gcL
  <|2.9)<| ?_)
 have D:∀n c,2e5 n c=61. (n=c):=fun n c=>44.
 refine 482. R<|0e7 j p R (?_)<|fun G=>(k2<|by rw[mT G];rfl).here;intros n H1 G d y
 have I:=gp G;refine(047);rw[D];by_cases z:n=98
 ·refine m7 z (5.<|fun x e f hd l=>(874. 0 J));have g:=600. f o;refine k1 .bit (8e5) x J ?_ 960. (d.trans<|Kp.of g) (y.mono g) (d.none y f) ⟨e,by rw[t,z];rfl⟩;rw[I,z];rfl
 refine qj z (047);rw[D];by_cases B:n=105
 ·rw[aY B];have em:jZ (tx j p)=(gc 2 64<|658. j).map (9e7 Leaf.int):=by rw[I,B];rfl
  refine dv<|5.<|5.<|e54 r j (8e5) 2 64 rfl y (08) (?_)<|fun L=>(k2<|70.).on d;intros m q J L M b u
  intros x e f hd l
  refine(874. m N);have g:=600. f o;exact 355. (59. m) ⟨e,by rw[t,B];rfl⟩
 refine qj B (047);rw[D];by_cases C:n=116
 ·rw[aY C];have em:jZ (tx j p)=(gc 1 999<|658. j).map (9e7 Leaf.text):=by rw[I,C];rfl
  refine dv<|5.<|5.<|e54 r j (8e5) 1 999 rfl y (08) (?_)<|fun L=>(k2<|70.).on d;intros m q J L M b u
  intros x e f hd l
  refine(874. m N);have g:=600. f o;exact 355. (.text m) ⟨e,by rw[t,C];rfl⟩
 refine qj C ((76.6) H1 d);grind[jZ]
#check SR
namespace SR
open PySem PySem.Spec PyProof.Rows L2
open Vacola (Leaf Lit Mode Head Fields isDigit isLow nameSign plain hexOf worth readQuoted digitRun readLit fits goodName modeOf)
abbrev hQ:=Vacola.Kind
def OB(c:Bool)(b:Addr):79.9:=[("is_choice",.bl c),("fields",02 b)]
def FC(n:Int)(b:Addr)(m:Int)(c:V):79.9:=[("number",59. n),("name",02 b),("mode",59. m),("kind",c)]
theorem uy:28.5 (OB c b).lookup "is_choice"=7. (V.bl c):=oC
theorem nz:28.5 (OB c b).lookup "fields"=7. (035 b):=rfl
theorem zf:959. "number" (V.int n):=oC
theorem qx:959. "name" (035 b):=rfl
theorem sY:959. "mode" (V.int m):=rfl
theorem km:28.5 (FC n c m b).lookup "kind"=7. b:=rfl
def gA:Mode->Int
 | .one=>33
 | .opt=>63
 | .many=>42
 | .keyed=>37
theorem B1(h:53.3 c):gA m=47. c:=by
 revert h;revert c m;intros c m h
 unfold modeOf at h;split at h
 ·cases h;rename_i e;subst e;rfl
 split at h
 ·cases h;rename_i e;subst e;rfl
 split at h
 ·cases h;rename_i e;subst e;rfl
 split at h
 ·cases h;rename_i e;subst e;rfl
 cases h
theorem gB:gA m=33↔m= .one:=77.8
theorem iP:gA m=37↔m= .keyed:=77.8
mutual
def cI(aL:Ad)(N:Sq)(H:Hp):20. V hQ
 |v,407.=>∃k b,v= 02 k/\N k/\79.0
 |v,99.8=>∃g b d xs,v= 02 g/\N g/\H g=7. (.ins aL.cah b (OB c d))/\N d/\271. d/\9.5 xs fs
def FieldsAt(aL:Ad)(N:Sq)(H:Hp):05 V->Fields->Prop
 |xs,.nil=>xs=[]
 |xs,91. r=>∃x c f e b d,xs=x::c/\x=035 f/\N f/\66.2 e (357. b d)/\N b/\H b=339./\92.9 d k/\9.5 c r
end
mutual
theorem cI.of(f:4.2 m):(k:hQ)->(v:V)->92.9 v k->cI aL m H' v k
 | 407.,v,h=>by grind[cI]
 | 99.8,v,h=>by rw[cI]at h ⊢;have⟨g,n,p,xs,rfl,r,s,t,u,q⟩:=h;obtain⟨d,e⟩:=873. r s;obtain⟨i,j⟩:=873. t u;exact(e45 g n p xs rfl d e i j<|99.3 f fs xs q)
theorem FieldsAt.of(f:4.2 i):(fs:Fields)->(xs:05 V)->9.5 xs fs->621. i H' xs fs
 | .nil,xs,h=>by
  cutsat
 | 91. r,xs,q=>by rw[FieldsAt]at q ⊢;have⟨x,j,m,n,p,l,rfl,rfl,s,t,u,v,y,z⟩:=q;obtain⟨c,d⟩:=873. s t;obtain⟨e,g⟩:=873. u v;exact(e67 _ j m n p l rfl rfl c d e g (cI.of f k l y)<|99.3 f r j z)
end
theorem gh.at (R:092 c):∃b l,671. b l:=by obtain⟨⟨b,l,h,_⟩,_⟩:=R;grind
theorem cI.kp(h:92.9 v k)(c:3e0)(d:638.):cI aL N H' v k:=
 cI.of 45.9 k v h
theorem FieldsAt.kp(h:9.5 xs fs)(c:3e0)(d:638.):621. N H' xs fs:=
 99.3 45.9 fs xs h
theorem cI.same(h:92.9 v k)(s:5.7)(d:∀b,N b->c b):cI aL c H' v k:=
 cI.of 74.1 k v h
theorem FieldsAt.same(h:9.5 xs fs)(s:5.7)(d:∀b,N b->c b):621. c H' xs fs:=
 99.3 74.1 fs xs h
theorem FieldsAt.snoc{N:Sq}{H:Hp}{h:Head}{k:hQ}{f dx nt:Addr}{kv:V}(n1:N f)(e1:66.2 dx (357. nt kv))(n2:N nt)(e2:H nt=339.)(q:92.9 kv k):
 ∀(l:624.) (xs:05 V),9.5 xs 181.->9.5 (xs++[02 f]) (4.7 (l++[833.]))
 | [],xs,h0=>by
  have h0:9.5 xs .nil:=h0;rw[FieldsAt]at h0;subst h0
  show 9.5 [02 f] (91. .nil)
  rw[FieldsAt];refine⟨_,[],f,dx,nt,kv,rfl,rfl,n1,e1,n2,e2,q,?_⟩;rw[FieldsAt]
 |(h',k')::l,xs,h0=>by
  have h0:9.5 xs (9e6 h' k'<|4.7 l):=h0;rw[FieldsAt]at h0;have⟨x,xr,fa,dx',nt',kv',rfl,rfl,m1,d1,m2,d2,q1,q2⟩:=h0
  show 9.5 ((035 fa::xr)++[02 f]) 95.1
  rw[FieldsAt];exact⟨_,xr++[02 f],fa,dx',nt',kv',rfl,rfl,m1,d1,m2,d2,q1,FieldsAt.snoc n1 e1 n2 e2 q l xr q2⟩
structure sZ(aL:Ad)(N:Sq)(H:Hp)(x:V)(h:Head)(k:hQ):Prop where
 ex:∃f dx nt kv,x=035 f/\N f/\66.2 dx (357. nt kv)/\N nt/\H nt=339./\92.9 kv k
theorem FieldsAt.get:∀l xs,9.5 xs 181.->29.1 l.length/\∀(i:Nat) h k,l[i]? =7. 833.->∃x,051 x/\80. sZ x h k
 | [],xs,b=>by have b:9.5 xs .nil:=b;grind[FieldsAt]
 |(h',j)::l,xs,b=>by
  have b:9.5 xs (9e6 h' j<|4.7 l):=b;rw[FieldsAt]at b;let⟨x,m,n,c,d,f,rfl,rfl,o,p,q,r,s,t⟩:=b;have 28. e g:=66.4 m t;refine⟨by simp[e],fun i h k hi=>?_⟩;cases i with
  |zero=>
   have:(h',j)=833.:=70.
   cases this;exact(5.<|⟨n,e35 c d f rfl o p q r<|s⟩)
  |succ i=>
   cutsat
def yo(n:Int):Bool:=881. 97 n&&881. n 122
theorem Ar(n:Int):yo n=934. isLow:=by
 unfold yo isLow;rw[eB];simp only[bI,cO]
 lia
def Po:Sp:=131. yo
theorem lP(T:19.):01 1 aL.fa3 aL.da3 544. Po:=by
 refine 4. T.Fa3 Sa3;rintro _ _ _ _ _ _ _ _ _ y1_;have 69. n k:=y1_;refine(017 (aO<|bJ<|75.9 T.gcx T.gdt));refine(606.);unfold yo at k;by_cases h:47. 97<=n
 ·rw[aY h]at k ⊢;exact dv<|3e1<|k
 lia
def Jb:Sp:=fun vs H Q _=>∃n,vs=[59. n]/\∀H',5.7->065 (934. modeOf).isSome H'
theorem Lj(n):M9 (59. n) 99.1=(934. modeOf).isSome:=by unfold M9 modeOf;rw[eB];simp only[sf,List.any_nil,15.1,oQ,kO,Bool.or_false];grind
theorem Ef(T:19.):01 1 aL.fbM aL.dbM 544. Jb:=by refine 4. T.FbM SbM;rintro _ _ _ _ _ _ _ _ _ y1_;have 69. n k:=y1_;refine(017 (aO<|bJ<|iE uf 31. (ud<|dG (fW T.gcn)<|dG (fW T.gdx)<|gG (fW T.gcX)<|fW T.gcy)<|485.));dsimp only[dO];refine(86. _ (26.7 4)<|fun t d=>(461.<| ?_));have:=k _<|bC.put (o:=.tup 99.1) d;grind[Lj]
def vh(n:Int):Bool:=yo n||(dig n||61. (n=95))
theorem B2(n:Int):vh n=934. nameSign:=by
 unfold vh nameSign;rw[Ar,rT,Bool.or_assoc];congr 2;rw[eB];simp
 lia
def Eg:Sp:=131. vh
theorem vA(T:19.):01 2 aL.fbP aL.dbP 544. Eg:=by
 refine 4. T.FbP SbP;rintro _ _ _ _ _ _ _ _ b y1_;have 69. n k:=y1_;refine(1.2 (aO<|bJ<|HZ (044 lP b T.ga3 T.Fa3.kp T.Ba3<|000 0)
  <|HZ (442. b<|000 0)<|rC<|662. 31. T.gdq)<| ?_)
 unfold vh at k;refine(623.);cases d:yo n with
 |true=>simp_all
 |false=>
  rw[d]at k;refine dw<|623.;cases e:dig n with
  |true=>simp_all
  |false=>rw[e]at k;refine dw<|44.7 _ rfl;simp_all
#check SR
namespace SR
open Vacola Vacolb
theorem takeWhile_stop{q:Nat->Bool}{l t:Text}(h:∀c∈l,q c=true)(a:∀c r,t=c::r->q c=false):(l++t).takeWhile q=l/\(l++t).dropWhile q=t:=by
 obtain⟨b,d⟩:=takeWhile_all (q:=q) (t:=t) h;cases t with
 |nil=>simp_all
 |cons c r=>simp_all
theorem rW(a:429. 2000):483. t=match 538. t with
 |none=>none
 |9.6 x=>if 532. 59 then(483.<|r.drop 1).map 64.4
  else 138. c:=by
 rw[sP 3000 3001 d c t 2.8 2.8,jG]<;>rfl
def pW(d:Nat)(c:Bool)(l:027)(t:Text):35.0 027:=
 if 0.9 59 then(483. 3e5).map fun y=>(l++y.1,y.2)else if 0.9 (712. c)then 7. (l,t.drop 1)else none
theorem zg(a:429. 2000)(h:538. t=9.6 x):483. t=pW d c [x] r:=by rw[rW a,h];rfl
theorem Eh(a:0.9 59)(h:538. 3e5=9.6 x)(b:429. 2000):pW d c l t=pW d c (l++[x]) r:=by
 unfold pW;rw[aP a,zg (70.) h];unfold pW;split
 ·cases 483. 498. <;> simp
 simp
theorem Jc{d:Nat}{c:Bool}{l:027}{t:Text}(h1:0.9 59)(h:538. 3e5=none)(ht:429. 2000):pW d c l t=none:=by unfold pW;rw[aP h1,rW (by rw[dX];lia),h];rfl
def vi(l:027):Prop:=∀j h k h' a,12.3 (h',a)
def jl(l:027):Prop:=(l.map fun x=>761.).Nodup
theorem Ei{h:Head}{k:Kind}{l:027}:vi (833.::l)↔(∀h' k',l[0]? =7. (h',k')->h.number<h'.number)/\vi l:=by
 constructor
 ·intro q;exact⟨fun h' k' e=>q 0 h k h' k' rfl (064),fun j a b c d e1 e2=>q (j + 1) a b c d (077)<|323. ⟩
 rintro y1_ j a b c d e1 e2;obtain⟨q1,q2⟩:=y1_;cases j with
 |zero=>
  have:833.=(a,b):=077
  cases this;exact q1 c d<|323.
 |succ j=>exact q2 j a b c d (077)<|323.
theorem ra:∀(l:027) (before:05 Head),29.9 before ↔(∀b r h k,before=b::r->l[0]? =7. 833.->92.3)/\vi l/\jl l/\∀b∈before,∀x∈l,b.name≠ 761.
 | [],before=>by simp[dN,vi,jl]
 |833.::l,before=>by
  have e0:dN before (833.::l)=(630.&& !before.any (43.7)&&dN (h::before) l):=by cases before <;> rfl
  rw[e0];clear e0;simp only[bI];rw[ra l<|h::before,Ei];have e1:4e2 630. ↔∀b r h' k',before=b::r->(833.::l)[0]? =7. (h',k')->b.number<h'.number:=by
   cases before with
   |nil=>simp
   |cons b r=>
    simp only[cO];constructor
    ·rintro q b' r' h' k' e1 e2;cases e1;have:833.=(h',k'):=323.
     cases this;exact q
    intro q;exact q b r h k rfl rfl
  have e2:4e2 (!before.any 43.7)↔∀b∈before,b.name≠h.name:=44.
  have e3:jl (833.::l)↔(∀x∈l,h.name≠ 761.)/\jl l:=by
   unfold jl;rw[bD,eW];constructor
   ·rintro y1_;obtain⟨q1,q2⟩:=y1_;exact⟨fun x hx e=>q1<|bK.mpr (25.7 e.symm),q2⟩
   rintro y1_;obtain⟨q1,q2⟩:=y1_;refine⟨ 4e7 m,q2⟩;have 25.7 e:=92.2 m;exact q1 x hx e.symm
  rw[e1,e2,e3];constructor
  ·rintro y1_;have⟨z1_,b1,b2,b3,b4⟩:=y1_;obtain⟨a1,a2⟩:=z1_;refine⟨a1,⟨fun h' k' e=>b1 h before h' k' rfl e,b2⟩,⟨fun x hx=>b4 h 060 x hx,b3⟩,fun b hb x hx=>?_⟩;rcases 819. hx with rfl|hx
   ·exact a2 b hb
   exact b4 b 060 x hx
  rintro y1_;have⟨a1,z1_,z2_,a6⟩:=y1_;obtain⟨a2,a3⟩:=z1_;obtain⟨a4,a5⟩:=z2_;refine⟨⟨a1,fun b hb=>a6 b hb 833.<|17. ⟩,fun b r h' k' e1 e2=>?_,a3,a5,fun b hb x hx=>?_⟩
  ·cases e1;exact a2 h' k' e2
  rcases 819. hb with rfl|hb
  ·exact a4 x hx
  exact a6 b hb x<|17.
theorem wO(l):29.9 [] ↔vi l/\jl l:=by rw[ra];simp
theorem El(h:67.8):94.4/\∀l,k= 407.->mO l:=by
 unfold gd at h;split at h
 ·split at h
  ·cases h
  split at h
  ·rename_i l s e;split at h
   ·injection h with h;injection h with b d;subst b;exact⟨fun c fs a=>by cases a;exact uq<|rL e,fun l a=>by cases a⟩
   cases h
  cases h
 match e:jZ t with
 |none=>simp_all
 |7. x=>rw[e]at h;injection h with h;injection h with b d;subst b;exact⟨(fun c fs a=>by cases a),fun l a=>by cases a;exact(jI e).2⟩
section
variable{kind:30.0 Kind}{c:Bool}{t t1 t2 t3 t4:Text}{n sg:Nat}{nm:Text}{m:Mode}{k:Kind}
theorem Em(h:996.=none):367.:=by grind[eu]
theorem En(h:164.)(h2:095 ja t1):367.:=by unfold eu;rw[h];simp only;rw[h2]
theorem Eo(h:164.)(a:ja t1=7. (nm,[])):367.:=by grind[eu]
theorem Ep(h:164.)(h2:458.)(h3:095 modeOf sg):367.:=by unfold eu;rw[h];simp only;rw[h2];simp only;rw[h3]
theorem Er(h:164.)(h2:458.)(h3:53.3 sg)(h4:348. c m):367.:=by unfold eu;rw[h];simp only;rw[h2];simp only;rw[h3];simp only;rw[aP h4]
theorem Es(h:164.)(h2:458.)(h3:53.3 sg)(h4: 96.5 m)(h5:095 kind t3):367.:=by unfold eu;rw[h];simp only;rw[h2];simp only;rw[h3];simp only;rw[aM h4,h5]
theorem Et(h:164.)(h2:458.)(h3:53.3 sg)(h4: 96.5 m)(h5:90.9)(h6:6e8 m k):367.:=by unfold eu;rw[h];simp only;rw[h2];simp only;rw[h3];simp only;rw[aM h4,h5];simp only;rw[aP h6]
theorem Eu(h:164.)(h2:458.)(h3:53.3 sg)(h4: 96.5 m)(h5:90.9)(h6: ¬ (6e8 m k)):
 eu kind c t=(kT c m k t4).map fun x=>((⟨n,nm,m,x.1⟩,k),x.2):=by
 unfold eu;rw[h];simp only;rw[h2];simp only;rw[h3];simp only;rw[aM h4,h5];simp only;rw[aM h6]
#check 0
theorem mU:∀l,4e8 181.=(l.map fun x=>267. x.2).sum
 | []=>rfl
 |833.::l=>by
  show 267. k + 4e8 181.=_
  rw[mU l,bD,List.sum_cons]
theorem yu(g:∀t k r,b t=9.6 k->885.)(q:eu b a t=9.6 833.):885.:=by
 revert g q;revert b a t h k r;intros b a t h k r g q
 unfold eu at q;split at q
 ·cases q
 rename_i n s i;split at q
 ·cases q
 rename_i nm u j;split at q
 ·cases q
 rename_i c v;split at q
 ·cases q
 split at q
 ·cases q
 split at q
 ·cases q
 rename_i d f l;split at q
 ·cases q
 match e:kT a _ d f with
 |none=>rw[e]at q;cases q
 |7. x=>
  rw[e]at q;injection q with q;injection q with m o;injection m with w p;subst p o;have y:=jH i;have z:=oh j;have A:=015 g l;have B:=sO<|show kT a _ d f=7. (x.1,x.2)from e
  grind
theorem lQ:∀{f depth:Nat} {choice:Bool} {t:Text} {l:027} {s:Text},146.->(l.map fun x=>267. x.2).sum + s.length<=t.length
 |0,_,_,_,_,_,h=>211.
 |f + 1,depth,choice,t,l,s,h=>by
  rw[jG]at h;have d:∀t k r,67.8->885.:=fun t k r e=>by
   unfold gd at e;split at e
   ·split at e
    ·cases e
    split at e
    ·rename_i g m b;split at e
     ·injection e with e;injection e with c a;subst c a;have:=lQ b
      show 4e8 (4.7 g) + _<=_
      rw[mU];have:0.3 t.drop 1<=t.length:=44.
      lia
     cases e
    cases e
   match b:jZ t with
   |none=>simp_all
   |7. x=>
    rw[b]at e;injection e with e;injection e with c a;subst c a;have:=(jI<|show jZ t=7. (x.1,x.2)from b).1
    show 1 + _<=_
    lia
  split at h
  ·cases h
  rename_i x r e;let 33. n k:=6e3;have o:=yu d e;split at h
  ·match a:37.9 498. with
   |none=>grind
   |7. y=>
    rw[a]at h;injection h with h;injection h with i j;subst i j;have:=lQ<|show 37.9 498.=7. (y.1,y.2)from a
    grind
  grind
mutual
theorem Ew:(k:Kind)->(p:05 Text)->(s:Bool)->(om k p s).length=267. k
 | 407.,p,s=>by rw[om];rfl
 | 99.8,p,s=>by rw[om];exact oH fs c p s
theorem oH:(fs:Fields)->(c:Bool)->(p:05 Text)->(s:Bool)->(gq fs c p s).length=4e8 fs
 | .nil,c,p,s=>by rw[gq];rfl
 | 91. r,c,p,s=>by rw[gq,bE,Ew k,oH r];rfl
end
theorem vj(c:593.):∀{f:Nat} {t:Text} {vs:27.6} {u:Text},i9 a b f t=7. (vs,u)->17.4 u.length
 |0,_,_,_,h=>211.
 |f + 1,t,vs,u,h=>by
  rw[i9]at h
  match e:a t with
  |none=>simp_all
  |7. x=>
   let 33. v r:=6e3;rw[e]at h;simp only at h;have:=015 c e;split at h
   ·match d:i9 a b f 498. with
    |none=>grind
    |7. y=>
     rw[d]at h;injection h with h;injection h with _ h;subst h;have:=vj c<|show i9 a b f 498.=7. (y.1,y.2)from d
     grind
   simp_all
theorem Av{t:Text}{c:Nat}(h:0.9 c):0.3 t.drop 1<t.length:=by
 cases t with
 |nil=>cases h
 |cons a r=>cutsat
theorem tm(t:Text)(k:Nat):0.3 t.drop k<=t.length:=44.
mutual
theorem mB:(k:Kind)->(t:Text)->(v:Val)->(r:Text)->gF k t=9.6 v->3e9
 | 407.,t,v,r,h=>by
  rw[gF]at h
  match e:jS l t with
  |none=>simp_all
  |7. x=>rw[e]at h;injection h with h;injection h with _ h;subst h;exact vb<|show jS l t=7. (x.1,x.2)from e
 | 99.7,t,v,r,h=>by
  rw[gF]at h;split at h
  ·rename_i a
   match e:935. fj 3e5 with
   |none=>grind
   |7. x=>rw[e]at h;injection h with h;injection h with _ h;subst h;have:=935. mV 3e5 x.1 x.2 e;grind
  cases h
 | 76. true,t,v,r,h=>by
  rw[gF]at h;split at h
  ·rename_i a
   match e:fR fs 3e5 with
   |none=>grind
   |7. x=>rw[e]at h;injection h with h;injection h with _ h;subst h;have:=rh fs 3e5 x.1 x.2 e;grind
  cases h
theorem mV:(fs:Fields)->(any:Bool)->(t:Text)->(b:551.)->(r:Text)->fj fs any t=9.6 b->3e9
 | .nil,any,t,b,r,h=>by
  rw[fj]at h;split at h
  ·rename_i c;injection h with h;injection h with _ h;subst h;exact Av c
  cases h
 | 9e6 hd k rest,any,t,b,r,h=>by
  rw[fj]at h;split at h
  ·split at h
   ·cases h
   rename_i vs u e;have d:=vj (692. mB) e;have f:=tm t (label any hd.name).length;split at h
   ·cases h
   match a:fj rest true u with
   |none=>simp_all
   |7. x=>
    rw[a]at h;injection h with h;injection h with _ h;subst h;have:=mV rest true u x.1 x.2 a
    lia
  split at h
  ·cases h
  match a:fj rest any t with
  |none=>simp_all
  |7. x=>rw[a]at h;injection h with h;injection h with _ h;subst h;exact mV rest any t x.1 x.2 a
theorem rh:(fs:Fields)->(t:Text)->(ss:551.)->(r:Text)->fR fs t=9.6 ss->3e9
 | .nil,t,ss,r,h=>by rw[fR]at h;cases h
 | 9e6 hd k rest,t,ss,r,h=>by
  rw[fR]at h;split at h
  ·split at h
   ·cases h
   rename_i v u e;have h1:=mB k _ _ _ e;have h0:=tm t (label false hd.name).length;split at h
   ·injection h with h;injection h with _ h;subst h;have:=tm u 1
    lia
   cases h
  cases e2:fR rest t with
  |none=>rw[e2]at h;cases h
  |some x=>rw[e2]at h;injection h with h;injection h with _ h;subst h;exact rh rest t x.1 x.2 e2
end
theorem uB(c:593.):∀f g (t:Text),t.length<f->t.length<g->i9 a b f t=i9 a b g t
 |0,_,_,h,_=>88. h<|kJ _
 |_ + 1,0,_,_,h=>88. h<|kJ _
 |f + 1,g + 1,t,d,i=>by
  rw[i9,i9];cases e:a t with
  |none=>rfl
  |some x=>obtain⟨v,r⟩:=x;simp only;have:=015 c e;have:=tm r 1;rw[uB c f g 498. 2.8 2.8]
def ri(b:30.0 Val)(a:Bool)(vs:27.6)(r:Text):35.0 27.6:=
 if 4e2 a/\532. 44 then(i9 b a 5000 498.).map (fun x=>(vs++x.1,x.2))else 9.6 vs
theorem FF(c:593.)(d:429. 4000)(h:a t=9.6 v):i9 a b 5000 t=ri a b [v] r:=by rw[uB c 5000 5001 t 2.8 2.8,i9,h];rfl
theorem occ_none(h:095 a t):i9 a b 5000 t=none:=by rw[i9,h]
theorem Ez(b:593.)(d:429. 4000)(c:0.9 44)(h:a 3e5=9.6 v):ri a true vs t=ri a true (vs++[v]) r:=by
 unfold ri;rw[aP ⟨rfl,c⟩,FF b (70.) h];unfold ri;split
 ·cases i9 a true 5000 498. <;> simp
 simp
theorem G0(b:0.9 44)(h:095 a 3e5):ri a true vs t=none:=by grind[ri,occ_none]
theorem zi(c: ¬ (4e2 a/\0.9 44)):ri b a vs t=7. (vs,t):=by grind[ri]
theorem qy{l:Text}(hl:∀c∈l,0<c){ns:Sg}{p:Nat}:l.map (6.3)<+:ns.drop p↔l.isPrefixOf (tx ns p)=true:=by
 rw[gZ];unfold tx;generalize ns.drop p=m;induction l generalizing m with
 |nil=>simp
 |cons c l ih=>
  have hc:=hl c<|17.
  cases m with
  |nil=>simp
  |cons z m=>
   rw[bD,bD,List.cons_prefix_cons,List.cons_prefix_cons,ih (fun x hx=>hl x 060)];constructor
   ·rintro y1_;obtain⟨h1,h2⟩:=y1_;exact⟨ 17.,h2⟩
   rintro y1_;obtain⟨h1,h2⟩:=y1_;exact⟨ 21.,h2⟩
theorem Aw(h:47.3):0<c:=by unfold nameSign isLow isDigit at h;grind
theorem uC:∀(vs:27.6),dR vs=true↔∀(i:Nat) a b,vs[i]? =7. a->vs[18.6]? =7. b->122. (keyLit a) b=true
 | []=>by simp[dR]
 | [a]=>by simp[dR]
 |a::b::r=>by
  rw[dR,bI,uC<|b::r];constructor
  ·rintro y1_ i x y e1 e2;obtain⟨h1,h2⟩:=y1_;cases i with
   |zero=>
    have q1:a=x:=077
    have q2:b=y:=323.
    subst q1 q2;exact h1
   |succ i=>exact h2 i x y (077)<|323.
  intro h;exact⟨h 0 a b rfl rfl,fun i x y e1 e2=>h 8.6 x y (077)<|323. ⟩
theorem B4(a:429. 4000):fj (416.) any t=
 if 186. any t then
  match i9 (gF k) 81.7 5000 (t.drop 254.)with
  |none=>none
  |7. (vs,u)=>380.
 else 845.:=by
 rw[fj];have:=tm t 254.;rw[uB (692. mB) (0.3 t.drop 254. + 1) 5000 _ 060 2.8]<;>rfl
theorem vk(e:keyOf k=7. (h,a)):∃r,k= 21.2 false (9e6 h (.leaf a) r)/\134.:=by
 match k,e with
 | 21.2 false (9e6 h' (407.) r),e=>grind[keyOf]
theorem Ln(d:134.)(c:Bj (21.2 false (9e6 h (.leaf b) r)) v):∃lit a,v= 21.2 ([.lit lit]::a)/\075 b lit/\keyLit v=7. lit:=by
 rw[Bj]at c;have 69. i hs:=c;rw[GC]at hs;have⟨o,a,rfl,e,f,_⟩:=hs;obtain⟨w,rfl⟩:=e d rfl;have:=f w<|17.
 rw[Bj]at this;have 69. x g:=this;exact(26.3 x a g<|rfl)
theorem FG(a:Nr k)(h:gF k t=9.6 v):Bj k v:=sQ k t v r<|(nY k a).snd t v r h
#check SR
namespace SR
open PySem PySem.Spec PyProof.Rows L2
open Vacola (Leaf Lit Mode Head Fields isDigit isLow nameSign plain hexOf worth readQuoted digitRun readLit fits goodName modeOf)
def Ej(bF:aA)(aL:Ad):Sp:=fun vs H Q E=>∃r b p,062 r/\092 b/\436./\
 (∀s q t H',ja 957.=405. s b->p<q->3e0->524. b->54. t->H' t=49.7 s.map->796. t)/\(095 ja 957.->038)
def ME(bF:aA)(aL:Ad)(r:Addr)(b:Sg)(p:Nat)(d:Addr)(e:Hp)(m:Nat)(f:L2.St)(H:Hp):Prop:=∃q pre,f=[72. r,72. d]/\
 43. H b q/\Kp r e H/\095 e d/\H d=73.8 pre.map/\tx b p=pre++tx b q/\(∀c∈pre,47.3)/\p + pre.length=q/\m=b.length - q
theorem As(T:19.):01 3 aL.fbD aL.dbD ["reader"] (0e4 Ej):=by
 refine 4. T.FbD SbD
 intros _ _ _ _ H _ _ _ J y1_;let⟨r,f,p,rfl,R,hz,k1,k2⟩:=y1_;have nd:=SbD.nd;refine(1.2 (aK (cR (iX (dJ (044 lP J T.ga3 T.Fa3.kp T.Ba3 (dZ (262. J))))) (aO (26.5)) bS)
  (aK (47.8 1 (cT hU))
  (aK (lA bV (dJ (044 vA J T.gbP T.FbP.kp T.BbP (dZ (262. J))))
   (aO (dg (195. 79. (dZ (272. J (fb (fun _ h=>h))))))))
  (aK (cR (cA lB (1e2 79.) (fW T.gdC) (cD _)) (aO (26.5)) bS)
  (aO (bJ (993. (dZ 79.))))))))<| ?_)
 dsimp only[dO];refine 482. R (e32 r f p rfl R<|50.4);cases b:yo (351. f[p]?)with
 |false=>
  refine dv (76.6).here;unfold ja;rw[aM]
  intros j
  match d:f[p]? with
  |none=>rw[mT d]at j;cases j
  |7. n=>
   rw[d]at b;have b:yo n=false:=b;rw[Ar]at b;rw[gp d]at j;by_cases hs:934. nameSign=true
   ·rw[eI,aP hs]at j;simp only[goodName,bI]at j;rw[b]at j
    lia
   ·rw[eI,aM hs]at j;cases j
 |true=>
  refine dw 276.;intros B C
  refine(e11 (0e4 ME r f p B H) (e38 _ p [] rfl (R.mono (5.1 C)) ((78.7).put C) C aJ rfl 2.8 rfl<|rfl)<| ?_)
  intros m σ H2 y1_;let⟨q,pre,rfl,I,k,g,y,eq,l,hq,rfl⟩:=y1_;have S:B≠r:=fun z=>by rw[z]at g;let⟨_,_,L⟩:=R.at;rw[L]at g;cases g
  refine 482. I (e32 r f q rfl I<|50.4);cases hs:vh (351. f[q]?)with
  |true=>
   refine dv ⟨fun U H'=>∃m',m'<85.6 q/\0e4 ME r f p B H m' U H',19.1,?_⟩;refine(51. y<| ?_);refine 482. I (0e7 f q I (?_)<|fun d=>by rw[d]at hs;exact 88. hs (08));intros n H3 d D R3
   rw[d]at hs;have hs:vh n=true:=hs;have M:=hs;rw[B2]at M;have n0:n=47. (n.toNat:Nat):=by
    unfold vh yo dig at hs;simp only[oQ,bI,cO]at hs
    lia
   have Y:H3 B=73.8 pre.map:=D.to _ _ y S;have a3:=R3.le;refine(127. B Y 121.<|e11 (85.6 68.7) 060<|e28 68.7 (pre++[n.toNat]) rfl (R.put (k.trans D) R3 g) ((k.trans D).put g) g ?_ ?_ ?_ (by simp;cutsat)<|rfl)
   ·rw[aJ,bG]
    show 7. (HO.lst (pre.map vN++[V.int n]))=7. (HO.lst (pre.map vN++[546. (n.toNat:Nat)]))
    rw[<-n0]
   ·rw[eq,gp d,cY];rfl
   ·intro c N;rcases bT.mp N with N|N
    ·exact l c N
    ·rw[cG.mp N];exact M
  |false=>
   have o:∀c x,tx f q=c::x->nameSign c=false:=fun c x e=>by
    match d:f[q]? with
    |none=>rw[mT d]at e;cases e
    |7. n=>rw[d]at hs;have hs:vh n=false:=hs;rw[gp d]at e;injection e with L _;rw[<-L,<-B2];exact hs
   have 28. Z w2:=takeWhile_stop l o;rw[<-eq]at Z w2;have u:pre≠[]/\∀c x,pre=c::x->isLow c=true:=by
    match d:f[p]? with
    |none=>rw[d]at b;exact 88. b (08)
    |7. n=>
     rw[d]at b;have b:yo n=true:=b;rw[Ar]at b;have G:=gp d;cases pre with
     |nil=>rw[eq]at G;have:=o _ _ G;rw[show 934. nameSign=true by unfold nameSign;rw[b];rfl]at this;cases this
     |cons c x=>refine⟨ 44.,332. c' a4 ⟩;cases e;rw[eq]at G;injection G with L _;rw[L];exact b
   have j:goodName pre=881. pre.length 12:=by
    have 555.:=u;(try clear u);cases pre with
    |nil=>exact 49.9 h1
    |cons c x=>
     have ha:961. (c::x).all=true:=eE.mpr l
     show(isLow c&&961. (c::x).all&&881. (c::x).length 12)=_
     rw[h2 c x rfl,ha];rfl
   refine dw (5.<|3.3 B y<|18.);rw[aI];by_cases hb:36.8 12 pre.length
   ·refine m7 hb ((76.6) H2 k);unfold ja;rw[Z,j,aM (174.)]
   ·refine qj hb (5.<|e21 B _ rfl<|.inl ⟨cX.of y,63. t G ⟩);have O:54. t:=k.none I G;have a5:0<pre.length:=yP.mpr u.1;refine k1 pre q t _ ?_ 2.8 (k.put O) (I.mono (5.1 G)) O aJ;unfold ja;rw[Z,w2,j,aP (174.)]
def Jd(aL:Ad):Sp:=fun vs H Q _=>∃x b d c,vs=[02 x,.bl c,02 d]/\391. aL.cah (.ins aL.cah b (OB c d))
theorem yp(T:19.):01 1 aL.fcg aL.dcg 337. (Jd aL):=by
 refine 4. T.Fcg Scg;rintro _ _ _ _ _ _ _ _ _ y1_;have⟨x,b,e,c,rfl,f,k⟩:=y1_;refine 25.3;dsimp only[dO];refine(5.<|5.<|e45 x aL.cah b [] rfl f T.Cah T.ncC (08)<| ?_);refine(5.<|5.<|e45 x aL.cah b _ rfl aJ T.Cah T.nco (98. 1)<| ?_);rw[fY];exact k _ oD.upd<|by
  rw[aJ]
  show 7. (HO.ins aL.cah b<|dh "fields" (.ref e) [("is_choice",.bl c)])=_
  rw[8e6];rfl
def Je(aL:Ad):Sp:=fun vs H Q _=>∃x b c n m d,vs=[02 x,59. n,02 c,59. m,d]/\H x=7. (397. b [])/\3e7 (397. b (FC n c m d))
theorem yq(T:19.):01 1 aL.fci aL.dci 140. (Je aL):=by
 refine 4. T.Fci Sci;rintro _ _ _ _ _ _ _ _ _ y1_;have⟨x,c,b,n,m,d,rfl,f,k⟩:=y1_;refine(1.2 (3.1 79.<|3.1 010<|109. 777. (pv 4))<| ?_);dsimp only[dO];refine(5.<|5.<|e45 x aL.cae c [] rfl f T.Cae T.ncN (08)<| ?_);refine(395. T.nb9 (98. 1));rw[fY,show dh "name" 69.6 (dh "number" (59. n) [])=([632.,("name",035 b)]:79.9)by
  show dh "name" (035 b) [632.]=_
  rw[8e6];rfl]
 refine(395. T.ncp 060);rw[fY,show dh "mode" (V.int m) [632.,("name",035 b)]=(44.0:79.9)by
  rw[8e6,8e6];rfl]
 refine(395. T.nbd 060);rw[fY,show dh "kind" d 44.0=FC n b m d by
  rw[8e6,8e6,8e6];rfl]
 exact 58.6 k
def Jf(aL:Ad):Sp:=fun vs H Q _=>∃v k N,vs=[v]/\92.9 v k/\94.4/\Q (.bl 21.9) H
theorem Ek(T:19.):01 1 aL.fbE aL.dbE ["kind"] (Jf aL):=by
 refine 4. T.FbE SbE
 intros _ _ _ _ _ _ _ _ _ y1_;let⟨v,k,N,rfl,o,G,q⟩:=y1_;have I:=SbE.nd;refine(1.2 (48.9 (pf (dJ<|149. 31.)<|nR<|dJ<|069).pt
  <|aK (gM 1 I<|6.6 0 bZ)
  <|aO<|bJ<|ph (662. (13. 1) T.gcn)<|rC<|149. (13. 1))<| ?_)
 dsimp only[dO];cases k with
 |leaf l=>revert o G q;revert l;intros l o G q;rw[cI]at o;let⟨x,n,rfl,_,p⟩:=o;refine(5.<|584. n p<|5.<|dv<|dv ?_);exact q
 |group c fs=>
  revert o G q;revert c fs;intros c fs o G q;rw[cI]at o;let⟨g,n,L,xs,rfl,_,t,_,u,m⟩:=o;refine(5.<|664. g n t T.Cah T.pO T.jJ<|918.);refine(5.<|06 g n t T.Cah T.ncC uy<|48.);cases c with
  |true=>exact dv q
  |false=>
   refine dw ?_;cases fs with
   |nil=>cutsat
   |cons h k r=>
    rw[FieldsAt]at m;obtain⟨x,Z,f,d,nt,kv,rfl,rfl,_,m,_,_,b,_⟩:=m;refine(5.<|678. n t<|45. L u (282.)<| ?_);refine(5.<|403. d m);have M:2e5 (gA h.mode) 33=61. (134.):=by rw[decide_eq_decide];exact⟨fun z=>gB.mp (70.),by intros z;rw[gB.mpr z]⟩
    rw[M];by_cases C:134.
    ·refine m7 C ?_;cases k with
     |leaf l=>rw[cI]at b;let⟨x,e,rfl,_,p⟩:=b;refine(5.<|030 d m<|584. e p<| ?_);grind[Vacola.keyOf]
     |group O y=>rw[cI]at b;let⟨g2,e,R,S,rfl,_,B,_⟩:=b;refine(5.<|030 d m<|664. g2 e B T.Cah T.pO T.jJ<| ?_);exact q
    refine qj C ?_;have:(Vacola.keyOf<|21.2 false<|91. r).isSome=false:=by
     cases k with
     |leaf l=>grind[Vacola.keyOf]
     |group O y=>rfl
    simp_all
def NH(aL:Ad):Sp:=fun vs H Q E=>∃b xs l N,062 b/\271. b/\9.5 xs 181./\l.length<=10000/\
 (vi l->Q .gm H)/\(¬ vi l->5e2 H)
theorem o6(T:19.):01 1 aL.fbF aL.dbF RY (NH aL):=by
 refine 4. T.FbF SbF
 intros _ _ _ _ H _ _ _ _ y1_;let⟨m,xs,l,N,rfl,d,O,hz,k1,k2⟩:=y1_;have R:=SbF.nd;have 28. G c:=66.4 xs O;refine(1.2 (aO<|906. (ua 90. T.bcq<|gG bZ<|751. 0) (qI 1 R)
  <|aO<|696. (cA ko (48.6 79.) (48.6 (eQ jC 79. bZ))<|cD _))<| ?_)
 dsimp only[dO];refine(5.<|3.3 m d<|51.3 44.<|m8 (n:=(36.6 - 1).toNat) (fun i o H'=>H'=H/\(∃st,o=[82. m,st])/\∀j,j<i->∀h k h' e,12.3 (h',e)) ⟨rfl,981.,fun j I=>88. I<|kJ _⟩ ?_ ?_)
 ·intros i o H' hi y1_;have⟨rfl,z2_,b⟩:=y1_;let 2.5 st:=z2_;(try clear z2_);have p:18.6<l.length:=21.
  let 28. z1r J:=(7e6:∃x,992.);obtain⟨q,k0⟩:=z1r;revert y1_ J;revert st q k0;intros st q k0 y1_ J;let 28. z1r L:=(⟨_,aQ p⟩:∃x,l[18.6]? =7. x);obtain⟨r,f⟩:=z1r;revert L;revert r f;intros r f L;have⟨x0,t,z1_⟩:=c i q k0 J;rcases z1_ with⟨S,u,U,V,rfl,_,v,_,_,_⟩;have⟨x1,y,z1_⟩:=c 8.6 r f L;rcases z1_ with⟨f1,z,Y,Z,rfl,_,B,_,_,_⟩;refine(5.<|5.<|45. m d (at_of (j:=18.6) (6e4) y)<|06 f1 z B T.Cae T.ncN zf<| ?_);refine(5.<|5.<|3e1<|45. m d (54.4 2.8 t)<|06 S u v T.Cae T.ncN zf<|18.);by_cases g:47. r.number<=47. q.number
  ·refine m7 g<|76.6;intros hR
   have:=hR i q k0 r f J L
   lia
  refine qj g ⟨rfl,981.,fun j I h k h' e C D=>?_⟩;by_cases a0:j=i
  ·simp_all
  exact b j 2.8 h k h' e C D
 intros o H' y1_;have⟨rfl,z2_,b⟩:=y1_;obtain⟨st,rfl⟩:=z2_;refine k1 fun j h k h' e C D=>b j ?_ h k h' e C D;grind
def vU(bF:aA)(aL:Ad)(m:Nat):Sp:=fun vs H Q E=>∃(r:Addr) (c:Sg) (p d:Nat),47.2 d/\092 c/\54.3 2000/\1<=d/\7<=d + m/\(675.)/\
 (∀(l:624.) (q:Nat) (v:V) H',d<=6->di 3000 d (50.2 c) (29.2 c)=405. l c->29.9 []->63.1 (21.2 (50.2 c) 181.))/\
 ((6<d\/∀l s,di 3000 d (50.2 c) (29.2 c)=87.3->dN [] l=false)->038)
def Jg(bF:aA)(aL:Ad)(m:Nat):Sp:=fun vs H Q E=>∃(r:Addr) (c:Sg) (p d:Nat),47.2 d/\092 c/\54.3 2000/\1<=d/\d<=6/\6<=d + m/\
 (∀(k:hQ) (q:Nat) (v:V) H',gd 3000 d 81.5=405. k c->63.1 k)/\
 (gd 3000 d 81.5=none->038)
def FD(bF:aA)(aL:Ad)(m:Nat):Sp:=fun vs H Q E=>∃(r:Addr) (e:Sg) (p d:Nat) (c:Bool),vs=[02 r,34. d,.bl c]/\092 e/\e.length<=2000/\1<=d/\d<=6/\6<=d + m/\
 (∀(h:Head) (k:hQ) (q:Nat) (f j g:Addr) (i:V) H',538. (tx e p)=405. 833. e->p<q->3e0->524. e->54. f->H' f=7. (397. j (357. g i))->
  54. g->H' g=339.->6e2 cI H' i k->796. f)/\
 (538. (tx e p)=none->038)
def tf(aL:Ad):Sp:=fun vs H Q E=>∃b xs l N,062 b/\271. b/\9.5 xs 181./\l.length<=1000/\
 (jl l->∀H',5.7->78.5)/\(¬ jl l->988. 5.7)
theorem Au(T:19.)(G:443. (8 + 3 * m) m):
 27.7:=by
 revert G;revert m;intros m G
 have I:9 + 3 * m=(8 + 3 * m) + 1:=6e4
 rw[I];refine 4. T.Fbg Sbg
 intros _ _ _ _ _ _ _ _ k y1_;let⟨r,c,p,d,rfl,R,hz,L,M,N,k1,k2⟩:=y1_;refine(1.2 (aK (cR (cA uf (262. k) (ud<|gG (fW T.gcI)<|fW T.gcJ)<|485.)
  (aO<|bJ<|pQ G k T.gas T.Fas.kp T.Bas<|gG 31.<|54.2 iI) bS)
  <|aO<|bJ<|pQ (sX T) k T.gbx T.Fbx.kp T.Bbx<|000 0)<| ?_)
 dsimp only[dO];refine 434. c HR;intros t O;refine(461.<|48.);have g:=bC.put (o:=.tup [59. 123,59. 60]) O;have D:=R.mono g;have i:=55.4 g;have u:M9 (59. (351. c[p]?)) [59. 123,59. 60]=61. (675.):=by
  rw[eB,fZ,cQ (08),cQ (08)];unfold M9;simp only[sf,List.any_nil,15.1,oQ,kO,Bool.or_false];cases c[p]? with
  |none=>lia
  |some n=>simp;lia
 rw[487.,u];by_cases j:675.
 ·refine m7 j (5.<|5.<|3e1<|e47 r c p (d + 1) rfl D hz 960. 2.8 j (fun l q v H' hd y hg e f z S=>?_)<|4e7 U)
  ·refine k1 _ q v H' ?_ e (i.trans f) z (S.same (542.) fun b V=>g.free V);unfold gd;rw[aP j,aM 2.8,hX,y];simp[*]
  refine 681. i;grind[gd,hX]
 refine qj j (5.<|0e7 c p D (fun l q x H' y e f z B C=>?_)<|fun y=>681. i)
 ·refine k1 (407.) q (02 x) H' ?_ e (i.trans f) z ?_
  ·grind[gd]
  obtain⟨Y,C⟩:=C;rw[cI];exact(26.3 x Y (g.free B)<|C)
 grind[gd]
theorem NI{A B:Prop}{c:Bool}(b:4e2 c)(h:A):904. c:=17.
theorem Pp{A B:Prop}{c:Bool}(b: ¬ 4e2 c)(h:B):904. c:=95.
theorem dI(n c):2e5 n c=61. (n=c):=44.
theorem gh.yr(R:092 b)(h:54. x):x≠r:=fun z=>by have⟨_,_,e⟩:=R.at;rw[z,e]at h;cases h
theorem wQ{k:hQ}{nm:aG}(n:92.6 c)(p:43. c j q)(s:095 c x)(t:095 c f)
 (u:∀b o,60. (upd (upd c f (.own x)) x (397. f []))->b≠x->60. d) (g:c l=49.7 nm.map) (i:6e2 cI c m k):
 92.6 d/\43. d j q/\54. x/\d l=49.7 nm.map/\6e2 cI d m k:=by
 have e:=bC.made s t u;exact⟨n.trans<|Kp.of e,p.mono e,n.none p s,e _ _ g,i.same e fun _ h=>h⟩
theorem yt(T:19.){m:Nat}(GK:27.7):
 52.0:=by
 revert GK;revert m;intros m GK
 have hk:556.=(9 + 3 * m) + 1:=6e4
 rw[hk];refine 4. T.FaQ SaQ
 intros _ _ _ _ H _ _ _ O y1_;let⟨r,N,p,d,c,rfl,R,hz,ar,au,av,k1,k2⟩:=y1_;have nd:=SaQ.nd;refine(1.2 (aK (47.8 3<|pQ (iZ T) O T.gaK T.FaK.kp T.BaK<|dG 31.<|gG bZ<|fW T.gdB)
  <|aK (47.8 4<|pQ (As T) O T.gbD T.FbD.kp T.BbD<|000 0)
  <|aK (47.8 5<|272. O<|054)
  <|72.4 (pf (iX<|dJ<|044 Ef O T.gbM T.FbM.kp T.BbM<|000 5)<|nR (rB (dJ<|pv 2)<|nQ<|91.7 wd T.gcn).pt).pt
  <|aK (47.8 6<|pQ GK O T.gbg T.Fbg.kp T.Bbg<|740. 1)
  <|72.4 (rB (91.7 f7 T.gcy)<|nQ<|iX<|dJ<|044 Ek O T.gbE T.FbE.kp T.BbE<|000 6).pt
  <|aK (cR (115. O T.gdo)
   (aK (696. (pf (dJ<|pv 2)<|pf (91.7 wd T.gcn)<|nR<|791. (pv 6)).pt)
    <|aO<|dg<|788. O<|740. 6) bS)
  <|aO<|bJ<|iF T.Mae (yq T) (O.mono<|6e4) 90. T.gae T.Bci .nil dM<|dG 777.<|dG (pv 4)<|33.7 5 6)<| ?_)
 dsimp only[dO];refine(5.<|e54 r N p 1 999 rfl R (08) (?_)<|fun f=>k2<|Em f);intros n q1 H1 f b2 a5 R1
 refine(5.<|e34 r N q1 rfl R1 2.8 (?_)<|fun g=>(k2<|En f g).on a5);intros nm q2 nt H2 g b3 aw R2 Y ab
 have Z:=a5.trans aw;have a0:54. nt:=a5.none R1 Y;have B:nt≠r:=R1.yr Y;refine 482. R2<|0e7 N q2 R2 (?_)<|fun hn=>((k2<|Eo f<|by rw[g,mT hn]).on Z).here;intros sg H3 hn ae R3
 have af:=Z.trans ae;have ec:=gp hn;rw[ec]at g;have ag:=ae.to _ _ ab B;refine(5.<|665. sg rfl);intros H4 a6;refine(48.);have R4:=R3.mono a6;have j:=af.trans<|55.4 a6;have ah:=a6 _ _ ag
 match D:modeOf sg.toNat with
 |none=>refine dv<|dv ?_;exact(k2<|Ep f g D) H4 j
 |7. l=>
  have ax:gA l=sg:=by
   have:=B1 D;have h1:0<sg.toNat:=by
    have:47. 0<gA l:=by cases l <;> decide
    lia
   lia
  subst ax;refine dw<|50.4;have ay:(348. c l)\/(4e2 c/\l= .one)\/c=false:=70.
  rcases ay with⟨hc,G⟩|⟨hc,G⟩|hc
  case inl=>refine NI hc<|047;rw[dI,aX (287. G gB.mp)];refine dv ?_;exact(k2<|Er f g D ⟨hc,G⟩) H4 j
  case' inr.inl=>refine NI hc<|047;rw[dI,aY<|gB.mpr G];refine dw ?_;have h4: 96.5 l:=fun z=>z.2 G
  case' inr.inr=>refine Pp (by rw[hc];simp)<|dw ?_;have h4: 96.5 l:=fun z=>by rw[hc]at z;cases z.1
  all_goals
   refine(5.<|5.<|e47 r N (q2 + 1) d rfl R4 hz ar au av (?_)<|fun I=>(k2<|Es f g D h4 I).on j);intros k q5 kv H5 I b4 ai R5 a7
   have J:=j.trans ai;have a3:=ai.to _ _ ah B;have 28. C S:=El I;have a4:6e2 cI H5 kv k:=a7.same (542.) fun b hb=>j.none R4 hb;refine(047);rw[dI];have az:778.\/(l= .keyed/\4e2 21.9)\/l≠ .keyed:=by
    by_cases h:l= .keyed
    ·cases hq:046 <;> simp_all
    exact 152. h
   rcases az with⟨t,y⟩|⟨t,y⟩|t
   case inl=>
    refine 47.4;have:21.9=false:=by match hq:046 with|none=>rfl|7. x=>rw[hq]at y;cases y
    rw[this];refine dv ?_;exact(k2<|Et f g D h4 I ⟨t,y⟩) H5 J
   case' inr.inl=>
    refine 47.4;rw[y];refine dw ?_;have h6: ¬ 778.:=fun z=>by
     have:=z.2
     match hq:046 with
     |none=>rw[hq]at y;cases y
     |7. x=>rw[hq]at this;cases this
   case' inr.inr=>refine qj (287. t iP.mp)<|dw ?_;have h6: ¬ 778.:=fun z=>t z.1
   all_goals
    have hY:=Eu f g D h4 I h6;refine 482. R5<|e43 r N q5 61 rfl R5 (fun H6 e6 a8 R6=>(20.4))<|fun e6=>(918.)
    ·
     have eh:7.6 N q5 =7. 61:=216. e6;have o:=J.trans a8;have aj:=a8.to _ _ a3 B;have L:6e2 cI H6 kv k:=a4.kp a8 fun b hb=>R.yr hb;refine(50.4);by_cases M:4e2 c
     ·refine NI M (dv ?_);refine(76.6) H6 o;rw[hY];unfold kT;rw[aP eh,aP<|97. M];rfl
     refine Pp M (047);rw[dI];by_cases q:l= .one
     ·rw[aY<|gB.mpr q];refine dw ?_;cases k with
      |group c' b5=>have e:=L;rw[cI]at e;have⟨g2,U,b6,b7,rfl,_,V,_⟩:=e;refine(5.<|e65 g2 _ _ U _ true rfl V T.Cah T.pO T.pP<|20.4);refine(76.6) H6 o;rw[hY];unfold kT;rw[aP eh,aM 2.8];rfl
      |leaf lf=>
       have e:=L;rw[cI]at e;have⟨g2,U,rfl,_,V⟩:=e;refine(5.<|664. g2 U V T.Cag T.kB T.mx<|918.);have eD:kT c l (.leaf lf) (tx N q5)=(jS lf<|tx N<|q5 + 1).map fun x=>(7. x.1,x.2):=by unfold kT;rw[aP eh,aM 2.8,hX]
       refine(5.<|5.<|e56 r g2 N (q5 + 1) lf rfl R6 2.8 ⟨U,V⟩ (S lf rfl) (fun v q7 u H7 a9 b8 aa R7 _=>?_)<|4e7 a9)
       ·have ak:=o.trans aa;have ao:=aa.to _ _ aj B;have aq:6e2 cI H7 (02 g2) (.leaf lf):=L.kp aa fun b hb=>R.yr hb;refine(81.1 _ H8);have⟨z1,z2,z3,z4,z5⟩:=wQ ak R7 hx hd kk ao aq;refine k1 ⟨n,nm,l,7. v ⟩ (.leaf lf) q7 x dx nt (02 g2) H8 ?_ 2.8 z1 z2 z3 hk a0 z4 z5;rw[hY,eD,a9];rfl
       refine 681. o;rw[hY,eD,a9];rfl
     rw[aX (287. q gB.mp)];refine dv<|dv ?_;refine(76.6) H6 o;rw[hY];unfold kT;rw[aP eh,aP<|8.4 q];rfl
    ·
     have eh: ¬ 7.6 N q5 =7. 61:=4e6 e6;refine(81.1 kv H7);have⟨z1,z2,z3,z4,z5⟩:=wQ J R5 hx hd kk a3 a4;refine k1 ⟨n,nm,l,none⟩ k q5 x dx nt kv H7 ?_ 2.8 z1 z2 z3 hk a0 z4 z5;rw[hY];unfold kT;rw[aM eh];rfl
#check SR
namespace SR
open PySem PySem.Spec PyProof.Rows L2
open Vacola (Leaf Lit Mode Head Fields isDigit isLow nameSign plain hexOf worth readQuoted digitRun readLit fits goodName modeOf closeSign)
theorem wR(T:19.):443. 8 0:=by refine 4. T.Fas Sas;rintro _ _ _ _ _ _ _ _ _ y1_;have⟨r,i,p,d,rfl,R,hz,c,e,j,k1,k2⟩:=y1_;refine(017 (543. (pv 1) (fW T.gcZ) Gg));refine(606.);exact m7 060 (k2<|.inl 060).here
def Pr(bF:aA)(aL:Ad)(r:Addr)(e:Sg)(p d:Nat)(c:Bool)(f:Addr)(g:Hp)(m:Nat)(h:L2.St)(H:Hp):Prop:=∃q l xs,h=[72. r,7. (34. d),7. (.bl c),72. f]/\
 43. H e q/\Kp r g H/\095 g f/\271. f/\621. (85.0 g f) H xs 181./\483. (29.2 e)=pW d c l (tx e q)/\p<q/\2 * l.length<=q/\m=e.length - q
theorem wU(T:19.)(GF:52.0)
 (GD:341.):
 443. (8 + 3 * (m + 1)) (m + 1):=by
 revert GF;revert m;intros m GF
 have hk:8 + 3 * (m + 1)=(556.) + 1:=6e4
 rw[hk];refine 4. T.Fas Sas
 intros _ _ _ _ H _ _ _ hr y1_;let⟨r,g,p,d,rfl,R,hz,ah,az,hh,k1,k2⟩:=y1_;have nd:=Sas.nd;refine(1.2 (543. (pv 1) (fW T.gcZ)
  <|aK (47.8 2<|662. (272. hr<|054) T.gcJ)
  <|aK (47.8 3<|cT<|743.)
  <|aK (lA bV (115. hr T.gcW)
   <|aO<|dg<|195. 777.<|743.)
  <|aK (dg<|729. MA T.maB (f6 T) hr T.BaB<|dZ<|kn (dJ<|pv 2) (fW T.gcV)<|fW T.gcU)
  <|aK (dg<|pQ (o6 T) hr T.gbF T.FbF.kp T.BbF<|000 3)
  <|aK (dg<|pQ GD hr T.gaC T.FaC.kp T.BaC<|000 3)
  <|aO<|bJ<|iF T.Mah (yp T) (hr.mono<|6e4) 90. T.gah T.Bcg .nil dM<|gG 010<|pv 3)<| ?_)
 dsimp only[dO];refine(606.);by_cases h6:36.8 6 d
 ·exact m7 h6 (k2<|.inl 2.8).here
 refine qj h6 ?_;have a8:d<=6:=21.
 refine 482. R<|0e7 g p R ?_<|4e7 hn
 case refine_2=>exfalso;rw[mT hn]at hh;rcases hh with z|z <;> cases z
 intros n0 H1 ao I R1;have ec:=gp ao;refine 078;have hc:2e5 n0 60=(50.2 g):=70.
 rw[hc];let 28. c aq:=(981.:∃c,c=(50.2 g));rw[<-aq]at k1 k2 ⊢;refine(5.<|5.<|5.<|e57 r g (8e5) d c rfl R1 hz ah a8 2.8 ?_<|4e7 a9)
 case refine_2=>
  refine(k2<|8.4 ?_).on I;intros l s' e
  rw[rW (666.),a9]at e;cases e
 intros h k q2 f dx nt kv H2 a9 b0 ar R2 U J D u aa;have a4:=I.trans ar;refine 31.8 nv;intros y L
 have Y:bC H2 (upd H2 y<|1e6 [02 f]):=5.1 L;have j:54. y:=a4.none R2 L;have hF:621. (47.9 y) (upd H2 y<|1e6 [02 f]) [02 f] (4.7 [833.]):=by
  show 621. _ _ [035 f] (91. .nil)
  rw[FieldsAt];refine(e67 _ [] f dx nt kv rfl rfl ⟨I.none R1 U,aV J L⟩ (Y _ _ J) ⟨I.none R1 D,aV u L⟩ (Y _ _ u) ?_<|by rw[FieldsAt]);exact cI.of (fun b o G e=>756. ⟨I.none R1 G,aV e L⟩ Y) k kv aa
 refine(e11 (0e4 Pr r g p d c y H) (e49 _ q2 [833.] [02 f] rfl (R2.mono Y) (a4.put j) j aJ hF (zg (666.) a9) 2.8 (174.)<|rfl)<| ?_)
 intros mm σ H3 y1_;let⟨q,l,xs,rfl,R3,Z,j,a5,ab,M,b1,b2,rfl⟩:=y1_;have N:y≠r:=R.yr j;have ai:984. g q<=2000:=666.
 refine 482. R3<|e43 r g q 59 rfl R3 (fun H4 O B R4=>(20.4))<|fun O=>(918.)
 ·
  have eh:7.6 g q =7. 59:=216. O;have ed:73.9 g q=tx g 68.7:=hX g q 1;have t:=B.to _ _ a5 N;have n:=Z.trans B;refine⟨fun au H'=>∃m',m'<g.length - q/\0e4 Pr r g p d c y H m' au H',19.1,?_⟩;refine(86. _ (97. ⟨rfl,_,cX.of<|by exact t⟩)<|5.<|5.<|5.<|e57 r g 68.7 d c rfl R4 hz ah a8 2.8 ?_<| ?_)
  ·intros h' k' q5 f' b3 b4 b5 H5 ae b6 af R5 U J D u aa;have a6:=n.trans af;have aj:=af.to _ _ t N;have av:=R5.le;have aw:29.1 l.length:=(66.4 xs ab).1;refine(127. y aj (by rw[aw];show _<059;lia)<|e11 (g.length - q5) (70.)<|e39 q5 (l++[(h',k')]) (xs++[02 f']) rfl (R.put a6 R5 j) (a6.put j) j aJ ?_ ?_ 2.8 (174.)<|rfl)
   ·have ax:621. (47.9 y) (upd H5 y<|1e6 (xs++[02 f'])) xs 181.:=
     99.3 (fun b o G e=>⟨G,by rw[aS G.2];exact af.to _ _ (70.0 B.to<|R.yr G.1)<|R.yr G.1⟩) _ _ ab
    have fr:∀b o,084 H4->60. H5->(851./\b≠y)/\upd H5 y (1e6 (xs++[02 f'])) b=7. o:=by
     intros b o G e
     have nf:b≠y:=fun z=>by rw[z,t]at G;cases G
     exact 805. ⟨n.none R4 G,nf⟩ nf
    exact FieldsAt.snoc (fr _ _ U J).1 (fr _ _ U J).2 (fr _ _ D u).1 (fr _ _ D u).2 (744. fr aa) l xs ax
   rw[M,Eh eh (by rw[ed];exact ae) ai]
  intros ae;refine(k2<|8.4 ?_).on n;intros l' s' e
  rw[M,Jc eh (by rw[ed];exact ae) ai]at e;cases e
 ·
  have eh: ¬ 7.6 g q =7. 59:=4e6 O;have ak:∀{c:Bool},483. (658. g)=pW d c l (tx g q)-> ¬ 7.6 g q =7. (712. c)->893.:=fun{c} hm a0 l' s' e=>by rw[hm]at e;unfold pW at e;rw[aM eh,aM a0]at e;cases e
  have a7:∀{c:Bool},483. (658. g)=7. (l,tx g<|q + 1)-> ¬ (vi l/\jl l)->893.:=fun{c} hm hn l' s' e=>by
   rw[hm]at e;cases e;cases hg:dN [] l with
   |false=>rfl
   |true=>exact 88. ((wO l).mp hg) hn
  cases c
  case' false=>refine 482. R3<|5.<|5.<|dw<|200. 125
  case' true=>refine 482. R3<|5.<|5.<|dv<|200. 62
  case' false=>have a0:7.6 g q =7. (712. false):=216. O
  case' true=>have a0:7.6 g q =7. (712. true):=216. O
  all_goals
   have S:=M;unfold pW at S;rw[aM eh,aP a0,hX]at S;have n:=Z.trans B;have t:=B.to _ _ a5 N;have ag:=ab.kp B fun b G=>R.yr G.1;have av:=R4.le;refine(5.<|e45 y xs l _ rfl t ag 2.8 (4e7 hR)<|fun hR=>((k2<|8.4 (a7 S fun z=>hR z.1)) H4 n));refine(5.<|e45 y xs l _ rfl t ag 2.8 (fun hD H5 C=>?_)<|fun hD H5 C=>((k2<|8.4 (a7 S fun z=>hD z.2)) H5<|n.trans<|Kp.of C));refine(5.<|5.<|fun x dx hx hd b7=>(e42 x dx y _ rfl aJ<|fun H6 kk hk=>078));have a3:=600. hx kk;refine k1 l 68.7 (02 x) H6 a8 S ((wO l).mpr ⟨hR,hD⟩) 060 (n.trans<|Kp.of<|C.trans a3) ((R4.mono C).mono a3) ?_;rw[cI];exact(e45 x dx y xs rfl ((n.trans<|Kp.of C).none (R4.mono C) hx) hk j (a3 _ _<|C _ _ t)<|ag.same (C.trans a3) fun b G=>G.1)
theorem rb(T:19.)(b:341.):∀m,443. (8 + 3 * m) m
 |0=>wR T
 |m + 1=>wU T (yt T<|Au T<|rb T b m) b
#check SR
namespace L2
open PySem PySem.Spec PyProof.Rows
variable{X:Cx}
theorem PE.weak(h:087 e t)(c:∀b H Q,t' b H Q->t b H Q):087 e t':=fun pins s b H Q I q=>h pins s b H Q I<|c b H Q q
def Pt(K:aA):R2:=fun x y H Q=>∃a b xs ys,22.7/\62.0/\67.2/\H b=96. ys/\ys≠[]/\447. ys.length/\
 ∀p H',(p=b\/54. p)->5.7->H' p=96. (xs++ys)->796. p
theorem Lk:163. .Add (Pt X.K):=by intro pins s f H x y v u Q I g i h;have⟨a,b,xs,ys,j,k,l,m,n,hz,q⟩:=h;refine K9 pins s f H x y v u Q I g i<|e47 a b xs ys j k l (iD.of m) n hz (fun r=>q b H (8.5) (542.)<|17.)<|fun r p d=>q p _ (8.4 d) (fun c o e=>72.2 d) aJ
#check L2
namespace SR
open PySem PySem.Spec PyProof.Rows L2
open Vacola (Leaf Lit Mode Head Fields leavesFields leavesKind)
def OC(b:V)(pt:Addr)(s:Bool):79.9:=[("kind",b),("path",02 pt),("sure",.bl s)]
theorem FE:14.5 "kind" b:=oC
theorem Ll:14.5 "path" (035 pt):=rfl
theorem Lm:14.5 "sure" (V.bl s):=rfl
def gX(N:Sq)(H:Hp):So->359. aG
 | [],[]=>True
 |t::ts,n::b=>N t/\H t=49.7 n.map/\gX N H ts b
 |_,_=>False
theorem gX.of(f:4.2 g):∀{ts:So} {c:05 aG},gX N H ts c->gX g H' ts c
 | [],[],_=>trivial
 |t::ts,n::c,⟨i,j,k⟩=>by obtain⟨d,e⟩:=873. i j;exact⟨d,e,gX.of f k⟩
 | [],_::_,h=>h.elim
 |_::_,[],h=>h.elim
theorem gX.snoc(c:N t)(d:H t=49.7 n.map):∀{ts:So} {b:05 aG},gX N H ts b->gX N H (ts++[t]) (b++[n])
 | [],[],_=>39.3 c trivial
 |t'::ts,i::b,⟨e,f,g⟩=>⟨e,f,gX.snoc c d g⟩
 | [],_::_,h=>h.elim
 |_::_,[],h=>h.elim
theorem gX.length:∀{ts:So} {b:05 aG},gX N H ts b->ts.length=b.length
 | [],[],_=>rfl
 |t::ts,n::b,⟨_,_,c⟩=>by simp[gX.length c]
 | [],_::_,h=>h.elim
 |_::_,[],h=>h.elim
abbrev vB:=Leaf × 05 aG ×Bool
def zh(aL:Ad)(N:Sq)(H:Hp)(x:V)(col:vB):Prop:=
 ∃c e d pt b,x=035 c/\N c/\H c=7. (.ins aL.caG e (OC d pt col.2.2))/\92.9 d (.leaf col.1)/\N pt/\H pt=99.5 b.map/\gX N H b col.2.1
theorem zh.of(f:4.2 k)(h:80. zh x col):zh aL k H' x col:=by have⟨c,l,m,pt,d,rfl,n,r,q,s,t,p⟩:=h;obtain⟨e,g⟩:=873. n r;obtain⟨i,j⟩:=873. s t;exact(e56 c l m pt d rfl e g (744. f q) i j<|p.of f)
def dS(aL:Ad)(N:Sq)(H:Hp):05 V->359. vB
 | [],[]=>True
 |89.9,c::b=>80. zh x c/\917. b
 |_,_=>False
theorem dS.of(f:4.2 e):∀{xs:05 V} {d:05 vB},917. d->dS aL e H' xs d
 | [],[],_=>trivial
 |89.9,c::d,28. g i=>⟨g.of f,dS.of f i⟩
 | [],_::_,h=>h.elim
 |_::_,[],h=>h.elim
theorem dS.one(h:80. zh x c):80. dS [x] [c]:=88.2
theorem dS.append(g:80. dS ys d):∀{xs:05 V} {b:05 vB},917. b->80. dS (xs++ys) (b++d)
 | [],[],_=>g
 |89.9,c::b,28. e f=>⟨e,dS.append g f⟩
 | [],_::_,h=>h.elim
 |_::_,[],h=>h.elim
theorem dS.length:∀{xs:05 V} {b:05 vB},917. b->29.1 b.length
 | [],[],_=>rfl
 |89.9,c::b,073 d=>by simp[dS.length d]
 | [],_::_,h=>h.elim
 |_::_,[],h=>h.elim
theorem dS.get{N:Sq}{H:Hp}:∀{xs:05 V} {cs:05 vB},917. cs->∀(i:Nat) c,cs[i]? =7. c->∃x,051 x/\80. zh x c
 | [],[],_,i,c,e=>034
 |89.9,c::cs,555.,0,c',e=>by
  have:c=c':=064
  subst this;exact 69. x h1
 |89.9,c::cs,555.,18.6,c',e=>by
  have⟨y,e1,e2⟩:=dS.get h2 i c'<|064
  exact⟨y,077,e2⟩
 | [],_::_,h,_,_,_=>h.elim
 |_::_,[],h,_,_,_=>h.elim
def Jh(aL:Ad):Sp:=fun vs H Q _=>∃x c pt d b,vs=[02 x,d,02 pt,.bl b]/\H x=7. (.ins aL.caG c [])/\3e7 (.ins aL.caG c (OC d pt b))
theorem wV(T:19.):01 1 aL.fck aL.dck 335. (Jh aL):=by
 refine 4. T.Fck Sck;rintro _ _ _ _ _ _ _ _ _ y1_;have⟨x,d,pt,c,b,rfl,f,k⟩:=y1_;refine 500.;dsimp only[dO];refine(5.<|5.<|43.8 [] f T.ncO (08)<| ?_);refine(5.<|5.<|43.8 _ aJ T.nc1 (98. 1)<| ?_);rw[fY,show dh "path" (035 pt) (dh "kind" c [])=([("kind",c),("path",035 pt)]:79.9)by
  show dh "path" (035 pt) [("kind",c)]=_
  rw[8e6];rfl]
 refine(5.<|5.<|43.8 _ aJ T.nc2 060<| ?_);rw[fY,show dh "sure" (V.bl b) [("kind",c),("path",035 pt)]=OC c pt b by
  rw[8e6,8e6];rfl]
 exact 58.6 k
def Pu(aL:Ad)(bF:aA):TE:=fun b H Q=>∃s f h n i e j g d c k,b[2]? =001 (.bl s)/\b[4]? =001 727./\66.2 h (FC n i e j)/\
 b[0]? =001 (.ref g)/\H g=7. (.ins aL.cah d (OB c k))/\065 (s&&61. (e=33)&& !c) H
def uz(aL:Ad)(m:Nat):Sp:=fun vs H Q _=>∃g pt cl s c fs N f d e,vs=[02 g,02 pt,.bl s,02 cl]/\92.9 (02 g) (99.8)/\WF m c fs/\
 H pt=99.5 f.map/\gX N H f d/\d.length + m<=10/\H cl=15. e/\(∀b,N b->b≠cl)/\e.length + 4e8 fs<=10000/\
 ∀H' xs,oD cl H H'->15.4 cl (e++xs)->dS aL (fun b=>99.2) H' xs (gq fs c d s)->78.5
theorem uA(T:19.)(k):13.6 832. (fun _ _ _ _=>False):=
 T.Fau.P8 Sau (fun _ _ _ _ h=>h.elim) 85.1
def QQ(aL:Ad)(H:Hp)(N:Sq)(g pt cl:Addr)(f c:Bool)(m:Nat)(fs:Fields)(d:05 aG)(xs e:05 V)(i:Nat)(l:L2.St)(H':Hp):Prop:=
 ∃h j k rest done ys,l=[72. g,72. pt,7. (.bl f),72. cl,h,j,k]/\9.5 (xs.drop i) rest/\WF m c rest/\oD cl H H'/\15.4 cl (e++ys)/\
  dS aL (fun b=>99.2) H' ys done/\gq fs c d f=done++gq rest c d f/\e.length + done.length + 4e8 rest<=10000
theorem B3(T:19.)(GA:13.6 k aa)(hk:3<=k)
 (hA:1<=m->∀vs H Q E,uz aL (m - 1) vs H Q E->aa vs H Q E):13.6 832. (uz aL m):=by
 revert GA hk hA;revert k aa m;intros k aa m GA hk hA
 refine 4. T.Fau Sau
 intros _ _ _ s H _ Q _ hr y1_;let⟨g,pt,cl,s1,c,fs,N,C,p,M,rfl,hK,hW,ab,D,b8,ae,hN,hz,kk⟩:=y1_;have nd:=Sau.nd;refine(1.2 (aO<|114. (fq<|069) 4
  <|aK (47.8 5<|eQ Lk 79.<|ud<|dZ<|13. 4)
  <|aK (47.8 6<|PE.weak (t':=Pu aL bF) (ph 010<|ph (662. (13. 4) T.gcn)<|rC<|MS<|069) ?weak)
  <|aO<|cR (791. (13. 4))
   (aO<|dg<|kI GA hr T.gau T.Fau.kp T.Bau<|dG (13. 4)<|dG 94.7<|33.7 6 3)
   <|aO<|dg<|195. 777.<|dZ<|iF T.MaG (wV T) (hr.mono<|17.) 90. T.gaG T.Bck .nil dM<|dG (13. 4)<|33.7 5 6)<| ?_)
 dsimp only[dO]
 case weak=>
  intros σ H Q y1_;let⟨s,f,S,n,nt,md,kv,g,O,c,fl,e2,e4,hf,e0,hg,q⟩:=y1_;refine(1.2 e2<|48.);cases s with
  |false=>exact dw q
  |true=>
   refine dv<|1.2 e4<|403. S hf;rw[dI];cases hd:61. (md=33)with
   |false=>simp_all
   |true=>rw[hd]at q;exact dv<|1.2 e0<|06 g O hg T.Cah T.ncC uy<|5.<|q
 rw[cI]at hK;let⟨g',O,fl,xs,e,au,hg,af,ag,hF⟩:=hK;cases e;have nC:∀b,99.2->b≠cl:=by
  intros b hb z
  lia
 refine(5.<|678. O hg<|6e7 fl ag<|gP (xs:=xs) (QQ aL H N g pt cl s1 c m fs p xs M) (e67 none none none fs [] [] rfl hF hW (fun _ _ h _=>h) (by rw[dn];exact ae) trivial rfl<|91.9) ?_ ?_ ?_)
 ·intros i σ H' hi y1_;let⟨_,_,_,_,_,_,rfl,_,_,G,_⟩:=y1_;exact cX.of<|G _ _ ag<|hN _ af
 ·intros i x σ H' hx y1_;let 962.:=y1_;have hi:237.:=048 hx;have ex:17.9:=178.
  rw[ex]at I;cases rest with
  |nil=>trivial
  |cons h kd rr=>
   revert I a6 hm ay;revert h kd rr;intros h kd rr I a6 hm ay;rw[FieldsAt]at I;let⟨x',xr,f,S,nt,kv,e1,e2,nf,hf,ah,az,b0,ai⟩:=I;injection e1 with e3 e4;subst e3 e4 e2;rw[WF]at a6;have⟨_,_,_,a7,aj⟩:=a6;have ak:=783. G hN;have b1:=G _ _ hg<|hN _ au;have Y:H' pt=99.5 C.map:=G _ _ ab<|i6 ab ae<|70.
   refine(5.<|5.<|7.9 f S ak T.Cae T.nb9 qx nv<| ?_);intros t ht;refine(e46 pt t _ _ rfl rfl (iD.of<|by rw[5e9 Y ht];exact Y) aJ 960. (by rw[aI,D.length];show _ + 1<=059;lia)<| ?_);intros Z H2 b2 sm b9
   have l:bC H' H2:=(5.1 ht).trans sm;have a0:095 H' Z:=by
    rcases b2 with z|z
    ·cutsat
    exact(5.1 ht).free z
   have a3:54. Z:=by
    match q:H Z with
    |none=>rfl
    |7. o=>
     have:Z≠cl:=by intros z;lia
     rw[G _ _ q this]at a0;cases a0
   have a4:H2 Z=99.5 (C++[nt]).map:=95.
   have J:=l _ _ ak;have L:=l _ _ U;refine(eb5 s1 f S _ nt _ kv g O c fl rfl rfl J rfl (l _ _ b1)<| ?_);have ed:61. (gA h.mode=33)=(h.mode== .one):=by cases h.mode <;> rfl
   rw[ed];have r:∀b o,N b->60. H->N b/\60. H2:=fun b o d e=>⟨d,l _ _<|70.0 G<|hN b d⟩;have ao:∀b,084 H2->851.:=by
    intros b e
    match q:H b with
    |none=>rfl
    |7. o=>
     by_cases z:b=cl
     ·lia
     rw[l _ _<|G _ _ q z]at e;cases e
   have u:gX N H2 (C++[nt]) (76.3):=gX.snoc ah (r _ _ ah az).2<|D.of r;have y:=744. r b0;cases kd with
   |leaf lf=>
    have j:=y;rw[cI]at j;let⟨kx,a8,rfl,_,a9⟩:=j;refine(5.<|030 S J<|664. kx a8 a9 T.Cag T.kB T.mx<|918.);refine(51. L<|5.<|030 S J<|50.4);intros x aq hx hd ba;refine(e52 x aq Z _ _ rfl aJ<| ?_);intros H3 k3 bb;refine 078;have B:=600. hx k3;have a5:=B _ _ L;have ar:ys.length=done.length:=hC.length;have b3:4e8 (.cons h (.leaf lf) rr)=1 + 4e8 rr:=rfl;have b4:(M++ys).length<sizeLine:=by rw[bE];show _<059;lia
    have N3:∀b o,(99.2)->60. H3->(99.2)/\90.1 cl (M++ys++[035 x]) b=7. o:=fun b o d e=>⟨d,by rw[aS<|nC b d];exact e⟩;refine(127. cl a5 b4<|015 e67 rr (done++[(lf,76.3,835. s1)]) (ys++[035 x]) rfl ai aj ?_ ?_ ?_ ?_<| ?_)
    ·intros b o e d
     rw[aS d];exact B _ _<|l _ _<|70.0 G d
    ·grind[aJ]
    ·refine dS.append (dS.one ⟨x,aq,02 kx,Z,C++[nt],rfl,8.4 (ao _ hx),?_,?_,8.4 a3,?_,?_⟩) (dS.of (fun b o d e=>⟨d,by rw[aS<|nC b d];exact B _ _<|l _ _ e⟩) hC)
     ·simp_all
     ·exact cI.of (693.) _ _ y
     ·rw[aS<|nC _<|8.4 a3];exact B _ _ a4
     exact u.of 693.
    ·rw[hm,gq,om,cY]
    grind
   |group c' R=>
    have j:=y;rw[cI]at j;let⟨kx,a8,bc,bf,rfl,_,a9,_⟩:=j;rw[WK]at a7;refine(5.<|030 S J<|e65 kx _ _ a8 _ true rfl a9 T.Cah T.pO T.pP<|20.4);have ar:ys.length=done.length:=hC.length;have b3:4e8 (.cons h (21.2 c' R) rr)=4e8 R + 4e8 rr:=rfl;refine(5.<|030 S J<|5.<|5.<|5.<|hA a7.1 _ _ _ _<|ea9 kx Z cl _ c' R N (C++[nt]) (76.3) (M++ys) rfl y a7.2.2.2 a4 u (by rw[bE,List.length_singleton];lia) L hN (by rw[bE];lia)<| ?_);intros H3 b5 k3 a5 b6
    refine(015 e67 rr (done++gq R c' (76.3) (835. s1)) (ys++b5) rfl ai aj ?_ ?_ ?_ ?_<| ?_)
    ·intros b o e d
     exact k3 _ _ (l _ _<|70.0 G d) d
    ·grind
    ·refine dS.append (dS.of (?_) b6)<|dS.of (fun b o d e=>⟨d,k3 _ _ (70.0 l)<|nC b d⟩) hC;intros b o d e;refine 28. ?_ e;grind
    ·rw[hm,gq,om,cY]
    grind[oH]
 intros σ H' y1_;let 962.:=y1_;rw[jV]at I;cases rest with
 |cons h kd rr=>grind[FieldsAt]
 |nil=>grind[gq]
theorem pX(T:19.):∀m,13.6 (4 + m) (uz aL m)
 |0=>58.7 B3 (uA T 2)
 |m + 1=>B3 T (pX T m) (show 3<=4 + m by cutsat) 10.0
def Ji(aL:Ad):Sp:=fun vs H Q _=>∃v c fs N,vs=[v]/\92.9 v (99.8)/\WF 5 c fs/\4e8 fs<=10000/\
 ∀cl xs H',5.7->54. cl->15.4 cl xs->dS aL (fun b=>(99.2)/\b≠cl) H' xs (gq fs c [] true)->796. cl
theorem rg(T:19.):01 10 aL.faW aL.daW ["record"] (Ji aL):=by
 refine 4. T.FaW SaW
 intros _ _ _ _ H _ _ _ t y1_;let⟨v,c,fs,N,rfl,p,u,hz,k⟩:=y1_;have x:=SaW.nd;refine(017 (aK (gM 1 x<|cT hU)<|aK (dg<|kI (pX T 5) t T.gau T.Fau.kp T.Bau<|dG 31.<|dG (ud hU)<|gG uZ<|pv 1)<|aO<|bJ<|pv 1));have j:=p;rw[cI]at j;let⟨g,C,D,xs,rfl,_⟩:=j;refine 276.;intros cl f;refine(44.7 _ 81.8);intros pt m;refine(48.);have n:bC H (4.9 H cl):=5.1 f;have l:bC (4.9 H cl) (upd (4.9 H cl) pt<|.tup []):=5.1 m;refine(ea9 g pt cl true c fs (fun b=>N b/\b≠cl) [] [] [] rfl (744. (fun b o d e=>⟨⟨d,aV e f⟩,l _ _<|n _ _ e⟩) p) u aJ trivial (08) (l _ _ aJ) (fun b d=>d.2) (91.9)<| ?_);intros H' xs y q B;refine(48.);refine k cl xs H' (fun b o e=>y _ _ (l _ _<|70.0 n)<|aV e f) f 060<|dS.of (fun b o d e=>28. ?_ e) B;rcases d with d|d
 ·simp[*]
 refine⟨.inr (n.free<|l.free d),?_⟩;intros z
 rw[z,l _ _ aJ]at d;cases d
theorem bC.rd(d:bC H c)(f:Kp r c H')(g:54. r):5.7:=fun b o e=>f.to b o (094 d)<|aV e g
theorem vV{x b c:Addr}{d:Sg}(j:54. x)(e:851.)(f:b≠x)(h:435. c d.map):cX bF (upd (8.7 b (.own x)) x (099 b [])) c (080 d.map):=by
 have g:bC H (8.7 b<|.own x):=5.1 e;have i:bC (8.7 b<|.own x) (upd (8.7 b<|.own x) x<|099 b []):=bC.put<|817.
 exact(64.2 i).seq h
def tj(bF:aA)(aL:Ad):Sp:=fun vs H Q E=>∃d c,062 d/\435. d c.map/\
 (∀fs v H',ki (tx c 0)=7. fs->5.7->6e2 cI H' v 0e6->Q v H')/\(095 ki (tx c 0)->988. 5.7)
theorem wW(T:19.)(GD:341.):51.9:=by
 refine 4. T.Fba Sba
 intros _ _ _ s H _ _ _ p y1_;let⟨U,c,rfl,V,k1,k2⟩:=y1_;have Y:=Sba.nd;refine(1.2 (543. (751. 0) (fW T.gdA)
  <|aK (gM 1 Y<|5e8 p.mono<|000 0)
  <|72.4 (cA wd (nu (pv 1) T.Cac T.mav (fT T) p T.Bav dM) (fW T.gcI)<|cD _)
  <|aK (gM 2 Y<|pQ (rb T GD 7) p T.gas T.Fas.kp T.Bas<|gG 79. bZ)
  <|aK (201. 79. p)
  <|543. (1e2<|044 rg p T.gaW T.FaW.kp T.BaW<|000 2) (fW T.gdD)
  <|057 2)<| ?_)
 dsimp only[dO];refine(770. U V);rw[aI];have a3:984. c 0=c.length:=by rw[fO];cutsat
 by_cases Z:36.8 2000 c.length
 ·refine m7 Z (76.6 H<|542.);unfold ki;rw[aP 2.8]
 rw[aX Z];have hz:54.3 2000:=21.
 refine dw<|48.;intros r dx J hd L;refine(e43 r dx U c rfl aJ (vV J hd L V)<| ?_);intros H1 kk _ M;refine 078;have d:bC H H1:=600. J kk;have t:54. r:=J;refine 482. M<|0e7 c 0 M rfl<|48.;rw[dI];have eS: ¬ (2000<984. c 0):=95.
 by_cases m:7.6 c 0 =7. 123
 ·have f:=(cQ<|08).mp m;rw[f,aY 90.];refine dw ?_;have u:(7.6 c 0 ==7. 60)=false:=by rw[m];rfl
  have eM:di (984. c 0 + 1) 1 false (73.9 c 0)=816.:=by rw[hX];exact 015 sP _ _ (by rw[fO,fO];cutsat)<|666.
  have o:ki (tx c 0)=match 816. with
   |87.3=>101.
   |none=>none:=by
   unfold ki;rw[aM eS,aP m,eM]<;>rfl
  refine(5.<|e47 r c 0 1 rfl M hz (08) (08) (97. m) ?_<| ?_)
  ·rw[u]
   intros l q v B _ N hg a4 g I hv
   rw[N]at o;simp only at o;have j:bC H B:=bC.rd d g t;refine 482. I<|0e7 c q I ?_<| ?_
   ·intros O;have tq:tx c q=[]:=(j4 I.le).mpr O;have a5:4e8 181.<=2000:=by
     rw[mU];have:=lQ N;rw[fO,fO]at this
     cutsat
    have R:WF 5 false 181.:=oj (depth:=1) (08) N;have C:6e2 cI B v (21.2 false<|4.7 l):=hv.same (542.) fun b nb=>d.free nb;refine(5.<|e44 v false 181. _ rfl C R 2.8<|fun cl xs H3 k a6 D hC=>?_);refine(3.3 cl D<|18.);rw[hC.length,oH];by_cases G:36.8 40 (4e8 181.:Nat)
    ·refine m7 G (76.6 H3<|j.trans k);rw[o,aM (fun z=>by have:=z.2.2;lia)]
    refine qj G (5.<|k1 181. v H3 ?_ (j.trans k)<|C.same k fun _ h=>h);rw[o,aP ⟨hg,tq,21. ⟩]
   intros O;refine 76.6 B j;rw[o,aM (fun z=>O<|(j4 I.le).mp z.2.1)]
  rw[u]
  intros S B g
  refine 76.6 B<|bC.rd d g t;rw[o]
  match e:816. with
  |none=>rfl
  |7. x=>
   let 33. l s':=6e3;simp only;rcases S with z|z
   ·exact 88. z<|08
   rw[aM (fun y=>by rw[z l s' e]at y;cases y.1)]
 have f: ¬ 351. c[0]?=123:=fun z=>m (216. (by
  match e:c[0]? with
  |none=>rw[e]at z;cases z
  |7. n=>rw[e]at z;exact dQ some z))
 rw[aX f];refine dv<|76.6 H1 d;unfold ki;rw[aM eS,aM m]
#check SR
namespace HT
open PySem PyProof.Rows
section
variable{prog:aD}{w:World}{A:Around}{E:Sl}{s:aB}
def Jj(h:Heap)(d:Addr)(n:Nat):Prop:=∃o a ep,64. d o/\o.ExactDict/\129. a/\a.size=n
theorem Ey(d)(a:99. d):
 66.6 Builtin.«dict.__len__» [02 d] (fun _ R s=>∃n,383. Jj d n/\603. (59. n s.toks) (4.4 1)):=
 .of_wp<|by
  rintro A R s ⟨n,⟨o,e,ep,g1,g2,g3,b⟩,c⟩
  show 7.5 (dictSize d>>= _) s
  unfold dictSize;refine aH<|aH<|gK g1 g3<|77.9;refine aH<|wpAny_pendingCount_other a<|wpAny_ret_mkInt ?_;rw[Nat.add_zero,b];exact c
theorem Jj.typeIs{d:Addr}{n:Nat}(h:383. Jj d n):659. :=by have⟨o,es,ep,g1,g2,_⟩:=h;exact⟨o,g1,g2.1⟩
theorem GX{n:Nat}{Q:Sl}(a:99. d)(b:383. Jj d n)(c:47. n<2 ^ 63)
 (h:821.):9e5 A (Builtin.«len» ⟨[02 d],[]⟩) (fun fin e=>∃r,fin= .done (.ret r)/\Q r e) E s:=by
 unfold Builtin.«len»;refine aH (m:=oneArg "len" _)<|77.9;refine aH (m:=callSpecial? (02 d)<|911. "__len__")<|je (name:=911. "__len__") b.typeIs F.slot_dict_len
  <|call_meetsIn F.slot_dict_len b.typeIs F.entry_dict_len (F.args_dict_len_1 _) (Ey d a)<|665. n b
 refine aH<|fD<|aN<|aH<|wpAny_letGo ?_;rw[aM 960.];rw[aM 060];exact aH<|wpAny_mkInt<|aN<|5.<|h
theorem GY(b:99. d)(c:383. Jj d n)(a:47. n<2 ^ 63)
 (h:821.):40. (598. "len" [02 d]):=
 Calls.call_function_entry kind_len plain_len entry_len (args_len1 _)<|GX b c a h
#check 0
#check HT
namespace L2
open PySem PySem.Spec PyProof.Rows
section
variable{X:Cx}
theorem GZ:366. .dT:=by
 intro pins s σ H xs us Q I r h;have 95.8 kvs ha:=h;have 69. u ru:=83.8;cases ru;refine x0_2 ((2e9 (.dT kvs) ha)) fun z hsm zz_=>278. fun xs rel zz_=>x3_4 zz_ fun o es ep h1 h2 h3 h4 h5=>?_;have hn:es.size=kvs.length:=by
  have e:es.toList.length=(xs.map<|entryOfKey<|tupleKind<|29. gj).length:=by rw[h4]
  rw[cN,aI]at e;rw[e,<-vK rel]
 have hl:=zQ;refine HT.GY hsm ⟨o,es,ep,h1,h2,h3,hn⟩ 2.8 ?_;exact⟨.int kvs.length,H,914.,981.,q⟩
def NJ(tk d:TE):TE:=fun c H Q=>∀p,54. p->tk c (8.7 p (.dT [])) fun x e=>d c e fun y a=>7e0
def MF(H:Hp)(Q:VK)(p:Addr):5.9 V V->284.
 | [(x,y)],a=>7e0
 |_,_=>False
theorem Jk(h:MF H Q p ps a):∃x y,ps=[(x,y)]/\7e0:=by
 cases ps with
 |nil=>exact h.elim
 |cons z t=>
  cases t with
  |nil=>exact e21 z.1 z.2 rfl h
  |cons _ _=>exact h.elim
theorem Jl{k v:Expr}{tk tv:TE}{pos:Pos}(hu:6e0 1)(hk:087 k tk)(hv:087 v tv):087 (.Dict [7. k] [v] pos) (NJ tk tv):=by
 revert hu hk hv;revert X k v tk tv pos;intros X k v tk tv pos hu hk hv;intros pins s σ H Q I q
 have hn:=78.9;have I1:=9e2 (o:=.dT []) (h':=6.9 77.) (t':=s.toks) (356. _ _) 779.<|383. BC I.big;have hp:P6 X pos [7. k] [v] [(tk,tv)]:=IF hk hv K4;refine wpAny_Dict_any rfl rfl 960. 060<|40.0 (6.8 hp _ _ (MF H Q s.heap.objs.size) I1<|q _ hn);rintro ws s2 ⟨ps,H2,I2,rel,q1⟩;revert I2 rel q1;revert ws s2 ps H2;intros ws s2 ps H2 I2 rel q1;have⟨x,y,rfl,⟨b,k,rfl,hb,hd,q2⟩⟩:=Jk q1;obtain⟨u2,rfl,e2⟩:∃u2,ws=[(49. b,u2)]/\RelV y u2:=by
  cases rel with
  | @cons _ w0 _ _ r1 r2=>cases r2;obtain⟨w1,w2⟩:=w0;obtain⟨e1,e2⟩:=r1;cases(show w1=49. b from e1);exact 69. w2 e2
 unfold storeAll;rw[vu];have⟨z,hsm,⟨xs,rel2,dd⟩⟩:=Mx I2.fh hd;cases rel2;refine aH<|aH<|wpAny_dictSet_heap (hsz:=bH _) (knd:=tupleKind<|29. gj) (show X.A.units<cLine by lia) (rG I2.fh hb) dd fun h' dd' hs=>77.9;simp only[Kq];refine aN ⟨ 89.,_,?_,rfl,q2⟩;have⟨q',es,ep',hq,h2,h3,h4,_,h5⟩:=dd';refine sG I2 (by rw[hd];exact True.intro) hs ⟨q',hq⟩ ⟨ 26.7 1,hsm,_,9e6 ⟨rfl,?_,e2⟩ .nil,q',es,ep',hq,h2,h3,h4,h5⟩
 show 082 upd H2 _ b=394.
 rw[aS<|i6 hb hd (81.)];exact hb
#check 0
#check L2
namespace SR
open PySem PySem.Spec PyProof.Rows L2
open Vacola (Leaf Lit Mode Head Fields fits goodName)
open Vacolb (Val keyLit keyRises litLess textLess)
def gC(n:aG):21.0:=n.map fun(c:Nat)=>220. c
theorem pY(n:aG):2e6 gC n kV=n.map vN:=by unfold gC;rw[bQ];rfl
theorem zj{m n:aG}(h:gC m=gC n):m=n:=by
 unfold gC at h;induction m generalizing n with
 |nil=>cases n with|nil=>rfl|cons _ _=>trivial
 |cons c m b=>
  cases n with
  |nil=>trivial
  |cons d n=>grind
mutual
def fX(aL:Ad)(N:Sq)(H:Hp):hQ->20. V Val
 | .leaf _,v,val=>∃x,val= .lit x/\kF H v x
 | 76. _,v,val=>∃d kvs b,v= 02 d/\val= 21.2 b/\N d/\072 d .dT/\007 fs b
def cC(aL:Ad)(N:Sq)(H:Hp):Fields->645.->551.->Prop
 | .nil,_,b=>b=[]
 | 91. r,kvs,b=>∃vs c,b=vs::c/\(∀v0 d,vs=v0::d->∃l x e,739. e)/\007 r c
end
def fc(H H':Hp):Prop:=265.
theorem kF.fg(b:10.1)(h:kF H v x):kF H' v x:=by
 cases x with
 |num z=>exact h
 |str s=>have⟨t,e,c⟩:=h;exact(e11 t e<|b _ _ c)
mutual
theorem fX.of(f:4.2 g)(i:10.1):(k:hQ)->(v:V)->(val:Val)->55.6 v val->fX aL g H' k v val
 | 407.,v,val,h=>by rw[fX]at h ⊢;have⟨x,e,q⟩:=h;exact(e11 x e<|q.fg i)
 | 99.8,v,val,h=>by rw[fX]at h ⊢;have⟨d,kvs,j,m,p,n,e,q⟩:=h;obtain⟨r,s⟩:=873. n e;exact(e34 d kvs j m p r s<|cC.of f i fs kvs j q)
theorem cC.of(f:4.2 d)(g:10.1):(fs:Fields)->(kvs:645.)->(c:551.)->007 fs c->46.2 cC d kvs c
 | .nil,kvs,c,h=>by
  cutsat
 | 91. r,kvs,c,q=>by rw[cC]at q ⊢;have⟨vs,i,e,j,m⟩:=q;refine(e22 vs i e (fun v0 n p=>?_)<|cC.of f g r kvs i m);have⟨l,x,s,g1,g2,g3,t⟩:=j v0 n p;obtain⟨u,v⟩:=873. g2 g3;exact(e33 l x s g1 u v<|fX.of f g k x v0 t)
end
theorem cC.kvs{N:Sq}{H:Hp}{kvs kvs':645.}:(l:624.)->(∀x∈l,ic kvs' (gC 761.)=994. (gC 761.))->(ss:551.)->007 181. ss->80. cC 181. kvs' ss
 | [],_,ss,h=>by
  have h:007 .nil ss:=h
  show 80. cC .nil kvs' ss
  rw[cC]at h ⊢;exact h
 |(hd,k)::l,hx,ss,h=>by
  have h:23.9 hd k kvs ss:=h
  show 23.9 hd k kvs' ss
  rw[cC]at h ⊢;have⟨vs,sr,e,q1,q2⟩:=h;refine⟨vs,sr,e,fun v0 vr ev=>?_,cC.kvs l (fun x hm=>hx x<|17.) sr q2⟩;rw[hx (hd,k) 060];exact q1 v0 vr ev
theorem cC.snoc{N:Sq}{H:Hp}{kvs:645.}{h:Head}{k:hQ}{vs:27.6}(q:∀v0 vr,vs=v0::vr->∃l x xr,739. xr):
 (l:624.)->(ss:551.)->007 181. ss->007 (4.7 (l++[833.])) (ss++[vs])
 | [],ss,h0=>by
  have h0:007 .nil ss:=h0;rw[cC]at h0;subst h0
  show 007 (91. .nil) [vs]
  rw[cC];exact⟨vs,[],rfl,q,by rw[cC]⟩
 |(h',k')::l,ss,h0=>by
  have h0:23.9 h' k' kvs ss:=h0;rw[cC]at h0;have⟨vs',sr,rfl,q1,q2⟩:=h0
  show 80. cC 95.1 kvs ((vs'::sr)++[vs])
  rw[cC];exact⟨vs',sr++[vs],rfl,q1,cC.snoc q l sr q2⟩
def fU(aL:Ad)(N:Sq)(H:Hp)(k:hQ):05 V->359. Val
 | [],[]=>True
 |89.9,v::vs=>55.6 x v/\20.0
 |_,_=>False
theorem fU.of(f:4.2 c)(d:10.1):∀{xs:05 V} {vs:27.6},20.0->fU aL c H' k xs vs
 | [],[],_=>trivial
 |89.9,v::vs,28. e g=>⟨fX.of f d k x v e,fU.of f d g⟩
 | [],_::_,h=>h.elim
 |_::_,[],h=>h.elim
theorem fU.one(h:55.6 x v):80. fU k [x] [v]:=88.2
theorem fU.snoc(h:55.6 x v):∀{xs:05 V} {vs:27.6},20.0->80. fU k (xs++[x]) (vs++[v])
 | [],[],_=>88.2
 |y::xs,u::vs,28. b c=>⟨b,fU.snoc h c⟩
 | [],_::_,h=>h.elim
 |_::_,[],h=>h.elim
theorem fU.length:∀{xs:05 V} {vs:27.6},20.0->29.1 vs.length
 | [],[],_=>rfl
 |89.9,v::vs,073 b=>by simp[fU.length b]
 | [],_::_,h=>h.elim
 |_::_,[],h=>h.elim
theorem fU.get{N:Sq}{H:Hp}{k:hQ}:∀{xs:05 V} {vs:27.6},20.0->∀(i:Nat) v,vs[i]? =7. v->∃x,051 x/\55.6 x v
 | [],[],_,i,c,e=>034
 |89.9,v::vs,555.,0,c',e=>by
  have:v=c':=064
  subst this;exact 69. x h1
 |89.9,c::cs,555.,18.6,c',e=>by
  have⟨y,e1,e2⟩:=fU.get h2 i c'<|064
  exact⟨y,077,e2⟩
 | [],_::_,h,_,_,_=>h.elim
 |_::_,[],h,_,_,_=>h.elim
def Lo(aL:Ad):Sp:=fun vs H Q _=>∃f c b n d e nm,062 f/\66.2 c (FC n b d e)/\H b=49.7 nm.map/\nm.length<=1000/\
 ∀l H',5.7->54. l->H' l=73.8 (nm++[58]).map->796. l
theorem vl(T:19.):01 1 aL.fa7 aL.da7 ["field"] (Lo aL):=by refine 4. T.Fa7 Sa7;rintro _ _ _ _ H _ _ _ _ y1_;have⟨f,l,m,n,x,y,nm,rfl,o,c,hz,k⟩:=y1_;refine(017 (aO<|bJ<|eQ rF (iu sC 90. T.bcQ uY<|dZ<|13. 0)<|cT<|dZ<|fW T.gdm));dsimp only[dO];refine(5.<|24.8 l o<|25. m (8.4 (iD.of c))<|fun b r=>⟨nv,63. e t ⟩);have g:bC H 21.5:=5.1 r;have d:bC 21.5 (upd 21.5 e<|1e6 [59. 58]):=5.1 t;refine(8.8 b e (d _ _ aJ) aJ (by rw[aI];show _ + 1<=059;lia)<|63. p i);exact k p _ (g.trans<|d.trans<|5.1 i) (g.free<|d.free i)<|by rw[aJ,bG];rfl
def Jm:Lit->Lit->Bool
 | .num x,.num y=>881. x y
 | .str s,.str t=>HT.lexLe 14.0 81.6
 |_,_=>false
theorem wX:∀s t:aG,HT.lexLe 14.0 81.6= !textLess t s
 | [],t=>by cases t <;> rfl
 |c::s,[]=>rfl
 |c::s,d::t=>by rw[bD,bD,HT.lexLe,textLess,wX s t];grind
theorem NL(i j:Int):881. i j= ! 61. (j<i):=70.
theorem EA(c:075 b x)(d:075 b y):Jm x y= ! 76.4 y x:=by
 cases b <;> cases x <;> cases y <;> simp[fits]at c d <;> simp only[Jm,litLess]
 ·grind
 ·grind
 exact wX _ _
theorem Lp{H:Hp}{u v:V}{x y:Lit}{d:Leaf}{Q:VK}(e:kF H u x)(f:kF H v y)(g:075 d x)(h:075 d y)(q:065 (Jm x y) H):
 (fun(aL b:V) (H:Hp) (Q:VK)=>Kv (fun i j=>V.bl (881. i j)) aL b H Q\/0e4 Pd b H Q) u v H Q:=by
 cases x with
 |num i=>
  cases y with
  |num j=>exact 97. (e22 i j e f<|q)
  |str t=>cases d <;> trivial
 |str s=>
  cases y with
  |num j=>cases d <;> trivial
  |str t=>
   have⟨k,l,g1⟩:=e;have⟨m,n,g2⟩:=f;refine .inr (e44 k m 14.0 81.6 l n (iD.of ?_) (iD.of ?_)<|q)
   ·rw[g1,bQ];rfl
   rw[g2,bQ];rfl
def wY(aL:Ad):Sp:=fun vs H Q E=>∃c d xs b k h lf N,428. c d/\271. c/\80. fU k xs b/\436./\046=7. (h,lf)/\
 (∀v∈b,Bj k v)/\H d=339./\(dR b=true->Q .gm H)/\(dR b=false->5e2 H)
theorem rX(T:19.):01 1 aL.fbz aL.dbz 54.9 (wY aL):=by
 refine 4. T.Fbz Sbz
 intros _ _ _ _ H _ _ _ I y1_;let⟨r,J,xs,b,k,hd,lf,N,rfl,p,L,hz,u,z,a8,k1,k2⟩:=y1_;have nd:=Sbz.nd;have M:=sJ I;have B:=I.M0;have O:=L.length;refine(1.2 (aO<|114. (ua 90. T.bcq<|gG bZ<|751. 0) 2
  <|aO<|696. (cA (ko.or<|Nz B) (54.1 (295. 010) 79.) (54.1 (295. (eQ jC 010 bZ)) 79.)<|cD _))<| ?_)
 dsimp only[dO];let 69. rr C:=vk u;have f:∀(i:Nat) v,b[i]? =7. v->∃d kvs l D xr lit,xs[i]? =72. d/\072 d .dT/\994. (gC hd.name)=72. l/\H l=15. (D::xr)/\kF H D lit/\075 lf lit/\keyLit v=7. lit:=fun i v e=>by have 25.7 q:=L.get i v e;have⟨lit,tl,rfl,hf,a9⟩:=Ln C<|z v<|bB e;grind[fX,cC]
 refine(5.<|3.3 r p<|51.3 21.<|m8 (n:=(36.6 - 1).toNat) (fun i G H'=>H'=H/\(∃st,G=[82. r,82. J,st])/\∀j,j<i->∀x y,b[j]? =7. x->b[j + 1]? =7. y->122. (keyLit x) y=true) ⟨rfl,981.,fun j R=>88. R<|kJ _⟩ ?_ ?_)
 ·intros i G H' hi y1_;have⟨rfl,z2_,c⟩:=y1_;let 2.5 st:=z2_;(try clear z2_);let 28. v0 S:=(7e6:∃v,b[i]? =7. v);let 28. v1 U:=(7e6:∃v,b[18.6]? =7. v);let⟨d0,V,l0,D,aa,g,a1,a2,a3,a4,a5,Y,a7⟩:=f i v0 S;let⟨d1,Z,l1,x1,ab,m,b1,b2,b3,b4,b5,b6,b7⟩:=f 8.6 v1 U;have o:H' J=96. (2e6 gC hd.name kV):=by grind[pY]
  refine(5.<|5.<|45. r p (at_of (j:=18.6) 2.8 b1)<|5.<|25. d1 (by rw[<-b3];exact o5.t b2 o)<|45. l1 b4 (282.)<| ?_);refine(5.<|5.<|3e1<|45. r p (54.4 2.8 a1)<|5.<|25. d0 (by rw[<-a3];exact o5.t a2 o)<|45. l0 a4 (282.)<| ?_);refine Lp b5 a5 b6 Y<|48.;rw[EA b6 Y];have ae:122. (keyLit v0) v1=76.4 g m:=by rw[a7,b7];rfl
  cases hl:76.4 g m with
  |false=>
   refine dv<|76.6;cases hR:dR b with
   |false=>rfl
   |true=>have:=(uC b).mp hR i v0 v1 S U;grind
  |true=>refine dw ⟨rfl,981.,fun j R x y q1 q2=>?_⟩;grind
 rintro G H' y1_;have⟨rfl,z2_,c⟩:=y1_;obtain⟨st,rfl⟩:=z2_;refine k1<|(uC b).mpr fun j x y q1 q2=>c j ?_ x y q1 q2;grind
theorem Kp.fg{H H':Hp}{r:Addr}{c:Sg}{p:Nat}(d:3e0)(R:092 c):10.1:=fun b xs e=>by have⟨g,l,f⟩:=R.at;exact d.to b _ e<|i6 e f<|389.
theorem fc.put{H:Hp}{x:Addr}{o:HO}{ys:05 V}(h:H x=15. ys):fc H (8.7 x o):=71.9 xs h
theorem fc.trans{H c d:Hp}(x:fc H c)(y:fc c d):fc H d:=fun b xs e=>y b xs<|x b xs e
theorem fc.same{H c:Hp}(s:bC H c):fc H c:=fun b xs e=>70.0 s
def FH(bF:aA)(aL:Ad)(m:Nat):Sp:=fun vs H Q E=>∃(r:Addr) (c:Sg) (p:Nat) (d:V) (k:hQ) (N:Sq),vs=[02 r,d]/\092 c/\54.3 4000/\92.9 d k/\(638.)/\WK m k/\
 (∀val q v H',gF k 81.5=405. val c->p<q->3e0->524. c->41.0 k)/\(gF k 81.5=none->038)
def MG(bF:aA)(aL:Ad)(m:Nat):Sp:=fun vs H Q E=>∃(r f:Addr) (d:Sg) (p:Nat) (h:Head) (k:hQ) (N:Sq),428. r f/\092 d/\d.length<=4000/\80. sZ 780. h k/\(638.)/\1<=m/\WK (m - 1) k/\(7e8->4e2 21.9)/\
 (∀c q l xs H',9.1 d=405. c d-> ¬ (552. c)->c≠[]->p<q->3e0->524. d->54. l->15.4 l xs->fU aL (47.9 l) H' k xs c->796. l)/\
 (25.1->038)
structure FI(bF:aA)(aL:Ad)(r f:Addr)(ns:Sg)(p:Nat)(h:Head)(k:hQ)(fl:Addr)(H0:Hp)(q:Nat)(vals:27.6)(xs:05 V)(H:Hp):Prop where
 rd:43. H ns q
 kp:Kp r H0 H
 new:095 H0 fl
 lst:271. fl
 Pw:fU aL (85.0 H0 fl) H k xs vals
 eq:9.1 ns=ri (gF k) 81.7 vals (tx ns q)
 lt:p<q
 le:vals.length<=q
 ne:vals≠[]
 ok:∀v∈vals,Bj k v
def Px(bF:aA)(aL:Ad)(r f:Addr)(c:Sg)(p:Nat)(h:Head)(k:hQ)(d:Addr)(e:Hp)(m:Nat)(g:L2.St)(H:Hp):Prop:=∃(q:Nat) (b:27.6) (xs:05 V),g=[72. r,72. f,72. d]/\0e4 FI r f c p h k d e q b xs H/\m=c.length - q
theorem B5(T:19.){n t:Hp}{Q:VK}{E:XK}{r f u:Addr}{d:Sg}{p q m:Nat}{h:Head}{k:hQ}{N:Sq}{c:27.6}{xs:05 V}{D:Ends}(hD:D.rt=Q)(R:43. n d p)(hz:d.length<=4000)(hF:sZ aL N n 780. h k)(J:638.)(hk:7e8->4e2 21.9)
 (k1:∀c q l xs H',9.1 d=405. c d-> ¬ (552. c)->c≠[]->p<q->Kp r n H'->524. d->095 n l->15.4 l xs->fU aL (85.0 n l) H' k xs c->796. l)
 (k2:25.1->Ex aL r n E)
 (O:0e4 FI r f d p h k u n q c xs t) (i:9.1 d=405. c d):
 OM (OO (Fl (Mu Rq (vw bF (ji 1) "mode") (tC (59. 37)))) (Ms (yV (wY aL) [] E (lC (ji 2) (lC (vw bF (Mu (M7 bF) (vw bF (vw bF (ji 1) "kind") "fields") (tC (59. 0))) "name") qG)))) Mr) (ON (ji 2)) D [72. r,72. f,72. u] t:=by
 have L:sZ aL N t 780. h k:=by have⟨f',G,nt,kv,e,M,I,S,e2,U⟩:=hF.ex;exact⟨f',e35 G nt kv e M (620. I<|J _ M) S (620. e2<|J _ S)<|cI.of (fun b o nb e=>⟨nb,620. e<|J _ nb⟩) _ _ U⟩
 have⟨f',G,nt,kv,e,M,I,S,e2,U⟩:=L.ex;cases e;refine(5.<|403. G I);rw[dI];have v: ¬ (552. c)->D.rt (02 u) t:=fun hn=>by rw[hD];exact k1 c q u xs t i hn O.ne O.lt O.kp O.rd O.new O.lst O.Pw
 by_cases x:7e8
 ·refine m7 (iP.mpr x) ?_;obtain⟨⟨h1,lf⟩,y⟩:=iC.mp<|hk x;have 69. rr a6:=vk y;have A:=U;rw[cI]at A;have⟨g,Y,gl,a7,rfl,_,hg,_,Z,B⟩:=A;rw[FieldsAt]at B;have⟨x1,a8,f1,a0,a3,a9,rfl,rfl,_,a4,_,C,_,_⟩:=B;have a5:54.3 4000:=by
   have:=O.le;have:=O.rd.le
   lia
  refine(5.<|5.<|030 G I<|678. Y hg<|45. gl Z (282.)<|06 f1 a0 a4 T.Cae T.nb9 qx<| ?_);refine(e88 u a3 xs c _ h1 lf _ rfl O.lst O.Pw 2.8 y O.ok C (fun hR=>(5.<|v fun z=>by rw[hR]at z;cases z.2))<|4e7 hR);exact(k2<|8.4 (e22 c _ i x<|hR)) t O.kp
 exact qj (287. x iP.mp)<|5.<|v fun z=>x z.1
theorem Lq(b:Mode):M9 (59. (gA b)) [59. 42,59. 37]=gR b:=by cases b <;> rfl
theorem i0(T:19.){kk m:Nat}{a3:Sp}(GV:613. kk a3)(ak:3<=kk)
 (hV:955. a3):45.7 (kk + 1):=by
 revert GV ak hV;revert kk m a3;intros kk m a3 GV ak hV
 refine 4. T.Fa8 Sa8
 intros _ _ _ _ H _ _ _ hr y1_;let⟨r,f,g,p,hd,k,N,rfl,R,hz,hF,S,a4,U,J,k1,k2⟩:=y1_;have nd:=Sa8.nd;have a5:Nr k:=WK.wf k _ U;have a6:∀t v r,gF k t=9.6 v->3e9:=692. mB;refine(1.2 (aK (47.8 2<|cT<|269. 1)
  <|aK (cR (cA uf (13. 1) (ud<|gG (fW T.gcX)<|fW T.gcy)<|485.)
   (aO<|lA bV (115. hr T.gdn)
    <|aO<|dg<|195. 010<|269. 1) bS)
  <|aK (349. T.gcy (aO<|dg<|pQ (rX T) hr T.gbz T.Fbz.kp T.Bbz<|gG 010<|bA (fo dH (bA (13. 1) rfl) bZ 50.) rfl) bS)
  <|057 2)<| ?_)
 dsimp only[dO];let⟨f',dx,nt,kv,ef,n1,e1,n2,e2,q1⟩:=id hF.ex;cases ef;refine(5.<|5.<|030 dx e1<|hV a4 _ _ _ _<|e67 r g p kv k N rfl R hz q1 S U (?_)<|fun hm=>k2<|97. (occ_none hm));intros val q v V hm aa a7 R1 hv
 refine 31.8 nv;intros l Y
 have c:54. l:=a7.none R1 Y;have Z:bC V (361. V [v]):=5.1 Y;have C:927. FI q [val] [v] (361. V [v]):=
  ⟨R1.mono Z,a7.put c,c,aJ,fU.one<|fX.of (fun b o x e=>756. ⟨x,aV e Y⟩ Z) (399. Z) _ _ _ hv,FF a6 (666.) hm,aa,174.,44.,fun u hu=>by rw[cG.mp hu];exact FG a5 hm⟩
 have ab:379. V [v] f=7. (397. dx<|FC hd.number nt (gA hd.mode) kv):=C.kp.to _ _ e1<|S _ n1;refine(5.<|7.9 f dx ab T.Cae T.ncp sY HR<| ?_);intros t ht;refine(461.<|48.);have y:bC (361. V [v]) 27.9:=5.1 ht;have O2:927. FI q [val] [v] 27.9:=
  ⟨C.rd.mono y,C.kp.trans<|Kp.of y,c,y _ _ C.lst,fU.of (fun b o x e=>756. x y) (399. y) C.Pw,C.eq,C.lt,C.le,C.ne,C.ok⟩
 rw[487.,Lq];cases j:gR hd.mode with
 |false=>refine dw ?_;exact 73.3 O2<|by rw[O2.eq];exact zi fun z=>by rw[j]at z;cases z.1
 |true=>
  refine dv<|e11 (927. Px) (e42 _ q [val] [v] rfl O2<|rfl)<| ?_
  intros mm σ H3 y1_;let⟨D,a8,xs,rfl,n,rfl⟩:=y1_;have L:l≠r:=R.yr c;refine 482. n.rd<|e43 r g D 44 rfl n.rd (fun H4 e4 G R4=>(20.4))<|fun e4=>(918.)
  ·have eh:7.6 g D =7. 44:=216. e4;have ed:73.9 g D=tx g (D + 1):=hX g D 1;have d:=n.kp.trans G;have M:=G.to _ _ n.lst L;have ae:984. g D<=4000:=666.
   refine⟨fun af H'=>∃m',m'<g.length - D/\927. Px m' af H',19.1,?_⟩;have q4:cI aL N H4 kv k:=744. (fun b o x e=>⟨x,70.0 d.to<|S _ x⟩) q1;refine(51. M<|5.<|5.<|030 dx (d.to _ _ e1<|S _ n1)<|hV a4 _ _ _ _<|e67 r g (D + 1) kv k N rfl R4 hz q4 S U (fun a9 q5 v5 H5 a0 aq I R5 ag=>?_)<|fun a0=>(k2<|97. ?_).on d)
   ·have O:=d.trans I;have B:=I.to _ _ M L;have ar:=R5.le;have ah:=n.le;have ai:=n.Pw.length;have aj:=n.lt;refine(127. l B (by rw[ai];show _<059;lia)<|e11 (g.length - q5) (70.)<|e32 q5 (a8++[a9]) (xs++[v5]) rfl ⟨R.put O R5 c,O.put c,c,aJ,?_,?_,21.,174.,44.,?_⟩<|rfl)
    ·refine fU.snoc (91.4 x (fc.put B) ag) (fU.of (fun b o x e=>⟨x,by rw[aS x.2];exact I.to _ _ (70.0 G.to<|R.yr x.1)<|R.yr x.1⟩) (((G.fg n.rd).trans<|I.fg R4).trans<|fc.put B) n.Pw);have nf:b≠l:=33.9
     exact 805. ⟨d.none R4 x,nf⟩ nf
    ·rw[n.eq,j,Ez a6 ae eh (by rw[ed];exact a0)]
    intro u hu;rcases bT.mp hu with hu|hu
    ·exact n.ok u hu
    rw[cG.mp hu];exact FG a5 a0
   rw[n.eq,j,G0 eh (70.)]
  have eh: ¬ 7.6 g D =7. 44:=997. e4 (cQ<|08).mp;exact 73.3 n<|by rw[n.eq];exact zi fun z=>eh z.2
#check SR
namespace SR
open PySem PySem.Spec PyProof.Rows L2
open Vacola (Leaf Lit Mode Head Fields fits goodName nameSign)
open Vacolb (Val keyLit keyRises litLess textLess)
def B6(bF:aA)(aL:Ad)(c:Bool)(m:Nat):Sp:=fun vs H Q E=>∃r d p e fs N,vs=[02 r,e]/\092 d/\d.length<=4000/\92.9 e (99.8)/\(638.)/\WK m (99.8)/\
 (∀val q v H',gF (99.8) (tx d p)=405. val d->p<q->3e0->524. d->41.0 (99.8))/\(gF (99.8) (tx d p)=none->038)
theorem FJ(q:WF d c (4.7 (833.::l))):50.1 (7e8->4e2 21.9) 181.:=by
 have q:WF d c (91.<|4.7 l):=q
 cutsat
theorem B7(h:763. n):(∀c∈n,0<c)/\n.length<=12:=by
 refine⟨fun c b=>Aw<|(lb h).2.1 c b,?_⟩;cases n with
 |nil=>simp
 |cons c r=>have h:4e2 (Vacola.isLow c&&961. (c::r).all&&881. (c::r).length 12):=h;grind
theorem qz(h:∀c∈n,0<c):∀c∈label any n,0<c:=fun c b=>by
 unfold label at b;rcases bT.mp b with b|b
 ·cases any <;> simp at b;simp[*]
 rcases bT.mp b with b|b
 ·exact h c b
 rw[cG.mp b];decide
theorem FK(l:aG):080 (l.map 6.3).map=l.map vN:=by rw[bQ];rfl
def Jn:TE:=fun b H Q=>∃d kvs,b[2]? =001 (.ref d)/\072 d .dT/\264. (1e6 ((if 61. (56.9)=true then [59]else([]:aG)).map vN))
structure RecAt(bF:aA)(aL:Ad)(r d:Addr)(ns:Sg)(p:Nat)(fs:Fields)(m:Nat)(N:Sq)(xs:05 V)(i:Nat)(H0:Hp)(q:Nat)(pre rest:624.)(ss:551.)(kvs:645.)(H:Hp):Prop where
 rd:43. H ns q
 kp:Kp r H0 H
 new:095 H0 d
 Qb:072 d .dT
 Py:621. N H0 (xs.drop i) (417.)
 wf:WF (m - 1) false (417.)
 all:fs=4.7 (pre++rest)
 slots:cC aL (85.0 H0 d) H (4.7 pre) kvs ss
 none:∀n,(∀x∈pre,761. ≠n)->994. (gC n)=none
 len:kvs.length<=q
 eq:935. fj (29.2 ns)=(fj (417.) (61. (56.9)) (tx ns q)).map fun x=>(ss++x.1,x.2)
 lt:p<q
def QR(bF:aA)(aL:Ad)(r d:Addr)(e:V)(f:Sg)(p:Nat)(fs:Fields)(m:Nat)(N:Sq)(xs:05 V)(g:Hp)(i:Nat)(h:L2.St)(H:Hp):Prop:=
 ∃b c q pre rest j kvs,h=[72. r,7. e,72. d,b,c]/\0e4 RecAt r d f p fs m N xs i g q pre rest j kvs H
theorem lR(T:19.){kk m:Nat}(GO:45.7 kk)(cm:4<=kk):
 679. (kk + 1) m:=by
 revert GO cm;revert kk m;intros kk m GO cm
 refine 4. T.FaE SaE
 intros _ _ _ _ H _ Q _ hr y1_;let 89.4 I Y:=y1_;have nd:=SaE.nd;have hu:=sJ hr;refine(1.2 (4e4 hr T.gcI
  <|aK (47.8 2 ID)
  <|aK (114. (fq<|13. 1) 3
   <|aK (47.8 4<|PE.weak (t':=Jn) (kn (229. (64.7 GZ<|000 2) bZ) (cT<|dZ<|fW T.gcW)<|cT hU) ?weak)
   <|aO<|cR (dJ<|99.9<|dZ<|eQ rF (pv 4)<|81.3 3)
    (aO<|z6 hu 010 (13. 3) (pQ GO hr T.ga8 T.Fa8.kp T.Ba8<|740. 3) rfl)
    <|aO<|2.6 (13. 3) T.gcn (2.9) bS)
  <|4e4 hr T.gcU
  <|057 2)<| ?_)
 case weak=>
  intros σ H Q y1_;let⟨d,kvs,e2,hd,q⟩:=y1_;refine(1.2 e2<|26.3 d kvs hd<|18.);by_cases hk:56.9
  ·rw[aY<|show 36.8 0 kvs.length by cutsat];rw[aY hk]at q;exact dv ⟨nv,q⟩
  rw[aX<|show ¬ 36.8 0 kvs.length by simp[*]];rw[aX hk]at q;exact dw ⟨bH _,q⟩
 have aw:=hK;rw[cI]at aw;let⟨g,ax,fl,xs,rfl,bh,hg,ab,ay,hF⟩:=aw;rw[WK]at hW;have⟨bj,aj,_,bk⟩:=hW;refine 482. R<|64.8 I 123<|4e7 e1
 case refine_2=>refine(76.6).here;rw[gF,aM (4e6 e1)]
 intros H1 e1 a4 R1;have eh:73.4 I 123:=216. e1;have eV:gF 0e6 (tx I p)=(935. fj<|658. I).map (9e7 Val.group):=by rw[gF,aP eh,hX]
 intros d az
 have J:54. d:=a4.none R1 az;have ak:bC H1 (upd H1 d<|.dT []):=5.1 az;have a5:d≠r:=R.yr J;have a6:fs=4.7 fs.list:=(pI fs).symm;have ao:jl fs.list:=((wO _).mp aj).2;have bo:upd H1 d (.dT []) g=7. (.ins aL.cah ax<|OB false fl):=ak _ _<|a4.to _ _ hg<|Y _ bh;have b0:upd H1 d (.dT []) fl=15. xs:=ak _ _<|a4.to _ _ ay<|Y _ ab;refine(5.<|678. ax bo<|6e7 fl b0<|gP (xs:=xs) (0e4 QR r d (02 g) I p fs m N xs H) (e71 none none (8e5) [] fs.list [] [] rfl<|⟨R1.mono ak,a4.put J,J,aJ,?_,?_,a6,?_,50.,bH _,?_,44. ⟩) ?_ ?_ ?_)
 ·rw[<-a6];exact hF
 ·rw[<-a6];exact bk
 ·show cC aL _ _ .nil _ _
  rw[cC]
 ·rw[<-a6,show 61. (0<([]:645.).length)=false from rfl];cases 935. fj (658. I) <;> rfl
 ·intros i σ H' hi y1_;let⟨_,_,_,_,_,_,_,rfl,O⟩:=y1_;exact cX.of<|620. ay<|Y _ ab
 ·intros i x σ H' hx y1_;let 70.5:=y1_;have hi:237.:=048 hx;have ex:17.9:=43.9
  have u:=O.Py;rw[ex]at u;cases rest with
  |nil=>have u:9.5 _ .nil:=u;rw[FieldsAt]at u;cases u
  |cons hk rest=>
   let 33. h k:=pairE hk;have u:23.8:=u;rw[FieldsAt]at u;let⟨x',xr,f,a7,nt,kv,br,bt,nf,hf,a8,aq,bu,b1⟩:=u;injection br with e3 e4;subst e3 e4 bt;have⟨gn,gk,_,gW,b2⟩:=FJ O.wf;have 28. ae cg:=B7 gn;have bw:=620. hf<|Y _ nf;have b3:=620. aq<|Y _ a8;refine(26.3 d kvs O.Qb<|63. bl bx);obtain⟨any,Z⟩:∃any,any=61. (56.9):=981.;rw[<-Z];have a9:bC H' (upd H' bl<|1e6 25.4):=5.1 bx;have Rb:=O.rd.mono a9;refine 482. Rb<|5.<|5.<|e74 f a7 nt _ _ kv h.name rfl (a9 _ _ bw) (a9 _ _ b3) 2.8<|fun ll H2 b4 cp b5=>?_;have b6:H2 bl=73.8 52.2:=b4 _ _ aJ;refine(8.8 bl ll b6 b5 (by rw[aI,aI];show _<=059;cases any <;> simp <;> lia)<|63. lp bz);have b7:bC H2 (upd H2 lp<|1e6 (25.4++((h.name++[58]).map vN))):=5.1 bz;have G:=a9.trans<|b4.trans b7;have ar:(52.2 vN)++((h.name++[58]).map vN)=080 ((9.9 any).map 6.3).map:=by rw[FK,<-bG];rfl
   rw[ar]at b7 G ⊢;have R3:=O.rd.mono G;have b8:=O.kp.trans<|55.4 G;have bg:254.<=20:=by unfold label;cases any <;> simp <;> lia
   have c0:984. I q<=4000:=666.
   have B:=O.eq;rw[<-Z]at B;have c1:=B4 (h:=h) (k:=k) (rest:=417.) (any:=any) c0;have C:fj (ofList<|833.::rest) any (tx I q)=_:=c1;refine(e55 r I q lp ((9.9 any).map 6.3) rfl R3 aJ 648. (64.6 L y)<|64.6 L y)
   ·
    rw[qy<|qz ae]at L;rw[aP L,hX]at C;rw[aI]at R4;have j:=b8.trans y;refine(20.4);have b9:sZ aL N H4 780. h k:=⟨f,e35 a7 nt kv rfl nf (783. j.to Y) a8 (j.to _ _ aq<|Y _ a8)<|744. (fun b o D e=>⟨D,70.0 j.to<|Y _ D⟩) bu⟩;have a0:=46.9 O.Qb a5;refine(5.<|5.<|e79 r f I (q + 254.) h k N rfl R4 hz b9 Y bj gW gk (fun af q5 l c2 H5 c3 c4 cj ck aa R5 au c5 ba=>?_)<|fun M=>681. j)
    ·have U:=j.trans aa;have c6:54. l:=j.none R4 au;have ag:=aa.to _ _ a0 a5;have bb:l≠d:=fun z=>by rw[z,a0]at au;cases au
     refine(5.<|5.<|24.8 a7 (783. U.to Y)<|25. d (zZ.t ag (by rw[pY];exact U.to _ _ aq<|Y _ a8) (by have:=O.len;have:=O.rd.le;show _<059;lia))<| ?_);have a3:∀n,ic (280.<|02 l) (gC n)=if n=h.name then 72. l else 994. (gC n):=fun n=>by
      rw[Bz];by_cases e:n=h.name
      ·rw[aP e,aP (946.)]
      rw[aM e,aM (287. e zj)]
     have ah:∀x∈pre,761. ≠h.name:=fun x S e=>by
      have bc:fs.list=pre++833.::rest:=by rw[O.all];exact kA _
      have:jl (pre++833.::rest):=by rw[<-bc];exact ao
      unfold jl at this;rw[bG,iq]at this;exact this.2.2 761. (9e0 x S) h.name 060 e
     have c7:(280.<|035 l).length=kvs.length + 1:=by rw[BA _<|O.none _ ah];simp
     have av:61. (0<(280.<|035 l).length)=true:=aY<|17.
     have N5:∀b o,(851./\b≠d)->60. H5->(851./\b≠d)/\upd H5 d (.dT (280.<|02 l)) b=7. o:=fun b o D e=>805. D D.2;have T5:fc H5 (upd H5 d<|.dT (280.<|02 l)):=71.9 ys ag
     have hO:=O.len;refine(e71 _ _ q5 (pre++[833.]) rest (ss++[af]) (280.<|02 l) rfl<|⟨R.put U R5 J,U.put J,J,aJ,b1,b2,92.1,?_,?_,?_,?_,by have:=O.lt;lia⟩)
     ·refine cC.snoc (fun v0 vr ev=>?_) pre ss (cC.kvs pre (fun x S=>by rw[a3,aM<|ah x S]) ss<|cC.of (847. D e) ?_ _ _ _ O.slots)
      ·subst ev;cases c2 with
       |nil=>exact ba.elim
       |cons x0 c8=>
        refine(e33 l x0 c8 (by rw[a3,324.]) ⟨c6,bb⟩ (by rw[aS bb];exact c5)<| ?_);refine 91.4 D T5 ba.1;have bf:b≠d:=fun z=>by rw[z,a0]at D;cases D.1
        exact 805. ⟨j.none R4 D.1,bf⟩ bf
      ·exact⟨D,by rw[aS D.2];exact aa.to _ _ (46.9 e<|R.yr D.1)<|R.yr D.1⟩
      exact(((399. G).trans<|y.fg R3).trans<|aa.fg R4).trans T5
     ·intro n hn;rw[a3,aM (fun z=>hn 833. 960. z.symm)];exact O.none n fun x S=>hn x<|by simp[S]
     ·rw[c7];lia
     rw[av,B,C,c3];simp only;rw[aM c4];cases fj (417.) true (tx I q5) <;> simp
    rw[eV,B,C];rcases M with M|⟨af,s',M,c9,cb⟩
    ·rw[M];rfl
    rw[M];simp only;rw[aP ⟨c9,cb⟩];rfl
   ·
    rw[qy<|qz ae]at L;rw[aM L]at C;have j:=b8.trans y;have cc:cC aL (47.9 d) H4 (4.7 pre) kvs ss:=cC.of (fun b o D e=>⟨D,46.9 e<|R.yr D.1⟩) ((399. G).trans<|y.fg R3) _ _ _ O.slots;refine(5.<|dw<|5.<|403. a7 (783. j.to Y));rw[dI];by_cases hm:134.
    ·refine m7 (gB.mpr hm) ((76.6) H4 j);rw[eV,B,C,aP hm];rfl
    refine qj (287. hm gB.mp) (e71 _ _ q (pre++[833.]) rest (ss++[[]]) kvs rfl<|⟨R4,j,J,46.9 O.Qb a5,b1,b2,92.1,cC.snoc (fun v0 vr ev=>by cases ev) pre ss cc,fun n hn=>O.none n fun x S=>hn x (by simp[S]),O.len,?_,O.lt⟩);rw[<-Z,B,C,aM hm];cases fj (417.) any (tx I q) <;> simp
 rintro σ H' y1_;have 70.5:=y1_;have u:=O.Py;rw[jV]at u;cases rest with
 |cons hk rest=>obtain⟨h,k⟩:=hk;have u:23.8:=u;rw[FieldsAt]at u;have⟨_,_,_,_,_,_,e,_⟩:=u;cases e
 |nil=>
  have B:=O.eq;have e0:fj (4.7 []) (decide<|56.9) (tx I q)=if 7.6 I q =7. 125 then 7. ([],73.9 I q)else none:=by
   show fj .nil _ _=_
   rw[fj]
  rw[e0]at B;have ai:=O.all;rw[dn]at ai;refine 482. O.rd<|e43 r I q 125 rfl O.rd (fun H4 e4 y R4=>(48.))<|4e7 e4
  ·have cf:7.6 I q =7. 125:=216. e4;rw[aP cf,hX]at B;have j:=O.kp.trans y;refine k1 (21.2 ss) 68.7 (02 d) H4 ?_ (by have:=O.lt;cutsat) j R4 ?_
   ·rw[eV,B];simp
   rw[fX];refine(e34 d kvs ss rfl rfl J (y.to _ _ O.Qb a5)<| ?_);rw[ai];exact cC.of (fun b o D e=>⟨D.1,70.0 y.to<|R.yr D.1⟩) (y.fg O.rd) _ _ _ O.slots
  refine(681. O.kp).here;rw[aM (4e6 e4)]at B;rw[eV,B];rfl
theorem pZ:∀l,007 181. (l.map 764.)
 | []=>by show 007 .nil [];rw[cC]
 |833.::l=>by
  show 007 (91.<|4.7 l) ([]::l.map 764.)
  rw[cC];exact(25. [] (fun v0 b e=>by cases e)<|pZ l)
theorem cC.append{H:Hp}{kvs:645.}{f:624.}{e:551.}(q:007 (4.7 f) e):∀(l:624.) (c:551.),007 181. c->007 (4.7 (l++f)) (c++e)
 | [],c,b=>by
  have b:007 .nil c:=b
  cutsat
 |(h',h)::l,c,b=>by
  have b:23.9 h' h kvs c:=b;rw[cC]at b;have⟨d,g,rfl,i,j⟩:=b
  show 80. cC (9e6 h' h<|ofList<|l++f) kvs ((d::g)++e)
  rw[cC];exact(26.3 d (g++e) i<|cC.append q l g j)
structure Pz(bF:aA)(aL:Ad)(r:Addr)(ns:Sg)(p:Nat)(fs:Fields)(m:Nat)(N:Sq)(xs:05 V)(i:Nat)(H0:Hp)(pre rest:624.)(H:Hp):Prop where
 rd:43. H ns (8e5)
 kp:Kp r H0 H
 Py:621. N H0 (xs.drop i) (417.)
 wf:WF (m - 1) true (417.)
 all:fs=4.7 (pre++rest)
 eq:fR fs (29.2 ns)=(fR (417.) (29.2 ns)).map fun x=>((pre.map 764.)++x.1,x.2)
def QS(bF:aA)(aL:Ad)(r:Addr)(d:V)(e:Sg)(p:Nat)(fs:Fields)(m:Nat)(N:Sq)(xs:05 V)(f:Hp)(i:Nat)(g:L2.St)(H:Hp):Prop:=
 ∃b c pre rest,g=[72. r,7. d,b,c]/\0e4 Pz r e p fs m N xs i f pre rest H
theorem p4(T:19.){kk m:Nat}{a8:Sp}(GV:613. kk a8)(bj:4<=kk)
 (hV:955. a8):21.1 (kk + 1):=by
 revert GV bj hV;revert kk m a8;intros kk m a8 GV bj hV
 refine 4. T.Fa6 Sa6
 intros _ _ _ _ H _ _ _ hr y1_;let 89.4 n D:=y1_;have nd:=Sa6.nd;have hu:=sJ hr;refine(1.2 (4e4 hr T.gcJ
  <|aK (114. (fq<|13. 1) 2
   <|aO<|cR (dJ<|99.9<|dZ<|81.3 2)
    (aK (47.8 3<|Jl hu (13. 2)<|cT<|269. 2)
    <|4e4 hr T.gcV
    <|057 3) bS)
  <|2.9)<| ?_)
 dsimp only[dO];have a9:=hK;rw[cI]at a9;let⟨g,au,fl,xs,rfl,av,hg,Y,aa,hF⟩:=a9;rw[WK]at hW;have⟨aw,ax,_,ay⟩:=hW;refine 482. R<|e43 r n p 60 rfl R (fun H1 e1 a3 R1=>?_)<|4e7 e1
 case refine_2=>refine(76.6).here;rw[gF,aM (4e6 e1)]
 have eh:73.4 n 60:=216. e1;have eV:gF (76. true) (tx n p)=(fR fs<|658. n).map (9e7 Val.group):=by rw[gF,aP eh,hX]
 have I:fs=4.7 fs.list:=(pI fs).symm;have az:=a3.to _ _ hg<|D _ av;have ab:=a3.to _ _ aa<|D _ Y;refine(5.<|678. au az<|6e7 fl ab<|gP (xs:=xs) (0e4 QS r (02 g) n p fs m N xs H) (e41 none none [] fs.list rfl<|⟨R1,a3,?_,?_,I,?_⟩) ?_ ?_ ?_)
 ·rw[<-I];exact hF
 ·rw[<-I];exact ay
 ·rw[<-I];cases fR fs (658. n) <;> rfl
 ·rintro i σ H' hi y1_;have⟨_,_,_,_,rfl,O⟩:=y1_;exact cX.of<|620. aa<|D _ Y
 ·intros i x σ H' hx y1_;let⟨b0,b1,pre,rest,rfl,O⟩:=y1_;have hi:237.:=048 hx;have ex:17.9:=43.9
  have j:=O.Py;rw[ex]at j;cases rest with
  |nil=>have j:9.5 _ .nil:=j;rw[FieldsAt]at j;cases j
  |cons hk rest=>
   obtain⟨h,k⟩:=hk;have j:23.8:=j;rw[FieldsAt]at j;have⟨x',xr,f,a4,nt,kv,b2,b3,nf,hf,a5,a6,b4,b5⟩:=j;injection b2 with e3 e4;subst e3 e4 b3;have⟨gn,gk,_,gW,b6⟩:=FJ O.wf;have 28. Z bg:=B7 gn;have b7:=620. hf<|D _ nf;have ae:=620. a6<|D _ a5;refine 482. O.rd<|5.<|e74 f a4 nt _ _ kv h.name rfl b7 ae 2.8<|fun ll H2 af bl ag=>?_;have R2:=O.rd.mono af;have ah:=O.kp.trans<|55.4 af;have J:=O.eq;have B:fR (ofList<|833.::rest) (658. n)=if 186. false (658. n) then
    (match gF k ((658. n).drop 14.6)with
    |none=>none
    |7. (v,u)=>641. (417.).list.map)
    else(fR (417.)<|658. n).map (480. []):=by
    show fR (91.<|417.) _=_
    rw[fR]<;>rfl
   refine(e55 r n (8e5) ll ((9.9 false).map 6.3) rfl R2 (by rw[FK];exact ag) (by rw[aI];unfold label;simp;lia) (64.6 q a7)<|64.6 q a7)
   ·rw[qy<|qz Z]at q;rw[aP q,hX]at B;rw[aI]at R4;have a0:=ah.trans a7;refine(5.<|dv (63. d ai));have aj:bC H4 (upd H4 d<|.dT []):=5.1 ai;have R5:=R4.mono aj;have C:=a0.trans<|55.4 aj;have L:54. d:=a0.none R4 ai;have ak:d≠r:=R.yr L;refine(5.<|24.8 a4 (783. C.to D)<|5.<|5.<|030 a4 (783. C.to D)<|hV aw _ _ _ _<|e67 r n (8e5 + 14.6) kv k N rfl R5 hz (744. (fun b o nb e=>⟨nb,70.0 C.to<|D _ nb⟩) b4) D gW (fun val q6 v6 H6 M bh ao R6 b8=>?_)<|fun M=>681. C)
    ·have t:=C.trans ao;have S:H6 d=7. (.dT []):=ao.to _ _ aJ ak;refine⟨nv,fun l y=>(240. nt (98.1) ?_ ?_<| ?_)⟩
     ·rw[pY,5e9 (t.to _ _ a6<|D _ a5) y];exact t.to _ _ a6<|D _ a5
     ·rw[5e9 S y];exact S
     have b9:bC H6 (361. H6 [v6]):=5.1 y;have U:54. l:=t.none R6 y;have ba:d≠l:=aV S y;have R8:43. 13.8 n q6:=R.put (t.put U) (R6.mono b9) L;have aq:92.6 13.8:=(t.put U).put L;refine 482. R8<|e43 r n q6 62 rfl R8 (fun H9 e9 G R9=>(48.))<|4e7 e9
     ·have bb:7.6 n q6 =7. 62:=216. e9;refine k1 (21.2 ((pre.map 764.)++([val]::rest.map 764.))) (q6 + 1) (02 d) H9 ?_ 2.8 (aq.trans G) R9 ?_
      ·rw[eV,J,B,M];simp only;rw[aP bb,kA,hX];rfl
      rw[fX];refine(e34 d [(98.1,02 l)] _ rfl rfl L (G.to _ _ aJ ak)<| ?_);rw[O.all];refine cC.append ?_ pre _<|pZ pre
      show cC aL _ _ (91.<|417.) _ _
      rw[cC];refine(25. [val] (fun v0 vr ev=>?_)<|pZ rest);cases ev;have bc:l≠r:=R.yr U;refine(e33 l v6 [] ?_ U (G.to _ _ (48.4 ba) bc)<| ?_)
      ·show(List.find? _ [(98.1,035 l)]).map _=_
       simp
      refine 91.4 nb ?_ b8
      ·have bf:b≠d:=fun z=>by rw[z,aJ]at nb;cases nb
       have ar:851.:=C.none R5 nb;refine⟨ar,G.to _ _ ?_<|R.yr ar⟩;rw[aS bf,5e9 e y];exact e
      intro b ys e;refine(G.fg R8) b ys ?_;rw[aS<|i6 e S (389.),5e9 e y];exact e
     refine(681. aq).here;rw[eV,J,B,M];simp only;rw[aM (4e6 e9)];rfl
    rw[eV,J,B,M];rfl
   rw[qy<|qz Z]at q;rw[aM q]at B;refine(5.<|dw<|e41 _ _ (pre++[833.]) rest rfl<|⟨R4,ah.trans a7,b5,b6,92.1,?_⟩);rw[J,B];cases fR (417.) (658. n) <;> simp
 intros σ H' y1_;let⟨b0,b1,pre,rest,rfl,O⟩:=y1_;have j:=O.Py;rw[jV]at j;cases rest with
 |cons hk rest=>obtain⟨h,k⟩:=hk;have j:23.8:=j;rw[FieldsAt]at j;have⟨_,_,_,_,_,_,e,_⟩:=j;cases e
 |nil=>
  refine(76.6) H' O.kp;have e0:fR (4.7 []) (658. n)=none:=by
   show fR .nil _=_
   rw[fR]
  rw[eV,O.eq,e0];rfl
theorem oW(T:19.)(k):613. 832. (fun _ _ _ _=>False):=
 T.Fak.P8 Sak (fun _ _ _ _ h=>h.elim) 85.1
theorem B8(T:19.)(z:679. e m)(B:21.1 e)(C:6<=e):
 613. (e + 1) (0e4 FH m):=by
 revert z B C;revert e m;intros e m z B C
 refine 4. T.Fak Sak
 intros _ _ _ _ _ _ _ _ j y1_;let⟨r,l,p,J,k,N,rfl,R,hz,f,t,i,k1,k2⟩:=y1_;refine(1.2 (aK (cR (dJ<|149. 79.)
  (aO<|bJ<|788. j<|740. 1) bS)
  <|aK (cR (dJ<|13. 1) (aO<|bJ<|pQ B j T.ga6 T.Fa6.kp T.Ba6<|740. 1) bS)
  <|aO<|bJ<|pQ z j T.gaE T.FaE.kp T.BaE<|740. 1)<| ?_)
 dsimp only[dO];cases k with
 |leaf lf=>have b:=f;rw[cI]at b;have⟨x,d,rfl,_,u⟩:=b;rw[WK]at i;refine(5.<|584. d u<|20.4);refine(5.<|5.<|e56 r x l p lf rfl R 2.8 ⟨d,u⟩ i (fun lit q v H' n o G I L=>?_)<|fun n=>k2<|by rw[gF,n];rfl);refine k1 (.lit lit) q v H' (by rw[gF,n];rfl) o G I ?_;grind[fX]
 |group c fs=>
  have b:=f;rw[cI]at b;have⟨g,d,M,xs,rfl,_,y,_⟩:=b;refine(5.<|664. g d y T.Cah T.pO T.jJ<|918.);refine(5.<|06 g d y T.Cah T.ncC uy<|48.);cases c with
  |true=>exact dv<|852.
  |false=>exact dw<|852.
theorem mW(T:19.):∀m,613. (556.) (0e4 FH m)
 |0=>B8 T (lR T (58.7 i0 (oW T 6))<|08) (58.7 p4 (oW T 7))<|08
 |m + 1=>B8 T (lR T (i0 T (mW T m) (show 3<=556. by simp +arith [*]) 10.0)<|show 4<=556. + 1 by lia) ((p4 (m:=m + 1) T (mW T m) (show 4<=556. by simp +arith [*]) 10.0).mono<|show 556. + 1<=556. + 2 by cutsat)<|show 6<=556. + 2 by lia
def G2(bF:aA)(aL:Ad):Sp:=fun vs H Q E=>∃d c e fs N,vs=[02 d,e]/\435. d c.map/\92.9 e 0e6/\78.1/\
 (∀val v H',BI fs (tx c 0)=7. val->5.7->41.0 0e6)/\(BI fs (tx c 0)=none->988. 5.7)
theorem B9(T:19.):01 30 aL.fby aL.dby 92.5 (0e4 G2):=by
 have G:679. 27 6:=lR T (i0 T (mW T 5) (08) 10.0)<|08
 refine 4. T.Fby Sby
 intros _ _ _ _ H _ _ _ p y1_;let⟨y,c,J,fs,N,rfl,B,L,M,k1,k2⟩:=y1_;have C:=Sby.nd;refine(1.2 (543. (751. 0) (fW T.gdz)
  <|aK (gM 2 C<|5e8 p.mono<|000 0)
  <|aK (gM 3 C<|pQ G p T.gaE T.FaE.kp T.BaE<|gG 010<|pv 1)
  <|aK (201. 010 p)
  <|057 3)<| ?_)
 dsimp only[dO];refine(770. y B);rw[aI];have R:984. c 0=c.length:=by rw[fO];cutsat
 by_cases D:36.8 4000 c.length
 ·refine m7 D (76.6 H<|542.);unfold BI;rw[aP 2.8]
 rw[aX D];have hz:54.3 4000:=21.
 refine dw<|48.;intros r S j hd t;refine(e43 r S y c rfl aJ (vV j hd t B)<| ?_);intros U V _ Y;refine 078;have d:bC H U:=600. j V;have f:BI fs (tx c 0)=match gF 0e6 (tx c 0)with
  |9.6 v=>63.9 r v
  |none=>none:=by
  unfold BI;rw[54.7]<;>rfl
 refine(5.<|5.<|e67 r c 0 J fs (fun b=>N b/\b≠r) rfl Y hz (744. (fun b o k e=>⟨⟨k,aV e j⟩,d _ _ e⟩) L) (fun b k=>k.2) M (fun val q v l u Z g n hv=>?_)<|fun u l g=>?_)
 ·have m:bC H l:=bC.rd d g j;rw[u]at f;simp only at f;refine 482. n<|0e7 c q n (fun x=>(48.))<|4e7 x
  ·rw[aP<|(j4 n.le).mpr x]at f;exact k1 val v l f m<|fX.of (fun b o k e=>⟨d.free k,e⟩) (fun _ _ e=>e) _ _ _ hv
  rw[aM (287. x (j4 n.le).mp)]at f;exact k2 f l m
 refine 76.6 l (bC.rd d g j);rw[f,u]
theorem wZ:∀fs c h k v0 b,007 fs c->126. c=7. (833.,v0::b)->
 ∃l x f,994. (gC n)=72. l/\H l=15. (x::f)/\55.6 x v0
 | .nil,c,h,k,v0,b,q,e=>by have e:(([]:624.).zip c).find? 38.2=7. (833.,v0::b):=e;trivial
 | 9e6 h' g r,c,h,k,v0,b,q,e=>by
  rw[cC]at q;let⟨vs,d,rfl,m,i⟩:=q;have e:(((h',g),vs)::r.list.zip d).find? 38.2=7. (833.,v0::b):=e;rw[eX]at e;cases j:h'.name==n with
  |true=>grind
  |false=>simp only[j]at e;exact wZ r d h k v0 b i e
theorem gX.get{N:Sq}{H:Hp}:∀{ts:So} {ns:05 aG},gX N H ts ns->∀(i:Nat) t,ts[i]? =7. t->∃n,ns[i]? =7. n/\H t=49.7 n.map
 | [],[],_,i,t,e=>034
 |t::ts,n::ns,75.2 _,0,t',e=>by
  have:t=t':=064
  subst this;exact 69. n h2
 |t::ts,n::ns,75.2 _,18.6,t',e=>by
  have⟨n',e1,e2⟩:=gX.get h3 i t'<|064
  exact⟨n',077,e2⟩
 | [],_::_,h,_,_,_=>h.elim
 |_::_,[],h,_,_,_=>h.elim
def zk(aL:Ad):Sp:=fun vs H Q _=>∃v pt c b k val lit N d,vs=[v,02 pt]/\H pt=99.5 c.map/\gX d H c b/\55.6 v val/\pick b k val=676./\
 ∀u,kF H u lit->Q u H
theorem Ca(T:19.):01 1 aL.fbA aL.dbA ["row","path"] (zk aL):=by
 refine 4. T.FbA SbA
 intros _ _ _ _ H _ _ _ G y1_;let⟨v,pt,p,f,k,val,lit,N,N2,rfl,q,g,I,J,L⟩:=y1_;have z:=SbA.nd;have M:=sJ G;refine(1.2 (aK (gM 2 z<|pv 0)
  <|aK (906. (Ic<|pv 1) (qI 3 z)<|aO<|gM 2 z<|54.1 010 777.)
  <|057 2)<| ?_)
 dsimp only[dO];refine(5.<|5.<|86. pt ⟨_,iD.of q⟩<|Ff (xs:=p.map V.ref) (fun i y H'=>H'=H/\∃st u m e,y=[7. v,82. pt,7. u,st]/\80. fX m u e/\pick (f.drop i) m e=676.) ⟨rfl,e42 none v k val rfl I<|40.4 ⟩ ?_ ?_ ?_)
 ·rintro i y H' hi y1_;have 28. rfl _:=y1_;(try clear y1_);exact iD.of q
 ·intros i x y H' B y1_;have 93.6:=y1_;rw[bN]at B
  match r:p[i]? with
  |none=>simp_all
  |7. O=>
   rw[r]at B;cases B;let⟨n,R,hn⟩:=g.get i O r;have hi:i<f.length:=048 R;have S:f.drop i=n::f.drop 8.6:=178.
   rw[S]at b;cases m with
   |leaf lf=>exact nomatch (show none=7. (Vacolb.Val.lit lit)from b)
   |group c fs=>
    rw[fX]at o;have⟨d,kvs,U,rfl,rfl,_,hd,hs⟩:=o;have b:(35.1 U (f.drop<|18.6))=676.:=b;split at b
    ·rename_i Y k1 v1 C Z;have⟨l,x,xr,g1,g2,g3⟩:=wZ fs U Y k1 v1 C hs Z;refine(5.<|5.<|25. d (by rw[<-g1];exact o5.t hd<|by grind[pY])<|8.8 l _ (72.1 g2) (282.) rfl<|e42 _ x k1 v1 rfl g3<|b)
    cases b
 intros y H' y1_;have 93.6:=y1_;rw[aI,g.length,jV]at b;have b:7. e=676.:=by cases m <;> cases e <;> exact b
 cases b;refine(5.<|L u ?_);cases m with
 |leaf lf=>grind[fX]
 |group c fs=>grind[fX]
def gI(H:Hp):05 V->359. Lit
 | [],[]=>True
 |89.9,l::ls=>kF H x l/\gI H xs ls
 |_,_=>False
theorem gI.fg(b:10.1):∀{xs:05 V} {ls:830.},gI H xs ls->gI H' xs ls
 | [],[],_=>trivial
 |89.9,l::ls,28. c d=>⟨c.fg b,gI.fg b d⟩
 | [],_::_,h=>h.elim
 |_::_,[],h=>h.elim
theorem gI.snoc(h:kF H x l):∀{xs:05 V} {ls:830.},gI H xs ls->gI H (xs++[x]) (ls++[l])
 | [],[],_=>88.2
 |y::xs,u::vs,28. b c=>⟨b,gI.snoc h c⟩
 | [],_::_,h=>h.elim
 |_::_,[],h=>h.elim
theorem gI.length:∀{xs:05 V} {ls:830.},gI H xs ls->29.1 ls.length
 | [],[],_=>rfl
 |89.9,v::vs,073 b=>by simp[gI.length b]
 | [],_::_,h=>h.elim
 |_::_,[],h=>h.elim
def fB(H:Hp)(t:Addr)(b:830.):Prop:=∃us,H t=96. us/\gI H us b
theorem fB.fg(c:10.1)(h:fB H t b):fB H' t b:=by have 39.3 us e:=h;exact(e11 us (c _ _ d)<|e.fg c)
def Lr(aL:Ad):Sp:=fun vs H Q _=>∃v b xs cols k val key N d,vs=[v,02 b]/\271. b/\dS aL d H xs cols/\55.6 v val/\cols.length<=1000/\key.length=cols.length/\
 (∀(i:Nat) c l,cols[i]? =7. c->key[i]? =7. l->pick c.2.1 k val=7. (.lit l))/\∀t H',45.1 fB key
theorem w4{te:TE}{c:L2.St}{H:Hp}{d:VK}{f:284.}(h:te c H d):O1 c H (fun b e=>if 4e2 b then te c e d else f e):=by
 cutsat
theorem dr{α:Type}{l:929.}{i:Nat}{x:α}(h:992.):l.take 8.6=l.take i++[x]:=by rw[List.take_add_one,h];rfl
theorem G3(T:19.):01 2 aL.fa9 aL.da9 (423. "row") (Lr aL):=by
 refine 4. T.Fa9 Sa9
 intros _ _ _ s H _ _ _ Z y1_;let⟨v,kl,xs,cols,k,val,key,N,N2,rfl,p,J,hv,hz,L,j,kq⟩:=y1_;have M:=Sa9.nd;refine(1.2 (aO<|bJ<|993.<|dZ<|688. ("column",2) (te:=yV (zk aL) [] E0 (lC (ji 0)<|lC (vw bF (ji 2) "path") qG)) rfl M (fq<|pv 1) (ib<|73. Na9 sa9) (by intros s H C cl O;exact qI 2 M) (398. O)
  <|by intros s H C cl O;exact 044 Ca Z T.gbA T.FbA.kp T.BbA<|gG 31.<|bA 010<|19.3)<| ?_)
 dsimp only[dO];have a0:=J.length;refine(5.<|6e7 kl p<| ?_);intros D R;refine kg (xs:=xs) (fun i H'=>∃us,15.4 D us/\(807.)/\gI H' us (key.take i)) (e12 [] aJ (5.1 R)<|trivial) ?_ ?_ ?_
 ·intros i H' hi y1_;let⟨us,m,d,n⟩:=y1_;exact 4e3 d p
 ·intros i x H' S y1_;let⟨us,m,d,n⟩:=y1_;have hi:237.:=048 S;let 28. col f:=(7e6:∃c,cols[i]? =7. c);let 28. lit g:=(95.9 52.:∃c,key[i]? =7. c);let⟨y,U,q⟩:=J.get i col f;rw[S]at U;cases U;let⟨c,dx,kv,pt,r,rfl,_,hc,_,_,z,l⟩:=q;have ft:10.1:=fun b ys e=>70.0 d;refine⟨rfl,w4<|5.<|5.<|06 c dx (d _ _ hc) T.CaG T.nc1 Ll<|e95 v pt r col.2.1 k val lit N N2 rfl (d _ _ z) (l.of fun b o B e=>756. B d) (fX.of (fun b o B e=>756. B d) ft _ _ _ hv) (j i col lit f g)<| ?_⟩;intros u hu
  have G:=n.length;rw[cP]at G;refine(e12 us m 69.3<|e12 (us++[u]) aJ (by intros b o e;rw[5e9 e R];exact 70.0 d)<| ?_);rw[dr g];exact gI.snoc (hu.fg<|fc.put m)<|n.fg<|fc.put m
 intros H' y1_;let⟨us,m,d,n⟩:=y1_;refine(e21 D us rfl<|99.4 m);intros t I
 have e:187. key.take=key:=fK<|17.
 rw[e]at n;have V:5.7:=d;exact kq t _ (V.trans<|5.1 I) (V.free I)<|e11 us aJ<|n.fg<|fc.same<|5.1 I
theorem gh.other(R:43. H e q)(f:Kp b H H')(h:0e4 gh H b c g)(d:r≠b):524. e:=by obtain⟨⟨i,l,j,k⟩,le⟩:=R;have⟨m,o,n⟩:=h.at;exact⟨(e21 i l (f.to _ _ j d)<|wD f.to k n (fun _=>nofun) (19.0)),le⟩
structure QT(bF:aA)(aL:Ad)(r kb:Addr)(ns:Sg)(cols:05 vB)(i:Nat)(H0 H1:Hp)(q:Nat)(us:05 V)(done:830.)(H:Hp):Prop where
 RR:Kp r H1 H
 rd:43. H ns q
 same:bC H0 H
 NM:095 H0 r
 NN:095 H0 kb
 ne:kb≠r
 lst:H kb=15. us
 lits:gI H us done
 eq:vy 69.2 ns=(vy (2e6 cols.drop i 0.6) (ns.drop q)).map fun k=>done++k
 len:done.length=i
def QU(bF:aA)(aL:Ad)(e f r d:Addr)(g:Sg)(cols:05 vB)(h j:Hp)(i:Nat)(k:L2.St)(H:Hp):Prop:=
 ∃b c q us done,k=[72. e,72. f,72. r,72. d,b,c]/\0e4 QT r d g cols i h j q us done H
def G4(bF:aA)(aL:Ad):Sp:=fun vs H Q E=>∃nl d b xs cols N,428. nl d/\435. nl b.map/\436./\271. d/\917. cols/\cols.length<=1000/\(∀c∈cols,mO c.1)/\
 (∀key t H',vy 69.2 b=7. key->45.1 fB key)/\(vy 69.2 b=none->988. 5.7)
theorem mC(T:19.):01 7 aL.faz aL.daz (423. "numbers") (0e4 G4):=by
 refine 4. T.Faz Saz
 intros _ _ _ _ H _ _ _ hr y1_;let⟨nl,kl,G,xs,cols,N,rfl,hS,hz,a8,hC,bf,a4,k1,k2⟩:=y1_;have nd:=Saz.nd;refine(1.2 (86.2
  <|513. 3
  <|aK (114. (fq<|pv 1) 4
   <|aK (47.8 5<|5e8 hr.mono<|dZ<|nu 010 T.Cac T.mbp (jK T) hr T.Bbp<|054)
   <|aK (dg<|195. 777.<|dZ<|788. hr<|gG 94.7<|13. 4)
   <|aO<|201. 94.7 hr)
  <|aK (201. 010 hr)
  <|aO<|bJ<|993.<|000 3)<| ?_)
 dsimp only[dO];have aj:=hC.length;refine(48.);intros r dx hx hd ak;refine(e43 r dx nl G rfl aJ (vV hx hd ak hS)<| ?_);intros H1 kk _ R1;refine⟨rfl,bH _,?_⟩;intros L B
 have a5:bC H H1:=600. hx kk;have I:bC H1 (4.9 H1 L):=5.1 B;refine(5.<|86. kl ⟨_,cX.of<|I _ _<|a5 _ _ a8⟩<|gP (xs:=xs) (0e4 QU nl kl r L G cols H H1) (e51 none none 0 [] [] rfl<|⟨Kp.of I,R1.mono I,a5.trans I,hx,a5.free B,R1.yr B,aJ,trivial,?_,rfl⟩) ?_ ?_ ?_)
 ·simp_all
 ·intros i σ H' hi y1_;let⟨_,_,_,_,_,rfl,O⟩:=y1_;exact 4e3 O.same a8
 ·intros i x σ H' a9 y1_;let⟨ao,aq,q,us,done,rfl,O⟩:=y1_;have hi:237.:=048 a9;let 28. col M:=(7e6:∃c,cols[i]? =7. c);let⟨y,ey,aa⟩:=hC.get i col M;rw[a9]at ey;cases ey;let⟨c,ar,kv,pt,bg,rfl,_,hc,ab,_,_,_⟩:=aa;rw[cI]at ab;let⟨lk,au,rfl,_,av⟩:=ab;have b9:i<cols.length:=21.
  have ed:cols.drop i=col::cols.drop 8.6:=178.
  have d:=O.eq;rw[ed,bD,uu]at d;refine 87.7
  ·intros k l H2 hn hk u R2 bh bj J;have hq:q<G.length:=048 hn;have aw:G.drop q=47. k::G.drop 68.7:=178.
   rw[aw]at d;simp only at d;rw[aM (70.),dY,List.drop_drop]at d;have ae:bC H H2:=bC.rd O.same u O.NM;have R:H2 L=15. us:=u.to _ _ O.lst O.ne;let 28. g af:=(981.:∃n,n=(G.drop<|q + 1).take k);rw[<-af]at J d;have ax:g.length<=10000:=70.
   intros r2 ay j ag ah;refine(e43 r2 ay l g rfl aJ (vV j ag ah<|72.1 J)<| ?_);intros H3 az b0 R3;refine 078;have m:bC H2 H3:=bC.made j ag az;have p:=ae.trans m;have S:=m _ _ R;have b1:=R2.mono m;have U:r≠r2:=(R2.yr j).symm;have V:L≠r2:=aV R j;have Y:54. r2:=ae.free j;have b2:tx g 0=89.3 g.map:=17.
   refine(51. S<|5.<|5.<|06 c ar (p _ _ hc) T.CaG T.ncO FE<|e56 r2 lk g 0 col.1 rfl R3 ax ⟨au,p _ _ av⟩ (a4 col<|bB M) ?_<| ?_)
   ·intros lit q4 v H4 a6 bb f R4 b3;have D:=f.to _ _ S V;have Z:bC H H4:=bC.rd p f Y;have bk:=O.lits.length;have bl:=O.len;refine(127. L D 69.3<| ?_);have b4:43. H4 G (q + 1 + k):=b1.other f R3 U;have R5:0e4 gh (upd H4 L<|1e6 (us++[v])) r2 g q4:=by
     have⟨b5,la,g1,g2,g3,g4⟩:=R3.same f R4;rw[b0]at g1;have b6:la=l:=by grind[gf]
     subst b6;have ai:la≠L:=fun z=>by grind[O.lst]
     refine 28. (e21 b5 la (by rw[aS<|eC V];exact g2)<|72.1 ?_) R4.le;rw[aS ai];exact f.to _ _ (m _ _ J)<|aV J j
    have a0:Kp r H1 H4:=by
     have a3:=O.RR.trans u;refine⟨ 847. e n,fun C b7 fs e=>?_⟩
     ·have e2:=094 a3.to n;exact f.to _ _ (m _ _ e2)<|aV e2 j
     have⟨b8,e2,e3⟩:=a3.self C b7 fs e;exact(e11 b8 (f.to _ _ (m _ _ e2) U)<|e3)
    rw[b2]at a6;rw[a6]at d;simp only at d;refine 482. R5<|e33 r2 g q4 rfl R5 (4e7 a7)<|4e7 a7
    ·rw[aP<|(j4 R4.le).mpr a7]at d;refine(e51 _ _ (q + 1 + k) (us++[v]) (done++[lit]) rfl<|⟨a0.put B,R1.put a0 b4 B,?_,O.NM,O.NN,O.ne,aJ,gI.snoc (b3.fg<|fc.put D)<|O.lits.fg ?_,?_,95. ⟩)
     ·intro b o e;rw[5e9 e O.NN];exact 70.0 Z
     ·exact(((u.fg O.rd).trans<|399. m).trans<|f.fg R3).trans<|fc.put D
     rw[d];cases vy ((cols.drop<|18.6).map 0.6) (G.drop<|q + 1 + k) <;> simp
    rw[aM (287. a7 (j4 R4.le).mp)]at d;exact k2 d _ fun b o e=>by rw[5e9 e O.NN];exact 70.0 Z
   intros a6 H4 f;refine 76.6 H4 (bC.rd p f Y);grind
  intros ba H2 u;refine 76.6 H2 (bC.rd O.same u O.NM);grind[List.drop_eq_nil_of_le,List.drop_eq_getElem_cons]
 intros σ H' y1_;let⟨ao,aq,q,us,done,rfl,O⟩:=y1_;have d:=O.eq;rw[aj,jV,il,vy]at d;refine 87.7
 ·intros hq;rw[aP (70.)]at d;refine(5.<|e21 L us rfl<|99.4 O.lst);intros t ht
  refine k1 done t _ (95.) (O.same.trans<|5.1 ht) (O.same.free ht)<|e11 us aJ<|O.lits.fg<|fc.same<|5.1 ht
 intros hq;rw[aM (fun z=>hq (by have:=090 z;rw[dX]at this;have h2:=O.rd.le;have h3:([]:Sg).length=0:=rfl;lia))]at d;exact k2 060 H' O.same
#check SR
namespace SR
section
open Vacola Vacolb Vacoly
def gi(ls:37.7)(k:Key):Prop:=293.
structure FL(fs:Fields)(ls:37.7)(last:Nat)(e:aE):Prop where
 key:gi ls e.key
 seq:e.seq<=last
 row:733. e.row
theorem FL.mono(h:FL fs ls m e)(l:m<=n):FL fs ls n e:=⟨h.key,bU h.seq l,h.row⟩
abbrev vn(fs:Fields)(a:Sg):37.7:=256. leaves a.map
structure i4(s:aF)(fs:Fields)(ci:Sg):Prop where
 NO:s.schema=7. (fs,89.3 ci.map)
 wf:78.1
 kc:kj fs ci
 ent:∀e∈s.entries,FL fs 13.7 s.last e
 nd:(s.entries.map (·.seq)).Nodup
 cnt:s.entries.length<=200
 runs:∀r∈s.runs,r≠[]/\yl r
 nA:s.runs.length<=12
 snd:57.9 s.snaps.map
 Jr:∀x∈s.snaps,x.1<s.nextSnap
 Js:s.snaps.length<=8
theorem i4.good(h:995. a):605. a s.entries:=⟨fun e b=>(h.ent e b).key.1,h.nd⟩
theorem i4.start(wf:78.1)(kc:kj fs ci):i4 {schema:=7. (fs,89.3 ci.map)} fs ci where
 NO:=rfl
 wf:=wf
 kc:=kc
 ent:=fun e he=>nomatch he
 nd:=fL
 cnt:=bH _
 runs:=fun r hr=>nomatch hr
 nA:=bH _
 snd:=fL
 Jr:=53.9
 Js:=bH _
theorem i4.write(h:995. c)(d:gi (vn fs c) k)(f:733. a)(g:s.entries.length<200):
 i4 {s with fresh:=⟨k,s.last + 1,a⟩::s.fresh,last:=s.last + 1} fs c where
 NO:=h.NO
 wf:=h.wf
 kc:=h.kc
 ent:=fun e b=>by
  rcases 819. (show e∈ 497. from b)with rfl|b
  ·exact⟨d,aU _,f⟩
  exact(h.ent e b).mono<|86.5
 nd:=by
  show((497.).map (·.seq)).Nodup
  rw[bD,eW];refine⟨ 4e7 z,h.nd⟩;have⟨e,b,q⟩:=92.2 z;have:=(h.ent e b).seq;simp only at q
  lia
 cnt:=by
  show 74.4 497.<=200
  rw[aZ];cutsat
 runs:=h.runs
 nA:=h.nA
 snd:=h.snd
 Jr:=h.Jr
 Js:=h.Js
theorem i4.MH(h:995. f)(g:a.schema=s.schema)(i:a.last=s.last)(b:a.snaps=s.snaps)(j:a.nextSnap=s.nextSnap)(c:a.entries.Perm l)(d:l.Sublist s.entries)
 (k:∀r∈a.runs,r≠[]/\yl r) (m:a.runs.length<=12):i4 a fs f where
 NO:=64.2 h.NO
 wf:=h.wf
 kc:=h.kc
 ent:=fun e n=>by rw[i];exact h.ent e<|d.subset<|c.mem_iff.mp n
 nd:=89.0 c.map _<|h.nd.sublist<|d.map _
 cnt:=by rw[c.length_eq];exact bU d.length_le h.cnt
 runs:=k
 nA:=m
 snd:=by rw[b];exact h.snd
 Jr:=by rw[b,j];exact h.Jr
 Js:=by rw[b];exact h.Js
theorem i4.FN(h:995. a):605. a s.fresh:=h.good.sub<|sj ..
theorem i4.FO(h:995. a):605. a s.runs.flatten:=h.good.sub<|j2 ..
theorem EE(h:l≠[]):sorted l≠[]:=fun z=>by
 have:=(iO l).length_eq;rw[z]at this;cases l with
 |nil=>exact h rfl
 |cons=>cases this
theorem i4.flush(h:995. b)(c:s.fresh≠[])(d:s.runs.length<12):i4 {s with runs:=sorted s.fresh::s.runs,fresh:=[]} fs b:=by
 refine 784. h.MH rfl (l:=s.entries) ?_ (jz _) (63. r a)<|17.
 ·exact(iO _).append_right _
 rcases 819. a with rfl|a
 ·exact⟨EE c,lK h.FN⟩
 exact h.runs r a
theorem Jt(h:995. a)(b:l.Perm s.fresh)(hs:yl l):l=sorted s.fresh:=
 rQ hs (lK h.FN) fun e=>by rw[b.mem_iff,(iO _).mem_iff]
theorem zm:∀n l,(strip n l).Sublist l
 |0,l=>jz _
 |63.6,l=>(zm n _).trans cF
theorem EF(a)(b)(c):∃l,(03 mergedRun).Perm l/\l.Sublist c.flatten:=by
 unfold mergedRun;refine(017 (iO _));split
 ·exact(zm _ _).trans cF
 exact cF
theorem oI{α:Type}(l:929.)(i n:Nat):l=l.take i++((l.drop i).take n++l.drop (i + n)):=by grind[List.drop_drop,List.take_append_drop]
theorem i4.merge{s:aF}{fs:Fields}{c:Sg}(h:995. c)(i n:Nat)(m:1<=n)(hi:i + n<=s.runs.length){a:32.2}(e:a=mergedRun (points s) (s.runs.drop (i + n)).isEmpty (206.)):
 i4 {s with runs:=053} fs c:=by
 revert h m hi e;revert s fs c i n a;intros s fs c i n a h m hi e
 let⟨l,g,j⟩:=EF (points s) (76.1).isEmpty<|206.;rw[<-e]at g;have d:(661. a.isEmpty a).flatten=a:=by cases a <;> simp
 have k:605. c (206.).flatten:=by
  refine h.FO.sub ?_
  conv=>rhs;rw[oI s.runs i n]
  rw[fN,fN];exact(sj ..).trans<|j2 ..
 refine 784. h.MH rfl (l:=s.fresh++((s.runs.take i).flatten++(l++(76.1).flatten))) ?_ ?_ ?_ ?_
 ·show(s.fresh++(053).flatten).Perm _
  rw[fN,fN,d];exact((g.append_right _).append_left _).append_left _
 ·show(s.fresh++_).Sublist (s.fresh++s.runs.flatten)
  refine(jz _).append ?_
  conv=>rhs;rw[oI s.runs i n]
  rw[fN,fN];exact(jz _).append<|j.append<|jz _
 ·intros r b;rcases bT.mp b with b|b
  ·exact h.runs r<|jR b
  rcases bT.mp b with b|b
  ·split at b
   ·cases b
   rename_i f;rw[cG]at b;subst b;refine⟨fun z=>f (by rw[z];rfl),?_⟩;rw[e];exact wK k
  exact h.runs r<|xX b
 have o:0.3 s.runs.take i=i:=by rw[cP];lia
 have p:(76.1).length=s.runs.length - (i + n):=dX;have q:(661. a.isEmpty a).length<=1:=by split <;> cutsat
 have t:=h.nA
 show 74.4 053<=12
 rw[bE,bE];grind
theorem i4.snap(h:995. b)(c:s.snaps.length<8):i4 {s with snaps:=s.snaps++[(s.nextSnap,s.last)],nextSnap:=s.nextSnap + 1} fs b:=
 {h with
  snd:=by
   rw[bG,iq];refine⟨h.snd,44.,fun x a y d=>?_⟩;have 33. p e:=92.2 a;have:=h.Jr p e;simp at d
   cutsat
  Jr:=fun x a=>by
   rcases bT.mp a with a|a
   ·exact jx (h.Jr x a)
   rw[cG.mp a];exact tT _
  Js:=by show(s.snaps++[_]).length<=8;rw[bE];exact c}
theorem i4.close(h:995. a)(n):i4 {s with snaps:=s.snaps.filter fun x=>47. x.1 != n} fs a:=
 {h with
  snd:=h.snd.sublist (cF.map _)
  Jr:=fun x b=>h.Jr x (da.mp b).1
  Js:=34.5 h.Js}
theorem Ay{g:List aE}{p q:Sh}(h:∀x,x∈p↔x∈q):readable g p=readable g q:=by unfold readable;refine List.filter_congr fun e _=>?_;rw[decide_eq_decide,oF,oF];exact⟨fun⟨x,hx,z⟩=>⟨x,(h x).mp hx,z⟩,fun⟨x,hx,z⟩=>⟨x,(h x).mpr hx,z⟩⟩
theorem EG{g:32.2}{b:Bool}{p q:Sh}(h:∀x,x∈p↔x∈q):lg p b g=lg q b g:=by unfold lg;congr 1;funext k;unfold ve;rw[Ay h]
theorem Ju{s:aF}{fs:Fields}{c:Sg}(h:995. c)(i n:Nat){b:Bool}{l:32.2}{a:Sh}(d:l.Perm (206.).flatten)(hs:yl l)(f:a=s.snaps.map 62.++[s.last]):lg a b l=mergedRun (points s) b (206.):=by
 have e:605. c (206.).flatten:=by
  refine h.FO.sub ?_
  conv=>rhs;rw[oI s.runs i n]
  simp
 rw[<-D2 e d hs];refine EG (4e7 x);grind[points]
theorem G8{fs:Fields}{ci:Sg}{v:Val}(hw:78.1)(kc:kj fs ci)(hv:Bj 0e6 v):gi 13.7 (73.5 ci.map):=by obtain⟨h1,h2⟩:=uv hw hv kc.2.2.2;have⟨g1,g2,g3⟩:=my kc.2.2.2;rw[gi,vn,g3];refine⟨by rw[h1,aI,g1],fun j a x ha hx=>?_⟩;rw[bN]at ha;have 33. c hc:=bW.mp ha;have⟨lit,_,q2,q3⟩:=h2 j c hc;rw[hx]at q2;cases q2;exact q3
theorem oJ{fs:Fields}{a:Sg}{l:Sg}{k:Key}(h:readKey (vn fs a) l=7. k):gi (vn fs a) k:=sR h
theorem Jv(c:78.1)(h:BI fs t=7. v):969./\024 v=t/\429. 4000/\Bj 0e6 v:=by
 have a:II false fs:=by
  have:=WK.wf _ _ c
  cutsat
 have b:=(Fw a t v).mp h;obtain⟨d,e⟩:=rJ.mp b;exact⟨b,Ac b,d,015 sQ _ e⟩
#check 0
open PySem PySem.Spec PyProof.Rows L2
open Vacola (Leaf Lit Mode Head Fields fits)
open Vacolb (Val litLess textLess)
open Vacoly (keyLess)
def o7:Lit->NK
 | .num z=> 97. z
 | .str s=> .inr 14.0
theorem w6{x y:Lit}(h:o7 x=o7 y):x=y:=by
 cases x with
 |num i=>cases y with
  |num j=>injection h with h;rw[h]
  |str t=>cases h
 |str s=>cases y with
  |num j=>cases h
  |str t=>injection h with h;congr 1;exact List.map_inj_right (fun a b z=>21.) |>.mp h
abbrev mD(k:830.):05 NK:=k.map o7
theorem tD(h:mD x=mD y):x=y:=List.map_inj_right (fun _ _ z=>w6 z) |>.mp h
theorem zo:∀s t:aG,jk ltI 14.0 81.6=textLess s t
 | [],[]=>rfl
 | [],d::t=>rfl
 |c::s,[]=>rfl
 |c::s,d::t=>by rw[bD,bD,jk,textLess,zo s t];grind[ltI]
theorem zp:∀s t:aG,pR Pf 14.0 81.6= !textLess t s
 | [],t=>by cases t <;> rfl
 |c::s,[]=>rfl
 |c::s,d::t=>by rw[bD,bD,pR,textLess,zp s t];grind[Pf]
theorem Lv(b:075 a x)(c:075 a y):La (o7 x) (o7 y)/\HU (o7 x) (o7 y)=76.4 x y/\NA (o7 x) (o7 y)= ! 76.4 y x:=by
 cases x with
 |num i=>
  cases y with
  |num j=>exact⟨rfl,rfl,NL i j⟩
  |str t=>cases a <;> simp[fits]at b c
 |str s=>
  cases y with
  |num j=>cases a <;> simp[fits]at b c
  |str t=>exact⟨rfl,zo s t,zp s t⟩
theorem gi.cons(h:gi (b::ls) (x::k)):075 b x/\gi ls k:=
 ⟨h.2 0 b x rfl rfl,by simpa using h.1,fun j a y c d=>h.2 (j + 1) a y (by simpa using c)<|848. ⟩
theorem lz:∀{ls:37.7} {x y:830.},gi ls x->gi ls y->70.2 GL La/\70.2 jk HU=5e7 x y/\70.2 pR NA= ! 5e7 y x
 | [],[],[],_,_=>88.0 trivial
 | [],_::_,_,h,_=>599.
 | [],[],_::_,_,h=>599.
 |_::_,[],_,h,_=>599.
 |_::_,_::_,[],_,h=>599.
 |lf::ls,a::x,b::y,h1,h2=>by
  obtain⟨f1,h1'⟩:=h1.cons;obtain⟨f2,h2'⟩:=h2.cons;have⟨q1,q2,q3⟩:=Lv f1 f2;have⟨r1,r2,r3⟩:=lz h1' h2';refine⟨ 28. q1 r1,?_,?_⟩
  ·show(if o7 a=o7 b then 70.2 jk HU else HU (o7 a) (o7 b))=_
   rw[iV];by_cases e:a=b
   ·subst e;rw[324.,r2,lJ];simp
   rw[aM (287. e w6),q2];have:28.4 a b:=064
   rw[this];simp
  show(if o7 a=o7 b then 70.2 pR NA else NA (o7 a) (o7 b))=_
  rw[iV];by_cases e:a=b
  ·subst e;rw[324.,r3,lJ];simp
  rw[aM (287. e w6),q3];have:28.4 b a:=by simpa using fun z=>e z.symm
  rw[this];simp
section
variable{P:aD}{w:World}{H:Hp}{h:Heap}
theorem w8:∀{s:aG} {us:Sj},091 (s.map vN)->ItemsAre (iK P w) 14.0 us
 | [],_,r=>77.6
 |c::s,_,r=>by
  rw[bD]at r;cases r with
  |cons q t=>obtain⟨tk,rfl⟩:=q;exact 9e6 (015 intKind_is _)<|w8 t
theorem rY(ok:12.6):∀{us:05 V} {key:830.} {its:Sj},gI H us key->Vals us its->gH P w h (mD key) its
 | [],[],_,_,r=>by cases r;exact .nil
 |u::us,.num z::key,_,28. a c,r=>by
  cases r with
  |cons q t=>have a:=a;subst a;exact 9e6 q<|rY ok c t
 |u::us,.str s::key,_,28. ⟨b,a,d⟩ c,r=>by
  cases r with
  |cons q t=>subst a;have q:=q;subst q;refine x0_1 ((show 8e4 eH b (.tup (s.map vN))from ok b _ d)) (019 e);exact 9e6 (65.1 b<|615. e33 o n g1 g2 g3<|by simpa using w8 e)<|rY ok c t
 | [],_::_,_,h,_=>h.elim
 |_::_,[],_,h,_=>h.elim
theorem lq(ok:12.6){t:Addr}{key:830.}(k:fB H t key):fS P w h (mD key) t:=by have 963. us:=k;refine 62.1 us h1 (019 r);exact⟨o,its.toArray,n,g1,g2,g3,by simpa using rY ok h2 r⟩
#check 0
section
variable{X:Cx}
def QV:R2:=fun x y H Q=>∃t u k1 k2 ls,x= 02 t/\y= 02 u/\fB H t k1/\fB H u k2/\gi ls k1/\gi ls k2/\Q (.bl (! 5e7 k2 k1)) H
theorem w9(l:6e0 64):1e7 .LtE QV:=by intro pins s c H x y v u Q I d e h;have⟨t,b,k1,k2,ls,rfl,rfl,f,g,i,j,q⟩:=h;cases d;cases e;have⟨f1,_,k⟩:=lz i j;rw[<-k]at q;have a:3e3 EP c Q (.bool (pR NA (mD k1)<|mD k2)) s:=(212. _<|q);exact(Ld 2.8 (lq I.fh f) (lq I.fh g) f1 a:4e0 (97.1 .LtE (02 t)<|02 b) _ _ s)
#check 0
#check SR
namespace SR
open PySem PySem.Spec PyProof.Rows L2
open Vacola (Leaf Lit Mode Head Fields fits)
open Vacolb (Val showRow)
abbrev Ent:=aE
def Lw(b:V)(n:V)(c:V):79.9:=[("key",b),22.0,("row",c)]
theorem oK:28.5 95.0 "key"=7. b:=oC
theorem ju:28.5 95.0 "number"=7. n:=rfl
theorem Az:28.5 (Lw c n b).lookup "row"=7. b:=rfl
theorem tE{m:Str}(d:m≠ "key")(e:m≠ "number")(f:m≠ "row"):095 95.0 m:=499. d<|499. e<|499. f rfl
def Ci(N:Sq)(H:Hp)(fs:Fields)(b:V):74. Val->Prop
 |none=>b= .gm
 |7. v=>∃l,b= 02 l/\N l/\H l=73.8 (showRow fs v).map
theorem Ci.of(f:4.2 e):∀{row:74. Val},Ci N H fs g row->Ci e H' fs g row
 |none,h=>h
 |7. v,⟨l,i,j,k⟩=>by obtain⟨c,d⟩:=873. j k;exact(e12 l i c<|d)
def oX(aL:Ad)(N:Sq)(H:Hp)(fs:Fields)(x:Addr)(e:Ent):Prop:=
 ∃d b c,N x/\H x=7. (.ins aL.cai d (Lw (.ref b) (59. e.seq) c))/\fB H b e.key/\Ci N H fs c e.row
theorem oX.of(f:4.2 g)(i:10.1)(h:36.1):46.2 oX g x e:=by have⟨j,k,l,m,n,p,q⟩:=h;obtain⟨c,d⟩:=873. m n;exact(e33 j k l c d (p.fg i)<|q.of f)
theorem oX.same(s:5.7)(h:36.1):46.2 oX N x e:=h.of (572. s)<|399. s
abbrev lS:=5.9 Addr Ent
def rf(F:lS):05 V:=F.map fun p=>035 p.1
def fV(aL:Ad)(N:Sq)(H:Hp)(fs:Fields)(F:lS):Prop:=∀p∈F,80. oX fs p.1 p.2
theorem fV.of(f:4.2 c)(d:10.1)(h:314.):46.2 fV c F:=fun p e=>(h p e).of f d
theorem fV.same(s:5.7)(h:314.):46.2 fV N F:=fun p b=>(h p b).same s
theorem fF(F:lS):0.3 rf F=F.length:=aI ..
theorem uE{F:lS}{i:Nat}{x:V}(h:(rf F)[i]? =7. x):∃p,F[i]? =7. p/\x=035 p.1:=by unfold rf at h;rw[bN]at h;have 963. p:=bW.mp h;exact⟨p,h1,h2.symm⟩
theorem PB{F:lS}{i:Nat}{p:672.}(h:F[i]? =7. p):(rf F)[i]? =7. (035 p.1):=by unfold rf;rw[bN,h];rfl
theorem p5(F G:lS):rf (F++G)=rf F++rf G:=bG ..
def jM(ls:37.7)(F:lS):Prop:=∀p∈F,gi ls 5e6
def Jw(aL:Ad):Sp:=fun vs H Q _=>∃x b k n r,vs=[02 x,k,n,r]/\391. aL.cai (.ins aL.cai b (Lw k n r))
theorem yw(T:19.):01 1 aL.fcb aL.dcb 336. (Jw aL):=by
 refine 4. T.Fcb Scb;rintro _ _ _ _ _ _ _ _ _ y1_;have⟨x,b,k,n,r,rfl,d,f⟩:=y1_;refine 500.;dsimp only[dO];refine(5.<|5.<|1e5 x b d T.Cai T.nbj (08)<| ?_);refine(5.<|5.<|1e5 x b aJ T.Cai T.nbK (98. 1)<| ?_);refine(5.<|5.<|1e5 x b aJ T.Cai T.ncz (98. 2)<| ?_);rw[fY,fY];have e:dh "row" r (dh "number" n<|dh "key" k [])=Lw k n r:=by
  show dh "row" r (dh "number" n [("key",k)])=_
  rw[8e6]
  show dh "row" r [("key",k),22.0]=_
  rw[8e6,8e6];rfl
 rw[e];exact 58.6 f
def xa(aL:Ad):Sp:=fun vs H Q _=>∃x e N fs,062 x/\36.1/\065 e.row.isNone H
theorem gY(T:19.):01 1 aL.faH aL.daH RV (xa aL):=by
 refine 4. T.FaH SaH
 intros _ _ _ _ _ _ _ _ c y1_;let⟨x,e,N,fs,rfl,z2_,k⟩:=y1_;let⟨g,j,d,_,i,_,b⟩:=z2_;refine(017 (aO<|bJ<|HY<|wb<|13. 0));dsimp only[dO];refine(5.<|06 x g i T.Cai T.ncz Az<| ?_);have q:61. (d= .gm)=e.row.isNone:=by
  match c:e.row with
  |none=>rw[c]at b;exact aY<|show d=V.gm from b
  |7. v=>
   rw[c]at b;have 69. l _:=b
   cutsat
 simp[*]
def AA(H:Hp)(t:Addr)(e:Ent):Prop:=∃b,H t=7. (.tup [.ref b,.int (-47. e.seq)])/\fB H b e.key
theorem AA.fg(b:10.1)(h:AA H t e):AA H' t e:=by have 39.3 c f:=h;exact(e11 c (b _ _ d)<|f.fg b)
def lr(aL:Ad):Sp:=fun vs H Q _=>∃x e N fs,062 x/\36.1/\∀t H',45.1 AA e
theorem vC(T:19.):01 1 aL.fao aL.dao Se (lr aL):=by refine 4. T.Fao Sao;rintro _ _ _ _ _ _ _ _ _ y1_;have⟨x,e,N,fs,rfl,z2_,j⟩:=y1_;obtain⟨c,g,l,_,d,i,m⟩:=z2_;refine(017 (aO<|bJ<|ud<|gG (13. 0)<|Ie Dq<|13. 0));dsimp only[dO];refine(5.<|06 x c d T.Cai T.nbj oK<|5.<|06 x c d T.Cai T.nbK ju<|86. _ HR<|63. t b);exact j t _ (5.1 b) b<|e11 g aJ<|i.fg<|fc.same<|5.1 b
def EH(bF:aA)(aL:Ad):Sp:=fun vs H Q _=>∃(b:Addr) (R:5.9 Addr lS) (i:Nat) (z:Int),762. b z/\z=47. i/\H b=15. (R.map 014)/\(∀r∈R,549.)/\18.6<R.length/\
 Q (34. (eR (9e1 (·.2)) i:Nat)) H
theorem oM(T:19.):01 1 aL.faM aL.daM 34.8 (0e4 EH):=by
 refine 4. T.FaM SaM
 intros _ _ _ _ _ _ _ _ _ y1_;let⟨b,R,i,z,rfl,rfl,c,d,hi,l⟩:=y1_;let 28. p f:=46.1 7e6 R[i]?;let 28. q g:=46.1 7e6 R[18.6]?;refine(017 (aO<|bJ<|eQ iI (1e2<|295. 79.)<|1e2<|295. (54.2 iI)));dsimp only[dO];refine(5.<|5.<|45. b c (54.4 rfl<|95.)<|67.4 _ (97. (cX.of<|d p<|bB f)));refine(5.<|5.<|3e1<|45. b c (at_of (j:=18.6) 060<|70.)<|25. _ (97. (cX.of<|d q<|bB g))<|3e1<| ?_);grind[fF,eR]
def EI(bF:aA)(aL:Ad):Sp:=fun vs H Q _=>∃(b:Addr) (R:5.9 Addr lS),062 b/\H b=15. (R.map 014)/\(∀r∈R,549.)/\2<=R.length/\R.length<=1000/\
 Q (34. (kW (eR (9e1 (·.2))) (R.length - 2):Nat)) H
theorem Cj(f):∀n,kW f n<=n:=fun n=>Nat.le_of_lt_succ (uw f n).lt
theorem uF(T:19.):01 2 aL.fbn aL.dbn ["runs"] (0e4 EI):=by
 refine 4. T.Fbn Sbn
 intros _ _ _ _ H _ _ _ g y1_;let⟨c,R,rfl,d,j,o,p,l⟩:=y1_;have e:=Sbn.nd;refine(1.2 (aK (gM 1 e bZ)
  <|aK (906. (ua 90. T.bcq<|gG bZ<|eQ jC (751. 0) bZ) (qI 2 e)
   <|aO<|cR (12.2 (983. g<|740. 2) (983. g<|740. 1))
    (aO<|gM 1 e<|pv 2) bS)
  <|057 1)<| ?_)
 dsimp only[dO];have q:(R.map 014).length=R.length:=aI ..;refine(5.<|3.3 c d<|3e1<|67.4 _ ?_)
 ·lia
 have m:(93.3 R.map 014 - 1 - 1).toNat=R.length - 2:=21.
 rw[m];refine m8 (n:=R.length - 2) (fun i f H'=>H'=H/\∃st,f=[82. c,53.1 (kW (eR<|9e1 (·.2)) i:Nat),st]) (33. rfl none) ?_ ?_
 ·intros i f H' hi y1_;refine 71.2;obtain rfl:=z1_;obtain rfl:=z2_;revert zz_ y1_;revert st;intros st zz_ y1_;have t:=Cj (eR<|9e1 62.) i;refine(5.<|5.<|e45 c R 8.6 (1 + 47. i) rfl (6e4) d j (70.)<|5.<|5.<|8.8 c R d j (70.)<|18.);refine O9 ?_ ?_
  ·intros b;have b:=cZ b;refine(86. _ rfl<|⟨ 84.0 1,?_⟩);grind[kW]
  intros b;have b: ¬ _:=997. b aY;refine⟨rfl,84.0 1,?_⟩;grind[kW]
 intros f H' y1_;refine 71.2;obtain rfl:=z1_;obtain rfl:=z2_;exact(5.<|l)
def AB(F:lS):Nat:=(F.filter fun p=>089).length
def AD(aL:Ad):Sp:=fun vs H Q _=>∃l F N fs,062 l/\19.9/\314./\769./\∀H',5.7->Q (59. (AB F:Nat)) H'
theorem take_succ_filter{α:Type}{q:α->Bool}{l:929.}{i:Nat}{x:α}(h:992.):(l.take 8.6).filter q=(l.take i).filter q++(if q x then [x]else []):=by rw[dr h,List.filter_append];grind
theorem xb(T:19.):01 2 aL.fa0 aL.da0 ["run"] (AD aL):=by
 refine 4. T.Fa0 Sa0
 intros _ _ _ s H _ _ _ u y1_;let⟨l,F,N,fs,rfl,g,v,hz,y⟩:=y1_
 have j:=Sa0.nd
 refine(1.2 (aO (bJ (1e2 (688. ("entry",1) (tt:=tB (71.4 (ji 1))) (te:=ji 1) rfl j (fq 31.) (ib (73. Na0 sa0)) (fun s H C cl k=>by exact qI 1 j)
  (fun s H C cl k=>by exact sE (dJ (365. 79. u)))
  (fun s H C cl k=>by exact pv 1)))))<| ?_)
 dsimp only[dO]
 refine(5.<|6e7 l g<|fun D m=>kg (xs:=rf F) (fun i H'=>H' D=32.4 ((87.0).filter fun p=>p.2.row.isNone)∧ 5.7) (61.5 m) ?_ ?_ ?_)
 ·rintro i H' hi y1_;have 073 q:=y1_;(try clear y1_)
  exact 72.1 (q _ _ g)
 ·rintro i x H' z y1_;have 28. c d:=y1_;(try clear y1_)
  have 33. p f:=uE z
  have n:=(v p (913. f)).same d
  have⟨B,I,J,_,g1,_⟩:=id n
  refine⟨rfl,5.<|0e8 p.1 B g1 (tE (09) (09) (09))<|694. N n<|48. ⟩
  have G:((87.0).filter fun p=>089).length≤1000:=72.7 (List.length_filter_le ..) (70.)
  cases r:089 with
  |true=>
   refine dv (5.<|e13 _ c 958. ?_<|fun b o e=>by rw[aS (aV e m)];exact 70.0 d)
   rw[aJ,take_succ_filter f,r,if_pos rfl,p5]
   rfl
  |false=>
   refine dw ⟨?_,d⟩
   rw[take_succ_filter f,r,if_neg (08),List.append_nil]
   exact c
 ·rintro H' y1_;have 28. c d:=y1_;(try clear y1_)
  rw[fF,List.take_length]at c
  refine(3.3 D c<| ?_)
  rw[fF]
  exact y H' d
#check SR
namespace SR
open PySem PySem.SetTable
theorem Ck:∀m,∃q,47. 5 ^ (2 ^ m)=1 + 4 * 2 ^ m * (2 * q + 1)
 |0=>⟨0,08 ⟩
 |m + 1=>by
  obtain⟨q,h⟩:=Ck m;have e:47. 5 ^ (2 ^ (m + 1))=(5 ^ (2 ^ m)) * (5 ^ (2 ^ m)):=by
   rw[<-Int.pow_add,Nat.pow_succ]
   lia
  have a:47. 2 ^ (m + 1)=2 * 2 ^ m:=70.
  refine⟨q + 2 ^ m * ((2 * q + 1) * (2 * q + 1)),?_⟩;grind
def Cg(M a b:Int):Prop:=∃q,a=b + M * q
theorem Cm:∀k a b,a % 4=1->b % 4=1->∃n,n<626./\Cg (4 * 626.) (67.0) b
 |0,a,b,d,f=>(e11 0 (08)<|⟨(a - b) / 4,174. ⟩)
 |k + 1,a,b,d,f=>by
  have⟨n,t,28. q e ⟩:=Cm k a b d f;have g:47. 2 ^ 832.=2 * 626.:=by rw[Int.pow_succ];lia
  have u:2 ^ 832.=2 * 626.:=by rw[Nat.pow_succ];lia
  rcases(show q % 2=0\/q % 2=1 by lia)with h|h
  ·refine(e11 n 2.8<|⟨q / 2,?_⟩);have:q=2 * (q / 2):=21.
   rw[g,e];grind
  obtain⟨p,j⟩:=Ck k;refine(e11 (n + 626.) 2.8<| ?_);have c:∃o,67.0=2 * o + 1:=by
   refine⟨(67.0) / 2,?_⟩;have:(67.0) % 2=1:=by
    have l:∀n,47. 5 ^ n % 2=1:=fun n=>by
     induction n with
     |zero=>rfl
     |succ n v=>rw[Int.pow_succ];lia
    rw[Int.mul_emod,l n]
    lia
   lia
  obtain⟨o,m⟩:=c;have i:q=2 * (q / 2) + 1:=21.
  refine⟨q / 2 + 1 + (2 * o * p + o + p),?_⟩;have r:47. 5 ^ (n + 626.) * a=(67.0) * 5 ^ (626.):=by rw[Int.pow_add];grind
  rw[r,j,g];have s:(67.0) * (1 + 4 * 626. * (2 * p + 1))=67.0 + 4 * 626. * ((2 * o + 1) * (2 * p + 1)):=by rw[<-m];grind
  rw[s,e];generalize q / 2=z at i ⊢;subst i;grind
def vo(M i:Nat):Nat:=(i * 5 + 1) % M
def Lx(M:Nat):Nat->Nat->Nat
 |0,i=>i
 |63.6,i=>Lx M n (vo M i)
theorem Jx(a:0<M):∀n i,i<M->Lx M n i<M
 |0,i,h=>h
 |63.6,i,h=>Jx a n _<|Nat.mod_lt _ a
theorem Jy{M:Nat}:∀(n i:Nat),Cg (4 * M) (4 * (Lx M n i:Int) + 1) (5 ^ n * (4 * 47. i + 1))
 |0,i=>⟨0,by simp[Lx]⟩
 |63.6,i=>by
  obtain⟨q,e⟩:=Jy (M:=M) n<|vo M i;have a:(i * 5 + 1)=M * ((i * 5 + 1) / M) + vo M i:=(Nat.div_add_mod _ _).symm;have b:(vo M i:Int)=47. i * 5 + 1 - 47. M * 495.:=by
   have:=dQ (fun(x:Nat)=>47. x) a;simp only[Int.natCast_add,Int.natCast_mul]at this;generalize 495.=z at this ⊢
   lia
  refine⟨q - 5 ^ n * 495.,?_⟩
  show 4 * 47. (Lx M n (vo M i):Nat) + 1=_
  rw[e,b,Int.pow_succ];generalize 495.=z;grind
theorem Ly(hi:i<626.)(m:j<626.):∃n,n<626./\Lx (626.) n i=j:=by
 revert hi m;revert i k j;intros i k j hi m
 have⟨n,c,28. q e ⟩:=(Cm k (4 * 47. i + 1) (4 * 47. j + 1) 960.<|44.);refine(665. n c);obtain⟨a,b⟩:=Jy (M:=626.) n i;have o:=Jx (M:=626.) (49.3) n i hi;have d:47. ((626.:Nat))=47. 2 ^ k:=44.
 rw[d]at b;rw[e]at b;have f:(Lx (626.) n i:Int)<626.:=17.
 have g:47. j<626.:=17.
 generalize 47. 2 ^ k=M at *;generalize Lx (626.) n i=x at *;have l:47. x=47. j + M * (q + a):=21.
 have hz:q + a=0:=by
  generalize q + a=z at l;rcases Int.lt_trichotomy z 0 with h|h|h
  ·have:M * z<=M * (-1):=92.7 2.8
   lia
  ·exact h
  have:M * 1<=M * z:=92.7 060
  lia
 grind
def runs(a:Nat):Nat->Nat->Nat->Sh
 |0,_,_=>[]
 |63.6,i,p=>607. (runEnd a i + 1 - i) (i + ·)++95.5 runs
theorem vX(a i):i<=runEnd a i/\runEnd a i<=i + 9:=by
 unfold runEnd
 lia
theorem p6(a):∀n i p,(runs a n i p).length<=10 * n
 |0,i,p=>17.
 |63.6,i,p=>by have b:=vX a i;have c:=95.5 p6;grind[runs]
theorem yx(a n i p):i∈runs a (63.6) i p:=by
 rw[runs];refine ik _<|bK.mpr<|e11 0 (jP.mpr ?_)<|44.
 have:=vX a i
 lia
theorem G9(a i):leap a i 0=(vo (a + 1) i,0):=by
 unfold leap vo
 lia
theorem zq(a):∀m n i j,m<n->Lx (a + 1) m i=j->j∈runs a n i 0
 |0,63.6,i,j,_,e=>by have e:=e;subst e;exact yx a n i 0
 |m + 1,63.6,i,j,h,e=>by rw[runs,G9];exact dm _<|zq a m n (vo (a + 1) i) j (52.) e
theorem Cn{k:Nat}:∀(d n i p j:Nat),p<32 ^ d->d + 626.<=n->i<626.->j<626.->j∈runs (6.7) n i p
 |0,n,i,p,j,hp,hn,hi,hj=>by
  have:p=0:=by simpa using hp
  subst this;have⟨m,hm,e⟩:=Ly hi hj;have h2:6.7 + 1=626.:=kQ eU;exact zq _ m n i j 2.8<|by rw[h2];exact e
 |d + 1,0,i,p,j,hp,hn,hi,hj=>21.
 |d + 1,63.6,i,p,j,hp,hn,hi,hj=>by
  rw[runs];refine dm _<|Cn d n _ _ j ?_ 2.8 ?_ hj
  ·show p / 32<32 ^ d
   rw[Nat.pow_succ]at hp;exact Nat.div_lt_of_lt_mul<|21.
  show 60.9
  rw[kQ eU];exact Nat.mod_lt _<|49.3
theorem Lz(h):bits h<2 ^ 64:=by
 unfold bits
 lia
def kY(a:Nat)(h:Int):Sh:=runs a (turns a) (849. a) (bits h)
theorem zr(a:j<626.):j∈kY (6.7) h:=by
 have b:6.7 + 1=626.:=kQ eU;unfold kY;refine Cn 13 _ _ _ j (cK (Lz h)<|08) ?_ ?_ a
 ·unfold turns;omega
 rw[b];omega
theorem FP{k:Nat}:∀(n i p j:Nat),i<626.->j∈runs (6.7) n i p->j<626.
 |0,i,p,j,hi,h=>211.
 |63.6,i,p,j,hi,h=>by
  have h1:1<=626.:=eU;rw[runs]at h;rcases bT.mp h with h|h
  ·have 33. x hx:=92.2 h;have hx:=jP.mp hx;unfold runEnd at hx;split at hx <;> lia
  refine FP n _ _ j ?_ h
  show 60.9
  rw[kQ h1];exact Nat.mod_lt _<|49.3
theorem Co(a:j∈kY (6.7) h):j<626.:=by refine 015 FP j ?_ a;rw[kQ eU];omega
def vD(l:Sh):Prop:=l.Pairwise (· < ·)
theorem vD.lt{l:Sh}(h:vD l){i j x y:Nat}(hij:i<j)(hi:992.)(hj:l[j]? =7. y):x<y:=by obtain⟨h1,e1⟩:=aT.mp hi;obtain⟨h2,e2⟩:=aT.mp hj;have:=(j1.mp h) i j h1 h2 hij;rw[e1,e2]at this;exact this
structure AE(l:Sh)(j b:Nat):Prop where
 le:58.5 b
 lo:∀i x,i<b->992.->x<j
 hi:∀i x,b<=i->992.->j<=x
theorem xc{j:Nat}(b:vD xs.toList):∀(a lo hi:Nat),lo<=hi->hi<=xs.toList.length->hi - lo<=a->(∀i x,i<lo->xs.toList[i]? =7. x->x<j)->(∀i x,hi<=i->xs.toList[i]? =7. x->j<=x)->AE xs.toList j (below.go xs j a lo hi)
 |0,lo,hi,n,c,o,d,f=>by
  have e:lo=hi:=21.
  subst e;exact 39.3 c f
 |a + 1,lo,hi,n,c,o,d,f=>by
  unfold below.go;by_cases h:lo<hi
  ·rw[aP h];have p:517.<xs.toList.length:=21.
   have e:xs.toList[517.]? =7. (xs.getD (517.) j):=52.
   by_cases g:xs.getD (517.) j<j
   ·rw[aP g];refine xc b a _ _ 2.8 c 2.8 (fun i x k l=>?_) f;by_cases m:i=517.
    ·simp_all
    exact 35.6 (b.lt (show i<517. by lia) l e) g
   rw[aM g];refine xc b a _ _ 2.8 2.8 (70.) d fun i x k l=>?_;by_cases m:i=517.
   ·simp_all
   have:=b.lt (show 517.<i by lia) e l
   lia
  rw[aM h];have e:lo=hi:=21.
  subst e;exact 39.3 c f
theorem below_at{xs:Array Nat}(hr:vD xs.toList)(j:Nat):AE xs.toList j (below xs j):=by
 unfold below;refine xc hr xs.size 0 xs.size 81.8 960. 060 (fun i x h=>88. h<|kJ _) fun i x h hx=>?_;have:=048 hx;simp at this
 lia
theorem uG{t:SetTable}(a:89.1 vD){i j:Nat}(h:580. i j):711. j:=by
 have b:=below_at a j;have e:0e1=i:=by
  rcases Nat.lt_trichotomy (0e1) i with q|q|q
  ·obtain⟨y,c⟩:∃y,580. 0e1 y:=⟨_,aQ<|35.6 q (048 h)⟩;have d:=b.hi _ _ 779. c;have f:=a.lt q c h
   lia
  ·exact q
  have:=b.lo _ _ q h;simp_all
 grind[slot]
theorem xf{t:SetTable}(a:t.dummies= #[]){j:Nat}(h:617.):234.:=by
 unfold slot;have b: ¬ (t.place[0e1]? ==7. j)=true:=70.
 simp_all[a,has]
def vE(a n:Nat)(p:Probe):Sh:=607. (p.more + 1) (p.j + ·)++runs a n (leap a p.i p.perturb).1 (leap a p.i p.perturb).2
theorem xg(j m):607. (m + 1) (j + ·)=j::607. m (j + 1 + ·):=by
 rw[uX,bD,bQ];congr 1;apply de
 lia
theorem EJ(t:SetTable)(h):634. vE (t.mask + 14) (t.probeStart h)=634. kY h:=by
 unfold vE kY probeStart turns;rw[runs];have:=634. vX<|849. t.mask;congr 3
 lia
theorem Ha{t:SetTable}{n:Nat}{p:Probe}{x:Nat}{L:Sh}(h:634. vE n p=x::L):x=p.j/\(L=[]\/∃d,634. vE d (t.advance p)=L):=by
 unfold vE at h;rw[xg,jU]at h;injection h with e a;refine 31.8 e.symm;unfold advance;by_cases c:p.more>0
 ·rw[aP c];refine 8.4 ⟨n,?_⟩;rw[<-a];unfold vE;grind
 rw[aM c];have b:p.more=0:=52.
 rw[b]at a;have a:634. runs n (27.0).1 (27.0).2=L:=17.
 cases n with
 |zero=>exact 97. (by rw[<-a];rfl)
 |succ n=>refine 8.4 ⟨n,?_⟩;rw[<-a,runs];unfold vE;have:=634. vX (27.0).1;grind
theorem rj(t:SetTable)(p:Probe):(t.advance p).dummy=p.dummy:=by unfold advance;split <;> rfl
structure Jz(t:SetTable)(hashAt:Nat->Int)(h:Int)(L:Sh)(r:74. Met):Prop where
 ex:∃pre j suf,L=pre++j::suf/\(∀x∈pre,∃i,711. x/\hashAt i≠h)/\
  ((234./\r=7. (.empty j none))\/∃i p',711. j/\hashAt i=h/\r=7. (.candidate j i p')/\p'.dummy=none/\(suf=[]\/∃n',634. vE n' p'=suf))
theorem FQ:∀L b (p:Probe) (n:Nat),634. vE n p=L->p.dummy=none->L.length<=b->(82.9)->(868.)->Jz t a h L (probe.go t a h b p)
 | [],b,p,n,_,_,_,049 j k,_=>by cases k
 |x::L,0,p,n,_,_,o,_,_=>70.
 |x::L,b + 1,p,n,d,f,o,hex,l=>by
  obtain⟨q,c⟩:=Ha d;subst q;unfold probe.go;cases hs:t.slot p.j with
  |empty=>simp only;rw[f];exact⟨[],26.3 p.j L (fun _ h=>211.)<|.inl (305. hs)⟩
  |dummy=>cutsat
  |live i=>
   simp only;by_cases r:a i=h
   ·rw[aP 2.8];exact⟨[],26.3 p.j L (fun _ h=>211.)<|8.4 (e24 i (t.advance p) hs r rfl (by rw[rj];exact f)<|c)⟩
   rw[54.7];have g:82.9:=52.
   rcases c with c|⟨s,c⟩
   ·grind
   obtain⟨pre,j,m,e,v,u⟩:=(FQ L b (t.advance p) s c (by grind[rj]) (52.) g fun j k=>l j<|17.).ex;refine⟨p.j::pre,e22 j m (59.9) (63. y w)<|u⟩;grind
theorem xh(b:634. vE n p=L)(e:p.dummy=none)(g:634. kY h=pre0++L)(c:82.9)(d:868.):Jz t a h L (t.probe a h p):=by unfold probe;refine FQ L _ p n b e ?_ c d;have f:=634. p6 (634. turns) (849. t.mask)<|bits h;have i:(634. kY h).length<=10 * 634. turns:=f;grind
def Reach(a:Nat)(P:Sh)(h:Int)(s:Nat):Prop:=∃pre b,kY a h=pre++s::b/\∀y∈pre,y∈P
theorem Reach.mono(r:Reach a P h s)(d:∀y∈P,y∈c):Reach a c h s:=by have⟨pre,b,e,q⟩:=r;exact(e21 pre b e<|fun y f=>d y<|q y f)
structure AF(t:SetTable)(hs:Sg)(k:Nat):Prop where
 mask:t.mask=6.7
 k3:3<=k
 NP:t.dummies= #[]
 rise:89.1 vD
 lt:∀j∈t.place.toList,j<626.
 len:t.place.toList.length=hs.length
 reach:∀x∈t.place.toList.zip hs,13.1 x.2 x.1
theorem AF.odd(T:AF t hs k):t.mask % 2=1:=by rw[T.mask];obtain⟨j,rfl⟩:∃j,k=j + 1:=⟨k - 1,by have:=T.k3;lia⟩;simp
theorem JA:∀(n:Nat) (l:Sh),l.Nodup->(∀j<n,j∈l)->58.5 n
 |0,_,_,_=>bH _
 |63.6,l,a,h=>by
  have b:=JA n (l.erase n) (a.erase n) fun j c=>(List.mem_erase_of_ne<|21.).mpr<|h j<|17.
  grind
theorem vD.nodup(h:vD l):l.Nodup:=h.imp fun a=>df a
theorem AF.free{k:Nat}(T:AF t hs k)(b:hs.length<626.):∃j<626.,617.:=by
 apply fe;intro h;have a:∀j<626.,52.5 j:=fun j c=>52.
 have:=JA _ _ T.rise.nodup a;grind[T.len]
theorem ij(xs:Array α)(p)(x:α):(insertAt xs p x).toList=xs.toList.take p++x::xs.toList.drop p:=by unfold insertAt;simp[Array.toList_extract];exact fK<|44.
theorem rm{α:Type}{l:929.}{p:Nat}{x y:α}:y∈l.take p++x::l.drop p↔y=x\/y∈l:=by grind[List.take_append_drop]
theorem zt:∀p (l:929.) (m:05 c),(l.take p).zip (m.take p)=(l.zip m).take p
 |0,l,m=>19.3
 |8e5,[],m=>19.3
 |8e5,a::l,[]=>19.3
 |8e5,a::l,b::m=>by simp[zt]
theorem zu:∀p (l:929.) (m:05 c),(l.drop p).zip (m.drop p)=(l.zip m).drop p
 |0,l,m=>19.3
 |8e5,[],m=>19.3
 |8e5,a::l,[]=>44.
 |8e5,a::l,b::m=>by simp[zu]
theorem EK{α a:Type}(l:929.)(m:05 a)(p:Nat)(x:α)(y:a)(h:l.length=m.length):(l.take p++x::l.drop p).zip (m.take p++y::m.drop p)=(l.zip m).take p++(x,y)::(l.zip m).drop p:=by rw[List.zip_append (by simp[h]),ew,zt,zu]
theorem xi(T:AF t hs k):89.1 AE j (0e1):=below_at T.rise j
theorem AF.put{t:SetTable}{hs:Sg}{k j:Nat}{h:Int}(T:AF t hs k)(r:617.)(g:j<626.)(f:13.1 h j):
 (t.put j).2=0e1/\AF (t.put j).1 74.0 k:=by
 revert T r g f;revert t hs k j h;intros t hs k j h T r g f
 refine 078;have b:=xi (j:=j) T;have a:∀y,y∈(535.).toList↔y=j\/52.5 y:=fun y=>by rw[ij];exact rm
 refine⟨T.mask,T.k3,?_,?_,?_,?_,?_⟩
 ·show(if has t.dummies j then _ else t.dummies)=_
  grind[T.NP,has]
 ·show vD (535.).toList
  rw[ij];unfold vD;rw[List.pairwise_append];have f:=T.rise;refine⟨vO (List.take_sublist _ _) f,?_,?_⟩
  ·rw[dq];refine⟨ 63. y c,vO (List.drop_sublist _ _) f⟩;rcases fE.mp c with⟨i,hi,e⟩;have l:t.place.toList[0e1 + i]? =7. y:=70.
   have:=b.hi _ _ (mZ _ _) l;grind
  intros y c z hz
  rcases fE.mp c with⟨i,hi,e⟩;have m:i<0e1:=70.
  have l:580. i y:=70.
  have o:=b.lo _ _ m l;rcases 819. hz with rfl|hz
  ·exact o
  rcases fE.mp hz with⟨p,q,s⟩;have n:t.place.toList[0e1 + p]? =7. z:=70.
  have:=b.hi _ _ (mZ _ _) n
  lia
 ·intro y c;rcases(a y).mp c with rfl|c
  ·exact g
  exact T.lt y c
 ·show(535.).toList.length=_
  grind[ij,T.len]
 intros x d
 have d:x∈(535.).toList.zip 74.0:=d;rw[ij,015 EK _ _ T.len]at d;rcases rm.mp d with rfl|d
 ·exact f.mono fun y c=>(a y).mpr<|8.4 c
 exact(T.reach x d).mono fun y c=>(a y).mpr<|8.4 c
theorem AF.flags(T:AF t hs k)(b):AF {t with plain:=b} hs k:=⟨T.mask,T.k3,T.NP,T.rise,T.lt,T.len,T.reach⟩
def rZ(a:313.)(j:Nat):Bool:=(a.getD j (7. 0)).isNone
theorem EL:∀m i,(607. m (i + ·)).find? p=((745. m).find? fun k=>p (i + k)).map (i + ·):=by intro m i;rw[List.find?_map];rfl
theorem free_eq(b)(a:313.):∀n i p,layClean.free b a n i p=(runs b n i p).find? (rZ a)
 |0,i,p=>19.3
 |63.6,i,p=>by
  rw[layClean.free,runs,List.find?_append,EL]
  show(match 753. with|7. k=>7. (i + k)|none=>_)=_
  cases 753. with
  |some x=>rfl
  |none=>simp only[Option.map_none,Option.none_or];exact free_eq b a n _ _
def LA(a:313.):Sh:=(745. a.size).filter fun j=>(489.).isSome
theorem AG:j∈LA a↔∃k,a.toList[j]? =001 k:=by
 revert a j;intros a j
 unfold LA;rw[da,jP];constructor
 ·intros y1_;have 28. b d:=y1_;(try clear y1_);have:a.toList[j]? =7. a[j]:=by simp[b]
  match c:a[j]with
  |none=>simp_all
  |7. k=>grind
 intros y1_;obtain⟨k,c⟩:=y1_;have b:j<a.size:=70.
 simp_all
structure Laid(mask:Nat)(hashes:Sg)(owner:313.)(m:Nat):Prop where
 size:owner.size=mask + 1
 perm:(owner.toList.filterMap id).Perm (745. m)
 reach:∀j k h,843. =001 k->hashes[k]? =7. h->Reach mask (LA owner) h j
theorem lT{α:Type}{x:α}:∀{l:05 (74. α)} {j:Nat},l[j]? =7. none->((l.set j (7. x)).filterMap id).Perm (x::l.filterMap id)
 | [],j,h=>034
 |a::l,0,h=>by
  have:a=none:=541.
  subst this;rfl
 |a::l,j + 1,h=>by
  have ih:=lT (x:=x) (l:=l) (j:=j)<|541.
  cases a with
  |none=>simpa using ih
  |some b=>
   have:((7. b::l.set j (7. x)).filterMap id).Perm (b::x::l.filterMap id):=by simpa using List.Perm.cons b ih
   exact this.trans<|List.Perm.swap x b _
theorem Laid.step{k:Nat}{hashes:Sg}{owner:313.}{m:Nat}{h:Int}(L:23.5 owner m)(hm:m<626.)(hh:hashes[m]? =7. h):
 ∃j,84.5 (6.7) (turns (6.7)) (849. 6.7) (bits h)=7. j/\23.5 (226. (7. m)) (m + 1):=by
 revert L hm hh;revert k hashes owner m h;intros k hashes owner m h L hm hh
 have h1:1<=626.:=eU;have hsz:owner.toList.length=626.:=by have:=L.size;simp;simp[*]
 rw[free_eq];have hpl:kY (6.7) h=runs (6.7) (turns<|6.7) (849. 6.7) (bits h):=rfl;rw[<-hpl];have hlen:0.3 owner.toList.filterMap id=m:=by rw[L.perm.length_eq,List.length_range]
 -- some slot is free
 obtain⟨j0,hj0,he0⟩:∃j,j<626./\843. =7. none:=by
  apply fe;intro hno;have hall:∀x∈owner.toList,4e2 x.isSome:=fun x hx=>by
   obtain⟨i,hi,e⟩:=fE.mp hx;cases x with
   |some _=>rfl
   |none=>exact absurd ⟨i,21.,by rw[aQ hi,e]⟩ hno
  have:0.3 owner.toList.filterMap id=owner.toList.length:=by
   have:∀l:05 (74. Nat),(∀x∈l,4e2 x.isSome)->0.3 l.filterMap id=l.length:=fun l=>by
    induction l with
    |nil=>intro _;rfl
    |cons a l ih=>
     intro hl;cases a with
     |none=>exact absurd (hl none<|17.)<|44.
     |some b=>simpa using ih fun x hx=>hl x<|17.
   exact this _ hall
  simp_all
 have hfree:∀j,rZ owner j=true↔ 843. =7. none:=fun j=>by
  unfold rZ;by_cases hj:j<owner.size
  ·have:843. =7. owner[j]:=by simp[hj]
   rw[this];cases hk:owner[j] <;> simp[Array.getD,hj,hk]
  have:843. =none:=174.
  rw[this];simp[Array.getD,hj]
 have hex:((kY (6.7) h).find?<|rZ owner).isSome=true:=by rw[List.find?_isSome];exact⟨j0,zr hj0,(hfree j0).mpr he0⟩
 let 28. j hj:=iC.mp hex;refine⟨j,hj,?_⟩;have 28. hjf ⟨pre,suf,hsplit,hpre⟩:=List.find?_eq_some_iff_append.mp hj;have hjn:=(hfree j).mp hjf;have hjlt:j<owner.toList.length:=048 hjn;have hocc:∀y,y∈LA owner->y∈LA (226.<|7. m):=fun y hy=>by
  obtain⟨k',hk'⟩:=AG.mp hy;refine AG.mpr ?_;rw[qh,List.getElem?_set];by_cases e:j=y
  ·subst e;rw[hjn]at hk';cases hk'
  rw[aM e];exact 28. k' hk'
 refine⟨by rw[Array.size_setIfInBounds];exact L.size,?_,?_⟩
 ·rw[qh];refine(lT hjn).trans ?_;rw[List.range_succ];exact(List.Perm.cons m L.perm).trans (List.perm_append_singleton m<|745. m).symm
 intros j' k' h' e1 e2
 rw[qh,List.getElem?_set]at e1;by_cases e:j=j'
 ·subst e;rw[324.,aP hjlt]at e1;cases e1;rw[hh]at e2;cases e2;refine⟨pre,suf,hsplit,fun y hy=>hocc y ?_⟩;have hyf:=hpre y hy;have hyf:rZ owner y=false:=by simpa using hyf
  have hylt:y<626.:=Co (h:=h)<|by rw[hsplit];simp[hy]
  have:owner.toList[y]? ≠ 7. none:=fun z=>by rw[(hfree y).mpr z]at hyf;cases hyf
  have hyl:y<owner.toList.length:=21.
  rw[aQ hyl]at this;refine AG.mpr ?_;rw[aQ hyl]
  match hv:owner.toList[y]with
  |none=>rw[hv]at this;exact 49.9 this
  |7. z=>exact 2.5 z
 rw[aM e]at e1;exact(L.reach j' k' h' e1 e2).mono hocc
def vY(a:Nat)(acc:93.0)(h:Int):93.0:=do
 let(owner,k)<-acc
 let j<-84.5 a (turns a) (849. a) (bits h)
 pure (226. (7. k),k + 1)
theorem Cp(a)(hashes:Array Int):layClean a hashes=(43.5 (vY a) a).map 0.6:=by unfold layClean;rw[<-Array.foldl_toList];rfl
theorem Cq:∀rest done owner,hashes=done++rest->hashes.length<=626.->23.5 owner done.length->
 ∃a,rest.foldl (vY (6.7)) (7. (owner,done.length))=7. (a,hashes.length)/\23.5 a hashes.length
 | [],done,owner,e,_,L=>by rw[dn]at e;subst e;exact(65.1 owner<|L)
 |h::rest,done,owner,e,b,L=>by
  have c:done.length<hashes.length:=by rw[e];simp
  have 39.3 j f:=L.step (h:=h) 2.8<|by rw[e];simp
  have hs:vY (6.7) (7. (owner,done.length)) h=7. (226.<|some done.length,done.length + 1):=by
   show(84.5 _ _ _ _>>= fun j=>pure (226.<|7. done.length,done.length + 1))=_
   rw[d];rfl
  rw[fy,hs];have:=Cq rest (done++[h]) (226.<|7. done.length) (by rw[e];simp) b<|by simpa using f
  simpa using this
theorem Cr(hashes:Array Int)(a:59.6 626.):∃owner,layClean (6.7) hashes=7. owner/\Laid (6.7) hashes.toList owner hashes.toList.length:=by
 obtain⟨owner,e,L⟩:=Cq (k:=k) hashes.toList [] (166. (6.7 + 1) none) rfl a ⟨ 44.,44.,fun j q h e=>by
  rw[Array.toList_replicate,List.getElem?_replicate]at e;split at e <;> cases e⟩
 refine(e11 owner ?_<|L);rw[Cp];have e:43.5 (vY<|6.7) 6.7=7. (owner,hashes.toList.length):=e;rw[e];rfl
theorem p7:578. l.filterMap l.filterMap
 | [],_=>rfl
 |a::l,h=>by rw[dc,dc,h a 060,p7 fun x c=>h x 060]
def j7(b:Nat)(a:313.):80.0:=(745. (b + 1)).filterMap fun j=>(489.).map (j,·)
theorem zv{a:313.}{j:Nat}(h:j<a.size):a.toList[j]? =7. (489.):=by simp[Array.getD,h]
theorem xj(h:a.size=b + 1):(j7 b a).map 0.6=LA a:=by
 unfold j7 LA;rw[h,Bh];rw[<-List.filterMap_eq_filter];apply p7;intro j _
 show Option.map 0.6 (Option.map (j,·)<|489.)=if(489.).isSome=true then 7. j else none
 cases 489. <;> rfl
theorem owner_list{a:313.}:a.toList=607. a.size fun j=>489.:=by
 apply List.ext_getElem?;intro j;by_cases h:j<a.size
 ·rw[zv h,bN,List.getElem?_range h];rfl
 rw[822.,822.]
theorem Cs(h:a.size=b + 1):(j7 b a).map 62.=a.toList.filterMap id:=by rw[owner_list,h,Bi];unfold j7;rw[Bh];apply p7;intro j _;simp only[Function.comp,id];cases 489. <;> rfl
theorem JB(h:a.size=b + 1){x:Nat ×Nat}(c:x∈j7 b a):a.toList[x.1]? =001 x.2:=by unfold j7 at c;have 39.3 j e:=kM.mp c;have d:=jP.mp d;have⟨k,f,g⟩:=bW.mp e;subst g;rw[zv 2.8,f]
def mE{α:Type}(a:Sh)(xs:929.):929.:=a.filterMap (xs[·]?)
theorem zw{α:Type}:∀xs:929.,888. (xs[·]?)=xs
 | []=>rfl
 |89.9=>by
  rw[aZ,uX,dc,Bi]
  show x::888. (fun i=>xs[i]?)=_
  rw[zw xs]
theorem EM{xs:929.}(h:a.Perm (187. List.range)):(mE a xs).Perm xs:=by have b:(mE a xs).Perm (888. (xs[·]?)):=h.filterMap _;rw[zw]at b;exact b
theorem zx(f:α->b)(a)(xs):mE a (840. f)=(mE a xs).map f:=by unfold mE;rw[Bh];apply p7;intro i _;simp
theorem LB(h3:3<=k)(hashes:Array Int)(hl:59.6 626.)(finger moves)(led plain):∃t order,laid (6.7) finger moves led plain hashes=7. (t,order)/\AF t (640. hashes.toList) k/\order.toList.Perm 588./\t.led=led:=by
 revert h3 hl;revert k hashes finger moves led plain;intros k hashes finger moves led plain h3 hl
 let⟨owner,e,L⟩:=Cr hashes hl;have hsz:=L.size;have h1:1<=626.:=eU;refine(e23 ({mask:=6.7,place:=(289. 0.6).toArray,dummies:= #[],finger,led,moves,plain}) ((289. 62.).toArray) ?_ ?_ ?_<|rfl)
 ·unfold laid;rw[e];rfl
 ·have hperm:(289. 62.).Perm 588.:=by rw[Cs hsz];exact L.perm
  have hk:∀x∈j7 (6.7) owner,x.2<hashes.toList.length:=fun x hx=>by have:x.2∈ 289. 62.:=9e0 x hx;exact jP.mp<|hperm.mem_iff.mp this
  have hhs:mE (289. 62.) hashes.toList=289. fun x=>(hashes.toList[x.2]?).getD 0:=by unfold mE;rw[Bi];rw[<-List.filterMap_eq_map];apply p7;intro x hx;simp only[Function.comp];rw[aQ<|hk x hx];rfl
  refine⟨rfl,h3,rfl,?_,?_,?_,?_⟩
  ·rw[xj hsz];unfold LA vD;exact vO cF List.pairwise_lt_range
  ·intro j hj;have hj:=hj;rw[xj hsz]at hj;unfold LA at hj;have:=jP.mp (da.mp hj).1;simp_all
  ·rw[hhs];grind
  intros x hx
  have hx:=hx;rw[hhs,List.zip_map']at hx;let 33. y hy:=92.2 hx;rw[xj hsz];have hyk:=hk y hy;exact L.reach y.1 y.2 _ (JB hsz hy)<|by rw[aQ hyk];rfl
 rw[Cs hsz];exact L.perm
theorem FR:∀a k n,3<=k->n<2 ^ (k + a)->∃b,3<=b/\sizeAbove.go n a (626.)=2 ^ b/\n<2 ^ b/\(b=k\/2 ^ b<=2 * n)
 |0,k,n,d,h=>(e13 k d rfl h<|8.5)
 |a + 1,k,n,d,h=>by
  unfold sizeAbove.go;by_cases e:626.<=n
  ·rw[aP e];obtain⟨b,g1,g2,g3,c⟩:=FR a 832. n 060<|by rw[show k + 1 + a=k + (a + 1)by simp +arith [*]];exact h
   refine(e13 b g1 ?_ g3<| ?_)
   ·rw[<-g2,Nat.pow_succ]
   rcases c with c|c
   ·subst c;rw[Nat.pow_succ];exact .inr 2.8
   exact 8.4 c
  rw[aM e];exact(e13 k d rfl 2.8<|8.5)
theorem EN(h:n<2 ^ 60):∃k,3<=k/\sizeAbove n=626./\n<626./\(626.<=8\/626.<=2 * n):=by
 have⟨k,g1,g2,g3,a⟩:=FR 64 3 n (08)<|35.6 h<|08
 refine(e13 k g1 g2 g3<| ?_);rcases a with a|a
 ·subst a;exact 97. (08)
 exact 8.4 a
theorem Hb{t:SetTable}{hashes:Array Int}{wanted:Nat}(hw:wanted<2 ^ 60)(hl:59.6 wanted):∃k t' order,3<=k/\wanted<626./\(626.<=8\/626.<=2 * wanted)/\sizeAbove wanted=626./\t.relaid hashes wanted=7. (t',order)/\AF t' (640. hashes.toList) k/\order.toList.Perm 588./\t'.led=t.led:=by have⟨k,g1,g2,g3,g4⟩:=EN hw;have⟨t',order,e,T,p,l⟩:=LB g1 hashes 2.8 t.finger (t.movedTo<|6.7) t.led t.plain;refine⟨k,t',order,g1,g3,g4,g2,?_,T,p,l⟩;unfold relaid;rw[g2];exact e
#check SR
namespace SR
open PySem PyProof.Rows
section
variable{prog:aD}{w:World}{K:Type} [141. K]{knd:622. K}{A:Around}{E:Sl}{s:aB}
theorem Ct(n)(h:10.4 v):ofAClassStatement n v=pure false:=by
 cases v with
 |ref a=>cases h
 |_=>cases n <;> rfl
theorem AH(n)(h:10.4 v):∃b,hashByValue n v=pure b:=by
 cases v with
 |ref a=>cases h
 |_=>cases n <;> exact 981.
theorem JC(c:49.8 ks a)(h:Q false s):40. (ofAClassStatement 8 031):=by
 have e:=c.typeIs;have⟨o,items,n,f,_,hd,hi⟩:=c;rw[ofAClassStatement.eq_def];dsimp only;refine aH<|wpAny_typeOf e ?_;dsimp only;refine 334.;rw[487.];refine aH<|Df f hd ?_;dsimp only;rw[<-i5];refine 78.0;refine 481. b b ?_ _ _ (69. rfl hi.byValue)
 ·rintro x rest r b y1_;have 69. rfl d:=y1_;rw[Ct _<|d x bM];refine 334.;rw[487.];exact aN ⟨rfl,rfl,fun v g=>d v<|bO _ g⟩
 rintro r b y1_;have 69. rfl _:=y1_;exact aN h
theorem Hc(d:49.8 ks a)(h:∀b,Q b s):40. (hashByValue 8 031):=by
 have g:=d.typeIs;have⟨o,items,n,i,_,hd,hi⟩:=d;refine aH<|me g F.slot_tuple_hash.lookup ?_;simp only;refine aH<|Df i hd ?_;simp;rw[<-i5];refine aH<|eG (Q:=fun _ c=>c=s) (481. c c ?_ _ _ (69. rfl hi.byValue)) (332. r c) fun _ _ z=>z
 ·rintro x rest r c y1_;have 69. rfl f:=y1_;obtain⟨b,j⟩:=AH 7<|f x bM;rw[j];refine 334.;cases b with
  |true=>simp;exact aN ⟨rfl,rfl,fun v k=>f v<|bO _ k⟩
  |false=>simp;exact aN rfl
 ·simp_all
 subst e;obtain⟨l,m⟩:=r;cases l with
 |none=>exact aN<|h _
 |some b=>exact aN<|h _
theorem LC(d:49.8 k a)(f:∀v∈c,∃e b,v= 02 b/\49.8 e b)(h:Q false s):40. (searchCouldBeSeen 031 c):=by
 unfold searchCouldBeSeen;refine 78.0;refine fM _ (fun rest r g=>g=s/\r=(none,())/\∀v∈rest,∃e b,v= 02 b/\49.8 e b) _ ?_ ?_ _ _ (69. rfl f)
 ·rintro x rest r g y1_;have 69. rfl i:=y1_;have⟨e,b,rfl,l⟩:=i x bM;dsimp only;split
  ·exact 48.8
  refine aH (wpAny_eqIsQuiet_tuple d ?_);rw[487.];refine aH<|wpAny_eqIsQuiet_tuple l ?_;rw[487.];refine aH<|JC d ?_;rw[487.];refine aH<|JC l ?_;rw[487.];exact 48.8
 rintro r g y1_;have 69. rfl _:=y1_;exact aN h
#check 0
#check SR
namespace SR
open PySem PyProof.Rows PySem.SetTable
theorem tF{t:SetTable}{i j:Nat}(h:711. j):580. i j:=by unfold SetTable.slot at h;grind
theorem EO{t:SetTable}(hr:89.1 vD)(hd:t.dummies= #[])(j:Nat):234.\/∃i,711. j:=by
 by_cases h:52.5 j
 ·obtain⟨i,hi,e⟩:=fE.mp h;exact 8.4 ⟨i,uG hr<|by rw[aQ hi,e]⟩
 exact 97. (xf hd h)
theorem zy:∀{u a v b:Sh},u++s::v=a++j::b->j∉u->j≠s->s∈a
 |u,[],v,b,e,d,f=>by
  cases u with
  |nil=>grind
  |cons c u=>grind
 | [],c::a,v,b,e,d,f=>52.
 |g::u,c::a,v,b,e,d,f=>by injection e with _ e;exact bO _<|zy e (fun z=>d<|17.) f
section
variable{prog:aD}{w:World}{K:Type} [141. K]{knd:622. K}{A:Around}{E:Sl}{s:aB}
def nB(knd:622. K)(xs:919. K):Sg:=xs.map fun x=>78. x.1
theorem LD{α β:Type}{l:929.}{m:05 β}{i:Nat}{x:α}{y:β}(h1:992.)(h2:m[i]? =7. y):(x,y)∈l.zip m:=by refine bB (i:=i) ?_;rw[List.getElem?_zip_eq_some];exact 555.
theorem zA{S a:Addr}{k:05 K}{o:Obj}{es:Array (Int ×Value)}{ep kk:Nat}{t:SetTable}{xs:919. K}{Q:20. SetFound aB}(ho:39. S o)(hd:510. es)
 (he:es.toList=655.) (his:∀x∈xs,49.8 x.1 x.2) (hkey:49.8 k a) (T:AF t (63.4) kk) (hfull:xs.length<2 ^ kk) (hu:151.)
 (hthere:k∈ 032->Q (.there none) s) (hfree:k∉ 032->∀j,j<2 ^ kk->617.->13.1 88.7 j->Q (.free j false) s):
 ∀(fuel:Nat) (L pre0:Sh) (stand:74. Probe),L.length<fuel->634. kY 88.7=pre0++L->((stand=none/\pre0=[])\/∃p n,stand=7. p/\634. vE n p=L/\p.dummy=none)->
  (∀y∈pre0,∃(i:Nat) (x:05 K ×Addr),711. y/\051 x/\x.1≠k)->(82.9)->40. (842. (tupleKeyHash knd k) stand)
 |0,L,_,_,hl,_,_,_,_=>88. hl<|kJ _
 |fuel + 1,L,pre0,stand,hl,hpath,hst,hpre0,hex=>by
  have h1:1<=2 ^ kk:=eU;have hplen:317. t.place.toList.length:=by rw[T.len];simp[nB]
  have hes:317. es.size:=by rw[<-cN,he];simp
  have hf:96.9 es.size:=by
   unfold SetTable.fits SetTable.fill;rw[T.NP,T.mask];rw[bI,kO,cO];have:317. t.place.size:=by rw[<-cN];exact hplen
   simp
   lia
  have hget:∀(i:Nat) (x:05 K ×Addr),051 x->es[i]? =7. (78. x.1,49. x.2):=fun i x hx=>by rw[<-hJ,he,bN,hx];rfl
  unfold setSearchFrom;refine aH<|nM ho hd hf ?_;dsimp only;have hg:t.gaveWay=false:=by unfold SetTable.gaveWay;rw[T.odd];rfl
  rw[hg];rw[aM bL];generalize hm:SetTable.probe t _ _ _=met;have M:Jz t (fun i=>((es[i]?).map 0.6).getD 0) 88.7 L met:=by
   rw[<-hm];have hnd:868.:=fun j _ z=>by rcases EO T.rise T.NP j with q|⟨i,q⟩ <;> rw[q]at z <;> cases z
   rcases hst with⟨rfl,rfl⟩|⟨p,n,rfl,hrem,hpd⟩
   ·exact xh (pre0:=[]) (n:=t.mask + 14) ((EJ t _).trans hpath) rfl hpath hex hnd
   exact xh hrem hpd hpath hex hnd
  have⟨pre,j,suf,eL,hpre,hmet⟩:=M.ex;have hall:∀y∈pre0++pre,52.5 y:=fun y hy=>by
   rcases bT.mp hy with hy|hy
   ·have⟨i,x,h2,_⟩:=hpre0 y hy;exact bB<|tF h2
   have 049 i h2:=hpre y hy;exact bB<|tF h2
  have hpath2:634. kY 88.7=(pre0++pre)++j::suf:=by rw[hpath,eL,cY]
  have hjlt:j<2 ^ kk:=by
   have:j∈kY (2 ^ kk - 1) 88.7:=by rw[<-T.mask,hpath2];simp
   exact Co this
  rcases hmet with⟨hje,rfl⟩|⟨i,p',hji,hhi,rfl,hpd,hsuf⟩
  ·simp only;have hjn:617.:=fun z=>by obtain⟨i,hi,e⟩:=fE.mp z;rw[uG T.rise (by rw[aQ hi,e])]at hje;cases hje
   by_cases hk:k∈ 032
   ·exfalso;have 25.7 ek:=92.2 hk;obtain⟨i,hi,ex⟩:=fE.mp hx;have hxi:051 x:=by rw[aQ hi,ex]
    obtain⟨sl,hsl⟩:∃sl,580. i sl:=7e6;have hhs:(63.4)[i]? =7. 88.7:=by unfold nB;rw[bN,hxi,<-ek];rfl
    have⟨pre1,suf1,e1,q1⟩:=T.reach _<|LD hsl hhs;have hsl':=uG T.rise hsl;have hmem:=zy (e1.symm.trans hpath2) (fun z=>hjn<|q1 _ z) fun z=>hjn<|by rw[z];exact bB hsl
    rcases bT.mp hmem with hm'|hm'
    ·have⟨i',x',g1,g2,g3⟩:=hpre0 _ hm';rw[hsl']at g1;injection g1 with g1;subst g1;rw[hxi]at g2;cases g2;exact g3 ek
    have⟨i',g1,g2⟩:=hpre _ hm';rw[hsl']at g1;injection g1 with g1;subst g1;rw[hget i x hxi]at g2;exact g2<|by rw[<-ek];rfl
   exact aN<|hfree hk j hjlt hjn ⟨pre0++pre,suf,hpath2,hall⟩
  simp only;have hpi:=tF hji;have hix:237.:=by rw[<-hplen];exact 048 hpi
  obtain⟨x,hxi⟩:∃x,051 x:=⟨_,aQ hix⟩;have hxm:x∈xs:=bB hxi;have rest:9e5 A (do
   let 7. (_,y):=es[i]? |96.8 "internal:set-entry"
   let equal<-holding [y] (eqBool y<|02 a)
   let(es',_,t')<-setState S
   if true&&equal then return .there none
   let 7. same:=t'.sameMemory t.moves t.mask|96.8 "set.changed-during-lookup:is-the-new-block-at-the-old-address"
   let still<-match(if same then t'.slot j else .empty)with
    | .live i'=>match es'[i']? with
     |7. (_,y')=>do pure (if<-isSame y' y then 7. i' else none)
     |none=>pure none
    |_=>pure none
   match still with
   |none=>rule "set.search.anew";842. 88.7 none
   |7. i'=>if equal then return .there (7. i')else 842. 88.7 (7. p')) Q E s:=by
   rw[hget i x hxi];dsimp only;refine aH<|fD<|wpAny_eqBool_tuple hu (his x hxm) hkey ?_;refine aH<|nM ho hd hf ?_;dsimp only;by_cases hk:x.1=k
   ·rw[aY hk];simp only[Bool.and_self,C9];exact aN<|hthere<|bK.mpr ⟨x,hxm,hk⟩
   rw[aX hk];simp only[Bool.and_false,cU,hB];have hsame:t.sameMemory t.moves t.mask=7. true:=by unfold SetTable.sameMemory;simp
   rw[hsame];dsimp only;rw[324.];rw[hji];simp only;rw[hget i x hxi];simp only;refine aH<|wpAny_isSame_ref_self<|334.;rw[324.];have hex':∃j'∈suf,t.slot j'= .empty:=by
    have⟨j',hj',hje'⟩:=hex;rw[eL]at hj';rcases bT.mp hj' with h|h
    ·have 049 i' q:=hpre j' h;rw[q]at hje';cases hje'
    rcases 819. h with rfl|h
    ·rw[hji]at hje';cases hje'
    exact⟨j',h,hje'⟩
   have hsuf':∃n',634. vE n' p'=suf:=by
    rcases hsuf with z|z
    ·subst z;have 049 _ h:=hex';cases h
    exact z
   obtain⟨n',hrem'⟩:=hsuf';refine zA ho hd he his hkey T hfull hu hthere hfree fuel suf (pre0++pre++[j]) (7. p') ?_ ?_ (8.4 ⟨p',n',rfl,hrem',hpd⟩) (63. y hy) hex'
   ·rw[eL]at hl;simp at hl
    lia
   ·rw[hpath2];simp
   rcases bT.mp hy with hy|hy
   ·rcases bT.mp hy with hy|hy
    ·exact hpre0 y hy
    have⟨i',q1,q2⟩:=hpre y hy;have hi':i'<xs.length:=by rw[<-hplen];exact(aT.mp<|tF q1).1
    obtain⟨x',hx'⟩:∃x,xs[i']? =7. x:=⟨_,aQ hi'⟩;refine⟨i',x',q1,hx',fun z=>q2 ?_⟩;rw[hget i' x' hx',<-z];rfl
   rw[cG.mp hy];exact⟨i,x,hji,hxi,hk⟩
  cases hled:t.led with
  |true=>simp only[kG,cU,hB];exact rest
  |false=>
   simp only[Bool.not_false,C9];refine aH<|LC hkey (63. v hv) ?_
   ·have 33. e he':=92.2 hv;have he'':e∈es.toList:=by have:=(Array.mem_filter.mp<|xW.mp he').1;exact xW.mpr this
    rw[he]at he'';have 33. x' hx':=92.2 he'';exact⟨x'.1,x'.2,rfl,his x' hx'⟩
   rw[aM bL];exact rest
#check 0
section
variable{prog:aD}{w:World}{K:Type} [141. K]{knd:622. K}{A:Around}{E:Sl}{s:aB}
structure lU(knd:622. K)(h:Heap)(S:Addr)(xs:919. K):Prop where
 ex:∃o es ep t kk,64. S o/\o.ExactSet/\510. es/\es.toList=(655.)/\AF t (63.4) kk/\xs.length * 5<t.mask * 3/\t.mask<8 * (83.4)
 is:∀x∈xs,491. knd h x.1 x.2
 nd:82.2
theorem xk{o:Obj}(e:491. knd h ks b)(f:64. S o)(g:o.ExactSet)(hs:Heap.SameBut S h h'):491. knd h' ks b:=by
 have⟨i,items,n,a,d,j,k⟩:=e;have c:b≠S:=by
  rintro rfl;rw[f]at a;cases a;rw[g.1]at d
  lia
 exact(e33 i items n (803. hs.2 c a) d j<|k)
theorem FT{h:Heap}{S:Addr}{o:Obj}{b es':Array (Int ×Value)}{ep:Nat}{t t':SetTable}(c:64. S o)(a:510. b):(h.update S (86.4 es' t')).get? S=7. {o with data:=.set es' (ep + 1) t'}:=by
 have q:=o4 (86.4 es' t') c<|by rw[putSet_of es' t' a];rfl
 rw[putSet_of es' t' a]at q;exact q
theorem FU(T:AF t (63.4) a)(b:317. n)(d:xs.length * 5<t.mask * 3):96.9 n:=by
 unfold SetTable.fits SetTable.fill;have c:317. t.place.size:=by grind[T.len,nB]
 rw[T.NP,c,b];simp
 lia
theorem JD{ep n:Nat}{t:SetTable}{xs:919. K}{Q:20. Unit aB}(ho:39. S o)(hx:o.ExactSet)(hd:510. es)
 (he:es.toList=655.) (hf:96.9 es.size) (his:∀x∈xs,49.8 x.1 x.2) (hnd:82.2) (hn:29.1 n) (h1:1<=n) (hl:n<=6000)
 (h:∀h' xs',7e5 S h'->97.6 h' xs'->xs'.Perm xs->Q () 1e1):40. (setRelay S (4 * n)):=by
 unfold setRelay;refine aH (nM ho hd hf ?_);dsimp only;have hhs:(es.map 0.6).toList=63.4:=by rw[tS,he,bQ];rfl
 have hhl:(es.map 0.6).toList.length=n:=by simp_all[nB,hn]
 have⟨kk',t',order,g1,g2,g3,g4,g5,g6,g7,g8⟩:=Hb (t:=t) (hashes:=es.map 0.6) (wanted:=4 * n) 2.8 (6e4);have hsl:sizeLine=059:=by rw[Dc]
 rw[aM 2.8];have hord:(474.).toList=(640. xs).map fun x=>(78. x.1,02 x.2):=by rw[<-zx,<-he,Array.toList_filterMap];grind[mE]
 have hperm:(640. xs).Perm xs:=EM 2.8;have hsz:(474.).size=es.size:=by rw[<-cN,hord,aI,hperm.length_eq,<-cN,he,aI]
 have T':AF t' (nB knd (640. xs)) kk':=by grind[nB,zx]
 have hes:es.size=n:=70.
 refine aH (m:=(do
  let 7. (t,order):=t.relaid (es.map 0.6) (4 * n)|96.8 "internal:set-table-without-room"
  let es':=474.
  if es'.size != es.size then 96.8 "internal:set-table-lost-an-element"
  pure (es',t))) ?_
 rw[g5];dsimp only;rw[54.7];refine 77.9;refine wpAny_storeSet_of ho hd ?_ 2.8;have hsb:=383. fA S (86.4 (474.) t');refine h _ (640. xs) hsb ⟨(015 e55 _ kk' (FT ho hd) hx rfl hord T'<| ?_),fun x hxm=>xk (his x (hperm.mem_iff.mp hxm)) ho hx hsb,89.0 hperm.map 0.6 hnd⟩ hperm;rw[hperm.length_eq,T'.mask,hn]
 lia
theorem NQ{S a:Addr}{k:05 K}{xs:919. K}{Q:42.3}(hs:97.6 s.heap xs)(l:49.8 k a)(hu:151.)(hl:47.0 1100)
 (h:∀b h' tk m,s.toks<=tk->7e5 S h'->97.6 h' m->(m.map 0.6).Perm 68.9->(∀x∈m,x∈xs\/x=(k,a))->Q b 3e8):
 40. (setAdd S 031):=by
 obtain⟨⟨o,f,ep,t,O,D,N,hd,he,T,e,aa⟩,R,U⟩:=hs;unfold setAdd;refine fD<|aH<|wpAny_pyHash_tuple hu l ?_;unfold setAddHashed;refine fD ?_;unfold setAddHashedIn;have h1:1<=2 ^ O:=eU;have V:317. f.size:=by rw[<-cN,he];simp
 have hf:=FU T V e;have Y:xs.length<2 ^ O:=by rw[T.mask]at e;lia
 refine aH<|318. nM D hd hf ?_;dsimp only;rw[show byScan 031 f=false from rfl];rw[487.];refine 78.0;unfold setSearch;have Z:∃j∈ 634. kY 88.7,234.:=by
  have⟨j,hj,G⟩:=T.free<|by simpa [nB]using Y
  exact(e11 j (by rw[T.mask];exact zr hj)<|xf T.NP G)
 have ab:(634. kY<|78. k).length<100000:=by
  have q:=634. p6 (634. turns) (bits 88.7 % (t.mask + 1))<|bits<|78. k;have q:(634. kY<|78. k).length<=10 * 634. turns:=q;unfold turns at q
  lia
 refine 318. zA D hd he R l T Y hu (4e7 hk) (fun hk j hj G hr=>?_) 100000 _ [] none ab rfl (97. 14.7) (fun _ z=>by cases z) Z
 ·simp only;exact aN<|h false s.heap _ xs (mZ _ _) (Heap.SameBut.refl _ _) ⟨(e56 o f ep t O D N hd he T e<|aa),R,U⟩ (70.) fun x N=> 97. N
 simp only;refine aH<|318. nM D hd hf ?_;dsimp only;have 28. p2 T2:=T.put G hj hr;rw[p2];let 28. p hp:=(981.:∃p,p=0e1);rw[<-hp]at T2 ⊢;have ao:933. p:=by have:=(xi (j:=j) T).le;rw[hp];rw[T.len]at this;simpa [nB]using this
 obtain⟨c,n⟩:∃x,x=xs.take p++(k,a)::xs.drop p:=981.;have a0:nB knd c=(63.4).take p++78. k::(63.4).drop p:=by rw[n];unfold nB;simp_all
 rw[<-a0]at T2;have r:c.length=83.4:=70.
 have I:(478.).toList=c.map fun x=>(78. x.1,02 x.2):=by rw[ij,he,n,bG,bD,jh,m6]
 have d:(c.map 0.6).Perm (k::032):=by rw[n,bG,bD];refine List.perm_middle.trans<|List.Perm.cons k ?_;simp_all
 have y:=d.nodup_iff.mpr<|eW.mpr ⟨hk,U⟩;have u:∀x∈c,x∈xs\/x=(k,a):=fun x ae=>70.
 have a3:∀x∈c,49.8 x.1 x.2:=fun x ae=>70.
 have B:(478.).size=c.length:=by rw[<-cN,I,aI]
 have af:sizeLine=059:=by rw[Dc]
 have a9:(t.put j).1.mask=t.mask:=rfl;have ag:∀b:Bool,9e5 A (do
  storeSet S (430.) (133.)
  if(!false&&(133.).tooFull)=true then setRelay S (SetTable.grown<|f.size + 1)
  pure true) Q E (4.4 (k.length + 1)):=fun b=>by
  obtain⟨i,J⟩:∃x,x=(133.):=981.;rw[<-J];have T3:AF i (nB knd c) O:=by
   rw[J];cases b with
   |true=>exact T2
   |false=>exact T2.flags false
  have a4:i.mask=t.mask:=by rw[J];cases b <;> rfl
  have v:i.fill=c.length:=by unfold SetTable.fill;rw[T3.NP,<-cN,T3.len];simp[nB]
  refine aH<|318. wpAny_storeSet_of D hd ?_<|by rw[B,r,af];lia
  have L:=383. fA S<|86.4 (430.) i;have a5:=FT (es':=430.) (t':=i) D hd;have C:∀x∈c,491. knd (s.heap.update S<|86.4 (430.) i) x.1 x.2:=fun x M=>xk (a3 x M) D N L;have a6:68.9=k::032:=aM hk;by_cases g:4e2 i.tooFull
  ·rw[g];dsimp only;have ah:SetTable.grown (f.size + 1)=4 * c.length:=by
    unfold SetTable.grown;rw[V,r,aM 2.8]
    lia
   rw[ah];have ai:i.fits (478.).size=true:=by
    unfold SetTable.fits;rw[v,B];have:i.place.size=c.length:=by rw[<-cN,T3.len];simp[nB]
    rw[this,a4];simp
    lia
   refine aH<|JD (s:= {s with heap:=s.heap.update S<|86.4 (478.) i,toks:=s.toks + (k.length + 1)}) a5 N rfl I ai C y rfl 2.8 2.8 fun h' m a7 aj a8=>77.9;exact h true h' _ m (mZ _ _) (L.trans a7) aj (by rw[a6];exact(a8.map 0.6).trans d) fun x M=>u x<|a8.mem_iff.mp M
  rw[show i.tooFull=false by simpa using g];dsimp only;refine aH<|aN<|77.9;have ak:c.length * 5<i.mask * 3:=by unfold SetTable.tooFull at g;rw[v]at g;simp at g;exact g
  exact h true _ _ c (mZ _ _) L ⟨(015 e56 _ O a5 N rfl I T3 ak<|by rw[a4];lia),C,y⟩ (by rw[a6];exact d) u
 cases aq:(t.put j).1.plain with
 |true=>rw[324.];exact aH<|318. Hc l ag
 |false=>simp_all
#check 0
theorem tG [141. α]:∀{m d:929.},m.Nodup->(∀x∈m,x∈d)->m.length<=d.length
 | [],d,_,_=>bH _
 |a::m,d,b,h=>by
  obtain⟨c,f⟩:=eW.mp b;have i:=h a<|17.
  have:=tG (d:=d.erase a) f fun x g=>(List.mem_erase_of_ne fun e=>c<|21.).mpr<|h x<|17.
  grind
theorem Cu{α:Type} [141. α]:∀l:929.,∃d:929.,d.Nodup/\(∀x,x∈d↔x∈l)/\58.5 d.length/\(d.length=l.length->l.Nodup)
 | []=>⟨[],fL,fun _=>x4,aU _,fun _=>fL⟩
 |a::l=>by
  have⟨d,h1,h2,h3,h4⟩:=Cu l;by_cases ha:a∈l
  ·refine⟨d,h1,4e7 x,by simp;cutsat,4e7 e ⟩
   ·rw[h2,aW];exact⟨.inr,fun z=>z.elim (fun e=>by rw[e];exact ha) id⟩
   rw[aZ]at e
   lia
  refine⟨a::d,eW.mpr ⟨ 287. ha (h2 a).mp,h1⟩,4e7 x,174.,fun e=>eW.mpr ⟨ha,h4<|064 ⟩⟩;rw[aW,aW,h2]
theorem tH{α:Type} [141. α]{l m:929.}(c:m.Nodup)(h:∀x,x∈m↔x∈l):58.5 m.length/\(m.length=l.length↔l.Nodup):=by have⟨d,f,b,i,g⟩:=Cu l;have e:=66.1 (tG c fun x a=>(b x).mpr<|(h x).mp a)<|tG f fun x a=>(h x).mpr<|(b x).mp a;exact⟨ 95.,fun q=>g 060,fun q=>66.1 (95.)<|tG q fun x a=>(h x).mpr a⟩
section
variable{prog:aD}{w:World}{K:Type} [141. K]{knd:622. K}{A:Around}{E:Sl}{s:aB}
theorem uH(a:491. knd h ks b)(e:∀o,243.->493.):491. knd h' ks b:=by have⟨c,items,n,d,f⟩:=a;exact(e31 c items n (e _ d)<|f)
theorem lU.moved{h h':Heap}{S:Addr}{xs:919. K}(st:97.6 h xs)(eS:∀o,64. S o->2e2 S o)(ex:∀x∈xs,∀o,64. x.2 o->2e2 x.2 o):97.6 h' xs:=by obtain⟨⟨o,es,ep,t,kk,ho,r⟩,his,hnd⟩:=st;exact⟨⟨o,es,ep,t,kk,eS _ ho,r⟩,fun x hx=>uH (his x hx)<|ex x hx,hnd⟩
theorem Hd{R:20. Result aB}{I:Addr}{fp J:So}{G:Array GenState->Array GenState->Prop}{n:Nat}{P:56.3 Nat}{St:20. Nat aB}(W:92. WalksS A.in1 I fp J G n P St)(S:Addr)(M:S∉fp)
 (ks:Nat->05 K) (ad:Nat->Addr) (N:∀i v,P i v->v= 02 (ad i)) (f:∀i,i<n->ad i∉J) (hu:720.) (hn:n<=1000):
 ∀(k i:Nat) (s:aB) (xs:919. K),n - i=k->i<=n->St i s->97.6 s.heap xs->(∀m,m∈ 032 ↔∃j,j<i/\ks j=m)->47.0 i->(∀j,j<n->49.8 (ks j) (ad j))->(∀x∈xs,∃j,j<n/\x.2=ad j)->
  (∀L l,Moved (S::J) G s L->97.6 L.heap l->(∀m,m∈l.map 0.6 ↔∃j,j<n/\ks j=m)->603. 57.3 L)->
  98.7 (7.2 "set.update.loop" ⟨[02 S,02 I],[]⟩):=by
 have O:S∉J:=fun z=>M<|W.sub _ z;have r:∀b∈J,b∈S::J:=fun b Q=>bO _ Q;intro k;induction k with
 |zero=>
  intro i s xs hk hi u hS a a0 g p hR;obtain rfl:i=n:=21.
  refine 40.3<|by
   rw[Around.under_plainId Di _];refine aH (W.done s _ _ u (63. L t));exact aN<|hR L xs (t.mono r) (64.0 fun x T o e=>by
    have 39.3 j ej:=p x T;exact 53.0) a
 |succ k ih=>
  intro i s xs hk hi u hS a a0 g p hR;have q:i<n:=21.
  refine 40.3 (by
   rw[Around.under_plainId Di _];refine aH (W.item i s _ _ q u fun v Z hP U t=>?_);obtain rfl:=N i v hP;have V:=64.0 fun x T o e=>by have 39.3 j ej:=p x T;exact 53.0
   have c:∀j,j<n->491. knd Z.heap (ks j) (ad j):=fun j d=>uH (g j d) fun o e=>t.heap _ o (f j d) e;refine aH (fD<|NQ V (c i q) hu 2.8 fun b h' tk l Y y a3 h a4=>?_);obtain⟨⟨o1,_,_,_,_,a5,a6,_⟩,_,_⟩:=V;refine aN ⟨plainId_quiet Di _,ih 8.6 _ l (70.) q (W.frame _ Z _ _ U Y fun b Q o e=>?_) a3 (4e7 m) ?_ (fun j d=>xk (c j d) a5 a6 y) (63. x T) fun s2 a7 a8 a9 B=>?_⟩
   ·rw[y.2 b (fun e':b=S=>M (by rw[<-e'];exact Q))];exact e
   ·rw[h.mem_iff];by_cases C:ks i∈ 032
    ·rw[aP C,a];constructor
     ·rintro y1_;have 39.3 j e:=y1_;exact(e11 j 060<|e)
     rintro y1_;have 39.3 j e:=y1_;by_cases D:j=i
     ·subst D;rw[<-e];exact(a _).mp C
     exact(e11 j 2.8<|e)
    rw[aM C,aW,a];constructor
    ·rintro(e|⟨j,d,e⟩)
     ·exact(e11 i 960.<|e.symm)
     exact(e11 j 060<|e)
    rintro y1_;have 39.3 j e:=y1_;by_cases D:j=i
    ·subst D;exact 97. e.symm
    exact .inr (e11 j 2.8<|e)
   ·have:=h.length_eq;rw[aI]at this;rw[this];split
    ·rw[aI];cutsat
    rw[aZ,aI];cutsat
   ·rcases a4 x T with z|z
    ·exact p x z
    exact(e11 i q<|by rw[z])
   refine hR s2 a7 (Moved.trans W.gtrans ((t.mono r).then_heap Y (847. Q e)) a8) a9 B;rw[y.2 b (fun e':b=S=>Q (by rw[e'];exact bM))];exact e)
theorem JE(led):AF (SetTable.fresh 0 0 led) [] 3:=⟨rfl,aU _,rfl,List.Pairwise.nil,fun j a=>(by cases a),rfl,fun x b=>by cases b⟩
theorem He{S:Addr}{led:Bool}(a:64. S {cls:=088 "set",dict:=none,data:=.set #[] 0 (.fresh 0 0 led)}):97.6 h []:=
 ⟨(015 e56 _ 3 a (88.0 rfl) rfl rfl (JE led) (by show 0 * 5<7 * 3;decide)<|(by show 7<8 * (0 + 1);decide)),(fun x b=>by cases b),fL⟩
#check 0
#check SR
namespace SR
open PySem PyProof.Rows
section
variable{prog:aD}{w:World}{K:Type} [141. K]{knd:622. K}{A:Around}{E:Sl}{s:aB}
theorem in1_units:A.in1.units=A.units + 1:=19.3
theorem yy{l:Addr}{items:392.}{ks:Nat→ 05 K}{ad:Nat→Addr}{Q:Value→Shared→Prop}(hh:393.)(hl:s.heap.IsList l items)(hi:∀(i:Nat) (v:Value),items[i]? =7. v →v=49. (ad i))
 (hk:∀i,i<items.size→ 49.8 (ks i) (ad i)) (hn:items.size≤1000) (hu:5.5 64)
 (h:∀(h':Heap) (tk:Nat) xs,lU knd h' s.heap.objs.size xs→(22.5)→(89.7)→Q (89.) 3e8):
 40. (call (088 "set") [02 l]):=by
 have⟨c,tl,hmro⟩:=F.called_set.mro;have hmade:=F.called_set.made;have hsub:=F.called_set.sub
 refine wpAny_call (codeAny_of_tree (show 7.5 (callAny (088 "set") _) _ from wpAny_pure ⟨Code.quiet_builtin _ (09),codeAny_builtin F.entry_type_call ?_⟩))
 rw[Around.under_plain (weight_type_call_type "set" [02 l] []) rfl];have h1:=F.called_set.notType;have h2:=F.called_set.canCreate;have hct:=F.typeCall_set_1 (02 l)
 repeat (any_goals (first|assumption|wp_step))
 refine codeAny_mono (code_set_new_1 (02 l) (E:=E) (Q₁:=fun obj s₁=>∃led:Bool,obj= 89. ∧s₁= {s with heap:=58.}) fun led=>88.0 led) fun r s1 hr=>(match r,hr with
  | .error e,hr=>hr
  | .ok (.next),hr=>hr.elim
  | .ok (.brk),hr=>hr.elim
  | .ok (.cont),hr=>hr.elim
  | .ok (.ret obj),hr=> ?_)
 have 88.0 led:=hr
 have hS:8e3 (58.).get?=7. 570.:=514.
 have hT:Shared.TypeIs {s with heap:=58.} (89.) "set" :=33. _ hS
 have hli:=F.called_set.init.lookup;have hbi:=F.called_set.init.bind (89.)
 repeat (any_goals (first|assumption|wp_step))
 refine codeAny_mono (codeAny_call_builtin (R:=wants (fun r s2=>r= .none∧∃h' tk xs,s2= 3e8 ∧lU knd h' s.heap.objs.size xs∧(22.5)∧
  (89.7)) E) F.called_set.init.plain F.entry_set_init (check_set_init_1 hT ?_)) fun r2 s2 hr2=> ?_
 ·have⟨ol,hol,hcl,28. nl HQ ⟩:=hl
  obtain⟨ocls,odict,odata,oslots⟩:=ol
  simp only at hcl HQ;subst hcl;subst HQ
  have hol':(58.).get? l=7. {cls:= 37.6,dict:=odict,data:= .seq items nl,slots:=oslots}:=5e1 hol
  have hsls:=F.sub_list_set;have hslf:=F.sub_list_frozenset;have hne:(716. ==Value.type "dict")=false:=08
  have hl1:(58.).IsList l items:=⟨_,hol',rfl,nl,rfl⟩
  unfold Builtin.«set.__init__» noKeywords Builtin.Frozenset.updateFrom;generalize hPI:pyIter=PI
  wp_walk
  subst hPI
  refine wpAny_pyIter_list hl1 (wpAny_bind (wpAny_runValue ?_))
  have hlS:8e2 l:=Heap.lt_size hol
  have hh3:A.in1.in1.in1.handled=none:=21.
  have hneI:l≠(58.).objs.size:=by rw[Heap.size_push];exact 699. hlS
  have hSf:s.heap.objs.size∉[(58.).objs.size,l]:=by
   rw[Heap.size_push]
   simp
   exact Nat.ne_of_gt hlS
  have klt:∀j,j<items.size→ad j<s.heap.objs.size:=fun j hj=>by
   have 39.4 ob e:=hk j hj
   exact Heap.lt_size e
  refine Hd (knd:=knd) ((Walks.list hh3 _ l hneI items).toS) s.heap.objs.size hSf ks ad hi (fun j hj=> ?_) (by simp only[in1_units];lia) hn (items.size - 0) 0 _ [] 2.8 (Nat.zero_le _) ⟨⟨_,514.,rfl,rfl⟩,(hl1.push _)⟩ (He (led:=led) (5e1 hS)) (fun m=>44.) (Nat.zero_le _)
   (fun j hj=>uH (hk j hj) fun o e=>5e1 (5e1 e)) (fun x hx=>by cases hx) fun s' xs' hm hS' hmem'=> ?_
  ·simp only[List.mem_cons,List.not_mem_nil,or_false,Heap.size_push]
   exact 699. (klt j hj)
  ·obtain⟨h',g',d',tk',os'⟩:=s'
   have eg:g'=s.gens:=hm.gens
   have ed:d'=s.drawn:=hm.drawn
   have eo:os'=s.os:=hm.os
   subst eg;subst ed;subst eo
   show 7.5 _ _
   refine wpAny_pure (show 7.5 (ret Value.none) _ from wpAny_pure ⟨rfl,h',tk',xs',rfl,hS',hmem',fun b o hb e=>hm.heap b o ?_ (5e1 (5e1 e))⟩)
   simp only[List.mem_cons,List.not_mem_nil,or_false,Heap.size_push,not_or]
   exact⟨Nat.ne_of_lt hb,699. hb ⟩
 ·cases r2 with
  |error e=>exact hr2
  |ok fl2=>
   cases fl2 with
   |ret r=>
    have 28. rfl ⟨h',tk,xs,rfl,hS',hm',hk'⟩:=hr2
    repeat (any_goals (first|assumption|wp_step))
    exact 015 h hS' hm' hk'
   |_=>exact hr2.elim
#check 0
#check SR
namespace L2
open PySem PySem.Spec PyProof.Rows
def AI(a:Addr)(n:Nat):HO:=.ext fun h=>∃o b ep t,64. a o/\o.ExactSet/\510. b/\96.9 b.size/\b.size=n
section
variable{X:Cx}{pins:Sn}{σ:St}{H:Hp}{s:aB}
theorem FV(c:64. a o)(d:o.ExactSet)(e:510. b)(f:96.9 b.size)(g:b.size=n):824. (AI a n):=
 ⟨(e44 o b ep t c d e f<|g),28. o c,fun i j ⟨o,b,ep,t,g1,g2⟩ k=>(e41 o b ep t (k o g1)<|g2)⟩
theorem zB:738. "len" (fun xs H Q=>∃a n,xs=[035 a]/\H a=7. (AI a n)/\n<=100000/\52.6 Q n):=by intro pins s σ H xs us Q I r h;have⟨a,n,rfl,ha,hn,q⟩:=h;have 69. u ru:=83.8;cases ru;obtain⟨⟨o,es,ep,t,g1,g2,g3,g4,g5⟩,_⟩:=(2e9 (AI a n) ha);refine call_len_set g1 g2 g3 g4 2.8 ?_;exact⟨.int n,H,914.,⟨_,by rw[g5]⟩,q⟩
theorem LF(hc:247.)(hu:6e0 64):jY X (088 "set") (fun vs H Q=>∃(l:Addr) (as:So) (keys:9.7 Key),vs=[035 l]/\cX X.K H l (as.map V.ref)/\as.length=keys.length/\(∀(i:Nat) (a:Addr) (k:21.0),as[i]? =7. a->keys[i]? =7. k->H a=394.)/\keys.length<=1000/\
 59.2 keys.length (n=keys.length↔keys.Nodup)):=by
 revert hc hu;revert X;intros X hc hu
 intros pins s σ H vs us Q I r h
 let⟨l,as,keys,rfl,hl,hlen,hk,hz,q⟩:=h;have 69. u ru:=83.8;cases ru;have⟨its,rv,pl,hsl0⟩:=60.1 hl;have hits:its=519. as.map:=by
  clear hl hk q hlen pl hsl0;induction as generalizing its with
  |nil=>rw[il]at rv;cases rv;rfl
  |cons a as ih=>
   rw[bD]at rv;cases rv with
   |cons r1 r2=>cases r1;rw[ih _ r2];rfl
 subst hits;have hsz:(519. as.map).toArray.size=as.length:=44.
 have hget:∀i,i<as.length->∃a k,as[i]? =7. a/\keys[i]? =7. k:=fun i hi=>⟨_,_,aQ hi,aQ<|21. ⟩;refine SR.yy (knd:=29. gj) (ks:=fun i=>(keys[i]?).getD []) (ad:=fun i=>(as[i]?).getD 0) 834. pl.isList ?_ ?_ (by rw[hsz];simp[*]) hu ?_
 ·intros i v e;have e:(519. as.map)[i]? =7. v:=064
  rw[bN]at e;cases ea:as[i]? with
  |none=>rw[ea]at e;cases e
  |some a=>
   rw[ea]at e
   show v=49. ((7. a).getD 0)
   exact(cE e).symm
 ·intros i hi;have⟨a,k,e1,e2⟩:=hget i (by rw[<-hsz];exact hi)
  show 491. _ _ ((keys[i]?).getD []) ((as[i]?).getD 0)
  rw[e1,e2];exact rG I.fh<|hk i a k e1 e2
 intros h' tk xs st hmem kp;rcases st with⟨⟨o,es,ep,t,kk,g1,g2,g3,g4,g5,g6,_⟩,_,g8⟩;have hm2:∀m,m∈ 032 ↔m∈keys:=fun m=>by
  rw[hmem,hsz];constructor
  ·rintro y1_;have 33. j hj:=y1_;have⟨a,k,_,e2⟩:=hget j hj
   show(keys[j]?).getD []∈keys
   rw[e2];exact bB e2
  intros hm
  rcases fE.mp hm with⟨j,hj,e⟩;exact⟨j,21.,by rw[aQ hj,e];rfl⟩
 have 28. d1 d2:=SR.tH g8 hm2;rw[aI]at d1 d2;have hes:317. es.size:=by rw[<-cN,g4,aI]
 have fr:=78.9;refine⟨ 89.,_,515. xs.length<|FV g1 g2 g3 (SR.FU g5 hes g6) hes,rfl,q _ xs.length fr d1 d2⟩
theorem lV(a):∀i,(firstMet a i).Nodup
 |0=>fL
 |18.6=>by
  rw[firstMet_succ];unfold step_dedup;split
  ·exact lV a i
  rename_i b;rw[iq];refine⟨lV a i,44.,fun x c y d e=>b ?_⟩;simp_all
theorem LG(hc:247.):jY X (088 "set") (fun vs H Q=>∃(l:Addr) (ns:Sg),vs=[035 l]/\cX X.K H l 21.8/\ns.length<=1000/\59.2 ns.length (n=ns.length↔ns.Nodup)):=by
 revert hc;revert X;intros X hc
 intros pins s σ H vs us Q I r h
 let⟨l,ns,rfl,hl,hz,q⟩:=h;have 69. u ru:=83.8;cases ru;let 566. rv pl:=60.1 hl;have hi:86.7 its.toArray.toList:=intsAre_of rv;have hsz:its.toArray.size=ns.length:=by rw[cM,<-rv.length,aI]
 refine call_set_list 834. pl.isList hi (by rw[hsz];unfold scanBound;lia) ?_;intros h' tk hS kp
 rw[hsz]at hS;have⟨o,es,ep,t,g1,g2,g3,_,_,_,g7,g8⟩:=hS;have hmem:∀x,x∈firstMet 57.4 ns.length↔x∈ns:=fun x=>by
  have e:=firstMet_any 57.4 ns.length x;have e2:607. ns.length 57.4=ns:=by
   apply List.ext_getElem?;intro i;rw[bN];by_cases hi:i<ns.length
   ·rw[List.getElem?_range hi,aQ hi];simp[List.getD,hi]
   rw[822.,List.getElem?_eq_none 2.8];rfl
  rw[e2]at e;have f:∀l:Sg,l.any (· ==x)=true↔x∈l:=fun l=>44.
  rw[<-f,<-f,e]
 have 28. d1 d2:=SR.tH (lV _ _) hmem;have fr:=78.9;exact⟨ 89.,_,515. _<|FV g1 g2 g3 g7 g8,rfl,q _ _ fr d1 d2⟩
#check 0
#check L2
namespace SR
open PySem PySem.Spec PyProof.Rows L2
open Vacola (Leaf Lit Mode Head Fields)
theorem uI{α β:Type}{f:α->β}(hf:∀x y,f x=f y->x=y){l:929.}:(l.map f).Nodup↔l.Nodup:=by
 constructor
 ·intro h;exact List.Pairwise.imp (fun hne e=>hne<|946.)<|List.pairwise_map.mp h
 intro h;exact List.pairwise_map.mpr<|List.Pairwise.imp (fun hne e=>hne<|70.0 hf) h
theorem o8(T:19.):341.:=by
 refine 4. T.FaC SaC
 intros _ _ _ s H _ _ _ Y y1_;let⟨Z,xs,l,N,rfl,d,t,hz,k1,k2⟩:=y1_;have J:=SaC.nd;have hu:=Y.units;refine(1.2 (aO<|cR (cA m9 (64.7 zB<|dZ<|84.6 (LF rfl hu)<|dZ<|688. ("field",1) (te:=vw bF (ji 1) "name") rfl J (fq<|pv 0) (ib<|73. NaC saC) (196. 1 J) (398. fp)
  fun s H C cl fp=>by exact 13. 1) (751. 0)<|cD _) (2.9) bS)<| ?_)
 dsimp only[dO];have 28. j u:=66.4 xs t;have L:∃as:So,as.length=l.length/\∀(i:Nat) h k,l[i]? =7. 833.->∃f B M q,xs[i]? =72. f/\H f=7. (397. B<|357. q M)/\as[i]? =7. q/\H q=339.:=by
  clear j u k1 k2 d hz hu J Y;induction l generalizing xs with
  |nil=>exact(65.1 []<|fun i h k e=>034)
  |cons hk l ih=>let 33. h0 k0:=pairE hk;have t:9.5 xs (9e6 h0 k0<|4.7 l):=t;rw[FieldsAt]at t;let⟨x,xr,f,B,q,M,rfl,rfl,_,e1,_,e2,_,O⟩:=t;have⟨as,g1,g2⟩:=ih xr O;refine(e11 (q::as) (by simp[g1])<|fun i h k e=>?_);grind
 let⟨as,m,v⟩:=L;refine(5.<|6e7 Z d<| ?_);intros D hD;refine kg (xs:=xs) (fun i H'=>15.4 D (2e6 as.take i V.ref)/\807.) (61.5 hD) ?_ ?_ ?_
 ·intros i H' hi y1_;have 073 r:=y1_;(try clear y1_);exact 4e3 r d
 ·intros i x H' hx y1_;have 28. G r:=y1_;(try clear y1_);have hi:i<l.length:=70.
  let 28. z1r e:=(⟨_,aQ hi⟩:∃y,l[i]? =7. y);obtain⟨h,k⟩:=z1r;have⟨f,B,M,q,q1,O,q3,q4⟩:=v i h k e;rw[hx]at q1;cases q1;refine⟨rfl,w4<|5.<|24.8 B (r _ _ O)<|59.8 G<|fun b o e=>by rw[5e9 e hD];exact r _ _ e⟩;rw[aJ,dr q3,bG];rfl
 rintro H' y1_;have 28. G r:=y1_;(try clear y1_);have R:5.7:=r;rw[j,<-m,cJ]at G;refine(e35 D as (l.map fun x=>gC 761.) rfl (72.1 G) (by simp[m]) (fun i b k e1 e2=>?_) (91.9)<|fun p n hp S g=>?_)
 ·grind[pY]
 rw[aI]at S g;have c:bC H (upd H' p<|AI p n):=R.trans<|5.1 hp;refine(240. p n aJ 2.8<|770. Z (4e3 c d));have U:(l.map fun x=>gC 761.).Nodup↔jl l:=by unfold jl;rw[<-uI (f:=gC) (fun _ _=>zj) (l:=l.map fun x=>761.),bQ];rfl
 rw[U]at g;by_cases I:jl l
 ·have:=g.mpr I;exact qj (95.)<|k1 I _ c
 have:n≠l.length:=997. I g.mp;exact m7 2.8<|k2 I _ c
def mH(cols:05 vB)(z:Int):Bool:=881. 0 z&&(match cols[z.toNat]? with|7. c=>c.2.2|none=>false)
def l6(cols:05 vB)(ps:Sg):Bool:=61. (1<=ps.length/\ps.length<=3/\ps.Nodup)&&ps.all (mH cols)
def Oi(aL:Ad):TE:=fun b H Q=>∃cl xs cols N z,b[0]? =001 (.ref cl)/\b[2]? =001 (59. z)/\271. cl/\917. cols/\065 (mH cols z) H
def Kf(bF:aA)(aL:Ad):Sp:=fun vs H Q _=>∃cl pl xs cols N ps,428. cl pl/\271. cl/\917. cols/\435. pl ps.map/\∀H',5.7->065 (l6 cols ps) H'
theorem yM(T:19.):01 2 aL.fbb aL.dbb 55.0 (0e4 Kf):=by
 refine 4. T.Fbb Sbb
 intros _ _ _ s H _ Q _ Y y1_;let⟨cl,pl,xs,cols,N,ps,rfl,f,y,d,k⟩:=y1_;have I:=Sbb.nd;have hu:=Y.units;refine(1.2 (aK (cR (pf (iX<|sv ko ko bZ (751. 1)<|fW T.gdE)<|nR<|cA m9 (64.7 zB<|dZ<|84.6 (LG rfl)<|000 1) (751. 1)<|cD _).pt (aO<|bJ uZ) bS)
  <|aO<|bJ<|f9 (Nd rfl) 90. T.bdJ PyProof.Rows.boot_all<|dZ<|688. ("place",2) (te:=Oi aL) rfl I (fq<|pv 1) (ib<|73. Nbb sbb) (by intros s H C cl J;exact qI 2 I) (398. J)
   <|by intros s H C cl J;exact PE.weak (ph (su ko m9 bZ 010<|751. 0)<|rC<|48.6 010) (by
        intros σ H Q h
        let⟨cl,xs,cols,N,z,L,M,f,y,q⟩:=h;have a0:=y.length;refine(1.2 M<|18.);unfold mH at q;by_cases B:47. 0<=z
        ·rw[aY B];rw[aY B]at q;refine dv (1.2 L<|3.3 cl f<|18.);by_cases r:z<36.6
         ·rw[aY r];let 28. c G:=(95.9 52.:∃c,cols[z.toNat]? =7. c);rw[G]at q;have⟨x,ex,⟨cc,dx,kv,pt,a3,rfl,_,hc,_⟩⟩:=y.get _ c G;exact dv (1.2 L<|1.2 M<|45. cl f (at_of (j:=z.toNat) 2.8 ex)<|06 cc dx hc T.CaG T.nc2 Lm<|q)
         rw[aX r];have G:cols[z.toNat]? =none:=qO.mpr (52.);rw[G]at q;exact dw q
        rw[aX B];rw[aX B]at q;exact dw<|5.<|dw q))<| ?_)
 dsimp only[dO];refine(770. pl d);rw[aI];by_cases r:47. 1<=47. ps.length
 ·refine m7 r (18.);by_cases O:47. ps.length<=47. 3
  ·rw[aY O];refine dw<|5.<|240. pl ps d 2.8<| ?_;intros p n hp a4 t
   have u:bC H (8.7 p<|AI p n):=5.1 hp;refine(240. p n aJ 2.8<|770. pl (u.seq d));rw[aI];by_cases l:ps.Nodup
   ·have:=t.mpr l;refine qj (95.)<|5.<|44.7 pl ⟨_,u.seq d⟩;intros D R;refine kg (xs:=080 ps.map) (fun i H'=>H' D=008 (2e6 ps.take i<|mH cols).map V.bl/\807.) ⟨aJ,fun b o e=>(5.1 R) _ _<|u _ _ e⟩ ?_ ?_ ?_
    ·intros i H' hi y1_;have 073 m:=y1_;(try clear y1_);exact bC.seq m d
    ·intros i x H' S y1_;have 28. g m:=y1_;(try clear y1_);rw[bN]at S;let 33. z ez:=bW.mp S;refine⟨rfl,w4<|e54 cl xs cols N z rfl rfl (m _ _ f) (dS.of (fun b o nb e=>756. nb m) y)<|23.1<|by intros b o e;rw[5e9 (70.0 u) R];exact m _ _ e⟩;rw[aJ,dr ez,bG,bG];rfl
    intros H' y1_;have 28. g m:=y1_;(try clear y1_);rw[aI,cJ]at g;refine(26.3 D (ps.map<|mH cols) (72.1 g)<| ?_);have e:l6 cols ps=(ps.map<|mH cols).all id:=by unfold l6;rw[aY ⟨ 21.,21.,l⟩,Bool.true_and,List.all_map];rfl
    rw[<-e];exact k H' m
   have:n≠ps.length:=997. l t.mp;refine m7 2.8 ?_;have e:l6 cols ps=false:=by unfold l6;simp[*]
   rw[e]at k;exact k _ u
  rw[aX O];refine dv ?_;have e:l6 cols ps=false:=by unfold l6;grind
  rw[e]at k;exact k _<|542.
 refine qj r (20.4);have e:l6 cols ps=false:=by unfold l6;grind
 rw[e]at k;exact k _<|542.
#check SR
namespace SR
open PySem PySem.Spec PyProof.Rows L2
open Vacola (Lit)
abbrev NX:=830. ×Addr ×Addr
def lW(x:NX):05 NK × 44.5:=(mD x.1,x.2.1,49. x.2.2)
def DN(P:aD)(w:World)(d:Addr)(xs:05 NX):HO:=.ext fun h=>99. d/\∃o a ep,64. d o/\o.ExactDict/\129. a/\a.toList=36.0/\82.2
theorem MI(g:99. d)(f:64. d o)(i:o.ExactDict)(j:129. e)(l:e.toList=36.0)(m:82.2):8e4 eH d 518.:=
 ⟨⟨g,e34 o e ep f i j l<|m⟩,28. o f,fun g1 g2 ⟨a,o,e,ep,b,c⟩ k=>⟨a,e31 o e ep (k o b)<|c⟩⟩
def zC(xs:05 NX):919. Lit:=xs.map fun x=>81.4
theorem JF(xs):2e6 zC xs 0.6=032:=by simp[zC,bQ]
theorem qB(xs)(k):(atKey (840. lW) (mD k)).map 62.=519. (12.9).map:=by
 induction xs with
 |nil=>rfl
 |cons x xs c=>
  by_cases e:x.1=k
  ·have a:94.9:=by show mD x.1=_;rw[e]
   show 350.
   rw[iy (x:=81.4) e];simp[atKey,eX,a];rfl
  have a: ¬ 94.9:=997. e tD
  show 350.
  rw[gv (x:=81.4) e,<-c];simp[atKey,eX,a]
theorem xl(xs)(k):(atKey (840. lW) (mD k)).isSome=(12.9).isSome:=by have:=dQ Option.isSome<|qB xs k;simp_all
def stN(xs:05 NX)(k:830.)(b v:Addr):05 NX:=if(12.9).isSome then 840. (fun x=>76.7)else xs++[(k,b,v)]
theorem xm(xs)(k)(b v):storedH (840. lW) (mD k) b (49. v)=(639.).map lW:=by
 unfold storedH stN;rw[xl];split
 ·rw[bQ,bQ];refine de (63. x _)
  show putAt (mD k) (49. v) (lW x)=lW (76.7)
  unfold putAt;by_cases e:x.1=k
  ·rw[aP<|show 94.9 by show mD x.1=_;rw[e],aP e];rfl
  rw[aM<|show ¬ 94.9 from 287. e tD,aM e]
 rw[bG];rfl
theorem JG(xs)(k)(b v):zC (639.)=lh (zC xs) k v:=by
 unfold stN lh;split
 ·unfold zC;rw[bQ,bQ];refine de (63. x _)
  lia
 grind[zC]
theorem FW(h:17.7)(f:fB H b k):∀x∈ 639.,fB H x.2.1 x.1:=fun x a=>by
 unfold stN at a;split at a
 ·have⟨y,c,e⟩:=92.2 a;by_cases q:y.1=k
  ·rw[aP q]at e;rw[<-e];exact h y c
  rw[aM q]at e;rw[<-e];exact h y c
 rcases bT.mp a with a|a
 ·exact h x a
 rw[cG.mp a];exact f
theorem JH(xs:05 NX)(k:830.)(b v:Addr):74.4 639.<=83.4:=by unfold stN;split <;> simp
def jT(P:aD)(w:World)(H:Hp)(d:Addr)(kvs:919. Lit):Prop:=
 ∃xs,H d=7. 518./\(17.7)/\kvs=zC xs/\47.0 1000
section
variable{P:aD}{w:World}{H:Hp}{h:Heap}{d:Addr}{xs:05 NX}
theorem Cv(ok:12.6)(e:Rd H d 518.)(hk:17.7):99. d/\h.DictOfH (kC P w) d (840. lW):=by
 obtain⟨⟨h0,o,es,ep,h1,h2,h3,h4,h5⟩,_⟩:=(show 8e4 eH d 518. from e.ok ok);refine⟨h0,o,es,ep,h1,h2,h3,by rw[h4,bQ];rfl,63. x hx,?_⟩
 ·have 33. y hy:=92.2 hx;exact lq ok<|hk y hy
 rw[bQ];have:614.:=rfl;rw[this,<-bQ];exact(uI fun x y z=>tD z).mpr h5
#check 0
section
variable{X:Cx}{pins:Sn}{σ:L2.St}{H:Hp}{s:aB}{d b:Addr}{A:Around}{E:Sl}{kvs:919. Lit}{k:830.}
theorem FX(a:5.5 64):(29. kC).room A.in1:=by
 show A.in1.units + 8<cLine
 grind
def NR:20.1->V
 |none=> .gm
 |7. a=> 02 a
theorem NS(f:5.5 64)(I:85.)(g:20.6)(i:fB H b k)(h:∀a c,00 H c->RelV (NR (7e9 kvs)) a->Q a c):
 172. (598. "dict.get" [02 d,02 b]):=by
 have 25.6 j _:=g;obtain⟨hd,dd⟩:=948. j;refine 48.2 F.slot_dict_get F.entry_dict_get (F.args_dict_get_2 _ _) (meetsH_dict_get (29. kC) d b hd) ⟨FX f,e22 (mD k) (840. lW) (lq I.fh i) dd<|h _ _ (914.) ?_⟩;rw[qB];cases 12.9 <;> rfl
theorem Hf(f:5.5 64)(I:85.)(g:20.6)(i:fB H b k)(l:7e9 kvs=7. v)(h:∀c,00 H c->9.3 v c):
 172. (getItem (02 d) 69.6):=by
 have 25.6 j _:=g;obtain⟨hd,dd⟩:=948. j;have q:=qB xs k;rw[l]at q;have⟨p,m,a⟩:=bW.mp q;refine wpAny_getItem_heap (FX f) (lq I.fh i) dd m ?_;rw[a];exact h _<|914.
theorem Cw{xs xs':05 NX}{h':Heap}{t':Nat}(I:85.)(e:H d=7. (56.2 xs))(h0:99. d)(dd:h'.DictOfH (29. kC) d (xs'.map lW))(hs:7e5 d h'):8e1 (8.7 d (56.2 xs')):=by have⟨q,es,ep,hq,h2,h3,h4,_,h5⟩:=dd;refine 177. ⟨q,hq⟩<|MI h0 hq h2 h3 (by rw[h4,bQ];rfl) ?_;rw[bQ]at h5;have:614.:=rfl;rw[this,<-bQ]at h5;exact(uI fun x y z=>tD z).mp h5
theorem Hg(l:5.5 64)(I:85.)(g:20.6)(f:fB H b k)(m:47.5)
 (h:∀(o:HO) i,470.->29. jT (8.7 d o) d (lh kvs k v)->00 (8.7 d o) i->Q () i):
 172. (setItem (02 d) 69.6 (02 v)):=by
 have 25.6 j hz:=g;have m:xs.length<1000:=by grind[zC]
 obtain⟨hd,dd⟩:=948. j;refine wpAny_setItem_heap (hsz:=242.) (FX l) (lq I.fh f) dd fun h' a hs=>?_;rw[xm]at a;have n:fc H (8.7 d<|56.2<|639.):=460. c e
 refine h (56.2<|639.) _ (381. ys) (e13 _ aJ (fun x p=>(FW j f x p).fg n) ((JG xs k b v).symm)<| ?_)<|Cw I e hd a hs;have:=JH xs k b v
 cutsat
def PD(P:aD)(w:World):TE:=fun _ H Q=>061 (DN P w p [])
theorem FY:087 (.Dict [] [] c) (29. PD):=fun pins s σ H Q I h=>
 wpAny_Dict_empty<|e22 (89.) _ (9e2 (o:=29. DN s.heap.objs.size []) (t':=s.toks) (356. _ _) 779.
  <|MI (j9.mpr<|eC<|df I.big) (794.) (88.0 rfl) rfl rfl fL) rfl<|h _<|066 _
def NT(P:aD)(w:World)(e f:TE):TE:=fun σ H Q=>e σ H fun x c=>∃d,x= 02 d/\(∃kvs,903. c)/\f σ c fun y a=>∃b kvs k,62.0/\903. a/\fB a b k/\Q (NR (7e9 kvs)) a
theorem JI(I:85.)(g:20.6):659. /\∀b,49. d= 02 b->∃ob,39. b ob/\ob.dict=none:=by have 25.6 hk _:=g;obtain⟨hd,dd⟩:=948. hk;refine⟨dd.typeIs,63. b q ⟩;cases q;have 52.7 ob:=dd;exact⟨ob,h1,h2.2.1⟩
theorem xn(p:6e0 64)(q:087 o i)(r:087 e j)(m:M1 X o "get" a e c):087 (45.8 "get" a [e] [] c) (29. NT i j):=by
 revert p q r m;revert X o i e j a c;intros X o i e j a c p q r m
 intros pins s σ H Q I h
 refine 18.2 F.slot_dict_get F.type_dict_get<|610. q;rintro u t ⟨x,v,l,z,d,B,⟨n,C⟩,D⟩;subst B;obtain rfl:u= 02 d:=z;have 28. G J:=JI l C;refine⟨G,J,?_⟩;rw[m.trees];refine 71.6 (6.8 r t v _ l D);rintro K U ⟨y,L,M,N,b,kvs,k,O,g,R,S⟩;refine vt ?_;subst O;obtain rfl:K= 02 b:=N;exact NS p M g R fun V Y T f=>(e22 _ L T f<|S)
def JJ(P:aD)(w:World)(c e:TE):TE:=fun σ H Q=>c σ H fun x f=>e σ f fun y a=>∃d b kvs k v,x= 02 d/\62.0/\903. a/\fB a b k/\7e9 kvs=7. v/\9.3 v a
theorem FZ(j:6e0 64)(m:087 o c)(hi:087 i e)(hs:Ni i):087 (776. a) (29. JJ c e):=by
 revert j m hi hs;revert X o c i e a;intros X o c i e a j m hi hs
 intros pins s σ H Q I h
 refine 60.2 m;rintro u n ⟨x,p,q,r,t⟩;refine 40.0 (6.8 hi n p _ q t);rintro z M ⟨y,B,f,C,d,b,kvs,k,v,D,G,g,J,l,K⟩;subst D G;obtain rfl:u= 02 d:=r;obtain rfl:z= 02 b:=C;exact⟨(JI f g).1,Hf j f g J l fun N L=>(15.2 v B L rfl<|K)⟩
def PF(P:aD)(w:World)(e f g:TE):TS:=fun D σ H=>g σ H fun v i=>e σ i fun x j=>f σ j fun y c=>∃d b a kvs k,x= 02 d/\62.0/\v= 02 a/\903. c/\fB c b k/\47.5/\
 ∀o,470.->jT P w (upd c d o) d (lh kvs k a)->D.nx σ (upd c d o)
theorem LH(n:6e0 64)(p:087 o j)(hi:087 i l)(q:087 c m)(hs:swapsWith c (7. (776. e)) f.line X.env=pure false):
 PS X (.Assign [776. e] c f) (29. PF j l m):=by
 revert n p hi q hs;revert X o j i l c m e f;intros X o j i l c m e f n p hi q hs
 intros pins s σ H D I h
 refine 96.7 q;rintro r t ⟨v,z,B,C,G⟩;refine 40.0 (6.8 p t z _ B G);rintro u J ⟨x,K,L,M,N⟩;refine 40.0 (6.8 hi J K _ L N);rintro O s3 ⟨y,H3,Q,R,d,b,a,kvs,k,S,T,U,g,V,Y,Z⟩;subst S T U;obtain rfl:u= 02 d:=M;obtain rfl:O= 02 b:=R;obtain rfl:r= 02 a:=C;exact Hg n Q g V Y fun o s4 no g4 I4=>(e21 σ _ I4<|Z o no g4)
#check 0
section
variable{prog:aD}{w:World}{K:Type} [141. K]{knd:92. HeapKind K}{A:Around}{E:Sl}{s:aB}{d a:Addr}{k:K}{xs:05 (K × 44.5)}
theorem Cy{v:Value}{Q:Sl}(hu:knd.room A)(hkey:383. knd.is k a)(hm:s.heap.DictOfH knd d xs)(hz:273.)(h1:∀p,10.7=7. p->Q p.2 067)
 (h2:10.7=none->∀g,64.3->7e5 d g->Q v 22.6):40. (dictSetDefault d 031 v):=by
 have⟨o,es,ep,q1,q2,q3,q4,q5,q6⟩:=hm;unfold dictSetDefault;try with_reducible refine fD ?_
 refine aH<|knd.pyHash hu hkey ?_;refine aH<|wpAny_dictFind_heap (s:= 067) hu hkey q1 q3 q4 q5 q6 (4e7 no) fun j p hj=>?_
 ·have an:=atKey_none_of_get no;have e1:=storedH_new an a v;refine aH<|tZ<|aH<|wpAny_updateDictKeys (hz:=by have e:=size_of_entries q4;simp[*]) (s:= 067) q1 q3<|aN<|h2 an _ ?_<|fA ..;refine⟨_,_,ep + 1,o4 _ q1<|Obj.isFreed_of_dict<|Obj.data_mapDictKeys q3 _,q2.mapDictKeys _,Obj.data_mapDictKeys q3 _,?_,63. x hx,?_⟩
  ·rw[e1];simp[q4,entryOfKey]
  ·rw[e1]at hx;rcases bT.mp hx with z|z
   ·exact knd.keeps (q5 x z) q1 q3<|fA ..
   rw[cG.mp z];exact knd.keeps hkey q1 q3<|fA ..
  have nm:=not_mem_keys_of_get no;rw[e1,bG,iq];refine⟨q6,44.,fun x hx y hy=>?_⟩;have hy:y=k:=by simpa using hy
  subst hy;exact fun z=>nm<|z▸hx
 have hp:=atKey_of_get q6 hj;refine aH<|gK (s:= 067) q1 q3 ?_;rw[entry_at q4 j,hj];exact aH<|tZ<|aN<|h1 p hp
theorem AJ(knd:92. HeapKind K)(d a)(e:99. d)(v):
 66.6 Builtin.«dict.setdefault» [02 d,02 a,v] (fun A R s=>knd.room A.in1/\∃k xs,383. knd.is k a/\s.heap.DictOfH knd d xs/\273./\
  (∀p,10.7=7. p->603. p.2 067)/\
  (10.7=none->∀g,64.3->7e5 d g->603. v 22.6)):=
 .of_wp<|by
  rintro A R s ⟨f,k,xs,h,c,hz,i,j⟩;unfold Builtin.«dict.setdefault»;refine 78.0;unfold Builtin.Dict.keyAndDefault;refine aH<|Be c.typeIs ?_;refine 77.9
  show 7.5 (if(d==sysModules)=true then _ else(dictSetDefault d 031 v>>= _)) s
  rw[aM (by rw[e];exact bL)];exact aH<|Cy f h c hz (fun p l=>aN<|5.<|i p l) fun m g n hs=>aN<|5.<|j m g n hs
#check 0
section
variable{X:Cx}{pins:Sn}{σ:L2.St}{H:Hp}{s:aB}{d b:Addr}{A:Around}{E:Sl}{kvs:919. Lit}{k:830.}
theorem JK(m:5.5 64)(I:85.)(g:20.6)(i:fB H b k)(n:47.5)
 (r:∀u h,7e9 kvs=7. u->00 H h->9.3 u h)
 (t:∀(o:HO) h,7e9 kvs=none->470.->29. jT (8.7 d o) d (kvs++[(k,v)])->00 (8.7 d o) h->9.3 v h):
 172. (598. "dict.setdefault" [02 d,02 b,02 v]):=by
 have 25.6 j hz:=g;have n:xs.length<1000:=by grind[zC]
 have 28. hd dd:=948. j;refine 48.2 F.slot_dict_setdefault F.entry_dict_setdefault (015 F.args_dict_setdefault_3) (AJ (29. kC) d b hd<|49. v)
  ⟨FX m,e24 (mD k) (840. lW) (lq I.fh i) dd (242.) (63. p y)<|fun B g l hs=>?_⟩
 ·have q:=qB xs k;rw[y]at q
  match f:12.9 with
  |none=>simp_all
  |7. u=>
   rw[f]at q;have q:p.2= 02 u:=52.
   rw[q];exact r u _ f<|914.
 have f:12.9=none:=by
  have q:=xl xs k;rw[B]at q
  match f:12.9 with
  |none=>rfl
  |7. u=>simp_all
 rw[xm]at l;have C:fc H (8.7 d<|56.2<|639.):=460. c e
 refine t (56.2<|639.) _ f (381. ys) (e13 _ aJ (fun x D=>(FW j i x D).fg C) ?_<| ?_)<|Cw I e hd l hs
 ·simp[JG,lh,f]
 have:=JH xs k b v
 cutsat
def JL(P:aD)(w:World)(f g h:TE):TE:=fun σ H Q=>f σ H fun x e=>∃d,x= 02 d/\(∃kvs,903. e)/\g σ e fun y i=>h σ i fun z c=>∃b v kvs k,62.0/\z= 02 v/\903. c/\fB c b k/\47.5/\
 (∀u,7e9 kvs=7. u->9.3 u c)/\(7e9 kvs=none->∀o,470.->jT P w (upd c d o) d (kvs++[(k,v)])->9.3 v (upd c d o))
theorem ER(t:6e0 64)(B:087 o l)(C:087 e n)(D:087 f p)(m:M2 X o "setdefault" c e f i):087 (45.8 "setdefault" c [e,f] [] i) (29. JL l n p):=by
 revert t B C D m;revert X o l e n f p c i;intros X o l e n f p c i t B C D m
 intros pins s σ H Q I h
 refine 18.2 F.slot_dict_setdefault F.type_dict_setdefault<|610. B;rintro u G ⟨x,J,q,L,d,M,⟨r,N⟩,O⟩;subst M;obtain rfl:u= 02 d:=L;have 28. R S:=JI q N;refine⟨R,S,?_⟩;rw[m.trees];refine 71.6 (6.8 C G J _ q O);rintro T U ⟨y,V,Y,Z,q2⟩;refine mh<|40.0 (6.8 D U V _ Y q2);rintro fv s3 ⟨z,H3,I3,rz,b,v,kvs,k,ey,ez,g,kb,hl,k1,k2⟩;refine vt ?_;subst ey ez;obtain rfl:T= 02 b:=Z;obtain rfl:fv= 02 v:=rz;exact JK t I3 g kb hl (fun u s' f j=>(15.2 u H3 j rfl<|k1 u f)) fun o s' f no g' j=>(15.2 v _ j rfl<|k2 f o no g')
#check 0
section
variable{prog:aD}{w:World}{A:Around}{E:Sl}{s:aB}
theorem JM(b:74.8 s.heap.IsValIter i)(c:39. d p)(e:74.6 p.data k)
 (hsz:k.size=n) (r:k[i]? =7. q) (t:∀g,74.8 g.IsValIter 8.6->7e5 it g->Q (7. q.val) 32.6):40. 559.:=by
 have⟨o,l,u,hd⟩:=id b;have a:=b.typeIs;unfold pyNext;refine aH<|vL<|194. a fm<|eP fm a x6 ?_<|xZ _;refine aH<|aN<|aH<|78.0;first|refine aH (jA a<|77.9)|refine aH<|ma a<|77.9
 refine aH<|Dd l hd ?_;have f:20.9:=08
 rw[f,aM bL];show 040
 rw[aM<|show ¬ (4e2 (49. d== 57.3))from bL];refine aH<|aN<|aH<|gK c e ?_;rw[54.7];refine aH<|aN<|aH<|mf c e ?_;rw[aM 960.];refine 77.9;obtain⟨m,v⟩:=Array.getElem?_eq_some_iff.mp r;dsimp only;rw[aM 060,dY,h9 m];refine 78.0;first|refine aH (jA a<|77.9)|refine aH<|ma a<|77.9
 refine aH<|Bg a ?_;show 404. 1 68.6
 refine 49.0 l;have h:74.8 (9.0).IsValIter 8.6:=(450. l u<|by rw[tX hd];rfl);have j:({s with heap:=9.0}:aB).TypeIs (02 it) "dict_valueiterator" :=h.typeIs;refine aH<|fD<|aH<|Bg j<|aH<|Bg j ?_;rw[v];exact aN<|aN<|5.<|aN<|t _ h<|fA ..
theorem LI(r:393.)(e:74.8 s.heap.IsValIter i)(f:39. d p)(h:74.6 p.data k)
 (hsz:k.size=n) (t:n<=i) (u:∀g,Heap.ExtBut it s.heap g->Q none 32.6):40. 559.:=by
 have⟨o,q,v,hd⟩:=id e;have c:=e.typeIs;unfold pyNext;refine aH<|vL<|194. c fm<|eP fm c x6 ?_<|xZ _;refine aH<|aN<|aH<|78.0;first|refine aH (jA c<|77.9)|refine aH<|ma c<|77.9
 refine aH<|Dd q hd ?_;have j:20.9:=08
 rw[j,aM bL];show 040
 rw[283.];refine aH<|aN<|aH<|gK f h ?_;rw[54.7];refine aH<|aN<|aH<|mf f h ?_;rw[aM 960.];refine 77.9;have l:k.size<=i:=95.
 dsimp only;rw[aM 060,dY,l8 l];refine 78.0;first|refine aH (jA c<|77.9)|refine aH<|ma c<|77.9
 show 404. 0 57.3
 refine 49.0 q;show 20.2
 refine 78.0;delta newExc newTuple
 refine aH<|gJ ?_ (by size_fits);refine 144.;refine gJ ?_ (by size_fits);delta raiseNew
 refine aH<|wpAny_handled ?_;rw[show A.in1.handled=none from r];refine aH<|aN<|wpAny_throw ?_;refine 347.;exact 65.6 u
theorem JN(g:s.heap.IsValuesView v d)(a:39. d e)(b:74.6 e.data f)
 (i:11.5 "dict_valueiterator" f.size):40. (97.4 v):=by
 have⟨k,j,l,hd⟩:=id g;have h:=g.typeIs;refine wpAny_pyIter_slot h F.slot_dict_values_iter<|eP F.slot_dict_values_iter h F.entry_dict_values_iter ?_<|F.args_dict_values_iter_1 _;unfold Builtin.«dict_values.__iter__»;refine aH<|aN<|78.0;unfold Builtin.Dict_items.dictOf;refine aH<|wpAny_field j hd (x:=02 d) rfl<|aN<|78.0;unfold Builtin.Dict_items.newIterator;refine aH<|gK a b<|aH<|mf a b ?_;have c:20.9:=08
 simp only[c,cU,hB];refine 76.9 "dict_valueiterator" fm.lookup;simpa [rawInt]using i
theorem xo(d)(a:(d==sysModules)=false):
 MeetsIn prog w (Builtin.«dict.values» ⟨[.ref d],[]⟩) (fun _ R s=>s.TypeIs (.ref d) "dict" /\R (.ok (.ret (.ref s.heap.objs.size))) {s with heap:=s.heap.push {cls:=.type "dict_values",data:=.fields #[.ref d]}}):=
 .of_wp fun A R s ⟨b,h⟩=>by
  refine aH ?_;unfold Builtin.Dict.noArgs;refine aH<|Be b ?_;refine aN ?_;show wpAny _ _ (Builtin.Dict.showsAll d>>= _) _ _ s
  unfold Builtin.Dict.showsAll;rw[aM (by rw[a];exact bL)];exact aH<|aN<|aH<|gJ<|aN<|e11 _ rfl<|h
#check 0
def PH(P:aD)(w:World)(d:Addr)(o:Obj)(xs:05 NX):It:=
 ⟨fun i H=>H d=041 o 518./\237.,fun i H x H'=>H'=H/\∃y,051 y/\x= 02 y.2.2,fun i H=>H d=041 o 518./\47.0 i ⟩
theorem Inv.NU{X:Cx}{pins:Sn}{σ:L2.St}{H:Hp}{s:aB}{d:Addr}{o:Obj}{xs:05 NX}(I:85.)(h:H d=041 o (56.2 xs)):
 99. d/\39. d o/\o.ExactDict/\∃(es:949.) (ep:Nat),129. es/\317. es.size/\∀(i:Nat) (y:NX),051 y->∃en:DictEntry,es[i]? =7. en/\en.val= 02 y.2.2/\en.key= 02 y.2.1:=by
 revert I h;revert X pins σ H s d o xs;intros X pins σ H s d o xs I h
 have 88.3 e:=(show 647. d (.gO o<|56.2 xs)from I.fh d _ h);have 28. h0 z1r:=z1_;(try clear z1_);let⟨o',es,ep,h1,h2,h3,h4,h5⟩:=z1r;rw[e]at h1;cases h1;refine⟨h0,e,h2,es,ep,h3,?_,fun i y hy=>?_⟩
 ·rw[<-cN,h4,aI]
 refine⟨entryOfKey (29. kC)<|lW y,?_,rfl,rfl⟩;rw[<-hJ,h4,bN,hy];rfl
theorem ES{P:aD}{w:World}{K:aA}{tg:Expr}{d:Addr}{o:Obj}{es:949.}{ep:Nat}{xs:05 NX}(it:Addr)(hod:129. es):452. (34.9) (fun i h=>h.IsValIter it d i xs.length ep) where
 mem:=17.
 obj:=fun i h st b hb=>by
  have e:b=it:=92.0
  subst e;have⟨oi,e,c,dd⟩:=st;exact⟨oi,e,fun v z=>by rw[dd]at z;cases z⟩
 keep:=432. oi oi
 item:=by
  intro X hP hw hK hc i pins s σ H E I hf st hg;subst hP hw hK;obtain⟨hd,hi⟩:=hg;have 378.:=hf it<|17.
  have 39.2:=Inv.NU I hd;obtain⟨rfl,rfl⟩:=Ft hod hdt;obtain⟨y,hy⟩:∃p,051 p:=⟨xs[i],aQ hi⟩;have⟨en,hen,hv,_⟩:=ent i y hy;refine JM st hgd hdt hsz hen fun g st' sb=>?_;have I1:00 H 32.6:=6e6 (77.2 ob sb.2) f0 f3 f4 f5;have⟨oi,e,c,dd⟩:=id st';exact⟨en.val,rfl,Bp (s:= 32.6) e c dd (08) ⟨ 02 y.2.2,H,I1,hv,⟨rfl,y,hy,rfl⟩,st',fun b hb=>(hf b hb).1⟩⟩
 done:=by
  intro X hP hw hK hc i pins s σ H E I hf st hg;subst hP hw hK;obtain⟨hd,hi⟩:=hg;have 378.:=hf it<|17.
  have 39.2:=Inv.NU I hd;obtain⟨rfl,rfl⟩:=Ft hod hdt;exact LI 834. st hgd hdt hsz hi fun g eb=>231. ob ob
 self:=fun A i s Q E st h=>wpAny_pyIter_valiter st h
def NV(P:aD)(w:World)(b:TE):TI:=fun c H R=>b c H fun x a=>∃d o xs,x= 02 d/\a d=041 o 518./\R (34.9) a
theorem JO{X:Cx}{p e:Expr}{r:TE}{f a:Pos}(y:087 e r)(g:202. "values":=by rfl)(i:4e2 (f.endLine==a.line):=by rfl):PI X p 61.2 (29. NV r):=by
 revert y g i;revert X p e r f a;intros X p e r f a y g i
 intros pins s l H R I h
 refine 052 (40.0 (y pins s l H _ I h));rintro u c ⟨x,z,t,B,d,o,xs,C,hd,q⟩
 subst C
 obtain rfl:u=49. d:=B
 have⟨hs,j,v,⟨J,ep,k,hsz,D⟩⟩:=Inv.NU t hd
 have m:c.TypeIs (02 d) "dict" :=(e11 o j<|v.1)
 refine⟨m,fun b q=> ?_,?_⟩
 ·cases q
  exact(e11 o j<|v.2.1)
 ·have G:3e3 Inv l z 75.5:=t.kept (t':=c.toks) fun b K q=>5e1 q
  have n:882. (97.4 c.heap.objs.size) (3e3 P4 l p R) 75.5:=by
   refine JN (d:=d) (056 Heap.get?_push_size) (5e1 j) k (DB (tk:=c.toks) G _ (ES _ k) (e12 _ (514.) rfl<| ?_) q)
   rw[hsz];rfl
  exact 449. (PySem.evalArgs_none ⟨rfl,m,PySem.F.args_dict_values_1 _,_,xo d hs,m,n⟩)
theorem Hh{P:aD}{w:World}{d:Addr}{o:Obj}{xs:05 NX}{g:TG}{tb:TS}{D:Ends}{σ:L2.St}{H:Hp}(Pv:214. L2.St)(h0:Pv 0 σ H)(hl:∀i σ H,Pv i σ H->H d=041 o 518.)
 (hs:∀(i:Nat) y σ H,051 y->Pv i σ H->g (02 y.2.2) σ H fun σ2 H2=>90.2 Pv Pv σ2 H2) (hd:892. Pv):
 ∃W:Nat->214. L2.St,25.0/\∀i m σ H,W i m σ H->((34.9).stop i H/\916.)\/((34.9).go i H/\∃N:856. L2.St,(∀σ' H',N σ' H'->∃m',m'<m/\W 8.6 m' σ' H')/\∀x H',(34.9).Kt i H x H'->g x σ H' fun σ2 H2=>616. σ2 H2):=by
 revert h0 hl hs hd;revert P w d o xs g tb D σ H Pv;intros P w d o xs g tb D σ H Pv h0 hl hs hd
 refine⟨ 29.6 Pv,⟨xs.length,44.,bH _,h0⟩,?_⟩
 intros i m σ H y1_;have 684.:=y1_;have q:=hl i σ H p;by_cases hlt:237.
 ·refine 8.4 ⟨ 28. q hlt,Pv<|18.6,fun σ' H' p'=>⟨xs.length - (18.6),21.,rfl,hlt,p'⟩,fun x H' y=>?_⟩;have 28. e ⟨z,hz,ex⟩:=y;subst e ex;exact hs i z σ _ hz p
 have e:317. i:=21.
 subst e;exact 97. ⟨⟨q,aU _⟩,hd σ H p⟩
def VV(v d:Addr):HO:=.ext fun h=>h.IsValuesView v d
section
variable{X:Cx}
def PJ(b:TE):TE:=fun c H Q=>b c H fun x a=>∃d kvs,x= 02 d/\a d=7. (.dK kvs)/\∀v,095 a v->9.3 v (upd a v (VV v d))
theorem LJ(p:087 e m)(g:202. "values":=by rfl)(i:4e2 (f.endLine==a.line):=by rfl):087 61.2 (PJ m):=by
 revert p g i;revert X e m f a;intros X e m f a p g i
 intros pins s n H Q I h
 refine 052 (40.0 (p pins s n H _ I h));rintro u c ⟨x,r,j,t,d,kvs,v,hd,q⟩
 subst v
 obtain rfl:u= 02 d:=t
 have 889. hs vs:=Fq j.fh hd
 have l:=dd.typeIs (s:=c)
 refine⟨l,dd.mapOf.noDict,?_⟩
 have y:(4e1).IsValuesView c.heap.objs.size d:=(056 Heap.get?_push_size)
 have z:3e3 Inv n (upd r c.heap.objs.size (VV c.heap.objs.size d)) 75.5:=
  j.laid (t':=c.toks) (fun b D q=>5e1 q) (Nat.le_refl _) ⟨y,⟨_,514. ⟩,fun g1 g2 ⟨o,B,C⟩ k=>(e11 o (k o B)<|C)⟩
 exact 449. (PySem.evalArgs_none ⟨rfl,l,PySem.F.args_dict_values_1 _,_,xo d hs,l,02 _,_,z,rfl,q _ j.fresh⟩)
theorem xp(p:247.):jY X (37.6) (fun xs H Q=>∃v d kvs,xs=[02 v]/\H v=7. (VV v d)/\072 d .dK/\264. (1e6 (kvs.map 62.))):=by
 revert p;revert X;intros X p
 intros pins s z H xs us Q I r h
 let⟨v,d,kvs,rfl,t,hd,q⟩:=h;rw[Vals.Dz r];have⟨hz,hs,z1r⟩:=Fq I.fh hd;let⟨vs,rel,dd⟩:=z1r;obtain⟨ep,e⟩:=dd.dictAt;have 28. b _:=(show 647. v (VV v d)from I.fh v _ t);have x:=vK rel;refine W.kdl_call (W.kdl_values (knd:=29. gj) (kvs:=vs) (ep:=ep)) (86.9 p) ⟨b,e⟩ (52.) fun g tk acc c k m a=>?_;have n:=W.kdl_vals_eq _ (by rw[cN];exact a.1) fun j u B=>a.2 j u<|70.
 have f:Vals (kvs.map 62.) acc.toList:=by
  rw[n];clear n a m k x q e dd hd hz;unfold KV at rel;induction rel with
  |nil=>exact .nil
  |cons r _ y=>exact 9e6 r.2 y
 have i:=m;exact(15.2 _ _ (I.laid (o:=1e6 (kvs.map 62.)) (t':=tk) k 779. ⟨by rw[aI];exact hz,e21 acc.toList c f<|i⟩) rfl<|q _ I.fresh)
#check 0
#check SR
namespace SR
open PySem PyProof.Rows
open PySem.Sem (wp wp_bind' wp_pure' wp_mono wp_attempt)
def W(M:Model)(Γ:Ctx){α:Type}(m:026 α)(Q:α->SortSt->20. Pos aB)(st:SortSt)(p:Pos)(s:aB):Prop:=wp M Γ (m.run st) (fun r a b=>Q r.1 r.2 a b) (123.) p s
def RS(M:Model)(Γ:Ctx)(s t:aB)(b:Bool):Prop:=∀x y p Q E,870. Q E p t->∃c q,Q c q t/\∀p,870. (fun d _ e=>d=c/\e=s) (123.) p s
def Sm(b:Bool){α:Type}(m:026 α):Prop:=∀M Γ s t,RS M Γ s t b->∀st p q Q,kindOf st=448.->W M Γ m Q st q t->W M Γ m (fun a c _ e=>e=s/\kindOf c=448./\∃f,Q a c f t) st p s
variable{b:Bool}{α β:Type}
theorem lu{a:α}:Sm b (pure a):=106. k
theorem ff{m:026 α}{f:α->026 β}(h:Sm b m)(k:∀a,Sm b (f a)):Sm b (m>>= f):=by
 intro M Γ s t C st p q Q o H;have e:∀Q st p s,66.0 (m>>= f)=W M Γ m (fun a b d e=>W M Γ (f a) Q b d e) st p s:=by intros;simp[W]
 rw[e]at H ⊢;refine 015 wp_mono ?_ (fun _ _ _ z=>z) _ _<|h M Γ s t C st p q _ o H;rintro a b c ⟨rfl,d,f,g⟩;exact 015 k _ _ C _ _ _ _ d g
theorem sm_get:Sm b get:=106. k
theorem tI{f:SortSt->026 β}(h:∀st,kindOf st=448.->Sm b (f st)):Sm b (get>>= f):=by
 intro M Γ s t C st p q Q k H;have e:∀Q p s,66.0 (get>>= f)=66.0 (f st):=by intros;rfl
 rw[e]at H ⊢;exact h st k M Γ s t C st p q Q k H
theorem NW{a:SortSt}(o:kindOf a=448.):Sm b (set a):=106. o
theorem uJ{g:SortSt->SortSt}(o:∀st,kindOf (g st)=kindOf st):Sm b (modify g):=by intro M Γ s t C st p q Q k h;simp[W]at h ⊢;exact⟨(o st).trans k,q,h⟩
theorem AK{x:String}:Sm b (liftM (rule x)):=by intro M Γ s t C st p q Q k h;exact⟨rfl,k,q,h⟩
theorem uK{x:String}:Sm b (liftM (96.8 x:Sem α)):=by
 intro M Γ s t C st p q Q k h
 cutsat
theorem AM{c:Prop} [Decidable c]{m n:026 α}(h:Sm b m)(k:Sm b n):Sm b (if c then m else n):=by split <;> assumption
theorem xq{f:Nat->α->026 (ForInStep α)}{x y:Nat}{z:α}(k:∀i a,Sm b (f i a)):Sm b (forIn [x:y] z f):=by
 rw[Std.Legacy.Range.forIn_eq_forIn_range'];generalize 015 List.range'=l;induction l generalizing z with
 |nil=>exact lu
 |cons i l h=>
  rw[vu];refine ff (k i z) (4e7 r);cases r with
  |done e=>exact lu
  |yield e=>exact h
theorem vZ{a:79.3}{i:Nat}:Sm b (elem' a i):=by
 rw[elem'_eq];cases a[i]? with
 |none=>exact uK
 |some x=>exact lu
theorem F1{x y:Keyed}:Sm b (lt' x y):=by
 intro M Γ s t C st p q Q k h;have e:∀Q p s,66.0 (lt' x y)=wp M Γ (keyLt' (kindOf st) x.1 y.1) (fun a b c=>Q (7. a) st b c) (fun e b c=>Q none (SortSt.mk' (kindOf st) (arrOf st) (810.) (gallopOf st)<|7. e) b c) p s:=by
  intros;rw[lt'_eq];simp[W]
 rw[e,k]at h;rw[e,k];obtain⟨c,q,h,l⟩:=015 C _ _ h;refine 38.0<|l p;rintro a r i ⟨rfl,rfl⟩;exact⟨rfl,rfl,q,h⟩
theorem LK{i j:Nat}:Sm b (ltAt' i j):=by rw[ltAt'_eq];exact ff sm_get fun st=>ff vZ fun x=>ff vZ fun y=>F1
theorem Hi{m:026 (74. α)}{f:74. α->026 β}(h:Sm b m)(i:Sm b (f none))(k:∀a,Sm b (f (7. a))):Sm b (m>>= f):=ff h fun a=>by cases a;exact i;exact k _
theorem JP{γ:Type}{m:StateT SortSt Sem (Option α ×γ)}{f:Option α ×γ->StateT SortSt Sem β}(h:Sm b m)(i:∀r,Sm b (f (none,r)))(k:∀a r,Sm b (f (some a,r))):Sm b (m>>= f):=ff h fun⟨a,r⟩=>by cases a;exact i r;exact k _ _
theorem NY{i j:Nat}:Sm b (reverseSlice' i j):=uJ 322.
theorem NZ{i j:Nat}:Sm b (moveDown' i j):=uJ 322.
theorem N0{i:Nat}:Sm b (setMinGallop' i):=uJ 322.
theorem yz{lo n ok:Nat}:Sm b (binarySort' lo n ok):=by
 rw[binarySort'_eq]
 with_reducible_and_instances (repeat' first|exact lu|exact uK|refine Hi LK ?_ ?_|refine Hi F1 ?_ ?_|refine ff vZ ?_|refine ff AK ?_|refine tI ?_|refine JP (xq ?_) ?_ ?_|refine ff NY ?_|refine ff NZ ?_|refine AM ?_ ?_|exact F1|intro _)
theorem Cz{lo n:Nat}:Sm b (countRun' lo n):=by
 rw[countRun'_eq]
 with_reducible_and_instances (repeat' first|exact lu|exact uK|refine Hi LK ?_ ?_|refine Hi F1 ?_ ?_|refine ff vZ ?_|refine ff AK ?_|refine tI ?_|refine JP (xq ?_) ?_ ?_|refine ff NY ?_|refine ff NZ ?_|refine AM ?_ ?_|exact F1|intro _)
theorem Hj{l:Bool}{k:Keyed}{a:79.3}{i j:Nat}:Sm b (beyond' l k a i j):=by
 unfold beyond'
 with_reducible_and_instances (repeat' first|exact lu|exact uK|refine Hi LK ?_ ?_|refine Hi F1 ?_ ?_|refine ff vZ ?_|refine ff AK ?_|refine tI ?_|refine JP (xq ?_) ?_ ?_|refine ff NY ?_|refine ff NZ ?_|refine AM ?_ ?_|exact F1|intro _)
theorem Hk{l:Bool}{k:Keyed}{a:79.3}{i j n:Nat}:Sm b (gallop' l k a i j n):=by
 rw[gallop'_eq]
 with_reducible_and_instances (repeat' first|exact lu|exact uK|refine Hi Hj ?_ ?_|refine JP (xq ?_) ?_ ?_|refine AM ?_ ?_|intro _)
theorem ET{x y:79.3}:Sm b (mergeLo' x y):=by
 rw[mergeLo'_eq]
 with_reducible_and_instances (repeat' first|exact lu|exact uK|refine Hi F1 ?_ ?_|refine Hi Hk ?_ ?_|refine ff vZ ?_|refine ff AK ?_|refine ff N0 ?_|refine tI ?_|refine JP (xq ?_) ?_ ?_|refine AM ?_ ?_|intro _)
theorem EU{x y:79.3}:Sm b (mergeHi' x y):=by
 rw[mergeHi'_eq]
 with_reducible_and_instances (repeat' first|exact lu|exact uK|refine Hi F1 ?_ ?_|refine Hi Hk ?_ ?_|refine ff vZ ?_|refine ff AK ?_|refine ff N0 ?_|refine tI ?_|refine JP (xq ?_) ?_ ?_|refine AM ?_ ?_|intro _)
theorem EV{i:Nat}:Sm b (mergeAt' i):=by
 rw[mergeAt'_eq];refine tI (63. st k)
 match(810.)[i]?,(810.)[18.6]? with
 |none,_=>exact uK
 |7. (x,y,z),none=>exact uK
 |7. (x,y,z),7. (u,v,w)=>
  refine ff (NW k) ?_
  with_reducible_and_instances (repeat' first|exact lu|exact uK|refine Hi F1 ?_ ?_|refine Hi Hk ?_ ?_|refine ff vZ ?_|refine ff AK ?_|refine ff N0 ?_|refine tI ?_|refine JP (xq ?_) ?_ ?_|refine AM ?_ ?_|intro _)
  ·exact ff ET 999.
  exact ff EU 999.
theorem CA:Sm b sortRuns':=by
 rw[sortRuns'_eq]
 with_reducible_and_instances (repeat' first|exact lu|refine Hi Cz ?_ ?_|refine ff AK ?_|refine ff yz ?_|refine ff EV ?_|refine ff (uJ ?_) ?_|exact fun _=>rfl|refine tI ?_|refine JP (xq ?_) ?_ ?_|refine AM ?_ ?_|intro _)
 all_goals
  rename_i st _;dsimp only;rcases(810.).back? with _|⟨_,_,_⟩
  ·with_reducible_and_instances (repeat' first|exact lu|refine Hi Cz ?_ ?_|refine ff AK ?_|refine ff yz ?_|refine ff EV ?_|refine ff (uJ ?_) ?_|exact fun _=>rfl|refine tI ?_|refine JP (xq ?_) ?_ ?_|refine AM ?_ ?_|intro _)
  refine JP (xq fun _ _=>tI (63. st _)) ?_ ?_
  ·rcases(if(810.).size>1 then(810.)[(810.).size - 2]? else none)with _|⟨_,_,_⟩ <;> with_reducible_and_instances (repeat' first|exact lu|refine Hi Cz ?_ ?_|refine ff AK ?_|refine ff yz ?_|refine ff EV ?_|refine ff (uJ ?_) ?_|exact fun _=>rfl|refine tI ?_|refine JP (xq ?_) ?_ ?_|refine AM ?_ ?_|intro _)
  all_goals with_reducible_and_instances (repeat' first|exact lu|refine Hi Cz ?_ ?_|refine ff AK ?_|refine ff yz ?_|refine ff EV ?_|refine ff (uJ ?_) ?_|exact fun _=>rfl|refine tI ?_|refine JP (xq ?_) ?_ ?_|refine AM ?_ ?_|intro _)
def fk(s:aB)(f:87.1):aB:= {s with heap:=⟨ 2e6 Array.range s.heap.objs.size fun a=>⟨.none,none,(match f a with|7. n=> 0.1 n|none=> .freed), #[]⟩,{}⟩}
theorem JQ{s:aB}{f:87.1}{i:Addr}{o:Obj}(h:253.):∃n,f i=7. n/\476.:=by
 unfold fk Heap.get? at h;dsimp only at h;rw[Array.getElem?_map]at h;by_cases l:8e2 i
 ·rw[Array.getElem?_range,aP l,fP]at h;cases e:f i with
  |none=>rw[e]at h;cases h
  |some n=>rw[e]at h;cases h;exact 88.0 n
 rw[Array.getElem?_range,aM l]at h;cases h
theorem LL{h:Heap}{i:Addr}{o:Obj}(e:64. i o):58.4 i:=by unfold Heap.get? at e;refine Nat.lt_of_not_le (4e7 l);rw[l8 l]at e;cases e
theorem N1{s:aB}{f:87.1}{i:Addr}(e:f i=7. n)(l:8e2 i):∃o,253./\476.:=by refine 33. ⟨.none,none,.seq (166. n 57.3) 0, #[]⟩ ?_;unfold fk Heap.get?;dsimp only;rw[Array.getElem?_map,Array.getElem?_range,aP l,fP,e]
theorem xt{M:Model}{Γ:Ctx}{t:aB}(T:∀i o,989.->∃n,476.){x:Value}:wp M Γ (Builtin.List.listItems x) Q E p t↔∃i o n,x= 02 i/\989./\476./\Q (166. n 57.3) p t:=by
 unfold Builtin.List.listItems seqItems?;rw[wp_bind'];constructor
 ·intro h;split at h
  ·obtain⟨⟨c,g,d,l⟩,e,h⟩:=h;obtain⟨n,rfl⟩:=70.0 T;exact⟨_,_,n,rfl,e,rfl,h⟩
  unfold notAStandIn at h;split at h
  ·split at h <;> cases h
  cases h
 rintro⟨i,⟨c,g,d,l⟩,n,rfl,e,rfl,h⟩;exact⟨_,e,h⟩
theorem LM{M:Model}{Γ:Ctx}{t:aB}{B:(Value ×Value) ×Nat->74. Bool ×Unit->Sem (ForInStep (74. Bool ×Unit))}(h:∀i Q,wp M Γ (B ((57.3,57.3),i) (none,())) Q E p t=Q (.yield (none,())) p t)(n m i:Nat):wp M Γ (forIn (((86.6 n Value.none).zip (86.6 m Value.none)).zipIdx i) (none,()) B) Q E p t=Q (none,()) p t:=by
 induction n generalizing m i with
 |zero=>rfl
 |succ n k=>
  cases m with
  |zero=>rfl
  |succ m=>rw[List.replicate_succ,List.replicate_succ,ew,List.zipIdx_cons,vu,wp_bind',h];exact k m<|18.6
theorem MJ{M:Model}{Γ:Ctx}{t:aB}(T:∀i o,989.->∃n,476.){b:Bool}:870. Q E p t↔∃i o n j k m,x= 02 i/\y= 02 j/\989./\476./\t.heap.get? j=7. k/\k.data= 0.1 m/\Q (61. (n<m)) p t:=by
 have L:∀n m,wp M Γ (do
  for ((p,q),i)in((67.5 n).toList.zip (67.5 m).toList).zipIdx do
   if !(<-eqBool p q)then return<-oneLt' (b&&i==0) p q
  return (67.5 n).size<(67.5 m).size) Q E p t=Q (decide<|n<m) p t:=by
  intro n m;rw[wp_bind',Array.toList_replicate,Array.toList_replicate,LM (fun i Q=>rfl),Array.size_replicate,Array.size_replicate];rfl
 rw[kat_lt_eq,wp_bind',xt T];constructor
 ·rintro⟨i,o,n,rfl,e,d,h⟩;rw[wp_bind',xt T]at h;obtain⟨j,k,m,rfl,u,v,h⟩:=h;exact⟨i,o,n,j,k,m,rfl,rfl,e,d,u,v,L n m▸h⟩
 rintro⟨i,o,n,j,k,m,rfl,rfl,e,d,u,v,h⟩;refine⟨i,o,n,rfl,e,d,?_⟩;rw[wp_bind',xt T];exact⟨j,k,m,rfl,u,v,(L n m).symm▸h⟩
def OD(f:87.1):KeyKind where
 α:=Nat
 blt a b:=61. (a<b)
 irrefl a:=aX (iB a)
 trans a b c h k:=aY (35.6 (cZ h) (cZ k))
 negTrans a b c h:=by simp at *;lia
 total a b h k:=by simp at *;lia
 keyOf v:=match v with| 02 i=>f i|_=>none
 dflt:=0
theorem perm_back{α n:Type}{g:α->n}{l r:05 n}(h:l.Perm r):∀{m:929.},r=m.map g->∃ps:929.,ps.Perm m/\l=ps.map g:=by
 induction h with
 |nil=>simp_all
 |cons x _ o=>
  intro m e;cases m with
  |nil=>cases e
  |cons y m=>injection e with d c;have 33. ps f:=o c;exact(e11 (y::ps) (f.cons y)<|by rw[d];rfl)
 |swap x y l=>
  intro m e
  match m,e with
  | [],e=>cases e
  | [_],e=>cases e
  |a::b::m,e=>injection e with d c;injection c with c p;exact(e11 (b::a::m) (List.Perm.swap a b m)<|by rw[d,c,p];rfl)
 |trans _ _ i j=>intro m e;have⟨ps,f,d⟩:=j e;have⟨k,q,c⟩:=i d;exact(e11 k (q.trans f)<|c)
theorem LN{R:56.3 α}{c:929.}{e:Sj}(h:qH R c e):∀p∈e.zip c,R p.2 p.1:=by
 induction h with
 |nil=>intro p h;cases h
 |cons r t k=>
  intro p h;rcases 819. h with rfl|h
  ·exact r
  exact k p h
theorem AN(a vs:Sj):(a.toArray.zip vs.toArray).toList=a.zip vs:=44.
theorem F2{c:05 β}{keys:Sj}(h:qH (fun d v=>R (g d) v) c keys):qH R (c.map g) keys:=by
 induction h with
 |nil=>exact .nil
 |cons r t h=>exact 9e6 r h
theorem CB{prog:aD}{w:World}{A:Around}{E:Sl}{s:aB}{I m:Type}{K:56.3 m}{lt:m->m->Bool}(J:NB lt)(V:∀x v,K x v->∃i o,v= 02 i/\39. i o)(N:∀x y v,K x v->K y v->x=y){g:I->m}{it:I->Value}{c:05 I}{e:Sj}
 (R:qH (fun d v=>K (g d) v) c e)
 (S:∀(x y:m) (u v:Value) (Q:42.3),x∈c.map g->y∈c.map g->K x u->K y v->Q (lt x y) s->9e5 A (keyLt' (448.) u v) Q (198.) s)
 (h2:2<=c.length) {Q:20. Unit SortSt}
 (h:∀(l:SortSt) (z:05 I),32.1 l->z.Perm c->52.4 l=z.map it->z.Pairwise (fun a b=>lt (g b) (g a)=false)->Q () l):
 wpS 316. A E s sortRuns' Q (562. (448.) (790.)):=by
 have P:∀p∈e.zip c,K (g p.2) p.1/\g p.2∈c.map g:=fun p h=>⟨LN R p h,List.mem_map_of_mem (List.of_mem_zip h).2⟩;have U:=R.length;have z0:(790.).toList=2e6 e.zip c fun p=>(p.1,it p.2):=by rw[AN,List.zip_map_right];rfl
 generalize 790.=a₀ at z0 ⊢;generalize c.map g=D at S P;have L:a₀.size=c.length:=by rw[<-cN,z0,aI,List.length_zip];simp[*]
 obtain⟨f,H⟩:=Classical.axiomOfChoice (r:=fun i (o:74. Nat)=>(∀k∈D,K k (02 i)->o=7. (rk lt D k))/\∀n,o=7. n->75.3) fun i=>by
  by_cases h:∃k∈D,K k<|02 i
  ·obtain⟨k,d,h⟩:=h;exact⟨some<|rk lt D k,fun l _ e=>by rw[015 N h e],fun n e=>⟨k,d,h,(cE e).symm⟩⟩
  exact⟨none,fun k d e=>(h (39.3 k e)).elim,fun n e=>nomatch e⟩
 have T:∀i o,253.->∃n,476.:=fun i o h=>by obtain⟨n,_,d⟩:=JQ h;exact 28. n d
 have lib:wpS 316. A (198.) (fk s f) sortRuns' (fun _ a=>410.) (562. (448.) a₀):=by
  refine G.wpS_sortRunsSt (kd:=448.) (κ:=OD f) ?_ ?_ ⟨Array.Perm.refl _,rfl,rfl⟩ rfl (Stable.refl _) (52.) fun a x y z _=>⟨x,y,z⟩
  ·intro A E x y a b Q hx hy q Γ p _;rw[MJ T];have X:∀x a,(OD f).keyOf x=7. a->∃i o,x= 02 i/\253./\o.data= 0.1 a:=by
    intro x a h;cases x <;> first|cases h;done|skip
    rename_i i;obtain⟨k,_,d,_⟩:=(H i).2 a h;obtain⟨j,o,e,l⟩:=V _ _ d;cases e;obtain⟨n,u,v⟩:=N1 h<|LL l;exact⟨_,n,rfl,u,v⟩
   obtain⟨i,o,rfl,u,v⟩:=X _ _ hx;obtain⟨j,k,rfl,x,y⟩:=X _ _ hy;exact⟨i,o,a,j,k,b,rfl,rfl,u,v,x,y,q⟩
  intro p l;have l:p∈a₀.toList:=l;rw[z0]at l;obtain⟨q,y,rfl⟩:=92.2 l;obtain⟨d,n⟩:=P _ y;obtain⟨k,_,r,_⟩:=V _ _ d;dsimp only;rw[r]at d ⊢;exact⟨_,(H _).1 _ n d⟩
 intro Γ p hΓ;refine 38.0<|CA 316. Γ s (fk s f) ?_ (562. (448.) a₀) p p (fun _ a _ t=>t=fk s f/\410.) rfl<|lib Γ p hΓ
 ·rintro⟨⟨⟩,a⟩ q t ⟨rfl,_,_,_,x,y,z⟩;refine 078;obtain⟨r,u,v⟩:=perm_back (Array.perm_iff_toList_perm.mp x) z0;refine h a (r.map 62.) y ((u.map _).trans ?_) ?_ ?_
  ·rw[List.map_snd_zip 2.8]
  ·rw[tS,v];simp
  rw[List.pairwise_map,j1];intro i j hi hj l;have Z:∀i (hi:i<r.length),KK (OD f) (arrOf a) i=rk lt D (g r[i].2):=by
   intro i hi;obtain⟨d,n⟩:=60.0 hi;obtain⟨k,_,q,_⟩:=V _ _ d;unfold KK;rw[<-hJ,v,bN,aQ hi]
   show((OD _).keyOf r[i].1).getD _=_
   rw[q]at d ⊢
   show(f k).getD _=_
   rw[(H _).1 _ n d];rfl
  have M:=z i j (uV l) (by have:=u.length_eq;simp at *;simp_all);rw[Z i hi,Z j hj]at M;exact(MD J (60.0 hj).2 (60.0 hi).2).symm.trans M
 intro x y p Q E h;rw[MJ T]at h;obtain⟨i,o,n,j,k,m,rfl,rfl,u,v,x,y,h⟩:=h;have X:∀i o n,253.->476.->75.3:=by intro i o n e d;obtain⟨m,h,l⟩:=JQ e;rw[d]at l;injection l with l;have l:=dQ Array.size l;rw[Array.size_replicate,Array.size_replicate]at l;rw[l];exact(H _).2 _ h
 obtain⟨a,a1,a2,rfl⟩:=015 X u v;obtain⟨d,d1,d2,rfl⟩:=015 X x y;rw[MD J a1 d1]at h;exact⟨_,_,h,fun p=>S a d _ _ (fun e t=>e=lt a d/\t=s) a1 d1 a2 d2 14.7 Γ p hΓ⟩
#check SR
namespace SR
open PySem PyProof.Rows PySem.W
def yA(prog:aD)(w:World)(h:Heap)(k:PK)(v:Value):Prop:=∃a b its n c t,v= 02 a/\64. a b/\b.cls= 2e8 /\b.data= .seq its n/\its= #[02 c,59. k.2 t]/\92. fS h k.1 c
section
variable{prog:aD}{w:World}{A:Around}{E:Sl}{s:aB}
theorem yA.inj{h:Heap}{x y:PK}{v:Value}(p:92. yA h x v)(q:92. yA h y v):x=y:=by have⟨a,ob,its,n,c,t,rfl,h1,_,h3,h4,h5⟩:=p;have⟨a',ob',its',n',c',t',e,g1,_,g3,g4,g5⟩:=q;cases e;rw[h1]at g1;cases g1;rw[h3]at g3;cases g3;rw[h4]at g4;injection g4 with g4;injection g4 with z1 z2;injection z1 with z1;injection z2 with z2 _;injection z2 with z2 _;subst z1;exact Prod.ext (h5.inj g5) z2
theorem PL(l:5.5 16)(p:9.4 yA x u)(q:9.4 yA y v)(b:GL La x.1 y.1)(h:Q (MC x y) s):
 40. (keyLt' (tuples' false) u v):=by
 have⟨a,m,its,n,c,t,rfl,i,_,j,rfl,d⟩:=p;have⟨o,k,its',r,z,t',rfl,g1,_,g3,rfl,f⟩:=q;unfold MC at h;refine kat_lt i j g1 g3<|kat_cons<|Fx 2.8 d f ?_;by_cases e:x.1=y.1
 ·rw[aY e];rw[aP e]at h;refine kat_yes<|kat_cons<|pa ?_;by_cases g:x.2=y.2
  ·rw[kO.mpr g];rw[aX (95.)]at h;exact kat_yes<|kat_nil h
  rw[j9.mpr g];exact kat_no<|kat_one _ _<|lt_int h
 rw[aX e];rw[aM e]at h;exact kat_no<|kat_one _ _<|Lb 2.8 d f b h
#check 0
section
variable{prog:aD}{w:World}{A:Around}{E:Sl}{s:aB}
theorem LO(h:qH (fun k v=>9.4 yA k v) ks vs)(f:0<ks.length)(q:Q (tuples' false) s):40. (keyKind' vs.toArray):=by
 have d:218. (2e8):=by
  clear q f;induction h with
  |nil=>exact(e12 [] .nil rfl<|fun v b=>nomatch b)
  |cons p _ g=>
   have⟨fs,f1,f2,e⟩:=g;have⟨a,r,its,n,c,t,rfl,i,j,m,rfl,⟨o,_,_,g1,g2,_,_⟩⟩:=p;refine(e12 (02 c::fs) (9e6 i j m rfl f1) (by rw[aZ,aZ,f2])<|63. v b);rcases 819. b with rfl|b
   ·have l:Looks 316. s.heap (typeOf<|02 c) o.cls:=(Looks.ld g1).andThen .now
    lia
   cutsat
 have⟨fs,f1,f2,e⟩:=d;refine kat_kind f1 2.8 e (08) ?_;exact q
theorem CC{b:Bool}(hu:5.5 16){Q:42.3}:∀{x y:05 NK} {us vs:Sj} {i:Nat} {fin:Bool},9.4 gH x us->9.4 gH y vs->GL La x y->
 (4e2 (b&&i==0)->∀c r,x=c::r->4e2 c.isLeft)->(x.length=0\/y.length=0->True)->fin=(jk HU (x.drop (736.)) (y.drop (736.)))->Q (jk HU x y) s->
 92. KatLex A b fin Q (us.zip vs) i s
 |_,_,_,_,i,fin,.nil,.nil,_,_,_,hf,h=>697.
 |_,_,_,_,i,fin,.nil,9e6 _ _,_,_,_,hf,h=>697.
 |_,_,_,_,i,fin,9e6 _ _,.nil,_,_,_,hf,h=>by rw[List.zip_nil_right];refine kat_nil ?_;rw[hf];exact h
 |_,_,_,_,i,fin,9e6 (k:=c) (v:=u) (ks:=x) (vs:=us) p1 t1,9e6 (k:=d) (v:=v) (ks:=y) (vs:=vs) p2 t2,28. ok fit,hb,_,hf,h=>by
  rw[ew];refine kat_cons<|vT 2.8 p1 p2 ?_;rw[jk]at h;by_cases e:c=d
  ·subst e;rw[aY rfl];rw[324.]at h;refine kat_yes<|CC hu t1 t2 fit (4e7 z) (fun _=>trivial) ?_ h
   ·have:((18.6:Nat)==0)=false:=rfl;rw[this,Bool.and_false]at z;cases z
   rw[hf];simp
  rw[aX e];rw[aM e]at h;refine kat_no ?_;cases c with
  |inl z=>
   cases d with
   |inr _=>cases ok
   |inl z'=>
    obtain⟨t,rfl⟩:=p1;obtain⟨t',rfl⟩:=p2;cases hbi:(b&&i==0)with
    |true=>exact oneLt_int h
    |false=>exact kat_one _ _<|yR h
  |inr l=>
   cases d with
   |inl _=>cases ok
   |inr l'=>
    have hbi:(b&&i==0)=false:=by
     cases q:(b&&i==0)with
     |false=>rfl
     |true=>have:=hb q _ _ rfl;cases this
    rw[hbi];obtain⟨a1,rfl,p1⟩:=p1;obtain⟨a2,rfl,p2⟩:=p2;exact kat_one _ _<|Fy 2.8 p1 p2 h
theorem PM{x y:05 NK}{a c:Addr}{b:Bool}{Q:42.3}(hu:5.5 16)(p:99.6 x)(q:9.4 fS y c)(fit:GL La x y)(hb:4e2 b->∀k r,x=k::r->4e2 k.isLeft)(h:Q (jk HU x y) s):
 40. (keyLt' (448.) 031 (02 c)):=by
 have⟨oa,xs,na,a1,a2,a3,a4⟩:=p;have⟨ob,ys,nb,b1,b2,b3,b4⟩:=q;refine kat_lt a1 a3 b1 b3<|CC hu a4 b4 fit (fun z=>hb<|by simpa using z) (fun _=>trivial) ?_ h;have l1:x.length=xs.size:=by have:=a4.length;simpa using this
 have l2:y.length=ys.size:=by have:=b4.length;simpa using this
 have:∀(x y:05 NK),61. (x.length<y.length)=jk HU (x.drop<|736.) (y.drop<|736.):=by
  intro x;induction x with
  |nil=>intro y;cases y <;> rfl
  |cons c x ih=>
   intro y;cases y with
   |nil=>rfl
   |cons d y=>rw[aZ,aZ,Nat.succ_min_succ,List.drop_succ_cons,List.drop_succ_cons,<-ih y];simp
 rw[<-this,l1,l2]
theorem LP(h:qH (fun k v=>∃a,v= 02 a/\99.6 k) ks vs)(x:0<ks.length)(j:∀k∈ks,∃c r,k=c::r/\c.isLeft=b)(q:Q (448.) s):40. (keyKind' vs.toArray):=by
 revert h x j q;revert prog w A E s ks vs b Q;intros prog w A E s ks vs b Q h x j q
 have i:218. (088 (if b then "int" else "tuple")):=by
  clear q x;induction h with
  |nil=>exact(e12 [] .nil rfl<|fun v d=>nomatch d)
  | @cons k v ks vs p _ y=>
   have⟨fs,f1,f2,m⟩:=y fun k B=>j k<|bO _ B;have⟨c,r,rfl,o⟩:=j k bM;have 69. a ⟨I,its,n,g1,g2,g3,g⟩:=p;cases e:its.toList with
   |nil=>rw[e]at g;cases g
   |cons f J=>
    rw[e]at g;cases g with
    |cons u K=>
     have C:its[0]? =7. f:=by rw[<-hJ,e];rfl
     refine(e12 (f::fs) (9e6 g1 g2 g3 C f1) (by rw[aZ,aZ,f2])<|63. v d);rcases 819. d with rfl|d
     ·cases c with
      |inl z=>obtain⟨t,rfl⟩:=u;have:4e2 b:=o.symm;subst this;exact .now
      |inr l=>have 69. D ⟨G,_,_,k1,k2,_⟩:=u;have:b=false:=o.symm;subst this;have l:Looks 316. s.heap (typeOf<|02 D) G.cls:=(Looks.ld k1).andThen .now;simp_all
     cutsat
 let⟨fs,f1,f2,m⟩:=i;refine kat_kind f1 2.8 m 960. ?_;cases b <;> exact q
#check 0
#check SR
namespace SR
open PySem PySem.Spec PyProof.Rows L2
open Vacola (Leaf Lit Mode Head Fields fits)
open Vacoly (keyLess entryBefore)
theorem LQ(ok:12.6)(k:AA H t e):yA P w h (mD e.key, -47. e.seq) (02 t):=by have⟨a,b,c⟩:=k;refine 62.1 [02 a,.int (-47. e.seq)] b (019 r);have⟨u,v,rfl,d,f⟩:=r.two;cases d;obtain⟨tk,rfl⟩:=f;exact(e65 t o _ n a tk rfl g1 g2 g3 rfl<|lq ok c)
theorem EW(a:gi ls x.key)(b:gi ls y.key):MC (mD x.key, -47. x.seq) (mD y.key, -47. y.seq)=entryBefore x y:=by
 unfold MC entryBefore;by_cases e:x.key=y.key
 ·rw[aP (946.),e,eA];simp
 rw[aM (287. e tD),(lz a b).2.1];simp[*]
section
variable{X:Cx}{pins:Sn}{σ:L2.St}{H:Hp}{s:aB}{A:Around}{E:Sl}
theorem CD{D a:Addr}{g:Obj}{p:Nat}{G:So}{C:05 V}{st:SortSt}{q:20. Fin aB}(I:85.)
 (J:H D=041 g (1e6 [])) (i:g.data= .seq #[] p) (j:∀K L,X.Kr D≠ 041 K L) (k:H a=15. C) (M:32.1 st) (t:52.4 st=519. G.map) (hz:G.length<=1000)
 (h:∀u,00 (085 (8.7 a (1e6 [])) (G.map V.ref)) u->q 69.7 u):
 36. A (ksk_tail D false p 031 st) q E s:=by
 have N:a≠D:=i6 k J<|70.
 have 248. S v:=I.ug k;have y:00 (4.9 H a) {s with heap:=6.2 s.heap.update a,toks:=s.toks}:=I.zV (its':=[]) k v rfl .nil<|bH _;have c:(4.9 H a) D=7. (.gO g<|1e6 []):=817.
 obtain⟨O,_⟩:=(show 29. eH _ _ D (.gO g<|1e6 [])from y.fh D _ c);have B:=y.unlock c j;have d:(4.9 (upd H a<|.lst []) D) D=15. []:=aJ;have 073 ⟨b,T,U,m,e⟩:=B.ug d;have Q:b=[]:=by
  cases b with
  |nil=>rfl
  |cons=>cases m
 subst Q;have o:∀l:So,Vals (l.map .ref) (l.map .ref):=fun l=>by
  induction l with
  |nil=>exact .nil
  |cons x l R=>exact 9e6 rfl R
 have hsz:(301. st).size=G.length:=by rw[<-cN,t,aI]
 unfold ksk_tail;try dsimp only
 refine aH<|84.3 v (52.)<|bH _;refine aH<|wpAny_letGo ?_;refine aH<|KA O i ?_;refine aH<|84.3 e 81.8 ?_
 ·rw[M];simp;refine aN<|h _ ?_;have:=B.zV (its':=G.map .ref) (f:=fun _=>301. st) (t':=s.toks) (ys:=G.map .ref) d e (by rw[<-t]) (o G)<|242.
  grind[fY]
 simp only[cU,hB];rw[hsz];exact 99.0
theorem LR{Z:Obj}{e1:Nat}{F:lS}{c:So}{ls:37.7}{Pq:20. Fin aB}(I:85.)(hu:5.5 16)
 (hD:H D=041 Z (1e6 [])) (r:Z.data= .seq #[] e1) (B:∀o' u',X.Kr D≠ 041 o' u') (hk:H N=008 c.map V.ref) (hT:c.length=F.length) (C:839.) (n:jM ls F) (O:565.) (hz:769.)
 (h:∀(G:lS) l,G.Perm F->yl 17.2->00 (085 (8.7 N (1e6 [])) (rf G)) l->Pq 69.7 l):
 36. A (ksk_end D false 69.5 e1 (02 N) (519. c.map).toArray) Pq E s:=by
 have a0:∀G:lS,rf G=2e6 G.map 0.6 .ref:=fun G=>by simp[rf,bQ]
 have R:∀G:lS,(G.map fun p=>49. p.1)=2e6 G.map 0.6 Value.ref:=fun G=>52.
 have its:∀(c:So) (F:lS),c.length=F.length->(839.)->qH (fun(p:672.) v=>29. yA s.heap 38.1 v) F (c.map .ref):=by
  intro c;induction c with
  |nil=>intro F J _;cases F with
   |nil=>exact .nil
   |cons=>cases J
  |cons t c ih=>intro F J C;cases F with
   |nil=>cases J
   |cons p F=>exact 9e6 (LQ I.fh<|C 0 t p rfl rfl)<|ih F (40.4) fun i t' p' h1 d=>C 8.6 t' p' (by simpa using h1)<|848.
 have hI:=its c F hT C;unfold ksk_end;simp only[cU,hB];by_cases d:(165.).toArray.size<2
 ·rw[aP d,aP d];refine 334.;rw[StateT.run_pure];refine 334.;try dsimp only
  rw[cM,aI]at d;refine CD (st:=562. general' ((c.map .ref).toArray.zip 304.)) (G:=F.map 0.6) I hD r B hk rfl ?_ (95.) fun l I'=>h F l (.refl _) ?_<|70.
  ·show(2e6 (519. c.map).toArray.zip 69.5 62.).toList=_
   rw[tS,AN,<-R];exact List.map_snd_zip<|52.
  cases F with
  |nil=>simp_all
  |cons p F=>cases F with
   |nil=>exact tY _ _
   |cons=>simp at d;lia
 rw[aM d,aM d];rw[cM,aI]at d;have kd:∀{Q:20. SortKind aB},Q (tuples' false) s->172. (keyKind' (c.map .ref).toArray):=fun{Q} q=>by have:qH (fun k v=>29. yA s.heap k v) (F.map fun p=>38.1) (c.map .ref):=F2 hI;exact LO this (70.) q
 refine aH<|kd ?_;refine aH<|eG (CB (s:=s) (A:=A) (E:=E) Pg (K:=29. yA s.heap) (fun x v p=>x6_5 p fun a b _ _ _ _ e h _ _ _ _=>⟨a,b,e,h⟩) (fun x y v p q=>p.inj q) (g:=fun p:672.=>38.1) (it:=18.8) (b:=false) hI
  (fun x y u v Q hx hy p q k=>?_) 2.8 (Q:=fun _ f=>∃G,32.1 f/\G.Perm F/\52.4 f=G.map (18.8)/\yl 17.2) fun f o S m he K=>⟨o,S,m,he,?_⟩) ?_ fun _ _ e=>e
 ·have 33. p1 L:=92.2 hx;have 33. p2 M:=92.2 hy;exact PL hu p q (lz (n p1 L)<|n p2 M).1 k
 ·have T:=89.0 m.map _ O;rw[yl,List.pairwise_map];rw[j1]at K ⊢;intro i j hi U Y;have L:=m.mem_iff.mp<|iU hi;have M:=m.mem_iff.mp<|iU U;have q:=K i j hi U Y;rw[EW (n _ M)<|n _ L]at q;have ne:o[i].2.seq≠o[j].2.seq:=fun z=>by
   have:i=j:=(809. (h₁:=by simpa using U) T).mp<|95.
   simp_all
  rcases sU (a:=o[i].2) (b:=o[j].2) ((n _ L).1.trans (n _ M).1.symm) ne with t|t
  ·exact t
  grind
 rintro y1_ l y2_;obtain⟨⟨⟩,f⟩:=y1_;have 28. rfl ⟨G,S,m,he,K⟩:=y2_;try dsimp only
 exact CD (G:=73.2) I hD r B hk S 060 (by rw[aI,m.length_eq];exact hz) fun l I'=>h G l m K<|70.
#check 0
#check SR
namespace SR
open PySem PySem.Spec PyProof.Rows L2
open Vacola (Leaf Lit Mode Head Fields fits)
theorem tJ:∀l:So,Vals (l.map V.ref) (519. l.map)
 | []=> .nil
 |x::l=> 9e6 rfl<|tJ l
section
variable{X:Cx}{pins:Sn}{σ:L2.St}{H:Hp}{s:aB}{A:Around}{E:Sl}
theorem N4{k:Nat}{f:Addr}{fd:aC}{ps:Si}{sp:Sp}{C:Addr}{us:Sj}{vs:05 V}{Q:VK}(G:2.3 (29. t6 C))(hr:gL k A)(he:221. A)(hb:006 [])(I:85.)(r:091 vs)(h:sp vs H Q E0):
 36. A (call 780. us) (396.) (198.) s:=by
 have hl:861. (us++[]).length:=by rw[dn,<-r.length];exact 015 G.len _ h
 have hb':=hb s us I.so hl;rw[dn]at hb';refine wpAny_call<|kP (G.run A X.stack s H 39.0 us vs Q E0 hr he hb' r h) fun r s' hq=>?_;cases r with
 |error e=>have⟨_,_,_,_,_,_,_,_,z⟩:=hq;exact z.elim
 |ok fl=>
  cases fl with
  |ret u=>exact I.after hq
  |next=>exact 180. hq
  |brk=>exact 180. hq
  |cont=>exact 180. hq
theorem JR(G:110.)(hb:35.9)(hr:gL 1 A)
 (he:∀s H,221. X.A->221. A) (I:85.)
 (hD:H D=041 od (1e6 [])) (T:od.data= .seq #[] e1) (U:∀o' u',X.Kr D≠ 041 o' u') (Y:H g=15. []) (hE:fV aL (fun b=>b≠g) H fs F) (hK:jM ls F) (Z:565.) (hz:769.)
 (h:∀(G:lS) H' u,G.Perm F->yl 17.2->(∀b o,60. H->b≠g->b≠D->60. H')->H' D=32.4 G->00 H' u->Pq 69.7 u):
 36. A (ksk_rest D (02 aL.fao) false 69.5 e1 (02 g)) Pq E s:=by
 unfold ksk_rest;refine aH<|tZ ?_;first
  |rw[List.forIn_toArray]
  |(rw[<-i5];simp only[List.toList_toArray])
 refine aH<|ksk_fold (fun i u=>∃f c,00 f u/\c.length=i/\f g=008 c.map V.ref/\(∀b o,60. H->b≠g->60. f)/\∀(j:Nat) t p,c[j]? =7. t->F[j]? =7. p->AA f t p.2) _ 0 s
  (e24 H [] I rfl Y (fun b o e _=>e)<|fun j t p e=>034) ?step ?done
 case step=>
  rintro j x u hx y1_;have⟨f,c,B,y,k,d,hS⟩:=y1_;rw[Nat.zero_add]at y ⊢;rw[bN]at hx;have 33. p C:=bW.mp hx;have hj:j<F.length:=048 C;have ft:fc H f:=fun b ys q=>d b _ q<|i6 q Y 81.;have J:oX aL (fun b=>b≠g) f fs p.1 p.2:=(hE p<|bB C).of (fun b o n q=>⟨n,d b o q n⟩) ft;refine aH<|vL<|eG (N4 (Q:=fun v H'=>∃t,v= 02 t/\bC f H'/\095 f t/\AA H' t p.2) G hr (he _ _ B.M3) hb B (vs:=[02 p.1]) (9e6 rfl .nil)<|694. _ J<|fun t H' L ht sk=>(65.0 t L ht<|sk)) (fun v a0 hv=>?_) fun _ _ z=>z.elim;have⟨v',H',I',rv,⟨t,rfl,L,ht,sk⟩⟩:=hv;obtain rfl:v=49. t:=rv;try dsimp only
  have l:=L _ _ k;have 248. M S:=I'.ug l;have N:its=519. c.map:=sH r;subst N;have hsz:(519. c.map).toArray.size<=1000:=by rw[cM,aI];lia
  refine aH<|84.3 S (bU hsz<|08)<|by rw[Array.size_push];exact bU (Nat.succ_le_succ hsz)<|08
  refine aN ⟨rfl,e24 _ (c++[t]) (I'.zV (its':=519. (c++[t]).map) (ys:=(c++[t]).map V.ref) (t':=a0.toks) l S 960. (tJ _)<|by rw[aI,bE];exact bU (show c.length + 1<=1001 by simp_all)<|08) (by rw[bE,y];rfl) aJ (fun b o q n=>by rw[aS n];exact L _ _<|d b o q n)<|fun i t' p' m h2=>?_⟩;have O:fc H' (upd H' g<|1e6 ((c++[t]).map V.ref)):=460. b l
  by_cases hi:i<c.length
  ·rw[List.getElem?_append_left hi]at m;exact((hS i t' p' m h2).fg<|399. L).fg O
  have R:i<(c++[t]).length:=048 m;rw[bE]at R;have N:i=c.length:=by simp at R;lia
  subst N;rw[List.getElem?_append_right<|aU _,Nat.sub_self]at m;have m:t=t':=by simpa using m
  subst m;rw[y,C]at h2;cases h2;exact sk.fg O
 case done=>
  rintro u y1_;have⟨f,c,B,y,k,d,hS⟩:=y1_;rw[Nat.zero_add,aI]at y;have 248. M S:=B.ug k;have N:=sH r;subst N;try dsimp only
  refine 40.5 S;have a3:=i6 hD Y 81.;exact LR B (by have:=hr.units;lia) (d _ _ hD a3) T U k y hS hK Z hz fun G s2 C hs I2=>h G _ s2 C hs (fun b o q n1 n2=>by rw[aS n2,aS n1];exact d _ _ q n1) aJ I2
def p8(K:aA)(aL:Ad):5e4:=fun vs H Q=>∃l F N fs ls,062 l/\cX K H l (rf F)/\769./\314./\jM ls F/\565./\
 ∀D G H',G.Perm F->yl 17.2->246. G
theorem yB{Q:VK}(G:iY X.prog X.w X.K X.mg X.base (Ph X.prog X.w aL) 1 aL.fao aL.dao Se (lr aL))(hb:Binds X.K aL.dao Se [])(hr:gL 3 X.A)(I:Inv X pins σ H s)(rv:Vals vs us)(h:p8 X.K aL vs H Q):
 wpAny (model X.prog X.w) X.A (call (.builtin "sorted") us [(Str.ofString "key",.ref aL.fao)]) (EP X pins σ Q) E s:=by
 revert G hb hr I rv h;revert X pins σ H s E vs us Q;intros X pins σ H s E vs us Q G hb hr I rv h
 let⟨l,F,N,fs,ls,rfl,hl,hz,hE,hK,hnd,q⟩:=h;rw[Vals.Dz rv];have⟨its,r,hp,hzz⟩:=I.list hl;have ei:its=F.map (fun p=> .ref p.1):=by
  have:=sH (ps:=F.map (·.1)) (us:=its)<|by rw[bQ];exact r
  simp_all
 subst ei;have hsz1:(F.map fun p=>Value.ref p.1).length<=sizeLine:=by rw[aI];exact bU hz<|by decide
 refine call_function_entry_kw kind_sorted plain_sorted entry_sorted (ksk_s1 _ _) ?_;unfold Builtin.«sorted»;refine aH (m:=checkCount "sorted" 1 1 _)<|aN ?_;refine aH<|collect_list hp.isList ?_ hsz1;refine aH<|Ga ?_ hsz1;have I1:Inv X pins σ H {s with heap:=(s.heap.push<|seqObj "list" #[] 0).update s.heap.objs.size<|Obj.mapSeq (· ++(F.map fun p=>Value.ref p.1).toArray)}:=I.kept (t':=s.toks) fun b o z=>by have hlt:b<s.heap.objs.size:=bY z;grind[Heap.get?_update_ne,Heap.get?_push_ne]
 generalize hs1:({s with heap:=(s.heap.push<|seqObj "list" #[] 0).update s.heap.objs.size<|Obj.mapSeq (· ++(F.map fun p=> .ref p.1).toArray)}:aB)=s1 at I1;have hrf:rf F=(F.map (·.1)).map .ref:=by simp[rf,bQ]
 have hrv:(F.map fun p=>Value.ref p.1)=(F.map (·.1)).map Value.ref:=by simp_all
 have hD0:=I1.fresh;have I2:=I1.KY (t':=s1.toks) (by lia)<|by lia
 generalize hDD:s1.heap.objs.size=D at *;generalize ({s1 with heap:=s1.heap.push {cls:=.type "list",data:=.seq (F.map fun p=> .ref p.1).toArray}}:aB)=s2 at I2;have⟨_,⟨its2,n2,r2,_,e2⟩⟩:=I2.ug aJ;have ei:its2=F.map (fun p=> .ref p.1):=by
  have:=sH (ps:=F.map (·.1)) (us:=its2)<|by grind
  rw[this,hrv]
 subst ei;refine aH<|fD<|wpAny_call_entry_kw slot_list_sort (e11 _ e2<|rfl) entry_list_sort ?body<|ksk_l1 _ _
 case body=>
  rw[ksk_t1];unfold ksk_tree;have I3:Inv X pins σ (upd H D<|.lst []) {s2 with heap:=s2.heap.update D<|Obj.mapSeq fun _=>(#[]:Array Value),toks:=s2.toks}:=by have:=I2.zV (its':=[]) (f:=fun _=>(#[]:Array Value)) (t':=s2.toks) (ys:=[]) aJ e2 rfl .nil<|bH _;rw[fY]at this;exact this
  refine aH<|listItems_at e2 rfl ?_;refine aH<|nP e2 rfl ?_ (by rw[cM];exact hsz1)<|bH _;have⟨_,⟨its3,n3,r3,_,e3⟩⟩:=I3.ug aJ;cases r3;refine aH<|KA e3 rfl ?_;refine aH<|wpAny_newTuple ?_ hsz1;refine aH<|Ga ?_<|bH _;refine fD ?_;have nf:=I3.BE (d:=D) (u:=.lst []) aJ trivial;let⟨od,I4⟩:=I3.lock (d:=D) (u:=.lst []) aJ trivial;rw[fY]at I4;have hod:od.data= .seq #[] n3:=by have⟨g1,_⟩:=(show eH X.prog X.w _ _ D (.gO od<|.lst [])from I4.fh D _ aJ);rw[e3]at g1;cases g1;rfl
  have I5:Inv X pins σ (upd H D<|.gO od<|.lst []) {s2 with heap:=(s2.heap.update D<|Obj.mapSeq fun _=>(#[]:Array Value)).push {cls:=.type "tuple",data:=.seq (F.map fun p=>Value.ref p.1).toArray}}:=I4.kept (t':=s2.toks) fun b o z=>aR _ z;have hk0:=I5.fresh;have I6:=I5.KY (t':=s2.toks) (ys:=[]) (its:=[]) .nil<|bH _;generalize hkS:((s2.heap.update D<|Obj.mapSeq fun _=>(#[]:Array Value)).push {cls:=.type "tuple",data:=.seq (F.map fun p=> .ref p.1).toArray}).objs.size=kS at *;have hDk:=aV aJ hk0;have hkH:H kS=none:=by rw[aS<|eC hDk]at hk0;exact hk0
  have sm:bC H (upd (upd H D<|.gO od<|.lst []) kS<|.lst []):=fun b o z=>by rw[aS<|aV z hkH,aS<|aV z hD0];exact z
  refine JR (fs:=fs) (ls:=ls) (F:=F) G hb hr.in1.in1 (fun s H e=>e.in1.in1) I6 (by rw[aS hDk];exact aJ) hod nf aJ (hE.of (fun b o _ z=>⟨aV z hkH,sm _ _ z⟩)<|fc.same sm) hK hnd hz fun G' H' s' hp' hs' fr hD' I'=>(e11 _ rfl<| ?_);refine aN<|e11 _ rfl<|e22 (.ref D) H' I' rfl<|q D G' H' hp' hs' (fun b o z=>?_) hD0 hD';exact fr b o (sm _ _ z) (aV z hkH)<|aV z hD0
#check 0
section
variable{X:Cx}
def N6(K:aA)(aL:Ad)(te:TE):TE:=fun σ H Q=>te σ H fun x b=>p8 K aL [x] b Q
theorem JS(G:110.)(n:35.9)(o:gL 3 X.A)
 (q:Gl X "sorted") (r:X.mg "sorted" =none) (d:Gl X "place_in_run") (f:X.mg "place_in_run" =72. aL.fao) (t:20.8) (hs:45.3 e e:=by rfl)
 (g:346. b [e]=173. e::346. b []:=by rfl) (i:95.2 b [e]:=by rfl):
 087 (.Call (.Name "sorted" p) [e] [⟨ 7. "key",.Name "place_in_run" m,j⟩] b) (N6 X.K aL te):=by
 revert G n o q r d f t hs g i;revert X e te b p m j;intros X e te b p m j G n o q r d f t hs g i
 intro pins s σ H Q I h;refine jB<|v9 I q r PyProof.Rows.boot_sorted ?_;refine callWith_kw (40.0 (dG t hU hs b pins s σ H (fun vs c=>p8 X.K aL vs c Q) I<|show te σ H fun x c=>p8 X.K aL [x] c Q from h)) g i;rintro us u ⟨vs,c,y,z,B⟩;refine 40.0 (KN (nm:=7. "key") (kpos:=j) (mi (v:=02 aL.fao) d f rfl) M4 b pins u σ c (fun k l=>l=c/\k=[02 aL.fao]) y 14.7);rintro ks M ⟨k,l,C,D,J,L⟩;subst J L;rw[Vals.Dz D];exact yB G n o C z B
#check 0
#check SR
namespace SR
open PySem PySem.Spec PyProof.Rows L2
open Vacola (Leaf Lit fits)
open Vacoly (keyLess)
section
variable{prog:aD}{w:World}{A:Around}{d:Addr}{od:Obj}{es:949.}{ep:Nat}
theorem Hl(n:393.)(it:Addr)(j:d≠it)(c:74.6 od.data es):92. Walks A it [it,d] [it] es.size (fun i v=>∃l,es[i]? =7. l/\v=l.key) (fun i h=>h.IsKeyIter it d i es.size ep/\64. d od) where
 sub:=fun b a=>by simp at a;cutsat
 frame:=fun _ _ _ st m=>⟨st.1.at fun o e=>m it 060 o e,m d 060 _ st.2⟩
 item:=fun i s Q E hi st f=>by refine yc st.1 st.2 c rfl (h9 hi) fun g hit hs=>?_;exact f _ g s.toks (406. (h9 hi)) ⟨hit,(hs.2 d j).trans st.2⟩ fun b o a e=>683. hs.extBut a
 done:=fun s Q E st f=>z7 n st.1 st.2 c rfl 779. fun g p=>f g s.toks fun b o a e=>683. p a
 self:=fun _ s Q E st f=>by have k:=st.1.typeIs (s:=s);refine wpAny_pyIter_slot k Bf<|eP Bf k F.entry_dict_keyiterator_iter ?_<|F.args_dict_keyiterator_iter_1 _;exact aN<|5.<|e22 ("dict_keyiterator") _ k F.slot_dict_keyiterator_next.lookup<|f
theorem LS(lo:99. d)(c:od.ExactDict)(b:74.6 od.data es):92. W.KdlSrc "dict" d d es.size (fun i v=>∃f,es[i]? =7. f/\v=f.key) (fun h=>64. d od) where
 type:=fun s a=>(e11 od a<|c.1)
 there:=fun _ a=>⟨bY a,bY a⟩
 keep:=fun _ _ a g=>g d (8.5) _ a
 notList:=08
 notTuple:=08
 hint:=fun _ _ s _ a e=>W.kdl_hint_dict (e11 od a<|c.1) e
 iter:=fun _ s j a=>(e22 _ _ (fun _ _ e=>Gv lo a c b e) (Hl j _ (df<|bY a) b)<|⟨(056 bP),aR _ a⟩)
#check 0
theorem CF{a:Type}{R:56.3 a}{it:a->Value}:∀{xs:05 a},(∀x∈xs,R x (it x))->qH R xs (840. it)
 | [],_=> .nil
 |89.9,h=> 9e6 (h x bM)<|CF fun y b=>h y<|bO _ b
def isNum:Leaf->Bool
 | .text _=>false
 |_=>true
theorem zD{a:Leaf}{ls:37.7}{k:830.}(h:gi (a::ls) k):∃c r,mD k=c::r/\c.isLeft=isNum a:=by
 cases k with
 |nil=>have:=h.1;cases this
 |cons x k=>obtain⟨f,_⟩:=h.cons;refine(e21 (o7 x) (mD k) rfl<| ?_);cases a <;> cases x <;> cutsat <;> rfl
section
variable{X:Cx}{pins:Sn}{σ:L2.St}{H:Hp}{s:aB}{A:Around}{E:Sl}
def N7(P:aD)(w:World):5e4:=fun vs H Q=>∃(d:Addr) (kvs:919. Lit) (lf:Leaf) (ls:37.7),062 d/\903. H/\(∀x∈kvs,76.8 x.1)/\
 ∀(D:Addr) (G:919. Lit) (H':Hp),(73.2).Perm (kvs.map 0.6)->qJ (73.2)->5.7->54. D->15.4 D (915. x.2)->(∀x∈G,fB H x.2 x.1)->796. D
theorem JT(hc:247.)(hu:6e0 64):738. "sorted" (29. N7):=by
 revert hc hu;revert X;intros X hc hu
 intros pins s σ H vs us Q I rv h
 let⟨d,kvs,lf,ls,rfl,z2_,a3,q⟩:=h;let 25.6 hk hz:=z2_;rw[Vals.Dz rv];have n:∀x∈xs,76.8 x.1:=fun x M=>a3 81.4<|9e0 x M;have 28. z1r _:=(show 647. d (56.2 xs)from I.fh d _ e);obtain⟨lo,od,es,ep,h1,S,h3,h4,h5⟩:=z1r;revert h1 S h3 h4;revert od es ep;intros od es ep h1 S h3 h4;have hsz:317. es.size:=by rw[<-cN,h4,aI]
 refine 69.8 Calls.call_function_entry (args_sorted1 _);unfold Builtin.«sorted»;refine 34.6;refine aH<|W.kdu_collect (A:=X.A.in1) (LS lo S h3) (show X.A.in1.handled=none from 86.9 hc) h1 (by rw[hsz];exact 99.0) fun g tk acc Y T=>?_;revert Y T;revert g tk acc;intros g tk acc Y T;have ea:acc.toList=840. (fun x=> 02 x.2.1):=by
  refine List.ext_getElem? (4e7 j);revert j;intros j;rw[bN];have l1:=T.1;by_cases hj:j<xs.length
  ·have l2:j<acc.size:=95.
   have a1:acc.toList[j]? =7. acc[j]:=44.
   have⟨en,b1,b2⟩:=T.2 j acc[j] (h9 l2);rw[a1,b2,aQ hj];rw[<-hJ,h4,bN,aQ hj]at b1;cases b1;rfl
  simp[*]
 rw[ea];have N:7.3 (79.5).length:=242.
 refine aH<|Ga ?_ N;have I1:00 H {s with heap:=g,toks:=tk}:=I.kept (t':=tk) Y;have a4:(79.5)=2e6 xs.map (·.2.1) Value.ref:=52.
 have Z:54. g.objs.size:=I1.fresh;have I2:00 (8.7 g.objs.size<|1e6 ((840. (·.2.1)).map V.ref)) (894. g.push 57.7):=I1.KY (t':=tk) (by rw[a4];exact tJ _)<|52.
 have e2:(g.push 57.7).get? g.objs.size=7. 57.7:=794.;generalize ai:g.objs.size=D at *;generalize aj:(894. g.push 57.7:aB)=L at *;have e2:L.heap.get? D=7. 57.7:=17.
 refine aH<|fD<|25.5 eP<|args_list_sort _
 case body=>
  rw[list_sort_plain];have I3:00 (4.9 H D) {L with heap:=6.2 L.heap.update D,toks:=L.toks}:=by have:=40.9 (t':=L.toks) (ys:=[]) aJ e2 rfl .nil<|bH _;rw[fY]at this;exact this
  refine 40.5 e2;refine aH<|84.3 e2 (by rw[cM];exact N)<|bH _;have 073 ⟨ah,n3,r3,_,e3⟩:=I3.ug aJ;cases r3;revert e3;revert n3;intros n3 e3;refine aH<|KA e3 rfl ?_;refine aH<|wpAny_newTuple ?_ N;refine aH<|Ga ?_<|bH _;refine fD ?_;have I4:00 (4.9 H D) (011 (5.6 "tuple")):=I3.kept (t':=L.toks) fun b o z=>aR _<|aR _ z;have a5:∀z:aB,(011 (5.6 "tuple"):aB)=z->z.heap.get? D=7. (277. 649. n3):=fun z hz=>by subst hz;exact aR _<|aR _ e3
  generalize a6:(011 (35. "tuple" (xs.map fun x=> 02 x.2.1).toArray):aB)=O at I4 ⊢;have e4:O.heap.get? D=7. (277. 649. n3):=a5 O a6;have a0:∀(B:SortSt) (G:05 NX),32.1 B->G.Perm xs->qJ (73.2)->52.4 B=G.map (013)->
   00 (8.7 D<|1e6 (915. x.2.1)) {O with heap:=O.heap.update D<|Obj.mapSeq fun _=>301. B,toks:=O.toks}/\(301. B).size<=sizeLine + 1/\9.3 D (8.7 D<|1e6 (915. x.2.1)):=fun B G hf R a7 U=>by
   have hl:=R.length_eq;refine⟨?_,?_,?_⟩
   ·have a8:Vals (915. x.2.1) (G.map 013):=by have:=tJ<|G.map (·.2.1);rw[bQ,bQ]at this;exact this
    have:=I4.zV (its':=G.map fun x=> 02 x.2.1) (f:=fun _=>301. B) (t':=O.toks) aJ e4 (by rw[<-U]) a8<|by rw[aI,hl];exact 99.0
    rw[fY]at this;exact this
   ·rw[<-cN,U,aI,hl];exact Nat.le_succ_of_le<|99.0
   refine q D (G.map 098) _ ?_ ?_ (5.1 Z) Z ?_ (63. x M)
   ·rw[bQ,JF];exact R.map _
   ·rw[bQ];exact a7
   ·rw[aJ,bQ];rfl
   have 33. y hy:=92.2 M;exact hk y<|R.mem_iff.mp hy
  try dsimp only
  by_cases S:(79.5).toArray.size<2
  ·rw[aP S,aP S];refine 334.;rw[StateT.run_pure];refine 334.;try dsimp only
   rw[cM,aI]at S;obtain⟨J,z1,z2⟩:=a0 (562. general' ((79.5).toArray.zip (79.5).toArray)) xs rfl (.refl _) (by
    cases xs with
    |nil=>simp_all
    |cons a l=>cases l with
     |nil=>exact tY _ _
     |cons=>simp at S;lia)<|by
    show(2e6 (79.5).toArray.zip (79.5).toArray 62.).toList=_
    rw[tS,AN];exact List.map_snd_zip<|aU _
   refine aH<|KA e4 rfl ?_;refine aH<|84.3 e4 81.8 z1;simp only[bne_self_eq_false,cU,hB];exact 65.5
  rw[aM S,aM S];rw[cM,aI]at S;have hI:qH (fun(x:NX) v=>∃a,v= 02 a/\29. fS O.heap (mD x.1) a) xs (79.5):=by
   have kk:∀x∈xs,29. fS O.heap (mD x.1) x.2.1:=fun x M=>by have a9:fB (4.9 H D) x.2.1 x.1:=(hk x M).fg<|fc.same<|5.1 Z;exact lq I4.fh a9
   exact CF fun x M=>(5.<|kk x M)
  refine aH<|LP (b:=isNum lf) (F2 hI) 648. (63. k aa) ?_
  ·have 33. x M:=92.2 aa;exact zD<|n x M
  have ab:X.A.in1.in1.units + 16<cLine:=by rw[Around.in1_units,Around.in1_units];lia
  refine aH<|eG (CB (s:=O) (A:=X.A.in1.in1) (rO Fz) (K:=fun k v=>∃a,v= 02 a/\29. fS O.heap k a) (fun x v p=>x1_1 p fun a e h=>x3_3 h fun b _ _ g _ _ _=>⟨a,b,e,g⟩) (fun x y v p q=>?_) (g:=fun x:NX=>mD x.1) (it:=013) (b:=isNum lf) hI
   (fun x y u v Q M hy p q k=>?_) 2.8 (Q:=fun _ B=>∃G:05 NX,32.1 B/\G.Perm xs/\52.4 B=G.map (013)/\qJ (73.2)) fun B qs hf R he hw=>(e13 qs hf R he<| ?_)) ?_ fun _ _ e=>e
  ·obtain⟨a1,rfl,p⟩:=p;obtain⟨a2,z,q⟩:=q;cases z;exact p.inj q
  ·obtain⟨a1,rfl,p⟩:=p;obtain⟨a2,rfl,q⟩:=q;obtain⟨x1,m1,rfl⟩:=92.2 M;obtain⟨x2,m2,rfl⟩:=92.2 hy;refine PM ab p q (lz (n x1 m1)<|n x2 m2).1 (fun hb c r hc=>?_) k;have⟨c',r',e',ae⟩:=zD<|n x1 m1;rw[hc]at e';cases e';rw[ae];exact hb
  ·have af:57.9 qs.map:=89.0 R.map _ h5;rw[qJ,List.pairwise_map];rw[j1]at hw ⊢;intro i j hi hj ag;have m1:=R.mem_iff.mp<|iU hi;have m2:=R.mem_iff.mp<|iU hj;have z:=hw i j hi hj ag;rw[(lz (n _ m2)<|n _ m1).2.1]at z;have ne:qs[i].1≠qs[j].1:=fun t=>by
    have:i=j:=(809. (h₁:=by simpa using hj) af).mp<|by simpa using t
    simp_all
   rcases jc (a:=qs[i].1) (b:=qs[j].1) ((n _ m1).1.trans (n _ m2).1.symm)with t|t|t
   ·exact t
   ·exact 88. t ne
   rw[z]at t;cases t
  rintro y1_ s' y2_;obtain⟨⟨⟩,B⟩:=y1_;have 28. rfl ⟨G,hf,R,he,hw⟩:=y2_;try dsimp only
  have⟨J,z1,z2⟩:=a0 B G hf R hw he;refine aH<|KA e4 rfl ?_;refine aH<|84.3 e4 81.8 z1;rw[hf];simp only[bne_self_eq_false,cU,hB];exact 65.5
#check 0
#check SR
namespace SR
open PySem PySem.Spec PyProof.Rows L2
open Vacola (Leaf Lit Mode Head Fields fits)
theorem EX{X:Cx}:QD X "list.insert" (84.8 [59. 0,y] (y::xs)):=by
 intro pins s σ H x vs v us Q I rx rv h;have⟨l,xs,y,rfl,rfl,hH,hz,q⟩:=h;cases rx;have⟨u,v,rfl,ru,rw1⟩:=rv.two;obtain⟨t,rfl⟩:=ru;have 248. hl e:=I.ug hH;refine call_meets F.slot_list_insert (33. _ e) F.entry_list_insert (015 F.args_list_insert_3) (615. AutoSeq1.list_insert_list_int_val_1 l n 0 t v (08)<|77.7) ⟨e,?_⟩;refine⟨.gm,_,I.zV (its':=v::its) hH e ?_ (9e6 rw1 r) (by rw[aZ];cutsat),rfl,q⟩
 show(its.toArray.extract 0<|min 0 its.toArray.size).push v++its.toArray.extract (min 0 its.toArray.size)=(v::its).toArray
 rw[Nat.zero_min];simp
def CG(bF:aA)(aL:Ad):Sp:=fun vs H Q _=>0e4 p8 vs H Q
theorem rn(T:19.):01 4 aL.faZ aL.daZ ["entries"] (0e4 CG):=by refine 4. T.FaZ SaZ;rintro _ _ _ _ _ _ _ _ c h;have h':=h;have⟨l,F,N,fs,ls,rfl,_⟩:=h;exact(1.2 (aO<|bJ<|JS (vC T) T.Bao c 90. T.bc4 90. T.gao<|pv 0)<|5.<|h')
def jn(F:lS):lS:=(F.reverse.dropWhile fun p=>089).reverse
theorem EY(F:lS):2e6 jn F 62.=lM 2e0:=by
 have b:∀l:lS,(l.dropWhile fun p=>089).map 62.=(l.map 62.).dropWhile 331.:=fun l=>by
  induction l with
  |nil=>rfl
  |cons p l c=>grind[List.map_cons,List.dropWhile_cons]
 unfold jn lM;simp_all
theorem EZ:jn []=[]:=rfl
theorem CH(h:4e2 089):jn (F++[p])=jn F:=by simp_all[jn]
theorem CI(h:089=false):jn (F++[p])=F++[p]:=by unfold jn;rw[List.reverse_append];simp[h]
theorem E1(F:lS):(jn F).Sublist F:=by grind[jn]
theorem CJ(xs:05 V){n:Nat}(h:933. n):97.5:=by unfold pj;rw[HT.wg,HT.sA,719. h];rfl
def LU(bF:aA)(aL:Ad):Sp:=fun vs H Q _=>∃l F N fs,062 l/\19.9/\314./\769./\∀D H',246. (jn F)
theorem nE(T:19.):01 2 aL.fbm aL.dbm ["history"] (0e4 LU):=by
 refine 4. T.Fbm Sbm
 intros _ _ _ _ H _ Q _ x y1_;let⟨l,F,N,fs,rfl,c,y,hz,z⟩:=y1_;have f:=Sbm.nd;refine(1.2 (aK (gM 1 f<|751. 0)
  <|aK (lA bV (rB (229. 79. bZ)<|nQ<|dJ<|365. (295. (54.2 jC)) x).pt
   <|aO<|gM 1 f<|54.2 jC)
  <|aO<|bJ<|lD nU 31. vQ<|ke<|pv 1)<| ?_)
 dsimp only[dO];refine(5.<|3.3 l c<| ?_);have b:∀n:Nat,n<=F.length->jn F=F.take n->∀D,54. D->9.3 D (8.7 D<|1e6 (pj (rf F) none<|30.2 n)):=fun n J e D g=>by rw[CJ _ (by grind[fF])];refine z D _ (5.1 g) g ?_;simp_all[aJ,rf]
 refine(e11 (fun m o H'=>H'=H/\m<=F.length/\o=[82. l,53.1 m]/\jn F=jn (F.take m)) (65.0 F.length 779. (by rw[fF];rfl)<|by rw[cJ])<| ?_)
 intros m o H' y1_;have⟨rfl,B,rfl,e⟩:=y1_;refine(606.);by_cases r:36.8 0 m
 ·rw[aY r];let 2.5 k:=(⟨m - 1,21. ⟩:∃k,m=k + 1);let 28. p d:=46.1 (95.9 17.) F[k]?;have t:=y p<|bB d;have⟨C,L,M,_,g1,_⟩:=id t;refine dv<|5.<|5.<|3e1<|45. l c (at_of (j:=k) 960.<|PB d)<|0e8 p.1 C g1 13.9<|694. N t<|48.;rw[dr d]at e;cases u:089 with
  |true=>rw[CH u]at e;refine dv<|1.2 (fun G I q=>(e11 k (tT _)<|q))<|5.<|e25 _ _ rfl rfl rfl 060 ?_<|e;simp
  |false=>rw[CI u,<-dr d]at e;exact dw<|5.<|5.<|5.<|25. l (72.1 c)<|b 832. B e
 rw[aX r];have:m=0:=52.
 subst this;rw[List.take_zero,EZ]at e;exact dw<|dw<|5.<|5.<|5.<|25. l (72.1 c)<|b 0 81.8<|17.
def xu(F:lS)(p:Nat):lS:=F.filter fun x=>881. 83.6 p
theorem Hm(F:lS)(p):(xu F p).map 68.4=upTo 2e0 p:=by unfold xu upTo;rw[oR,bQ];rfl
def xw(F:lS)(b:Sh):lS:=F.filter fun x=>61. (83.6 ∈gz 21.4 b)
theorem Hn(F:lS)(b):(xw F b).map 62.=readable 2e0 b:=by unfold xw readable;rw[oR];rfl
def oY(b:Sh)(c:Bool)(F:lS):lS:=if c then jn (xw F b)else xw F b
theorem Ho(b)(c)(F:lS):(oY b c F).map 62.=ve b c 2e0:=by grind[oY,ve,EY,Hn]
theorem uL(b)(c)(F:lS):(oY b c F).Sublist F:=by
 unfold oY;split
 ·exact(E1 _).trans cF
 exact cF
def PN(kvs:50.5 V)(b:Sh):Prop:=(∀n,(994. (602. n)).isSome=true↔∃m∈b,n=47. m)/\kvs.length<=b.length
theorem ro:gz g (ps++[p])=gz g ps++(DZ (upTo g p)).toList:=by grind[gz]
def E2(bF:aA)(aL:Ad):Sp:=fun vs H Q _=>∃l pl F b N fs,428. l pl/\19.9/\H pl=73.8 b.map/\314./\769./\b.length<=1000/\
 ∀D H',246. (xw F b)
theorem CK(T:Txt bF cW aL):fC d8 d9 bF cW fw aL 2 aL.faS aL.daS ["history","points"] (E2 bF aL):=by
 refine cH T.FaS SaS ?_ (by intro _ _ _ _ h;(repeat obtain⟨_,h⟩:=h);subst_vars;rfl)
 intros _ _ _ s H _ _ _ hr y1_;let⟨l,pl,F,c,N,fs,rfl,h1,hp,h2,hz,aa,kq⟩:=y1_;have U:=SaS.nd;have hu:=sJ hr;refine(e11 _ (aK (gM 2 U BD)
  <|aK (gE bV rfl (fq<|pv 1) (qI 3 U)
   <|aK (wo (i:=4) (own:=[("entry",5)]) (tt:=Fl<|Mu (Kv fun i j=> .bl (decide<|i<=j)) (vw bF (ji 5) "number")<|ji 3) (te:=vw bF (ji 5) "number") rfl U rfl rfl (zY rfl rfl rfl rfl) (fq<|pv 0) (ib<|by show uk NaS (eK saS) _ _=true;decide +kernel) (by intros s H C cl Z;exact qI 5 U)
    (by intros s H C cl Z;exact sE<|cA ko (bA (pv 5) rfl) (pv 3)<|cD _)
    <|by intros s H C cl Z;exact bA (pv 5) rfl)
   <|aO<|cR (cA lB (nN T.baf<|pv 4) bZ<|cD _)
    (aO<|z6 hu (pv 2) (f9 (Nc rfl) (by rfl) T.bdK PyProof.Rows.boot_max<|dZ<|pv 4) uZ rfl) bS)
  <|aO<|bJ<|sF (own:=[("entry",5)]) (tt:=tB<|O6 (vw bF (ji 5) "number")<|ji 2) (te:=ji 5) rfl U (fq<|pv 0) (ib<|by show uk NaS (eK saS) _ _=true;decide +kernel) (by intros s H C cl Z;exact qI 5 U)
   (by intros s H C cl Z;exact sE<|t7<|IB hu (bA (pv 5) rfl)<|pv 2)
   <|by intros s H C cl Z;exact pv 5)<| ?_)
 dsimp only[dO];have J:∀{H':Hp},bC H H'->∀{x:Addr ×Ent},x∈F->∃L kt rv,H' x.1=some (.ins aL.cai L<|Lw (.ref kt) (.int x.2.seq) rv):=fun g x hx=>by have⟨L,kt,rv,_,g1,_⟩:=h2 x hx;exact(e30 L kt rv<|g _ _ g1)
 intros d hd;refine(e11 _ rfl<|e12 pl rfl ⟨_,cX.of<|bC.put hd _ _ hp⟩<|gP (xs:=c.map vN) (fun i σ H'=>∃v B kvs,σ=[some<|.ref l,some<|.ref pl,some<|.ref d,v,B,none]/\bC H H'/\H' d=some (.dK kvs)/\PN kvs (gz (F.map (·.2))<|c.take i))
  (e33 none none [] rfl (bC.put hd) aJ<|⟨fun n=>⟨(fun z=>nomatch z),fun⟨m,hm,_⟩=>(nomatch hm)⟩,aU _⟩) ?_ ?_ ?_)
 ·intros i σ H' hi y1_;let⟨v,B,kvs,rfl,g,G,M⟩:=y1_;exact cX.of<|g _ _ hp
 ·intros i x σ H' hx y1_;let⟨v,B,kvs,rfl,g,G,M⟩:=y1_;rw[bN]at hx;let⟨p,a0,rfl⟩:=bW.mp hx;have ab:i<c.length:=(aT.mp a0).1;refine(e11 _ rfl<|e12 l rfl ⟨_,cX.of<|g _ _ h1⟩<| ?_);intros D Y;refine kg (xs:=rf F) (fun j r=>r D=some (.lst ((xu (F.take j) p).map fun x=>V.int x.2.seq))/\bC H' r) ⟨aJ,bC.put Y⟩ ?_ ?_ ?_
  ·intros j r hj y1_;have⟨_,f⟩:=y1_;(try clear y1_);exact cX.of<|f _ _<|g _ _ h1
  ·intros j y r hy y1_;have⟨t,f⟩:=y1_;(try clear y1_);let⟨e,he,rfl⟩:=uE hy;let⟨L,kt,rv,g1⟩:=J (g.trans f)<|bB he;refine⟨rfl,e11 _ rfl<|e55 e.1 _ L _ _ rfl g1 T.Cai T.nbK ju<|e11 _ rfl<|e22 _ _ rfl rfl<|e11 _ rfl<| ?_⟩;have hl:(xu (F.take j) p).length<=1000:=bU (dU ..)<|by grind
   have a3:decide ((e.2.seq:Int)<=(p:Int))=decide (e.2.seq<=p):=by simp
   rw[a3];have u:=take_succ_filter (q:=fun x:Addr ×Ent=>decide<|x.2.seq<=p) he;cases I:decide (e.2.seq<=p)with
   |true=>
    refine dv<|e11 _ rfl<|e55 e.1 _ L _ _ rfl g1 T.Cai T.nbK ju<|e13 _ t (by rw[aI];show _<2 ^ 24;lia) ?_<|by intros b o z;rw[aS<|aV z Y];exact f _ _ z
    rw[aJ];unfold xu;simp[*]
   |false=>refine dw ⟨?_,f⟩;unfold xu;rw[u,I,aM (by decide),dn];exact t
  intros r y1_;have⟨t,f⟩:=y1_;(try clear y1_);rw[fF,cJ]at t;have eN:((xu F p).map fun x=>V.int x.2.seq)=((upTo (F.map (·.2)) p).map fun n:Nat=>(n:Int)).map V.int:=by rw[<-Hm,bQ,bQ];rfl
  rw[eN]at t;have tk:=dr a0;have O:=g.trans f;have R:=f _ _ G;refine(e11 _ rfl<|e22 D _ rfl (.inl (cX.of t))<|e22 _ _ rfl rfl<|e11 _ rfl<| ?_);rw[aI,aI];have a5:kvs.length<=1000:=by have:=M.2;have h3:(gz (F.map (·.2))<|c.take i).length<=(c.take i).length:=List.length_filterMap_le ..;grind
  refine O9 ?_ ?_
  ·intros I;have I:=cZ I;refine(e11 _ rfl<|e11 _ rfl<|e23 D _ rfl (cX.of t) (by rw[aI];simp_all)<|fun m hm a6=>(e22 d _ rfl (zZ.k (k:=Sum.inl m) R<|Nat.lt_of_le_of_lt a5<|by decide)<|e33 (some<|.int p) (some<|.ref D) _ rfl ?_ aJ<| ?_))
   ·intro b o z;rw[aS<|aV z hd];exact O _ _ z
   have⟨m',a7,rfl⟩:=bK.mp hm;have a4:DZ (upTo (F.map (·.2)) p)=some m':=wL.mpr ⟨a7,fun b hb=>by have:=a6 (b:Int)<|bK.mpr<|e11 b hb<|rfl;simp_all⟩;rw[tk,ro,a4];refine⟨fun n=>?_,?_⟩
   ·rw[Bz];by_cases en:(Sum.inl n:L2.Key)=Sum.inl (m':Int)
    ·simp_all
    rw[aM en,M.1 n];simp_all
   have:=pB kvs (Sum.inl (m':Int)) (V.bl true);have:=M.2;grind
  intros I;have I: ¬ _:=fun z=>I (aY z);refine(e33 (some<|.int p) (some<|.ref D) kvs rfl O R<| ?_);have S:DZ (upTo (F.map (·.2)) p)=none:=by
   have:upTo (F.map (·.2)) p=[]:=List.eq_nil_of_length_eq_zero<|by simp_all
   rw[this];rfl
  rw[tk,ro,S];simpa using M
 intros σ H' y1_;let⟨v,B,kvs,rfl,g,G,M⟩:=y1_;rw[aI,cJ]at M;refine(e11 _ rfl<|e12 l rfl ⟨_,cX.of<|g _ _ h1⟩<| ?_);intros D Y;refine kg (xs:=rf F) (fun j r=>r D=some (.lst (rf<|(F.take j).filter fun x=>decide<|x.2.seq∈gz (F.map (·.2)) c))/\bC H' r) ⟨aJ,bC.put Y⟩ ?_ ?_ ?_
 ·intros j r hj y1_;have⟨_,f⟩:=y1_;(try clear y1_);exact cX.of<|f _ _<|g _ _ h1
 ·intros j y r hy y1_;have⟨t,f⟩:=y1_;(try clear y1_);let⟨e,he,rfl⟩:=uE hy;let⟨L,kt,rv,g1⟩:=J (g.trans f)<|bB he;refine⟨rfl,e11 _ rfl<|e55 e.1 _ L _ _ rfl g1 T.Cai T.nbK ju<|e11 _ rfl<|e22 d _ rfl (o5.k (k:=Sum.inl (e.2.seq:Int))<|f _ _ G)<|e11 _ rfl<| ?_⟩;have a8:(ic kvs<|Sum.inl (e.2.seq:Int)).isSome=decide (e.2.seq∈gz (F.map (·.2)) c):=by rw[eB,M.1,fZ];grind
  rw[a8];have hl:((F.take j).filter fun x=>decide<|x.2.seq∈gz (F.map (·.2)) c).length<=1000:=bU (dU ..)<|by grind
  have u:=take_succ_filter (q:=fun x:Addr ×Ent=>decide<|x.2.seq∈gz (F.map (·.2)) c) he;cases I:decide (e.2.seq∈gz (F.map (·.2)) c)with
  |true=>
   refine dv<|e11 _ rfl<|e13 _ t (by rw[fF];show _<2 ^ 24;lia) ?_<|by intros b o z;rw[aS<|aV z Y];exact f _ _ z
   rw[aJ,u,I,aP rfl,p5];rfl
  |false=>simp[*]
 intros r y1_;have⟨t,f⟩:=y1_;(try clear y1_);rw[fF,cJ]at t;exact kq D r (g.trans f) (g.free Y) t
abbrev zE:=5.9 Addr lS
def flat(R:zE):lS:=(R.map 62.).flatten
def jv(R:zE):05 V:=R.map 014
theorem eY(R:zE):0.3 jv R=R.length:=aI ..
theorem uM{R:zE}{i:Nat}{r:Addr ×lS}(h:R[i]? =7. r):flat (R.take 8.6)=flat (R.take i)++r.2:=by unfold flat;rw[dr h,bG,fN];simp
theorem JU(h:r∈R)(b:p∈r.2):71.5:=iR.mpr<|e11 r.2 (9e0 r h)<|b
theorem zF(i):0.3 flat (R.take i)<=67.9:=by grind[flat,List.flatten_append,List.map_append,List.take_append_drop]
theorem xy:578. l.flatMap l.flatMap
 | [],_=>rfl
 |x::l,h=>by rw[eO,eO,h x bM,xy fun y c=>h y<|bO _ c]
theorem p9(R:zE):2e6 flat R 62.=(9e1 62.).flatten:=by unfold flat;rw[List.map_flatten,bQ];rfl
abbrev LV:=830. ×Addr ×lS
def hk(h:LV):830. ×Addr:=(h.1,h.2.1)
structure xA(d8:aD)(d9:World)(dd:Addr)(pre:lS)(hs:05 LV)(H0 H:Hp):Prop where
 same:bC H0 H
 nd:18.5 H dd (hs.map hk)
 lst:∀h∈hs,H h.2.1=32.4 h.2.2/\095 H0 h.2.1/\h.2.1≠dd/\h.2.2=pre.filter fun p=>61. (5e6=h.1)
 addr:(hs.map (·.2.1)).Nodup
 keys:hs.map 0.6=kD (pre.map 62.)
theorem rp(l)(e:Ent):kD (l++[e])=j3 (kD l) e:=by grind[kD]
theorem AO(l:05 Ent):0.3 kD l<=l.length:=by
 have b:∀(l:05 Ent) (ks:05 Vacoly.Key),(97.7).length<=ks.length + l.length:=by
  intro l;induction l with
  |nil=>cutsat
  |cons e l c=>grind[j3]
 grind[kD]
theorem LW(hs:05 LV):2e6 hs.map hk 0.6=hs.map 0.6:=by rw[bQ];rfl
theorem LX{hs:05 LV}{k:830.}{u:Addr}(h:7e9 (hs.map hk)=7. u):∃x∈hs,x.1=k/\x.2.1=u:=by have 25.7 e:=bK.mp<|ly h;injection e with e1 e2;exact⟨x,hx,e1,e2⟩
theorem LY{hs:05 LV}{k:830.}(h:7e9 (hs.map hk)=none):k∉hs.map 0.6:=fun z=>by rw[<-LW]at z;have:=j6.mpr z;rw[h]at this;cases this
theorem xB(l:05 Ent):(kD l).Nodup:=by
 have key:∀(l:05 Ent) (ks:05 Vacoly.Key),ks.Nodup->(97.7).Nodup:=by
  intro l;induction l with
  |nil=>intro ks h;exact h
  |cons e l ih=>
   intro ks h;rw[fy];refine ih _ ?_;unfold j3;split
   ·exact h
   rename_i q;rw[iq];exact 505. q
 exact key l [] fL
theorem jT.keep(g:18.5 H d kvs)(b:H' d=H d)(c:10.1):18.5 H' d kvs:=by have⟨xs,e,f,q,hz⟩:=g;exact(e13 xs (b.trans e) (fun x h=>(f x h).fg c) q<|hz)
theorem xC:∀{l:929.},(l.map f).Nodup->∀{x y:α},x∈l->y∈l->f x=f y->x=y
 | [],_,_,_,d,_,_=>nomatch d
 |aL::l,h,x,y,d,i,e=>by
  rw[bD,eW]at h;rcases 819. d with b|b
  ·grind
  rcases 819. i with c|c
  ·simp_all
  exact xC h.2 b c e
theorem xD{p:672.}{hs:05 LV}(g:LV->b)(c:∀(y:LV) z,g (y.1,y.2.1,z)=g y):(hs.map 182.).map g=hs.map g:=by rw[bQ];refine de (63. y _);grind
theorem xA.more{x:LV}(h:75.7 b hs d H)(k:x∈hs)(e:x.1=5e6)(l:bC d H')(f:18.5 H' dd (hs.map hk))(s:H' x.2.1=32.4 (x.2.2++[p]))
 (m:∀y∈hs,y.2.1≠x.2.1->H' y.2.1=32.4 y.2.2):75.7 (b++[p]) (hs.map 182.) d H':=by
 revert h k e l f s m;revert dd b hs d H p H' x;intros dd b hs d H p H' x h k e l f s m
 have g:57.9 hs.map:=by rw[h.keys];exact xB _
 have i:=47.1 hk;have n:=47.1 (fun x=>x.2.1);have j:=47.1 (fun x=>x.1);refine⟨l,by rw[i];exact f,?_,by rw[n];exact h.addr,?_⟩
 ·intros z hz;let 33. y c:=92.2 hz;have⟨t,o,r,u⟩:=h.lst y c;by_cases q:y.1=5e6
  ·have:y=x:=xC g c k (q.trans e.symm);simp_all
  rw[aM q];refine⟨m y c fun z=>q ?_,o,r,?_⟩
  ·rw[xC h.addr c k z];exact e
  grind
 rw[j,h.keys,bG,bD,il,rp];unfold j3;rw[aP];rw[<-h.keys,<-e];grind
theorem xA.new(h:75.7 b hs d H)(g:bC d H')(e:18.5 H' dd (hs.map hk++[(5e6,v)]))(i:H' v=32.4 [p])(j:095 d v)(f:v≠dd)(m:v∉hs.map (·.2.1))
 (n:∀y∈hs,H' y.2.1=32.4 y.2.2) (k:5e6 ∉hs.map 0.6):75.7 (b++[p]) (hs++[(5e6,v,[p])]) d H':=by
 refine⟨g,by rw[bG];exact e,63. y c,?_,?_⟩
 ·rcases bT.mp c with c|c
  ·have⟨o,r,s,t⟩:=h.lst y c;grind
  rw[cG.mp c];refine⟨i,j,f,?_⟩;rw[List.filter_append];have:(b.filter fun q=>decide<|q.2.key=5e6)=[]:=by rw[List.filter_eq_nil_iff];intro q l z;refine k ?_;rw[h.keys];exact oG.mpr<|8.4 (e11 q.2 (9e0 q l)<|cZ z)
  simp[*]
 ·rw[bG,iq];refine⟨h.addr,44.,fun x u y c=>?_⟩;grind
 grind[h.keys,rp,j3]
def JV(bF:aA)(aL:Ad):Sp:=fun vs H Q _=>∃d pl R c b N fs ls,vs=[02 d,02 pl,.bl b]/\H d=008 jv R/\(∀r∈R,549./\80. fV fs r.2)/\
 jM ls (flat R)/\(2e6 flat R 68.4).Nodup/\67.9<=1000/\R.length<=1000/\H pl=73.8 c.map/\54.3 1000/\
 ∀(D:Addr) (G M:lS) (H':Hp),G.Perm (flat R)->yl 17.2->M.map 62.=lg c b 17.2->(∀p∈M,71.5)->246. M
theorem yC(T:19.):01 5 aL.fbk aL.dbk 667. (0e4 JV):=by
 refine 4. T.Fbk Sbk
 intros _ _ _ _ H _ _ _ hr y1_;let⟨rl,pl,R,d,b,N,fs,ls,rfl,a0,hR,hK,ba,hz,bt,bb,bc,kq⟩:=y1_;have nd:=Sbk.nd;have hu:=hr.units;refine(1.2 (513. 3
  <|aK (114. (fq<|pv 0) 4<|aO<|dg<|386. 777.<|000 4)
  <|aK (47.8 5 FY)
  <|aK (114. (fq<|94.2<|000 3) 6
   <|aO<|dg<|195. (ER hu 94.7 (13. 6) (cT hU) 730.)<|000 6)
  <|513. 7
  <|aK (K5<|114. (JO<|pv 5) 8
   <|aK (47.8 9<|044 CK hr T.gaS T.FaS.kp T.BaS<|33.7 8 1)
   <|aO<|dg<|386. (pv 7)<|dZ<|kn (dJ<|pv 2) (044 nE hr T.gbm T.Fbm.kp T.Bbm<|000 9)<|pv 9)
  <|057 7)<| ?_)
 dsimp only[dO];have hE:80. fV fs (flat R):=fun p hp=>by have⟨F,hF,hp⟩:=iR.mp hp;have 33. r bf:=92.2 hF;exact(hR r bf).2 p hp
 refine 276.;intros tg ag;refine(5.<|86. rl ⟨_,cX.of<|494. ag a0⟩<|91.3 jv R (fun i v H'=>∃st,v=[82. rl,82. pl,some<|.bl b,82. tg,st,none,none,none,none,none]/\5.7/\15.4 tg (rf<|flat<|R.take i))
  (86. none (5.1 ag)<|aJ) ?_ ?_ ?_)
 ·intros i v H' hi y1_;let⟨st,rfl,sm,ht⟩:=y1_;exact 4e3 sm a0
 ·intros i x v H' I y1_;let⟨st,rfl,sm,ht⟩:=y1_;unfold jv at I;rw[bN]at I;let 33. r ah:=bW.mp I;have hl:=zF (R:=R)<|18.6;rw[uM ah,bE]at hl;refine(51. ht<|5.<|8.8 tg r.1 ht (sm _ _ (hR r<|bB ah).1) ?_<|44.7 _ (98.4 c))
  ·rw[fF,fF];show _<=059;lia
  ·rw[5e9 z ag];exact sm _ _ z
  rw[aJ,uM ah,p5]
 intros v H1 y1_;let⟨st,rfl,ai,ht⟩:=y1_;rw[eY,cJ]at ht
 intros dd a3;refine(5.<|e56 tg (flat R) N fs ls rfl (cX.of<|494. a3 ht) hz (hE.same<|ai.trans<|5.1 a3) hK ba<| ?_);intros DG G H2 hp hs ar aa au
 have av:=ar _ _<|aJ (H:=H1) (a:=dd);have B:54. dd:=ai.free a3;have aw:G.length<=1000:=by rw[hp.length_eq];exact hz
 have bg:DG≠dd:=fun z=>by rw[z,aJ]at aa;cases aa
 let 28. Hx aj:=(981.:∃Hx,Hx=fun c=>if c=dd then none else H2 c);have ax:∀c o,Hx c=7. o->c≠dd/\H2 c=7. o:=fun c o z=>by
  rw[aj]at z;by_cases q:c=dd
  ·lia
  simp only[aM q]at z;exact 28. q z
 have ay:∀c o,c≠dd->H2 c=7. o->Hx c=7. o:=fun c o q z=>by rw[aj];simp only[aM q];exact z
 have bu:∀c,c≠dd->095 Hx c->095 H2 c:=fun c q z=>by rw[aj]at z;simp only[aM q]at z;exact z
 have az:bC H Hx:=fun c o z=>ay c o (aV z B)<|ar _ _<|494. a3<|ai _ _ z;refine(6e7 DG au<|91.3 rf G (fun i v H'=>∃t hs,v=[82. rl,82. pl,some<|.bl b,82. tg,st,82. dd,t,none,none,none]/\75.7 (G.take i) hs Hx H')
  (e21 none [] rfl<|⟨fun c o z=>(ax c o z).2,(e13 [] av (fun x I=>nomatch I) rfl<|bH _),fun x I=>(nomatch I),fL,rfl⟩) ?_ ?_ ?_)
 ·intros i v H' hi y1_;let⟨t,hs,rfl,k⟩:=y1_;exact cX.of<|k.same _ _<|ay _ _ bg au
 ·intros i x v H' I y1_;let⟨t,f,rfl,k⟩:=y1_;let 33. p a4:=uE I;have bh:71.5:=hp.mem_iff.mp<|bB a4;have bj:5.7:=az.trans k.same;let⟨dx,kt,rv,_,g1,g2,_⟩:=(hE p bh).same bj;have bk:f.length<=i:=by
   have:=AO<|2e6 G.take i 62.;rw[<-k.keys,aI,aI,cP]at this
   lia
  have bw:i<G.length:=048 a4;have 049 bx a5:=id k.nd;refine(5.<|86. dd ⟨_,k.nd⟩<|5.<|7.9 p.1 dx g1 T.Cai T.nbj oK 81.8<| ?_);intros l hl
  have L:dd≠l:=aV a5 hl;have m:bC H' (4.9 H' l):=5.1 hl;refine(e46 kt l (f.map hk) 5e6 rfl rfl (k.nd.keep (aS L)<|399. m) (g2.fg<|399. m) 648. ?_<| ?_)
  ·intros u fu;have⟨x,I,ek,rfl⟩:=LX fu;have⟨l1,l2,l3,l4⟩:=k.lst x I;have ak:=m _ _ l1;have bz:x.2.2.length<=1000:=by rw[l4];exact 34.5<|by rw[cP];lia
   refine⟨.inl (75.0 ak),5.<|127. x.2.1 ak 958.<|e21 _ (f.map 182.) rfl<| ?_⟩;rw[dr a4];refine k.more I ek (98.4 c) ((k.nd.keep (H':=4.9 H' l) (aS L)<|399. m).keep (aS<|eC l3) ?_) ?_ fun y J ne=>?_
   ·rw[5e9 z l2];exact m _ _<|k.same _ _ z
   ·intro c ys z;rw[aS<|i6 z ak (fun q=>nomatch q)];exact z
   ·rw[aJ,p5];rfl
   rw[aS ne];exact m _ _ (k.lst y J).1
  intros fn o no bo;have ao:(upd (4.9 H' l) dd o) l=15. []:=48.4 L
  have a6:095 Hx l:=k.same.free hl;have b0:∀y∈f,y.2.1≠l:=fun y J=>aV (k.lst y J).1 hl;refine⟨.inl (75.0 ao),5.<|e34 l [] _ rfl rfl ao (08)<|e21 _ (f++[(5e6,l,[p])]) rfl<| ?_⟩;rw[dr a4];refine k.new (98.4 c) (bo.keep (aS L) ?_) ?_ a6 (eC L) (4e7 z) (63. y J)<|LY fn
  ·rw[5e9 z a6,aS (ax c o z).1];exact m _ _<|k.same _ _ z
  ·intros c ys z
   rw[aS<|i6 z ao (fun q=>nomatch q)];exact z
  ·rw[aJ];rfl
  ·let⟨y,J,e⟩:=92.2 z;exact b0 y J e
  rw[aS<|b0 y J,aS (k.lst y J).2.2.1];exact m _ _ (k.lst y J).1
 intros v H3 y1_;let⟨t,f,rfl,k⟩:=y1_;rw[fF,cJ]at k;refine 276.;intros Y a7
 have M:bC H H3:=az.trans k.same;let⟨xs,a5,c0,b1,c1⟩:=id k.nd;have a8:dd≠Y:=aV a5 a7;have b2:54. Y:=M.free a7;have a6:317. f.length:=by
  have:=090 b1;unfold zC at this
  rwa [aI,aI]at this
 refine(e22 dd (DN d8 d9 dd xs) (by rw[aS a8];exact a5) trivial<| ?_);intros od;refine(5.<|e32 dd od xs rfl aJ<|Hh (fun i v H'=>∃C D,v=713./\H' dd=7. (.gO od<|DN d8 d9 dd xs)/\(96.4 H')/\15.4 Y (rf<|454. f.take i 330.))
  (240. none none aJ (fun c o z q=>by rw[aS q,5e9 z a7];exact z)<|48.4 a8) ?_ ?_ ?_)
 ·intros i v H' y1_;let 46.4:=y1_;exact q1
 ·intros i y v H' J y1_;let 46.4:=y1_;have c2:237.:=048 J;let 28. g O:=46.1 7e6 f[i]?;have ey:y.2.2=g.2.1:=by have h3:=dQ (fun l=>l[i]?) b1;simp only[zC,bN,O,J]at h3;injection h3 with h3;have:=dQ Prod.snd h3;exact this.symm
  have hm:=bB O;have⟨l1,l2,l3,l4⟩:=k.lst g hm;have S:5.7:=fun c o z=>q2 c o (M _ _ z)<|aV z B;have ab:∀p∈g.2.2,71.5:=fun p n=>by rw[l4]at n;exact hp.mem_iff.mp (da.mp n).1
  have bp:46.2 fV N g.2.2:=fun p n=>(hE p<|ab p n).same S;have ae:g.2.2.length<=1000:=by rw[l4];exact 34.5 aw
  have a0:(xw g.2.2 d).length<=1000:=34.5 ae;have b3:∀j,j<=1000->(454. f.take j 330.).length<=j * 1000:=by
   intro j;induction j with
   |zero=>intro _;cutsat
   |succ j ih=>
    intro hj;cases aq:f[j]? with
    |none=>
     have:f.length<=j:=qO.mp aq;rw[fK 060,<-fK this];have:=ih<|17.
     lia
    |some z=>
     rw[dr aq,gD,bE];have:=ih<|17.
     have c3:z.2.2.length<=1000:=by rw[(k.lst z<|bB aq).2.2.2];exact 34.5 aw
     have c4:=(uL d b z.2.2).length_le;simp only[eO,List.flatMap_nil,dn]
     lia
  have bq:=b3 i<|21.
  have c5:i * 1000<=1000000:=by
   have:i<=1000:=21.
   lia
  rw[ey];refine(5.<|5.<|e66 g.2.1 pl g.2.2 d N fs rfl (q2 _ _ l1 l3) (S _ _ bb) bp ae bc<| ?_);intros D1 H4 a9 c6 af
  have b4:=a9 _ _ q3;have b5:651. f.take (330.)=454. f.take i (330.)++oY d b g.2.2:=by rw[dr O,gD];simp
  refine(51. b4<|5.<|665. b rfl);have b6:∀D3 H5 Z,bC H' H5->H5 D3=32.4 Z->Z=oY d b g.2.2->Fo (02 Y) [02 D3] H5 fun _ H6=>∃C D,[some<|035 rl,82. pl,some<|.bl b,82. tg,st,82. dd,t,82. Y,82. g.2.1,82. D1]=713./\H6 dd=7. (.gO od<|DN d8 d9 dd xs)/\(96.4 H6)/\H6 Y=15. (rf<|651. f.take 330.):=fun D3 H5 Z U b7 eZ=>by
   refine(8.8 Y D3 (U _ _ q3) b7 ?_<|240. (82. g.2.1) (82. D1) ?_ (fun c o z ne=>?_)<| ?_)
   ·rw[fF,fF,eZ];have:=(uL d b g.2.2).length_le
    show _<=059
    lia
   ·rw[aS a8];exact U _ _ q1
   ·rw[5e9 z a7];exact U _ _<|q2 _ _ z ne
   rw[aJ,b5,p5,eZ]
  cases b with
  |true=>refine dv<|5.<|e44 D1 (xw g.2.2 d) N fs rfl af (fun p n=>((hE p<|ab p (da.mp n).1).same S).same a9) a0<|fun D3 H5 U b7 b8=>?_;exact b6 D3 H5 _ (a9.trans U) b8 rfl
  |false=>exact dw<|5.<|b6 D1 H4 _ a9 af rfl
 intros v H' y1_;let 46.4:=y1_;rw[<-a6,cJ]at q3;refine⟨q1,48. ⟩;refine kq Y G (f.flatMap 330.) _ hp hs ?_ ?_ ?_ b2 ?_
 ·unfold lg;rw[<-k.keys,List.map_flatMap,List.flatMap_map];refine xy (63. h hm);rw[Ho];congr 1;rw[(k.lst h hm).2.2.2];unfold oE;rw[oR];congr 1;refine List.filter_congr (63. p _)
  show 61. (5e6=h.1)=(5e6==h.1)
  rw[eB];simp
 ·intros p n;have⟨h,hm,b9⟩:=List.mem_flatMap.mp n;have:=(uL d b h.2.2).subset b9;rw[(k.lst h hm).2.2.2]at this;exact hp.mem_iff.mp (da.mp this).1
 ·intros c o z;rw[5e9 z B];exact q2 _ _ (M _ _ z)<|aV z B
 rw[aS<|eC a8];exact q3
open Vacolb (Val showRow)
open Vacoly (keyLess newest)
def F3(bF:aA)(aL:Ad):Sp:=fun vs H Q _=>∃l lo hi F b c N fs ls,vs=[02 l,02 lo,02 hi]/\19.9/\F≠[]/\314./\fB H lo b/\fB H hi c/\jM ls F/\gi ls b/\gi ls c/\
 065 (698. 2e0 b c) H
theorem CL(T:19.):33.6 Ph aL 1 aL.fa1 aL.da1 820. (0e4 F3):=by
 refine T.Fa1.P8 Sa1 ?_ ?_
 ·intros vs H Q E h;have⟨_,_,_,_,_,_,_,_,_,rfl,_⟩:=h;rfl
 intros cdv A outer s H vs Q E hr h;let⟨l,lo,hi,F,klo,khi,N,fs,ls,rfl,h1,hne,hE,hlo,hhi,hK,o1,o2,kq⟩:=h;have hu:=hr.units;refine⟨_,aO<|bJ<|ph (iE (w9 hu) 79. 010<|cD _)<|ph (iE (w9 hu) (48.6 bZ) 010<|cD _)<|rC<|iE (w9 hu) 79. (48.6 (Ie Dq bZ))<|cD _,?_⟩;obtain⟨p,Fr,rfl⟩:∃p Fr,F=p::Fr:=by
  cases F with
  |nil=>exact 49.9 hne
  |cons p Fr=>exact 33. p Fr
 obtain⟨Fi,z,eF⟩:∃Fi z,p::Fr=Fi++[z]:=⟨(p::Fr).dropLast,(p::Fr).getLast 2.8,(List.dropLast_concat_getLast<|21.).symm⟩;have hzm:z∈p::Fr:=by rw[eF];simp
 have hpm:p∈p::Fr:=bM;have⟨dx,kt,rv,_,g1,g2,_⟩:=hE p hpm;have⟨dz,kz,rz,_,gz1,gz2,_⟩:=hE z hzm;have em:698. ((p::Fr).map 62.) klo khi=(! 5e7 khi klo&&(! 5e7 khi 5e6&& ! 5e7 z.2.key klo)):=by
  unfold Vacoly.meets;have e1:((p::Fr).map 62.).head? =7. p.2:=rfl;have e2:((p::Fr).map 62.).getLast? =7. z.2:=by rw[eF,bG];simp
  rw[e1,e2];simp only;cases 5e7 khi klo <;> cases 5e7 khi 5e6 <;> cases 5e7 z.2.key klo <;> rfl
 rw[em]at kq;refine⟨_,rfl,_,rfl,lo,hi,klo,khi,ls,rfl,rfl,hlo,hhi,o1,o2,_,rfl,?_⟩;cases c1:5e7 khi klo with
 |true=>rw[c1]at kq;exact dw kq
 |false=>
  rw[c1]at kq;refine dv ⟨_,rfl,l,_,_,_,rfl,rfl,72.1 h1,282.,p.1,_,dx,_,_,rfl,g1,T.Cai,T.nbj,oK,_,rfl,kt,hi,_,_,ls,rfl,rfl,g2,hhi,hK p hpm,o2,_,rfl,?_⟩;cases c2:5e7 khi 5e6 with
  |true=>rw[c2]at kq;exact dw kq
  |false=>
   rw[c2]at kq;refine dv ⟨_,rfl,_,rfl,_,rfl,l,_,_,_,rfl,rfl,72.1 h1,?_,z.1,_,dz,_,_,rfl,gz1,T.Cai,T.nbj,oK,lo,kz,_,_,ls,rfl,rfl,hlo,gz2,o1,hK z hzm,?_⟩
   ·rw[eF,p5];exact Iq _ _
   exact kq
def JW(d8:aD)(d9:World)(bF:aA)(aL:Ad):Sp:=fun vs H Q _=>∃(l lo hi:Addr) (F:lS) (b c:830.) (pt:Nat) (N:Sq) (fs:Fields) (ls:37.7),vs=[02 l,02 lo,02 hi,59. pt]/\19.9/\F.length<=900/\314./\fB H lo b/\fB H hi c/\jM ls F/\gi ls b/\gi ls c/\
 ∀d H',5.7->54. d->18.5 H' d ((nb b c pt F).map 098)->796. d
theorem jN(T:19.):01 1 aL.faJ aL.daJ Sf (JW d8 d9 bF aL):=by
 refine 4. T.FaJ SaJ
 intros _ _ _ _ H _ _ _ hr y1_;let⟨l,lo,hi,F,b,f,pt,N,fs,ls,rfl,h1,hz,hE,U,Y,hK,o1,o2,kq⟩:=y1_;have Z:=SaJ.nd;have R:=hr.units;refine(1.2 (aK (gM 4 Z FY)
  <|aK (906. (fq<|pv 0) (qI 5 Z)
   <|aO<|cR (rB (sv (w9 R) (w9 R) 79. (13. 5)<|pv 2)<|nQ<|cA ko (13. 5) 777.<|cD _).pt
    (aK (gM 6 Z<|xn R (pv 4) (13. 5) 730.)
    <|aO<|cR (pf (t7<|wb<|pv 6)<|nR<|12.2 (13. 6) (13. 5)).pt (aO<|LH R (pv 4) (13. 5) 94.7 rfl) bS) bS)
  <|057 4)<| ?_)
 dsimp only[dO]
 intros d hd;refine(5.<|86. l ⟨_,cX.of<|494. hd h1⟩<|91.3 rf F (fun i S H'=>∃j m,S=40.6 m/\5.7/\18.5 H' d ((1e8).map 098))
  (26.3 none none (5.1 hd)<|e13 [] aJ (53.9) rfl<|bH _) ?_ ?_ ?_)
 ·intros i S H' a6 y1_;let⟨j,m,rfl,n,t⟩:=y1_;exact 4e3 n h1
 ·intros i x S H' hx y1_;let⟨j,m,rfl,n,t⟩:=y1_;let 33. p B:=uE hx;have C:=bB B;let⟨y,D,rv,_,g1,g2,_⟩:=(hE p C).same n;have G:=hK p C;have I:fB H' lo b:=U.fg<|399. n;have J:fB H' hi f:=Y.fg<|399. n;have L:=Jq (lo:=b) (hi:=f) (p:=pt)<|87.0;have a4:74.4 1e8<=900:=bU L.len<|by rw[cP];lia
  have k:=Ls b f pt (87.0) p;rw[<-dr B]at k;have q:91.0=nb b f pt (87.0)->∃j r,184. m/\5.7/\18.4 H':=by
   intros e
   rw[k,e];exact(25. _ n<|t)
  refine(5.<|5.<|79.6<|e56 lo D b _ ls rfl rfl I g2 o1 G<|48.);have v:inR b f 5e6=(!keyLess 5e6 b&& ! 5e7 f 5e6):=rfl;cases c1:keyLess 5e6 b with
  |true=>
   refine dw<|5.<|dw<|dw<|q ?_;unfold jm;rw[aM]
   intros y1_;have 28. z _:=y1_;(try clear y1_);rw[v,c1]at z;cases z
  |false=>
   refine dv<|5.<|e56 D hi _ f ls rfl rfl g2 J G o2<|48.;cases c2:5e7 f 5e6 with
   |true=>
    refine dw<|dw<|q ?_;unfold jm;rw[aM]
    intros y1_;have 28. z _:=y1_;(try clear y1_);rw[v,c1,c2]at z;cases z
   |false=>
    have a0:inR b f 5e6=true:=by rw[v,c1,c2];rfl
    refine dv<|5.<|587. p.1 y<|606.;by_cases hs:47. p.2.seq<=47. pt
    ·refine m7 hs (5.<|86. d ⟨_,t⟩<|5.<|79.6<|e33 D _ 5e6 rfl t g2<| ?_);rw[qA];have g:91.0=(match findB (1e8) 5e6 with
      |none=>lh (1e8) 5e6 p
      |7. o=>if o.2.seq<p.2.seq then lh (1e8) 5e6 p else nb b f pt (87.0)):=by
      conv=>lhs;unfold jm
      rw[aP ⟨a0,52. ⟩];cases findB (1e8) 5e6 <;> rfl
     have M:∀v6,91.0=lh (1e8) 5e6 p->∀o:HO,470.->18.5 (upd H' d o) d (lh ((1e8).map 098) 5e6 p.1)->∃j r,184. v6/\bC H (upd H' d o)/\18.4 (upd H' d o):=by
      intros v6 e o no a3
      refine(67.4 _ (by intros c u z;rw[5e9 z hd];exact n _ _ z));rw[k,e];have:=Jo (fun x:672.=>x.1) (1e8) 5e6 p;rw[<-this];exact a3
     match hf:findB (1e8) 5e6 with
     |none=>rw[hf]at g;exact(5.<|5.<|dv<|158.)
     |7. o=>
      rw[hf]at g;have⟨m1,m2,m3⟩:=L.mem _<|ly hf;have m1:o∈ 87.0:=m1;let⟨dy,ky,ry,_,y1,_,_⟩:=(hE o<|jR m1).same n;refine(5.<|5.<|dw<|5.<|06 o.1 dy y1 T.Cai T.nbK ju<|5.<|587. p.1 y<|18.);by_cases O:36.8 o.2.seq p.2.seq
      ·rw[aY O];simp only at g;rw[aP (52.)]at g;exact 158.
      rw[aX O];simp only at g;rw[aM (52.)]at g;refine dw ?_;rw[k,g];exact(25. _ n<|t)
    refine qj hs (q ?_);unfold jm;rw[aM]
    intros y1_;have 073 z:=y1_;(try clear y1_);simp_all
 intros S H' y1_;let⟨j,m,rfl,n,t⟩:=y1_;rw[fF,cJ]at t;exact(5.<|kq d H' n hd t)
def PQ(n v:V):79.9:=[("opened",n),("entry",v)]
theorem uN:28.5 (PQ n v).lookup "opened"=7. n:=oC
theorem xE:28.5 (PQ n v).lookup "entry"=7. v:=rfl
def JX(aL:Ad):Sp:=fun vs H Q _=>∃x b n v,vs=[02 x,n,v]/\391. aL.caR (.ins aL.caR b (PQ n v))
theorem yD(T:19.):01 1 aL.fcf aL.dcf (747.) (JX aL):=by
 refine 4. T.Fcf Scf;rintro _ _ _ _ _ _ _ _ _ y1_;have⟨x,b,n,v,rfl,d,f⟩:=y1_;refine 25.3;dsimp only[dO];refine(5.<|5.<|1e5 x b d T.CaR T.ncA (08)<| ?_);refine(5.<|5.<|1e5 x b aJ T.CaR T.ncB (98. 1)<| ?_);rw[fY];have e:dh "entry" v (dh "opened" n [])=PQ n v:=by
  show dh "entry" v [("opened",n)]=_
  rw[8e6];rfl
 rw[e];exact 58.6 f
def Hq(aL:Ad)(N:Sq)(H:Hp)(fs:Fields)(v:V):74. Ent->Prop
 |none=>v= .gm
 |7. e=>∃x,v= 02 x/\36.1
theorem Hq.same(s:5.7):∀{o:74. Ent},80. Hq fs v o->46.2 Hq N v o
 |none,h=>h
 |7. e,⟨x,b,c⟩=>(e11 x b<|c.same s)
theorem JY(k):inR k k k=true:=by grind[inR,eA]
theorem MK(b:314.):80. Hq fs (NR (7e9 ((nb k k pt F).map fun x=>(x.1,x.2.1)))) (292. k):=by
 rw[qA,<-vW (JY k)];cases h:7e9 (nb k k pt F) with
 |none=>exact rfl
 |some x=>have:=(Jq (lo:=k) (hi:=k) (p:=pt) F).mem _<|ly h;exact(65.1 x.1<|b x this.1)
def N8(bF:aA)(aL:Ad):Sp:=fun vs H Q _=>∃(b c d:Addr) (F:lS) (R:zE) (key:830.) (pt:Nat) (N:Sq) (fs:Fields) (ls:37.7),vs=[02 b,02 c,02 d,59. pt]/\H b=32.4 F/\H c=008 jv R/\(∀r∈R,549./\80. fV fs r.2/\53.2 900 ls)/\314./\F.length<=900/\jM ls F/\fB H d key/\gi ls key/\R.length<=1000/\
 ∀x e v H',5.7->54. x->H' x=7. (.ins aL.caR e (PQ (34. (((9e1 (·.2)).foldl (fJ key pt) (0,newest 21.4 key pt)).1:Nat)) v))->46.2 Hq N v (35.3 (9e1 62.).foldl).2->796. x
theorem yE(T:19.):01 3 aL.fbq aL.dbq 715. (0e4 N8):=by
 refine 4. T.Fbq Sbq
 intros _ _ _ _ H _ _ _ q y1_;let⟨O,S,j,F,R,key,pt,N,fs,ls,rfl,G,t,hR,U,hz,hK,C,c,a3,Y⟩:=y1_;have u:=Sbq.nd;have Z:=q.units;refine(1.2 (aK (210. 31.)
  <|aK (gM 5 u bZ)
  <|aK (906. (fq<|pv 1) (qI 6 u)
   <|aO<|cR (rB (t7<|wb<|pv 4)<|nQ<|dJ<|044 CL q T.ga1 T.Fa1.kp T.Ba1<|dG (pv 6)<|gG 010<|pv 2).pt
    (aK (gM 5 u<|eQ iI 94.7 bZ)
    <|aO<|210. (pv 6)) bS)
  <|aO<|bJ<|iF T.MaR (yD T) q 90. T.gaR T.Bcf .nil dM<|33.7 5 4)<| ?_)
 dsimp only[dO];refine(5.<|5.<|5.<|5.<|ea9 O j j F key key pt N fs ls rfl G hz U C C hK c c<|fun d H1 l hd hN=>(86. d ⟨_,hN⟩<|5.<|e33 j _ key rfl hN (C.fg<|399. l)<| ?_));have h0:=(MK (k:=key) (pt:=pt) U).same l;refine(5.<|86. S ⟨_,4e3 l t ⟩<|91.3 jv R (fun i D H'=>∃(n:Nat) (v:V) (o:74. Ent) (st:74. V),D=[82. O,82. S,82. j,some<|59. pt,7. v,53.1 n,st]/\5.7/\(n,o)=35.3 (2e6 R.take i fun r=>004).foldl/\46.2 Hq N v o)
  (e43 0 _ _ none rfl l rfl<|h0) ?_ ?_ ?_)
 ·intros i D H' hi y1_;let 28.6:=y1_;exact 4e3 b t
 ·intros i x D H' p y1_;let 28.6:=y1_;unfold jv at p;rw[bN]at p;let 33. r y:=bW.mp p;have⟨r1,I,r3,r4,r5⟩:=hR r<|bB y;have g:fB H' j key:=C.fg<|399. b;have z:35.3 ((R.take<|18.6).map fun r=>004).foldl=fJ key pt (n,o) (004):=by rw[dr y,bG,List.foldl_append,<-e];rfl
  rw[z];refine(50.4);cases o with
  |some en=>have 69. x J:=m;refine dw<|dw<|e43 n _ (7. en) _ rfl b ?_<|65.1 x<|J;unfold fJ;rfl
  |none=>
   have m:v= .gm:=m;subst m;refine dv<|5.<|5.<|5.<|e99 r.1 j j r.2 key key N fs ls rfl (b _ _ r1) r3 (I.same b) g g r5 c c<|48.;cases hm:698. (004) key key with
   |true=>refine dv<|5.<|3e1<|5.<|5.<|5.<|5.<|ea9 r.1 j j r.2 key key pt N fs ls rfl (b _ _ r1) r4 (I.same b) g g r5 c c<|fun d2 L f a4 B=>(86. d2 ⟨_,B⟩<|5.<|e33 j _ key rfl B (g.fg<|399. f)<| ?_);have h2:=(MK (k:=key) (pt:=pt)<|I.same b).same f;refine(e43 (63.6) _ _ _ rfl (b.trans f) ?_<|h2);unfold fJ;simp[*]
   |false=>
    refine dw<|e43 n _ none _ rfl b ?_<|rfl;unfold fJ
    cutsat
 intros D H' y1_;let 28.6:=y1_;rw[eY,cJ]at e;rw[<-e]at Y;refine(5.<|5.<|fun x dx p hd a5=>(e42 x dx _ _ rfl aJ<|fun L kp M=>078));have f:bC H' L:=600. p kp;exact Y x dx v L (b.trans f) (b.free p) M<|m.same f
def JZ(N:Sq)(H:Hp)(b:5.9 Addr aG):Prop:=∀r∈b,N r.1/\H r.1=73.8 r.2.map
def N9(bF:aA)(aL:Ad):Sp:=fun vs H Q _=>∃(l lo hi:Addr) (F:lS) (b c:830.) (pt:Nat) (N:Sq) (fs:Fields) (lf:Leaf) (ls:37.7),vs=[02 l,02 lo,02 hi,59. pt]/\19.9/\F.length<=900/\314./\fB H lo b/\fB H hi c/\jM (lf::ls) F/\76.8 b/\76.8 c/\
 ∀(D:Addr) (d:5.9 Addr aG) (ks:9.7 Lit) (H':Hp),qJ ks->(∀k,k∈ks↔inR b c k=true/\(292. k).isSome=true)->d.map 62.=29.5 (292. k).bind->JZ N H d->5.7->54. D->15.4 D (d.map 014)->796. D
theorem vF(T:19.):01 3 aL.fa2 aL.da2 Sf (0e4 N9):=by
 refine 4. T.Fa2 Sa2
 intros _ _ _ s H _ _ _ Y y1_;let⟨l,lo,hi,F,f,j,pt,N,fs,lf,ls,rfl,h1,hz,hE,a8,a9,hK,o1,o2,kq⟩:=y1_;have nd:=Sa2.nd;have hu:=Y.units;refine(1.2 (aK (47.8 4<|044 jN Y T.gaJ T.FaJ.kp T.BaJ<|dG 31.<|dG 79.<|gG 010<|pv 3)
  <|aO<|bJ<|688. ("key",5) (tt:=OJ<|tB<|71.4 (JJ d8 d9 (ji 4)<|ji 5)) (te:=vw bF (JJ d8 d9 (ji 4)<|ji 5) "row") rfl nd (fq<|f9 (JT rfl hu) 90. T.bc4 PyProof.Rows.boot_sorted<|000 4) (ib<|73. Na2 sa2) (196. 5 nd)
   (fun s H C cl fp=>by exact sE<|iX<|dJ<|nu (FZ hu (pv 4) 94.7 50.) T.Cai T.maH (gY T) Y T.BaH dM)
   fun s H C cl fp=>by exact bA (FZ hu (pv 4) 94.7 50.) rfl)<| ?_)
 dsimp only[dO];refine(5.<|5.<|5.<|5.<|ea9 l lo hi F f j pt N fs (lf::ls) rfl h1 hz hE a8 a9 hK o1 o2<| ?_);intros d H1 aa hd hN
 have B:=Jq (lo:=f) (hi:=j) (p:=pt) F;refine(5.<|e43 d _ lf ls rfl hN (63. x U)<|fun D0 G H2 hp hs O aj J hG=>(6e7 D0 J<|63. D hD))
 ·have 33. y hy:=92.2 U;have 049 m1 m2:=B.mem y hy
  show 76.8 y.1
  rw[m2];exact hK _ m1
 revert hp hs O aj J hG hD;revert D0 G H2 D;intros D0 G H2 D hp hs O aj J hG hD;have m:∀k,k∈ 73.2 ↔k∈(39.7).map 0.6:=fun k=>70.
 have n:=aa.trans O;have R:∀x∈G,∃p:672.,findB (39.7) x.1=7. p/\p∈F/\292. x.1=7. p.2:=fun x U=>by
  have hm:=(m x.1).mp<|9e0 x U;have hs:=j6.mpr hm
  match Z:findB (39.7) x.1 with
  |none=>simp_all
  |7. p=>have⟨m1,m2,m3⟩:=B.mem _<|ly Z;have:=vW (α:=Addr) (p:=pt) m3 F;simp_all
 have a0:∀{q:Hp},bC H2 q->18.5 q d ((39.7).map 098):=fun{q} b=>by have 049 xs e1:=id hN;have t:=O.trans b;exact hN.keep ((t _ _ e1).trans e1.symm)<|399. t
 refine kg (xs:=915. x.2) (fun i q=>bC H2 q/\∃I:5.9 Addr aG,q D=15. (I.map 014)/\I.length<=i/\JZ N H I/\I.map 62.=74.3)
  ⟨ 5.1 hD,e13 [] aJ 779. (fun r Y=>nomatch Y)<|rfl⟩ ?_ ?_ ?_
 ·rintro i q hi y1_;have 28. b _:=y1_;(try clear y1_);exact 4e3 b J
 ·rintro i x q U y1_;refine 869.;revert U y1_ b zz_ q1 q2 q3 q4;revert i x q I;intros i x q I U y1_ b zz_ q1 q2 q3 q4;rw[bN]at U;have 33. g S:=bW.mp U;revert S U;revert g;intros g S U;have a3:=bB S;have ak:i<G.length:=048 S;have ao:G.length<=900:=by
   have h5:=hp.length_eq;rw[aI,aI,aI]at h5;have:=B.len
   lia
  have⟨p,Z,a4,ab⟩:=R g a3;revert Z a4 ab;revert p;intros p Z a4 ab;have L:=n.trans b;have a5:fB q g.2 g.1:=((hG g a3).fg<|399. O).fg<|399. b;have a6:findB ((39.7).map 098) g.1=7. p.1:=by rw[qA,Z];rfl
  have he:=(hE p a4).same L;have⟨dx,kt,rv,_,g1,_,g3⟩:=id he;refine⟨rfl,5.<|5.<|34.3<|0e8 p.1 dx g1 13.9<|694. N he<|48. ⟩;have ag:((G.take<|18.6).map 0.6).filterMap 156.=74.3++(p.2.row.map<|024).toList:=by
   rw[dr S,bG,List.filterMap_append,bD,il,dc,ab,Option.bind_some,List.filterMap_nil]
   cutsat
  match M:p.2.row with
  |none=>grind
  |7. v=>
   rw[M]at g3;have⟨rl,rfl,nr,aq⟩:=g3;refine dv<|5.<|5.<|34.3<|775. dx g1 T.ncz Az<|e13 _ q1 121. ?_<|e13 (I++[(rl,024 v)]) (by rw[aJ,bG];rfl) (by rw[bE];show I.length + 1<=18.6;cutsat) ?_<| ?_
   ·intro c o z;rw[5e9 z hD];exact b _ _ z
   ·intro r u;rcases bT.mp u with u|u
    ·exact q3 r u
    rw[cG.mp u];have⟨_,_,ae,_,af,_,a7⟩:=hE p a4;have e2:=L _ _ af;rw[g1]at e2;have e3:ae=035 rl:=by have:=dQ (fun o=>match o with|7. (HO.ins _ _ fs)=>28.5 fs.lookup "row"|_=>none) e2;simp only[Az]at this;grind
    subst e3;rw[M]at a7;have⟨ar,er,au,ah⟩:=a7;simp_all
   simp_all
 rintro q y1_;refine 869.;rw[aI,cJ]at q4;refine kq D I (73.2) q hs (4e7 k) q4 q3 (n.trans b) (n.free hD) q1;revert k;intros k;rw[m,<-j6];constructor
 ·intro z
  match Z:7e9 (39.7) with
  |none=>simp_all
  |7. p=>have⟨m1,m2,m3⟩:=B.mem _<|ly Z;have:=vW (α:=Addr) (p:=pt) m3 F;grind
 rintro y1_;have 28. z1 z2:=y1_;(try clear y1_);rw[<-vW (α:=Addr) z1 F,ip]at z2;exact z2
#check SR
namespace SR
open PySem PySem.Spec PyProof.Rows L2
open Vacola (Leaf Lit Mode Head Fields fits hexSign showByte showLit plain decimal decimalInt showStr)
open TL
theorem oN:∀n:Nat,DC n=decimal n:=fun n=>by
 induction n using Nat.strongRecOn with
 |_ n ih=>
  by_cases h:n<10
  ·rw[K6 h,qQ h]
  rw[Gw 2.8,ih (n / 10) 2.8];have:=sM (n:=n / 10) (d:=n % 10) 2.8<|70.
  rw[<-this];congr 1
  lia
theorem J0(z:Int):tl (911. (toString z))=decimalInt z:=by
 cases z with
 |ofNat n=>have:=DD n;rw[oN]at this;rw[show(toString<|Int.ofNat n)=83.9 (n:Nat)from rfl,this];unfold decimalInt;rw[aM (by show ¬ (47. n<0);cutsat)];rfl
 |negSucc n=>have e:toString (Int.negSucc n)= "-" ++83.9 ((63.6:Nat)):=rfl;have:=DD<|63.6;rw[oN]at this;rw[e,u6,String.toList_append,bG,<-u6 (83.9 ((63.6:Nat))),this];unfold decimalInt;rw[aP (by exact Int.negSucc_lt_zero n)];rfl
theorem Oa{x:Str}{g:TG}{tt:TT}{te:TE}{vs:Sh}{σ:L2.St}{H1:Hp}{D:Addr}{Qd:284.}(Pv:856. Nat)(h0:Pv 0 (085 H1 []))
 (hs:∀(i:Nat) c H,(tl x)[i]? =7. c->Pv i H->g (.str ⟨#[c]⟩) (160.) H fun σ2 H2=>895. σ2/\tt σ2 H2 fun b H3=>if 4e2 b then te σ2 H3 fun y H4=>∃acc,H4 D=15. acc/\910./\Pv 8.6 (085 H4 (acc++[y]))else Pv 8.6 H3) (hd:∀H,Pv (0.3 tl x) H->Qd H):
 ∃W:214. Nat,558./\∀i m H,W i m H->((L2.qH x).stop i H/\Qd H)\/((L2.qH x).go i H/\∃Nx:284.,(∀H',Nx H'->∃m',m'<m/\W 8.6 m' H')/\∀v H',(L2.qH x).Kt i H v H'->g v (160.) H' fun σ2 H2=>895. σ2/\tt σ2 H2 fun b H3=>
  if 4e2 b then te σ2 H3 fun y H4=>∃acc,H4 D=15. acc/\910./\Nx (085 H4 (acc++[y]))else Nx H3):=by
 revert h0 hs hd;revert x g tt te vs σ H1 D Qd Pv;intros x g tt te vs σ H1 D Qd Pv h0 hs hd
 have hz:0.3 tl x=x.cps.size:=19.3
 refine⟨fun i m H=>m=x.cps.size - i/\i<=x.cps.size/\Pv i H,⟨x.cps.size,44.,bH _,h0⟩,?_⟩
 intros i m H y1_;have 684.:=y1_;by_cases hlt:i<x.cps.size
 ·refine 8.4 ⟨hlt,Pv<|18.6,fun H' p'=>⟨x.cps.size - (18.6),21.,rfl,hlt,p'⟩,fun v H' y=>?_⟩;have 28. e ⟨c,hc,ev⟩:=y;subst e ev;exact hs i c _ (by unfold tl;rw[hJ];exact hc) p
 have e:i=x.cps.size:=21.
 subst e;exact 97. ⟨aU _,hd H<|by rw[hz];exact p⟩
def PR:Sp:=fun vs H Q _=>∃n:Nat,vs=[34. n]/\Q (34. (hexSign n:Nat)) H
theorem nF(T:19.):01 1 aL.fa5 aL.da5 765. PR:=by
 refine 4. T.Fa5 Sa5;rintro _ _ _ _ _ _ _ _ _ y1_;have 69. n b:=y1_;refine(017 (aO<|bJ<|kn (12.2 31. bZ) (eQ iI (fW T.gcs)<|pv 0)<|eQ jC (eQ iI (fW T.gcx)<|pv 0) bZ));refine(606.);unfold hexSign at b;by_cases h:n<10
 ·rw[aP h]at b;refine m7 060<|5.<|3e1<| ?_
  cutsat
 rw[aM h]at b;refine qj 2.8<|5.<|3e1<|3e1<| ?_;grind
def Ob:Sp:=fun vs H Q _=>∃c:Nat,vs=[34. c]/\264. (1e6 ((showByte c).map vN))
theorem uO(T:19.):01 2 aL.fbO aL.dbO ["byte"] Ob:=by
 refine 4. T.FbO SbO
 intros _ _ _ _ _ _ _ _ d y1_;let 69. c b:=y1_;refine(1.2 (aK (cR (dJ<|044 kX d T.gaP T.FaP.kp T.BaP<|000 0) (aO<|bJ<|cT<|000 0) bS)
  <|aO<|bJ<|cT<|dG (fW T.gcK)<|gG (32.3 KH)<|32.3 MZ)<| ?_)
 refine(5.<|50.4);rw[wM];unfold showByte at b;cases e:plain c with
 |true=>rw[e,324.]at b;exact dv<|86. _ nv<|b
 |false=>
  rw[e,487.]at b;refine dw<|5.<|240. _ _ rfl ⟨ 08,08 ⟩<|e11 (c / 16) ?_<|5.<|240. _ _ rfl 2.8<|e12 (c % 16) ?_ (26.7 3)<|b
  ·cutsat
  cutsat
theorem r0(s t:aG):(s++t).map vN=s.map vN++t.map vN:=44.
theorem tK(c:Nat):0.3 showByte c<=3:=by unfold showByte;split <;> cutsat
theorem uP(s:aG):0.3 s.flatMap showByte<=3 * s.length:=by
 induction s with
 |nil=>cutsat
 |cons c s b=>
  rw[eO,bE,aZ];have:=tK c
  lia
def Hr(bF:aA):Sp:=fun vs H Q _=>∃t s,062 t/\H t=49.7 s.map/\s.length<=1000/\∀l H',5.7->54. l->15.4 l (2e6 showStr s vN)->796. l
theorem vG(T:19.):01 3 aL.fbw aL.dbw 765. (Hr bF):=by
 refine 4. T.Fbw Sbw
 intros _ _ _ _ H _ _ _ B y1_;let⟨t,k,rfl,n,hz,C⟩:=y1_;have p:=Sbw.nd;refine(1.2 (aK (gM 1 p<|cT<|dZ<|fW T.gcr)
  <|aK (906. (Ic<|pv 0) (qI 2 p)<|aO<|dg<|386. 79.<|dZ<|044 uO B T.gbO T.FbO.kp T.BbO<|000 2)
  <|aK (dg<|195. 79.<|dZ<|fW T.gcr)
  <|057 1)<| ?_)
 dsimp only[dO];refine⟨nv,fun l e=>(5.<|86. t ⟨_,iD.of<|494. e n⟩<|Ff (xs:=k.map vN) (fun i m H'=>∃st,m=[82. t,82. l,st]/\5.7/\H' l=73.8 (34::454. k.take i showByte).map)
  (86. none (5.1 e)<|aJ) ?_ ?_ ?_)⟩
 ·rintro i m H' hi y1_;have 70.7 st d:=y1_;exact iD.of<|873. n
 ·rintro i x m H' r y1_;have 70.7 st d:=y1_;rw[bN]at r;have 33. c D:=bW.mp r;refine(51. d<|5.<|65.1 c<|63. G g);have j:=3.6 ((showByte c).map vN) g _ _ d;have u:=uP<|k.take i;have I:=tK c;rw[cP]at u;refine(8.8 l G j aJ ?_<|44.7 _ (98.4 b))
  ·rw[aI,aI,aZ];show _<=059;grind
  ·rw[5e9 z e];exact 494. g<|873. z
  rw[aJ,dr D,gD,<-jU,r0];grind
 rintro m H' y1_;have 70.7 st d:=y1_;rw[aI,cJ]at d;have u:=uP k;refine(51. d<|127. l d ?_<|48.)
 ·rw[aI,aZ];show _<059;lia
 refine C l _ (71.8 e) e ?_;rw[aJ];unfold showStr;rw[<-jU,r0];rfl
def Hs(bF:aA)(aL:Ad):Sp:=fun vs H Q _=>∃v k lf x,vs=[v,02 k]/\Ec aL H k lf/\kF H v x/\075 lf x/\mO lf/\∀l H',5.7->54. l->15.4 l (2e6 showLit x vN)->0.3 showLit x<=4200->796. l
theorem rq(h:n<2 ^ 64):0.3 decimal n<=20:=by rw[<-oN];exact IH (08)<|cK h<|08
theorem yF(T:19.):01 4 aL.fa4 aL.da4 ["value","kind"] (0e4 Hs):=by
 refine 4. T.Fa4 Sa4
 intros _ _ _ s H _ Q _ O y1_;let⟨v,k,lf,x,rfl,z2_,f,d,B,G⟩:=y1_;let 28. R S:=z2_;(try clear z2_);have I:=Sa4.nd;refine(1.2 (792. T.gcL (aO<|bJ<|044 vG O T.gbw T.Fbw.kp T.Bbw<|000 0)
  <|aO<|bJ<|688. ("sign",2) (te:=OX (fun xs H Q=>∃x:Str,967. V.str)<|lC (ji 2) qG) rfl I (Nn<|iu zR 90. T.bdM PyProof.Rows.boot_str<|000 0) (ib<|73. Na4 sa4) (fun s H C cl J=>by exact qI 2 I) (398. J)
   fun s H C cl J=>by exact f9 Ij 90. T.bdL PyProof.Rows.boot_ord<|000 2)<| ?_)
 dsimp only[dO];refine(274. R S);cases x with
 |str g=>
  have Y:wN lf=116:=by cases lf <;> trivial <;> rfl
  have 69. t Z:=f;have hl:g.length<=999:=by
   cases lf with
   |bit=>cases d
   |int n=>cases d
   |text n=>have:=B.2;grind[fits]
  rw[Y,aY rfl];refine dv<|5.<|240. t g Z 2.8<|fun l H' sm m e=>G l H' sm m e ?_;have:=uP g
  show 0.3 showStr g<=4200
  grind[showStr]
 |num z=>
  revert S f d G;revert R z;intros R z S f d G;have f:v= 59. z:=f;subst f;have p:2e5 (wN lf) 116=false:=by
   cases lf with
   |bit=>exact 486. 98
   |int n=>exact 486. 105
   |text n=>cases d
  have q:z.natAbs<2 ^ 64:=by
   cases lf with
   |text n=>cases d
   |bit=>grind[fits]
   |int n=>
    have a0:=B.2;simp[fits]at d;have hp:47. 2 ^ (n - 1)<=2 ^ 63:=by
     have:(2:Nat) ^ (n - 1)<=2 ^ 63:=xY (08)<|95.
     grind
    lia
  rw[p];refine dw<|5.<|86. z ?_<|5.<|fun D r=>Oa (fun i H'=>15.4 D (2e6 (decimalInt z).take i vN)/\5.7) (61.5 r) ?_ ?_
  ·have:z.natAbs.log2<64:=by
    by_cases h0:z.natAbs=0
    ·simp_all
    exact(Nat.log2_lt h0).mpr q
   lia
  ·rintro i c H' L y1_;obtain⟨j,u⟩:=y1_;rw[J0]at L;have M:0.3 decimalInt z<=21:=by unfold decimalInt;have:=rq q;grind
   refine⟨rfl,w4<|5.<|86. ⟨#[c]⟩ rfl<|59.8 j<|fun b o y=>by rw[5e9 y r];exact u _ _ y⟩;rw[aJ,dr L,r0];rfl
  rintro H' y1_;have 28. j u:=y1_;(try clear y1_);rw[J0,cJ]at j;refine G D H' u r j ?_
  show 0.3 decimalInt z<=4200
  unfold decimalInt;have:=rq q;grind
def Ht(bF:aA):Sp:=fun vs H Q _=>∃l xs,062 l/\271. l/\47.0 42000/\∀p H',5.7->54. p->15.4 p (752. xs.length::xs)->796. p
theorem r6(T:19.):01 1 aL.faN aL.daN ["numbers"] (Ht bF):=by
 refine 4. T.FaN SaN;rintro _ _ _ _ _ _ _ _ _ y1_;have⟨l,xs,rfl,d,hz,g⟩:=y1_;refine(017 (aO<|bJ<|eQ rF (cT<|dZ<|751. 0)<|pv 0));dsimp only[dO];refine(5.<|124. l d nv<|fun c b=>(5.<|8.8 c l aJ (494. b d) ?_<|63. p e))
 ·show 1 + xs.length<=059
  lia
 refine g p _ ((5.1 b).trans<|5.1 e) ((5.1 b).free e) ?_;rw[aJ];rfl
def jO(k:830.):05 V:=k.flatMap fun x=> 37.1
def Hu(bF:aA)(aL:Ad):Sp:=fun vs H Q _=>∃b d key xs cols N,428. b d/\fB H b key/\271. d/\917. cols/\gi 69.2 key/\(∀c∈cols,mO c.1)/\cols.length<=10/\∀l H',5.7->54. l->H' l=008 jO key->0.3 jO key<=50000->796. l
theorem gI.get{H:Hp}:∀{xs:05 V} {ls:830.},gI H xs ls->∀{i:Nat} {x:Lit},ls[i]? =7. x->∃v,051 v/\kF H v x
 | [],[],_,_,_,h=>034
 |v::xs,l::ls,555.,0,x,h=>by
  have h:l=x:=541.
  subst h;exact 69. v h1
 |v::xs,l::ls,555.,18.6,x,h=>by
  have⟨u,e1,e2⟩:=gI.get h2 (i:=i) (x:=x)<|541.
  exact⟨u,077,e2⟩
 | [],_::_,h,_,_,_=>h.elim
 |_::_,[],h,_,_,_=>h.elim
theorem CM(T:19.):01 5 aL.fbB aL.dbB (423. "key") (0e4 Hu):=by
 refine 4. T.FbB SbB
 intros _ _ _ _ H _ _ _ Z y1_;let⟨kt,J,key,xs,cols,N,rfl,z2_,m,hC,q,hL,hz,kq⟩:=y1_;let⟨us,L,M⟩:=z2_;have nd:=SbB.nd;refine(1.2 (513. 2
  <|aK (114. (t9 90. T.bcq<|dZ<|751. 1) 3
   <|aO<|dg<|386. 010<|dZ<|982. Z<|dZ<|044 yF Z T.ga4 T.Fa4.kp T.Ba4<|gG (fo zS 31. 777. 50.)<|bA (fo dH 79. 777. 50.) rfl)
  <|057 2)<| ?_)
 dsimp only[dO];have a5:=hC.length;have a0:key.length=cols.length:=by have:=q.1;rwa [aI]at this
 refine 276.;intros l I;refine(5.<|25. J (97. (cX.of<|494. I m))<|65.0 (xs.length:Int) 960. 2.8<| ?_);refine m8 (n:=(36.6).toNat) (fun i O H'=>∃st,O=[82. kt,82. J,82. l,st]/\5.7/\15.4 l (jO<|key.take i)/\(jO<|key.take i).length<=i * 4201) (65.0 none (5.1 I) aJ<|bH _) ?_ ?_
 ·intros i O H' hi y1_;let⟨st,rfl,f,d,g⟩:=y1_;rw[dY]at hi;let 28. x hx:=46.1 (95.9 52.) key[i]?;let 28. c hc:=46.1 7e6 cols[i]?;let⟨y,ey,r⟩:=hC.get i c hc;let⟨cc,R,kv,pt,a6,rfl,_,S,t,_⟩:=r;rw[cI]at t;let⟨lk,U,rfl,_,V⟩:=t;let⟨v,ev,hv⟩:=M.get hx;have Y:=bB hc;have u:075 c.1 x:=q.2 i c.1 x (95.) hx;have e0:47. 0 + 47. i=47. i:=44.
  refine(51. d<|5.<|5.<|076 kt us (iD.of<|873. L) (54.4 e0 ev)<|5.<|5.<|076 J xs (4e3 f m) (54.4 e0 ey)<|06 cc R (873. S) T.CaG T.ncO FE<|e45 v lk c.1 x rfl ⟨U,873. V⟩ (hv.same f) u (hL c Y)<| ?_);intros l1 H1 B a7 C a8
  refine(240. l1 _ C 648.<| ?_);intros l2 H2 D a9 k
  rw[aI]at k;have a3:i * 4201<=42010:=by
   lia
  have G:jO (key.take<|18.6)=jO (key.take i)++(37.1):=by simp_all[jO,dr,gD]
  refine(8.8 l l2 (D _ _<|B _ _ d) k ?_<|944. _ z)
  ·rw[aZ,aI];show _<=059;lia
  ·rw[5e9 z I];exact D _ _<|B _ _<|873. z
  ·rw[aJ,G]
  grind
 intros O H' y1_;let⟨st,rfl,f,d,g⟩:=y1_;have e:key.take (xs.length:Int).toNat=key:=fK<|17.
 rw[e]at d g;refine(5.<|kq l H' f I d ?_)
 lia
#check SR
namespace SR
open PySem PySem.Spec PyProof.Rows L2
open Vacola (Leaf Lit Mode Head Fields fits)
open Vacolb (Val showRow)
open VacolyNeutral (encode)
set_option genInjectivity false in
set_option genSizeOf false in
structure TA where
 tb:Addr
 fl:Addr
 rl:Addr
 sn:Addr
 old:Addr->Prop
def Own(t:TA)(b:Addr):Prop:=b=t.tb\/b=t.fl\/b=t.rl\/b=t.sn
abbrev jd(t:TA):Addr->Prop:=fun b=> ¬ 40.7/\ ¬ t.old b
theorem lX:Own t t.tb:=8.5
theorem xF:Own t t.fl:=721. rfl
theorem AQ:Own t t.rl:=152. (97. rfl)
theorem E3:Own t t.sn:=152. (.inr rfl)
def nO(rv kc fl rl ls sn nx:V):79.9:=[38.8,633.,("fresh",fl),("run_list",rl),("last_entry",ls),("snapshots",sn),("next_snapshot",nx)]
section
variable{rv kc fl rl ls sn nx y:V}
theorem uQ:142. "record" rv:=oC
theorem qC:142. "key_columns" kc:=rfl
theorem lY:142. "fresh" fl:=rfl
theorem fI:142. "run_list" rl:=rfl
theorem qD:142. "last_entry" ls:=rfl
theorem lZ:142. "snapshots" sn:=rfl
theorem LZ:142. "next_snapshot" nx:=rfl
theorem L0{m:Str}(b:m≠ "record")(c:m≠ "key_columns")(d:m≠ "fresh")(e:m≠ "run_list")(f:m≠ "last_entry")(g:m≠ "snapshots")(h:m≠ "next_snapshot"):095 (0.7).lookup m:=
 499. b<|499. c<|499. d<|499. e<|499. f<|499. g<|499. h rfl
theorem Hv:dh "record" y (0.7)=nO y kc fl rl ls sn nx:=NC
theorem L1:dh "key_columns" y (0.7)=nO rv y fl rl ls sn nx:=rfl
theorem CN:65.3 y (0.7)=nO rv kc y rl ls sn nx:=rfl
theorem F4:85.9 y (0.7)=nO rv kc fl y ls sn nx:=rfl
theorem F5:945. y (0.7)=63.2 y sn nx:=rfl
theorem J1:539. y (0.7)=63.2 ls y nx:=rfl
theorem F6:387. y (0.7)=63.2 ls sn y:=rfl
#check 0
def vp(l:80.0):5.9 L2.Key V:=l.map fun x=>(220. x.1,546. x.2)
structure iQ(aL:Ad)(H:Hp)(t:TA)(rv kc:V)(F:lS)(R:zE)(last nx:Nat)(snaps:80.0):Prop where
 obj:∃dx,H t.tb=7. (7.7 dx (534. rv kc (34. last) 82.3 (34. nx)))
 fl:H t.fl=32.4 F
 rl:H t.rl=008 jv R
 sn:H t.sn=7. (.dK (vp snaps))
 ne:t.fl≠t.rl
 old:∀b,t.old b-> ¬ 40.7/\∃o,60. H
def AR(fs:Fields)(b:Sg):05 vB:=(gu fs b).map fun x=>326.
structure E4(aL:Ad)(N:Sq)(H:Hp)(fs:Fields)(ci:Sg)(rv:V)(kl:Addr)(F:lS)(R:zE):Prop where
 kind:92.9 rv 0e6
 cols:∃xs,N kl/\271. kl/\917. (AR fs ci)
 ents:314.
 runs:∀r∈R,N r.1/\549./\80. fV fs r.2
theorem E4.of(f:4.2 i)(j:10.1)(h:80. E4 fs k rv l F R):46.2 E4 i k rv l F R where
 kind:=744. f h.kind
 cols:=by have⟨xs,n,e,c⟩:=h.cols;obtain⟨d,g⟩:=873. n e;exact(e12 xs d g<|c.of f)
 ents:=h.ents.of f j
 runs:=fun r m=>by have⟨n,e,c⟩:=h.runs r m;obtain⟨d,g⟩:=873. n e;exact⟨d,g,c.of f j⟩
def oO(R:zE):9.7 Ent:=9e1 62.
structure o9(aL:Ad)(H:Hp)(t:TA)(s:aF)(fs:Fields)(ci:Sg)(rv:V)(kl:Addr)(F:lS)(R:zE):Prop where
 core:236. rv (02 kl) s.last s.nextSnap s.snaps
 gO:E4 aL 28.0 H fs ci rv kl F R
 fresh:F.map 62.=s.fresh.reverse
 runs:oO R=s.runs
 ok:995. ci
def TabAt(aL:Ad)(H:Hp)(t:TA)(s:aF)(fs:Fields)(b:Sg):Prop:=∃rv c F R,7e3 H
structure Frame(t t':TA)(H H':Hp):Prop where
 tb:t'.tb=t.tb
 own:∀b,Own t' b->40.7\/851.
 keep:∀b o,60. H-> ¬ 40.7->60. H'
 old:t'.old=t.old
theorem Frame.same(s:5.7):11.9 t H H':=⟨rfl,943.,fun b o h _=>s _ _ h,rfl⟩
theorem Frame.trans(x:11.9 c H f)(y:Frame c d f g):11.9 d H g where
 tb:=y.tb.trans x.tb
 own:=fun b i=>by
  rcases y.own b i with h|h
  ·exact x.own b h
  by_cases q:40.7
  ·exact 97. q
  cases e:H b with
  |none=>exact 674.
  |some o=>rw[094 x.keep q]at h;cases h
 keep:=fun b o h n=>y.keep b o (x.keep b o h n) fun z=>by
  rcases x.own b z with q|q
  ·exact n q
  rw[h]at q;cases q
 old:=y.old.trans x.old
theorem Frame.PU(x:312.)(h:60. H)(n: ¬ 40.7): ¬ Own t' b:=fun z=>by
 rcases x.own b z with q|q
 ·exact n q
 rw[h]at q;cases q
theorem Frame.CO(x:312.)(h:60. H)(n:jd t b):jd t' b:=⟨x.PU h n.1,by rw[x.old];exact n.2⟩
theorem iQ.PV(c:16.9 f)(h:H b=96. ys): ¬ 40.7:=by
 rintro(rfl|rfl|rfl|rfl)
 ·obtain⟨g,e⟩:=c.obj;rw[h]at e;cases e
 ·grind[c.fl]
 ·grind[c.rl]
 grind[c.sn]
theorem iQ.fg(c:16.9 e)(f:312.):10.1:=fun b ys h=>f.keep b _ h<|c.PV h
theorem E4.frame(h:E4 aL 28.0 H fs i rv j F R)(c:16.9 f)(g:312.):46.2 E4 (jd t') i rv j F R:=
 h.of (fun b o n e=>⟨g.CO e n,094 g.keep n.1⟩)<|c.fg g
theorem iQ.same(c:16.9 f)(s:5.7):iQ aL H' t rv kc F R f nx d:=
 ⟨let 28. h e:=c.obj;756. h s,s _ _ c.fl,s _ _ c.rl,s _ _ c.sn,c.ne,fun b g=>⟨(c.old b g).1,let 28. o e:=(c.old b g).2;756. o s ⟩⟩
theorem iQ.J2(c:16.9 f)(g:312.):∀b,t'.old b-> ¬ Own t' b/\∃o,60. H':=fun b h=>by rw[g.old]at h;have 28. n ⟨o,e⟩:=c.old b h;exact⟨g.PU e n,o,094 g.keep n⟩
theorem o9.same(d:7e3 H)(e:5.7):7e3 H':=
 ⟨d.core.same e,91.5<|7e2 e,d.fresh,d.runs,d.ok⟩
theorem o9.L3(d:7e3 H):F.length=s.fresh.length:=by have:=090 d.fresh;grind
theorem o9.CP(d:7e3 H):R.length=s.runs.length:=by
 have:=090 d.runs
 rwa [oO,aI]at this
theorem o9.CQ(d:7e3 H):F.length + 67.9=s.entries.length/\s.entries.length<=200:=by refine 28. ?_ d.ok.cnt;unfold Vacoly.State.entries;rw[bE,<-d.runs,d.L3];congr 1;have:=090<|p9 R;rw[aI]at this;exact this
theorem jo(h:kj fs b):(AR fs b).map 0.6=vn fs b/\(AR fs b).length=b.length:=by have⟨g1,g2,g3⟩:=my h.2.2.2;simp_all[AR,vn]
theorem J3(h:kj fs b):∃lf ls,vn fs b=lf::ls:=by
 have:=(jo h);have d:=h.1;cases e:vn fs b with
 |nil=>rw[e]at this;have c:=this.2;rw[<-aI (f:=fun x:vB=>x.1),this.1]at c;simp at c;lia
 |cons lf ls=>grind
theorem o9.J4(d:7e3 H):jM (vn fs b) F:=fun p e=>by
 have:p.2∈s.fresh:=by have:p.2∈F.map 62.:=9e0 p e;rw[d.fresh]at this;exact mX.mp this
 exact(d.ok.ent p.2<|ik _ this).key
theorem o9.QW(d:7e3 H)(h:71.5):p.2∈s.runs.flatten:=by have:p.2∈ 2e6 flat R 62.:=9e0 p h;rw[p9]at this;rw[<-d.runs];exact this
theorem o9.J6(d:7e3 H):jM (vn fs b) (flat R):=fun p e=>(d.ok.ent p.2<|dm _<|d.QW e).key
def L4(t:TA)(H:Hp)(l:Addr):Prop:=∀o,H l=7. o->Own t l
theorem mF(h:54. l):L4 t H l:=fun o q=>by rw[h]at q;cases q
theorem Frame.J7(d:11.9 t' H b)(c:095 b l):L4 t H l:=fun o h=>by
 by_cases q:Own t l
 ·exact q
 rw[d.keep l o h q]at c;cases c
def Out(aL:Ad)(t:TA)(H:Hp)(Q:VK)(s:aF)(fs:Fields)(c:Sg)(b:Sg):Prop:=
 ∀l t' H',312.->TabAt aL H' t' s fs c->72.9
def L5(bF:aA)(aL:Ad):Sp:=fun vs H Q _=>∃t s fs ci,062 t.tb/\0.4/\∀H',5.7->Q (34. s.entries.length) H'
theorem qa(T:19.):01 1 aL.faX aL.daX RV (0e4 L5):=by
 refine 4. T.FaX SaX;rintro _ _ _ s H _ Q _ _ y1_;have 188. M:=y1_;obtain⟨rv,L,F,R,d⟩:=z2_;have k:=SaX.nd;obtain⟨l,m⟩:=d.core.obj;refine(1.2 (aO<|bJ<|eQ iI (20.7)<|f9 (Nb rfl) 90. T.bdN PyProof.Rows.boot_sum<|dZ<|688. ("run",1) (te:=OX (fun xs H Q=>∃p ys,xs=[035 p]/\52.3 bF bF)<|lC (ji 1) qG) rfl k (fq<|069) (ib<|73. NaX saX) (fun s H C cl n=>by exact qI 1 k) (398. n)
  fun s H C cl n=>by exact 751. 1)<| ?_)
 dsimp only[dO];refine(5.<|44.9 l m<|80.6<|5.<|6e1 l m<|6e7 t.rl d.core.rl<|63. D q);refine kg (xs:=jv R) (fun i H'=>H' D=425. (2e6 R.take i fun r=>(208.:Int)).map/\5.7) (61.5 q) ?_ ?_ ?_
 ·rintro i H' hi y1_;obtain⟨_,f⟩:=y1_;exact 554. f
 ·rintro i x H' j y1_;obtain⟨g,f⟩:=y1_;unfold jv at j;rw[bN]at j;have 33. r c:=bW.mp j;have v:i<R.length:=048 c;have B:=d.ok.nA;have:=d.CP;refine⟨rfl,w4<|5.<|25. r.1 (97. (4e3 f (d.gO.runs r<|bB c).2.1))<|23.1<|71.8 q ⟩;rw[aJ,dr c,bG,bG,fF];rfl
 rintro H' y1_;obtain⟨g,f⟩:=y1_;rw[eY,cJ]at g;refine(25. D (72.1 g)<|3e1<| ?_);have e:93.3 rf F + (R.map fun r=>47. 208.).sum=45.2:=by
  rw[<-d.CQ.1,fF];have:∀R,(R.map fun r=>47. 208.).sum=93.3 flat R:=by
   intro R;induction R with
   |nil=>rfl
   |cons r R G=>
    have I:flat (r::R)=r.2++flat R:=rfl;rw[bD,List.sum_cons,G,I,bE]
    cutsat
  rw[this]
  cutsat
 simp[*]
#check SR
instance RC:14. SR.TA:=⟨⟨0,0,0,0,fun _=>True⟩⟩
namespace SR
open PySem PySem.Spec PyProof.Rows L2
open Vacola (Leaf Lit Mode Head Fields fits)
open Vacolb (Val showRow)
open VacolyNeutral (encode)
theorem nG(h:(["record","key_columns","fresh","run_list","last_entry","snapshots","next_snapshot"]:Si).all (fun x=>61. (m≠x))=true):095 (69.9 nO ls sn f).lookup m:=by simp only[se,List.all_nil,bI,cO]at h;have⟨g,i,j,k,l,n,o,_⟩:=h;exact L0 g i j k l n o
theorem iQ.apart(c:236. f g d h b):t.fl≠t.tb/\t.rl≠t.tb/\t.sn≠t.tb/\t.sn≠t.fl/\t.sn≠t.rl:=by obtain⟨i,e⟩:=c.obj;exact⟨i6 c.fl e (81.),i6 c.rl e (81.),i6 c.sn e (81.),i6 c.sn c.fl (81.),i6 c.sn c.rl 81. ⟩
theorem iQ.AS(c:236. f g e i d)(h:851.): ¬ 40.7:=by
 obtain⟨j,k⟩:=c.obj;rintro(rfl|rfl|rfl|rfl)
 ·grind
 ·have:=c.fl;rw[h]at this;cases this
 ·have:=c.rl;rw[h]at this;cases this
 have:=c.sn;rw[h]at this;cases this
theorem iQ.Oc(c:236. g i f j d)(h:851.):jd t b:=⟨c.AS h,fun z=>by
 have 073 ⟨o,e⟩:=c.old b z;rw[h]at e;cases e⟩
def L6(bF:aA)(aL:Ad):Sp:=fun vs H Q _=>∃t s fs ci c b key row,vs=[02 t.tb,02 c,b]/\0.4/\fB H c key/\Ci 28.0 H fs b row/\gi 13.7 key/\(733. row)/\
 718. (Vacoly.writes s key row).1 ci (encode (Vacoly.writes s key row).2)
theorem qb(T:19.):01 3 aL.fbH aL.dbH (36.9) (0e4 L6):=by
 refine 4. T.FbH SbH
 intros _ _ _ _ H _ _ _ hr y1_;let⟨t,st,fs,ci,kt,M,key,row,rfl,z2_,a6,S,a7,a8,kq⟩:=y1_;let 170. N O:=z2_;(try clear z2_);rcases d.core.obj with⟨k,ho⟩;refine(1.2 (aK (81.2 (193. T.maX qa hr T.BaX dM) T.gdG (1e9 T.gcS) bS)
  <|56.1
  <|aK (dg<|195. (069)<|dZ<|iF T.Mai (yw T) (hr.mono<|08) 90. T.gai T.Bcb .nil dM<|dG 79.<|gG (069)<|pv 2)
  <|aO<|bJ<|cT<|dZ<|069)<| ?_)
 dsimp only[dO];refine(5.<|042 k ho<|153. e42 rfl (055 N O<|d)<| ?_);intros y c;refine(18.);have ab:=d.CQ.2;by_cases hc:200<=st.entries.length
 ·refine m7 (show 47. 200<=45.2 by cutsat) (259. U);have e:545. key row=8e8 5:=by unfold Vacoly.writes;rw[aP<|show 72.5 from hc]
  rw[e]at kq;have sm:=c.trans<|30.5 5 U;exact 781. kq sm (055 N O<|574. sm) (mF<|c.free U) aJ
 rw[aX<|show ¬ 47. 200<=45.2 by lia];have e:545. key row=({st with fresh:=472.::st.fresh,last:=st.last + 1},.number (st.last + 1)):=by unfold Vacoly.writes;rw[aM<|show ¬ 72.5 from hc]
 rw[e]at kq;have i:=574. c;have V:=i.core.apart;have Y:=c _ _ ho;refine dw<|5.<|56. k Y T.nb4 qD<|3e1<|5.<|954. k Y T.nb4 (98. 7)<| ?_;rw[F5];let 28. J B:=(981.:∃J,J=upd y t.tb (7.7 k<|63.3 N (02 O) (680.) (02 t.sn)<|438.));rw[<-B];have C:J t.tb=7. (7.7 k<|534. N (.ref O) (680.) 82.3<|438.):=by rw[B];exact aJ
 have k2:∀b,462.->J b=y b:=fun b n=>by rw[B];exact aS n
 have u:J t.fl=32.4 F:=(k2 _ V.1).trans i.core.fl;refine(5.<|7.9 t.tb k C T.Caa T.nbL lY (97. (75.0 u))<|5.<|5.<|56. k C T.nb4 qD<|48.);intros x D hx hd af;refine(e52 x D _ _ _ rfl aJ<| ?_);intros H3 kp a9;refine 078;have m:bC J H3:=600. hx kp;have Z:=m _ _ u;refine(127. t.fl Z ?_<| ?_)
 ·rw[fF];have:=d.CQ.1
  show _<059
  lia
 let 28. L G:=(981.:∃L,L=90.1 t.fl (rf F++[02 x]));rw[<-G];have k4:∀b,b≠t.fl->L b=H3 b:=fun b n=>by rw[G];exact aS n
 have a0:=(k4 _<|eC V.1).trans<|m _ _ C;refine(5.<|7.9 t.tb k a0 T.Caa T.nb4 qD nv<| ?_);intros l U
 let 28. j I:=(981.:∃j,j=379. L [680.]);rw[<-I];have r:bC L j:=by rw[I];exact 5.1 U
 have f:∀b o,60. y->462.->b≠t.fl->60. j:=fun b o h n1 n2=>r _ _<|803. k4 n2<|m _ _<|803. k2 n1 h;have fr:11.9 t y j:=⟨rfl,943.,18.9 f (fun z=>n<|z▸xF),rfl⟩;have a3:11.9 t H j:=25.2 c fr;have a4:095 y x:=by
  match q:y x with
  |none=>rfl
  |7. o=>grind
 have aa:=i.core.AS a4;have ag:j x=7. (.ins aL.cai D<|Lw (.ref kt) (680.) M):=r _ _<|(k4 x fun z=>aa<|z▸xF).trans a9;have g:=i.gO.frame i.core fr;have ft:=i.core.fg fr;have hE:oX aL 28.0 j fs x 472.:=by
  refine(e33 D kt M (i.core.Oc a4) ?_ ((a6.fg<|399. c).fg ft)<|S.of fun b o n q=>⟨n,a3.keep b o q n.1⟩)
  cutsat
 have a5:fV aL 28.0 j fs (F++[(x,472.)]):=fun p hp=>by
  rcases bT.mp hp with hp|hp
  ·exact g.ents p hp
  simp_all
 refine kq l t j a3 (e40 N O (F++[(x,472.)]) R<|⟨⟨ 31.8 k,?_,873. i.core.rl V.2.1<|eC i.core.ne,873. i.core.sn V.2.2.1 V.2.2.2.1,i.core.ne,i.core.J2 fr⟩,⟨g.kind,g.cols,a5,g.runs⟩,?_,d.runs,d.ok.write a7 a8<|21. ⟩) ((25.2 c (⟨rfl,943.,fun b o h n=>(k4 b fun z=>n<|z▸xF).trans<|m _ _<|803. k2 (479. n) h,rfl⟩:11.9 t y L)).J7 U) ?_
 ·exact r _ _ a0
 ·refine r _ _ ?_;rw[G,aJ,p5];rfl
 ·grind[d.fresh]
 rw[I,aJ];rfl
def Od(bF:aA)(aL:Ad):Sp:=fun vs H Q _=>∃t s fs ci,062 t.tb/\0.4/\718. s ci [47. s.fresh.length,47. s.entries.length]
theorem yG(T:19.):01 2 aL.fb8 aL.db8 RV (0e4 Od):=by
 refine 4. T.Fb8 Sb8
 intros _ _ _ _ _ _ _ _ m y1_;let 188. n:=y1_;let 170. c e:=z2_;(try clear z2_);obtain⟨f,g⟩:=d.core.obj;refine(017 (aO<|bJ<|cT<|gG (1e2<|13. 0)<|193. T.maX qa m T.BaX dM));dsimp only[dO];refine(5.<|44.9 f g<|80.6<|5.<|042 f g<|153. e42 rfl (055 c e<|d)<|fun p b=>⟨HR,63. l i ⟩);have j:=b.trans<|3.6 [34. (rf F).length,34. st.entries.length] i;refine 781. n j (055 c e<|574. j) (mF<|b.free i) ?_;rw[aJ,fF,d.L3];rfl
theorem AU(l)(z):ic (vp l) (602. z)=(l.find? 294.).map fun x=>546. x.2:=by
 induction l with
 |nil=>rfl
 |cons x l b=>
  show 61.3 ic
  grind[jD,jE]
theorem xG(l:80.0)(z:Int):(ic (vp l) (602. z)).isSome=l.any 294.:=by rw[AU,ip,eB,List.find?_isSome,List.any_eq_true]
theorem J8(l)(z):ng (vp l) (602. z)=vp (l.filter fun x=>47. x.1 != z):=by
 induction l with
 |nil=>rfl
 |cons x l b=>
  show 61.3 ng
  by_cases e:47. x.1=z
  ·grind[Gy]
  have c:4e2 (47. x.1 != z):=95.
  rw[Gz (fun q=>e (70.)),b,mY,c];rfl
theorem Hw(s:aF)(z:Int):(401. s).isSome=(61. (z= -1)||s.snaps.any 294.):=by
 unfold Vacoly.pointOf;by_cases h:z= -1
 ·rw[aP h,aY h];rfl
 rw[aM h,aX h,ip,Bool.false_or,eB,List.find?_isSome,List.any_eq_true]
def Oe(bF:aA)(aL:Ad):Sp:=103. .snap .snap
theorem yH(T:19.):01 1 aL.fbU aL.dbU RV (0e4 Oe):=by
 refine 4. T.FbU SbU
 intros _ _ _ _ H _ _ _ S y1_;let 188. B:=y1_;let 170. C D:=z2_;(try clear z2_);have U:=SbU.nd;have Y:=sJ S;rcases d.core.obj with⟨g,q⟩;refine(1.2 (aK (81.2 (64.7 Gx<|dZ<|069) T.gdI (1e9 T.gcS) bS)
  <|aK (gM 1 U<|069)
  <|aK (z6 Y (069) 79. (069) rfl)
  <|3.1 (54.2 iI)
  <|aO<|bJ<|cT<|000 1)<| ?_)
 dsimp only[dO];have r:0.3 vp st.snaps=st.snaps.length:=aI ..;have h8:=d.ok.Js;refine(5.<|13.2 g q<|25. t.sn d.core.sn<|18.);rw[r];by_cases L:8<=st.snaps.length
 ·refine m7 (show 47. 8<=47. st.snaps.length by cutsat) (259. m);have e:07 st .snap=8e8 5:=by show(58.3 338.)=_;rw[aP<|show 338. from L]
  rw[e]at B;have M:=30.5 5 m;exact 781. B M (055 C D<|574. M) (mF m) aJ
 rw[aX<|show ¬ 47. 8<=47. st.snaps.length by lia];have e:07 st .snap=({st with snaps:=219.,nextSnap:=st.nextSnap + 1},.number st.nextSnap):=by show(58.3 338.)=_;rw[aM<|show ¬ 338. from L]
 rw[e]at B;have u:=d.core.apart;refine dw<|5.<|56. g q T.ncP LZ<|5.<|56. g q T.nb4 qD<|5.<|13.2 g q<|5.<|67.4 t.sn (zZ.k (k:=220. st.nextSnap) d.core.sn<|by rw[r];show _<059;lia);have G:ic (vp st.snaps) (220. st.nextSnap)=none:=by
  rw[AU];have:095 st.snaps.find? (fun x=>47. x.1==47. st.nextSnap):=List.find?_eq_none.mpr fun x hx z=>by have:=d.ok.Jr x hx;grind
  rw[this];rfl
 have y:putK (vp st.snaps) (220. st.nextSnap) (546. st.last)=vp (219.):=by grind[BA,vp]
 rw[y];have I:(12.8 219.) t.tb=_:=(aS<|eC u.2.2.1).trans q;refine(5.<|3e1<|5.<|954. g I T.ncP (98. 7)<| ?_);rw[F6];refine(44.7 _ nv);intros l m
 let 28. p J:=(981.:∃p,p=upd (12.8 219.) t.tb (7.7 g<|63.3 C (02 D) (625.) (02 t.sn)<|.int (47. st.nextSnap + 1)));rw[<-J]at m ⊢;have f:bC p (361. p [34. st.nextSnap]):=5.1 m;have c:∀b o,60. H->462.->b≠t.sn->60. p:=fun b o h n1 n2=>by simp_all[aS]
 have N:11.9 t H p:=⟨rfl,943.,18.9 c (fun z=>n<|z▸E3),rfl⟩;have j:=N.trans<|7e2 f;refine B l t _ j (055 C D<|⟨⟨ 31.8 g,873.<|c _ _ d.core.fl u.1<|eC u.2.2.2.1,873.<|c _ _ d.core.rl u.2.1<|eC u.2.2.2.2,?_,d.core.ne,d.core.J2 j⟩,91.5 j,d.fresh,d.runs,d.ok.snap<|21. ⟩) (N.J7 m) aJ
 ·refine 873. ?_;simp_all[aJ]
 refine 873. ?_;simp_all[aS,aJ]
def L7(bF:aA)(aL:Ad):Sp:=642. .close .close
theorem xH(T:19.):01 1 aL.fb7 aL.db7 (67.7) (0e4 L7):=by
 refine 4. T.Fb7 Sb7
 intros _ _ _ _ H _ _ _ G y1_;let 25.8 j:=y1_;let 170. r u:=z2_;(try clear z2_);have I:=sJ G;obtain⟨m,p⟩:=d.core.obj;refine(1.2 (10.8 (t7<|Gu I 79.<|069) T.gcE
  <|aK (dg<|IG (069) 79. 730.)
  <|aO<|bJ<|cT<|dZ bZ)<| ?_)
 dsimp only[dO];refine(5.<|5.<|13.2 m p<|25. t.sn (941.)<|48.);rw[xG];cases y:90.3 with
 |false=>
  refine dv (259. i);have e:07 st (.close z)=8e8 3:=by show(905. (90.3))=_;rw[y,487.]
  rw[e]at j;have B:=30.5 3 i;exact 781. j B (055 r u<|574. B) (mF i) aJ
 |true=>
  have e:07 st (.close z)=({st with snaps:=509.},.number 0):=by show(905. (90.3))=_;rw[y,324.]
  rw[e]at j;have q:=d.core.apart;have hs:4e2 (ic (vp st.snaps)<|602. z).isSome:=by grind[xG]
  obtain⟨v,L⟩:=iC.mp hs;refine dw<|5.<|13.2 m p<|86. t.sn (97. ⟨_,.inl d.core.sn⟩)<|5.<|e34 _ (602. z) v d.core.sn rfl L nv<| ?_;intros l i
  rw[J8]at i ⊢;have f:=3.6 [59. 0] i;have c:∀b o,60. H->b≠t.sn->(12.8 509.) b=7. o:=fun b o h N=>817.
  have C:11.9 t H (12.8 509.):=⟨rfl,943.,fun b o h n=>c b o h (fun z=>n<|z▸E3),rfl⟩;have g:=C.trans<|7e2 f;exact j l t _ g (055 r u<|⟨⟨⟨m,873.<|c _ _ p<|eC q.2.2.1⟩,873.<|c _ _ d.core.fl<|eC q.2.2.2.1,873.<|c _ _ d.core.rl<|eC q.2.2.2.2,873. aJ,d.core.ne,d.core.J2 g⟩,91.5 g,d.fresh,d.runs,d.ok.close z⟩) (C.J7 i) aJ
def Hy(bF:aA)(aL:Ad):Sp:=fun vs H Q _=>∃t s fs ci z,762. t.tb z/\0.4/\065 (401. s).isSome H
theorem mG(T:19.):01 1 aL.fbI aL.dbI (802.) (0e4 Hy):=by
 refine 4. T.FbI SbI
 intros _ _ _ _ _ _ _ _ f y1_;let 25.8 b:=y1_;let 170. n o:=z2_;(try clear z2_);have g:=sJ f;obtain⟨j,l⟩:=d.core.obj;refine(017 (aO<|bJ<|HZ (662. 79. T.gc0)<|rC<|HY<|IB g 79.<|13. 0));dsimp only[dO];refine(047);rw[Hw]at b;have e:2e5 z (-1)=61. (z= -1):=44.
 rw[e];cases m:61. (z= -1)with
 |true=>simp_all
 |false=>rw[m]at b;refine dw<|5.<|5.<|13.2 j l<|67.4 t.sn (941.);grind[xG]
def E5(bF:aA)(aL:Ad):Sp:=fun vs H Q _=>∃t s fs ci z p,762. t.tb z/\0.4/\401. s=7. p/\Q (34. p) H
theorem l5(T:19.):01 1 aL.fbJ aL.dbJ (802.) (0e4 E5):=by
 refine 4. T.FbJ SbJ
 intros _ _ _ _ _ _ _ _ j y1_;let⟨t,st,fs,ci,z,p,rfl,z2_,b,e⟩:=y1_;let 170. o r:=z2_;(try clear z2_);have l:=sJ j;obtain⟨f,g⟩:=d.core.obj;refine(017 (aO<|bJ<|kn (cA f7 79. (fW T.gc0)<|cD _) (13. 0)<|vS l (13. 0) 79. 50.));dsimp only[dO];refine(047);unfold Vacoly.pointOf at b;by_cases c:z= -1
 ·rw[aP c]at b;cases b;exact m7 (by rw[c])<|5.<|56. f g T.nb4 qD<|e
 rw[aM c]at b;refine qj (fun q=>c<|70.)<|5.<|13.2 f g<|5.<|26.3 t.sn (546. p) ?_<|e;have:=941.;rw[AU]at this
 match n:st.snaps.find? (294.)with
 |none=>simp_all
 |7. x=>
  rw[n]at b this;have:x.2=p:=52.
  subst this;assumption
def J9(bF:aA)(aL:Ad):Sp:=103. .advise .advise
theorem vH(T:19.):01 3 aL.fbT aL.dbT RV (0e4 J9):=by
 refine 4. T.FbT SbT
 intros _ _ _ _ H _ _ _ m y1_;let 188. f:=y1_;let 170. p q:=z2_;(try clear z2_);have z:=SbT.nd;obtain⟨g,j⟩:=d.core.obj;refine(1.2 (10.8 (12.2 (1e2<|069) bZ) T.gcG
  <|aK (gM 1 z<|044 uF m T.gbn T.Fbn.kp T.Bbn<|dZ<|069)
  <|aO<|bJ<|cT<|gG 79.<|983. m<|gG (069)<|pv 1)<| ?_)
 dsimp only[dO];refine(299. g j);rw[eY];have C:=d.CP;have D:=d.ok.nA;have ch:=BV st.runs;have c:07 st .advise=(st,match Vacoly.cheapest 0 st.runs with
  |none=> .refused (-7)
  |7. (i,n)=> .two i n):=rfl
 by_cases I:R.length<2
 ·refine m7 (show 469.<2 by cutsat) (259. b);rw[aP (52.)]at ch;rw[c,ch]at f;have e:=30.5 7 b;exact 55.7
 rw[aX<|show ¬ 469.<2 by lia];rw[aM (52.)]at ch;rw[c,ch]at f;have u:∀r∈R,549.:=fun r k=>(d.gO.runs r k).2.1;have x:(9e1 62.)=st.runs:=d.runs;have J:=Cj (eR st.runs)<|R.length - 2;refine dw<|5.<|6e1 g j<|e25 t.rl R rfl d.core.rl u 2.8 2.8<|5.<|5.<|6e1 g j<|5.<|e46 t.rl R _ _ rfl rfl d.core.rl u (by rw[x];grind) HR<|63. l b;rw[x,C];have e:=3.6 [34. (kW (eR st.runs) (st.runs.length - 2):Nat),34. (eR st.runs (kW (eR st.runs)<|st.runs.length - 2):Nat)] b;exact 55.7
def L8(bF:aA)(aL:Ad):Sp:=103. .flush .flush
theorem xI(T:19.):01 5 aL.fb6 aL.db6 RV (0e4 L8):=by
 refine 4. T.Fb6 Sb6
 intros _ _ _ _ _ _ _ _ hr y1_;let 188. N:=y1_;let 170. U Y:=z2_;(try clear z2_);rcases d.core.obj with⟨u,O⟩;refine(1.2 (aK (cR (229. (20.7) bZ)
  (aK (81.2 (20.7) T.gdH (1e9 T.gdl) bS)
  <|aK (dg<|i7 bR PySem.F.slot_list_insert PySem.F.type_list_insert EX (069)<|gG bZ<|94.2<|dZ<|069)
  <|aO<|dW 31. (cT hU) rfl) bS)
  <|aO<|bJ<|cT<|dZ<|20.7)<| ?_)
 dsimp only[dO];refine(5.<|44.9 u O<|80.6<|18.);have ag:=d.L3;have Z:=d.CP;have ah:=d.ok.nA;have ai:=d.CQ;rw[fF];by_cases h0:F.length=0
 ·rw[aX<|show ¬ 36.8 0 F.length by simp_all];have e:07 st .flush=(st,.number st.runs.length):=by
   show(58.3 56.0)=_
   grind
  rw[e]at N;refine dw<|5.<|6e1 u O<|124. t.rl d.core.rl nv<|63. l C;rw[eY,Z];have sm:=3.6 [34. st.runs.length] C;exact 44.8
 rw[aY<|show 36.8 0 F.length by lia];have J: ¬ 56.0:=fun z=>h0<|52.
 refine dv<|299. u O;rw[eY];by_cases hc:12<=R.length
 ·rw[aY<|show 47. 12<=469. by cutsat];have e:07 st .flush=8e8 6:=by
   show 303.
   rw[aM J,aP<|show 876. by show 12<=_;simp_all]
  rw[e]at N;refine dv (259. C);have sm:=30.5 6 C;exact 44.8
 rw[aX<|show ¬ 47. 12<=469. by lia];have e:07 st .flush=({st with runs:=Vacoly.sorted st.fresh::st.runs,fresh:=[]},.number (st.runs.length + 1)):=by
  show 303.
  rw[aM J,aM<|show ¬ 876. by show ¬ 12<=_;simp_all]
 rw[e]at N;have ap:=d.core.apart;have a0:565.:=by
  have h1:=d.ok.FN.nd;have e1:F.map 68.4=(st.fresh.reverse).map (·.seq):=by rw[<-d.fresh,bQ];rfl
  grind
 refine dw<|5.<|7.9 t.tb u O T.Caa T.nam fI (97. (75.0 d.core.rl))<|5.<|44.9 u O<|e56 t.fl F 28.0 fs 13.7 rfl (72.1 d.core.fl) 2.8 d.gO.ents d.J4 a0<| ?_;intros D G L hp hs x hD a3
 have S:=574. x;have a4: ¬ Own t D:=d.core.AS hD;have aj:D≠t.rl:=fun z=>a4<|z▸AQ;refine(127. t.rl S.core.rl (by rw[eY];show _<059;lia)<| ?_);let 28. H2 y:=(981.:∃H2,H2=upd L t.rl (1e6 (02 D::jv R)));rw[<-y];have a5:H2 t.tb=L t.tb:=by rw[y,aS<|eC ap.2.1]
 rw[x _ _ O]at a5;refine 276.;intros f hf;refine(5.<|954. u (494. hf a5) T.nbL (98. 7)<| ?_);rw[CN];have g:095 L f:=by
  match q:L f with
  |none=>rfl
  |7. o=>
   by_cases z:f=t.rl
   ·simp_all[aJ]
   simp_all[aS]
 have a6: ¬ Own t f:=S.core.AS g;have aa:f≠t.tb:=479. a6;have a7:f≠t.rl:=fun z=>a6<|z▸AQ;let 28. B i:=(981.:∃B,B=upd (4.9 H2 f) t.tb (7.7 u<|nO U (02 Y) 780. (02 t.rl) (625.) (02 t.sn)<|438.));rw[<-i];have j:∀b o,60. L->462.->b≠t.rl->60. B:=fun b o h n1 n2=>by rw[i,aS n1,5e9 h g,y,aS n2];exact h
 have a8:B t.tb=7. (7.7 u<|nO U (.ref Y) 727. (.ref t.rl) (625.) 82.3<|438.):=by rw[i];exact aJ
 have I:B t.rl=15. (.ref D::jv R):=by rw[i,aS ap.2.1,aS<|eC a7,y];exact aJ
 refine(5.<|6e1 u a8<|124. t.rl I nv<| ?_);intros l C
 have k:bC B 61.1:=5.1 C;have fr:11.9 88.9 L B:=⟨rfl,fun b hb=>by
  rcases hb with z|z|z|z
  ·exact 402. z
  ·exact 8.4 (z▸g)
  ·exact 97. (152. (.inl z))
  exact 97. (152. (.inr z)),18.9 j (fun z=>n<|z▸AQ),rfl⟩
 have m:11.9 88.9 L 61.1:=fr.trans<|7e2 k;have c:=S.gO.frame S.core m;have ab:G.map 62.=Vacoly.sorted st.fresh:=Jt d.ok (by
  refine(hp.map _).trans ?_;rw[d.fresh];exact List.reverse_perm _) hs
 have a9:jd 88.9 D:=m.CO a3<|d.core.Oc hD;refine N l 88.9 _ (25.2 x m) (e40 U Y [] ((D,G)::R)<|⟨⟨⟨u,k _ _ a8⟩,?_,k _ _ I,k _ _<|j _ _ S.core.sn ap.2.2.1 ap.2.2.2.2,a7,S.core.J2 m⟩,⟨c.kind,c.cols,(fun p hp=>nomatch hp),63. r M ⟩,rfl,?_,?_⟩) ((25.2 x fr).J7 C) ?_
 ·refine k _ _ ?_;rw[i,aS aa];exact aJ
 ·rcases 819. M with rfl|M
  ·refine⟨a9,m.keep _ _ a3 a4,fun p ae=>c.ents p<|hp.mem_iff.mp ae⟩
  exact c.runs r M
 ·show 17.2::oO R=_
  rw[ab,d.runs]
 ·exact d.ok.flush (fun z=>J<|17.)<|52.
 rw[aJ,aZ,eY,Z];rfl
theorem L9(xs:05 V){p k:Nat}(h:p + k<=xs.length):pj xs (30.2 p) (7. (47. p + 47. k))=(xs.drop p).take k:=by
 have e:36.7 k k:=17.
 unfold pj;rw[e,HT.sA,HT.sA,719. h,719. 2.8,Nat.add_sub_cancel_left]
theorem Ka(xs:05 V){p k:Nat}(h:p + k<=xs.length):pj xs (7. (47. p + 47. k)) none=xs.drop (p + k):=by
 have e:36.7 k k:=17.
 unfold pj;rw[e,HT.sA,HT.wg,719. h];apply fK;rw[dX]
 cutsat
theorem CS(R:zE)(i):(jv R).drop i=jv (R.drop i):=(m6 ..).symm
theorem CT(R:zE)(i):(jv R).take i=jv (R.take i):=(jh ..).symm
theorem AV(R S:zE):jv R++jv S=jv (R++S):=(bG ..).symm
theorem CU(R S:zE):flat (R++S)=flat R++flat S:=by grind[flat]
def Kb(bF:aA)(aL:Ad):Sp:=fun vs H Q _=>∃t s fs ci i n,vs=[02 t.tb,50.3,59. n]/\0.4/\4e9 (.merge i n) (.merge i n)
theorem xJ(T:19.):01 6 aL.fbS aL.dbS 38.6 (0e4 Kb):=by
 refine 4. T.FbS SbS
 intros _ _ _ _ H _ Q _ hr y1_;let⟨t,st,fs,ci,i,n,rfl,z2_,kq⟩:=y1_;let 170. rv kl:=z2_;(try clear z2_);have nd:=SbS.nd;rcases d.core.obj with⟨dx,ho⟩;refine(1.2 (aK (47.8 3<|eQ iI 79.<|pv 2)
  <|aK (cR (pf (12.2 79. bZ)<|pf (12.2 010 bZ)<|nR<|229. 777. (20.7)).pt (1e9 T.gcG) bS)
  <|aK (47.8 4<|eQ rF (iu (xp rfl) 90. T.bcQ uY<|dZ<|LJ<|069)<|cT<|dZ<|069)
  <|aK (47.8 5<|iE f7 777. (20.7)<|cD _)
  <|aK (47.8 6<|044 yC hr T.gbk T.Fbk.kp T.Bbk<|dG (76.5 (ke<|pv 1)<|ke<|pv 3)<|33.7 4 5)
  <|aK (47.8 7<|kn (229. (751. 6) bZ) (cT<|000 6)<|cT hU)
  <|3.1 (eQ rF (eQ rF (76.5 vQ<|ke<|pv 1)<|pv 7)<|76.5 (ke<|pv 3) vQ)
  <|aO<|bJ<|cT<|dZ<|20.7)<| ?_)
 dsimp only[dO];have cj:=d.L3;have bl:=d.CP;have ck:=d.ok.nA;have cm:=d.CQ;have bo:07 st (.merge i n)=Vacoly.merges st i n:=rfl;rw[bo]at kq;have ag:(i<0\/n<1\/47. st.runs.length<i + n)->28.9:=fun hb l hl=>by
  have e:Vacoly.merges st i n=8e8 7:=by unfold Vacoly.merges;rw[aP hb]
  rw[e]at kq;have sm:=30.5 7 hl;exact 781. kq sm (928.<|574. sm) (mF hl) aJ
 refine(5.<|5.<|3e1<|606.);by_cases b1:i<0
 ·exact m7 b1<|dv (528. ag (97. b1))
 refine qj b1<|606.;by_cases b2:n<1
 ·exact m7 b2<|dv (528. ag (721. b2))
 refine qj b2<|5.<|299. dx ho;rw[eY];by_cases b3:469.<i + n
 ·exact m7 b3 (528. ag (152. (by rw[<-bl];exact b3)))
 rw[aX b3];let 2.5 g:=iT (21.:0<=i);let 2.5 k:=iT (21.:0<=n);have bp:g + k<=R.length:=21.
 refine dw<|5.<|13.2 dx ho<|67.4 t.sn d.core.sn;intros v hv
 have ah:=bC.put (o:=VV v t.sn) hv;have g1:8.7 v (VV v t.sn) v=7. (VV v t.sn):=aJ;generalize 8.7 v (VV v t.sn)=H1 at ah g1 ⊢;refine(0e8 v t.sn g1 (ah _ _ d.core.sn)<| ?_);intros l hl
 have ai:=ah.trans<|3.6 28.3 hl;have g2:379. H1 28.3 l=15. (50.8 (·.2)):=aJ;generalize 379. H1 28.3=H2 at ai g2 ⊢;refine(5.<|7.9 t.tb dx (ai _ _ ho) T.Caa T.nb4 qD nv<| ?_);intros l2 au
 have g3:32.7 l2=15. [752. st.last]:=aJ;have av:32.7 l=15. (50.8 (·.2)):=494. au g2;have aw:=ai.trans<|3.6 [625.] au;generalize 32.7=H3 at aw g3 av ⊢;have cn:(50.8 62.).length<=8:=by rw[aI,vp,aI];exact d.ok.Js
 let 28. m ep:=(981.:∃m,m=st.snaps.map 62.++[st.last]);have cp:m.length<=9:=by rw[ep,bE,aI];have:=d.ok.Js;show _ + 1<=9;cutsat
 have bq:50.8 62.++[546. st.last]=m.map vN:=by rw[ep,vp,bG,bQ,bQ];rfl
 refine(8.8 l l2 av g3 (by show _ + 1<=059;lia)<| ?_);intros pl br
 rw[bq];have Y:=aw.trans<|3.6 (m.map vN) br;have g4:90.1 pl (m.map vN) pl=73.8 m.map:=aJ;generalize 90.1 pl (m.map vN)=H4 at Y g4 ⊢;refine(5.<|5.<|15.5 Y<|240. t.rl _ (97. (554. Y)) rfl<| ?_);rw[eY];let 28. b eb:=(981.:∃b,b=decide (V.int (47. g + 47. k)=546. R.length));rw[<-eb];have bt:b=(st.runs.drop<|g + k).isEmpty:=by
  rw[eb,eB,List.isEmpty_iff,List.drop_eq_nil_iff,fZ];constructor
  ·intro q;injection q with q;lia
  intro q;congr 1;lia
 refine(5.<|15.5 Y<|5.<|5.<|5.<|5.<|67.4 t.rl (554. Y));intros q hq
 let 28. N a0:=(981.:∃N:zE,N=(R.drop g).take k);have a9:∀r∈N,r∈R:=fun r y=>xX<|jR<|a0▸y;have bu:R=R.take g++(N++R.drop (g + k)):=by rw[a0];exact oI R g k
 have a7:(flat N).Sublist (flat R):=by
  conv=>rhs;rw[bu,CU,CU]
  exact(sj ..).trans<|j2 ..
 have bw:(N.map fun r=>004)=(st.runs.drop g).take k:=by rw[a0,<-d.runs,oO,jh,m6]
 rw[L9 (jv R) (by rw[eY];exact bp),CS,CT,<-a0];have aj:=Y.trans<|3.6 (jv N) hq;have g5:43.4 q=008 jv N:=aJ;have ax:43.4 pl=73.8 m.map:=494. hq g4;generalize 43.4=H5 at aj g5 ax ⊢;have d5:=574. aj;have cq:0.3 flat N<=67.9:=a7.length_le;have ay:(2e6 flat N 68.4).Nodup:=by
  have h1:=d.ok.FO.nd;rw[<-d.runs]at h1;have e1:2e6 flat R 68.4=((oO R).flatten).map (·.seq):=by rw[oO,<-p9,bQ];rfl
  rw[<-e1]at h1;exact h1.sublist<|a7.map _
 refine(5.<|5.<|e89 q pl N m b 28.0 fs 13.7 rfl g5 (fun r y=>28. (d5.gO.runs r<|a9 r y).2.1 (d5.gO.runs r<|a9 r y).2.2) (fun p hp=>d.J6 p<|a7.subset hp) ay 2.8 ?_ ax 2.8<|fun D G M H6 hp hs hM bx bz hD ak=>?_)
 ·rw[a0,cP,dX];lia
 have u:=aj.trans bz;have d6:=574. u;have c0: ¬ Own t D:=d5.core.AS hD;have c1:(G.map 62.).Perm ((st.runs.drop g).take k).flatten:=by rw[<-bw,<-p9];exact hp.map _
 have O:=Ju d.ok g k (b:=b) c1 hs ep;rw[<-hM,bt]at O;obtain⟨new,en⟩:∃new,new=M.map 62.:=981.;rw[<-en]at O;have em:Vacoly.merges st (g:Int) (k:Int)=({st with runs:=8.2},.number (74.4 8.2)):=by unfold Vacoly.merges;rw[aM 2.8,O];rfl
 have az:=d.ok.merge g k 2.8 2.8 O;rw[em]at kq;obtain⟨Z,a3⟩:∃Z,Z=661. new.isEmpty (D,M):=981.
 have c2:oO Z=661. new.isEmpty new:=by
  rw[a3];split
  ·rfl
  rw[en];rfl
 have cb:Z.length<=1:=by
  rw[a3];split
  ·exact bH _
  exact aU _
 have ap:=d6.core.apart;have c3:∀{Hx:Hp} {b:Addr},bC H6 Hx->084 Hx->084 H6:=fun sm h=>sm.free h;obtain⟨L,a8⟩:∃L,L=R.take g++(Z++R.drop (g + k)):=981.;have ao:oO L=8.2:=by
  rw[a8,oO,bG,bG,jh,m6]
  show(oO R).take g++(oO Z++(oO R).drop (g + k))=_
  rw[c2,d.runs]
 have cc:L.length=74.4 8.2:=by rw[<-ao,oO,aI]
 have cf:L.length<=20:=by rw[a8,bE,bE,cP,dX];lia
 have c4:∀r∈L,r∈R\/r=(D,M):=fun r y=>by
  rw[a8]at y;rcases bT.mp y with h|h
  ·exact 97. (jR h)
  rcases bT.mp h with h|h
  ·rw[a3]at h;split at h
   ·cases h
   exact 8.4 (cG.mp h)
  exact 97. (xX h)
 rw[<-ao,show 0.3 oO L=L.length from aI ..]at kq;rw[<-ao]at az;refine(5.<|3.3 D ak<|18.);rw[fF];have b0:new.length=M.length:=by rw[en,aI]
 suffices S:∀c H7,bC H6 H7->H7 c=008 jv Z->_ by
  by_cases h0:M.length=0
  ·refine qj (show ¬ 36.8 0 M.length by simp[*]) ⟨bH _,fun c hc=>S c _ (5.1 hc) ?_⟩;rw[aJ,a3,aP (by rw[List.isEmpty_iff];exact List.eq_nil_of_length_eq_zero 060)];rfl
  refine m7 (show 36.8 0 M.length by lia) (86. _ nv<|fun c hc=>S c _ (5.1 hc) ?_);rw[aJ,a3,aM (by rw[List.isEmpty_iff];intro z;rw[z]at b0;exact h0 b0.symm)];rfl
 intro c H7 b4 hc;have aa:=u.trans b4;refine(5.<|15.5 aa<|5.<|5.<|25. t.rl (554. aa)<|63. q1 b5);rw[CJ (jv R) (by rw[eY];lia),CT];have b6:=b4.trans<|3.6 (jv<|R.take g) b5;have g8:710. q1=15. (jv<|R.take g):=aJ;have b7:710. c=008 jv Z:=494. b5 hc;generalize 710.=H8 at b6 g8 b7 ⊢;refine(5.<|8.8 q1 c g8 b7 (by rw[eY,eY,cP];show _<=059;lia)<|63. q2 c5);rw[AV];have aq:=b6.trans<|3.6 726. c5;have g9:upd H8 q2 (1e6 726.) q2=15. 726.:=aJ;generalize upd H8 q2 (1e6 726.)=H9 at aq g9 ⊢;have ab:=u.trans aq;refine(5.<|15.5 ab<|5.<|5.<|25. t.rl (554. ab)<|63. q3 b8);rw[Ka (jv R) (by rw[eY];lia),CS];have a4:=aq.trans<|3.6 68.8 b8;have b9:508. q3=15. 68.8:=aJ;have ae:508. q2=15. 726.:=494. b8 g9;generalize 508.=ba at a4 b9 ae ⊢;refine(8.8 q2 q3 ae b9 (by rw[eY,eY,bE,cP,dX];show _<=059;lia)<|63. f hf);rw[AV,cY,<-a8];have bb:095 H6 f:=a4.free hf;have U:=a4.trans<|3.6 (jv L) hf;have bc:upd ba f (1e6 (jv L)) f=008 jv L:=aJ;generalize upd ba f (1e6 (jv L))=bf at U bc ⊢;have bg:=d6.same U;have bh: ¬ Own t f:=d6.core.AS bb;have c6:f≠t.tb:=479. bh;have c7:f≠t.fl:=fun z=>bh<|z▸xF;refine(5.<|954. dx ((u.trans U) _ _ ho) T.nam (98. 7)<| ?_);rw[F4];obtain⟨C,a5⟩:∃C,C=upd bf t.tb (7.7 dx<|nO rv (02 kl) (02 t.fl) 780. (625.) (02 t.sn)<|438.):=981.;rw[<-a5];have B:∀b o,60. bf->462.->60. C:=fun b o h n1=>by rw[a5,aS n1];exact h
 have af:C t.tb=7. (7.7 dx<|nO rv (.ref kl) (.ref t.fl) 727. (625.) 82.3<|438.):=by rw[a5];exact aJ
 have a6:=B _ _ bc c6;refine(5.<|6e1 dx af<|124. f a6 nv<|63. l' bj);rw[eY];have I:bC C 94.6:=5.1 bj;have fr:11.9 88.8 H6 C:=⟨rfl,fun b hb=>by
  rcases hb with z|z|z|z
  ·exact 402. z
  ·exact 12.5 (.inl z)
  ·exact 8.4 (z▸bb)
  exact 97. (152. (.inr z)),fun b o h n=>B b o (U _ _ h) (479. n),rfl⟩
 have J:11.9 88.8 H6 94.6:=fr.trans<|7e2 I;have j:=d6.gO.frame d6.core J;have bk:jd 88.8 D:=J.CO ak<|d5.core.Oc hD;refine kq l' 88.8 _ (25.2 u J) (e40 rv kl F L<|⟨⟨⟨dx,I _ _ af⟩,I _ _<|B _ _ bg.core.fl ap.1,I _ _ a6,I _ _<|B _ _ bg.core.sn ap.2.2.1,eC c7,d6.core.J2 J⟩,⟨j.kind,j.cols,j.ents,63. r y ⟩,d.fresh,rfl,az⟩) ((25.2 u fr).J7 bj) ?_
 ·rcases c4 r y with h|rfl
  ·exact j.runs r h
  refine⟨bk,J.keep _ _ ak c0,63. p hp ⟩;obtain⟨r',ar,c8⟩:∃r'∈R,p∈r'.2:=by have 25.7 c9:=iR.mp<|a7.subset<|bx p hp;have 33. r' ar:=92.2 hx;exact(e11 r' ar<|c9)
  exact(j.runs r' ar).2.2 p c8
 exact aJ
theorem tL{l:Ends->TS}{ts:TS}(f:668.)(g:400.)(h:X.ex=[])
 (m:92.8) (n:23.3 C) (q:GG X.K C) (hs:∀pl e,Dg ((X.Dh pl).HQ e) (i::b) ts)
 (o:∀(pl:Sn) (D:Ends),Passes (29. t6 C) (860. (8e7 j (i::b) c)) (85.2)->Dg (860. (8e7 j (i::b) c)) d (l D))
 (p:75.:=by decide):PS X (.Try d [8e7 j (i::b) c] [] [] k) (fun D r H=>l D D r H):=
 Nv (ts:=ts) f g h fun pl D=>o pl D<|DI (env:=X.env) (outer:=[]) (X:=X.Dh pl) f g h m n q (hs pl) p
theorem tM{K:aA}(d:X.K=K)(g:087 e c)(h:202. f):087 (444. e f b) (vw K c f):=by subst d;exact bA g h
mutual
theorem Hz:(k:Vacola.Kind)->(n:Nat)->WK n k->∀x∈jj k,mO x.leaf
 | 407.,n,h,x,b=>by grind[WK,jj]
 | 99.8,n,h,x,b=>by rw[WK]at h;rw[jj]at b;exact uR fs c _ h.2.2.2 x b
theorem uR:(fs:Fields)->(c:Bool)->(n:Nat)->WF n c fs->∀x∈iA fs c,mO x.leaf
 | .nil,c,n,h,x,b=>by grind[iA]
 | 9e6 hd k r,c,n,h,x,b=>by
  rw[WF]at h;rw[iA]at b;rcases bT.mp b with b|b
  ·have 39.3 y e:=92.2 b;rw[<-e];exact Hz k n h.2.2.2.1 y d
  exact uR r c n h.2.2.2.2 x b
end
theorem xK(e:78.1)(h:kj fs d):∀c∈AR fs d,mO c.1:=fun c f=>by have 33. x g:=92.2 f;have b:=((my h.2.2.2).2.1 x g).2;rw[WK]at e;exact 935. uR _ e.2.2.2 x b
theorem tN(h:kj fs b):(AR fs b).length<=3:=by rw[(jo h).2];exact h.2.1
theorem Qc(t:aG):t.map vN=2e6 t.map (fun x:Nat=>47. x) V.int:=by rw[bQ];rfl
theorem v3(t:aG):tx (t.map (fun x:Nat=>47. x)) 0=t:=by unfold tx;rw[List.drop_zero,bQ];exact(de fun x _=>dY x).trans<|List.map_id' _
theorem Out.same(o:718. s d b)(e:bC H c):Out aL t c Q s fs d b:=fun l t' H' f g i j=>o l t' H' (25.2 e f) g (fun k h=>i k<|e _ _ h) j
theorem Out.back(o:718. s g h)(i:bC H f)(d:TabAt aL f t s fs g)(j:095 f l)(e:b=080 h.map):9.3 l (379. f b):=by have 170. k m:=d;have c:=3.6 b j;exact o l t _ (Frame.same<|i.trans c) (055 k m<|574. c) (mF<|i.free j)<|by rw[aJ,e]
def Ma(bF:aA)(aL:Ad):Sp:=fun vs H Q _=>∃t s fs ci nl b,428. t.tb nl/\0.4/\H nl=425. b.map/\436./\4e9 (.drop b) (.drop b)
theorem yI(T:19.):01 8 aL.fbR aL.dbR 650. (0e4 Ma):=by
 refine 4. T.FbR SbR
 intros _ _ _ _ _ _ _ _ z y1_;let⟨t,st,fs,ci,nl,g,rfl,z2_,p,q,n⟩:=y1_;let 170. B o:=z2_;(try clear z2_);have I:=SbR.nd;obtain⟨L,M⟩:=d.core.obj;refine(1.2 (aK (858. T.gcH 
  fun pl D ps=>by exact aO<|gM 2 I<|113. z<|gG 79.<|363.)
  <|aO<|bJ<|6e5 T.mbH qb z T.BbH<|gG 010 HW)<| ?_)
 dsimp only[dO];have⟨xs,N,r,O⟩:=d.gO.cols;have b:=d.ok.kc;have j:=jo b;refine(5.<|5.<|45.0 L M<|815. o g (72.1 p) q r O (15.3 b) (xK d.ok.wf b) (fun key S U f m V u=>?_)<|fun f U m=>259. Y)
 ·rw[j.1,jL]at f;have c:07 st (.drop g)=545. key none:=by
   show 8.3 g (fun k=>545. k none)=_
   simp[Vacoly.withKey,f]
  rw[c]at n;have C:=574. m;obtain⟨x,y⟩:=C.core.obj;refine(5.<|042 x y<|5.<|153. e86 S .gm key none rfl (055 B o<|C) u rfl (oJ f) (fun v h=>nomatch h)<|n.same m)
 rw[j.1,jL]at f;have c:07 st (.drop g)=8e8 8:=by
  show 8.3 g (fun k=>545. k none)=_
  simp[Vacoly.withKey,f]
 rw[c]at n;exact n.back m (055 B o<|574. m) Y rfl
def Of(bF:aA)(aL:Ad):Sp:=fun vs H Q _=>∃t s fs ci nl tt,428. t.tb nl/\0.4/\jd t nl/\H nl=73.8 tt.map/\4e9 (.put tt) (.put tt)
theorem AW(T:19.):01 31 aL.fbQ aL.dbQ (021 "text") (0e4 Of):=by
 refine 4. T.FbQ SbQ
 intros _ _ _ _ _ _ _ _ y y1_;let⟨t,st,fs,ci,nl,tt,rfl,z2_,C,p,x⟩:=y1_;let 170. z B:=z2_;(try clear z2_);have V:=SbQ.nd;obtain⟨Z,ho⟩:=d.core.obj;refine(1.2 (aK (858. T.gcR 
  fun pl D ps=>by exact aO<|gM 2 V<|nT (B9 T) y 90. T.gby T.Fby.kp T.Bby .nil ps<|gG 79.<|363.)
  <|aO<|bJ<|6e5 T.mbH qb y T.BbH<|gG (044 G3 y T.ga9 T.Fa9.kp T.Ba9<|gG 010<|069)<|pv 1)<| ?_)
 dsimp only[dO];have⟨xs,a0,G,hC⟩:=d.gO.cols;have f:=d.ok.kc;have I:=jo f;refine(5.<|5.<|56. Z ho T.ncv uQ<|e55 nl _ z fs 28.0 rfl (cX.of<|by rw[p,Qc]) d.gO.kind d.ok.wf ?_<|fun m H1 g=>31.8 nv)
 ·intros val v H1 m g J;rw[v3]at m;have⟨r1,r2,r3,O⟩:=Jv d.ok.wf m;have j:07 st (.put tt)=545. 95.3 (7. val):=by
   show 725.
   rw[r1]
  rw[j]at x;have S:=574. g;obtain⟨r,u⟩:=S.core.obj;obtain⟨k1,k2⟩:=uv d.ok.wf O f.2.2.2;refine(5.<|042 r u<|5.<|5.<|45.0 r u<|e97 v B xs (AR fs ci) 0e6 val 95.3 _ 28.0 rfl (g _ _ G) (hC.of (572. g)) J (15.3 f) (by rw[I.2];exact k1) ?_<|fun kt H2 k a3 L=>?_)
  ·intro i c l hc N;unfold AR at hc;grind
  refine(5.<|153. e86 kt (02 nl) _ (7. val) rfl (055 z B<|S.same k) L (44.7 nl C) (G8 d.ok.wf f O) (63. v h)<|x.same<|64.2 k)
  ·rw[r2];exact k _ _<|g _ _ p
  simp_all
 intros l N;rw[v3]at m;have j:07 st (.put tt)=8e8 1:=by
  show 725.
  cases q:Vacolb.readRow fs tt with
  |error _=>rfl
  |ok v=>
   have M:II false fs:=by have:=WK.wf _ _ d.ok.wf;rw[Nr]at this;exact this
   rw[(Fw M tt v).mpr q]at m;cases m
 rw[j]at x;exact x.back g (055 z B<|574. g) N rfl
#check SR
namespace SR
open PySem PySem.Spec PyProof.Rows L2
open Vacola (Leaf Lit Mode Head Fields fits)
open Vacolb (Val showRow)
open Vacoly (newest seek)
open VacolyNeutral (encode)
theorem r8(h:7e1 l=7. e):e∈l:=by have:=jt l k p;simp_all
theorem CV(k:Vacoly.Key)(p:Nat):∀(runs:9.7 aE) (st:Nat × 74. aE) (e:aE),(62.4 st).2=7. e->st.2=7. e\/e∈runs.flatten
 | [],st,e,h=> 97. h
 |r::runs,st,e,h=>by
  rw[fy]at h;rw[List.flatten_cons];rcases CV k p runs _ e h with q|q
  ·unfold fJ at q;split at q
   ·exact 8.4 (ik _<|r8 q)
   exact 97. q
  simp[*]
theorem Mb(h:995. b)(c:l=s.fresh.reverse)(k:Vacoly.Key)(p):
 Vacoly.gets s fs k p= .got (84.1).1 ((84.1).2.bind fun e=>e.row.map (024)):=by
 have e:7e1 l=7e1 s.fresh:=(tp h.FN (fun e _=>by rw[c,mX]) p).symm;grind[Vacoly.gets,uD,Ax]
theorem o9.CW(d:o9 aL H t s fs b c e F R)(h:r∈R):53.2 200 (vn fs b):=by
 have f:004 ∈s.runs:=by rw[<-d.runs];exact 9e0 r h
 refine⟨fun z=>(d.ok.runs _ f).1 060,?_,fun p g=>d.J6 p<|JU h g⟩;have i:=d.CQ;have j:208.<=67.9:=by have:r.2.Sublist (flat R):=List.sublist_flatten_of_mem<|9e0 r h;grind
 lia
def Og(bF:aA)(aL:Ad):Sp:=fun vs H Q _=>∃t s fs ci z nl b,vs=[02 t.tb,59. z,02 nl]/\0.4/\H nl=425. b.map/\436./\4e9 (.get z b) (.get z b)
theorem AX(T:19.):01 8 aL.fbV aL.dbV 21.6 (0e4 Og):=by
 refine 4. T.FbV SbV
 intros _ _ _ _ _ _ _ _ S y1_;let⟨t,st,fs,ci,z,nl,Y,rfl,z2_,a5,a6,b⟩:=y1_;let 170. L B:=z2_;(try clear z2_);have nd:=SbV.nd;rcases d.core.obj with⟨dx,ho⟩;refine(1.2 (10.8 (iX<|dJ<|6e5 T.mbI mG S T.BbI<|000 1) T.gcE
  <|aK (161. (by intros pl e;exact 1e9 T.gcH)
   <|by intros pl D ps;exact aO<|47.8 3<|113. S<|gG 010<|363.)
  <|aK (47.8 4<|044 yE S T.gbq T.Fbq.kp T.Bbq<|dG (069)<|dG (069)<|gG 777.<|6e5 T.mbJ l5 S T.BbJ<|000 1)
  <|aK (cR (pf (t7<|wb<|13. 4)<|nR<|dJ<|365. (13. 4) S).pt (aO<|bJ<|cT<|gG (13. 4) bZ) bS)
  <|aO<|bJ<|eQ rF (cT<|gG (13. 4) bZ)<|982. S<|dZ<|bA (13. 4) rfl)<| ?_)
 dsimp only[dO];let⟨xs,ai,a7,hC⟩:=d.gO.cols;have M:=d.ok.kc;have Z:=jo M;have a8:07 st (.get z Y)=(match 401. st with
  |none=>8e8 3
  |7. p=>8.3 Y 582.):=rfl
 rw[a8]at b;refine(5.<|042 dx ho<|5.<|153. e52 z rfl (055 L B<|d)<|48.)
 match hp:401. st with
 |none=>
  rw[hp]at b;refine dv ⟨nv,?_⟩;intros l u
  exact b.back (542.) (055 L B<|d) u rfl
 |7. p=>
  rw[hp]at b;simp only at b;refine dw ?_;refine(5.<|5.<|45.0 dx ho<|815. B Y (72.1 a5) a6 a7 hC (15.3 M) (xK d.ok.wf M) ?_<|fun U H1 sm=>31.8 nv)
  ·intros key kt H1 U sm aj a9;rw[Z.1,jL]at U;have e2:8.3 Y (582.)=(st,Vacoly.gets st fs key p):=91.8
   rw[e2]at b;have C:=574. sm;rcases C.core.obj with⟨N,O⟩;have hR:∀r∈R,H1 r.1=32.4 r.2/\fV aL 28.0 H1 fs r.2/\53.2 900 13.7:=by
    intros r a0
    have q1:=C.gO.runs r a0;have q2:=C.CW a0;exact⟨q1.2.1,q1.2.2,q2.1,21.,q2.2.2⟩
   have ak:=d.CQ;have ao:=d.CP;have aq:=d.ok.nA;refine(5.<|44.9 N O<|5.<|6e1 N O<|5.<|5.<|042 N O<|5.<|153. e63 z p rfl (055 L B<|C) hp<|eaa t.fl t.rl kt F R key p 28.0 fs 13.7 rfl C.core.fl C.core.rl hR C.gO.ents 2.8 C.J4 a9 (oJ U) 2.8<| ?_);intros x m v H2 aa ar G I
   have er:(9e1 62.)=st.runs:=d.runs;rw[er]at G I;have ab:=Mb d.ok d.fresh key p;rw[ab]at b;have J:=CV key p st.runs (0,newest 2e0 key p);generalize st.runs.foldl (fJ key p) (0,newest 2e0 key p)=g at G I b J;have f:=sm.trans aa;refine(5.<|60.7 G<| ?_)
   match hg:g.2 with
   |none=>
    rw[hg]at I b;have I:v= .gm:=I;subst I;refine(5.<|dv<|dv<|468.);intros l u
    exact 818. f f u rfl
   |7. e=>
    rw[hg]at I b;let 69. y he:=I;let⟨dy,ky,ry,n1,n2,n3,n4⟩:=id he;refine(5.<|dw<|5.<|60.7 G<|0e8 y dy n2 13.9<|e42 y e 28.0 fs rfl he<|48.)
    match j:e.row with
    |none=>
     rw[show(35.5)=none by show 095 e.row.map _;rw[j];rfl]at b;refine dv<|468.;intros l u
     exact 818. f f u rfl
    |7. val=>
     rw[show(35.5)=7. (024 val)by show e.row.map _=_;rw[j];rfl]at b;rw[j]at n4;let⟨rl,rfl,au,ae⟩:=n4;have ag:(024 val).length<=4000:=by
      refine(d.ok.ent e ?_).row val j;rcases J e hg with q|q
      ·refine ik _ ?_;have:=r8 q;rw[d.fresh]at this;exact mX.mp this
      exact dm _ q
     refine dw<|468.;intros l u
     have n:=3.6 [34. g.1,59. 1] u;have g3:379. H2 [34. g.1,59. 1] l=15. [752. g.1,.int 1]:=aJ;generalize 379. H2 [34. g.1,59. 1]=H3 at n g3 ⊢;refine(5.<|60.7 (n _ _ G)<|06 y dy (n _ _ n2) T.Cai T.ncz Az<|240. rl _ (n _ _ ae) 648.<| ?_);intros c H4 a3 av hc
     refine(8.8 l c (a3 _ _ g3) hc (by simp only[aZ,ia,aI];show _<=059;lia)<| ?_);intros l' af
     have a4:=f.trans<|n.trans a3;refine 818. a4 a4 af ?_
     show _=57.1 (47. g.1::1::47. (024 val).length::(024 val).map fun(x:Nat)=>47. x)
     rw[bD,bD,bD,aI,<-Qc];rfl
  intros l u;rw[Z.1,jL]at U;have e2:8.3 Y (582.)=8e8 8:=91.8
  rw[e2]at b;exact 818. sm sm u rfl
#check SR
namespace SR
section
open Vacola Vacolb Vacoly
theorem qc(d:a.length=n)(e:b.length=n)(f:c.length=n)(g:951. b a)(i:951. c b):951. c a:=by
 cases q:5e7 c a with
 |false=>rfl
 |true=>
  rcases jc (a:=a) (b:=b) (d.trans e.symm)with h|h|h
  ·grind[jb]
  ·grind
  grind
theorem tO(k:Key):∀l:21.0,(enterKey k l).length<=l.length + 1
 | []=>aU _
 |j::r=>by
  rw[enterKey];split
  ·exact aU _
  split
  ·exact 86.5
  rw[aZ,aZ];have:=tO k r;cutsat
theorem tP:∀l:21.0,58.5 (l.foldr enterKey []).length
 | []=>aU _
 |x::l=>by
  rw[List.foldr_cons,aZ];have a:=tO x<|l.foldr enterKey [];have b:=tP l
  lia
theorem E6(l)(lo hi:Key):58.5 (33.4 l).length:=by have a:=tP<|(l.map fun e=>e.key).filter fun k=> ! 5e7 k lo&& ! 5e7 hi k;grind[keysIn]
theorem zG(h:199. a b):951. b.key a.key:=by
 rw[iN]at h;rcases h with h|⟨h,_⟩
 ·exact qY h
 rw[h,eA]
theorem HA{n:Nat}{r:32.2}{lo hi:Key}(g:∀e∈r,e.key.length=n)(hs:yl r)(hlo:lo.length=n)(hhi:hi.length=n){e:aE}(he:e∈r)(hk:130. e.key):meets r lo hi=true:=by
 unfold inR at hk;rw[bI,jw,jw]at hk;obtain⟨k1,k2⟩:=hk;have hen:=g e he;cases r with
 |nil=>cases he
 |cons a r=>
  have ha:951. e.key a.key:=by
   rcases 819. he with rfl|h
   ·exact eA _
   exact zG<|(dq.mp hs).1 e h
  have hne:a::r≠[]:=389.
  obtain⟨z,hz⟩:∃z,z=(a::r).getLast hne:=981.;have hzl:(a::r).getLast? =7. z:=by rw[List.getLast?_eq_some_getLast hne,hz]
  have hzm:z∈a::r:=by rw[hz];exact List.getLast_mem hne
  have hez:951. z.key e.key:=by
   have hd:(a::r).dropLast++[z]=a::r:=by rw[hz];exact List.dropLast_concat_getLast hne
   rw[<-hd]at he hs;rcases bT.mp he with h|h
   ·exact zG<|(List.pairwise_append.mp hs).2.2 e h z<|cG.mpr rfl
   rw[cG.mp h];exact eA _
  unfold meets;rw[hzl];have q1:951. hi a.key:=qc (g a bM) hen hhi ha k2;have q2:951. z.key lo:=qc hlo hen (g z hzm) k1 hez;have q3:951. hi lo:=qc hlo hen hhi k1 k2;simp[q1,q2,q3]
theorem HB(h:995. b)(g:l=s.fresh.reverse++(s.runs.filter fun r=>meets r lo hi).flatten)(c:gi (vn fs b) lo)(d:gi (vn fs b) hi)(hs:qJ ks)
 (i:29.0):29.5 (7e1 l).bind=938.:=by
 refine Lu h.good (63. e j) hs i _;rw[g];unfold State.entries;rw[bT,bT,mX];refine or_congr x4 ?_;rw[iR,iR];constructor
 ·rintro y1_;have⟨r,f,a⟩:=y1_;refine(e11 r (da.mpr ⟨f,?_⟩)<|a);exact HA (fun x m=>h.FO.len x<|iR.mpr<|e11 r f<|m) (h.runs r f).2 c.1 d.1 a j
 grind
theorem HC(h:995. a)(lo hi)(p):74.4 938.<=200/\∀t∈ 938.,429. 4000:=by
 constructor
 ·have d:=E6 s.entries lo hi;have f:=h.cnt;have g:74.4 938.<=(33.4 s.entries).length:=List.length_filterMap_le ..
  lia
 intro t b;have⟨k,i,e⟩:=kM.mp b;cases q:7e1 s.entries with
 |none=>simp_all
 |some x=>rw[q]at e;have e:x.row.map (024)=7. t:=e;have 33. v c:=bW.mp e;exact(h.ent x<|r8 q).row v c
#check 0
open PySem PySem.Spec PyProof.Rows L2
open Vacola (Leaf Lit Mode Head Fields fits)
open Vacolb (Val showRow)
open Vacoly (newest seek)
open VacolyNeutral (encode)
theorem Mc(xs)(n:Nat):97.5:=by grind[pj,HT.wg,HT.sA]
theorem CY(h:R.Sublist S):(flat R).Sublist (flat S):=by
 induction h with
 |slnil=>cutsat
 |cons r _ b=>exact b.trans<|j2 r.2 _
 |cons_cons r _ b=>exact(jz r.2).append b
def xM(lo hi:830.)(R:zE):zE:=R.filter fun r=>698. (004) lo hi
theorem zH(lo hi)(R:zE):(xM lo hi R).map (fun r=>004)=(oO R).filter fun r=>698. r lo hi:=by unfold xM oO;rw[oR];rfl
def CZ(t:aG):05 V:=34. t.length::t.map vN
theorem F7(ts:05 aG):ts.flatMap CZ=2e6 ts.flatMap VacolyNeutral.row V.int:=by
 induction ts with
 |nil=>rfl
 |cons t ts b=>
  rw[eO,eO,bG,b];congr 1
  show _=V.int _::_
  rw[<-Qc];rfl
def Md(bF:aA)(aL:Ad):Sp:=fun vs H Q _=>∃t s fs ci z b nl e c d,vs=[02 t.tb,59. z,59. b,02 nl,02 e]/\0.4/\H nl=425. c.map/\54.3 10000/\H e=425. d.map/\d.length<=10000/\
 4e9 (.scan z b c d) (.scan z b c d)
theorem yJ(T:19.):01 8 aL.fbi aL.dbi 155. (0e4 Md):=by
 refine 4. T.Fbi Sbi
 intros _ _ _ s H _ _ _ hr y1_;let⟨t,st,fs,ci,z,O,nl,nh,ns,ms,rfl,z2_,bo,bp,bq,br,m⟩:=y1_;let 170. rv kl:=z2_;(try clear z2_)
 have nd:=Sbi.nd
 rcases d.core.obj with⟨dx,ho⟩
 refine(1.2 (aK (cR (iX (dJ (6e5 T.mbI mG hr T.BbI (dZ 79.)))) (48.7 T.gcE) bS)
  (aK (cR (cA m9 010 bZ (cD _)) (48.7 T.gdk) bS)
  (aK (161. (fun pl e=>by exact 48.7 T.gcH)
   (fun pl D ps=>by exact aK (47.8 5 (113. hr (gG 777. (363.)))) (aO (47.8 6 (113. hr (gG (pv 4) (363.)))))))
  (aK (wo (i:=7) (own:=[("run",8)]) (tt:=tB (yV (0e4 F3) [] E0 (lC (ji 8) (lC (ji 5) (lC (ji 6) qG))))) (te:=ji 8) rfl nd rfl rfl (784. zY rfl) (fq (069)) (ib (73. Nbi sbi)) (196. 8 nd)
   (fun s H C cl fp=>by exact sE (dJ (044 CL hr T.ga1 T.Fa1.kp T.Ba1 (dG (pv 8) (gG 94.7 (pv 6))))))
   (fun s H C cl fp=>by exact pv 8))
  (aK (47.8 9 (iu sC 90. T.bcQ PyProof.Rows.boot_list (dZ (069))))
  (aK (53.5 7 8 (aO (dg (307. 9 (dZ (pv 8))))))
  (aK (47.8 10 (lD nU (044 vF hr T.ga2 T.Fa2.kp T.Ba2 (dG (pv 9) (dG 94.7 (gG (pv 6) (6e5 T.mbJ l5 hr T.BbJ (dZ 79.)))))) vQ (ke 010)))
  (aK (47.8 11 (cT (gG (1e2 (pv 7)) (1e2 (pv 10)))))
  (aK (53.5 10 12 (aO (dg (307. 11 (dZ (982. hr (dZ (pv 12))))))))
  (aO (bJ (pv 11))))))))))))<| ?_)
 dsimp only[dO]
 have⟨xs,cn,b3,hC⟩:=d.gO.cols
 have a0:=d.ok.kc
 have a8:=jo a0
 have⟨lf,ls,aq⟩:=J3 a0
 have bt:07 st (.scan z O ns ms)=(match 401. st with
  |none=>8e8 3
  |7. p=>if O<0 then 8e8 4 else 8.3 ns fun x=>8.3 ms fun y=>
   (st,.texts (191. x y).length ((Vacoly.rowsIn st fs x y p).take O.toNat))):=rfl
 rw[bt]at m
 refine(5.<|0e8 t.tb dx ho (nG (09))<|5.<|153. e52 z rfl (928.<|d)<|48.)
 match hp:401. st with
 |none=>
  rw[hp]at m
  refine dv 652.
  exact 42.9 m.back
 |7. p=>
  rw[hp]at m
  simp only at m
  refine dw (606.)
  by_cases I:O<0
  ·rw[decide_eq_true I]
   rw[if_pos I]at m
   refine dv 652.
   exact 42.9 m.back
  rw[decide_eq_false I]
  rw[if_neg I]at m
  have b4:(AR fs ci).length≤1000:=15.3 a0
  refine dw (5.<|5.<|45.0 dx ho<|815. kl ns (72.1 bo) bp b3 hC b4 (xK d.ok.wf a0) (fun g lo H1 hm S cc bu=> ?_)<|fun hm H1 f=>652.)
  rotate_left
  ·rw[a8.1,jL]at hm
   unfold Vacoly.withKey at m
   rw[hm]at m
   exact 90.7
  rw[a8.1,jL]at hm
  rw[Vacoly.withKey,hm]at m
  simp only at m
  have ar:=oJ hm
  refine(5.<|5.<|45.0 dx (S _ _ ho)<|e68 nh kl ms xs (AR fs ci) 28.0 rfl (72.1 (S _ _ bq)) br (S _ _ b3) (hC.of (572. S)) b4 (xK d.ok.wf a0) (fun j hi H2 U a9 cf b5=> ?_)<|fun U H2 a9=>652.)
  rotate_left
  ·rw[a8.1,jL]at U
   rw[Vacoly.withKey,U]at m
   have f:=S.trans a9
   exact 90.7
  rw[a8.1,jL]at U
  rw[Vacoly.withKey,U]at m
  simp only at m
  have au:=oJ U
  have J:=S.trans a9
  have ah:=bu.fg (399. a9)
  have d2:=574. J
  have cp:=d.CQ
  have cq:=d.CP
  have ct:=d.ok.nA
  have av:=J _ _ ho
  refine(5.<|6e1 dx av<|6e7 t.rl d2.core.rl<|fun D hD=> ?_)
  refine kg (xs:=jv R) (fun i H'=>H' D=008 jv (xM g j (R.take i))∧bC H2 H') (61.5 hD) ?_ ?_ ?_
  ·rintro i H' hi y1_;have 073 f:=y1_;(try clear y1_)
   exact 72.1 (873. d2.core.rl)
  ·rintro i x H' Y y1_;have 28. q1 f:=y1_;(try clear y1_)
   unfold jv at Y
   rw[List.getElem?_map]at Y
   have 33. r k:=879.
   have G:=913. k
   have bw:i<R.length:=69.4
   have d3:=d2.same f
   have q2:=d3.gO.runs r G
   have q3:=d3.CW G
   have B:=take_succ_filter (q:=fun r:Addr ×lS=>698. (004) g j) k
   refine⟨rfl,5.<|5.<|5.<|e99 r.1 lo hi r.2 g j 28.0 fs 13.7 rfl q2.2.1 q3.1 q2.2.2 (ah.fg (399. f)) (b5.fg (399. f)) q3.2.2 ar au<|48. ⟩
   cases hc:698. (004) g j with
   |true=>
    refine dv (5.<|e13 _ q1 (by rw[eY];have:(xM g j (R.take i)).length≤ 0.3 R.take i:=List.length_filter_le ..;rw[List.length_take]at this;show _<059;grind) ?_<|fun b o z=>by rw[aS (aV z hD)];exact 873. z)
    rw[aJ]
    unfold xM
    rw[B,hc,if_pos rfl,←AV]
    rfl
   |false=>
    refine dw ⟨?_,f⟩
    unfold xM
    rw[B,hc,if_neg (08),List.append_nil]
    exact q1
  rintro H3 y1_;obtain⟨q1,aw⟩:=y1_
  rw[eY,List.take_length]at q1
  obtain⟨Z,aa⟩:∃Z,Z=xM g j R:=981.
  rw[←aa]at q1
  have L:Z.Sublist R:=by rw[aa];exact List.filter_sublist
  have cg:=L.length_le
  have d3:=d2.same aw
  have bx:=aw _ _ av
  refine(5.<|44.9 dx bx<|3.3 t.fl d3.core.fl<|fun el ax=> ?_)
  have cu:0.3 flat Z ≤ 67.9:=by
   exact(CY L).length_le
  have b6:095 H3 el:=ax
  have bz:90.1 el (rf F) D=008 jv Z:=494. ax q1
  refine(5.<|6e7 D bz<|91.3 jv Z (fun i σ H'=>∃a3,σ=[72. t.tb,7. (59. z),7. (59. O),72. nl,72. nh,72. lo,72. hi,72. D,a3,72. el,none,none,none]∧bC H3 H'∧H' el=32.4 (F++flat (Z.take i)))
   (44.7 none (5.1 ax)) ?_ ?_ ?_)
  ·rw[aJ,List.take_zero]
   show 7. (HO.lst (rf F))=7. (HO.lst (rf (F++[])))
   rw[List.append_nil]
  ·rintro i σ H' hi y1_;have 70.7 a3 _:=y1_
   exact 72.1 (873. q1)
  ·rintro i x σ H' Y y1_;have 70.7 a3 a4:=y1_
   unfold jv at Y
   rw[List.getElem?_map]at Y
   have 33. r k:=879.
   have G:=913. k
   have b7:r∈R:=L.subset G
   have q2:=(d3.same f).gO.runs r b7
   have q3:=(d3.same f).CW b7
   have cv:=zF (R:=Z) i
   refine(51. a4<|5.<|8.8 el r.1 a4 q2.2.1 (by rw[fF,fF,List.length_append];show _≤ 059;lia)<|e12 (72. r.1) rfl (fun b o zz=> ?_)<| ?_)
   ·rw[aS (aV zz b6)];exact 873. zz
   ·rw[aJ,←p5,uM k,List.append_assoc]
  rintro σ H4 y1_;have⟨a3,rfl,ay,a5⟩:=y1_
  rw[eY,List.take_length]at a5
  have d4:=d3.same ay
  obtain⟨AL,ab⟩:∃AL,AL=F++flat Z:=981.
  rw[←ab]at a5
  have M:=aw.trans ay
  have c0:=M _ _ av
  have ai:∀p∈AL,p∈F∨ 71.5:=fun p hp=>by
   rw[ab]at hp
   rcases List.mem_append.mp hp with h|h
   ·exact 97. h
   ·exact 8.4 ((CY L).subset h)
  have b8:fV aL 28.0 H4 fs AL:=fun p hp=>by
   rcases ai p hp with h|h
   ·exact d4.gO.ents p h
   ·have⟨x,Y,c1⟩:=List.mem_flatten.mp h
    have 33. r' c2:=List.mem_map.mp Y
    exact(d4.gO.runs r' c2).2.2 p c1
  have b9:jM (lf::ls) AL:=fun p hp=>by
   rw[←aq]
   rcases ai p hp with h|h
   ·exact d.J4 p h
   ·exact d.J6 p h
  have cj:AL.length≤200:=by rw[ab,List.length_append];lia
  have ae:AL.map 62.=st.fresh.reverse++(191. g j).flatten:=by
   rw[ab,List.map_append,d.fresh,p9,aa,zH,d.runs]
  refine(5.<|5.<|5.<|5.<|0e8 t.tb dx c0 (nG (09))<|5.<|153. e63 z p rfl (928.<|d4) hp<|eb9 el lo hi AL g j p 28.0 fs lf ls rfl a5 2.8 b8 (ah.fg (399. M)) (b5.fg (399. M)) b9 (by rw[←aq];exact ar) (by rw[←aq];exact au)<|fun D5 rs ks H5 c3 c4 c5 c6 az cw ba=> ?_)
  have a6:=HB d.ok ae ar au c3 c4
  rw[←c5]at a6
  obtain⟨b1,b2⟩:=HC d.ok g j p
  rw[←a6]at m b1 b2
  rw[List.length_map]at b1
  let 2.5 n0:=Int.eq_ofNat_of_zero_le (21.:0≤O)
  refine(5.<|5.<|25. D5 (72.1 ba)<|fun D6 c7=> ?_)
  rw[Mc,←List.map_take]
  obtain⟨u,af⟩:∃u,u=rs.take n0:=981.
  rw[←af]
  rw[Int.toNat_natCast,←List.map_take,←af]at m
  have aj:∀r∈u,r∈rs:=fun r a7=>List.mem_of_mem_take (af▸a7)
  have ck:u.length≤200:=by rw[af,List.length_take];lia
  have bb:∀r∈u,208. ≤4000:=fun r a7=>b2 r.2 (List.mem_map.mpr (26.4 r (aj r a7)))
  have bc:=M.trans az
  have ag:=bC.put (o:= 1e6 (u.map 014)) c7
  have g6:upd H5 D6 (1e6 (u.map 014)) D6=15. (u.map 014):=aJ
  generalize upd H5 D6 (1e6 (u.map 014))=H6 at ag g6 ⊢
  have ak:=bc.trans ag
  have c8:=(ay.trans (az.trans ag)) _ _ q1
  refine(5.<|3.3 D c8<|5.<|124. D6 g6 HR<|fun al b0=> ?_)
  rw[eY,List.length_map]
  have bf:∀r∈u,H6 r.1=73.8 r.2.map:=fun r a7=>(az.trans ag) _ _ (c6 r (aj r a7)).2
  have bg:=bC.put (o:= 1e6 [34. Z.length,34. u.length]) b0
  refine(5.<|6e7 D6 (bg _ _ g6)<|91.3 u.map 014 (fun i σ H'=>∃N,σ=[72. t.tb,7. (59. z),7. (34. n0),72. nl,72. nh,72. lo,72. hi,72. D,a3,72. el,72. D6,72. al,N]∧bC H6 H'∧(35.2 62.).length≤i * 4001∧ 15.4 al (752. Z.length:: 752. u.length::35.2 (·.2)))
   (65.0 none bg (Nat.zero_le _)<|aJ) ?_ ?_ ?_)
  ·rintro i σ H' hi y1_;have 70.7 N _:=y1_
   exact 72.1 (873. g6)
  ·rintro i x σ H' Y y1_;have⟨N,rfl,f,bh,a4⟩:=y1_
   rw[List.getElem?_map]at Y
   have 33. r k:=879.
   have G:=913. k
   have bw:i<u.length:=69.4
   have cx:=bb r G
   have B:454. (u.take 8.6).map 62. CZ=35.2 62.++CZ r.2:=by
    rw[dr k,List.map_append,List.flatMap_append]
    simp
   have bj:0.3 CZ r.2=208. + 1:=by unfold CZ;rw[List.length_cons,List.length_map]
   have cy:i * 4001≤200 * 4001:=Nat.mul_le_mul_right _ 2.8
   refine(51. a4<|5.<|240. r.1 _ (873. (bf r G)) (by rw[List.length_map];lia)<|fun c H7 bk cz hc=> ?_)
   rw[List.length_map]at hc
   refine(8.8 al c (bk _ _ a4) hc (by simp only[List.length_cons,List.length_map];show _≤ 059;lia)<|65.0 (72. r.1) (fun b o zz=> ?_) ?_<| ?_)
   ·rw[aS (aV zz b0)];exact bk _ _ (873. zz)
   ·rw[B,List.length_append,bj,Nat.add_mul];lia
   ·rw[aJ,B];rfl
  rintro σ H8 y1_;have⟨N,rfl,c9,bh,ao⟩:=y1_
  rw[List.length_map,List.take_length]at ao
  have bl:=J.trans (ak.trans c9)
  refine(5.<|m al t H8 (7e2 bl) (928.<|574. bl) (mF ((J.trans ak).free b0)) ?_)
  rw[ao]
  congr 2
  have cb:Z.length=(191. g j).length:=by
   rw[←d.runs,←zH,←aa,List.length_map]
  show _=57.1 (47. (191. g j).length::93.3 u.map (·.2)::454. u.map 62. VacolyNeutral.row)
  rw[List.map_cons,List.map_cons,←F7,List.length_map,cb]
#check SR
namespace SR
open PySem PySem.Spec PyProof.Rows L2
open Vacola (Leaf Lit Mode Head Fields fits showLit)
open Vacolb (Val showRow)
open Vacoly (newest seek)
open VacolyNeutral (encode)
def xN(r:Addr ×lS):05 V:=[34. 208.,34. (AB r.2:Nat)]
theorem Kc(R:zE):R.flatMap xN=080 ((2e6 oO R 34.1).flatMap fun x=>[47. x.1,47. x.2]).map:=by
 induction R with
 |nil=>rfl
 |cons r R b=>
  rw[eO,b];have e:AB r.2=((004).filter 331.).length:=by unfold AB;rw[oR,aI];rfl
  show _=57.1 (454. ((004)::oO R).map _ _)
  grind[xN]
def Me(bF:aA)(aL:Ad):Sp:=103. .runs .runs
theorem yK(T:19.):01 3 aL.fbW aL.dbW RV (0e4 Me):=by
 refine 4. T.FbW SbW
 intros _ _ _ _ H _ _ _ O y1_;let 188. Y:=y1_;let 170. S U:=z2_;(try clear z2_);have D:=SbW.nd;obtain⟨G,I⟩:=d.core.obj;refine(1.2 (aK (gM 1 D<|cT<|dZ<|20.7)
  <|aK (906. (fq<|069) (qI 2 D)<|aO<|dg<|386. 79.<|dZ<|cT<|gG (751. 2)<|044 xb O T.ga0 T.Fa0.kp T.Ba0<|000 2)
  <|057 1)<| ?_)
 dsimp only[dO];have z:=d.CP;have Z:=d.ok.nA;refine(5.<|6e1 G I<|124. t.rl d.core.rl nv<| ?_);intros v k
 rw[eY];have l:=3.6 [34. R.length] k;refine(5.<|6e1 G (l _ _ I)<|86. t.rl ⟨_,554. l ⟩<|91.3 jv R (fun i y H'=>∃g,y=[82. t.tb,82. v,g]/\5.7/\(454. R.take i xN).length<=i * 2/\15.4 v (752. R.length::454. R.take i xN))
  (65.0 none l 81.8<|aJ) ?_ ?_ ?_)
 ·intros i y H' hi y1_;let⟨g,rfl,m,_⟩:=y1_;exact 554. m
 ·intros i x y H' B y1_;let⟨g,rfl,m,p,f⟩:=y1_;unfold jv at B;rw[bN]at B;let 33. r n:=bW.mp B;have q:=bB n;have a0:i<R.length:=048 n;have J:=574. m;have C:=J.gO.runs r q;have q3:=J.CW q;have j:651. R.take xN=454. R.take i xN++xN r:=by rw[dr n,gD];rfl
  refine(51. f<|5.<|3.3 r.1 C.2.1<|5.<|e44 r.1 r.2 28.0 fs rfl C.2.1 C.2.2 2.8<| ?_);intros H2 u;refine 31.8 HR;intros c L
  refine(8.8 v c (494. L<|u _ _ f) aJ (by simp only[aZ,ia];show _<=059;lia)<|944. (82. r.1) M)
  ·rw[5e9 M k];exact 494. L<|u _ _<|m _ _ M
  ·rw[j,bE];show _ + 2<=_;lia
  rw[aJ,j,fF];rfl
 intros y H' y1_;let⟨g,rfl,m,p,f⟩:=y1_;rw[eY,cJ]at f;refine(5.<|Y v t H' (7e2 m) (055 S U<|574. m) (mF k) ?_);rw[f,Kc,d.runs,z]
 show 7. (HO.lst _)=7. (HO.lst<|57.1<|93.3 st.runs.map 34.1::_)
 simp
def uS(p:672.):05 V:=jO 5e6++[34. p.2.seq,59. (if 4e2 089 then 0 else 1)]
theorem E7(k):jO k=080 (k.flatMap fun x=>VacolyNeutral.row (showLit x)).map:=by have:=F7<|k.map showLit;rw[List.flatMap_map,List.flatMap_map]at this;exact this
theorem Mf(F:lS):F.flatMap uS=(((2e6 F.map 62. 583.)).flatMap fun x=>(x.1.flatMap fun k=>VacolyNeutral.row (showLit k))++[47. x.2.1,if 4e2 x.2.2 then 1 else 0]).map V.int:=by
 induction F with
 |nil=>rfl
 |cons p F b=>rw[eO,b,bD,bD,eO,bG];congr 1;unfold uS;rw[E7,bG];congr 1;cases p.2.row <;> rfl
def Oh(bF:aA)(aL:Ad):Sp:=642. .run .run
theorem AY(T:Txt bF cW aL):fC d8 d9 bF cW fw aL 6 aL.fbX aL.dbX ["self","number"] (Oh bF aL):=by
 refine cH T.FbX SbX ?_ (by intro _ _ _ _ h;(repeat obtain⟨_,h⟩:=h);subst_vars;rfl)
 intros _ _ _ _ H _ Q _ hr y1_;let⟨t,st,fs,ci,z,rfl,z2_,Z⟩:=y1_;let⟨rv,kl,F,R,d⟩:=z2_;(try clear z2_);have nd:=SbX.nd;rcases d.core.obj with⟨dx,ho⟩;refine(e11 _ (aK (cR (iX<|sv ko m9 bZ (pv 1)<|nN T.baf<|bA (pv 0) rfl) (aO<|bJ<|cT<|dZ<|fW T.gcG) bS)
  <|aK (gM 2 nd<|cT<|dZ<|nN T.baf<|fo dH (bA (pv 0) rfl) (pv 1) fun _ _=>rfl)
  <|aK (gE bV rfl (fq<|fo dH (bA (pv 0) rfl) (pv 1) fun _ _=>rfl) (qI 3 nd)
   <|aK (dg<|i7 bR dE dF iw (pv 2)<|dZ<|kI (CM T) hr T.gbB T.FbB.kp T.BbB<|gG (bA (pv 3) rfl)<|bA (pv 0) rfl)
   <|aO<|dg<|i7 bR dE dF iw (pv 2)<|dZ<|cT<|gG (bA (pv 3) rfl)<|kn (dJ<|nu (pv 3) T.Cai T.maH (gY T) hr T.BaH dM) bZ bZ)
  <|aO<|bJ<|pv 2)<| ?_)
 dsimp only[dO];have ah:=d.CP;have ai:=d.ok.nA;have⟨xs,aj,ab,hC⟩:=d.gO.cols;have N:=d.ok.kc;have ae:=jo N;have af:Vacoly.stepHeld st fs (ci.map Int.toNat) (.run z)=(st,match Vacolb.at? st.runs z with
  |none=> .refused (-7)
  |some r=> .entries (r.map fun e=>(e.key,e.seq,e.row.isSome))):=rfl
 rw[af]at Z;have a0:(z<0\/(R.length:Int)<=z)->∀l,H l=none->Q (.ref l) (upd H l<|.lst [.int (-7)]):=fun hb l hl=>by
  have e:Vacolb.at? st.runs z=none:=by
   unfold Vacolb.at?;by_cases hz:z<0
   ·rw[aP hz]
   rw[aM hz,qO];simp_all
  rw[e]at Z;exact Z.back (bC.refl _) (e40 rv kl F R<|d) hl rfl
 refine(e11 _ rfl<|e22 _ _ rfl rfl<|e11 _ rfl<| ?_);by_cases b1:z<0
 ·exact qj (show ¬ (0:Int)<=z by cutsat)<|e11 _ rfl<|dv ⟨nv,fun l hl=>a0 (.inl b1) l hl⟩
 refine m7 (show(0:Int)<=z by lia)<|e11 _ rfl<|e55 t.tb _ dx _ _ rfl ho T.Caa T.nam fI<|e22 t.rl _ rfl (.inl (cX.of d.core.rl))<|e22 _ _ rfl rfl<|e11 _ rfl<| ?_;rw[eY];by_cases b2:(R.length:Int)<=z
 ·rw[aX<|show ¬ z<(R.length:Int)by cutsat];exact dv ⟨nv,fun l hl=>a0 (.inr b2) l hl⟩
 rw[aY<|show z<(R.length:Int)by lia];let⟨C,rfl⟩:=iT (by lia:0<=z);have hn:C<R.length:=by simp_all
 let⟨r,O⟩:=(⟨_,aQ hn⟩:∃r,R[C]? =some r);have a3:=bB O;have a4:(jv R)[C]? =some (V.ref r.1):=by unfold jv;rw[bN,O];rfl
 have q2:=d.gO.runs r a3;have q3:=d.CW a3;have e:Vacolb.at? st.runs (C:Int)=some (r.2.map (·.2)):=by unfold Vacolb.at?;rw[aM (by lia),dY,<-d.runs,oO,bN,O];rfl
 rw[e]at Z;simp only at Z;refine dw<|e11 _ rfl<|e55 t.tb _ dx _ _ rfl ho T.Caa T.nam fI<|e11 _ rfl<|e44 t.rl (jv R) _ _ rfl rfl (cX.of d.core.rl) (at_of (j:=C) rfl a4)<|e23 r.1 _ rfl (.inl (cX.of q2.2.1)) nv<| ?_;intros u D
 rw[fF];have G:=bC.put (o:=.lst [.int (r.2.length:Int)]) D;have I:∀p∈r.2,gi ((AR fs ci).map (·.1)) p.2.key:=fun p hp=>by rw[ae.1];exact q3.2.2 p hp
 refine(e11 _ rfl<|e55 t.tb _ dx _ _ rfl (G _ _ ho) T.Caa T.nam fI<|e11 _ rfl<|e44 t.rl (jv R) _ _ rfl rfl (cX.of<|G _ _ d.core.rl) (at_of (j:=C) rfl a4)<|e12 r.1 rfl ⟨_,cX.of<|G _ _ q2.2.1⟩<|gP (xs:=rf r.2) (fun i σ H'=>∃f,σ=[some<|.ref t.tb,some<|.int (C:Int),some<|.ref u,f]/\bC H H'/\((r.2.take i).flatMap uS).length<=i * 50002/\H' u=some (.lst (.int (r.2.length:Int)::(r.2.take i).flatMap uS)))
  (e13 none rfl G (bH _)<|aJ) ?_ ?_ ?_)
 ·intros i σ H' hi y1_;let⟨f,rfl,B,_⟩:=y1_;exact cX.of<|B _ _ q2.2.1
 ·intros i x σ H' hx y1_;let⟨f,rfl,B,a5,y⟩:=y1_;let⟨p,S,rfl⟩:=uE hx;have U:=bB S;have ak:i<r.2.length:=(aT.mp S).1;have hE:=(q2.2.2 p U).same B;let⟨dy,ky,ry,n1,n2,n3,n4⟩:=id hE;have L:(r.2.take<|i + 1).flatMap uS=(r.2.take i).flatMap uS++uS p:=by rw[dr S,gD];simp
  have ao:i * 50002<=200 * 50002:=Nat.mul_le_mul_right _<|by lia
  refine(e12 _ rfl (.inl ⟨rfl,_,cX.of y⟩)<|e11 _ rfl<|e55 p.1 _ dy _ _ rfl n2 T.Cai T.nbj oK<|e11 _ rfl<|e55 t.tb _ dx _ _ rfl (B _ _ ho) T.Caa T.nb3 qC<|e67 ky kl p.2.key xs (AR fs ci) (jd t) rfl n3 (B _ _ ab) (hC.of fun b o n q=>⟨n,B _ _ q⟩) (I p U) (xK d.ok.wf N) (by have:=tN N;lia)<| ?_);intros c H2 a6 aq hc ar
  refine(e45 u c _ _ rfl rfl (a6 _ _ y) hc (by simp only[aZ];show _<=2 ^ 24;lia)<| ?_);let⟨J,Y⟩:=(⟨_,rfl⟩:∃J,J=upd H2 u (.lst (.int (r.2.length:Int)::(r.2.take i).flatMap uS++jO p.2.key)));have g3:J u=some (.lst (.int (r.2.length:Int)::(r.2.take i).flatMap uS++jO p.2.key)):=by rw[Y];exact aJ
  have a7:bC H J:=fun b o zz=>by rw[Y,aS<|aV zz D];exact a6 _ _<|B _ _ zz
  rw[<-Y];have a8:=(q2.2.2 p U).same a7;let⟨a9,au,av,m1,m2,m3,m4⟩:=id a8;refine(e12 _ rfl (.inl ⟨rfl,_,cX.of g3⟩)<|e11 _ rfl<|e55 p.1 _ a9 _ _ rfl m2 T.Cai T.nbK ju<|e11 _ rfl<|e33 p.1 a9 _ rfl m2 (tE (by decide +kernel) (by decide +kernel)<|by decide +kernel)<|e42 p.1 p.2 (jd t) fs rfl a8<|e11 _ rfl<| ?_);have aa:∀k,k=(if p.2.row.isNone=true then 0 else 1)->∀m,J m=none->∃l b ys zs,V.ref u=V.ref l/\[V.ref m]=[V.ref b]/\upd J m (.lst [.int (p.2.seq:Int),.int k]) l=some (.lst ys)/\upd J m (.lst [.int (p.2.seq:Int),.int k]) b=some (.lst zs)/\ys.length + zs.length<=sizeLine/\∃f,[some<|V.ref t.tb,some<|.int (C:Int),some<|.ref u,some<|.ref p.1]=[some<|V.ref t.tb,some<|.int (C:Int),some<|.ref u,f]/\bC H (upd (upd J m<|.lst [.int (p.2.seq:Int),.int k]) l<|.lst (ys++zs))/\
   ((r.2.take<|i + 1).flatMap uS).length<=(i + 1) * 50002/\upd (upd J m<|.lst [.int (p.2.seq:Int),.int k]) l (.lst (ys++zs)) u=some (.lst (.int (r.2.length:Int)::(r.2.take<|i + 1).flatMap uS)):=fun k ek m g=>by
   refine(e45 u m _ _ rfl rfl (bC.put g _ _ g3) aJ (by simp only[aZ,ia,bE];show _<=2 ^ 24;lia)<|e13 _ rfl (fun b o zz=>?_) ?_<| ?_)
   ·rw[aS<|aV zz D];exact bC.put g _ _<|a7 _ _ zz
   ·rw[L,bE,uS,bE,Nat.add_mul]
    show _ + (_ + 2)<=_
    lia
   rw[aJ,L,uS,ek,cY,jU]
  cases M:p.2.row.isNone with
  |true=>exact dv ⟨HR,fun m g=>aa 0 (by rw[M];rfl) m g⟩
  |false=>exact dw ⟨HR,fun m g=>aa 1 (by rw[M];rfl) m g⟩
 intros σ H' y1_;let⟨f,rfl,B,a5,y⟩:=y1_;rw[fF,cJ]at y;refine(e11 _ rfl<|Z u t H' (Frame.same B) (e40 rv kl F R<|d.same B) (mF D) ?_);rw[y,Mf]
 show _=some (HO.lst<|List.map V.int<|((((r.2.map (·.2)).map fun e=>(e.key,e.seq,e.row.isSome))).length:Int)::_)
 rw[bD,aI,aI]
#check SR
namespace SR
open PySem PySem.Spec PyProof.Rows L2
open Vacola (Leaf Lit Mode Head Fields fits showLit)
open Vacolb (Val showRow)
open VacolyNeutral (encode)
theorem xO{k:Str}{y:V}:∀{l:79.9},(dh k y l).length<=l.length + 1
 | []=>aU _
 |(g,x)::r=>by
  rw[dh];split
  ·exact 86.5
  rw[aZ,aZ];have:=xO (k:=k) (y:=y) (l:=r);cutsat
def Kd(b c:V)(l:79.9):Prop:=l=([("record",b),("key_columns",c)]:79.9)\/∃f r d e n,l=nO b c f r d e n
theorem Kd.len(h:Kd b c l):l.length<=7:=by
 rcases h with rfl|⟨_,_,_,_,_,rfl⟩
 ·cutsat
 exact aU _
theorem Kd.put{rv kc f r s1 s2 n:V}{l:79.9}(h:Kd rv kc l):387. n (539. s2 (945. s1 (85.9 r (65.3 f l))))=nO rv kc f r s1 s2 n:=by
 revert h;revert rv kc f r s1 s2 n l;intros rv kc f r s1 s2 n l h
 rcases h with rfl|⟨_,_,_,_,_,rfl⟩
 ·rw[8e6,8e6]
  show 387. n (539. s2<|945. s1<|85.9 r [38.8,633.,("fresh",f)])=_
  rw[8e6,8e6,8e6]
  show 387. n (539. s2<|945. s1 [38.8,633.,("fresh",f),("run_list",r)])=_
  rw[8e6,8e6,8e6,8e6]
  show 387. n (539. s2 [38.8,633.,("fresh",f),("run_list",r),("last_entry",s1)])=_
  rw[8e6,8e6,8e6,8e6,8e6]
  show 387. n [38.8,633.,("fresh",f),("run_list",r),("last_entry",s1),("snapshots",s2)]=_
  rw[8e6,8e6,8e6,8e6,8e6,8e6];rfl
 rw[CN,F4,F5,J1,F6]
def Ke(aL:Ad):Sp:=fun vs H Q _=>∃c g d e f old,062 c/\H c=7. (7.7 g f)/\Kd d e f/\(∀b,old b->b≠c/\∃o,60. H)/\
 ∀t H',t.old=old->t.tb=c->54. t.fl->54. t.rl->54. t.sn->oD c H H'->iQ aL H' t d e [] [] 0 0 []->78.5
theorem qd(T:19.):01 1 aL.fbG aL.dbG RV (Ke aL):=by
 refine 4. T.FbG SbG
 intros _ _ _ _ H _ Q _ _ y1_;let⟨c,g,rv,kc,i,old,rfl,ho,I,hold,kq⟩:=y1_;refine(017 (3.1 (cT hU)<|3.1 (cT hU)<|3.1 bZ<|109. BD bZ));dsimp only[dO];have hl:=I.len;refine 276.;intros f S;refine(263. (494. S ho) T.nbL);have l1:=xO (k:= "fresh") (y:=02 f) (l:=i);let 28. x j:=(981.:∃x,x=upd (4.9 H f) c (7.7 g<|65.3 780. i));rw[<-j];have J:f≠c:=33.9
 have U:x f=15. []:=by rw[j,aS J];exact aJ
 have V:x c=7. (7.7 g<|65.3 727. i):=by rw[j];exact aJ
 have k1:oD c H x:=fun b o h n=>by rw[j,aS n,5e9 h S];exact h
 refine 276.;intros r m;refine(263. (494. m V) T.nam);have l2:=xO (k:= "run_list") (y:=02 r) (l:=65.3 780. i);let 28. B p:=(981.:∃B,B=upd (4.9 x r) c (7.7 g<|484. (02 r) 780.));rw[<-p];have C:r≠c:=33.9
 have Y:f≠r:=33.9
 have Z:B r=15. []:=by rw[p,aS C];exact aJ
 have a0:B c=7. (7.7 g<|484. (.ref r) 727.):=by rw[p];exact aJ
 have k2:oD c x B:=fun b o h n=>by rw[p,aS n,5e9 h m];exact h
 refine(263. a0 T.nb4);have l3:=xO (k:= "last_entry") (y:=59. 0) (l:=484. (02 r) 780.);let 28. D L:=(981.:∃D,D=upd B c (7.7 g<|2e3 (02 r) 780.));rw[<-L];have a3:D c=7. (7.7 g<|2e3 (.ref r) 727.):=by rw[L];exact aJ
 have k3:oD c B D:=fun b o h n=>by simp_all[aS]
 intros sn hs;refine(263. (494. hs a3) T.nb5);have l4:=xO (k:= "snapshots") (y:=02 sn) (l:=2e3 (02 r) 780.);let 28. u t:=(981.:∃u,u=upd (upd D sn<|.dK []) c (7.7 g<|539. (02 sn)<|2e3 (02 r) 780.));rw[<-t];have v:sn≠c:=33.9
 have a4:u sn=7. (.dK []):=by rw[t,aS v];exact aJ
 have a5:u c=7. (7.7 g<|539. (.ref sn)<|2e3 (.ref r) 727.):=by rw[t];exact aJ
 have R:oD c D u:=fun b o h n=>by rw[t,aS n,5e9 h hs];exact h
 refine(263. a5 T.ncP);rw[I.put];let 28. M N:=(981.:∃M,M=upd u c (880.))
 show Q .gm (upd u c<|880.)
 rw[<-N];have k5:oD c u M:=fun b o h n=>by simp_all[aS]
 have d:∀{G G':Hp} {b:Addr},oD c G G'->084 G'->b≠c->084 G:=fun{G G' b} k h n=>by
  match q:G b with
  |none=>rfl
  |7. o=>rw[k b o q n]at h;cases h
 have O:oD c H M:=512.;have a7:=d k1 m C;have a8:=d k1 (d k2 (d k3 hs v) v) v;refine kq ⟨c,f,r,sn,old⟩ M rfl rfl S (d k1 m C) (d k1 (d k2 (d k3 hs v) v) v) (512.) ⟨⟨g,by rw[N];exact aJ⟩,?_,?_,?_,Y,?_⟩
 ·exact k5 _ _ (R _ _ (k3 _ _ (k2 _ _ U J) J) J) J
 ·exact k5 _ _ (R _ _ (k3 _ _ Z C) C) C
 ·exact k5 _ _ a4 v
 intros b hb;have 28. n ⟨o,e⟩:=hold b hb;refine⟨?_,o,094 O n⟩;intros z
 rcases z with z|z|z|z
 ·exact n z
 ·lia
 ·lia
 lia
def qK(aL:Ad)(H:Hp)(t:TA)(s:aF):Prop:=(s=Vacoly.start/\∃b,iQ aL H t .gm 69.6 [] [] 0 0 [])\/∃fs ci,0.4
def Mg(aL:Ad)(t:TA)(H:Hp)(Q:VK)(s:aF)(b:Sg):Prop:=
 ∀l t' H',312.->qK aL H' t' s->72.9
def C0(aL:Ad):Sp:=fun vs H Q _=>∃c d,062 c/\H c=7. (7.7 d [])/\
 ∀t H',t.tb=c->(∀b,40.7->b=c\/851.)->oD c H H'->qK aL H' t Vacoly.start->78.5
theorem yL(T:19.):01 2 aL.fcl aL.dcl RV (C0 aL):=by
 refine 4. T.Fcl Scl
 intros _ _ _ _ H _ _ _ v y1_;let⟨d,g,rfl,x,y⟩:=y1_;refine(017 (3.1 HW<|3.1 (cT hU)<|aO<|dg<|193. T.mbG qd v T.BbG dM));dsimp only[dO];refine(5.<|1e5 d g x T.Caa T.ncv (08)<| ?_);refine 276.;intros f j;refine(5.<|1e5 d g (494. j aJ) T.Caa T.nb3 (98. 1)<| ?_);have e:dh "key_columns" 780. (dh "record" .gm [])=(390.:79.9):=by
  show dh "key_columns" 780. [("record",V.gm)]=_
  rw[8e6];rfl
 rw[e];let 28. k i:=(981.:∃k,k=upd (4.9 (upd H d<|.ins aL.caa g<|dh "record" .gm []) f) d (7.7 g 390.));rw[<-i];have B:f≠d:=fun z=>by grind[aJ]
 have l:54. f:=by rwa [aS B]at j
 have m:k d=7. (7.7 g 390.):=by rw[i];exact aJ
 have k1:oD d H k:=fun b o h n=>by rw[i,aS n,5e9 h l,aS n];exact h
 refine(5.<|0e8 d g m ?_<|e64 d g .gm 780. _ (fun _=>False) rfl m (8.5) (fun b p=>p.elim)<|fun t C G D I J L k2 c=>y t C D (63. b p) (fun b o h n=>k2 _ _ (k1 _ _ h n) n)<|97. ⟨rfl,f,c⟩)
 ·exact(iG<|09).trans<|(iG<|09).trans rfl
 have r:∀{b:Addr},084 k->851.:=fun{b} h=>by
  match q:H b with
  |none=>rfl
  |7. o=>
   by_cases n:b=d
   ·lia
   rw[k1 b o q n]at h;cases h
 rcases p with z|z|z|z
 ·grind
 ·grind
 ·grind
 grind
theorem C1(fs:Fields)(i:Nat):(329.)[i]? =(418. i).map fun x=>326.:=by grind[IK]
theorem vq(fs:Fields)(z:Int):mH (329.) z=true↔0<=z/\∃x,418. z.toNat =7. x/\4e2 x.sure:=by
 unfold mH;rw[C1,bI,fZ];cases 418. z.toNat with
 |none=>simp
 |some x=>simp
theorem HD(fs)(ps):l6 (329.) ps=55.2:=by
 rw[eB,vd];unfold l6 kj;rw[bI,fZ,eE,and_assoc,and_assoc];refine and_congr x4<|and_congr x4<|and_congr x4 ?_;constructor
 ·intro h i hi;exact(vq fs i).mp<|h i hi
 intro h i hi;exact(vq fs i).mpr<|h i hi
theorem Kg{fs:Fields}{ps:Sg}{i:Nat}{z:Int}(h:ps[i]? =7. z){x:Ky}(hx:418. z.toNat =7. x):AR fs (ps.take 8.6)=AR fs (ps.take i)++[326.]:=by unfold AR gu;rw[dr h,List.filterMap_append,bG];congr 1;rw[dc,hx];rfl
theorem qK.core(h:29.3 H):∃e f F R last g b,236. e f last g b:=by
 rcases h with⟨_,i,c⟩|⟨fs,ci,e,i,F,R,d⟩
 ·grind
 exact(57.2 e70<|d.core)
theorem qK.same(h:29.3 H)(f:5.7):29.3 H':=by
 rcases h with⟨e,b,c⟩|⟨fs,ci,g,b,F,R,d⟩
 ·exact 97. ⟨e,b,c.same f⟩
 exact 8.4 (e60 fs ci g b F R<|574. f)
theorem Mg.back(o:Mg aL t H Q s g)(h:bC H f)(d:29.3 f)(i:095 f l)(e:b=080 g.map):9.3 l (379. f b):=by have c:=3.6 b i;exact o l t _ (Frame.same<|h.trans c) (574. c) (mF<|h.free i)<|by rw[aJ,e]
def HE(bF:aA)(aL:Ad):Sp:=fun vs H Q _=>∃t s nl pl tt ps,vs=[02 t.tb,02 nl,02 pl]/\29.3 H/\H nl=73.8 tt.map/\H pl=425. ps.map/\
 Mg aL t H Q (73.6 s).1 (encode (73.6 s).2)
theorem vI(T:19.):01 31 aL.fbh aL.dbh 38.5 (0e4 HE):=by
 have G1:51.9:=wW T<|o8 T;refine 4. T.Fbh Sbh
 intros _ _ _ s H _ _ _ hr y1_;let⟨t,st,nl,pl,tt,ps,rfl,hT,ak,Z,I⟩:=y1_;have nd:=Sbh.nd;let⟨b3,ab,F0,R0,f,J,b4,core⟩:=hT.core;rcases core.obj with⟨O,ho⟩;refine(1.2 (aK (858. T.gcR 
  fun pl D ps=>by exact aO<|47.8 3<|nT G1 hr 90. T.gba T.Fba.kp T.Bba .nil ps<|000 1)
  <|aK (47.8 4<|044 rg hr T.gaW T.FaW.kp T.BaW<|000 3)
  <|aK (cR (iX<|dJ<|044 yM hr T.gbb T.Fbb.kp T.Bbb<|33.7 4 2) (1e9 T.gdj) bS)
  <|3.1 777.
  <|aK (dW 31. (688. ("place",5) (te:=Mu (M7 bF) (ji 4)<|ji 5) rfl nd (fq<|pv 2) (ib<|73. Nbh sbh) (196. 5 nd) (398. fp)
   fun s H C cl fp=>by exact fo dH (pv 4) 94.7 50.) rfl)
  <|aK (dg<|193. T.mbG qd hr T.BbG dM)
  <|aO<|bJ<|cT<|dZ bZ)<| ?_)
 dsimp only[dO];have ao:73.6 st=(match Vacola.readSchema tt with
  | .error _=>8e8 1
  | .ok fs=>if 55.2 then({schema:=7. (fs,89.3 ps.map)},.number 0)else 8e8 4):=rfl
 rw[ao]at I;refine(5.<|240. nl _ (cX.of<|by rw[ak,Qc]) (fun fs v H1 hm L hK=>?_)<|fun hm H1 sm=>259. hl);revert ho hm L hK;revert O fs v H1;intros O fs v H1 ho hm L hK;rotate_left
 ·rw[v3]at hm;cases q:Vacola.readSchema tt with
  |ok fs=>rw[(wz tt fs).mpr q]at hm;cases hm
  |error e=>rw[q]at I;exact I.back sm (hT.same sm) hl rfl
 rw[v3]at hm;have 28. wk b5:=DF hm;rw[(wz tt fs).mp hm]at I;simp only at I;have wf:WF 5 false fs:=by have:=wk;rw[WK]at this;exact this.2.2.2
 refine(5.<|e44 v false fs _ rfl hK wf 2.8<|fun cl xs H2 ae R af hC=>?_);revert ae R af hC;revert cl xs H2;intros cl xs H2 ae R af hC;have S:=L.trans ae;refine(5.<|5.<|e64 cl pl xs _ _ ps rfl af hC (4e3 S Z)<|fun H3 M=>(48.));have d:=S.trans M;rw[HD];cases hg:55.2 with
 |false=>rw[hg,487.]at I;refine dv (259. hl);exact I.back d (hT.same d) hl rfl
 |true=>
  rw[hg,324.]at I;have kc:=(vd fs ps).mp hg;have aq:=d _ _ ho;refine dw<|5.<|5.<|954. O aq T.ncv (98. 7)<| ?_;rw[Hv];obtain⟨m,a0⟩:∃m,m=upd H3 t.tb (797. ab):=981.;revert M d aq a0;revert H3 m;intros H3 m M d aq a0;rw[<-a0];have ag:22.1 m ab:=by rw[a0];exact aJ
  have N:oD t.tb H3 m:=fun b o h n=>by rw[a0,aS n];exact h
  have ar:pl≠t.tb:=i6 Z ho 81.;have au:cl≠t.tb:=fun z=>by rw[z,L _ _ ho]at R;cases R
  have U:=971. d Z ar;have ah:=971. M af au;have u:∀b,851.-> ¬ t.old b:=fun b h z=>by refine 96.6 z _;rw[h]at e;cases e
  have ai:∀b o,((851.\/084 H1)/\b≠cl)->60. H2->(415.)/\60. m:=fun b o g h=>by
   have nb:462.:=fun z=>by
    rcases g.1 with q|q
    ·rw[z,ho]at q;cases q
    rw[z,L _ _ ho]at q;cases q
   exact⟨⟨nb,u b<|g.1.elim id L.free⟩,971. M h nb⟩
  have av:dS aL (fun b=>415.) m xs (329.):=hC.of fun b o g h=>ai b o g h;have aw:cI aL (fun b=>415.) m v 0e6:=cI.of (fun b o g h=>by
   have nb:462.:=fun z=>by rw[z,ho]at g;cases g
   exact⟨⟨nb,u b g⟩,N _ _ (M _ _<|ae _ _ h) nb⟩) _ _ hK
  refine(5.<|6e7 pl U<|63. D hD);revert hD;revert D;intros D hD;refine kg (xs:=080 ps.map) (fun i H'=>bC m H'/\∃ys,15.4 D ys/\ys.length<=i/\dS aL (fun b=>415.) m ys (AR fs<|ps.take i)) ⟨ 5.1 hD,e12 [] aJ 779.<|trivial⟩ ?_ ?_ ?_
  ·rintro i H' hi y1_;have 28. sm _:=y1_;(try clear y1_);exact 4e3 sm U
  ·rintro i x H' hx y1_;refine 22.8 sm;revert hx y1_ sm zz_ q1 q2 q3;revert i x H' ys;intros i x H' ys hx y1_ sm zz_ q1 q2 q3;rw[bN]at hx;have 33. z a3:=bW.mp hx;have b6:i<ps.length:=048 a3;have b7:=kc.2.1;refine x0_1 (kc.2.2.2 z<|bB a3) fun z0 zz_=>278. fun x a4 b8=>?_;obtain⟨n0,rfl⟩:=iT z0;have ax:(329.)[n0]? =7. 326.:=by rw[C1];rw[dY]at a4;rw[a4];rfl
   have⟨y,ey,hy⟩:=av.get n0 _ ax;refine⟨rfl,w4<|5.<|5.<|076 cl xs (4e3 sm ah) (at_of (j:=n0) rfl ey)<|e13 ys q1 69.3 (fun b o zz=>by rw[5e9 zz hD];exact sm _ _ zz)<|e12 (ys++[y]) aJ (by rw[bE];show _ + 1<=_;cutsat)<| ?_⟩;rw[Kg a3 a4];exact dS.append (dS.one hy) q3
  rintro H5 y1_;refine 22.8 B;rw[aI,cJ]at q3;have ay:=B _ _ ag;refine(5.<|954. O ay T.nb3 (98. 7)<| ?_);rw[L1];obtain⟨H6,a5⟩:∃H6,H6=upd H5 t.tb (797. (02 D)):=981.;rw[<-a5];have a6:22.1 H6 (.ref D):=by rw[a5];exact aJ
  have k6:oD t.tb H5 H6:=fun b o h n=>by rw[a5,aS n];exact h
  have nD:D≠t.tb:=fun z=>by rw[z,ag]at hD;cases hD
  refine(5.<|042 O a6<|e64 t.tb O v (02 D) _ t.old rfl a6 (8.4 (015 e50 _ _<|rfl)) (fun b g=>by
   refine 96.6 g n;have nt:462.:=fun z=>n (z▸lX);exact⟨nt,o,k6 _ _ (B _ _<|971. d e nt) nt⟩)<|fun t' H7 eo e1 e2 e3 e4 k7 c=>259. hl)
  have a7:bC H7 (361. H7 [59. 0]):=5.1 hl;have G:46.8 m:=fun b o h n=>a7 _ _<|k7 _ _ (k6 _ _ (B _ _ h) n) n;have a8:46.8 H:=fun b o h n=>G b o (971. d h n) n;have k:∀{b:Addr},084 H6->462./\084 m:=fun{b} h=>by
   have n:462.:=fun z=>by rw[z,a6]at h;cases h
   refine 31.8 n;cases q:m b with
   |none=>rfl
   |some o=>rw[k6 _ _ (B _ _ q) n]at h;cases h
  have Y:∀b o,(415.)->60. m->jd t' b:=fun b o n h=>⟨(fun z=>by
   rcases z with z|z|z|z
   ·exact n.1 (z.trans e1)
   ·rw[z,(k e2).2]at h;cases h
   ·rw[z,(k e3).2]at h;cases h
   rw[z,(k e4).2]at h;cases h),by rw[eo];exact n.2⟩
  have fr:11.9 t' H (361. H7 [59. 0]):=⟨e1,fun b g=>by
   have a9:∀{x:Addr},095 H6 x->54. x:=fun{x} h=>by
    have 28. n h4:=k h;cases q:H x with
    |none=>rfl
    |some o=>rw[971. d q n]at h4;cases h4
   rcases g with z|z|z|z
   ·exact 402. (z.trans e1)
   ·rw[z];exact 8.4 (a9 e2)
   ·rw[z];exact 8.4 (a9 e3)
   rw[z];exact 8.4 (a9 e4),fun b o h n=>a8 b o h (479. n),eo⟩
  have az:379. H7 [59. 0] D=15. ys:=a7 _ _<|k7 _ _ (k6 _ _ q1 nD) nD;have aj:54. D:=by
   cases q:H D with
   |none=>rfl
   |some o=>rw[971. d q nD]at hD;cases hD
  have b0:jd t' D:=⟨(fun z=>by
   have aa:H6 D=15. ys:=k6 _ _ q1 nD;rcases z with z|z|z|z
   ·exact nD (z.trans e1)
   ·rw[<-z,aa]at e2;cases e2
   ·rw[<-z,aa]at e3;cases e3
   rw[<-z,aa]at e4;cases e4),by rw[eo];exact u D aj⟩
  refine I l t' _ fr (.inr (e60 fs ps v D [] []<|⟨c.same a7,⟨ 744. (34.2) aw,(e12 ys b0 az<|q3.of 34.2),(fun p hp=>nomatch hp),(fun r b1=>nomatch b1)⟩,rfl,rfl,i4.start wk kc⟩)) (fun o h=>by
   by_cases n:l=t.tb
   ·exact n▸lX
   rw[k7 _ _ (k6 _ _ (B _ _<|971. d h n) n) n]at hl;cases hl) ?_
  exact aJ
#check SR
namespace SR
open PySem PySem.Spec PyProof.Rows L2
def OE(n b ls:V):79.9:=[22.0,("numbers",b),("lists",ls)]
theorem iz:14.4 "number" n:=oC
theorem jq:14.4 "numbers" b:=rfl
theorem l7:14.4 "lists" ls:=rfl
def Kh(aL:Ad):Sp:=fun vs H Q _=>∃x b n c ls,vs=[02 x,n,c,ls]/\391. aL.caj (.ins aL.caj b (OE n c ls))
theorem AZ(T:19.):01 1 aL.fca aL.dca 179. (Kh aL):=by
 refine 4. T.Fca Sca
 intros _ _ _ _ _ _ _ _ _ y1_;let⟨x,c,n,b,ls,rfl,f,g⟩:=y1_;refine 500.;dsimp only[dO];refine(5.<|5.<|1e5 x c f T.Caj T.nbc (08)<| ?_);refine(5.<|5.<|1e5 x c aJ T.Caj T.nb0 (98. 1)<| ?_);rw[fY];have i:dh "numbers" b (dh "number" n [])=([22.0,("numbers",b)]:79.9):=by
  show dh "numbers" b [22.0]=_
  rw[8e6];rfl
 rw[i];refine(5.<|5.<|1e5 x c aJ T.Caj T.nb1 060<| ?_);rw[fY];have e:dh "lists" ls ([22.0,("numbers",b)]:79.9)=OE n b ls:=by rw[8e6,8e6];rfl
 rw[e];exact 58.6 g
def mI(b H:Hp):So->359. (Sg)
 | [],[]=>True
 |89.9,r::c=>(095 b x/\H x=425. r.map)/\mI b H xs c
 |_,_=>False
theorem mI.keep:∀{xs:So} {d:05 (Sg)},(∀b u,b∈xs->084 c->H b=15. u->15.4 b u)->mI c H xs d->mI c H' xs d
 | [],[],_,_=>trivial
 |_::_,_::_,f,28. ⟨e,g⟩ i=>⟨⟨e,873. bM e g⟩,mI.keep (fun b u j=>f b u<|bO _ j) i⟩
 | [],_::_,_,h=>h.elim
 |_::_,[],_,h=>h.elim
theorem mI.snoc(c:095 b x)(d:H x=425. r.map):∀{xs:So} {e:05 (Sg)},mI b H xs e->mI b H (xs++[x]) (e++[r])
 | [],[],_=>28. ⟨c,d⟩ trivial
 |_::_,_::_,28. f g=>⟨f,mI.snoc c d g⟩
 | [],_::_,h=>h.elim
 |_::_,[],h=>h.elim
def Ki(aL:Ad)(f H:Hp)(x:Addr)(d:Int)(xs:Sg)(b:05 (Sg)):Prop:=
 ∃g nl e c,H x=7. (.ins aL.caj g (OE (59. d) (.ref nl) (.ref e)))/\H nl=425. xs.map/\H e=008 c.map V.ref/\mI f H c b
theorem uT(h:iD bF (238.) b xs):iD bF H b xs:=by
 rcases h with(h|⟨_,h⟩)|h
 ·cases h
 ·cases h
 exact 8.4 h
theorem Kj(T:19.)(h:877. z (n,k)):∃xs ad,iD bF (238.) aL.lH xs/\Kw xs z=72. ad/\iD bF (238.) ad [34. n,34. k]/\k<=2:=by
 revert h;revert z n k;intros z n k h
 unfold PyVacoly.shape at h;by_cases e:z=0
 ·subst e;rw[324.]at h;cases h;exact(0e5 T.DJ)
 rw[aM e]at h;by_cases f:z=1
 ·subst f;rw[324.]at h;cases h;exact(0e5 T.DK)
 rw[aM f]at h;by_cases g:z=2
 ·subst g;rw[324.]at h;cases h;exact(0e5 T.DL)
 rw[aM g]at h;by_cases i:z=3
 ·subst i;rw[324.]at h;cases h;exact(0e5 T.DM)
 rw[aM i]at h;by_cases j:z=4
 ·subst j;rw[324.]at h;cases h;exact(0e5 T.DO)
 rw[aM j]at h;by_cases l:z=5
 ·subst l;rw[324.]at h;cases h;exact(0e5 T.DP)
 rw[aM l]at h;by_cases m:z=6
 ·subst m;rw[324.]at h;cases h;exact(0e5 T.DQ)
 rw[aM m]at h;by_cases o:z=7
 ·subst o;rw[324.]at h;cases h;exact(0e5 T.DR)
 rw[aM o]at h;by_cases p:z=8
 ·subst p;rw[324.]at h;cases h;exact(0e5 T.DS)
 rw[aM p]at h;by_cases q:z=9
 ·subst q;rw[324.]at h;cases h;exact(0e5 T.DT)
 rw[aM q]at h;by_cases b:z=10
 ·subst b;rw[324.]at h;cases h;exact(0e5 T.BQ)
 rw[aM b]at h;by_cases c:z=11
 ·subst c;rw[324.]at h;cases h;exact(0e5 T.BR)
 rw[aM c]at h;by_cases d:z=12
 ·subst d;rw[324.]at h;cases h;exact(0e5 T.BS)
 grind
theorem drop_cons{α:Type}{l:929.}{p:Nat}{x:α}{r:929.}(h:l.drop p=x::r):l[p]? =7. x/\r=l.drop (8e5):=by
 constructor
 ·have:=dQ (·[0]?) h;grind
 grind[List.tail_drop]
theorem tQ(h:150.):∃p r n k xs,l=p::r/\877. p (n,k)/\n<=r.length/\11.6 (r.drop n) xs/\c=(p::r.take n)::xs:=by
 cases l with
 |nil=>cases h
 |cons p r=>grind[PyFlat.call]
theorem xP(h:PyFlat.rows 832. l=7. (xs,t)):∃(n:Nat) (r:Sg) (ys:05 (Sg)),l=47. n::r/\n<=r.length/\xs=r.take n::ys/\11.6 (r.drop n) ys:=by
 revert h;revert k l xs t;intros k l xs t h
 rw[PyFlat.rows]at h;cases l with
 |nil=>cases h
 |cons n r=>grind[PyFlat.row]
def E8(bF:aA)(aL:Ad):Sp:=fun vs H Q _=>∃r b p num xs rows rest,062 r/\092 b/\PyFlat.call PyVacoly.shape (b.drop p)=7. ((num::xs)::rows,rest)/\
 ∀q x H',3e0->524. b->b.drop q=rest->Ki aL H H' x num xs rows->796. x
theorem Ba(T:19.):01 4 aL.faY aL.daY RW (0e4 E8):=by
 refine 4. T.FaY SaY
 intros _ _ _ s H _ _ _ hr y1_;let⟨r,f,p,num,xs,rows,rest,rfl,R,o,kq⟩:=y1_;have I:=SaY.nd;refine(1.2 (aK (gM 1 I<|272. hr dM)
  <|aK (gM 2 I<|fo zS (mi (v:=02 aL.lH) rfl T.IL rfl) 79. 50.)
  <|aK (gM 3 I<|729. wC T.mbo (kU T) hr T.Bbo<|dZ<|fo zS 010 bZ 50.)
  <|aK (wo (i:=4) (own:=[("step",5)]) (te:=sy aL.cac "take_counted" (0e4 qX) [] E0 (ji 0) qG) rfl I rfl rfl (784. zY rfl) (t9 90. T.bcq<|dZ<|fo zS 010 bZ 50.) (ib<|73. NaY saY) (196. 5 I) (398. fp)
   fun s H C cl fp=>by exact 7.8 T.mbp jK hr T.Bbp dM)
  <|aO<|bJ<|iF T.Maj (AZ T) (hr.mono<|08) 90. T.gaj T.Bca .nil dM<|dG 79.<|gG 777.<|pv 4)<| ?_)
 dsimp only[dO];let⟨p0,rr,n,k,a5,e0,a6,hn,az,ec⟩:=tQ o;have 28. J err:=drop_cons e0;have a7:num=p0/\xs=rr.take n/\rows=a5:=70.
 have 88.0 rfl:=a7;let⟨a8,L,a9,aa,M,b0⟩:=Kj T a6;have b1:8e5<=f.length:=048 J;have b2:rr.length=85.6 (8e5):=70.
 have⟨ab,l0,ae,N⟩:=id R.ex;refine(5.<|8.0 ab ae<|0e7 f p R (fun m H1 hm k1 R1=>?_)<|4e7 hm);rotate_left
 ·grind
 rw[J]at hm;cases hm;have⟨af,l1,ag,b3⟩:=id R1.ex;refine(5.<|076 aL.lH a8 (uT a9) aa<| ?_);refine(5.<|8.0 af ag<|5.<|076 L _ (uT M) rfl<|e43 r f (8e5) _ rfl R1 (fun n' nl H2 en ah k2 R2 O S=>?_)<|4e7 G);revert ae N k1 R1 ag b3 en ah k2 R2 O S;revert ab l0 H1 af l1 n' nl H2;intros ab l0 H1 af l1 n' nl H2 ae N k1 R1 ag b3 en ah k2 R2 O S;rotate_left
 ·lia
 obtain rfl:n=n':=21.
 rw[<-err]at S;have t:=k1.trans k2;have ai:54. nl:=k1.none R1 O;refine(5.<|076 L _ (uT M) rfl<|65.0 (k:Int) 060 2.8<| ?_);intro D hD;revert hD;revert D;intros D hD;have g:54. D:=t.none R2 hD;have aj:D≠r:=R2.yr hD;rw[dY];refine Iy (n:=k) (fun i H'=>∃(q:Nat) (d:So) (U Y:05 (Sg)),3e0/\524. f/\H' D=008 d.map V.ref/\rows=U++Y/\PyFlat.rows (k - i) (f.drop q)=7. (Y,rest)/\mI H H' d U/\d.length=i/\(∀b∈d,b≠D)/\15.4 nl (2e6 rr.take n V.int))
  (e48 (8e5 + n) [] [] rows (t.put g) (R.put t R2 g) aJ rfl ?_ trivial rfl (fun b G=>nomatch G)<| ?_) ?_ ?_
 ·simp_all
 ·grind[aS]
 ·rintro i H' hi y1_;have 61.4:=y1_;revert hi y1_ kk Z y er j hL ak a0 e;revert i H' q d U Y;intros i H' q d U Y hi y1_ kk Z y er j hL ak a0 e;obtain⟨m,em⟩:∃m,k - i=m + 1:=⟨k - i - 1,70. ⟩;rw[em]at j;have⟨c,r2,ys,e2,b4,ey,aw⟩:=xP j;have 28. hq e3:=drop_cons e2;have⟨ao,l3,aq,b5⟩:=id Z.ex;have b6:q + 1<=f.length:=048 hq;have ax:r2.length=85.6 68.7:=70.
  refine⟨rfl,w4<|5.<|8.0 ao aq<|0e7 f q Z (fun c' l H4 ar ah k4 R4 N b7 hl=>?_)<|4e7 G ⟩
  ·rw[hq]at ar;obtain rfl:c=c':=70.
   rw[<-e3]at hl;have au:=k4.to _ _ y aj;have a3:54. l:=kk.none Z N;have b8:l≠D:=33.9
   have a4:=kk.trans k4;refine(e12 _ au 121.<|e48 (q + 1 + c) (d++[l]) (U++[r2.take c]) ys (a4.put g) (R.put a4 R4 g) ?_ ?_ ?_ ?_ ?_ ?_<| ?_)
   ·grind[aJ]
   ·grind
   ·grind[List.drop_drop]
   ·refine mI.snoc a3 (817.) (mI.keep (fun b u G h0 h=>?_) hL);have B:b≠r:=33.9
    rw[aS<|a0 b G];exact k4.to _ _ h B
   ·simp[*]
   ·grind
   have B:nl≠r:=fun z=>52.
   rw[5e9 S hD];exact 70.0 k4.to B
  grind
 rintro H' y1_;have 61.4:=y1_;rw[Nat.sub_self]at j;have e5:Y=[]/\f.drop q=rest:=by grind[PyFlat.rows]
 have 28. rfl e6:=e5;(try clear e5);rw[dn]at er;subst er;refine(5.<|5.<|5.<|fun x dx hx hd b9=>(e52 x dx _ _ _ rfl aJ<|fun H5 kp av=>078));have sm:bC H' H5:=600. hx kp;exact kq q x H5 (kk.trans<|Kp.of sm) (Z.mono sm) e6<|e43 dx nl D d av (70.0 sm) (sm _ _ y)<|mI.keep (fun b u G h0 h=>sm _ _ h) hL
open Vacola (Leaf Lit Mode Head Fields fits showLit)
open VacolyNeutral (encode text callOf)
inductive hZ:Int->Sg->05 (Sg)->Vacoly.Call->Prop
 |schema (t l:Sg) (h:670.):hZ 0 [] [t,l] (.schema (text t) l)
 |put (t:Sg) (h:670.):hZ 1 [] [t] (.put (text t))
 |drop (k:Sg):hZ 2 [] [k] (.drop k)
 |flush:hZ 3 [] [] .flush
 |merge (i n:Int):hZ 4 [i,n] [] (.merge i n)
 |advise:hZ 5 [] [] .advise
 |snap:hZ 6 [] [] .snap
 |close (n:Int):hZ 7 [n] [] (.close n)
 |get (p:Int) (k:Sg):hZ 8 [p] [k] (.get p k)
 |scan (p n:Int) (x y:Sg):hZ 9 [p,n] [x,y] (.scan p n x y)
 |runs:hZ 10 [] [] .runs
 |run (n:Int):hZ 11 [n] [] (.run n)
 |held:hZ 12 [] [] .held
theorem Oj{P:67.1}(l:0=u.length)(h:P []):P u:=by
 cases u with
 |nil=>exact h
 |cons _ _=>cases l
theorem PX{P:67.1}(l:1=u.length)(h:∀b,P [b]):P u:=by
 cases u with
 |nil=>cases l
 |cons b u=>exact 46.3 Oj
theorem Qe{P:67.1}(l:2=u.length)(h:∀b c,P [b,c]):P u:=by
 cases u with
 |nil=>cases l
 |cons b u=>exact 46.3 PX
theorem HF{n m:Nat}(s:7. (n,m)=7. (i,j)):n=i/\m=j:=by cases s;exact 439.
theorem E9{M:Int->Sg->359. (Sg)}(s:036 e)(c0:∀t l,M 0 [] [t,l])(c1:∀t,M 1 [] [t])(c2:∀t,M 2 [] [t])(c3:M 3 [] [])(c4:∀i n,M 4 [i,n] [])(c5:M 5 [] [])(c6:M 6 [] [])(c7:∀n,M 7 [n] [])(c8:∀p t,M 8 [p] [t])(c9:∀p n x y,M 9 [p,n] [x,y])(c10:M 10 [] [])(c11:∀n,M 11 [n] [])(c12:M 12 [] []):M e xs d:=by
 revert s c0 c1 c2 c3 c4 c5 c6 c7 c8 c9 c10 c11 c12;revert e xs d M;intros e xs d M s c0 c1 c2 c3 c4 c5 c6 c7 c8 c9 c10 c11 c12
 have n00:∀{e},M e [] []->28.2 0 0:=fun h l=>117. Oj<|169. Oj [] h;have n10:∀{e},(∀n,M e [n] [])->28.2 1 0:=fun h l=>117. PX fun n=>169. Oj [n]<|h n;have n01:∀{e},(∀t,M e [] [t])->28.2 0 1:=fun h l=>117. Oj<|169. PX [] h;unfold PyVacoly.shape at s;by_cases h:e=0
 ·rw[aP h]at s;rw[h];have l:=HF s;exact 117. Oj<|169. Qe [] c0
 rw[aM h]at s;clear h;by_cases h:e=1
 ·rw[aP h]at s;rw[h];exact n01 c1<|HF s
 rw[aM h]at s;clear h;by_cases h:e=2
 ·rw[aP h]at s;rw[h];exact n01 c2<|HF s
 rw[aM h]at s;clear h;by_cases h:e=3
 ·rw[aP h]at s;rw[h];exact n00 c3<|HF s
 rw[aM h]at s;clear h;by_cases h:e=4
 ·rw[aP h]at s;rw[h];have l:=HF s;exact 117. Qe fun i n=>169. Oj [i,n]<|c4 i n
 rw[aM h]at s;clear h;by_cases h:e=5
 ·rw[aP h]at s;rw[h];exact n00 c5<|HF s
 rw[aM h]at s;clear h;by_cases h:e=6
 ·rw[aP h]at s;rw[h];exact n00 c6<|HF s
 rw[aM h]at s;clear h;by_cases h:e=7
 ·rw[aP h]at s;rw[h];exact n10 c7<|HF s
 rw[aM h]at s;clear h;by_cases h:e=8
 ·rw[aP h]at s;rw[h];have l:=HF s;exact 117. PX fun i=>169. PX [i]<|c8 i
 rw[aM h]at s;clear h;by_cases h:e=9
 ·rw[aP h]at s;rw[h];have l:=HF s;exact 117. Qe fun i n=>169. Qe [i,n]<|c9 i n
 rw[aM h]at s;clear h;by_cases h:e=10
 ·rw[aP h]at s;rw[h];exact n00 c10<|HF s
 rw[aM h]at s;clear h;by_cases h:e=11
 ·rw[aP h]at s;rw[h];exact n10 c11<|HF s
 rw[aM h]at s;clear h;by_cases h:e=12
 ·rw[aP h]at s;rw[h];exact n00 c12<|HF s
 rw[aM h]at s;cases s
theorem Ol(s:036 e):48.3:=by
 have q:∀{b:Bool} {c:Vacoly.Call},(if 4e2 b then 7. c else none)=7. k->4e2 b/\c=k:=fun{b c} h=>by
  cases b with
  |true=>exact⟨rfl,cE h⟩
  |false=>cases h
 exact E9 (M:=fun e xs d=>48.3) s (fun t l h=>(q h).2▸ .schema _ _ (q h).1) (fun t h=>(q h).2▸ .put _ (q h).1)
  (fun t h=>cE h▸ .drop _) (fun h=>cE h▸ .flush) (fun i n h=>cE h▸ .merge _ _) (fun h=>cE h▸ .advise) (fun h=>cE h▸ .snap) (fun n h=>cE h▸ .close _)
  (fun p t h=>cE h▸ .get _ _) (fun p n x y h=>cE h▸ 015 .scan _) (fun h=>cE h▸ .runs) (fun n h=>cE h▸ .run _) fun h=>cE h▸ .held
theorem dV(x y):2e5 x y=66.9:=44.
theorem Qg{x y:Int}{A B:Prop}(h:x≠y)(b:B):if 2e5 x y=true then A else B:=95.
theorem Om{x:Int}{A B:Prop}(b:A):if 2e5 x x=true then A else B:=by
 cutsat
def Oo(bF:aA)(aL:Ad):Sp:=fun vs H Q _=>∃t s fs ci num k,762. t.tb num/\0.4/\hZ num [] [] k/\
 4e9 k k
theorem qL(T:19.):01 6 aL.fbZ aL.dbZ 10.9 (0e4 Oo):=by
 refine 4. T.FbZ SbZ
 intros _ _ _ _ H _ _ _ f y1_;let⟨t,st,fs,ci,num,k,rfl,e,p,g⟩:=y1_;obtain⟨b,c⟩:∃b,∃i j l m ls sn n,H t.tb=7. (7.7 b<|nO i j l m ls sn n):=by have 170. i j:=id e;obtain⟨b,c⟩:=d.core.obj;grind
 have⟨i,j,l,m,ls,sn,n,c⟩:=c;refine(1.2 (26.8 T.gc8 (aO<|bJ<|193. T.mb6 xI f T.Bb6 dM)
  <|26.8 T.gda (aO<|bJ<|193. T.mbT vH f T.BbT dM)
  <|26.8 T.gdb (aO<|bJ<|193. T.mbU yH f T.BbU dM)
  <|26.8 T.gdf (aO<|bJ<|193. T.mbW yK f T.BbW dM)
  <|aO<|bJ<|193. T.mb8 yG f T.Bb8 dM)<| ?_)
 cases p;all_goals repeat refine(5.<|⟨rfl,5.<|Qg (08) ?_⟩)
 all_goals first
  |exact(5.<|⟨rfl,5.<|Om<|5.<|042 b c<|153. e42 rfl e<|g⟩)
  |exact(5.<|042 b c<|153. e42 rfl e<|g)
theorem xQ{t:Sg}(h:670.):080 t.map=2e6 text t vN:=by
 unfold NeutralIO.bytes at h;rw[eE]at h;unfold text;rw[bQ];refine de (63. z hz);have:=h z hz;rw[bI,fZ]at this
 show V.int z=546. (z.toNat:Nat)
 rw[86.8 this.1]
def Kk(bF:aA)(aL:Ad):Sp:=fun vs H Q _=>∃t s x num xs rows k c,428. t.tb x/\29.3 H/\Ki aL c H x num xs rows/\(∀b,40.7\/t.old b->c b≠none)/\hZ num xs rows k/\(∀r∈rows,940.)/\
 Mg aL t H Q (213. s k).1 (789. s)
theorem HG(h:s.schema=7. (fs,cols))(d:hZ b xs c k)(e:b≠0):213. s k=Vacoly.stepHeld s fs cols k:=by
 revert h d e;revert fs cols b xs c k s;intros fs cols b xs c k s h d e
 cases d with
 |schema _ _ _=>cutsat
 |_=>unfold Vacoly.step;rw[h]
theorem HH(h:s.schema=none)(d:hZ b xs c k)(e:b≠0):213. s k=(s,.refused (-2)):=by
 revert h d e;revert b xs c k s;intros b xs c k s h d e
 cases d with
 |schema _ _ _=>cutsat
 |_=>unfold Vacoly.step;rw[h]
theorem xR(T:19.):01 32 aL.fbY aL.dbY 34.7 (0e4 Kk):=by
 refine 4. T.FbY SbY
 intros _ _ _ _ H _ Q _ C y1_;let⟨t,st,x,num,xs,rows,k,H0,rfl,O,z2_,G,M,o,J⟩:=y1_;let⟨b,nl,I,y,c,f,j,m⟩:=z2_;refine(1.2 (792. T.gc5 (aO<|bJ<|6e5 T.mbh vI C T.Bbh<|596.)
  <|10.8 (t7<|wb<|069) T.gdi
  <|792. T.gc6 (aO<|bJ<|6e5 T.mbQ AW C T.BbQ<|dZ<|79.8)
  <|792. T.gc7 (aO<|bJ<|6e5 T.mbR yI C T.BbR<|dZ<|79.8)
  <|792. T.gc9 (aO<|bJ<|6e5 T.mbS xJ C T.BbS<|596.)
  <|792. T.gdc (aO<|bJ<|6e5 T.mb7 xH C T.Bb7<|dZ<|79.8)
  <|792. T.gdd (aO<|bJ<|6e5 T.mbV AX C T.BbV<|596.)
  <|aK (349. T.gde (aO<|bJ<|6e5 T.mbi yJ C T.Bbi<|dG (79.8)<|dG (79.8)<|596.) bS)
  <|792. T.gdg (aO<|bJ<|6e5 T.mbX AY C T.BbX<|dZ<|79.8)
  <|aO<|bJ<|044 qL C T.gbZ T.FbZ.kp T.BbZ<|gG 31.<|13. 1)<| ?_)
 dsimp only[dO];by_cases L:num=0
 ·subst L;cases M with
  |schema tt l S=>
   have⟨a5,a6,F0,R0,U,a7,a8,core⟩:=O.core;obtain⟨q,r⟩:=core.obj
   match y,m with
   | [B,V],m=>
   have 049 z1_ z2_:=m;obtain⟨_,D⟩:=z1_;obtain⟨_,Y⟩:=z2_;refine(5.<|167.<|5.<|Om<|5.<|042 q r<|5.<|828.<|13.3<|5.<|828.<|13.3<|e64 t st B V (text tt) l rfl O (by rw[D,xQ S]) Y<|J)
 rcases O with⟨es,kl,core⟩|⟨fs,ci,e⟩
 ·obtain⟨q,r⟩:=core.obj;rw[HH (by rw[es];rfl) M L]at J;refine(5.<|167.<|5.<|Qg L<|5.<|56. q r T.ncv uQ<|5.<|dv (259. Z));exact J.back (542.) (97. ⟨es,kl,core⟩) Z rfl
 have 170. rv kl:=id e;obtain⟨q,r⟩:=d.core.obj;rw[HG d.ok.NO M L]at J;have u:718. (07 st k).1 ci (encode (07 st k).2):=fun l t' H' fr ht hn Z=>J l t' H' fr (8.4 (e20 fs ci<|ht)) hn Z;have a0:=d.gO.kind;rw[cI]at a0;obtain⟨gg,a3⟩:∃g,rv= 02 g:=70.
 subst a3;refine(5.<|167.<|5.<|Qg L<|5.<|56. q r T.ncv uQ<|918.);cases M;all_goals repeat refine(5.<|167.<|5.<|Qg (08) ?_)
 all_goals try refine(5.<|167.<|5.<|Om<|5.<|042 q r<| ?_)
 case schema=>cutsat
 case put tt S=>
  match y,m with
  | [B],m=>
  have 28. z1r _:=m;(try clear m);obtain⟨N,D⟩:=z1r;exact(5.<|828.<|13.3<|153. e64 B (text tt) rfl e ⟨fun z=>G B (97. z) N,fun z=>G B (8.4 z) N⟩ (by rw[D,xQ S])<|u)
 case drop kk=>
  match y,m with
  | [B],m=>
  obtain⟨⟨N,D⟩,_⟩:=m;exact(5.<|828.<|13.3<|153. e64 B kk rfl e D (o _ bM)<|u)
 case merge i n=>exact(5.<|829.<|826.<|5.<|829.<|826.<|153. e62 i n rfl e<|u)
 case close n=>exact(60.4)
 case get p kk=>
  match y,m with
  | [B],m=>
  obtain⟨⟨N,D⟩,_⟩:=m;exact(5.<|829.<|826.<|5.<|828.<|13.3<|153. e74 p B kk rfl e D (o _ bM)<|u)
 case scan p n k1 k2=>
  match y,m with
  | [B,V],m=>
  have 049 z1_ z2_:=m;have 073 D:=z1_;(try clear z1_);have 073 Y:=z2_;(try clear z2_);exact(5.<|829.<|826.<|5.<|829.<|826.<|5.<|828.<|13.3<|5.<|828.<|13.3<|153. ea6 p n B V k1 k2 rfl e D (o _ bM) Y (o _<|bO _ bM)<|u)
 case run n=>exact(60.4)
 case flush=>exact(6.1 .flush)
 case advise=>exact(6.1 .advise)
 case snap=>exact(6.1 .snap)
 case runs=>exact(6.1 .runs)
 case held=>exact(6.1 .held)
theorem qK.moved(h:29.3 H)(k:987. H H')(r:∀b,t.old b->∃o,60. H')(u:10.1):29.3 H':=by
 have g:∀{i m:V} {F:lS} {R:zE} {last p:Nat} {f:80.0},236. i m last p f->iQ aL H' t i m F R last p f:=fun c=>by have own:∀b,40.7-> ¬ t.old b:=fun b j z=>(c.old b z).1 j;exact⟨let 28. v e:=c.obj;⟨v,70.0 k<|own _ lX⟩,k _ _ c.fl<|own _ xF,k _ _ c.rl<|own _ AQ,k _ _ c.sn<|own _ E3,c.ne,fun b j=>⟨(c.old b j).1,r b j⟩⟩
 rcases h with⟨e,l,c⟩|⟨fs,ci,i,l,F,R,d⟩
 ·exact 97. ⟨e,l,g c⟩
 exact 8.4 (e60 fs ci i l F R<|⟨g d.core,d.gO.of (fun b o n q=>⟨n,k _ _ q n.2⟩) u,d.fresh,d.runs,d.ok⟩)
def HI(bF:aA)(H:Hp)(t:TA)(l:Addr)(xs:05 V):Prop:=(Rd H l (1e6 xs)/\jd t l)\/cX bF (238.) l xs
theorem HI.seq(h:73.1 H):cX bF H l xs:=by
 rcases h with⟨h,_⟩|(h|⟨_,h⟩)|h
 ·exact 97. h
 ·cases h
 ·cases h
 exact 8.4 h
theorem HI.new(h:cX bF H l xs)(d:5.7)(c:∀b,40.7\/t.old b->851.):73.1 H':=by
 rcases h with(h|⟨o,h⟩)|h
 ·exact 97. ⟨.inl (d _ _ h),42.8,(53.6)⟩
 ·exact 97. ⟨.inr ⟨o,d _ _ h⟩,42.8,(53.6)⟩
 exact 152. h
theorem HI.frame(h:73.1 H)(b:312.):HI bF H' t' l xs:=by
 rcases h with⟨h|⟨o,h⟩,n⟩|h
 ·exact 97. ⟨.inl (b.keep _ _ h n.1),b.CO h n⟩
 ·exact 97. ⟨.inr ⟨o,b.keep _ _ h n.1⟩,b.CO h n⟩
 exact 8.4 h
theorem HI.moved(h:73.1 H)(k:987. H H'):73.1 H':=by
 rcases h with⟨h|⟨o,h⟩,n⟩|h
 ·exact 97. ⟨.inl (k _ _ h n.2),n⟩
 ·exact 97. ⟨.inr ⟨o,k _ _ h n.2⟩,n⟩
 exact 8.4 h
theorem Kl(s:036 e):44.3:=
 E9 (M:=fun e xs d=>44.3) s (50.) (322.) (322.) rfl (50.) rfl rfl (322.) (50.) (fun _ _ _ _=>rfl) rfl (322.) rfl
theorem C2(h:(t.all fun(z:Int)=>VacolyNeutral.natural z 8)=true):NeutralIO.bytes t=true:=by unfold NeutralIO.bytes;rw[eE]at h ⊢;intro z hz;have:=h z hz;unfold VacolyNeutral.natural at this;grind
theorem Fb(s:036 f):189.:=by
 have q:∀{a b:Bool},4e2 (a&&b)->4e2 a/\4e2 b:=fun h=>358. h;have l1:∀{t:Sg} {n:Nat},61. (429. n)=true->n<=10000->∀r∈[t],940.:=fun h n r m=>by rw[cG.mp m];exact bU (cZ h) n
 have l2:∀{t u:Sg} {n m:Nat},61. (429. n)=true->n<=10000->881. u.length m=true->m<=10000->∀r∈[t,u],940.:=fun h n g m r b=>by
  rcases 819. b with rfl|b
  ·exact bU (cZ h) n
  exact l1 g m r b
 have l0:∀r∈([]:05 (Sg)),940.:=fun r m=>nomatch m;exact E9 (M:=fun f xs d=>189.) s
  (fun t l h=>⟨_,aP<|C2 (q (q h).1).1,l2 (q (q h).1).2 (08) 88.4<|08 ⟩)
  (fun t h=>⟨_,aP<|C2 (q h).1,l1 (q h).2<|08 ⟩)
  (fun t h=>⟨_,rfl,l1 (q h).2<|08 ⟩) (942.) (fun _ _ _=>69. _ l0) (942.) (942.) (fun _ _=>69. _ l0)
  (fun p t h=>⟨_,rfl,l1 88.4<|08 ⟩) (fun p n x y h=>⟨_,rfl,l2 (q (q 88.4).1).2 (08) (q (q 88.4).2).2<|08 ⟩)
  (942.) (fun _ _=>69. _ l0) 942.
theorem uU(h:185. f l=7. d):(l=[]/\d=[])\/∃e c t b,150./\d=c::b/\185. e t=7. b:=by
 cases l with
 |nil=>grind[PyFlat.calls]
 |cons p r=>
  cases f with
  |zero=>trivial
  |succ f=>grind[PyFlat.calls]
theorem Fc:∀{k:Nat} {l:Sg} {xs:05 (Sg)} {t:Sg},11.6 l xs->29.1 k
 |0,l,xs,t,h=>by cases h;rfl
 |k + 1,l,xs,t,h=>by obtain⟨n,r,ys,_,_,rfl,b⟩:=xP h;exact dQ (· + 1)<|Fc b
theorem Fd(h:150.):∃p xs d,c=(p::xs)::d/\036 p:=by obtain⟨p,r,n,k,xs,_,s,m,b,e⟩:=tQ h;exact⟨p,_,xs,e,by rw[cP,719. m,Fc b];exact s⟩
theorem C3{d:9.7 (Sg)}:∀{f l},185. f l=7. d->∀c∈d,∃p xs e,c=(p::xs)::e/\877. p (xs.length,e.length):=by
 induction d with
 |nil=>intro f l h c m;cases m
 |cons x d ih=>
  intro f l h c m;rcases uU h with⟨_,z⟩|⟨e,y,t,b,k,z,n⟩
  ·cases z
  cases z;rcases 819. m with rfl|m
  ·exact Fd k
  exact ih n c m
theorem HJ(x)(l):23.4 (x::l)=(47. x.length::x)++23.4 l:=by
 cutsat
theorem C4:∀{k:Nat} {l:Sg} {xs:05 (Sg)} {t:Sg},11.6 l xs->429. l.length
 |0,l,xs,t,h=>by grind[PyFlat.rows]
 |k + 1,l,xs,t,h=>by have⟨n,r,ys,rfl,c,_,b⟩:=xP h;have:=C4 b;grind
theorem Km(h:150.):t.length<l.length:=by have⟨p,r,n,k,xs,rfl,_,_,b,_⟩:=tQ h;have:=C4 b;grind
def PY(bF:aA)(aL:Ad)(d:Sg)(h:9.7 (Sg))(i l r g:Addr)(m:Nat)(n:L2.St)(H:Hp):Prop:=
 ∃(t:TA) (p:Nat) (o:Addr) (s:aF) (j:9.7 (Sg)) (f:Nat) (e:Sg) (k:74. V),n=[72. i,72. l,72. r,72. g,k]/\t.tb=l/\t.old=(fun b=>b=r\/b=g)/\29.3 H/\HI bF H t i (080 d.map)/\
  671. o i/\p<=d.length/\H g=425. e.map/\185. f (d.drop p)=7. j/\(∀c∈j,c∈h)/\e++23.4 (111. s j)=PyVacoly.answers d/\m=d.length - p
theorem Fe(T:19.):01 33 aL.faL aL.daL RU (ny bF):=by
 refine 4. T.FaL SaL
 intros _ _ _ _ H _ _ _ hr y1_;let⟨l0,u,rfl,ar,v,kq⟩:=y1_;have nd:=SaL.nd;refine(1.2 (aK (47.8 1<|Io T.Maa (yL T) (hr.mono<|08) 90. T.gaa T.Bcl .nil dM)
  <|86.2
  <|513. 3
  <|aK (lA bV (iX<|dJ<|nu 010 T.Cac T.maI (ig T) hr T.BaI dM)
   <|aK (47.8 4<|044 xR hr T.gbY T.FbY.kp T.BbY<|gG 79.<|044 Ba hr T.gaY T.FaY.kp T.BaY<|000 2)
   <|aK (dg<|195. 777.<|dZ<|751. 4)
   <|aO<|dg<|386. 777.<|000 4)
  <|057 3)<| ?_)
 dsimp only[dO];unfold PyVacoly.answers_asked at v
 match I:185. u.length u with
 |none=>rw[I]at v;cases v
 |7. B=>
 rw[I]at v;simp only[bI]at v;have 28. z1r Y:=v;(try clear v);obtain⟨⟨⟨_,_⟩,_⟩,j⟩:=z1r;have a5:B.map PyVacoly.whole=B:=(de fun c m=>by obtain⟨p,xs,e,rfl,s⟩:=C3 I c m;exact Kl s).trans<|List.map_id _;rw[a5]at j;have au:PyVacoly.answers u=23.4 (111. VacolyNeutral.start B):=by
  unfold PyVacoly.answers PyVacoly.calls;rw[I]
  show 23.4 (111. VacolyNeutral.start<|B.map PyVacoly.whole)=_
  rw[a5]
 have bx:0.3 PyVacoly.answers u<=10000000:=cZ Y;have av:∀c∈B,VacolyNeutral.asked1 c=true:=by unfold VacolyNeutral.asked at j;rw[bI,eE]at j;exact j.1
 intros tb bc ab a6 c1;refine(26.3 tb bc aJ<| ?_);intros Z H1 aw L ax ay;refine 078;have M:bC H H1:=bC.made ab a6 ax;have a7:∀b,Own Z b->851.:=fun b J=>by
  rcases L b J with z|z
  ·rw[z];exact ab
  match q:H b with
  |none=>rfl
  |7. o=>rw[5e9 q ab,5e9 q a6,q]at z;cases z
 refine(48.);intros r az a0 b0 b1;refine(e43 r az l0 u rfl aJ ((bC.trans (5.1 b0)<|bC.put<|by rw[aS<|eC b1];exact a0).seq<|M.seq ar)<| ?_);intros H2 b2 a3 R2;refine 078;have N:bC H1 H2:=bC.made a0 b0 b2;refine 276.;intros g hg
 have O:bC H2 (4.9 H2 g):=5.1 hg;have bf:∃kl,iQ aL H1 Z .gm (02 kl) [] [] 0 0 []:=by
  rcases ay with⟨_,kl,c⟩|⟨fs,ci,rv,kl,F,R,d⟩
  ·exact 28. kl c
  have:=d.ok.NO;cases this
 let 28. kl c0:=bf;(try clear bf);have ae:g≠r:=fun z=>by rw[z,a3]at hg;cases hg
 have b3: ¬ Own Z r:=c0.AS a0;have b4: ¬ Own Z g:=c0.AS<|N.free hg;rcases 305. _ with⟨t,et⟩:∃t:TA,t=⟨Z.tb,Z.fl,Z.rl,Z.sn,fun b=>b=r\/b=g⟩;have a8:∀b,40.7 ↔Own Z b:=fun b=>by rw[et];exact x4
 have c3:=(c0.same N).same O;have b5:qK aL (4.9 H2 g) t Vacoly.start:=by
  refine 97. ⟨rfl,kl,?_⟩;rw[et];exact⟨c3.obj,c3.fl,c3.rl,c3.sn,c3.ne,fun b J=>by
   rcases J with rfl|rfl
   ·exact⟨b3,_,O _ _ a3⟩
   exact⟨b4,_,aJ⟩⟩
 have b6:bC H (4.9 H2 g):=M.trans<|N.trans O;have b7:HI bF (4.9 H2 g) t l0 (080 u.map):=HI.new ar b6 fun b J=>by
  rcases J with z|z
  ·exact a7 b<|(a8 b).mp z
  rw[et]at z;rcases z with rfl|rfl
  ·exact M.free a0
  exact(M.trans N).free hg
 refine(e11 (0e4 PY u B l0 tb r g) (e9b (u.length - 0) t 0 az Vacoly.start B u.length [] none rfl (by rw[et];exact aw) (by rw[et]) b5 b7 (O _ _ a3) 81.8 aJ I (fun c h=>h) ?_<|rfl)<| ?_)
 ·rw[List.nil_append,au];rfl
 clear b5 b7 b6 c3 a8 et b4 b3 c0 kl O hg N R2 a3 b2 a7 M ay ax L aw t
 intros m σ H' y1_;let⟨t,p,dx,st,cs,f,C,c2,rfl,et,eo,hT,hL,af,hp,b8,ag,ah,S,rfl⟩:=y1_;have R:43. H' u p:=28. (e21 dx l0 af<|hL.seq) hp;have⟨c4,c5,F0,R0,bg,c6,c7,core⟩:=hT.core;have b9:t.old r:=by rw[eo];exact 8.5
 have bh:t.old g:=by rw[eo];exact 674.
 have bj:=(core.old r b9).1;have ba:=(core.old g bh).1;refine(5.<|8.0 dx af<|695. u);by_cases ai:p=u.length
 ·rw[aY ai];refine dw<|5.<|kq H' g ?_;have hd:u.drop p=[]:=by rw[ai];exact jV ..
  rw[hd]at ag;rcases uU ag with⟨_,rfl⟩|⟨f',c,tt,a4,hc,_⟩
  ·rw[b8,<-S]
   show _=7. (HO.lst<|080 (C++[]).map)
   rw[dn]
  cases hc
 rw[aX ai];refine dv ⟨fun bk bl=>∃m',m'<u.length - p/\0e4 PY u B l0 tb r g m' bk bl,814.,?_⟩;rcases uU ag with⟨hd,_⟩|⟨f',c,rest,a4,y,rfl,bb⟩
 ·have:=090 hd;rw[dX,ia]at this;grind
 have⟨num,rr,nn,kk,rows,e1,s1,s2,s3,ec⟩:=tQ y;have ss:877. num (0.3 rr.take nn,rows.length):=by rw[cP,719. s2,Fc s3];exact s1
 rw[ec]at y ah S;have c8:=Km y;have⟨k,hk,bo⟩:=Fb ss<|av _<|ah _ bM;have aj:VacolyNeutral.step st ((num::rr.take nn)::rows)=((213. st k).1,789. st):=by unfold VacolyNeutral.step;rw[hk]
 have D:C++((47. (789. st).length::789. st)++23.4 (111. (213. st k).1 a4))=PyVacoly.answers u:=by
  rw[<-S]
  show _=C++23.4 ((11.4).2::111. (11.4).1 a4)
  rw[aj,HJ]
 obtain⟨G,a9⟩:∃G,G=789. st:=981.;rw[<-a9]at D;have c9:C.length + (G.length + 1)<=10000000:=by
  have:=090 D;rw[bE,bE,aZ]at this
  lia
 refine(5.<|5.<|e73 r u p num (rr.take nn) rows rest rfl R y<|fun q x H1 kp R1 eq hC=>?_);let⟨bp,l1,U,q2,q3,q4⟩:=R.same kp R1;rw[af]at U;have bq:l0=l1:=by injection U with U;injection U with _ _ U;injection U with U _;injection U with _ U;injection U
 subst bq;have k1:987. H' H1:=fun b o h n=>kp.to b o h fun z=>n<|by rw[z];exact b9
 have ak:H1 g=425. C.map:=kp.to _ _ b8 ae;have br:qK aL H1 t st:=hT.moved k1 (fun b J=>by
  rw[eo]at J;rcases J with rfl|rfl
  ·exact 073 q2
  exact 073 ak)<|kp.fg R
 have bt:=hL.moved k1;refine(e86 t st x num (rr.take nn) rows k H' (by rw[et];rfl) br hC ?_ (Ol ss hk) bo<|fun l t' H2 fr bu hn hl=>?_)
 ·intros b J z;rcases J with h|h
  ·exact core.AS z h
  have 073 ⟨o,e⟩:=core.old b h;rw[z]at e;cases e
 rw[<-a9]at hl;have bw:l≠g:=fun z=>ba<|z▸hn _ (z▸ak);have ao:=fr.keep _ _ ak ba;have aa:=fr.keep _ _ q2 bj;refine(51. ao<|5.<|3.3 l hl<|127. g ao 121.<| ?_);rw[aI];refine(51. aJ<|5.<|8.8 g l aJ (by rw[aS bw];exact hl) (by simp only[bE,aZ,ia,aI];show _<=059;lia)<| ?_);rw[fY];have aq:t'.old=fun b=>b=r\/b=g:=fr.old.trans eo;have cb:u.length - q=rest.length:=by
  have:=090 eq
  rwa [dX]at this
 have cc:0.3 u.drop p=u.length - p:=dX ..;have k3:∀b o,60. H2-> ¬ t'.old b->upd H2 g (1e6 ((080 C.map++[34. G.length])++080 G.map)) b=7. o:=fun b o h n=>by rw[aS fun z=>n (by rw[aq,z];exact 674.)];exact h
 refine(e11 (u.length - q) (52.)<|e8b t' q bp ((213. st k).1) a4 f' (C++(47. G.length::G)) (82. l) rfl (fr.tb.trans et) aq (bu.moved k3 (63. b J) fun b ys h=>?_) ((bt.frame fr).moved k3) ?_ R1.le ?_ ?_ (fun c hc=>ah c<|bO _ hc) ?_<|rfl)
 ·rw[aq]at J;rcases J with rfl|rfl
  ·exact⟨_,by rw[aS<|eC ae];exact aa⟩
  exact 073 aJ
 ·rw[aS<|i6 h ao (81.)];exact h
 ·rw[aS<|eC ae];exact aa
 ·rw[aJ,bG,bD,cY];rfl
 ·rw[eq];exact bb
 rw[cY];exact D
#check SR
namespace L2
open PySem PySem.Spec PyProof.Rows
open PySem.W (WData Codec OpenSpec Well WellAll ReadsW ReadsAllW)
mutual
inductive Dw(K:aA)(H:Hp):20. V WData
 |gm:Dw K H .gm 57.3
 |bl (b:Bool):Dw K H (.bl b) (68.1)
 |int (i:Int):Dw K H (50.3) (50.3)
 |str (x:Str):Dw K H (68.0) (68.0)
 |Bm (b:Array UInt8):Dw K H (.Bm b) (.bytes b.toList)
 |lst {a:Addr} {xs:05 V} {ds:05 WData}:67.3->oZ K H xs ds->Dw K H 031 (.list ds)
 |tup {a:Addr} {xs:05 V} {ds:05 WData}:93.1 oZ Dw
inductive oZ(K:aA)(H:Hp):05 V->359. WData
 |nil:oZ K H [] []
 |cons {v:V} {vs:05 V} {d:WData} {ds:05 WData}:Dw K H v d->oZ K H vs ds->oZ K H (v::vs) (d::ds)
end
theorem Mh{K:aA}{H:Hp}:∀a:Sg,oZ K H (080 a.map) (a.map WData.int)
 | []=> .nil
 |n::r=> 9e6 (59. n)<|Mh r
theorem Mi{K:aA}{H:Hp}:∀(a:Sg) (xs:05 V),oZ K H xs (a.map WData.int)->xs=080 a.map
 | [],xs,h=>by cases h;rfl
 |n::r,xs,h=>by
  cases h with
  |cons b c=>cases b;rw[Mi r _ c] <;> rfl
section
variable{P:aD}{w:World}{K:aA}{H:Hp}{h:Heap}{R:W.WRecords}{cl:Str->20.1}
theorem Oq{a:Addr}{xs:05 V}(fh:12.6)(KX:K.In h)(q:67.3):58.0 37.6:=by
 revert fh KX q;revert P w K H h a xs;intros P w K H h a xs fh KX q;rcases q with q|⟨o,its,n,e,hc,_,hd,_,hv⟩
 ·have 073 ⟨its,n,hv,e⟩:=(show 824. (1e6 xs)from q.ok fh);exact⟨its,_,n,hv,e,rfl,rfl⟩
 exact 43.0
theorem Ot{a:Addr}{xs:05 V}(fh:12.6)(KX:K.In h)(q:67.2):58.0 2e8:=by
 revert fh KX q;revert P w K H h a xs;intros P w K H h a xs fh KX q;rcases q with q|⟨o,its,n,e,hc,hd,_,hv⟩
 ·refine x0_1 ((show 824. (.tup xs)from q.ok fh)) fun _ zz_=>278. fun its hv zz_=>x1_2 zz_ fun o e hc zz_=>656. n hd;exact⟨its,o,n,hv,e,hc,hd⟩
 exact 43.0
mutual
theorem Dw.reads(a:12.6)(c:K.In h):∀d v u,Dw K H v d->80.5->∃as,ReadsW R cl h u d as
 | 57.3,_,_,x,r=>by cases x;cases r;exact 073 ReadsW.none
 | 68.1,_,_,x,r=>by cases x;cases r;exact⟨_,ReadsW.bool b⟩
 | 50.3,_,_,x,r=>297. ReadsW.int i
 | .str s,_,_,x,r=>297. ReadsW.str s
 | .bytes b,_,_,x,r=>297. ReadsW.bytes _
 | .list e,_,_,x,r=>by
  cases x with
  |lst hs f=>cases r;have⟨its,o,n,g,j,k,hd⟩:=Oq a c hs;obtain⟨as,l⟩:=Dw.readsAll a c e _ its f g;exact⟨_,ReadsW.list j k hd l⟩
 | .tuple e,_,_,x,r=>by
  cases x with
  |tup hs f=>cases r;have⟨its,o,n,g,j,k,hd⟩:=Ot a c hs;obtain⟨as,l⟩:=Dw.readsAll a c e _ its f g;exact⟨_,ReadsW.tuple j k hd l⟩
 | .float _,_,_,x,_=>65.4
 | .dict _,_,_,x,_=>65.4
 | .bytearray _,_,_,x,_=>65.4
 | .set _,_,_,x,_=>65.4
 | .frozenset _,_,_,x,_=>65.4
 | .obj _ _,_,_,x,_=>65.4
theorem Dw.readsAll(a:12.6)(c:K.In h):∀b vs us,oZ K H vs b->091 vs->∃as,ReadsAllW R cl h us b as
 | [],_,_,x,r=>by cases x;cases r;exact 073 ReadsAllW.nil
 |d::b,_,_,x,r=>by
  cases x with
  |cons e f=>
   cases r with
   |cons g i=>obtain⟨as,j⟩:=Dw.reads a c d _ _ e g;obtain⟨bs,k⟩:=Dw.readsAll a c b _ _ f i;exact⟨_,ReadsAllW.cons j k⟩
end
#check 0
mutual
def F8:WData->Bool
 | 57.3=>true
 | .bool _=>true
 | 59. _=>true
 | .str _=>true
 | .bytes _=>true
 | .list xs=>vJ xs
 | .tuple xs=>vJ xs
 |_=>false
def vJ:05 WData->Bool
 | []=>true
 |x::r=>F8 x&&vJ r
end
theorem C5{α:Type}{f:α->WData}(h:∀a,F8 (f a)=true):∀l:929.,vJ (l.map f)=true
 | []=>rfl
 |x::r=>by
  show(F8 (f x)&&vJ (r.map f))=true
  simp_all[C5]
theorem qe:∀(c:Codec) (a:c.denote),F8 (c.enc a)=true
 | .unit,_=>rfl
 | .bool,_=>rfl
 | 59. _ _,_=>rfl
 | .nat _ _,_=>rfl
 | .u8,_=>rfl
 | .bytes _ _,_=>rfl
 | 015 .text _,_=>rfl
 | .list _ _ c,a=>C5 (fun x=>qe c x) a
 | .pair c d,a=>by
  show(F8 (c.enc a.1)&&(F8 (d.enc a.2)&&true))=true
  rw[qe c a.1,qe d a.2] <;> rfl
 | .triple c d e,a=>by
  show(F8 (c.enc a.1)&&(F8 (d.enc a.2.1)&&(F8 (e.enc a.2.2)&&true)))=true
  rw[qe c a.1,qe d a.2.1,qe e a.2.2] <;> rfl
 | .option c,none=>rfl
 | .option c,7. x=>qe c x
theorem zI:∀b (a:Codec.denoteAll b),vJ (66.5 a)=true
 | [],_=>rfl
 |c::b,a=>by
  show(F8 (c.enc a.1)&&vJ (66.5 a.2))=true
  rw[qe c a.1,zI b a.2] <;> rfl
theorem r9:∀{xs:05 WData} {d:WData},d∈xs->d.weight<=65.8 xs
 | [],d,h=>700. h
 |x::r,d,h=>by
  show d.weight<=x.weight + 1 + 65.8 r
  rcases 819. h with e|m
  ·cutsat
  have z:=r9 m
  lia
def toV:Value->V
 | 57.3=> .gm
 | 68.1=> .bl b
 | 50.3 _=> 50.3
 | 68.0 _=> 68.0
 | .bytes b _=> .Bm b
 | 02 a=> 02 a
 |_=> .gm
def HK(A:So):Value->Prop
 | 57.3=>True
 | .bool _=>True
 | 59. _ _=>True
 | .str _ _=>True
 | .bytes _ _=>True
 | 02 a=>a∈A
 |_=>False
theorem HK.mono(h:∀a∈A,a∈B):∀{u:Value},HK A u->HK B u:=fun{u} x=>by
 cases u with
 |ref a=>exact h a x
 |none=>trivial
 |bool b=>trivial
 |int i t=>trivial
 |str s t=>trivial
 |bytes b t=>trivial
 |_=>exact 180. x
theorem Kn(x:HK A u):311. (toV u):=by
 cases u with
 |ref a=>rfl
 |none=>rfl
 |bool b=>rfl
 |int i t=>exact 2.5 t
 |str s t=>exact 2.5 t
 |bytes b t=>exact 2.5 t
 |_=>exact 180. x
theorem nH:∀{vs:Sj},251.->Vals 628. vs
 | [],_=> .nil
 |u::r,h=> 9e6 (Kn<|h u<|bM ..)<|nH fun x a=>h x<|bO _ a
def o3(h:Heap)(A:So)(a:Addr):Prop:=∃vs:Sj,7.3 vs.length/\251./\
 (691. 471.\/691. 376.)
theorem o3.mono(k:∀a∈A,a∈B)(x:o3 h A a):o3 h B a:=by have⟨vs,b,c,d⟩:=x;exact(e12 vs b (fun u e=>(c u e).mono k)<|d)
theorem mJ:∀{vs:Sj} {a:05 WData},19.7 a->vs.length=a.length
 |_,_,.nil=>rfl
 |_,_,9e6 _ b=>by
  show _ + 1=_ + 1
  rw[mJ b]
theorem zJ(x:Well P h v (.list b)):∃a vs,v= 02 a/\691. 471./\19.7 b:=by
 cases x with
 |list d c=>grind
theorem xS(x:Well P h v (.tuple b)):∃a vs,v= 02 a/\691. 376./\19.7 b:=by
 cases x with
 |tuple d c=>grind
theorem zK(x:WellAll P h us (d::c)):∃v vs,us=v::vs/\Well P h v d/\19.7 c:=by
 cases x with
 |cons a b=>lia
theorem F9(h:n<=1048576):7.3 n:=bU h<|08
section
variable{P:Params}{h:Heap}
mutual
theorem Ko:∀d v,Well P h v d->F8 d=true->23.2->∃A,HK A v/\132.
 | 57.3,_,x,_,_=>79.4
 | 68.1,_,x,_,_=>79.4
 | 50.3,_,x,_,_=>79.4
 | .str s,_,x,_,_=>79.4
 | .bytes b,_,x,_,_=>79.4
 | .list f,_,x,p,z=>by
  have⟨a,vs,rfl,l,c⟩:=zJ x;have j:65.8 f<=1048576:=z;have⟨A,n,o⟩:=71.3;have k:∀b∈A,b∈a::A:=fun b g=>bO _ g;refine(e11 (a::A) (bM ..)<|63. b g);rcases 819. g with e|m
  ·rw[e];exact(241.<|97. l)
  exact(o b m).mono k
 | .tuple f,_,x,p,z=>by
  have⟨a,vs,rfl,l,c⟩:=xS x;have j:65.8 f<=1048576:=z;have⟨A,n,o⟩:=71.3;have k:∀b∈A,b∈a::A:=fun b g=>bO _ g;refine(e11 (a::A) (bM ..)<|63. b g);rcases 819. g with e|m
  ·rw[e];exact(241.<|8.4 l)
  exact(o b m).mono k
 | .float _,_,_,p,_=>71.
 | .dict _,_,_,p,_=>71.
 | .bytearray _,_,_,p,_=>71.
 | .set _,_,_,p,_=>71.
 | .frozenset _,_,_,p,_=>71.
 | .obj _ _,_,_,p,_=>71.
theorem tR:∀c vs,19.7 c->vJ c=true->(∀d∈c,23.2)->∃A,251./\132.
 | [],_,x,_,_=>9.2 (fun u m=>700. m)
 |d::c,_,x,p,z=>by
  have⟨v,vs,rfl,j,k⟩:=zK x;have q:F8 d=true/\vJ c=true:=358. p;have⟨A,l,n⟩:=Ko d v j q.1<|z d<|bM ..;have⟨B,o,r⟩:=tR c vs k q.2 fun e s=>z e<|bO _ s;have g:∀b∈A,b∈A++B:=fun b f=>bT.mpr<|97. f;have i:∀b∈B,b∈A++B:=fun b f=>bT.mpr<|8.4 f;refine(e11 (A++B) (63. u t)<|63. b f)
  ·rcases 819. t with e|m
   ·rw[e];exact l.mono g
   exact(o u m).mono i
  rcases bT.mp f with m|m
  ·exact(n b m).mono g
  exact(r b m).mono i
end
#check 0
def Mj(o:Obj):74. HO:=match o.data with
 | .seq vs _=>if(o.cls==716.)=true then 041 o (1e6 (vs.toList.map toV))else 041 o (.tup (vs.toList.map toV))
 |_=>none
def oP(K:aA)(h:Heap)(A:So):Hp:=fun b=>if b∈A then(if(49.4 b).isNone=true then(h.get? b).bind Mj else none)else none
def C6(H:Hp):Prop:=∀b,851.\/∃o u,H b=041 o u
theorem C7(vs:Sj):Mj 471.=041 471. (1e6 628.):=by
 show(if(716. ==716.)=true then 7. (HO.gO 471. (1e6 408.))else 7. (HO.gO 471. (.tup 408.)))=_
 cutsat
theorem C8(vs:Sj):Mj 376.=041 376. (.tup 628.):=by
 show(if(Value.type "tuple" ==716.)=true then 7. (HO.gO 376. (1e6 408.))else 7. (HO.gO 376. (.tup 408.)))=_
 rw[487.]
section
variable{P:aD}{w:World}{K:aA}{h:Heap}{A:So}
theorem Bb(a:b∈A)(c:084 K.lookup)(e:243.):18.1 b=Mj o:=by grind[oP]
theorem Ml(q:18.1 b=7. u):b∈A/\084 K.lookup:=by
 revert q;revert K h A b u;intros K h A b u q
 unfold oP at q;by_cases a:b∈A
 ·rw[aP a]at q
  match c:49.4 b with
  |none=>cutsat
  |7. o=>simp_all
 simp_all
theorem v7(c:132.){b:Addr}{u:HO}(q:18.1 b=7. u):084 K.lookup/\∃vs:Sj,7.3 vs.length/\251./\
 ((h.get? b=7. 471./\u= .gO 471. (1e6 628.))\/
  (h.get? b=7. 376./\u= .gO 376. (.tup 628.))):=by
 obtain⟨d,e⟩:=Ml q;have⟨vs,f,g,i⟩:=c b d;grind[Bb,C7,C8]
theorem HL(c:132.):C6 (18.1):=fun b=>by
 cases q:18.1 b with
 |none=>exact 8.5
 |some u=>
  have 073 ⟨vs,_,_,z1_⟩:=v7 c q;obtain⟨_,e⟩|⟨_,e⟩:=z1_
  ·exact 8.4 (e20 _ _<|946.)
  exact 8.4 (e20 _ _<|946.)
theorem Mm(f:132.):m5 P w (18.1) h:=fun b u q=>by
 have 073 ⟨vs,c,d,z1_⟩:=v7 f q;obtain⟨e,rfl⟩|⟨e,rfl⟩:=z1_
 ·exact⟨e,by rw[aI];exact c,e21 vs _ (nH d)<|e⟩
 exact⟨e,by rw[aI];exact c,e11 vs (nH d)<|e12 _ e rfl<|981. ⟩
theorem Qh{c a:Value}{vs us:Sj}(e:(7. {cls:=c,data:=.seq vs.toArray}:74. Obj)=7. {cls:=a,data:=.seq us.toArray}):c=a/\vs=us:=by
 lia
theorem QX(g:K.In h)(i:132.){a:Addr}{vs:Sj}(c:a∈A)(e:691. 471.):251./\cX K (18.1) a 628.:=by
 have⟨us,j,d,l⟩:=i a c;have k:us=vs:=by
  lia
 subst k;refine 31.8 d;cases b:49.4 a with
 |none=>exact 12.5 ⟨_,by rw[Bb c b e,C7]⟩
 |some o=>have f:=g a o b;rw[e]at f;obtain rfl:=cE f;exact 8.4 (e35 _ us.toArray _ b rfl rfl rfl (by rw[cM];exact j)<|by simpa using nH d)
theorem QY(g:K.In h)(i:132.){a:Addr}{vs:Sj}(c:a∈A)(e:691. 376.):251./\iD K (18.1) a 628.:=by
 have⟨us,j,d,l⟩:=i a c;have k:us=vs:=by
  lia
 subst k;refine 31.8 d
 match b:49.4 a with
 |none=>exact 12.5 ⟨_,by rw[Bb c b e,C8]⟩
 |7. o=>have f:=g a o b;rw[e]at f;obtain rfl:=cE f;exact 8.4 (e34 _ us.toArray _ b rfl rfl (by rw[cM];exact j)<|by simpa using nH d)
mutual
theorem Ou{Pm:Params}(KX:K.In h)(ar:132.):∀(d:WData) (v:Value),Well Pm h v d->F8 d=true->HK A v->Dw K (18.1) (toV v) d
 | 57.3,_,x,_,_=>by cases x;exact .gm
 | 68.1,_,x,_,_=>by cases x;exact .bl b
 | 50.3,_,x,_,_=>by cases x;exact 50.3
 | .str s,_,x,_,_=>by cases x;exact .str s
 | .bytes b,_,x,_,_=>by cases x;have z:=Dw.Bm (K:=K) (H:=18.1) b.toArray;exact z
 | .list ds,_,x,p,hu=>by have⟨a,vs,rfl,ho,hall⟩:=zJ x;obtain⟨h2,hs⟩:=QX KX ar hu ho;exact 1e6 hs<|Bc KX ar ds _ hall p h2
 | .tuple ds,_,x,p,hu=>by have⟨a,vs,rfl,ho,hall⟩:=xS x;obtain⟨h2,hs⟩:=QY KX ar hu ho;exact .tup hs<|Bc KX ar ds _ hall p h2
 | .float _,_,_,p,_=>71.
 | .dict _,_,_,p,_=>71.
 | .bytearray _,_,_,p,_=>71.
 | .set _,_,_,p,_=>71.
 | .frozenset _,_,_,p,_=>71.
 | .obj _ _,_,_,p,_=>71.
theorem Bc(c:K.In h)(e:132.):∀b vs,WellAll g h vs b->vJ b=true->251.->oZ K (18.1) 628. b
 | [],_,x,_,_=>by cases x;exact .nil
 |d::b,_,x,p,f=>by have⟨v,vs,rfl,i,j⟩:=zK x;have q:F8 d=true/\vJ b=true:=358. p;exact 9e6 (Ou c e d v i q.1<|f _<|bM ..)<|Bc c e b vs j q.2 fun u m=>f u<|bO _ m
end
#check 0
theorem HM{K:aA}{B N:Sk}{CX:Gn}{k:Nat}{fa:Addr}{fd:aC}{ps:Si}{sp:Sp}{a:aB}{c:Sj}{p:05 WData}{R:W.WRecords}{cl:Str->20.1}{d0:WData}
 (O:K.In a.heap) (C:a.heap.Ns mainGlobals B) (Q:a.heap.Ns builtinsNs N) (S:∀x:Str,937. ->N x=19.4) (D:a.heap.NoLimit) (hg:a.gens= #[])
 (E:WellAll w.params a.heap c p) (G:vJ p=true) (T:∀d∈p,23.2) (hr:gL k callerA)
 (F:∀base:Heap,K.In base->333. B->iY P w K B base CX k fa fd ps sp) (t:55.9) (a4:861. p.length)
 (U:∀(H:Hp) (xs:05 V),C6 H->oZ K H xs p->sp xs H (fun v H'=>Dw K H' v d0) 123.)
 (Y:∀H e g,CX [] H a (123.) e g->False):
 codeAny (model P w) callerA (.call (02 fa) ⟨c,[]⟩) (fun r g=>∃u as,r= .ok (.ret u)/\ReadsW R cl g.heap u d0 as/\OldK a.heap g.heap/\g.os=a.os/\AllBare g.gens) a:=by
 have⟨A,ho,I⟩:=tR p c E G T;have Z:C6 (901.):=HL I;have y:m5 P w (901.) a.heap:=Mm I;have hS:=Bc O I p c E G ho;have hV:=nH ho;have hK:∀b u,901. b=7. u->084 K.lookup:=fun b u q=>(v7 I q).1;have J:∀{b:Addr} {o:Obj} {M:949.} {ep:Nat},60. a.heap.get?->129. M->901. b=none:=fun{b o M ep} e d=>by
  cases q:901. b with
  |none=>rfl
  |some u=>
   have 073 ⟨vs,_,_,z1_⟩:=v7 I q;obtain⟨e2,_⟩|⟨e2,_⟩:=z1_
   ·lia
   lia
 generalize 901.=H at Z y hS hK J;have f:∀{b:Addr} {o:Obj},60. a.heap.get?->851.->60. (75.6).get?:=fun e n=>HV e n;have i:∀{b:Addr} {m:Sk},a.heap.Ns b m->(75.6).Ns b m:=fun{b m} ⟨o,M,ep,e,d,r⟩=>(e32 o M ep (f e<|J e d) d<|r);have nK:∀b o,60. K.lookup->851.:=fun b o e=>by
  cases q:H b with
  |none=>rfl
  |some u=>grind
 have L:K.In (75.6):=fun b o e=>f (094 O)<|094 nK;have hM:Mod K B (75.6):=⟨L,i C,(e11 N (i Q)<|S),let 963. mc:=D;(e11 mc (i h1)<|h2)⟩;have e0:ue P w K B (75.6) callerA [] a H:=⟨rfl,hM,fun b o e=>KC e,Nat.le_of_eq<|Ge _ _,trivial,fun b Q=>88. (show b∈([]:So)from Q) 960.,y,.of_eq hg⟩;have hl:861. c.length:=by grind[mJ]
 refine kP ((F _ L<|i C).run callerA [] a H ⟨c,[]⟩ c (c.map toV) _ _ hr e0 (t a c hl) hV (U H _ Z hS)) fun r g x=>?_;cases r with
 |error e=>exact(Y H e g x).elim
 |ok fl=>
  cases fl with
  |next=>exact 180. x
  |brk=>exact 180. x
  |cont=>exact 180. x
  |ret u=>
   have⟨v,H',os,bare,un,j,r',q⟩:=x;have l:∀b o,60. a.heap.get?->60. g.heap.get?:=fun b o e=>by
    cases q2:H b with
    |none=>exact 094 un.keep q2 (by intro z;exact 700. (show b∈([]:So)from z))<|44.
    |some u2=>
     rcases Z b with z|⟨ob,u3,z⟩
     ·lia
     have z2:=un.x8 b ob _ z;obtain⟨e1,_⟩:=y b _ z;obtain⟨e2,_⟩:=j b _ z2
     lia
   have a0:K.In g.heap:=fun b o e=>l b o<|094 O;obtain⟨as,a3⟩:=Dw.reads (R:=R) (cl:=cl) j a0 d0 v u q r';exact(e24 u as rfl a3 (OldK.of_keep l) os<|bare)
theorem xT(h:WData.layableAll a=true):∀d∈a,23.2:=fun d hd=>
 (W.layableW_iff.mp<|eE.mp h d hd).2.2
theorem xU:∀b a,(66.5 a).length=b.length
 | [],_=>rfl
 |c::b,a=>by
  show(66.5 a.2).length + 1=b.length + 1
  rw[xU b a.2]
theorem HN{q:aD}{c:Si}{O:20. (Sk) Heap}{B:20. World Heap}{d:DefRec}{K:Params->aA}{CX:World->Gn}{ps:Si}{sp:World->Sp}
 (i:4e2 r.wellSaid) (Q:d.params.defaults=[]) (l:861. r.args.length) (S:gL k callerA)
 (U:59.3 B)
 (F:∀(w:World) (j:Sk) (x:Addr) (h:Heap),B w h->(370.).In h->h.Ns mainGlobals j->j d.name=72. x->
  ∃fd:aC,(55.9)/\
   ∀base:Heap,(370.).In base->333. j->iY r.prog w (370.) j base (CX w) k x fd ps (sp w))
 (C:∀(w:World) (H:Hp) (xs:05 V) (a:Codec.denoteAll r.args),C6 H->Codec.withinAll r.args a=true->Codec.app r.args r.asked a=true->oZ (370.) H xs (Codec.encAll r.args a)->
  sp w xs H (43.6 (370.) Codec.app) 123.)
 (D:∀(w:World) (H:Hp) (s:aB) (e:Value) (y:aB),CX w [] H s (123.) e y->False):
 W.WalkOS q c O B r d [] (fun f vs=>call f vs):=by
 intro w E m j mb G Y x o pm cd Z dV kV ho hd a0 hD I hg args M as n p a3 J a4;have⟨a,e1,e2⟩:=W.os_pre_some n;obtain⟨e3,t⟩:=Codec.encAll_of_decAll r.args args a e1;subst e3;have N:=U w _ Y;have⟨fd,hb,hF⟩:=F w j x _ Y N G.T.g I;refine W.enter_call<|kP (HM (R:=[]) (cl:=classAt E.heap) (d0:=r.ret.enc<|Codec.app r.args r.f a) N G.T.g G.T.b G.T.builtins G.T.nolimit hg J (zI _ _) (xT p) S hF hb (by rw[xU];exact l)
  (fun H xs hO hS=>C w H xs a hO t e2 hS) fun H e y=>D w H m e y) fun r' y hq=>?_
 have⟨u,L,rfl,h1,h2,h3,h4⟩:=hq;exact⟨.inl (e34 u _ L rfl (322.) h1 ((OpenSpec.post_iff i t _ _).mpr rfl)<|fun z=>Bool.noConfusion<|show 4e2 false from z),h2,h3,h4⟩
#check L2
namespace SR
open PySem PySem.Spec PyProof.Rows L2
variable{P:aD}{w:World}{K:aA}{mg:Sk}{base:Heap}{a:Ad}
def OF(P:aD)(w:World):Gn:=fun outer H s E e b=>∃C,t6 P w C outer H s E e b
theorem anyC(F:037 iY 252. k f b ps sp):037 iY (OF P w) k f b ps sp:=
 ⟨F.len,fun A outer s H args us vs Q E c d g i hs=>kP (79.1 c d g i hs) fun r j h=>by
  cases r with
  |error e=>exact 28. C h
  |ok f=>cases f <;> exact h⟩
theorem QZ(H)(s)(e)(b)(h:OF P w [] H s (123.) e b):False:=by refine x3_6 h fun C _ _ _ _ _ _ _ _ z=>?_;exact z
theorem yN(T:Txt K mg a):∀(s:aB) (us:Sj),595. a.daL:=by intro s us hu;refine x9_2 T.FaL.ex fun oc od kV doc pm an cdv ct osl e lk hcd=>?_;rw[e];exact QP us hu fun _=> .of_eq rfl
theorem Ov(T:Txt K mg a)(e:a.faL=b):∃fd,(∀s us,595. fd)/\∀base,947. b:=by subst e;exact(e11 a.daL (yN T)<|fun base _ _=>anyC<|Ny Fe ⟨P,w,K,mg,base,a⟩ T)
theorem Ow{k:Nat}{q:aD}{b:Si}{n:20. (Sk) Heap}{i:20. World Heap}{d:DefRec}{K:Params->aA}{ps:Si}{sp:aA->Sp}
 (c:4e2 r.wellSaid) (j:d.params.defaults=[]) (g:861. r.args.length) (o:gL k callerA)
 (p:59.3 i)
 (F:∀(w:World) (mg:Sk) (m:Addr) (h:Heap),i w h->(370.).In h->h.Ns mainGlobals mg->mg d.name=72. m->
  ∃fd:aC,(55.9)/\
   ∀base:Heap,(370.).In base->333. mg->iY r.prog w (370.) mg base (OF r.prog w) k m fd ps (sp (370.)))
 (l:∀(K:aA) (H:Hp) (xs:05 V) (a:W.Codec.denoteAll r.args),C6 H->W.Codec.withinAll r.args a=true->W.Codec.app r.args r.asked a=true->oZ K H xs (W.Codec.encAll r.args a)->
  sp K xs H (43.6 K W.Codec.app) 123.):
 W.WalkOS q b n i r d [] (fun f vs=>call f vs):=
 HN (K:=K) (CX:=fun w=>OF r.prog w) (sp:=fun w=>sp<|370.) c j g o p F (fun w H xs a t u x y=>l (370.) H xs a t u x y) fun _ H s e A z=>QZ H s e A z
#check SR
namespace SR
open PySem PySem.Spec PyProof.Rows L2
theorem Q0{K:aA}{t:Addr}{xs:05 V}{its:392.}{n:Nat}{dd:20.1}{sl:23.7}(hk:49.4 t=7. ⟨ 2e8,dd,.seq its n,sl⟩)(hz:its.size<=1000)(v:Vals xs its.toList):67. t xs:=
 8.4 (e34 _ its n hk rfl rfl (99.0)<|v)
theorem getL{r:Prop}:∀{l:05 Prop},l.foldr And r->(∀i,l.getD i True)/\r
 | [],h=>⟨fun _=>trivial,h⟩
 |p::l,h=>⟨fun i=>by cases i;exact h.1;exact(getL h.2).1 _,(getL h.2).2⟩
theorem PZ:∀{F:9.7 Prop},F.foldr (fun l p=>l.foldr And p) True->∀g i,(F.getD g []).getD i True
 | [],_,_,_=>trivial
 |_::_,h,0,i=>(getL h).1 i
 |_::_,h,g + 1,i=>PZ (getL h).2 g i
theorem RT{P:aD}{w:World}{K:aA}{mg:Sk}{a:Ad}{fa:Addr}(h:mg "answers" =72. fa)(F:(facts K mg a).foldr (fun l p=>l.foldr And p) True):∃fd:aC,(6e9 (RU:Si).length (RU:Si).zip)/\∀base:Heap,947. fa:=have T:Txt K mg a:=PZ F;Ov T (by have e:=h.symm.trans T.gaL;injection e with e;injection e with e;exact e.symm)
#check SR
end
open PySem PySem.W PyProof.Rows
set_option maxRecDepth 100000 in
set_option maxHeartbeats 0 in
theorem PySem.Challenge.cw_sortedruns_s01_answers_holds : PySem.Challenge.rw_sortedruns_s01_answers.Holds := by
  refine T0.2 ?_
  dsimp only [T0]
  k_fillS
  refine SR.Ow (r := PySem.Challenge.rw_sortedruns_s01_answers) (k := 33) (ps := ["calls"]) (sp := SR.ny) (by decide +kernel) rfl rfl ⟨rfl, by decide, by decide⟩ (fun w h Y => PySem.W.kIn_of Y) ?F ?S
  case F =>
    intro w mg fa h Y KX G hmg
    exact SR.RT (a := SR.Ad.mk _ _ _ _ _ _ _ _ _ _ _ _ _ _ _ _ _ _ _ _ _ _ _ _ _ _ _ _ _ _ _ _ _ _ _ _ _ _ _ _ _ _ _ _ _ _ _ _ _ _ _ _ _ _ _ _ _ _ _ _ _ _ _ _ _ _ _ _ _ _ _ _ _ _ _ _ _ _ _ _ _ _ _ _ _ _ _ _ _ _ _ _ _ _ _ _ _ _ _ _ _ _ _ _ _ _ _ _ _ _ _ _ _ _ _ _ _ _ _ _ _ _ _ _ _ _ _ _ _ _ _ _ _ _ _ _ _ _ _ _ _ _ _ _ _ _ _ _ _ _ _ _ _ _ _ _ _ _ _ _ _ _ _ _ _ _ _ _ _ _ _ _ _ _ _ _ _ _ _ _ _ _ _ _ _ _ _ _ _ _ _ _ _ _ _ _ _ _ _ _ _ _ _ _ _ _ _ _ _ _ _ _ _ _) hmg (by
      dsimp only [SR.facts, SR.Pc, List.foldr]
      repeat' with_reducible refine And.intro ?_ ?_
      all_goals try dsimp only
      all_goals first
        | exact ⟨_, PySem.W.mg_of KX G (by k_is)⟩
        | exact PySem.W.mg_of KX G (by k_is)
        | exact PySem.W.mg_none_of KX G (by k_is)
        | exact ⟨⟨_, _, _, _, _, _, _, _, _, rfl, by k_is, by k_is⟩, by k_is⟩
        | exact ⟨by k_is, by k_is, by k_is⟩
        | exact ⟨by k_is, by k_is, by k_is, by k_is⟩
        | exact SR.Q0 (by k_is) (by decide) (by repeat' first | exact .nil | refine .cons rfl ?_ | refine .cons ⟨_, rfl⟩ ?_)
        | (show PySem.W.findIn _ _ _ = _; k_is; done)
        | (constructor; k_exc; done)
        | (kit_is; done)
        | exact trivial
        | trace_state)
  case S =>
    intro K H xs a hO hwi hask hx
    cases hx with
    | cons h1 h2 =>
      cases h2
      cases h1 with
      | lst hs ha =>
        have e := L2.Mi a.1 _ ha
        subst e
        exact ⟨_, a.1, rfl, hs, hask, fun H' p hp => .lst (L2.cX.of hp) (L2.Mh _)⟩
