import PyProof.Rows.All
import Wide.All
import OpenK.AllK
import Wide.FinOn
import Lean
import PyProof.EqAt
import PyProof.EqKinds
import PyProof.TupleCall
import PyProof.EqLayable
import KE.KIntText
import PyProof.EnumMake
import PyProof.EnumStmt
import PyProof.EnumFor
import PyProof.Rows.EnumRows
import PyProof.ExcInit
import PyProof.ExcClass2
import PyProof.InstStoreFacts
import KE.KRevIter
import PyProof.P3In
import PySem.Challenge.RW_chancehall_k38_whole_least_chances
local macro_rules|`(tactic|let⟨$x,*⟩:=$e)=>do
  let rec g:Nat→Lean.Syntax→Lean.MacroM (Lean.TSyntax `rcasesPat)|0,_=>Lean.Macro.throwUnsupported|n+1,s=>match s with|`(⟨$x,*⟩)=>do`(rcasesPat|⟨$(← x.getElems.mapM λy=>do`(Lean.Parser.Tactic.rcasesPatLo|$(←g n y):rcasesPat)),*⟩)|`(_)=>`(rcasesPat|_)|_=>`(rcasesPat|$(⟨s⟩):ident)
  `(tactic|obtain $(← g 9 (←`(⟨$x,*⟩))):rcasesPat:=$e)
local macro_rules|`(%[$x,*|$e])=>do
  if let .synthetic ..:=(←Lean.MonadRef.getRef).getHeadInfo then Lean.Macro.throwUnsupported
  let r<-x.getElems.mapM λs=>if s.raw.isOfKind ``Lean.Parser.Term.nestedAction then`(Lean.Parser.Tactic.rwRule|←$(⟨s.raw[1][0]⟩)) else`(Lean.Parser.Tactic.rwRule|$s:term)
  if e.raw.isOfKind ``Lean.Parser.Term.hole then`(by rw[$r,*])else`(by rw[$r,*];exact $e)
local macro_rules|`($a\$b)=>`($a=some $b)|`(↑$x)=>`(by simpa using $x)|`(↥[$x,*])=>`(List.toArray [$x,*])|`(↥$X)=>do let i:=Lean.mkIdent;`($(i `Inv) $X $(i `U) $(i `G) $(i `H) $(i `s))|`(⇑$X)=>do let i:=Lean.mkIdent;`($(i `wpAny) ($(i `model) ($X).prog ($X).w) ($X).A)
theorem zPP(h:True:=by rfl):True:=h
theorem zPD(h:True:=by decide):True:=h
theorem zPK(h:True:=by k_is):True:=h
local macro_rules|`(‹($t,0)›)=>`(autoParam $t $(Lean.mkIdent `zPE._auto_1))|`(‹($t,1)›)=>`(autoParam $t _root_.zPK._auto_1)|`(‹($t,2)›)=>`(autoParam $t _root_.zPD._auto_1)|`(‹$t›)=>`(autoParam $t _root_.zPP._auto_1)
set_option compiler.extract_closed false
set_option genSizeOf false
def aj := @List.getElem?_eq_getElem
def ak := @List.length_map
def ao := @List.getElem?_eq_some_iff
def aq := @List.getElem?_map
def au := @List.getD_eq_getElem?_getD
def aA := @List.length_append
def aC := @List.mem_of_getElem?
def aD := @List.getElem?_append_right
def aF := @List.getElem?_append_left
def aG := @Nat.le_refl
def aH := @PySem.Heap.get?_push_of_some
def aJ := @List.mem_cons_of_mem
def aK := @PySem.Heap.lt_size
def aL := @Nat.le_trans
def aM := @List.getElem?_eq_none
def aN := @List.length_replicate
def aO := @List.mem_cons_self
def aP := @List.mem_append_right
def aQ := @Nat.ne_of_lt
def aR := @Nat.lt_of_lt_of_le
def aU := @List.getElem_mem
def aV := @List.getElem?_of_mem
def aW := @PySem.Heap.get?_push_size
def aX := @List.size_toArray
def aY := @List.length_take
def aZ := @Nat.zero_le
def bf := @List.map_append
def bx := @Bool.false_ne_true
open PySem.W (Frag instObj methodObj hideAll hideAll_get of_hideAll lookIn plainGet hasDictIn findIn handedIn plainGet_of findObj_own isFn plainOver takerIn set_plain looks_clsIn makesIn typeIn emptyDict looks_findIn keepIn specialIn mroIn kitOne kia_one kitx_list kitx_tuple callWith_K methodCall_KW codeIn nsIn mg_of excIn isNs_of_in clsIn looks_mroIn readsIn findCls method_cls cls_value notCls nsOkIn)
section
open PySem PySem.Spec PyProof.Rows
abbrev Γ:=List (Int×Int)
abbrev Δ:=List (Addr×Obj)
abbrev Θ:=List Value
abbrev Φ:=List Str
abbrev Ψ:=List Addr
abbrev Ω:=Option Value
abbrev Ξ:=Option Addr
abbrev Β:=Int×Int
abbrev Ε:=Value->Shared->Prop
def Zs:=@decide_eq_true
def Zp:=@decide_eq_false
def ZZ:=@if_neg
def ZY:=@if_pos
def ZU:=@wpAny_bind
def ZT:=@wpAny_pure
def ZH:=@congrArg
def Z3:=@Int.emod_nonneg
def YY:=@Int.emod_lt_of_pos
def YV:=@List.mem_map
def YU:=@List.mem_cons
def YR:=@List.mem_singleton
def Y1:=@List.mem_append
def Y2:=@Nat.le_of_lt
def Y3:=@Nat.lt_of_le_of_lt
def Xs:=@Nat.le_succ
def XZ:=@Int.mul_pos
def XY:=@Int.le_of_lt
def XX:=@Nat.lt_of_le_of_ne
def XW:=@Bool.false_eq_true
def XV:=@Rat.intCast_mul
def XU:=@Nat.pow_le_pow_right
def XT:=@Int.natAbs_natCast
def XG:=@List.getElem?_replicate
def X0:=@Nat.lt_succ_self
def X1:=@Nat.le_add_right
def X2:=@Nat.lt_irrefl
def X9:=@Int.natCast_nonneg
def Wp:=@List.append_assoc
def WZ:=@Nat.not_lt_zero
def WV:=@Nat.lt_add_right
def WU:=@List.map_map
def WS:=@Int.ne_of_gt
def WP:=@List.length_range
def WJ:=@PySem.boot_len
def WG:=@Nat.le_of_eq
def WH:=@List.length_set
def W1:=@Rat.le_refl
def VZ:=@List.length_zip
def VY:=@List.getElem?_range
def VX:=@Nat.le_of_lt_succ
def VW:=@List.getElem_map
def VV:=@List.getElem?_set_ne
def VU:=@Nat.le_of_not_lt
def VT:=@Int.natAbs_mul
def VS:=@Nat.mul_le_mul
def VQ:=@Nat.min_self
def Up:=@List.getElem?_set_self
def UZ:=@Nat.ne_of_gt
def UY:=@Nat.le_of_dvd
def UX:=@List.of_mem_zip
def UV:=@List.not_mem_nil
def UU:=@List.ext_getElem
def UT:=@Nat.le_of_ble_eq_true
def US:=@List.mem_append_left
def UR:=@List.length_drop
def UQ:=@Nat.one_pos
def UP:=@List.map_congr_left
def UK:=@Rat.le_of_lt
def UH:=@List.map_set
def U1:=@List.any_map
def U2:=@Nat.zero_add
def Tu:=@List.length_zipIdx
def Ts:=@List.getElem_range
def Tk:=@Nat.lt_trans
def Th:=@List.drop_eq_nil_of_le
def TZ:=@Int.one_mul
def TW:=@Rat.divInt_eq_div
def TU:=@Nat.succ_pos
def TR:=@List.length_zipWith
def TK:=@Rat.zero_add
def TH:=@Nat.one_dvd
def T2:=@Int.lt_of_not_ge
def JY:=@Bool.and_eq_true
def JU:=@Nat.add_sub_cancel_left
def JS:=@Bool.and_false
def JP:=@List.getElem_zip
def JJ:=@Int.gcd_dvd_right
def Qr:=@Int.natCast_mul
def QY:=@Rat.divInt_eq_divInt_iff
def QU:=@Rat.divInt_add_divInt
def QR:=@Rat.zero_divInt
def QQ:=@Nat.not_lt_of_le
def QP:=@List.drop_eq_getElem_cons
def Q1:=@List.take_of_length_le
def Q2:=@List.getElem_zipIdx
def Q3:=@List.ext_getElem?
def Q4:=@Rat.intCast_zero
def kr:=@Int.mul_ediv_cancel_left
def kt:=@Int.toNat_of_nonneg
def ku:=@Nat.mul_le_mul_left
def mu:=@Int.fdiv_eq_ediv_of_nonneg
def mw:=@List.set_eq_of_length_le
def mx:=@Int.gcd_pos_of_ne_zero_right
def mz:=@Int.ediv_pos_of_pos_of_dvd
def mE:=@Nat.le_mul_of_pos_left
def mL:=@List.find?_cons_of_pos
def mR:=@List.find?_cons_of_neg
def mS:=@Int.eq_ofNat_of_zero_le
def q7:=@List.flatten_replicate_singleton
end
set_option Elab.async false
set_option linter.all false
set_option maxRecDepth 100000
set_option maxHeartbeats 4000000
namespace L2.Once
local macro_rules|`(#[$x,*])=>`(⟨$x,*⟩)
local macro_rules|`($a\$b)=>`($a=some $b)
noncomputable section
open PySem PySem.W
def z:Pos:=#[0,0,0,0]
def tE:Obj:=#[.type "tuple",none,.seq #[[]] 0,#[[]]]
def fE:Obj:=#[.none,none,.fields #[[]],#[[]]]
def tN(t:Nat)(l:Φ):Obj:=#[.type "tuple",none,.seq #[(l.zipIdx t).map λx=>.str x.1 x.2] 0,#[[]]]
def cO(n q:Str)(t:Nat)(l a f:Int)(r u:Nat):Obj:=#[.type "code",none,.fields #[[.str n t,.str q (t+1),.str "/claim/cut.py" (t+2),.int l 0,.int a 0,.int 0 0,.int 0 0,.int f 0,.ref r,.bool true,.int 181 0,.ref (r+1),.none,.ref (r+2),.ref (r+3),.ref (r+4),.int u 0,.int l 0,.str "/claim/cut.py" (u+1)]],#[[]]]
def n6:Obj:={ cls:=.type "tuple",data:=.seq (List.toArray []) }
def tt:Obj:={ cls:=.none,data:=.fields (List.toArray []) }
def n5:Obj:={ cls:=.type "code",data:=.fields (List.toArray [.str "<module>" 182,.str "<module>" 183,.str "/claim/cut.py" 184,.int 1 0,.int 0 0,.int 0 0,.int 0 0,.int 0 0,.ref 11,.bool false,.int 181 0,.ref 12,.none,.none,.none,.none,.int 185 0,.int 1 0,.str "/claim/cut.py" 186]) }
def n4:Obj:={ cls:=.type "frame",slots:=(List.toArray [some (.ref 13),some (.ref 3),some (.ref 3),none,some (.str "__main__" 164),none,some (.ref 0)]) }
def cP(n q:Str)(t:Nat)(l a f:Int)(r u:Nat):Obj:=#[.type "code",none,.fields #[[.str n t,.str q (t+1),.str "/claim/cut.py" (t+2),.int l 0,.int a 0,.int 0 0,.int 0 0,.int f 0,.ref r,.bool true,.int 181 0,.ref (r+1),.none,.none,.none,.ref (r+2),.int u 0,.int l 0,.str "/claim/cut.py" (u+1)]],#[[]]]
def dE(P:Params)(x:Str)(t:Nat)(v:Value):DictEntry:=#[PyData.keyHash P x,.str x t,v]
abbrev lf(o:Obj):BT:=.node o .nil .nil
def tr(P:Params):BT:=.node (boot_o_0 P)
 (.node (boot_o_1 P) (.node (boot_o_3 P) (lf (boot_o_7 P)) (lf n6)) (.node (boot_o_5 P) (lf (boot_o_9 P)) (lf n5)))
 (.node (boot_o_2 P) (.node (boot_o_4 P) (lf (boot_o_8 P)) (lf tt)) (.node (boot_o_6 P) (lf (boot_o_10 P)) (lf n4)))
def S0(w:World)(os:OsState):Shared:=#[boot_heap w.params,Array.mk [],boot_drawn,boot_toks,os]
def Sa(w:World)(os:OsState):Shared:=#[#[Array.mk [boot_o_0 w.params,boot_o_1 w.params,boot_o_2 w.params,boot_o_3 w.params,boot_o_4 w.params,boot_o_5 w.params,boot_o_6 w.params,boot_o_7 w.params,boot_o_8 w.params,boot_o_9 w.params,boot_o_10 w.params,n6,tt,n5,n4],{}],Array.mk [],{},187,os]
def Sb(w:World)(os:OsState):SharedT:=#[tr w.params,15,{},#[[]],{},187,os]
def env(p:Program):Env:={ scope:=p.main.scope,locals:=mainNs,globals:=mainNs,cells:=[],code:=.ref 13,frame:=some 14 }
def cE(p:Program):Code:=.body (behindTheImports p) (env p)
abbrev eY:Ω:=some (.ref 6)
abbrev B:List Frame:=[topFrame z]
def size(w:World):((boot_heap w.params).isNs mainGlobals&&(Array.mk [] : Array GenState).size==0,(boot_heap w.params).objs.size,(boot_heap w.params).nsMap mainGlobals "__annotations__")=(true,11,eY):=by
 rw[Fast.te8920871248978507458];kernel_rfl
def qm(p:Program)(w:World)(M:Nat)(S:SharedT)(l:List Stmt)(q:Pos)(G:Shared->Prop):Prop:=∃s,topRun treeTable p w 11 eY M S.abs (restOf l (env p) (cE p) q B)\s/\G s
def qm.cut{p:Program}{w:World}{n M:Nat}{S f:SharedT}{e d:List Stmt}{q c:Pos}{G:Shared->Prop}(h:segRunT treeTable p w 11 eY 1 n S (piecesOf e (env p) (cE p) q B)\(.next,f,cE p,c))(k:qm p w M f d c G):qm p w (n+M) S (e++d) q G :=
 let⟨s,a,b⟩:=k
 #[s,piece_app (segRun_of h) a,b]
def qm.cutAt{p:Program}{w:World}{n m M:Nat}{S b:SharedT}{l:List Stmt}{q a:Pos}{G:Shared->Prop}(h:segRunT treeTable p w 11 eY 1 n S (piecesOf (l.take m) (env p) (cE p) q B)\(.next,b,cE p,a))(k:qm p w M b (l.drop m) a G):qm p w (n+M) S l q G:=by
 have:=qm.cut h k;rwa[List.take_append_drop]at this
def Good{b:Type}(p q:Program)(a:Φ)(f:Shared->Bool)(d:Shared->b)(e:World->b)(c:Bool)(w:World)(s:Shared):Prop :=
 (staticsOk (importedModules p.main.body) (boot_heap w.params) s.heap&&namesBound p s.heap&&gensDone s&&laidKept (boot_heap w.params) s.heap,openSeen q a (importedModules p.main.body) f c s,d s)=(true,openGood q a,e w)
def qm.last{p q:Program}{a:Φ}{o:Shared->Bool}{d:Type}{j:Shared->d}{m:World->d}{i:Bool}{w:World}{n k:Nat}{S:SharedT}{l:List Stmt}{h e:Pos}
 (b:(segRunT treeTable p w 11 eY 1 n S (piecesOf l (env p) (cE p) h B)).map (λr =>
    (r.1,r.2.2.1,r.2.2.2,(topRun treeTable p w 11 eY k r.2.1.abs #[doneF .next,cE p,e,B]).map λs =>
     (staticsOk (importedModules p.main.body) (boot_heap w.params) s.heap&&namesBound p s.heap&&gensDone s&&laidKept (boot_heap w.params) s.heap,openSeen q a (importedModules p.main.body) o i s,j s))) =
   some (.next,cE p,e,some (true,openGood q a,m w))):qm p w (n+k) S l h (Good p q a o j m i w):=by
 obtain⟨⟨f,A,c,z⟩,y,x⟩:=Option.map_eq_some_iff.mp b;obtain⟨rfl,rfl,rfl,v⟩ : f=.next/\c=cE p/\z=e/\_:=by simpa only[Prod.mk.injEq]using x
 obtain⟨s,u,t⟩:=Option.map_eq_some_iff.mp v;have g:=piece_app (rest:=[]) (segRun_of y) (piece_nil u);rw[List.append_nil]at g;exact#[s,g,t]
def acT{p q:Program}{c:Φ}{l:Shared->Bool}{g:Type}{j:Shared->g}{k:World->g}{N:Nat}{i:Bool}{a b M:Nat}
 (D:∀w:World,(fencedOpening treeTable p w N).map (λs=>(s.heap,s.gens,s.drawn,s.toks))\(boot_heap w.params,Array.mk [],boot_drawn,boot_toks))
 (f:∀w:World,(λos=>topGo treeTable p w 11 eY a (S0 w os) (topStub p))=λos=>some (Sa w os,#[denote treeTable (cE p),cE p,z,B]))
 (e:∀w:World,(λos=>segRun treeTable p w 11 eY 1 b (Sa w os) (blockOf (behindTheImports p) (env p) (cE p) z B))=λos=>some (.next,(Sb w os).abs,cE p,z))
 (C:∀(w:World)(os:OsState),qm p w M (Sb w os) (behindTheImports p) z (Good p q c l j k i w))
 (le:Nat.ble (a+(b+M)) N=true):LeftO p q c l j k N i:=λw=>by
 obtain⟨⟨h,E,d,A,os⟩,G,F⟩:=Option.map_eq_some_iff.mp (D w);obtain⟨rfl,rfl,rfl,rfl⟩ : h=boot_heap w.params/\E=Array.mk []/\d=boot_drawn/\A=boot_toks:=by simpa using F
 obtain⟨o,n,m⟩ : _/\_/\_:=by simpa only[Prod.mk.injEq]using size w
 obtain⟨s,u,r⟩:=C w os;obtain⟨y,x,v⟩ : _/\_/\_:=by simpa only[Good,Prod.mk.injEq]using r
 have q2:=go_top (congrFun (f w) os) (piece_block (congrFun (e w) os) u);have q3:=topRun_mono (N-(a+(b+M))) _ _ _ _ q2;rw[show a+(b+M)+(N-(a+(b+M)))=N by have:=UT le;omega]at q3;have t:topFrom treeTable p w N #[boot_heap w.params,Array.mk [],boot_drawn,boot_toks,os]\s:=by
  unfold topFrom;dsimp only;rw[o,n,m,show topRun treeTable p w 11 eY N #[boot_heap w.params,Array.mk [],boot_drawn,boot_toks,os] (topStub p)\s from q3];show(match staticsOk (importedModules p.main.body) (boot_heap w.params) s.heap&&namesBound p s.heap&&gensDone s&&laidKept (boot_heap w.params) s.heap with|true=>_|false=>_)=_;rw[y]
 unfold openEnds;rw[G];show(topFrom treeTable p w N _).map _=_;rw[t];exact ZH some (Prod.ext x v)
end
end L2.Once
namespace L2
local macro_rules|`(#[$x,*])=>`(⟨$x,*⟩)
open PySem
def j9(s:Stmt):Arguments:=match s with
 |.FunctionDef _ a _ _ _ _ _ _ _ _=>a
 |_=>{ posonlyargs:=[],args:=[],vararg:=none,kwonlyargs:=[],kw_defaults:=[],kwarg:=none,defaults:=[] }
def fP(s:Stmt):List Stmt:=match s with
 |.FunctionDef _ _ b _ _ _ _ _ _ _=>b
 |_=>[]
def bH(s:Stmt):Scope:=match s with
 |.FunctionDef _ _ _ _ _ _ a _ _ _=>a
 |_=>{ kind:=.function,names:=[],isGenerator:=false,isCoroutine:=false }
end L2
namespace K38
local macro_rules|`(#[$x,*])=>`(⟨$x,*⟩)
open PySem L2
def top(i:Nat):Stmt:=PySem.Challenge.pw_chancehall_k38_whole_least_chances.main.body.getD i (.Pass #[0,0,0,0])
def g_(i j:Nat):Stmt:=match top i with|.ClassDef _ _ _ b _ _ _ _ _ _ _=>b.getD j (.Pass #[0,0,0,0])|_=>.Pass #[0,0,0,0]
abbrev gY:Φ:=["thing"]
abbrev aaw:Φ:=gY
abbrev dh:Φ:=["one","other"]
abbrev Ra:Φ:=dh.append ["left","right","rest"]
abbrev nF:Φ:=["top","bottom"]
abbrev R4:Φ:=nF.append ["common"]
abbrev ju:Φ:=["thing"]
abbrev Dt:Φ:=ju.append ["top","bottom"]
abbrev GP:Φ:=["one","other"]
abbrev V':Φ:=GP
abbrev tW:Φ:=["one","other"]
abbrev ait:Φ:=tW
abbrev Ao:Φ:=["one","other"]
abbrev agY:Φ:=Ao
abbrev GJ:Φ:=["one","other"]
abbrev _1:Φ:=GJ
abbrev tL:Φ:=["one","other"]
abbrev ahw:Φ:=tL
abbrev pQ:Φ:=["fractions"]
abbrev KG:Φ:=pQ.append ["bottom","one"]
abbrev Bo:Φ:=["fractions"]
abbrev U4:Φ:=Bo.append ["leveled"]
abbrev rG:Φ:=["fractions"]
abbrev RV:Φ:=rG.append ["found","one"]
abbrev lH:Φ:=["hall"]
abbrev yh:Φ:=lH
abbrev EY:Φ:=["thing","many"]
abbrev qM:Φ:=EY
abbrev k_:Φ:=["hall","plan"]
abbrev wQ:Φ:=k_.append ["room","thing"]
abbrev jN:Φ:=["offer","tops"]
abbrev lC:Φ:=jN.append ["leveled"]
abbrev rA:Φ:=["tops","bottom"]
abbrev XR:Φ:=rA.append ["common","top"]
abbrev m5:Φ:=["row","often"]
abbrev yX:Φ:=m5
abbrev pP:Φ:=["row","other","often"]
abbrev Ea:Φ:=pP.append ["bottom","common","own","added","tops"]
abbrev nU:Φ:=["leveled","step"]
abbrev yV:Φ:=nU.append ["row"]
abbrev j4:Φ:=["row","column"]
abbrev yU:Φ:=j4
abbrev jh:Φ:=["leveled"]
abbrev jw:Φ:=jh
abbrev lJ:Φ:=["leveled","place","column"]
abbrev FP:Φ:=lJ.append ["row"]
abbrev vU:Φ:=["leveled","steps","step"]
abbrev Vp:Φ:=vU
abbrev nH:Φ:=["leveled","steps","place","found","column"]
abbrev Jo:Φ:=nH.append ["first"]
abbrev je:Φ:=["leveled","steps","place","column"]
abbrev Aw:Φ:=je.append ["row","often"]
abbrev sJ:Φ:=["rows","wide"]
abbrev IV:Φ:=sJ.append ["leveled","steps","place","column","found"]
abbrev pU:Φ:=["rows"]
abbrev aaq:Φ:=pU
abbrev jQ:Φ:=["rows","rights"]
abbrev uR:Φ:=jQ
abbrev n8:Φ:=["end","wide"]
abbrev Bx:Φ:=n8.append ["begins","row","columns"]
abbrev rH:Φ:=["end","begins","wide"]
abbrev Ik:Φ:=rH.append ["row"]
abbrev mZ:Φ:=["end","begins","wide"]
abbrev JD:Φ:=mZ.append ["answer","row","column"]
abbrev jT:Φ:=["many"]
abbrev lA:Φ:=jT
abbrev jJ:Φ:=["rows","rights"]
abbrev CZ:Φ:=jJ.append ["wide","end","begins"]
abbrev gq:Φ:=["hall","goals"]
abbrev xP:Φ:=gq.append ["marks","goal"]
abbrev pI:Φ:=["hall","marks"]
abbrev sX:Φ:=pI.append ["told","room","goal","offered"]
abbrev tZ:Φ:=["door","steps"]
abbrev RK:Φ:=tZ
abbrev oJ:Φ:=["doors","steps"]
abbrev IK:Φ:=oJ
abbrev oK:Φ:=["doors","steps"]
abbrev Iw:Φ:=oK
abbrev mV:Φ:=["marks","leads","joins"]
abbrev rE:Φ:=mV.append ["steps","coming","many","room"]
abbrev iY:Φ:=["hall","plan"]
abbrev rQ:Φ:=iY
abbrev nJ:Φ:=["share","chosen"]
abbrev Jt:Φ:=nJ.append ["rows","room","offer","behind","chance"]
abbrev kW:Φ:=["marks","chosen"]
abbrev iU:Φ:=kW.append ["leads","steps"]
abbrev gJ:Φ:=["hall","marks","plan"]
abbrev sV:Φ:=gJ.append ["rights"]
abbrev lg:Φ:=["hall","goals","plan"]
abbrev xR:Φ:=lg.append ["marks"]
abbrev jM:Φ:=["seen","door","pick"]
abbrev vI:Φ:=jM.append ["best"]
abbrev jz:Φ:=["hall","marks","told","pick"]
abbrev vq:Φ:=jz.append ["tops","turned","room","door","offered"]
abbrev oG:Φ:=["hall","marks","plan","pick"]
abbrev QZ:Φ:=oG.append ["told","coming"]
abbrev gK:Φ:=["hall","marks"]
abbrev sE:Φ:=gK.append ["leads","steps","plan","room","doors"]
abbrev fB:Φ:=["hall","goals"]
abbrev qd:Φ:=fB.append ["marks"]
abbrev mD:Φ:=["thing"]
abbrev Je:Φ:=mD
abbrev jm:Φ:=["name","pay"]
abbrev wR:Φ:=jm
abbrev fu:Φ:=["room"]
abbrev GZ:Φ:=fu
abbrev gH:Φ:=["chance"]
abbrev Ox:Φ:=gH
abbrev jP:Φ:=["pairs"]
abbrev u5:Φ:=jP.append ["room","chance"]
abbrev jA:Φ:=["pairs"]
abbrev C_:Φ:=jA.append ["chances","room","chance"]
abbrev jR:Φ:=["share"]
abbrev Py:Φ:=jR
abbrev kY:Φ:=["rooms"]
abbrev xH:Φ:=kY.append ["numbers","room","name"]
abbrev iy:Φ:=["door","numbers"]
abbrev yF:Φ:=iy.append ["numbered","name","chance"]
abbrev ou:Φ:=["doors","numbers"]
abbrev Jl:Φ:=ou.append ["taken","told","door"]
abbrev Ci:Φ:=["_law_script","_law_k"]
abbrev Zy:Φ:=Ci
abbrev gG:Φ:=["_law_cell_here","_law_many"]
abbrev Xm:Φ:=gG.append ["_law_found","_law_number","_law_digits","_law_k"]
abbrev Ie:Φ:=["_law_one","_law_other"]
abbrev Fk:Φ:=Ie.append ["_law_low","_law_high"]
abbrev qX:Φ:=["_law_top","_law_bottom"]
abbrev Wg:Φ:=qX.append ["_law_common"]
abbrev A_:Φ:=["_law_cell_here","_law_many"]
abbrev xQ:Φ:=A_.append ["_law_letters","_law_xs","_law_base","_law_at","_law_step"]
abbrev Gn:Φ:=["_law_cell_here","_law_many"]
abbrev wI:Φ:=Gn.append ["_law_xs","_law_rooms","_law_pay","_law_pairs","_law_bottom","_law_part","_law_weights"]
abbrev zm:Φ:=["_law_script","_law_at","_law_many","_law_most"]
abbrev Ua:Φ:=zm.append ["_law_rooms","_law_first","_law_cells","_law_cell_here","_law_room"]
abbrev zU:Φ:=["_law_title","_law_door_here","_law_names_here"]
abbrev Et:Φ:=zU.append ["_law_told","_law_sort","_law_pay","_law_pairs"]
abbrev GQ:Φ:=["_law_cell_here","_law_share","_law_rooms"]
abbrev YM:Φ:=GQ.append ["_law_names_here","_law_found","_law_k","_law_titles"]
abbrev Hh:Φ:=["_law_cell_here"]
abbrev qZ:Φ:=Hh.append ["_law_xs"]
abbrev Cr:Φ:=["_law_door_here"]
abbrev GH:Φ:=Cr.append ["_law_found","_law_room","_law_chance","_law_top","_law_bottom"]
abbrev Aj:Φ:=["_law_rooms"]
abbrev wM:Φ:=Aj
abbrev Bm:Φ:=["_law_cell_here","_law_many"]
abbrev U6:Φ:=Bm.append ["_law_xs"]
abbrev v8:Φ:=["_law_found"]
abbrev Eo:Φ:=v8
abbrev jE:Φ:=["_law_found"]
abbrev PL:Φ:=jE
abbrev nZ:Φ:=["_law_found","_law_many"]
abbrev zE:Φ:=nZ
abbrev pJ:Φ:=["_law_rooms"]
abbrev rY:Φ:=pJ
abbrev Ce:Φ:=["_law_ways_here","_law_chances_here"]
abbrev F9:Φ:=Ce.append ["_law_top","_law_bottom","_law_room","_law_chance","_law_part"]
abbrev z_:Φ:=["_law_ways_here","_law_plan_here"]
abbrev J9:Φ:=z_.append ["_law_found","_law_k"]
abbrev Fi:Φ:=["_law_taken_here","_law_goals_here"]
abbrev Wa:Φ:=Fi.append ["_law_found","_law_turn","_law_k"]
abbrev oM:Φ:=["_law_found","_law_ways_here","_law_goals_here","_law_plan_here"]
abbrev Q7:Φ:=oM.append ["_law_taken_here","_law_near_here","_law_k","_law_due"]
abbrev vR:Φ:=["_law_cell_here","_law_rooms"]
abbrev Xb:Φ:=vR.append ["_law_xs","_law_found","_law_k"]
abbrev Gj:Φ:=["_law_found","_law_rooms"]
abbrev F7:Φ:=Gj.append ["_law_door_here","_law_doors_here"]
abbrev Hv:Φ:=["_law_found","_law_rooms","_law_ways_here","_law_goals_here"]
abbrev FS:Φ:=Hv
abbrev Ba:Φ:=["_law_doors_here","_law_lot"]
abbrev T8:Φ:=Ba.append ["_law_rooms"]
abbrev Ew:Φ:=["_law_leads_here","_law_goals_here"]
abbrev GG:Φ:=Ew.append ["_law_lot","_law_turn","_law_k"]
abbrev Ax:Φ:=["_law_found","_law_rooms","_law_ways_here","_law_goals_here"]
abbrev Jb:Φ:=Ax.append ["_law_chances_here","_law_away_here","_law_k","_law_some","_law_top","_law_bottom"]
abbrev tG:Φ:=["_law_hall_here","_law_goals_here"]
abbrev QK:Φ:=tG.append ["_law_found","e"]
abbrev O7:Φ:=["_law_cell_here","_law_many"]
abbrev SB:Φ:=O7
abbrev sS:Φ:=["_law_hall_here","_law_goals_here","_law_cell_here","_law_many"]
abbrev Rf:Φ:=sS.append ["_law_odd_here","_law_at","_law_told"]
abbrev R6:Φ:=["_law_script"]
abbrev me:Φ:=R6.append ["_law_rooms","_law_ways_here","_law_share","_law_hall_here","_law_goals_here","_law_plans","_law_handed","_law_some","_law_others","_law_plan_here","_law_kept","_law_again","_law_mine","_law_one","_law_other"]
abbrev j8:Φ:=["self","name","pay"]
abbrev Am:Φ:=j8
abbrev m6:Φ:=["self"]
abbrev Wv:Φ:=m6
abbrev Fe:Φ:=["self","room"]
abbrev eE:Φ:=Fe
abbrev nu:Φ:=["self","name","pay","room"]
abbrev BZ:Φ:=nu
abbrev g8:Φ:=["self","name","pay","pairs"]
abbrev xu:Φ:=g8
abbrev nq:Φ:=["self","name","pay","chance","room","other"]
abbrev Jz:Φ:=nq
abbrev m_:Φ:=["self","name","pay","rooms"]
abbrev Bb:Φ:=m_
abbrev n_:Φ:=["self","share","rooms"]
abbrev zu:Φ:=n_
abbrev fD:Φ:=["self"]
abbrev Yz:Φ:=fD
abbrev Qw:Φ:=["self","name"]
abbrev Gd:Φ:=Qw
abbrev dN:Φ:=["self","room"]
abbrev Fv:Φ:=dN
abbrev JL:Φ:=["self","room","name"]
abbrev zR:Φ:=JL
abbrev eN:Φ:=["self","room"]
abbrev vD:Φ:=eN
abbrev jy:Φ:=["self","room"]
abbrev Pq:Φ:=jy
end K38
namespace H38
local macro_rules|`($n:num^$t)=>`((nat_lit $n,$t))
open PySem PySem.W L2 L2.Once K38
abbrev p:Program:=PySem.Challenge.pw_chancehall_k38_whole_least_chances
noncomputable section
noncomputable def dR(P:Params)(x:Str)(t m:Nat):DictEntry:=dE P x t (.ref m)
local macro_rules|`(⇑$x)=>`(dR $x "__static_attributes__")
noncomputable def wD(l:List DictEntry)(n:Nat):Obj:=⟨.type "dict",none,.dict ⟨l⟩ n,⟨[]⟩⟩
noncomputable def i3(a b:Nat)(c:Nat)(l:Θ):Θ:=.int a 0::.int b 0::.ref c::l
noncomputable def nd(o:Obj)(l r:BT):BT:=.node o l r
noncomputable def n1(o x:Obj):BT:=.node o (lf x) .nil
noncomputable def n2(o x y:Obj):BT:=.node o (lf x) (lf y)
def wA:Obj:=⟨.type "builtin_function_or_method",none,.fields ⟨[.builtin "type.__prepare__",.type "type"]⟩,⟨[]⟩⟩
def wB(n:Nat):Obj:=⟨.type "builtin_function_or_method",none,.fields ⟨[.builtin "object.__init_subclass__",.ref n]⟩,⟨[]⟩⟩
def wC(n:Str)(t l r u:Nat):Obj:=⟨.type "code",none,.fields ⟨[.str n t,.str n (t+1),.str "/claim/cut.py" (t+2),.int l 0,.int 0 0,.int 0 0,.int 0 0,.int 0 0,.ref r,.bool false,.int 181 0,.ref (r+1),.none,.none,.none,.none,.int u 0,.int l 0,.str "/claim/cut.py" (u+1)]⟩,⟨[]⟩⟩
def wF(c d:Nat)(n:Str)(t:Nat):Obj:=⟨.type "frame",none,.plain,⟨[some (.ref c),some (.ref 3),some (.ref d),none,some (.str n t),none,some (.ref 0)]⟩⟩
def wG(t n:Nat):Obj:=⟨.type "getset_descriptor",none,.fields ⟨[.str "__weakref__" t,.ref n,.builtin "ExceptionGroup.__weakref__",.none]⟩,⟨[]⟩⟩
def wK(n:Str)(b m:Θ)(d:Nat)(s:Θ)(o:Ω)(t u:Nat)(x:String):Obj:=⟨.type "type",none,.cls ⟨n,b,m,d,n,true,[],s,false,none,false⟩,⟨[o,none,some (.str n t),some (.str n u),some (.builtin x),some (.bool true)]⟩⟩
def wS(n:Nat):Obj:=⟨.type "super",none,.fields ⟨[.ref n,.ref n,.ref n]⟩,⟨[]⟩⟩
def wT(n:Nat):Obj:=⟨.type "tuple",none,.seq ⟨[.ref n]⟩ 0,⟨[]⟩⟩
def fO(n q:Str)(s:Stmt)(m:Value)(c:Nat):Obj:=⟨.type "function",none,.func (fnOf n q (j9 s) (fP s) (bH s) .none .none .none m none (.ref c) .none),⟨[]⟩⟩
def fT(n q:Str)(s:Stmt):Obj:=⟨.none,none,.func { fnOf n q (j9 s) (fP s) (bH s) .none .none .none .none none .none .none with globals:=0,builtins:=0 },⟨[]⟩⟩
def fV(n:Str)(k:Nat)(m:Value)(c:Nat):=fO n n (top k) m c
def fU(n:Str)(k:Nat):=fT n n (top k)
def cU(n:Str)(t:Nat)(l a f:Int)(r u:Nat):=cO n n t l a f r u
def cV(n:Str)(t:Nat)(l a f:Int)(r u:Nat):=cP n n t l a f r u
def dM(P:Params)(l:List (String×Nat×Nat)):List DictEntry:=l.map λx=>dR P (Str.ofString x.1) x.2.1 x.2.2
def dC(P:Params)(a:Nat)(m:Value)(n:Str)(l:Int)(r:List DictEntry):List DictEntry:=dE P "__module__" a m::dE P "__qualname__" (a+2) (.str n (a+1))::dE P "__firstlineno__" (a+4) (.int l (a+3))::r
def dF(P:Params)(a:Nat)(m:Value)(l:Int)(r:List DictEntry):List DictEntry:=dE P "__module__" a m::dE P "__firstlineno__" (a+4) (.int l (a+3))::r
def wX(n:Str)(c d o t u:Nat):=wK n [.ref 31] [.ref c,.ref 31,.type "ValueError",.type "Exception",.type "BaseException",.type "object"] d [] (some (.ref o)) t u "ValueError.__new__"
def Mo:Value:=.str "__main__" 164
def mo1:Value:=.str "chancehall.errors" 194
def tF:Value:=.str "chancehall.wholes" 328
def hQ:Value:=.str "chancehall.ratios" 348
def n':Value:=.str "chancehall.levels" 414
def kQ:Value:=.str "chancehall.plans" 439
def f0:Value:=.str "chancehall.papers" 471
def hL:Value:=.str "chancehall.solving" 563
def iv:Value:=.str "chancehall.ways" 623
def tz:Value:=.str "chancehall.worths" 665
def Yn:Value:=.str "chancehall.goals" 686
def PR:Value:=.str "chancehall.words" 753
def t_:Value:=.str "chancehall.doors" 763
def Ip:Value:=.str "chancehall.halls" 950
def kO:Value:=.str "law_chancehall_k38_whole_least_chances" 1065
noncomputable def zM(P:Params)(l:List (String×Nat×Nat))(n:Nat):Obj:=wD (dE P "__name__" 165 kO::dE P "__doc__" 166 .none::dE P "__package__" 167 .none::dE P "__loader__" 168 (.builtin "__main__.__loader__#opaque")::dE P "__spec__" 169 .none::dR P "__annotations__" 170 6::dR P "__builtins__" 171 4::dE P "__file__" 173 (.str "/claim/cut.py" 172)::dE P "__cached__" 174 .none::dM P [("_wall",193,21),("HallError",213,31),("NoNumber",229,44),("NoName",245,56),("NoChance",261,68),("NoShare",277,80),("NoRoom",302,99),("NoPlan",327,118),("is_whole",336,127),("divisor",347,134),("NOUGHT",352,135),("ONE",355,136),("ratio",364,143),("is_ratio",373,150),("plus",381,157),("minus",389,164),("times",397,171),("over",405,178),("under",413,185),("level",421,190),("total",429,197),("least",438,204),("first_plan",446,209),("fits",454,216),("check_plan",464,223),("behind_door",470,228),("lowest",478,233),("row_times",484,238),("row_plus",490,243),("take_step",499,250),("number_at",507,257),("fractions_of",513,262),("first_from",523,269),("go_on",532,276),("begin_row",544,283),("clear_column",556,290),("reduced",562,295),("width_of",571,302),("with_rights",577,307),("begins_of",583,312),("odd_row",593,319),("answer_of",605,326),("single_rows",611,331),("only_answer",622,338),("goal_marks",634,345),("leads_of",640,350),("meets",646,355),("by_some",652,360),("by_each",658,365),("steps_to",664,370),("chosen_doors",672,375),("left_rows",685,382),("on_the_way",693,387),("plan_chances",699,392),("chances_of",709,399),("picked_door",719,406),("turned_plan",725,411),("settled",737,418),("keeping_plan",743,423),("least_chances",752,430)]++dE P "LONGEST_WORD" 756 (.int 8 755)::dM P ([("is_word",762,435),("check_head",772,442),("check_room_name",779,449),("check_chance",786,456),("check_pairs",792,461),("joined_ways",798,466),("Door",845,497),("Sure",872,518),("Mixed",899,537),("Toss",927,556),("Even",949,573),("check_share",958,582),("numbers_of",968,589),("numbered_ways",979,596),("offers_of",990,603),("Hall",1064,658),("_law_cell",1074,669),("_law_stream",1086,676),("_law_gcd",1096,683),("_law_ratio",1105,690),("_law_names",1111,695),("_law_door",1117,700),("_law_doors",1123,705),("_law_built",1129,710),("_law_hall",1135,715),("_law_size",1143,722),("_law_ways",1149,727),("_law_leads",1155,732),("_law_goals",1161,737),("_law_whole",1168,744),("_law_is_fraction",1175,751),("_law_fractions",1181,756),("_law_all_ways",1187,761),("_law_mean",1200,768),("_law_taken",1210,775),("_law_near",1216,780),("_law_chances",1230,787),("_law_chosen",1241,794),("_law_plan",1251,801),("_law_pair",1261,808),("_law_stays",1267,813),("_law_away",1273,818),("_law_right",1289,825),("_law_refused",1299,832),("_law_odd",1307,839)]++l)++[]) n
def Pe(P:Params):=zM P [] 115
def tq:=fV "_wall" 0 Mo 20
def tm:Obj:=⟨.type "tuple",none,.seq ⟨.type "ValueError"::[]⟩ 0,⟨[]⟩⟩
def Mn(P:Params):=wD (dC P 203 mo1 "HallError" 5 <|⇑P 208 29::[]) 4
def tj(P:Params):=wD (dF P 203 mo1 5 <|⇑P 208 29::dR P "__weakref__" 210 32::dE P "__doc__" 211 .none::[]) 3
def ti:=wK "HallError" [.type "ValueError"] [.ref 31,.type "ValueError",.type "Exception",.type "BaseException",.type "object"] 30 [.ref 44,.ref 56,.ref 68,.ref 80,.ref 99,.ref 118] (some (.ref 22)) 196 204 "ValueError.__new__"
def Mm(P:Params):=wD (dC P 221 mo1 "NoNumber" 7 <|⇑P 226 42::[]) 4
def tf(P:Params):=wD (dF P 221 mo1 7 <|⇑P 226 42::dE P "__doc__" 227 .none::[]) 2
def s_:=wX "NoNumber" 44 43 35 214 222
def Me(P:Params):=wD (dC P 237 mo1 "NoName" 9 <|⇑P 242 54::[]) 4
def sY(P:Params):=wD (dF P 237 mo1 9 <|⇑P 242 54::dE P "__doc__" 243 .none::[]) 2
def sT:=wX "NoName" 56 55 47 230 238
def Md(P:Params):=wD (dC P 253 mo1 "NoChance" 11 <|⇑P 258 66::[]) 4
def sQ(P:Params):=wD (dF P 253 mo1 11 <|⇑P 258 66::dE P "__doc__" 259 .none::[]) 2
def sP:=wX "NoChance" 68 67 59 246 254
def Mc(P:Params):=wD (dC P 269 mo1 "NoShare" 13 <|⇑P 274 78::[]) 4
def sN(P:Params):=wD (dF P 269 mo1 13 <|⇑P 274 78::dE P "__doc__" 275 .none::[]) 2
def sM:=wX "NoShare" 80 79 71 262 270
def Mb(P:Params):=wD (dC P 285 mo1 "NoRoom" 15 <|dR P "__init__" 297 96::⇑P 299 97::[]) 5
def sL:=cO "__init__" "NoRoom.__init__" 290 17 2 3 90 295
def sK:=fO "__init__" "NoRoom.__init__" (g_ 7 0) mo1 95
def sF(P:Params):=wD (dF P 285 mo1 15 <|dR P "__init__" 297 96::⇑P 299 97::dE P "__doc__" 300 .none::[]) 2
def sD:=wX "NoRoom" 99 98 83 278 286
def OX(P:Params):=wD (dC P 310 mo1 "NoPlan" 20 <|dR P "__init__" 322 115::⇑P 324 116::[]) 5
def CF:=cO "__init__" "NoPlan.__init__" 315 22 2 3 109 320
def BU:=fO "__init__" "NoPlan.__init__" (g_ 8 0) mo1 114
def t8(P:Params):=wD (dF P 310 mo1 20 <|dR P "__init__" 322 115::⇑P 324 116::dE P "__doc__" 325 .none::[]) 2
def v6:=wX "NoPlan" 118 117 102 303 311
def yz:=fV "is_whole" 10 tF 126
def vT:=tN 340 Ra
def BF:=fV "divisor" 11 tF 133
def v5:Obj:=⟨.type "tuple",none,.seq ⟨.int 0 350::.int 1 351::[]⟩ 0,⟨[]⟩⟩
def AA:Obj:=⟨.type "tuple",none,.seq ⟨.int 1 353::.int 1 354::[]⟩ 0,⟨[]⟩⟩
def EB:=fV "ratio" 15 hQ 142
def Ct:=fV "is_ratio" 16 hQ 149
def A5:=fV "plus" 17 hQ 156
def t5:=fV "minus" 18 hQ 163
def DZ:=fV "times" 19 hQ 170
def uT:=fV "over" 20 hQ 177
def y7:=fV "under" 21 hQ 184
def AT:=fV "level" 23 n' 189
def vv:=fV "total" 24 n' 196
def yY:=fV "least" 25 n' 203
def Db:=cV "first_plan" 441 82 1 3 205 444
def DL:=fV "first_plan" 27 kQ 208
def w4:=fV "fits" 28 kQ 215
def A2:=cU "check_plan" 455 88 2 3 217 462
def BM:=fV "check_plan" 29 kQ 222
def AC:=cV "behind_door" 465 95 2 3 224 468
def Bp:=fV "behind_door" 30 kQ 227
def AO:=fV "lowest" 32 f0 232
def AE:=cV "row_times" 479 104 2 3 234 482
def A4:=fV "row_times" 33 f0 237
def wh:=cV "row_plus" 485 106 3 3 239 488
def Du:=fV "row_plus" 34 f0 242
def xx:=cU "take_step" 491 113 2 3 244 497
def t7:=fV "take_step" 35 f0 249
def uv:=cU "number_at" 500 122 2 3 251 505
def DV:=fV "number_at" 36 f0 256
def w8:=cV "fractions_of" 508 124 1 3 258 511
def BO:=fV "fractions_of" 37 f0 261
def EC:=tN 517 FP
def D6:=cU "first_from" 514 126 3 3 263 521
def v2:=fV "first_from" 38 f0 268
def uj:=fV "go_on" 39 f0 275
def EA:=tN 536 Jo
def ww:=cU "begin_row" 533 134 5 3 277 542
def Bz:=fV "begin_row" 40 f0 282
def DH:=tN 548 Aw
def ui:=cU "clear_column" 545 140 4 3 284 554
def BG:=fV "clear_column" 41 f0 289
def wW:=fV "reduced" 42 f0 294
def BB:=cU "width_of" 565 157 1 3 296 569
def vl:=fV "width_of" 44 hL 301
def Ee:=cV "with_rights" 572 161 2 3 303 575
def C6:=fV "with_rights" 45 hL 306
def uk:=cV "begins_of" 578 163 2 3 308 581
def DO:=fV "begins_of" 46 hL 311
def Cc:=fV "odd_row" 47 hL 318
def u4:=tN 597 JD
def DU:=cU "answer_of" 594 175 3 3 320 603
def BA:=fV "answer_of" 48 hL 325
def uS:=cV "single_rows" 606 180 1 3 327 609
def B9:=fV "single_rows" 49 hL 330
def uB:=tN 615 CZ
def AQ:=cU "only_answer" 612 182 2 3 332 620
def Dx:=fV "only_answer" 50 hL 337
def zo:=cU "goal_marks" 625 190 2 3 339 632
def A1:=fV "goal_marks" 52 iv 344
def yT:=cV "leads_of" 635 196 2 3 346 638
def CI:=fV "leads_of" 53 iv 349
def AB:=fV "meets" 54 iv 354
def B6:=fV "by_some" 55 iv 359
def AR:=fV "by_each" 56 iv 364
def uY:=cV "steps_to" 659 208 3 3 366 662
def t9:=fV "steps_to" 57 iv 369
def A':Obj:=cV "chosen_doors" 667 219 2 3 371 670
def CL:=fV "chosen_doors" 59 tz 374
def AX:=tN 676 Jt
def A0:=cU "left_rows" 673 221 2 3 376 683
def Cb:=fV "left_rows" 60 tz 381
def AK:=cV "on_the_way" 688 229 2 3 383 691
def Bn:=fV "on_the_way" 62 Yn 386
def D4:=cV "plan_chances" 694 233 3 3 388 697
def Bc:=fV "plan_chances" 63 Yn 391
def CY:=cU "chances_of" 700 236 3 3 393 707
def Ev:=fV "chances_of" 64 Yn 398
def C8:=cU "picked_door" 710 240 3 3 400 717
def A7:=fV "picked_door" 65 Yn 405
def wO:=cV "turned_plan" 720 245 4 3 407 723
def x6:=fV "turned_plan" 66 Yn 410
def vb:=tN 729 QZ
def vu:=fV "settled" 67 Yn 417
def x4:=cV "keeping_plan" 738 259 2 3 419 741
def BV:=fV "keeping_plan" 68 Yn 422
def AH:=cU "least_chances" 744 267 2 3 424 750
def D1:=fV "least_chances" 69 Yn 429
def D5:=fV "is_word" 72 PR 434
def AS:=cU "check_head" 765 277 2 3 436 770
def wm:=fV "check_head" 74 t_ 441
def BI:=cU "check_room_name" 773 282 1 3 443 777
def CC:=fV "check_room_name" 75 t_ 448
def AN:=cU "check_chance" 780 285 1 3 450 784
def BC:=fV "check_chance" 76 t_ 455
def Do:=cV "check_pairs" 787 288 1 3 457 790
def BY:=fV "check_pairs" 77 t_ 460
def Bv:=cV "joined_ways" 793 294 1 3 462 796
def B3:=fV "joined_ways" 78 t_ 465
def MT(P:Params):=wD (dC P 806 t_ "Door" 299 <|dM P [("__init__",819,480),("ways",826,487),("chance_to",834,494),("__static_attributes__",838,495)]++[]) 7
def Eg:=cO "__init__" "Door.__init__" 811 301 3 3 474 817
def By:=fO "__init__" "Door.__init__" (g_ 79 0) t_ 479
def DE:=fO "ways" "Door.ways" (g_ 79 1) t_ 486
def BE:=cO "chance_to" "Door.chance_to" 827 310 2 3 488 832
def zp:=fO "chance_to" "Door.chance_to" (g_ 79 2) t_ 493
def ub(P:Params):=wD (dF P 806 t_ 299 <|dM P [("__init__",819,480),("ways",826,487),("chance_to",834,494),("__static_attributes__",838,495),("__dict__",840,498),("__weakref__",842,499)]++dE P "__doc__" 843 .none::[]) 4
def vA:=wK "Door" [.type "object"] [.ref 497,.type "object"] 496 [.ref 518,.ref 537] none 799 807 "object.__new__"
def Ap:Obj:=⟨.type "getset_descriptor",none,.fields ⟨.str "__dict__" 839::.ref 497::.builtin "function.__dict__"::.builtin "function.__dict__#set"::[]⟩,⟨[]⟩⟩
def NB(P:Params):=wD (dC P 853 t_ "Sure" 312 <|dR P "__init__" 867 515::⇑P 869 516::[]) 5
def uX:=cO "__init__" "Sure.__init__" 858 314 4 3 509 865
def D9:=fO "__init__" "Sure.__init__" (g_ 80 0) t_ 514
def x5(P:Params):=wD (dF P 853 t_ 312 <|dR P "__init__" 867 515::⇑P 869 516::dE P "__doc__" 870 .none::[]) 2
def uQ:=wK "Sure" [.ref 497] [.ref 518,.ref 497,.type "object"] 517 [] (some (.ref 502)) 846 854 "object.__new__"
def OV(P:Params):=wD (dC P 880 t_ "Mixed" 318 <|dR P "__init__" 894 534::⇑P 896 535::[]) 5
def uC:=cO "__init__" "Mixed.__init__" 885 320 4 3 528 892
def D8:=fO "__init__" "Mixed.__init__" (g_ 81 0) t_ 533
def AV(P:Params):=wD (dF P 880 t_ 318 <|dR P "__init__" 894 534::⇑P 896 535::dE P "__doc__" 897 .none::[]) 2
def uM:=wK "Mixed" [.ref 497] [.ref 537,.ref 497,.type "object"] 536 [.ref 556,.ref 573] (some (.ref 521)) 873 881 "object.__new__"
def OK(P:Params):=wD (dC P 907 t_ "Toss" 324 <|dR P "__init__" 923 553::⇑P 924 554::[]) 5
def Bg:=tN 915 Jz
def AU:=cO "__init__" "Toss.__init__" 912 326 6 3 547 921
def D3:=fO "__init__" "Toss.__init__" (g_ 82 0) t_ 552
def AD(P:Params):=wD (dF P 907 t_ 324 <|dR P "__init__" 923 553::⇑P 924 554::dE P "__doc__" 925 .none::[]) 2
def A9:=wK "Toss" [.ref 537] [.ref 556,.ref 537,.ref 497,.type "object"] 555 [] (some (.ref 540)) 900 908 "object.__new__"
def NE(P:Params):=wD (dC P 935 t_ "Even" 330 <|dR P "__init__" 945 570::⇑P 946 571::[]) 5
def ym:=cP "__init__" "Even.__init__" 940 332 4 3 566 943
def Az:=fO "__init__" "Even.__init__" (g_ 83 0) t_ 569
def v_(P:Params):=wD (dF P 935 t_ 330 <|dR P "__init__" 945 570::⇑P 946 571::dE P "__doc__" 947 .none::[]) 2
def v9:=wK "Even" [.ref 537] [.ref 573,.ref 537,.ref 497,.type "object"] 572 [] (some (.ref 559)) 928 936 "object.__new__"
def BQ:=cU "check_share" 952 335 1 3 576 956
def z5:=fV "check_share" 85 Ip 581
def AY:=cU "numbers_of" 959 338 1 3 583 966
def v4:=fV "numbers_of" 86 Ip 588
def A8:=tN 972 yF
def t6:=cU "numbered_ways" 969 346 2 3 590 977
def C9:=fV "numbered_ways" 87 Ip 595
def Da:=tN 983 Jl
def De:=cU "offers_of" 980 353 2 3 597 988
def CM:=fV "offers_of" 88 Ip 602
def MZ(P:Params):=wD (dC P 998 Ip "Hall" 362 <|dM P [("__init__",1008,615),("size",1015,622),("names",1022,629),("place",1030,636),("check_room",1038,643),("door_at",1047,650),("offers",1053,655),("__static_attributes__",1057,656)]++[]) 11
def BN:=cP "__init__" "Hall.__init__" 1003 364 3 3 611 1006
def uW:=fO "__init__" "Hall.__init__" (g_ 89 0) Ip 614
def DY:=fO "size" "Hall.size" (g_ 89 1) Ip 621
def v1:=cO "names" "Hall.names" 1016 373 1 3 623 1020
def uu:=fO "names" "Hall.names" (g_ 89 2) Ip 628
def CS:=cO "place" "Hall.place" 1023 376 2 3 630 1028
def wz:=fO "place" "Hall.place" (g_ 89 3) Ip 635
def D2:=cO "check_room" "Hall.check_room" 1031 381 2 3 637 1036
def y_:=fO "check_room" "Hall.check_room" (g_ 89 4) Ip 642
def CD:=cO "door_at" "Hall.door_at" 1039 385 3 3 644 1045
def AF:=fO "door_at" "Hall.door_at" (g_ 89 5) Ip 649
def AJ:=cP "offers" "Hall.offers" 1048 388 2 3 651 1051
def DB:=fO "offers" "Hall.offers" (g_ 89 6) Ip 654
def vE(P:Params):=wD (dF P 998 Ip 362 <|dM P [("__init__",1008,615),("size",1015,622),("names",1022,629),("place",1030,636),("check_room",1038,643),("door_at",1047,650),("offers",1053,655),("__static_attributes__",1057,656),("__dict__",1059,659),("__weakref__",1061,660)]++dE P "__doc__" 1062 .none::[]) 4
def zr:=wK "Hall" [.type "object"] [.ref 658,.type "object"] 657 [] none 991 999 "object.__new__"
def yk:Obj:=⟨.type "getset_descriptor",none,.fields ⟨.str "__dict__" 1058::.ref 658::.builtin "function.__dict__"::.builtin "function.__dict__#set"::[]⟩,⟨[]⟩⟩
def CH:=cU "_law_cell" 1067 392 2 3 663 1072
def tX:=fV "_law_cell" 91 kO 668
def t0:=tN 1078 Xm
def x_:=cU "_law_stream" 1075 394 2 3 670 1084
def yw:=fV "_law_stream" 92 kO 675
def u7:=tN 1090 Fk
def At:=cU "_law_gcd" 1087 405 2 3 677 1094
def ua:=fV "_law_gcd" 93 kO 682
def t4:=tN 1100 Wg
def BD:=cU "_law_ratio" 1097 410 2 3 684 1103
def C2:=fV "_law_ratio" 94 kO 689
def vd:=cV "_law_names" 1106 413 2 3 691 1109
def AZ:=fV "_law_names" 95 kO 694
def yn:=cV "_law_door" 1112 422 2 3 696 1115
def u2:=fV "_law_door" 96 kO 699
def An:=cV "_law_doors" 1118 439 4 3 701 1121
def u3:=fV "_law_doors" 97 kO 704
def DI:=cV "_law_built" 1124 449 3 3 706 1127
def D0:=fV "_law_built" 98 kO 709
def CU:=cV "_law_hall" 1130 459 3 3 711 1133
def Eb:=fV "_law_hall" 99 kO 714
def w':Obj:=cU "_law_size" 1136 466 1 3 716 1141
def As:=fV "_law_size" 100 kO 721
def uH:=cV "_law_ways" 1144 473 1 3 723 1147
def wZ:=fV "_law_ways" 101 kO 726
def yu:=cV "_law_leads" 1150 479 1 3 728 1153
def Ef:=fV "_law_leads" 102 kO 731
def C5:=cV "_law_goals" 1156 481 2 3 733 1159
def Ad:=fV "_law_goals" 103 kO 736
def Ec:=cU "_law_whole" 1162 486 1 3 738 1166
def BS:=fV "_law_whole" 104 kO 743
def ED:=cU "_law_is_fraction" 1169 488 1 3 745 1173
def D':Obj:=fV "_law_is_fraction" 105 kO 750
def v3:=cV "_law_fractions" 1176 494 2 3 752 1179
def Co:=fV "_law_fractions" 106 kO 755
def ut:=cV "_law_all_ways" 1182 498 1 3 757 1185
def yo:=fV "_law_all_ways" 107 kO 760
def Cn:=tN 1191 F9
def uL:=cU "_law_mean" 1188 500 2 3 762 1198
def u8:=fV "_law_mean" 108 kO 767
def DS:=tN 1204 J9
def uO:=cU "_law_taken" 1201 508 2 3 769 1208
def yy:=fV "_law_taken" 109 kO 774
def Bi:=cV "_law_near" 1211 516 2 3 776 1214
def zv:=fV "_law_near" 110 kO 779
def DF:=tN 1220 Q7
def A6:=cU "_law_chances" 1217 523 4 3 781 1228
def AW:=fV "_law_chances" 111 kO 786
def BH:=tN 1234 Xb
def Au:=cU "_law_chosen" 1231 537 2 3 788 1239
def u0:=fV "_law_chosen" 112 kO 793
def Ae:=tN 1245 F7
def Cf:=cU "_law_plan" 1242 546 2 3 795 1249
def yg:=fV "_law_plan" 113 kO 800
def wu:=tN 1255 FS
def B5:=cU "_law_pair" 1252 555 4 3 802 1259
def u9:=fV "_law_pair" 114 kO 807
def CB:=cV "_law_stays" 1262 559 2 3 809 1265
def Cs:=fV "_law_stays" 115 kO 812
def y9:=cV "_law_away" 1268 566 2 3 814 1271
def ue:=fV "_law_away" 116 kO 817
def u1:=tN 1277 Jb
def wj:=cU "_law_right" 1274 573 4 3 819 1287
def w_:=fV "_law_right" 117 kO 824
def C3:=tN 1293 QK
def yA:=cU "_law_refused" 1290 586 2 3 826 1297
def v':Obj:=fV "_law_refused" 118 kO 831
def C4:=cU "_law_odd" 1300 593 2 3 833 1305
def A3:=fV "_law_odd" 119 kO 838
def LH(P:Params):BT:=nd (boot_o_0 P) (nd (boot_o_1 P) (nd (Pe P) (nd (boot_o_7 P) (nd tE (nd ti (nd fE (nd yz (n2 (fU "number_at" 36) (tN 861 BZ) uL) (n1 tE (tN 1034 eE))) (nd tE (n2 Cc (wB 573) yA) (n1 (fU "check_room_name" 75) (fU "_law_doors" 97)))) (nd sL (nd fE (n2 tE tE (fU "_law_plan" 113)) (n1 tE fE)) (nd BM (n1 tE tE) (n1 Eg (fU "_law_goals" 103))))) (nd (wT 31) (nd (sN P) (nd EB (n2 fE (wF 526 523 "chancehall.doors" 763) DF) (n1 Ev DB)) (nd (fU "first_plan" 27) (n1 tE fE) (n1 fE tE))) (nd (tN 318 eE) (nd tE (n2 tE (wT 537) fE) (n1 tE tE)) (nd tE (n1 fE tE) (n1 (tN 835 ["leads","name","pay"]) D'))))) (nd wA (nd fE (nd (wT 31) (nd v5 (n2 tE (wS 518) yy) (n1 D4 tE)) (nd fE (n2 tE tE A3) (n1 AN tE))) (nd wA (nd (tN 393 dh) (n2 wW (fT "__init__" "Toss.__init__" (g_ 82 0)) B5) (n1 BV u7)) (nd (fU "lowest" 32) (n1 (cV "by_some" 647 204 2 3 356 650) uW) (n1 DE Ec)))) (nd (sY P) (nd (⟨.none,none,.fields ⟨i3 17 4 95 <|[]⟩,⟨[]⟩⟩) (nd tE (n2 EA (tN 895 ["leads"]) tE) (n1 tE tE)) (nd (cU "fits" 447 84 2 3 210 452) (n1 (fU "goal_marks" 52) Da) (n1 (⟨.none,none,.fields ⟨i3 301 4 479 <|i3 307 4 486 <|i3 310 4 493 <|[]⟩,⟨[]⟩⟩) wZ))) (nd (wS 118) (nd (fU "under" 21) (n2 uk fE (fU "_law_right" 117)) (n1 tE AZ)) (nd tE (n1 CL fE) (n1 wA (fU "_law_all_ways" 107))))))) (nd n6 (nd (fU "_wall" 0) (nd (wT 31) (nd (sQ P) (nd tE (n2 fE D9 DS) (n1 Bn y_)) (nd (fU "total" 24) (n2 tE tE (tN 1303 gG)) (n1 fE fE))) (nd sD (nd (cU "minus" 382 58 2 3 158 387) (n2 tE tE fE) (n1 tE x_)) (nd AC (n1 AB tE) (n1 (tN 823 ["self"]) fE)))) (nd fE (nd (wT 31) (nd tE (n2 (cU "go_on" 524 131 3 3 270 530) tE AW) (n1 tE yk)) (nd fE (n1 tE t6) (n1 tE tE))) (nd BU (nd tE (n2 C6 (⟨.none,none,.fields ⟨i3 332 4 569 <|[]⟩,⟨[]⟩⟩) tE) (n1 D5 tE)) (nd Du (n1 tE (fT "names" "Hall.names" (g_ 89 2))) (n1 (wG 841 497) v3))))) (nd (wC "HallError" 198 5 25 201) (nd (tf P) (nd fE (nd (tN 359 R4) (n2 (fU "first_from" 38) (OV P) Bi) (n1 (tN 703 xR) tE)) (nd (cU "least" 430 75 1 3 198 436) (n1 B9 (fU "numbers_of" 86)) (n1 (fU "check_pairs" 77) Eb))) (nd (wC "NoPlan" 305 20 105 308) (nd DZ (n2 tE (AD P) (fU "_law_stays" 115)) (n1 tE ua)) (nd fE (n1 (fU "by_each" 56) tE) (n1 tE (tN 1172 Eo))))) (nd (wT 31) (nd fE (nd (fU "plus" 17) (n2 Bz (wB 537) tE) (n1 x6 (fU "_law_cell" 91))) (nd (tN 458 wQ) (n1 fE CM) (n1 fE yu))) (nd (tN 333 ["thing"]) (nd fE (n2 (tN 587 Ik) tE fE) (n1 tE yn)) (nd tE (n1 tE CS) (n1 (wC "Sure" 848 312 505 851) fE))))))) (nd (boot_o_5 P) (nd (boot_o_9 P) (nd (tN 190 ["k"]) (nd (wS 31) (nd (wF 64 61 "chancehall.errors" 194) (nd fE (n2 DV (fT "__init__" "Sure.__init__" (g_ 80 0)) tE) (n1 (fU "on_the_way" 62) (fT "check_room" "Hall.check_room" (g_ 89 4)))) (nd (tN 425 U4) (n2 fE fE tE) (n1 CC u3))) (nd (tN 298 ["room"]) (nd tE (n2 ui (wC "Toss" 902 324 543 905) yg) (n1 (cU "settled" 726 252 4 3 412 735) tE)) (nd fE (n1 (fU "meets" 54) (wC "Hall" 993 362 607 996)) (n1 tE Ad)))) (nd (Me P) (nd (wS 80) (nd fE (n2 tE fE (fU "_law_chances" 111)) (n1 fE (vE P))) (nd DL (n1 AQ tE) (n1 Bv w'))) (nd (fT "__init__" "NoPlan.__init__" (g_ 8 0)) (nd (cU "over" 398 62 2 3 172 403) (n2 (fU "with_rights" 45) (NE P) y9) (n1 (fU "is_word" 72) BD)) (nd (fU "row_plus" 34) (n1 uY (tN 1019 ["self"])) (n1 vA fE))))) (nd tE (nd (wF 40 37 "chancehall.errors" 194) (nd (Mc P) (nd tE (n2 EC (wT 497) fE) (n1 tE CD)) (nd tE (n1 (fU "single_rows" 49) (tN 962 xH)) (n1 tE (fU "_law_hall" 99)))) (nd tE (nd (fU "times" 19) (n2 fE D3 tE) (n1 fE (fU "_law_gcd" 93))) (nd AO (n1 tE fE) (n1 fE tE)))) (nd (wS 56) (nd (wF 88 85 "chancehall.errors" 194) (nd (tN 377 dh) (n2 (fU "begin_row" 40) uM Au) (n1 (fU "turned_plan" 66) (tN 1070 Zy))) (nd tE (n1 A1 (fU "offers_of" 88)) (n1 (wF 472 469 "chancehall.doors" 763) fE))) (nd tE (nd y7 (n2 tE ym w_) (n1 AS fE)) (nd xx (n1 fE tE) (n1 tE yo)))))) (nd n5 (nd tq (nd (Mm P) (nd (wS 68) (nd (cU "divisor" 337 28 2 3 128 345) (n2 w8 (x5 P) (fU "_law_taken" 109)) (n1 fE fE)) (nd vv (n2 DU BQ (fU "_law_odd" 119)) (n1 tE DI))) (nd (wB 99) (nd tE (n2 (fU "reduced" 42) Bg tE) (n1 (fU "keeping_plan" 68) tE)) (nd tE (n1 fE (fT "__init__" "Hall.__init__" (g_ 89 0))) (n1 (fT "ways" "Door.ways" (g_ 79 1)) tE)))) (nd (wF 52 49 "chancehall.errors" 194) (nd (Mb P) (nd (cU "is_ratio" 365 48 1 3 144 371) (n2 tE uC fE) (n1 C8 (wS 658))) (nd tE (n1 (tN 628 xP) tE) (n1 (MT P) (fU "_law_ways" 101)))) (nd (t8 P) (nd (tN 409 dh) (n2 fE (wF 564 561 "chancehall.doors" 763) u1) (n1 fE (fU "_law_names" 95))) (nd fE (n1 (fU "chosen_doors" 59) uu) (n1 (wB 497) tE))))) (nd tE (nd (wS 44) (nd (wF 76 73 "chancehall.errors" 194) (nd (fU "ratio" 15) (n2 v2 (⟨.none,none,.fields ⟨i3 320 4 533 <|[]⟩,⟨[]⟩⟩) tE) (n1 (fU "chances_of" 64) (fT "offers" "Hall.offers" (g_ 89 6)))) (nd tE (n1 fE v4) (n1 BY fE))) (nd tE (nd fE (n2 BB (wS 556) Cs) (n1 AH fE)) (nd AE (n1 AR (cO "size" "Hall.size" 1009 370 1 3 616 1013)) (n1 BE (fU "_law_is_fraction" 105))))) (nd (Md P) (nd tE (nd A5 (n2 fE wA Ae) (n1 fE tX)) (nd (fU "check_plan" 29) (n1 yT wA) (n1 tE tE))) (nd (fU "is_whole" 10) (nd (cV "level" 416 67 1 3 186 419) (n2 (fU "odd_row" 47) v9 tE) (n1 (tN 776 ["room"]) tE)) (nd (tN 503 yU) (n1 A0 tE) (n1 tE tE)))))))) (nd (boot_o_2 P) (nd (boot_o_4 P) (nd (boot_o_8 P) (nd fE (nd (wG 209 31) (nd (wC "NoChance" 248 11 62 251) (nd tE (n2 uv tE u8) (n1 fE tE)) (nd fE (n2 tE tE v') (n1 BI An))) (nd sK (nd (tN 385 dh) (n2 (fU "clear_column" 41) (⟨.none,none,.fields ⟨i3 326 4 552 <|[]⟩,⟨[]⟩⟩) Cf) (n1 (fU "settled" 67) t0)) (nd tE (n1 fE (⟨.none,none,.fields ⟨i3 364 4 614 <|i3 370 4 621 <|i3 373 4 628 <|i3 376 4 635 <|i3 381 4 642 <|i3 385 4 649 <|i3 388 4 654 <|[]⟩,⟨[]⟩⟩)) (n1 By C5)))) (nd wA (nd sM (nd tE (n2 (tN 527 Vp) tE tE) (n1 tE (tN 1054 ["numbers","offered","share"]))) (nd Db (n1 (fU "only_answer" 50) A8) (n1 (fU "joined_ways" 78) (fU "_law_size" 100)))) (nd tE (nd (fU "over" 20) (n2 fE wA (fU "_law_away" 116)) (n1 fE (fU "_law_ratio" 94))) (nd fE (n1 (fU "steps_to" 57) fE) (n1 (ub P) tE))))) (nd (Mn P) (nd (wC "NoNumber" 216 7 38 219) (nd wA (nd AA (n2 fE (wB 518) tE) (n1 Bc (fT "door_at" "Hall.door_at" (g_ 89 5)))) (nd (tN 433 RV) (n1 fE fE) (n1 BC fE))) (nd (OX P) (nd tE (n2 tE AU u9) (n1 tE tE)) (nd (cV "lowest" 473 99 2 3 229 476) (n1 B6 tE) (n1 tE BS)))) (nd sT (nd (wC "NoRoom" 280 15 86 283) (nd fE (n2 tE (AV P) (fU "_law_chosen" 112)) (n1 fE fE)) (nd w4 (n1 zo tE) (n1 (wC "Door" 801 299 470 804) tE))) (nd (wB 118) (nd (cU "under" 406 64 2 3 179 411) (n2 DO (fT "__init__" "Even.__init__" (g_ 83 0)) wj) (n1 (fU "check_head" 74) tE)) (nd (fU "take_step" 35) (n1 tE (tN 1026 Gd)) (n1 (NB P) ut)))))) (nd (⟨.none,none,.fields ⟨i3 1 0 20 <|i3 5 0 27 <|i3 7 0 40 <|i3 9 0 52 <|i3 11 0 64 <|i3 13 0 76 <|i3 15 0 88 <|i3 20 0 107 <|i3 26 0 126 <|i3 28 0 133 <|i3 39 0 142 <|i3 48 0 149 <|i3 56 0 156 <|i3 58 0 163 <|i3 60 0 170 <|i3 62 0 177 <|i3 64 0 184 <|i3 67 0 189 <|i3 72 0 196 <|i3 75 0 203 <|i3 82 0 208 <|i3 84 0 215 <|i3 88 0 222 <|i3 95 0 227 <|i3 99 0 232 <|i3 104 0 237 <|i3 106 0 242 <|i3 113 0 249 <|i3 122 0 256 <|i3 124 0 261 <|i3 126 0 268 <|i3 131 0 275 <|i3 134 0 282 <|i3 140 0 289 <|i3 145 0 294 <|i3 157 0 301 <|i3 161 0 306 <|i3 163 0 311 <|i3 170 0 318 <|i3 175 0 325 <|i3 180 0 330 <|i3 182 0 337 <|i3 190 0 344 <|i3 196 0 349 <|i3 202 0 354 <|i3 204 0 359 <|i3 206 0 364 <|i3 208 0 369 <|i3 219 0 374 <|i3 221 0 381 <|i3 229 0 386 <|i3 233 0 391 <|i3 236 0 398 <|i3 240 0 405 <|i3 245 0 410 <|i3 252 0 417 <|i3 259 0 422 <|i3 267 0 429 <|i3 272 0 434 <|i3 277 0 441 <|i3 282 0 448 <|i3 285 0 455 <|i3 288 0 460 <|i3 294 0 465 <|i3 299 0 472 <|i3 312 0 507 <|i3 318 0 526 <|i3 324 0 545 <|i3 330 0 564 <|i3 335 0 581 <|i3 338 0 588 <|i3 346 0 595 <|i3 353 0 602 <|i3 362 0 609 <|i3 392 0 668 <|i3 394 0 675 <|i3 405 0 682 <|i3 410 0 689 <|i3 413 0 694 <|i3 422 0 699 <|i3 439 0 704 <|i3 449 0 709 <|i3 459 0 714 <|i3 466 0 721 <|i3 473 0 726 <|i3 479 0 731 <|i3 481 0 736 <|i3 486 0 743 <|i3 488 0 750 <|i3 494 0 755 <|i3 498 0 760 <|i3 500 0 767 <|i3 508 0 774 <|i3 516 0 779 <|i3 523 0 786 <|i3 537 0 793 <|i3 546 0 800 <|i3 555 0 807 <|i3 559 0 812 <|i3 566 0 817 <|i3 573 0 824 <|i3 586 0 831 <|i3 593 0 838 <|[]⟩,⟨[]⟩⟩) (nd (cU "_wall" 187 1 1 3 15 191) (nd wA (nd sP (nd (fU "divisor" 11) (n2 (fU "fractions_of" 37) (tN 868 ["leads"]) tE) (n1 tE tE)) (nd (cU "total" 422 72 1 3 191 427) (n2 (fU "answer_of" 48) (fU "check_share" 85) tE) (n1 (tN 783 ["chance"]) (fU "_law_built" 98)))) (nd (wS 99) (nd t5 (n2 fE fE wu) (n1 fE yw)) (nd Bp (n1 tE fE) (n1 tE (tN 1165 Eo))))) (nd (wC "NoName" 232 9 50 235) (nd wA (nd (fU "is_ratio" 16) (n2 uj (fT "__init__" "Mixed.__init__" (g_ 81 0)) tE) (n1 (fU "picked_door" 65) (wG 1060 658))) (nd (tN 450 qM) (n1 fE C9) (n1 wA fE))) (nd (tN 323 ["room"]) (nd fE (n2 tE (wC "Even" 930 330 562 933) fE) (n1 tE fE)) (nd tE (n1 fE v1) (n1 (wS 497) Co))))) (nd (wF 27 24 "chancehall.errors" 194) (nd s_ (nd (wC "NoShare" 264 13 74 267) (nd tE (n2 D6 tE zv) (n1 tE fE)) (nd yY (n1 tE AY) (n1 Do tE))) (nd (wF 107 104 "chancehall.errors" 194) (nd tE (n2 (fU "width_of" 44) A9 CB) (n1 (fU "least_chances" 69) tE)) (nd (fU "row_times" 33) (n1 (cV "by_each" 653 206 2 3 361 656) (fT "size" "Hall.size" (g_ 89 1))) (n1 (fT "chance_to" "Door.chance_to" (g_ 79 2)) tE)))) (nd wA (nd (tN 293 eE) (nd (cU "plus" 374 56 2 3 151 379) (n2 tE (wT 537) fE) (n1 tE CH)) (nd tE (n1 (fU "leads_of" 53) tE) (n1 (tN 814 Am) Ef))) (nd tE (nd (fU "level" 23) (n2 tE (v_ P) C3) (n1 fE u2)) (nd fE (n1 (fU "left_rows" 60) wz) (n1 (wF 507 504 "chancehall.doors" 763) Cn))))))) (nd (boot_o_6 P) (nd (boot_o_10 P) (nd tE (nd (wB 31) (nd tE (nd vT (n2 tE uX fE) (n1 AK D2)) (nd tE (n2 u4 (tN 955 ["share"]) fE) (n1 tE tE))) (nd (sF P) (nd (fU "minus" 18) (n2 BG (wF 545 542 "chancehall.doors" 763) tE) (n1 vu (fU "_law_stream" 92))) (nd (fU "behind_door" 30) (n1 (cV "meets" 641 202 2 3 351 644) (wF 609 606 "chancehall.halls" 950)) (n1 fE tE)))) (nd tE (nd (wB 80) (nd (tN 368 Dt) (n2 (fU "go_on" 39) (tN 888 xu) A6) (n1 (tN 713 vI) zr)) (nd tE (n1 Dx (fU "numbered_ways" 87)) (n1 B3 As))) (nd CF (nd uT (n2 Ee tE ue) (n1 (cV "is_word" 757 272 1 3 431 760) C2)) (nd wh (n1 t9 tE) (n1 Ap (fU "_law_fractions" 106)))))) (nd fE (nd tE (nd tE (nd fE (n2 tE wA (fU "_law_near" 110)) (n1 fE AF)) (nd (fU "least" 25) (n1 uS tE) (n1 fE CU))) (nd (⟨.none,none,.fields ⟨i3 22 4 114 <|[]⟩,⟨[]⟩⟩) (nd (cU "times" 390 60 2 3 165 395) (n2 (tN 568 ["rows"]) tE fE) (n1 (tN 747 qd) At)) (nd tE (n1 fE (tN 1012 ["self"])) (n1 (tN 830 eE) fE)))) (nd (wB 56) (nd tE (nd tE (n2 ww (wS 537) u0) (n1 wO tE)) (nd fE (n1 tE De) (n1 tE (fU "_law_leads" 102)))) (nd fE (nd tE (n2 fE Az tE) (n1 wm (fU "_law_door" 96))) (nd t7 (n1 AX (fT "place" "Hall.place" (g_ 89 3))) (n1 (⟨.none,none,.fields ⟨i3 314 4 514 <|[]⟩,⟨[]⟩⟩) tE)))))) (nd n4 (nd tm (nd tE (nd (wB 68) (nd BF (n2 BO uQ uO) (n1 (fU "plan_chances" 63) (tN 1042 zR))) (nd tE (n2 BA z5 C4) (n1 (fU "check_chance" 76) D0))) (nd (wT 31) (nd fE (n2 (cV "reduced" 557 145 2 3 291 560) tE (fU "_law_pair" 114)) (n1 x4 fE)) (nd fE (n1 (fU "by_some" 55) BN) (n1 (cO "ways" "Door.ways" 820 307 1 3 481 824) (fU "_law_whole" 104))))) (nd tE (nd tE (nd Ct (n2 fE D8 BH) (n1 A7 (wB 658))) (nd (fU "fits" 28) (n1 tE fE) (n1 tE uH))) (nd v6 (nd tE (n2 (fU "begins_of" 46) tE tE) (n1 (tN 768 wR) vd)) (nd (tN 494 yV) (n1 A' tE) (n1 (wT 497) fE))))) (nd (tj P) (nd (wB 44) (nd tE (nd (cU "ratio" 356 39 2 3 137 362) (n2 tE (wC "Mixed" 875 318 524 878) fE) (n1 CY AJ)) (nd fE (n1 uB tE) (n1 tE (tN 1139 qZ)))) (nd fE (nd (tN 401 dh) (n2 vl (wB 556) tE) (n1 D1 t4)) (nd A4 (n1 tE DY) (n1 zp ED)))) (nd tE (nd (fT "__init__" "NoRoom.__init__" (g_ 7 0)) (nd tE (n2 DH (OK P) tE) (n1 vb tE)) (nd A2 (n1 CI (MZ P)) (n1 (fT "__init__" "Door.__init__" (g_ 79 0)) fE))) (nd (cU "is_whole" 330 26 1 3 121 334) (nd AT (n2 (cU "odd_row" 584 170 3 3 313 591) (wS 573) (fU "_law_refused" 118)) (n1 tE fE)) (nd tE (n1 Cb fE) (n1 fE (fU "_law_mean" 108)))))))))
def S1(w:World)(os:OsState):SharedT:=⟨LH w.params,840,{},⟨[]⟩,{},1308,os⟩
def e1:Pos:=⟨593,0,594,141⟩
def KH:Params->Frag:=λP=>(2^boot_o_2 P::3^zM P [("_law_is_none",1320,846),("law",1326,851)] 117::15^tE::17^tN 190 ["k"]::18^tE::20^cU "_wall" 187 1 1 3 15 191::21^tq::22^tm::29^tE::30^tj P::31^ti::32^(wG 209 31)::35^(wT 31)::42^tE::43^tf P::44^s_::47^(wT 31)::54^tE::55^sY P::56^sT::59^(wT 31)::66^tE::67^sQ P::68^sP::71^(wT 31)::78^tE::79^sN P::80^sM::83^(wT 31)::90^tE::92^tN 293 eE::93^tE::95^sL::96^sK::97^tN 298 ["room"]::98^sF P::99^sD::102^(wT 31)::109^tE::111^tN 318 eE::112^tE::114^CF::115^BU::116^tN 323 ["room"]::117^t8 P::118^v6::121^tE::123^tN 333 ["thing"]::124^tE::126^cU "is_whole" 330 26 1 3 121 334::127^yz::128^tE::130^vT::131^tE::133^cU "divisor" 337 28 2 3 128 345::134^BF::135^v5::136^AA::137^tE::139^tN 359 R4::140^tE::142^cU "ratio" 356 39 2 3 137 362::143^EB::144^tE::146^tN 368 Dt::147^tE::149^cU "is_ratio" 365 48 1 3 144 371::150^Ct::151^tE::153^tN 377 dh::154^tE::156^cU "plus" 374 56 2 3 151 379::157^A5::158^tE::160^tN 385 dh::161^tE::163^cU "minus" 382 58 2 3 158 387::164^t5::165^tE::167^tN 393 dh::168^tE::170^cU "times" 390 60 2 3 165 395::171^DZ::172^tE::174^tN 401 dh::175^tE::177^cU "over" 398 62 2 3 172 403::178^uT::179^tE::181^tN 409 dh::182^tE::184^cU "under" 406 64 2 3 179 411::185^y7::186^tE::189^cV "level" 416 67 1 3 186 419::190^AT::191^tE::193^tN 425 U4::194^tE::196^cU "total" 422 72 1 3 191 427::197^vv::198^tE::200^tN 433 RV::201^tE::203^cU "least" 430 75 1 3 198 436::204^yY::205^tE::208^Db::209^DL::210^tE::212^tN 450 qM::213^tE::215^cU "fits" 447 84 2 3 210 452::216^w4::217^tE::219^tN 458 wQ::220^tE::222^A2::223^BM::224^tE::227^AC::228^Bp::229^tE::232^cV "lowest" 473 99 2 3 229 476::233^AO::234^tE::237^AE::238^A4::239^tE::242^wh::243^Du::244^tE::246^tN 494 yV::247^tE::249^xx::250^t7::251^tE::253^tN 503 yU::254^tE::256^uv::257^DV::258^tE::261^w8::262^BO::263^tE::265^EC::266^tE::268^D6::269^v2::270^tE::272^tN 527 Vp::273^tE::275^cU "go_on" 524 131 3 3 270 530::276^uj::277^tE::279^EA::280^tE::282^ww::283^Bz::284^tE::286^DH::287^tE::289^ui::290^BG::291^tE::294^cV "reduced" 557 145 2 3 291 560::295^wW::296^tE::298^tN 568 ["rows"]::299^tE::301^BB::302^vl::303^tE::306^Ee::307^C6::308^tE::311^uk::312^DO::313^tE::315^tN 587 Ik::316^tE::318^cU "odd_row" 584 170 3 3 313 591::319^Cc::320^tE::322^u4::323^tE::325^DU::326^BA::327^tE::330^uS::331^B9::332^tE::334^uB::335^tE::337^AQ::338^Dx::339^tE::341^tN 628 xP::342^tE::344^zo::345^A1::346^tE::349^yT::350^CI::351^tE::354^cV "meets" 641 202 2 3 351 644::355^AB::356^tE::359^cV "by_some" 647 204 2 3 356 650::360^B6::361^tE::364^cV "by_each" 653 206 2 3 361 656::365^AR::366^tE::369^uY::370^t9::371^tE::374^A'::375^CL::376^tE::378^AX::379^tE::381^A0::382^Cb::383^tE::386^AK::387^Bn::388^tE::391^D4::392^Bc::393^tE::395^tN 703 xR::396^tE::398^CY::399^Ev::400^tE::402^tN 713 vI::403^tE::405^C8::406^A7::407^tE::410^wO::411^x6::412^tE::414^vb::415^tE::417^cU "settled" 726 252 4 3 412 735::418^vu::419^tE::422^x4::423^BV::424^tE::426^tN 747 qd::427^tE::429^AH::430^D1::431^tE::434^cV "is_word" 757 272 1 3 431 760::435^D5::436^tE::438^tN 768 wR::439^tE::441^AS::442^wm::443^tE::445^tN 776 ["room"]::446^tE::448^BI::449^CC::450^tE::452^tN 783 ["chance"]::453^tE::455^AN::456^BC::457^tE::460^Do::461^BY::462^tE::465^Bv::466^B3::474^tE::476^tN 814 Am::477^tE::479^Eg::480^By::481^tE::483^tN 823 ["self"]::484^tE::486^cO "ways" "Door.ways" 820 307 1 3 481 824::487^DE::488^tE::490^tN 830 eE::491^tE::493^BE::494^zp::495^tN 835 ["leads","name","pay"]::496^ub P::497^vA::498^Ap::499^(wG 841 497)::502^(wT 497)::509^tE::511^tN 861 BZ::512^tE::514^uX::515^D9::516^tN 868 ["leads"]::517^x5 P::518^uQ::521^(wT 497)::528^tE::530^tN 888 xu::531^tE::533^uC::534^D8::535^tN 895 ["leads"]::536^AV P::537^uM::540^(wT 537)::547^tE::549^Bg::550^tE::552^AU::553^D3::554^tE::555^AD P::556^A9::559^(wT 537)::566^tE::569^ym::570^Az::571^tE::572^v_ P::573^v9::576^tE::578^tN 955 ["share"]::579^tE::581^BQ::582^z5::583^tE::585^tN 962 xH::586^tE::588^AY::589^v4::590^tE::592^A8::593^tE::595^t6::596^C9::597^tE::599^Da::600^tE::602^De::603^CM::611^tE::614^BN::615^uW::616^tE::618^tN 1012 ["self"]::619^tE::621^cO "size" "Hall.size" 1009 370 1 3 616 1013::622^DY::623^tE::625^tN 1019 ["self"]::626^tE::628^v1::629^uu::630^tE::632^tN 1026 Gd::633^tE::635^CS::636^wz::637^tE::639^tN 1034 eE::640^tE::642^D2::643^y_::644^tE::646^tN 1042 zR::647^tE::649^CD::650^AF::651^tE::654^AJ::655^DB::656^tN 1054 ["numbers","offered","share"]::657^vE P::658^zr::659^yk::660^(wG 1060 658)::663^tE::665^tN 1070 Zy::666^tE::668^CH::669^tX::670^tE::672^t0::673^tE::675^x_::676^yw::677^tE::679^u7::680^tE::682^At::683^ua::684^tE::686^t4::687^tE::689^BD::690^C2::691^tE::694^vd::695^AZ::696^tE::699^yn::700^u2::701^tE::704^An::705^u3::706^tE::709^DI::710^D0::711^tE::714^CU::715^Eb::716^tE::718^tN 1139 qZ::719^tE::721^w'::722^As::723^tE::726^uH::727^wZ::728^tE::731^yu::732^Ef::733^tE::736^C5::737^Ad::738^tE::740^tN 1165 Eo::741^tE::743^Ec::744^BS::745^tE::747^tN 1172 Eo::748^tE::750^ED::751^D'::752^tE::755^v3::756^Co::757^tE::760^ut::761^yo::762^tE::764^Cn::765^tE::767^uL::768^u8::769^tE::771^DS::772^tE::774^uO::775^yy::776^tE::779^Bi::780^zv::781^tE::783^DF::784^tE::786^A6::787^AW::788^tE::790^BH::791^tE::793^Au::794^u0::795^tE::797^Ae::798^tE::800^Cf::801^yg::802^tE::804^wu::805^tE::807^B5::808^u9::809^tE::812^CB::813^Cs::814^tE::817^y9::818^ue::819^tE::821^u1::822^tE::824^wj::825^w_::826^tE::828^C3::829^tE::831^yA::832^v'::833^tE::835^tN 1303 gG::836^tE::838^C4::839^A3::840^tE::842^tN 1311 Rf::843^tE::845^cU "_law_is_none" 1308 595 4 3 840 1318::846^fV "_law_is_none" 120 kO 845::847^tE::850^cV "law" 1321 600 1 3 847 1324::851^fV "law" 121 kO 850::([]:List (Nat×Obj)))
abbrev asH:List Nat:=(KH {strHash:=λ_=>0,shareClass:=λ_=>0,mergeTok:=id,idOf:=λ_=>0,idOfShared:=λ_ _=>0,followText:=λ_=>true,idOfImm:=λ_=>0}).map (·.1)
noncomputable def qv:Program:=view p [0,2,3,4,5,6,7,8,10,11,13,14,15,16,17,18,19,20,21,23,24,25,27,28,29,30,32,33,34,35,36,37,38,39,40,41,42,44,45,46,47,48,49,50,52,53,54,55,56,57,59,60,62,63,64,65,66,67,68,69,71,72,74,75,76,77,78,79,80,81,82,83,85,86,87,88,89,91,92,93,94,95,96,97,98,99,100,101,102,103,104,105,106,107,108,109,110,111,112,113,114,115,116,117,118,119,120,121]
abbrev R:RowW:=PySem.Challenge.rw_chancehall_k38_whole_least_chances.row.toRowW
def Xt(s:Shared):Bool:=xlAt qv [] s&&recOk R.records s
def e:Pos:=⟨600,0,625,149⟩
set_option maxHeartbeats 0
def My:looksOpen PySem.Challenge.rw_chancehall_k38_whole_least_chances.row.prog=true:=by kernel_rfl
def wsd:PySem.Challenge.rw_chancehall_k38_whole_least_chances.wellSaid=true:=by
 unfold OpenLaw.wellSaid OpenRow.wellSaid OpenRow.partSaid;rw[My]
 kernel_rfl
def asK:∀P,asH=(KH P).map (·.1):=λ_=>by kernel_rfl
def pre(w:World):(λos=>topGo treeTable p w 11 eY 12 (S0 w os) (topStub p))=λos=>some (Sa w os,⟨denote treeTable (cE p),cE p,z,B⟩):=by
 rw[Fast.te15667345088766844465,Fast.te14364793385576792824,Fast.te11892475500146522536];kernel_rfl
def block(w:World):(λos=>segRun treeTable p w 11 eY 1 1 (Sa w os) (blockOf (behindTheImports p) (env p) (cE p) z B))=λos=>some (.next,(Sb w os).abs,cE p,z):=by
 rw[Fast.te14374325043358763698,Fast.te14364793385576792824];kernel_rfl
def Pw(w:World):(λos=>segRunT treeTable p w 11 eY 1 30000 (Sb w os) (piecesOf ((behindTheImports p).take 120) (env p) (cE p) z B))=λos=>some (.next,S1 w os,cE p,e1):=by
 rw[Fast.te10110043849684766642,Fast.te14364793385576792824];kernel_rfl
def comb{R S A B C X Y Z:Type _}{o:Option R}{f:R->A}{g:R->B}{k:R->C}{h:R->Option S}{t:S->X}{q:S->Y}{p:S->Z}{a:A}{b:B}{c:C}{x:X}{y:Y}{z:Z}(e:(o.map λr=>(f r,g r,k r,(h r).map t))=some (a,b,c,some x))(n:(o.map λr=>(f r,g r,k r,(h r).map q))=some (a,b,c,some y))(m:(o.map λr=>(f r,g r,k r,(h r).map p))=some (a,b,c,some z)):(o.map λr=>(f r,g r,k r,(h r).map λs=>(t s,q s,p s)))=some (a,b,c,some (x,y,z)):=by
 cases o with
 |none=>cases e
 |some r =>
  simp only[Option.map_some,Option.some.injEq,Prod.mk.injEq]at e n m ⊢;obtain⟨w,v,u,d⟩:=e;obtain⟨_,_,_,j⟩:=n;obtain⟨_,_,_,i⟩:=m;cases l:h r with
  |none=>rw[l]at d;cases d
  |some s =>
   rw[l]at d j i;refine⟨w,v,u,?_⟩;simp only[Option.map_some,Option.some.injEq]at d j i ⊢;rw[d,j,i]
def NJ{R S A B C X Y:Type _}{o:Option R}{f:R->A}{g:R->B}{k:R->C}{h:R->Option S}{n:S->X}{m:S->Y}{a:A}{b:B}{c:C}{x:X}{y:Y}(e:(o.map λr=>(f r,g r,k r,(h r).map n))=some (a,b,c,some x))(l:(o.map λr=>(f r,g r,k r,(h r).map m))=some (a,b,c,some y)):(o.map λr=>(f r,g r,k r,(h r).map λs=>(n s,m s)))=some (a,b,c,some (x,y)):=by
 cases o with
 |none=>cases e
 |some r =>
  simp only[Option.map_some,Option.some.injEq,Prod.mk.injEq]at e l ⊢;obtain⟨t,q,p,d⟩:=e;obtain⟨_,_,_,i⟩:=l;cases j:h r with
  |none=>rw[j]at d;cases d
  |some s =>
   rw[j]at d i;refine⟨t,q,p,?_⟩;simp only[Option.map_some,Option.some.injEq]at d i ⊢;rw[d,i]
noncomputable def sR{a:Type}(w:World)(os:OsState)(f:Shared->a):=(segRunT treeTable p w 11 eY 1 50000 (S1 w os) (piecesOf ((behindTheImports p).drop 120) (env p) (cE p) e1 B)).map λr=>(r.1,r.2.2.1,r.2.2.2,(topRun treeTable p w 11 eY 2 r.2.1.abs ⟨doneF .next,cE p,e,B⟩).map f)
def LV(w:World):(λos=>sR w os λs=>(openSeen qv [] (importedModules p.main.body) Xt true s).1)=λ_=>some (.next,cE p,e,some ((openGood qv []).1)):=by
 unfold sR;rw[Fast.te10110043849684766642,Fast.te14364793385576792824,Fast.te14082659384304107361,Fast.te4187177175401517315,Fast.te5923862056798008813];kernel_rfl
def LU(w:World):(λos=>sR w os λs=>(openSeen qv [] (importedModules p.main.body) Xt true s).2)=λ_=>some (.next,cE p,e,some ((openGood qv []).2)):=by
 unfold sR;rw[Fast.te10110043849684766642,Fast.te14364793385576792824,Fast.te14082659384304107361];kernel_rfl
def On(w:World):(λos=>sR w os λs=>openSeen qv [] (importedModules p.main.body) Xt true s)=λ_=>some (.next,cE p,e,some (openGood qv [])):=funext λos=>NJ (congrFun (LV w) os) (congrFun (LU w) os)
def OE(w:World):(λos=>sR w os λs=>staticsOk (importedModules p.main.body) (boot_heap w.params) s.heap&&namesBound p s.heap&&gensDone s&&laidKept (boot_heap w.params) s.heap)=λ_=>some (.next,cE p,e,some (true)):=by
 unfold sR;rw[Fast.te10110043849684766642,Fast.te14364793385576792824,Fast.te14082659384304107361];kernel_rfl
def NF(w:World):(λos=>sR w os λs=>asH.map s.heap.get?)=λ_=>some (.next,cE p,e,some ((KH w.params).map λp=>some p.2)):=by
 unfold sR;rw[Fast.te10110043849684766642,Fast.te14364793385576792824,Fast.te14082659384304107361];kernel_rfl
def big(w:World):(λos=>sR w os λs=>(staticsOk (importedModules p.main.body) (boot_heap w.params) s.heap&&namesBound p s.heap&&gensDone s&&laidKept (boot_heap w.params) s.heap,openSeen qv [] (importedModules p.main.body) Xt true s,asH.map s.heap.get?))=λ_=>some (.next,cE p,e,some (true,openGood qv [],(KH w.params).map λp=>some p.2)):=funext λos=>comb (congrFun (OE w) os) (congrFun (On w) os) (congrFun (NF w) os)
def left:LeftO p qv [] Xt (λs=>asH.map s.heap.get?) (λw=>(KH w.params).map λp=>some p.2) 200000 :=
 acT (boot_open rfl rfl λ_=>rfl) pre block (λw os=>qm.cutAt (congrFun (Pw w) os) (qm.last (congrFun (big w) os))) rfl
def hX(s:Shared)(h:Xt s=true):XL qv [] (s.heap.nsMap mainGlobals) s.heap:=xl_of s (Bool.and_eq_true_iff.mp h).1
def hR(s:Shared)(h:Xt s=true):RecFacts R.records s.heap:=recFacts_of (Bool.and_eq_true_iff.mp h).2
end
end H38
noncomputable section
abbrev zI:=List (Option Nat)
abbrev xz:=List (Nat×Rat)
abbrev xy:=List Nat
abbrev xf:=List Bool
abbrev xh:=List (List (Option Nat)×(Nat->Rat))
abbrev xt:=List Rat
abbrev xn:=Option Int
abbrev xi:=List Int
abbrev xS:=Option Nat
abbrev wr:=Option Bool
abbrev wE:=List xy
abbrev vz:=List (List xz)
abbrev vx:=List xt
abbrev vk:=List wE
def vw{p:Prop}(h:‹(p,2)›):p:=h
theorem zPE(h:True:=by exact#[rfl,rfl,vw,vw]):True:=h
def vy{p:Prop}(h:p:=by lia):p:=h
def vc{p:Prop}(h:p:=by simp):p:=h
abbrev PySem.Shared.zs(s:PySem.Shared):=s.heap.objs.size
open List (range length_cons map_cons append_nil replicate map_nil replicate_succ flatten_cons foldl_cons length_singleton drop_zero lookup_cons all_cons all_map lookup_append any_cons zip_cons_cons cons_append zipWith_cons_cons zipWith map_singleton foldl_append range_succ map_zipWith getElem_set map_take take_nil Nodup range' all_eq_true mem_of_mem_take map_const' sum_cons)
open Bool (decide_and)
open Nat (succ_le_succ min_le_left Coprime pow_zero pow_succ mul_add mod_lt sub_zero div_le_self min_eq_left sub_le pow_add)
open Option (getD_none getD_some)
open Int (fdiv)
open Rat (divInt lt_iff le_iff divInt_nonneg)
namespace L2
local macro_rules|`(#[$x,*])=>`(⟨$x,*⟩)
open PySem PySem.Spec PyProof.Rows
abbrev wP:=List Keyword
abbrev wn:=Array GenState
abbrev wf:=List (Str×NameKind)
abbrev wq:=List Stmt
abbrev xA:=Array Value
abbrev xL:=List (Str×Value)
abbrev xD:=List PyData
abbrev xC:=List Env
abbrev xB:=List (Str×Addr)
abbrev xl:=List (Str×Rat)
abbrev xw:=List Expr
abbrev bo:=Sum Int Str
abbrev xI:=List bo
def Gp:bo->Value->Bool
 |.inl k,v=>Value.isInt k v
 |.inr x,v=>Value.isStrOf x v
def PQ(w:World):bo->Int
 |.inl k=>hashInt k
 |.inr x=>hashStr w x
def gZ:∀{k:bo}{v:Value},Gp k v->(∃i t,k=Sum.inl i/\v=Value.int i t)\/(∃x t,k=Sum.inr x/\v=Value.str x t)
 |.inl i,v,h=>by
  let⟨t,e⟩:=Value.isInt_shape (k:=i) (v:=v) h;exact .inl #[i,t,rfl,e]
 |.inr x,v,h=>by
  let⟨t,e⟩:=Value.isStrOf_shape (x:=x) (v:=v) h;exact .inr #[x,t,rfl,e]
def ady(i:Int)(t:Tok):Gp (.inl i) (.int i t):=by simp[Gp,Value.isInt]
def adg(x:Str)(t:Tok):Gp (.inr x) (.str x t):=by simp[Gp,Value.isStrOf]
def YO(a b:Int):decide ((Sum.inl a:bo)=Sum.inl b)=(a==b):=by
 by_cases e:a=b
 .subst e;simp
 .have h:¬(Sum.inl a:bo)=Sum.inl b:=λq=>e (Sum.inl.inj q);rw[Zp h];exact(beq_eq_false_iff_ne.mpr e).symm
def _4(a b:Str):decide ((Sum.inr a:bo)=Sum.inr b)=decide (a=b):=by
 by_cases e:a=b
 .subst e;simp
 .have h:¬(Sum.inr a:bo)=Sum.inr b:=λq=>e (Sum.inr.inj q);rw[Zp h,Zp e]
def S_(a:Int)(b:Str):decide ((Sum.inl a:bo)=Sum.inr b)=false:=Zp (λq=>nomatch q)
def ZE(a:Str)(b:Int):decide ((Sum.inr a:bo)=Sum.inl b)=false:=Zp (λq=>nomatch q)
def gM(c:Program)(w:World):PySem.KeyKind c w bo where
 is:=Gp
 hash:=PQ w
 inj:=λv a b m g=>by
  rcases gZ m with⟨i,t,rfl,rfl⟩|⟨x,t,rfl,rfl⟩
  .rcases gZ g with⟨j,u,rfl,e⟩|⟨y,u,rfl,e⟩
   .injection e with d _;rw[d]
   .exact nomatch e
  .rcases gZ g with⟨j,u,rfl,e⟩|⟨y,u,rfl,e⟩
   .exact nomatch e
   .injection e with d _;rw[d]
 byValue:=λk v h=>by
  rcases gZ h with⟨i,t,rfl,rfl⟩|⟨x,t,rfl,rfl⟩<;>rfl
 pyHash:=λf h=>by
  rcases gZ f with⟨i,t,rfl,rfl⟩|⟨x,t,rfl,rfl⟩
  .exact wpAny_pyHash_int h
  .exact wpAny_pyHash_str h
 eqBool:=λl f h=>by
  rcases gZ l with⟨i,t,rfl,rfl⟩|⟨x,t,rfl,rfl⟩
  .rcases gZ f with⟨j,u,rfl,rfl⟩|⟨y,u,rfl,rfl⟩
   .rw[YO]at h;exact wpAny_eqBool_int h
   .rw[S_]at h;exact SeqAt.EqAt.int_str i t y u _ _ _ _ h
  .rcases gZ f with⟨j,u,rfl,rfl⟩|⟨y,u,rfl,rfl⟩
   .rw[ZE]at h;exact SeqAt.EqAt.str_int x t j u _ _ _ _ h
   .rw[_4]at h;exact wpAny_eqBool_str h
 «strs»:=λk x t v h=>by
  rcases gZ h with⟨i,u,rfl,e⟩|⟨y,u,rfl,e⟩
  .exact nomatch e
  .injection e with d _;subst d;cases v<;>rfl
def Xy(a:Program)(w:World)(i:Int)(t:Tok):(gM a w).is (.inl i) (.int i t):=ady i t
def YD(a:Program)(w:World)(x:Str)(t:Tok):(gM a w).is (.inr x) (.str x t):=adg x t
inductive V where
 |non|bl (b:Bool)|int (i:Int)|str (x:Str)|byt (b:Array UInt8)|flt (b:UInt64)|ref (a:Addr)|ty (n:String)
 deriving DecidableEq
abbrev wv:=Option V
abbrev wx:=List (bo×V)
abbrev xE:=List (Str×V)
abbrev Ζ:=List V
def zZ:V->Value->Prop
 |.non,u=>u=Value.none
 |.bl b,u=>u=Value.bool b
 |.int i,u=>∃t,u=Value.int i t
 |.str x,u=>∃t,u=Value.str x t
 |.byt b,u=>∃t,u=Value.bytes b t
 |.flt b,u=>∃t,u=Value.float b t
 |.ref a,u=>u=Value.ref a
 |.ty n,u=>u=Value.type n
abbrev zN:Ζ->Θ->Prop:=Paired zZ
def zN.length{I:Ζ}{a:Θ}(r:zN I a):I.length=a.length:=Paired.length r
theorem zN.get:∀{I:Ζ}{a:Θ}{i:Nat}{x:V},zN I a->I[i]?\x->∃u,a[i]?\u/\zZ x u
 |_,_,_,_,.nil,e=>by simp at e
 |_,_,0,_,.cons r _,e=>by simp at e;subst e;exact#[_,rfl,r]
 |_,_,i+1,x,.cons _ t,e=>by
  let⟨u,c,b⟩:=zN.get (i:=i) (x:=x) t ↑e;exact#[u,↑c,b]
theorem zN.set{x:V}{u:Value}(r:zZ x u):∀{I:Ζ}{a:Θ}(i:Nat),zN I a->zN (I.set i x) (a.set i u)
 |_,_,_,.nil=>.nil
 |_,_,0,.cons _ t=>.cons r t
 |_,_,i+1,.cons q t=>.cons q (zN.set r i t)
theorem zN.append:∀{I a:Ζ}{c b:Θ},zN I c->zN a b->zN (I++a) (c++b)
 |_,_,_,_,.nil,s=>s
 |_,_,_,_,.cons r t,s=>.cons r (zN.append t s)
theorem zN.take:∀{I:Ζ}{a:Θ}(n:Nat),zN I a->zN (I.take n) (a.take n)
 |_,_,0,_=>.nil
 |_,_,_+1,.nil=>.nil
 |_,_,n+1,.cons r t=>.cons r (zN.take n t)
theorem zN.drop:∀{I:Ζ}{a:Θ}(n:Nat),zN I a->zN (I.drop n) (a.drop n)
 |_,_,0,r=>r
 |_,_,_+1,.nil=>.nil
 |_,_,n+1,.cons _ t=>zN.drop n t
def zy:wv->Ω->Prop
 |some v,some u=>zZ v u
 |none,none=>True
 |_,_=>False
def KV{a:Type} : List (a×V)->List (a×Value)->Prop:=Paired λ(p:a×V)(q:a×Value)=>p.1=q.1/\zZ p.2 q.2
def kV:bo->V
 |.inl i=>.int i
 |.inr x=>.str x
inductive HO where
  |lst (I:Ζ)
  |tup (I:Ζ)
  |dK (kvs:wx)
  |set (S:Int->Bool) (n:Nat)
  |ins (C dx:Addr) (fs:xE)
  |own (x:Addr)
  |xd (fs:xE)
  |met (f x:Addr)
  |rng (lo hi:Int)
  |frz (o:Obj) (u:HO)
  |tbl (ps:xA)
  |ext (φ:Heap->Prop)
abbrev Hp:=Addr->Option HO
def upd(H:Hp)(a:Addr)(o:HO):Hp:=λb=>if b=a then some o else H b
variable{H W:Hp}{a b x e:Addr}{o o':HO}{P:Program}{w:World}{h h':Heap}
def cu : upd H a o a\o:=by unfold upd;rw[ZY rfl]
def b_(h:b≠a):upd H a o b=H b:=by unfold upd;rw[ZZ h]
def Li{u:HO}(h:H a\o)(h':H b\u)(d:o≠u):a≠b:=by
 intro e;subst e;rw[h]at h';exact d (Option.some.inj h')
def mG(h:H a\o)(h':H b=none):a≠b:=by
 intro e;subst e;rw[h]at h';cases h'
section
variable(P:Program)(w:World)
def fJ(H:Hp)(h:Heap)(a:Addr):HO->Prop
 |.lst I=>I.length<=sizeLine/\∃(b:Θ)(n:Nat),zN I b/\h.get? a=some { cls:=.type "list",data:=.seq b.toArray n }
 |.tup I=>I.length<=sizeLine/\∃b:Θ,zN I b/\IsTup h a b.toArray
 |.dK d=>d.length<=sizeLine/\(a==sysModules)=false/\∃j,KV d j/\h.DictOf (gM P w) a j
 |.set S n=>h.SetOf (intKind P w) a S n
 |.ins C g e=>H g\(.own a)/\e.length<=1000/\g≠a/\h.get? a=some (instObj C g) /\
   ∃c,h.Ns1 g c/\(∀f,zy (e.lookup f) (c f))/\PySem.Within c (e.map (·.1))
 |.own _=>∃o,h.get? a\o
 |.xd e=>∃c,h.Ns1 a c/\∀f,zy (e.lookup f) (c f)
 |.rng lo p=>∃t u v,h.get? a=some { cls:=.type "range",data:=.fields ↥[.int lo t,.int p u,.int 1 v] }
 |.frz o u=>h.get? a\o/\fJ H h a u
 |.tbl m=>h.get? a=some { cls:=.none,data:=.fields m }
 |.met f x=>h.get? a\(methodObj (.ref f) (.ref x))
 |.ext i=>i h/\(∃o,h.get? a\o)/\∀l k:Heap,i l->(∀o,l.get? a\o->k.get? a\o)->i k
def HOk(H:Hp)(h:Heap):Prop:=∀a o,H a\o->fJ P w H h a o
end
def fJ.lt(x:fJ P w H h a o):a<h.objs.size:=by
 cases o with
 |lst I=>let⟨_,_,_,_,e⟩:=x;exact aK e
 |tup I=>let⟨_,_,_,p⟩:=x;exact p.lt
 |dK b=>let⟨_,_,_,_,o,_,_,e,_⟩:=x;exact aK e
 |set S n=>let⟨o,_,_,_,e,_⟩:=x;exact aK e
 |ins C k c=>let⟨_,_,_,e,_⟩:=x;exact aK e
 |own y=>let⟨_,e⟩:=x;exact aK e
 |xd c=>let⟨_,⟨_,_,_,e,_⟩,_⟩:=x;exact aK e
 |rng lo j=>let⟨_,_,_,e⟩:=x;exact aK e
 |frz i u=>let⟨e,_⟩:=x;exact aK e
 |tbl g=>exact aK (show h.get? a\_ from x)
 |met f y=>exact aK (show h.get? a\_ from x)
 |ext d=>let⟨_,⟨_,e⟩,_⟩:=x;exact aK e
def fJ.stay(x:fJ P w H h a o)(k:∀b u,(b=a\/H b=some (.own a))->h.get? b\u->h'.get? b\u)
 (G:∀b,H b\(.own a)->W b\(.own a))(M:∀b I,H b\(.tup I)->W b\(.tup I)):fJ P w W h' a o:=by
 induction o with
 |lst I=>let⟨z,i,n,r,e⟩:=x;exact#[z,i,n,r,k _ _ (.inl rfl) e]
 |tup I=>let⟨z,i,r,g,e,c⟩:=x;exact#[z,i,r,g,k _ _ (.inl rfl) e,c]
 |dK E=>let⟨z,y,B,r,g,Z,j,e,c⟩:=x;exact#[z,y,B,r,g,Z,j,k _ _ (.inl rfl) e,c]
 |set S n=>let⟨g,Z,j,t,e,c⟩:=x;exact#[g,Z,j,t,k _ _ (.inl rfl) e,c]
 |ins C O J =>
  let⟨d,z,D,e,m,⟨l,Z,j,K,c⟩,r⟩:=x;exact#[G _ d,z,D,k _ _ (.inl rfl) e,m,#[l,Z,j,k _ _ (.inr d) K,c],r]
 |own y=>let⟨g,e⟩:=x;exact#[g,k _ _ (.inl rfl) e]
 |xd J=>let⟨m,⟨l,Z,j,e,c⟩,r⟩:=x;exact#[m,#[l,Z,j,k _ _ (.inl rfl) e,c],r]
 |rng lo N=>let⟨t,u,v,e⟩:=x;exact#[t,u,v,k _ _ (.inl rfl) e]
 |frz g u F=>let⟨e,q⟩:=x;exact#[k _ _ (.inl rfl) e,F q]
 |tbl A =>
  have e:h.get? a=some { cls:=.none,data:=.fields A }:=x;show h'.get? a=some { cls:=.none,data:=.fields A };exact k a _ (.inl rfl) e
 |met f y =>
  have e:h.get? a\(methodObj (.ref f) (.ref y)):=x;show h'.get? a\(methodObj (.ref f) (.ref y));exact k a _ (.inl rfl) e
 |ext L=>let⟨p,⟨o,e⟩,s⟩:=x;exact#[s _ _ p λo q=>k _ _ (.inl rfl) q,#[o,k _ _ (.inl rfl) e],s]
def HOk.lt(x:HOk P w H h)(e:H a\o):a<h.objs.size:=(x a o e).lt
def HOk.fresh(x:HOk P w H h)(e:h.objs.size<=a):H a=none:=by
 cases q:H a with
 |none=>rfl
 |some u=>exact absurd (aR (x.lt q) e) (X2 _)
def HOk.kept(x:HOk P w H h)(k:∀b u,h.get? b\u->h'.get? b\u):HOk P w H h':=λa o e =>
 (x a o e).stay (λb u _ q=>k b u q) (λ_ q=>q) λ_ _ q=>q
def HOk.laid(x:HOk P w H h)(k:∀b u,h.get? b\u->h'.get? b\u)(i:h.objs.size<=a)(d:fJ P w (upd H a o) h' a o):HOk P w (upd H a o) h':=λb u e=>by
 have f:=x.fresh i;by_cases g:b=a
 .subst g;rw[cu]at e;cases e;exact d
 .rw[b_ g]at e;exact(x b u e).stay (λc v _ q=>k c v q) (λc q=>by rwa[b_ (mG q f)]) λc I q=>by rwa[b_ (mG q f)]
def Rd(H:Hp)(a:Addr)(u:HO):Prop:=H a=some u\/∃o,H a\(.frz o u)
def Rd.of{u:HO}(h:H a\u):Rd H a u:=.inl h
def Rd.ok{u:HO}(r:Rd H a u)(x:HOk P w H h):fJ P w H h a u:=by
 rcases r with r|⟨o,r⟩
 .exact x a u r
 .let⟨_,q⟩:=x a _ r;exact q
def kK:Option HO->Prop
 |some (.lst _)=>True
 |some (.dK _)=>True
 |some (.set _ _)=>True
 |some (.ins _ _ _)=>True
 |some (.ext _)=>True
 |_=>False
def HOk.write(m:HOk P w H h)(d:kK (H x))(l:e=x\/H e=some (.own x))(k:∀b u,b≠e->h.get? b\u->h'.get? b\u)(o:∃u,h'.get? e\u)
 (g:fJ P w (upd H x o') h' x o'):HOk P w (upd H x o') h':=λb u q=>by
 have j:∀c y,H c\(.own y)->c≠x:=λc y r z=>by subst z;rw[r]at d;exact d
 have n:∀c I,H c\(.tup I)->c≠x:=λc I r z=>by subst z;rw[r]at d;exact d
 by_cases f:b=x
 .subst f;rw[cu]at q;cases q;exact g
 .rw[b_ f]at q;by_cases a:b=e
  .have i:H b\(.own x):=by
    rcases l with z|z
    .exact absurd (a.trans z) f
    .rw[a];exact z
   rw[q]at i;cases i;let⟨v,p⟩:=o;exact#[v,by rwa[a]]
  .refine(m b u q).stay (λc v hc r=>k c v ?_ r) (λc r=>by rwa[b_ (j c b r)]) λc I r=>by rwa[b_ (n c I r)]
   rcases hc with rfl|hc
   .exact a
   .rintro rfl;rcases l with z|z
    .exact j c b hc z
    .rw[hc]at z;cases z;exact f rfl
structure Un(fs ex:Ψ)(H W:Hp)(h h':Heap):Prop where
 keep:∀b o,h.get? b\o->H b=none->b∉fs->b∉ex->h'.get? b\o
 slot:∀b o,h.get? b\o->H b=none->b∈fs->b∉ex->∃sl,h'.get? b=some { o with slots:=sl }
 free:∀b o,h.get? b\o->H b=none->b∉ex->W b=none
 there:∀b o,h.get? b\o->b∉ex->∃o',h'.get? b\o'
 tups:∀b I,H b\(.tup I)->W b\(.tup I)
 frzs:∀b o u,H b\(.frz o u)->W b\(.frz o u)
 tbls:∀b ps,H b\(.tbl ps)->∃more,W b\(.tbl (ps++more))
section
variable{fs fs' ex sx:Ψ}{H Y H2:Hp}{h h1 h2 h':Heap}{a x e:Addr}{o:HO}
def Un.any(u:Un fs ex H Y h h1){a:Obj}(q:h.get? b\a)(n:H b=none)(d:b∉ex):∃f,h1.get? b=some { a with slots:=f }:=by
 by_cases e:b∈fs
 .exact u.slot b a q n e d
 .exact#[a.slots,u.keep b a q n e d]
def Un.kept(k:∀b u,h.get? b\u->h'.get? b\u):Un fs ex H H h h' :=
 #[λb a q _ _ _=>k b a q,λb a q _ _ _=>#[a.slots,k b a q],λ_ _ _ n _=>n,λb a q _=>#[a,k b a q],λ_ _ q=>q,λ_ _ _ q=>q,λ_ c q=>#[↥[],by rw[q];simp]]
def Un.refl:Un fs ex H H h h:=Un.kept λ_ _ q=>q
def Un.laid(k:∀b u,h.get? b\u->h'.get? b\u)(d:h.objs.size<=a)(c:H a=none):Un fs ex H (upd H a o) h h' where
 keep:=λb u q _ _ _=>k b u q
 slot:=λb u q _ _ _=>#[u.slots,k b u q]
 free:=λb u q n _=>by rwa[b_ (aQ (aR (aK q) d))]
 there:=λb u q _=>#[u,k b u q]
 tups:=λb I q=>by rwa[b_ (mG q c)]
 frzs:=λb u I q=>by rwa[b_ (mG q c)]
 tbls:=λb e q=>#[↥[],by rw[b_ (mG q c),q];simp]
def Un.write(c:kK (H x))(l:e=x\/H e=some (.own x))(k:∀b u,b≠e->h.get? b\u->h'.get? b\u)(j:∃u,h'.get? e\u):Un fs ex H (upd H x o) h h':=by
 have f:∀b,H b=none->b≠x:=λb n z=>by subst z;rw[n]at c;exact c
 have g:∀b,H b=none->b≠e:=λb n z=>by
  subst z;rcases l with r|r
  .exact f b n r
  .rw[n]at r;cases r
 have d:∀b u,H b\u->¬kK (some u)->b≠x:=λb u q i z=>by subst z;rw[q]at c;exact i c
 refine#[λb u q n _ _=>k b u (g b n) q,λb u q n _ _=>#[u.slots,k b u (g b n) q],λb u q n _=>%[b_ (f b n)|n],λb u q _=>?_,
  λb I q=>%[b_ (d b _ q λz=>z)|q],λb u I q=>%[b_ (d b _ q λz=>z)|q],λb m q=>#[↥[],by rw[b_ (d b _ q λz=>z),q];simp]]
 by_cases a:b=e
 .subst a;exact j
 .exact#[u,k b u a q]
end
def trk(h:Heap)(H:Hp):Ψ:=(range h.objs.size).filter λa=>(H a).isSome
def RL(h:Heap)(H:Hp):Heap:=hideAll h (trk h H)
def adi(h:Heap)(H:Hp):(RL h H).objs.size=h.objs.size:=PySem.W.hideAll_size _ _
variable{o:Obj}
def afN(e:h.get? b\o)(n:H b=none):(RL h H).get? b\o :=
 hideAll_get _ e λa=>by
  have q:(H b).isSome:=(List.mem_filter.mp a).2;rw[n]at q;simp at q
def ag2(e:(RL h H).get? b\o):h.get? b\o/\H b=none:=by
 have a:h.get? b\o:=of_hideAll (trk h H) e;refine#[a,?_];cases q:H b with
 |none=>rfl
 |some x =>
  have c:b∈trk h H:=List.mem_filter.mpr #[List.mem_range.mpr (aK a),by simp[q]];have z:(RL h H).get? b=none:=PySem.W.hideAll_none (trk h H) c;rw[z]at e;cases e
def ahd(g h:Heap)(L:Addr):Δ:=(range h.objs.size).filterMap λa=>if a=L\/(g.get? a).isSome=true then none else(h.get? a).map λo=>(a,o)
def rest(g h:Heap)(L d:Addr):Δ:=(ahd g h L).filter λp=>decide (p.1≠d)
structure Mod(K:Frag)(mg:Str->Ω)(base:Heap):Prop where
 kin:K.In base
 glob:base.Ns mainGlobals mg
 blt:∃mb,base.Ns builtinsNs mb/\∀x:Str,x≠"__name__"->mb x=bootBuiltins x
 nolimit:base.NoLimit
structure Cx where
 prog:Program
 w:World
 K:Frag
 mg:Str->Ω
 base:Heap
 A:Around
 N:Φ
 s₀:Shared
 H₀:Hp
 env:Env
 outer:xC
 stack:xC
 ex:Ψ
 fn:Str->Bool
 calm:Bool
 pn:Δ
 xe:Ε
def cX(l:xC):Ψ:=l.filterMap (·.frame)
abbrev Cx.fs(X:Cx):Ψ:=cX X.outer
def ky(a:Scope)(x:Str):Prop:=a.names.lookup x=some .local\/a.names.lookup x=some .cell\/a.names.lookup x=some .free
def fc(a:Scope)(x:Str):Prop:=a.names.lookup x=some .local\/a.names.lookup x=some .cell
def Look(env:Env)(h:Heap)(m:Str->Ω)(x:Str)(u:Value):Prop :=
 (env.kindOf x\.local/\m x=some u)\/((env.kindOf x\.cell\/env.kindOf x=some .free)/\∃c,env.cells.lookup x\c/\h.IsCell c (some u))
structure Cx.Ok(X:Cx):Prop where
 mod:Mod X.K X.mg X.base
 kind:X.env.scope.kind=.function
 glob:X.env.globals=mainGlobals
 blt:X.env.builtins=builtinsNs
 above:X.s₀.zs<=X.env.locals
 inj:∀x y c,X.env.cells.lookup x\c->X.env.cells.lookup y\c->x=y
 has:∀x,(X.env.kindOf x\.cell\/X.env.kindOf x=some .free)->∃c,X.env.cells.lookup x\c
 cab:∀x c,X.fn x->X.env.cells.lookup x\c->X.s₀.zs<=c
 hd:X.calm->X.A.handled=none
 frames:X.A.frames\X.stack
 stk:X.stack=X.outer\/(X.stack=X.env::X.outer/\X.env.frame=some X.env.locals)
 exf:∀b∈X.ex,b≠X.env.locals/\∀x c,X.env.cells.lookup x\c->c≠b
 bs:∀b o,X.base.get? b\o->X.s₀.heap.get? b\o/\X.H₀ b=none
 bsz:X.base.objs.size<=X.s₀.zs
 noex:∀b o,X.base.get? b\o->b∉X.ex
 exfs:∀b∈X.ex,b∉X.fs
 funs:X.s₀.heap.FunFrames X.base X.outer
 frf:∀b∈X.fs,X.H₀ b=none
structure Inv(X:Cx)(U:Δ)(G:List wv)(H:Hp)(s:Shared):Prop where
 ok:X.Ok
 os:s.os=X.s₀.os
 bare:AllBare s.gens
 base:Un X.fs X.ex X.H₀ H X.s₀.heap s.heap
 loc:∃m,s.heap.Ns X.env.locals m/\∀(i:Nat)(x:Str)(v:V),X.N[i]?\x->G[i]?\(some v)->ky X.env.scope x->∃u,zZ v u/\Look X.env s.heap m x u
 cell:∀x c,X.env.cells.lookup x\c->∃v,s.heap.IsCell c v
 free:H X.env.locals=none
 freeC:∀x c,X.env.cells.lookup x\c->H c=none
 pin:∀p∈X.pn++U,s.heap.get? p.1\p.2/\H p.1=none/\p.1≠X.env.locals/\p.1∉X.fs/\∀v,p.2.data≠.cell v
 hok:HOk X.prog X.w H s.heap
 len:G.length=X.N.length
variable{X:Cx}{U:Δ}{G:List wv}{s s':Shared}{t' i:Nat}{ch:Ψ}{x:Str}{u:Value}{M:Model}{A:Around}{E:Ε}{v:V}{Q:Unit->Shared->Prop}{e:Expr}
def Cx.Ok.nofr(a:X.Ok)(e:X.base.get? b\o):b∉X.fs:=λc=>by
 have:=(a.funs.mem c).1;rw[e]at this;cases this
def Inv.bs(I:↥X):∀b o,X.base.get? b\o->s.heap.get? b\o/\H b=none:=λb o e =>
 #[I.base.keep b o (I.ok.bs b o e).1 (I.ok.bs b o e).2 (I.ok.nofr e) (I.ok.noex b o e),I.base.free b o (I.ok.bs b o e).1 (I.ok.bs b o e).2 (I.ok.noex b o e)]
def Inv.bk(I:↥X):∀b o,X.base.get? b\o->s.heap.get? b\o:=λb o e=>(I.bs b o e).1
def Inv.mod(I:↥X):Mod X.K X.mg X.base:=I.ok.mod
def Inv.kIn(I:↥X):X.K.In s.heap:=I.ok.mod.kin.keeps I.bk
def Inv.fr(I:↥X):∃m,Fr X.base X.env.locals s.heap m :=
 let⟨m,a,_⟩:=I.loc
 #[m,a,I.bk,aL I.ok.bsz I.ok.above]
def Inv.lt(I:↥X):X.env.locals<s.zs:=by let⟨_,a,_⟩:=I.loc;exact a.lt
def Inv.sz(I:↥X):X.s₀.zs<=s.zs:=aL I.ok.above (Y2 I.lt)
def Inv.nofs(I:↥X)(h:s.zs<=a):a∉X.fs:=λc=>by
 let⟨_,o,b,_⟩:=I.ok.funs.mem c;exact absurd (aR (aK b) (aL I.sz h)) (X2 _)
def Inv.cne(I:↥X):∀x c,X.env.cells.lookup x\c->c≠X.env.locals:=λx c e z=>by
 let⟨v,o,a,hd⟩:=I.cell x c e;let⟨m,⟨o',Z,f,b,d,_⟩,_⟩:=I.loc;rw[z,b]at a;cases a;rw[d]at hd;cases hd
def Inv.funs(I:↥X):s.heap.FunFrames X.base X.outer:=by
 have all:∀(l:xC),(∀b∈cX l,b∈X.fs)->X.s₀.heap.FunFrames X.base l->s.heap.FunFrames X.base l:=by
  intro l
  induction l with
  |nil=>intro _ _;trivial
  |cons env r g =>
   intro f k;let⟨m,⟨L,o,a,j,i,hd⟩,h⟩:=k;have d:L∈X.fs:=f L (by unfold cX;rw[List.filterMap_cons,a];exact aO);let⟨n,e⟩:=I.base.slot L o i (I.ok.frf L d) d λz=>I.ok.exfs L z d;exact#[m,#[L,_,a,j,e,hd],g (λb c=>f b (by unfold cX;rw[List.filterMap_cons,a];exact aJ _ c)) h]
 exact all X.outer (λ_ c=>c) I.ok.funs
def Inv.stack(I:↥X):s.heap.FunFrames X.base X.stack:=by
 rcases I.ok.stk with e|⟨e,b⟩
 .rw[e];exact I.funs
 .rw[e];let⟨m,a,_⟩:=I.loc;refine .cons (by rw[I.ok.kind];decide) b a ?_ I.funs;exact Heap.get?_none_of_le (aL I.ok.bsz I.ok.above)
def Inv.stkSub(I:↥X):∀b∈cX X.stack,b∈X.env.locals::X.fs:=λb a=>by
 rcases I.ok.stk with e|⟨e,c⟩
 .rw[e]at a;exact aJ _ a
 .rw[e]at a;unfold cX at a;rw[List.filterMap_cons,c]at a;exact a
def Inv.stkFree(I:↥X):∀b∈cX X.stack,H b=none:=λb a=>by
 rcases YU.mp (I.stkSub b a)with e|a
 .rw[e];exact I.free
 .let⟨_,o,c,_⟩:=I.ok.funs.mem a;exact I.base.free b o c (I.ok.frf b a) λz=>I.ok.exfs b z a
def Inv.step{g':wn}{d':Drawn}(a:↥X)
 (F:∀b∈ch,(b∈X.ex\/X.s₀.zs<=b)/\b≠X.env.locals/\(∀x c,X.env.cells.lookup x\c->c≠b)/\∀p∈X.pn++U,p.1≠b)
 (g:∀b o,b≠X.env.locals->b∉X.fs->b∉ch->s.heap.get? b\o->H b=none->h'.get? b\o)
 (slot:∀b o,b≠X.env.locals->b∈X.fs->b∉ch->s.heap.get? b\o->H b=none->∃O,h'.get? b=some { o with slots:=O })(free:∀b o,b∉ch->s.heap.get? b\o->H b=none->W b=none)
 (j:∀b o,b∉ch->s.heap.get? b\o->∃o',h'.get? b\o')
 (A:∀b I,H b\(.tup I)->W b\(.tup I))(J:∀b o u,H b\(.frz o u)->W b\(.frz o u))(B:∀b L,H b\(.tbl L)->∃D,W b\(.tbl (L++D)))
 (Y:∀m,s.heap.Ns X.env.locals m->h'.Ns X.env.locals m)(hok:HOk X.prog X.w W h')(hg:AllBare g') :
  Inv X U G W { s with heap:=h',gens:=g',drawn:=d',toks:=t' }:=by
 have C:∀b o,X.s₀.heap.get? b\o->b≠X.env.locals:=λb o e=>aQ (aR (aK e) a.ok.above);have M:∀b o,X.s₀.heap.get? b\o->b∉X.ex->b∉ch:=λb o e f t=>by
  rcases(F b t).1 with z|z
  .exact f z
  .exact absurd (aR (aK e) z) (X2 _)
 have R:∀x c,X.env.cells.lookup x\c->∀v,s.heap.IsCell c v->h'.IsCell c v:=λx c e v hP=>by
  let⟨o,y,hd⟩:=hP;have E:c∉ch:=λz=>(F c z).2.2.1 x c e rfl;by_cases V:c∈X.fs
  .let⟨O,q⟩:=slot c o (a.cne x c e) V E y (a.freeC x c e);exact#[_,q,hd]
  .exact#[o,g c o (a.cne x c e) V E y (a.freeC x c e),hd]
 refine#[a.ok,a.os,hg,#[λb o e n t f=>?_,λb o e n t f=>?_,λb o e n f=>?_,λb o e f=>?_,λb I e=>A b I (a.base.tups b I e),λb o I e=>J b o I (a.base.frzs b o I e),λb L e=>?_],?_,λx c e=>?_,?_,λx c e=>?_,λp S=>?_,hok,a.len]
 .exact g b o (C b o e) t (M b o e f) (a.base.keep b o e n t f) (a.base.free b o e n f)
 .let⟨O,h⟩:=a.base.slot b o e n t f;let⟨kC,K⟩:=slot b _ (C b o e) t (M b o e f) h (a.base.free b o e n f);exact#[kC,K]
 .let⟨o',h⟩:=a.base.there b o e f;exact free b o' (M b o e f) h (a.base.free b o e n f)
 .let⟨o',h⟩:=a.base.there b o e f;exact j b o' (M b o e f) h
 .let⟨m1,h⟩:=a.base.tbls b L e;let⟨Z,K⟩:=B b _ h;exact#[m1++Z,%[K,Array.append_assoc|_]]
 .let⟨m,hn,hl⟩:=a.loc;refine#[m,Y m hn,λi x v h K e3=>?_];let⟨u,r,l⟩:=hl i x v h K e3;refine#[u,r,?_];rcases l with l|⟨k,c,e,z⟩
  .exact .inl l
  .exact .inr #[k,c,e,R x c e _ z]
 .let⟨v,z⟩:=a.cell x c e;exact#[v,R x c e v z]
 .let⟨m,⟨o,_,_,y,_⟩,_⟩:=a.loc;exact free _ o (λz=>(F _ z).2.1 rfl) y a.free
 .let⟨v,o,y,hd⟩:=a.cell x c e;exact free c o (λz=>(F c z).2.2.1 x c e rfl) y (a.freeC x c e)
 .let⟨e,n,Q,P,d⟩:=a.pin p S;have E:p.1∉ch:=λz=>(F p.1 z).2.2.2 p S rfl;exact#[g p.1 p.2 Q P E e n,free p.1 p.2 E e n,Q,P,d]
def Inv.un(I:↥X)(u:Un X.fs [] H W s.heap h')(hok:HOk X.prog X.w W h'):Inv X U G W { s with heap:=h',toks:=t' }:=by
 let⟨m,⟨o,Z,q,c,r⟩,_⟩:=id I.loc;let⟨l,k⟩:=u.any c I.free vc;exact I.step (g':=s.gens) (d':=s.drawn) (ch:=[]) (λ_ z=>nomatch z) (λb o _ a _ e n=>u.keep b o e n a vc) (λb o _ a _ e n=>u.slot b o e n a vc) (λb o _ e n=>u.free b o e n vc) (λb o _ e=>u.there b o e vc) u.tups u.frzs u.tbls (λp j=>by
  let⟨o',i,g,f,h⟩:=j;rw[c]at f;cases f;exact#[_,i,g,k,h]) hok I.bare
def Inv.call{g':wn}{d':Drawn}(I:↥X)(u:Un (cX X.stack) ch H W s.heap h')(hok:HOk X.prog X.w W h')(q:AllBare g')
 (g:∀b∈ch,(b∈X.ex\/X.s₀.zs<=b)/\b≠X.env.locals/\(∀x c,X.env.cells.lookup x\c->c≠b)/\∀p∈X.pn++U,p.1≠b) :
  Inv X U G W { s with heap:=h',gens:=g',drawn:=d',toks:=t' }:=by
 let⟨m,⟨o,Z,A,d,r⟩,_⟩:=id I.loc;let⟨v,a⟩:=u.any d I.free λz=>(g _ z).2.1 rfl;exact I.step (ch:=ch) g (λb o a t hc e n=>u.keep b o e n (λz=>(YU.mp (I.stkSub b z)).elim a t) hc) (λb o _ _ hc e n=>u.any e n hc) (λb o hc e n=>u.free b o e n hc) (λb o hc e=>u.there b o e hc) u.tups u.frzs u.tbls (λy l=>by
  let⟨o',k,i,h,j⟩:=l;rw[d]at h;cases h;exact#[_,k,i,a,j]) hok q
def Inv.turned{it:Addr}(I:↥X)(k:∀b o,b≠it->s.heap.get? b\o->h'.get? b\o)(h:H it=none)(f:it≠X.env.locals)
 (w:it∈X.ex\/X.s₀.zs<=it)(t:∀x c,X.env.cells.lookup x\c->c≠it)(l:∀p∈X.pn++U,p.1≠it):Inv X U G H { s with heap:=h',toks:=t' }:=by
 have a:∀b u,H b\u->b≠it:=λb u e z=>by rw[z,h]at e;cases e
 refine I.step (g':=s.gens) (d':=s.drawn) (ch:=[it]) (λb j=>?_) (λb o _ _ hc e _=>k b o (λz=>hc (by simp[z])) e) (λb o _ _ hc e _=>#[o.slots,k b o (λz=>hc (by simp[z])) e]) (λ_ _ _ _ n=>n)
  (λb o hc e=>#[o,k b o (λz=>hc (by simp[z])) e]) (λ_ _ e=>e) (λ_ _ _ e=>e) (λb A e=>#[↥[],by rw[e];simp]) (λm i=>?_) (λb u e=>?_) I.bare
 .have e:b=it:=↑j
  subst e;exact#[w,f,t,l]
 .let⟨o,Z,y,g,r⟩:=i;exact#[o,Z,y,k _ o (Ne.symm f) g,r]
 .refine(I.hok b u e).stay (λc v hc q=>k c v ?_ q) (λ_ q=>q) λ_ _ q=>q;rcases hc with z|z
  .rw[z];exact a b u e
  .exact a c _ z
def Inv.tok(I:↥X)(t:Nat):Inv X U G H { s with toks:=t }:=I.un (h':=s.heap) (t':=t) Un.refl I.hok
def Inv.kept{t':Nat}(I:↥X)(k:∀b u,s.heap.get? b\u->h'.get? b\u):Inv X U G H { s with heap:=h',toks:=t' }:=I.un (Un.kept k) (I.hok.kept k)
def Inv.laid{a:Addr}{o:HO}{t':Nat}(I:↥X)(k:∀b u,s.heap.get? b\u->h'.get? b\u)(d:s.zs<=a)(c:fJ X.prog X.w (upd H a o) h' a o) :
  Inv X U G (upd H a o) { s with heap:=h',toks:=t' }:=I.un (Un.laid k d (I.hok.fresh d)) (I.hok.laid k d c)
def Inv.write{x e:Addr}{o:HO}{t':Nat}(I:↥X)(c:kK (H x))(g:e=x\/H e=some (.own x))(k:∀b u,b≠e->s.heap.get? b\u->h'.get? b\u)(d:∃u,h'.get? e\u)
 (a:fJ X.prog X.w (upd H x o) h' x o):Inv X U G (upd H x o) { s with heap:=h',toks:=t' }:=I.un (Un.write c g k d) (I.hok.write c g k d a)
def Inv.pins_of{a:Δ}(I:↥X)(h:∀p∈a,s.heap.get? p.1\p.2/\H p.1=none/\p.1≠X.env.locals/\p.1∉X.fs/\∀v,p.2.data≠.cell v):Inv X a G H s :=
 #[I.ok,I.os,I.bare,I.base,I.loc,I.cell,I.free,I.freeC,λp b=>(Y1.mp b).elim (λz=>I.pin p (US _ z)) (h p),I.hok,I.len]
def Mp{N:Φ}(c:N.Nodup){j:Nat}(a:N[i]?\x)(b:N[j]?\x):i=j:=by
 let⟨g,e⟩:=ao.mp a;let⟨f,d⟩:=ao.mp b;exact(List.getElem_inj c).mp (e.trans d.symm)
abbrev zd(X:Cx)(a:Str):Prop:=X.fn a=true\/X.env.scope.names.lookup a=some .local
def ac1(I:↥X)(hN:X.N.Nodup)(K:X.N[i]?\x)(l:fc X.env.scope x)(r:zZ v u)
 (h:∀s',Inv X U (G.set i (some v)) H s'->(∃a,Heap.SameBut a s.heap s'.heap/\(a=X.env.locals\/X.env.cells.lookup x=some a))->Q () s')(hf:zd X x):wpAny M A (storeName X.env x u) Q E s:=by
 let⟨m,hn,hl⟩:=id I.loc;have gV:(X.env.scope.kind == .class || (X.env.scope.kind == .module&&X.env.locals != X.env.globals))=false:=by rw[I.ok.kind];rfl
 have nh:i<G.length:=%[I.len|(ao.mp K).1]
 have F:=I.cne;have ff:∀{a:Addr}{h':Heap},(∃o,s.heap.get? a\o/\H a=none)->Heap.SameBut a s.heap h'->HOk X.prog X.w H h':=λ{a h'}ha f b ob e=>by
  let⟨_,_,c8⟩:=ha;refine(I.hok b ob e).stay (λc L hc q=>(f.2 c ?_).trans q) (λ_ q=>q) λ_ _ q=>q;rintro rfl;rcases hc with rfl|hc
  .rw[c8]at e;cases e
  .rw[c8]at hc;cases hc
 rcases l with B|B
 .refine wpAny_storeName_local B hn (λh' p6 f=>?_) gV;let⟨oL,_,_,hoL,_⟩:=id hn;refine h _ #[I.ok,I.os,I.bare,#[λb o e n D l=>?_,λb o e n D l=>?_,I.base.free,λb o e l=>?_,I.base.tups,I.base.frzs,I.base.tbls],#[_,p6,λj y R g t e3=>?_],λy c e=>?_,I.free,I.freeC,λp Z=>?_,ff #[oL,hoL,I.free] f,↑I.len] #[_,f,.inl rfl]
  .exact(f.2 b (aQ (aR (aK e) I.ok.above))).trans (I.base.keep b o e n D l)
  .let⟨T,g⟩:=I.base.slot b o e n D l;exact#[T,(f.2 b (aQ (aR (aK e) I.ok.above))).trans g]
  .let⟨o',g⟩:=I.base.there b o e l;exact#[o',(f.2 b (aQ (aR (aK e) I.ok.above))).trans g]
  .by_cases C:j=i
   .subst C;rw[K]at g;cases g;rw[Up nh]at t;cases t;exact#[u,r,.inl #[B,by simp]]
   .rw[VV (Ne.symm C)]at t;let⟨S,V,q⟩:=hl j y R g t e3;refine#[S,V,?_];rcases q with⟨k,e⟩|⟨k,c,e,z⟩
    .refine .inl #[k,?_];have:y≠x:=λe=>C (Mp hN g (e ▸ K));simp[this,e]
    .exact .inr #[k,c,e,z.sameBut f (F y c e)]
  .let⟨L,z⟩:=I.cell y c e;exact#[L,z.sameBut f (F y c e)]
  .let⟨e,n,O,W,d⟩:=I.pin p Z;exact#[(f.2 p.1 O).trans e,n,O,W,d]
 .have Y:X.fn x:=by
   rcases hf with z|z
   .exact z
   .rw[z]at B;cases B
  let⟨c,hc⟩:=I.ok.has x (.inl B);let⟨L,z⟩:=I.cell x c hc;refine wpAny_storeName_cell I.ok.kind B hc z (λh' eI f=>?_);let⟨oc,J,pV⟩:=id z;refine h { s with heap:=h' } #[I.ok,I.os,I.bare,#[λb o e n D l=>?_,λb o e n D l=>?_,I.base.free,λb o e l=>?_,I.base.tups,I.base.frzs,I.base.tbls],#[m,hn.sameBut f (Ne.symm (F x c hc)),λj y R g t e3=>?_],λy P e=>?_,I.free,I.freeC,λp Z=>?_,ff #[oc,J,I.freeC x c hc] f,↑I.len] #[c,f,.inr hc]
  .exact(f.2 b (aQ (aR (aK e) (I.ok.cab x c Y hc)))).trans (I.base.keep b o e n D l)
  .let⟨T,g⟩:=I.base.slot b o e n D l;exact#[T,(f.2 b (aQ (aR (aK e) (I.ok.cab x c Y hc)))).trans g]
  .let⟨o',g⟩:=I.base.there b o e l;exact#[o',(f.2 b (aQ (aR (aK e) (I.ok.cab x c Y hc)))).trans g]
  .by_cases C:j=i
   .subst C;rw[K]at g;cases g;rw[Up nh]at t;cases t;exact#[u,r,.inr #[.inl B,c,hc,eI]]
   .rw[VV (Ne.symm C)]at t;let⟨S,V,q⟩:=hl j y R g t e3;refine#[S,V,?_];rcases q with q|⟨k,P,e,z'⟩
    .exact .inl q
    .refine .inr #[k,P,e,z'.sameBut f ?_];rintro rfl;exact C (Mp hN g (I.ok.inj _ _ _ e hc ▸ K))
  .by_cases f7:P=c
   .subst f7;exact#[_,eI]
   .let⟨w2,z2⟩:=I.cell y P e;exact#[w2,z2.sameBut f f7]
  .let⟨e,n,O,W,d⟩:=I.pin p Z;refine#[(f.2 p.1 ?_).trans e,n,O,W,d];intro q;rw[q,J]at e;have q':oc=p.2:=Option.some.inj e;exact d L (by rwa[<- q'])
def vZ(I:↥X)(d:X.N.Nodup)(b:X.N[i]?\x)(a:fc X.env.scope x)(r:zZ v u)
 (h:∀s',Inv X U (G.set i (some v)) H s'->Q () s')(c:zd X x:=by first|exact .inl rfl|exact .inr rfl|assumption):wpAny M A (storeName X.env x u) Q E s :=
 ac1 I d b a r (λs' e _=>h s' e) c
def Inv.call'(I:↥X)(f:s'.os=s.os)(u:Un (cX X.stack) ch H W s.heap s'.heap)(hok:HOk X.prog X.w W s'.heap)(g:AllBare s'.gens)
 (h:∀b∈ch,(b∈X.ex\/X.s₀.zs<=b)/\b≠X.env.locals/\(∀x c,X.env.cells.lookup x\c->c≠b)/\∀p∈X.pn++U,p.1≠b):Inv X U G W s':=by
 let⟨h',a,d,t',o'⟩:=s';have e:o'=s.os:=f;subst e;exact I.call (g':=a) (t':=t') (d':=d) u hok g h
abbrev XK:=Value->Ξ->Hp->Prop
abbrev St:=List wv
abbrev VK:=V->Hp->Prop
abbrev TE:=St->Hp->VK->Prop
abbrev TT:=St->Hp->(Bool->Hp->Prop)->Prop
abbrev TA:=St->Hp->(Ζ->Hp->Prop)->Prop
structure Ends where
 nx:St->Hp->Prop
 rt:VK
 bk:St->Hp->Prop:=λ_ _=>False
 ct:St->Hp->Prop:=λ_ _=>False
abbrev TS:=Ends->St->Hp->Prop
def EP(X:Cx)(U:Δ)(G:St)(Q:VK)(u:Value)(s':Shared):Prop:=∃v W,Inv X U G W s'/\zZ v u/\Q v W
def TP(X:Cx)(U:Δ)(G:St)(Q:Bool->Hp->Prop)(b:Bool)(s':Shared):Prop:=∃W,Inv X U G W s'/\Q b W
def AP(X:Cx)(U:Δ)(G:St)(Q:Ζ->Hp->Prop)(b:Θ)(s':Shared):Prop:=∃a W,Inv X U G W s'/\zN a b/\Q a W
def SP(X:Cx)(U:Δ)(D:Ends)(f:Flow)(s':Shared):Prop :=
 match f with
 |.next=>∃a W,Inv X U a W s'/\D.nx a W
 |.brk=>∃a W,Inv X U a W s'/\D.bk a W
 |.cont=>∃a W,Inv X U a W s'/\D.ct a W
 |.ret u=>∃v a W,Inv X U a W s'/\zZ v u/\D.rt v W
def PE(X:Cx)(e:Expr)(t:TE):Prop :=
 ∀(U:Δ)(s:Shared)(G:St)(H:Hp)(Q:VK),↥X->t G H Q->⇑X (eval e X.env) (EP X U G Q) X.xe s
def PT(X:Cx)(e:Expr)(t:TT):Prop :=
 ∀(U:Δ)(s:Shared)(G:St)(H:Hp)(Q:Bool->Hp->Prop),↥X->t G H Q->⇑X (isTrue e X.env (eval e X.env)) (TP X U G Q) X.xe s
def PW(X:Cx)(e:Expr)(t:TT):Prop :=
 ∀(a:Sem Value)(U:Δ)(s:Shared)(G:St)(H:Hp)(Q:Bool->Hp->Prop),↥X->t G H Q->⇑X (isTrue e X.env a) (TP X U G Q) X.xe s
def PW.pt{X:Cx}{t:TT}(h:PW X e t):PT X e t:=h _
def PA(X:Cx)(Z:xw)(t:TA):Prop :=
 ∀(O:Pos)(U:Δ)(s:Shared)(G:St)(H:Hp)(Q:Ζ->Hp->Prop),↥X->t G H Q->⇑X (spliced (backTo O (starEach Z X.env))) (AP X U G Q) X.xe s
def PS(X:Cx)(a:Stmt)(t:TS):Prop :=
 ∀(U:Δ)(s:Shared)(G:St)(H:Hp)(D:Ends),↥X->t D G H->⇑X (exec a X.env) (SP X U D) X.xe s
def PSs(X:Cx)(a:wq)(t:TS):Prop :=
 ∀(U:Δ)(s:Shared)(G:St)(H:Hp)(D:Ends),↥X->t D G H->⇑X (execs a X.env) (SP X U D) X.xe s
def ag{b:Type}{t:Sem b}{Q c:b->Shared->Prop}(h:wpAny M A t Q E s)(d:∀a s,Q a s->c a s):wpAny M A t c E s:=wpAny_mono h d λ_ _ x=>x
variable{G:St}{c tg:Expr}{I ys:Ζ}{K:Frag}{O a9:Pos}{Z:xw}{k:Nat}{te:TE}
section
variable{X:Cx}
def Lg(i:Nat):TE:=λG H Q=>∃v,G[i]?\(some v)/\Q v H
def tC(v:V):TE:=λ_ H Q=>Q v H
abbrev zz(a:Str):Prop:=(a==("__debug__":Str))=false
abbrev zk(a:Str):Prop:=(a==("__classdict__":Str))=false
def _w{O:Pos}(o:X.N[i]?\x)(g:ky X.env.scope x)(hd:‹(zz x,2)›)(p:‹(zk x,2)›):PE X (.Name x O) (Lg i):=by
 intro U s G H Q I h;let⟨v,e,h⟩:=h;let⟨m,j,n⟩:=I.loc;let⟨u,r,l⟩:=n i x v o e g;have b:EP X U G Q u s:=#[v,H,I,r,h];rcases l with⟨a,k⟩|⟨a,c,d,f⟩
 .exact wpAny_Name (wpAny_loadName_local I.ok.kind a j k b) hd
 .rcases a with a|a
  .exact wpAny_Name (wpAny_loadName_cell I.ok.kind a d f b) hd
  .exact wpAny_Name (wpAny_loadName_free I.ok.kind a d f b p) hd
def uG{i j O} : PE X (.Constant (.int i) j O) (tC (.int i)):=λ_ _ _ H _ I h=>wpAny_Constant_int #[.int i,H,I.tok _,#[_,rfl],h]
def E3{b j O} : PE X (.Constant (.bool b) j O) (tC (.bl b)):=λ_ _ _ H _ I h=>Constant_bool #[.bl b,H,I,rfl,h]
def Zu{j O} : PE X (.Constant .none j O) (tC .non):=λ_ _ _ H _ I h=>Constant_none #[.non,H,I,rfl,h]
def F_{x j O} : PE X (.Constant (.str x) j O) (tC (.str x)):=λ_ _ _ H _ I h=>Calls.Constant_str #[.str x,H,I.tok _,#[_,rfl],h]
def Gl(X:Cx)(x:Str):Prop:=X.env.kindOf x=some .globalImplicit
def uE{O:Pos}{Q:Ε}(I:↥X)(b:Gl X x)(a:X.mg x\u)(h:Q u s)
 (hd:‹(zz x,2)›):⇑X (eval (.Name x O) X.env) Q E s :=
 Calls.Name_function_global I.ok.kind b (Calls.loadGlobal_global %[I.ok.glob|I.mod.glob.keeps I.bk] a h) hd
def Ek{O:Pos}{Q:Ε}(I:↥X)(d:Gl X x)(c:X.mg x=none)(a:bootBuiltins x\u)(h:Q u s)
 (b:‹(x≠"__name__",2)›)(hd:‹(zz x,2)›):⇑X (eval (.Name x O) X.env) Q E s:=by
 let⟨g,f,e⟩:=I.mod.blt;exact Calls.Name_function_global I.ok.kind d (Calls.loadGlobal_builtin %[I.ok.glob|I.mod.glob.keeps I.bk] c %[I.ok.blt|f.keeps I.bk] ((e x b).trans a) h) hd
def IL{O:Pos}(b:Gl X x)(a:X.mg x\u)(r:zZ v u)(hd:‹(zz x,2)›):PE X (.Name x O) (tC v) :=
 λ_ _ _ H _ I h=>uE I b a #[v,H,I,r,h] hd
def ai6{O:Pos}(d:Gl X x)(c:X.mg x=none)(a:bootBuiltins x\u)(r:zZ v u)(b:‹(x≠"__name__",2)›)(hd:‹(zz x,2)›):PE X (.Name x O) (tC v) :=
 λ_ _ _ H _ I h=>Ek I d c a #[v,H,I,r,h] b hd
variable{a b:Expr}{ta tb:TE}{O:Pos}
def PC(X:Cx)(e:CmpOp)(a b:Expr)(t:TE):Prop :=
 ∀(U:Δ)(s:Shared)(G:St)(H:Hp)(Q:VK),↥X->t G H Q ->
  ⇑X (eval a X.env) (λv d=>⇑X (eval b X.env) (λu c=>⇑X (compareOp e v u) (EP X U G Q) X.xe c) X.xe d) X.xe s
def tB(t:TE):TT:=λG H Q=>t G H λx Y=>∃c,x=.bl c/\Q c Y
def Go{e:CmpOp}{t:TE}(h:PC X e a b t)(f:‹behindInMarks e b=false›):PT X (.Compare a [e] [b] O) (tB t):=by
 intro U s G H Q I hw;refine wpAny_isTrue_Compare1 (ag (h U s G H _ I hw) λv o f=>ag f λu n k=>ag k λc m j=>?_) f;let⟨x,Y,l,g,i⟩:=j;let⟨d,rfl,q⟩:=i;cases g;exact wpAny_truthy_bool #[Y,l,q]
variable{tA mP:TT}{rest:xw}
def MR(t u:TT):TT:=λG H Q=>t G H λc Y=>if c=true then u G Y Q else Q false Y
def LN(t u:TT):TT:=λG H Q=>t G H λc Y=>if c=true then Q true Y else u G Y Q
def MM(t:TT):TT:=λG H Q=>t G H λc Y=>Q (!c) Y
def pw_and1(b:PT X a tA):PW X (.BoolOp .And [a] O) tA:=by
 intro d U s G H Q I h;refine isTrue_and (ag (b U s G H Q I h) λc f e=>?_);cases c with
 |true=>exact isTrue_and_nil e
 |false=>exact e
def pw_or1(b:PT X a tA):PW X (.BoolOp .Or [a] O) tA:=by
 intro d U s G H Q I h;refine isTrue_or (ag (b U s G H Q I h) λc f e=>?_);cases c with
 |false=>exact isTrue_or_nil e
 |true=>exact e
def pw_and(j:PT X a tA)(i:PW X (.BoolOp .And (b::rest) O) mP):PW X (.BoolOp .And (a::b::rest) O) (MR tA mP):=by
 intro f U s G H Q I h;refine isTrue_and (ag (j U s G H _ I h) λc g k=>?_);let⟨Y,e,d⟩:=k;cases c with
 |true=>exact i f U g G Y Q e d
 |false=>exact#[Y,e,d]
def pw_or(j:PT X a tA)(i:PW X (.BoolOp .Or (b::rest) O) mP):PW X (.BoolOp .Or (a::b::rest) O) (LN tA mP):=by
 intro f U s G H Q I h;refine isTrue_or (ag (j U s G H _ I h) λc g k=>?_);let⟨Y,e,d⟩:=k;cases c with
 |true=>exact#[Y,e,d]
 |false=>exact i f U g G Y Q e d
def TL(b:PT X a tA):PT X (.UnaryOp .Not a O) (MM tA):=by
 intro U s G H Q I h;exact isTrue_not (b U s G H (λc Y=>Q (!c) Y) I h)
def Sz(ta tb:TE):TE:=λG H Q=>ta G H λx Y=>∃c,x=.bl c/\if c=true then tb G Y Q else Q (.bl false) Y
def Pp(ta:TE):TE:=λG H Q=>ta G H λx Y=>∃c,x=.bl c/\Q (.bl (!c)) Y
def VM{b}{t:TE}(h:PE X a t):PE X (.BoolOp b [a] O) t:=λU s G H Q I c=>BoolOp_one (h U s G H Q I c)
def WC(j:PE X a ta)(i:PE X (.BoolOp .And (b::rest) O) tb):PE X (.BoolOp .And (a::b::rest) O) (Sz ta tb):=by
 intro U s G H Q I h;refine BoolOp_and (ag (j U s G H _ I h) λv f k=>?_);let⟨x,Y,e,g,d⟩:=k;let⟨c,rfl,d⟩:=d;cases g;refine wpAny_truthy_bool ?_;cases c with
 |true=>exact i U f G Y Q e d
 |false=>exact#[.bl false,Y,e,rfl,d]
def TC(e:PE X a ta):PE X (.UnaryOp .Not a O) (Pp ta):=by
 intro U s G H Q I h;refine UnaryOp_ (ag (e U s G H _ I h) λv i f=>?_);let⟨x,Y,g,d,b⟩:=f;let⟨c,rfl,b⟩:=b;cases d;exact not_of (wpAny_truthy_bool #[.bl (!c),Y,g,rfl,b])
def LO(t:TT)(ta tb:TE):TE:=λG H Q=>t G H λc Y=>if c=true then ta G Y Q else tb G Y Q
def afX(hc:PT X c tA)(j:PE X a ta)(i:PE X b tb):PE X (.IfExp c a b O) (LO tA ta tb):=by
 intro U s G H Q I h;refine wpAny_IfExp (ag (hc U s G H _ I h) λd e k=>?_);let⟨Y,g,f⟩:=k;cases d with
 |true=>exact j U e G Y Q g f
 |false=>exact i U e G Y Q g f
end
def SqL(K:Frag)(H:Hp)(a:Addr)(I:Ζ):Prop :=
 Rd H a (.lst I) \/
  ∃(o:Obj)(b:xA)(n:Nat),K.lookup a\o/\o.cls=.type "list"/\o.dict=none/\o.data=.seq b n/\b.size<=sizeLine/\zN I b.toList
def SqT(K:Frag)(H:Hp)(a:Addr)(I:Ζ):Prop :=
 Rd H a (.tup I) \/
  ∃(o:Obj)(b:xA)(n:Nat),K.lookup a\o/\o.cls=.type "tuple"/\o.data=.seq b n/\b.size<=sizeLine/\zN I b.toList
def MS:Value->wv
 |.none=>some .non
 |.bool b=>some (.bl b)
 |.int i _=>some (.int i)
 |.str x _=>some (.str x)
 |.bytes b _=>some (.byt b)
 |.float b _=>some (.flt b)
 |.ref a=>some (.ref a)
 |.type n=>some (.ty n)
 |_=>none
def zZ.abs{x:V}(r:zZ x u):MS u\x:=by
 cases x with
 |non=>cases r;rfl
 |bl _=>cases r;rfl
 |int _=>let⟨t,rfl⟩:=r;rfl
 |str _=>let⟨t,rfl⟩:=r;rfl
 |byt _=>let⟨t,rfl⟩:=r;rfl
 |flt _=>let⟨t,rfl⟩:=r;rfl
 |ref _=>cases r;rfl
 |ty _=>cases r;rfl
def zZ.inj{x y:V}{u:Value}(r:zZ x u)(q:zZ y u):x=y:=Option.some.inj (r.abs.symm.trans q.abs)
theorem zN.inj:∀{I ys:Ζ}{a:Θ},zN I a->zN ys a->I=ys
 |_,_,_,.nil,.nil=>rfl
 |_,_,_,.cons r t,.cons b t'=>%[r.inj b,zN.inj t t'|_]
def SqL.of(h:H a\(.lst I)):SqL K H a I:=.inl (.inl h)
def SqT.of(h:H a\(.tup I)):SqT K H a I:=.inl (.inl h)
def Inv.list(b:↥X)(h:SqL X.K H a I):∃c:Θ,zN I c/\PlainL s.heap a c.toArray/\I.length<=sizeLine:=by
 rcases h with h|⟨o,c,n,g,i,hd,f,d,r⟩
 .let⟨z,c,n,r,e⟩:=h.ok b.hok;exact#[c,r,#[_,n,e,rfl,rfl,rfl],z]
 .refine#[c.toList,r,#[o,n,b.kIn a o g,i,hd,↑f],?_];have e:=r.length;simp only[Array.length_toList]at e;exact aL (WG e) d
def Inv.tuple(b:↥X)(h:SqT X.K H a I):∃c:Θ,zN I c/\IsTup s.heap a c.toArray/\I.length<=sizeLine:=by
 rcases h with h|⟨o,c,n,g,i,f,d,r⟩
 .let⟨z,c,r,p⟩:=h.ok b.hok;exact#[c,r,p,z]
 .refine#[c.toList,r,#[o,b.kIn a o g,i,n,↑f],?_];have e:=r.length;simp only[Array.length_toList]at e;exact aL (WG e) d
def Inv.list_inj(b:↥X)(h:SqL X.K H a I)(h':SqL X.K H a ys):I=ys:=by
 let⟨f,r,⟨o,n,e,_,_,d⟩,_⟩:=b.list h;let⟨c,j,⟨o',l,g,_,_,i⟩,_⟩:=b.list h';rw[e]at g;cases g;rw[d]at i;injection i with k _;have:f=c:=↑(ZH Array.toList k)
 subst this;exact r.inj j
abbrev Cx.wish(X:Cx)(E:Ε):Cx:={ X with xe:=E }
abbrev Cx.nox(X:Cx):Cx:=X.wish λ_ _=>False
def Cx.Ok.wish{X:Cx}(a:X.Ok)(E:Ε):(X.wish E).Ok :=
 #[a.mod,a.kind,a.glob,a.blt,a.above,a.inj,a.has,a.cab,a.hd,a.frames,a.stk,a.exf,a.bs,a.bsz,a.noex,a.exfs,a.funs,a.frf]
def Cx.Ok.unwish{X:Cx}(a:(X.wish E).Ok):X.Ok :=
 #[a.mod,a.kind,a.glob,a.blt,a.above,a.inj,a.has,a.cab,a.hd,a.frames,a.stk,a.exf,a.bs,a.bsz,a.noex,a.exfs,a.funs,a.frf]
def Inv.wish(I:↥X)(E:Ε):Inv (X.wish E) U G H s:=#[I.ok.wish E,I.os,I.bare,I.base,I.loc,I.cell,I.free,I.freeC,I.pin,I.hok,I.len]
def Inv.unwish(I:Inv (X.wish E) U G H s):↥X:=#[I.ok.unwish,I.os,I.bare,I.base,I.loc,I.cell,I.free,I.freeC,I.pin,I.hok,I.len]
def SP.unwish{D:Ends}{f:Flow}{s':Shared}(h:SP (X.wish E) U D f s'):SP X U D f s':=by
 cases f with
 |next=>let⟨a,W,I,q⟩:=h;exact#[a,W,I.unwish,q]
 |brk=>let⟨a,W,I,q⟩:=h;exact#[a,W,I.unwish,q]
 |cont=>let⟨a,W,I,q⟩:=h;exact#[a,W,I.unwish,q]
 |ret u=>let⟨v,a,W,I,r,q⟩:=h;exact#[v,a,W,I.unwish,r,q]
def PSs.nox{a:wq}{t:TS}(h:PSs X.nox a t):PSs X a t:=λU s G H D I b =>
 wpAny_mono (h U s G H D (I.wish _) b) (λ_ _ q=>q.unwish) λ_ _ z=>False.elim z
section
variable{X:Cx}{st:Stmt}{rest:wq}{t u:TS}{e:Expr}{te:TE}{O:Pos}
def P8:TS:=λD G H=>D.nx G H
def j6(t u:TS):TS:=λD G H=>t { D with nx:=u D } G H
def IU:PSs X [] P8:=λ_ _ G H _ I h=>wpAny_execs_nil #[G,H,I,h]
def nW(d:PS X st t)(c:PSs X rest u):PSs X (st::rest) (j6 t u):=by
 intro U s G H D I h;refine wpAny_execs_cons (ag (d U s G H { D with nx:=u D } I h) λf b q=>?_);cases f with
 |next =>
  let⟨a,W,e,q⟩:=q;exact c U b a W D e q
 |ret v=>exact q
 |brk=>exact q
 |cont=>exact q
def pC(a:PS X st t):PSs X [st] t:=by
 intro U s G H D I h;refine wpAny_execs_cons (ag (a U s G H D I h) λf b q=>?_);cases f with
 |next=>exact wpAny_execs_nil q
 |ret v=>exact q
 |brk=>exact q
 |cont=>exact q
def Inv.quiet(I:↥X):interactive X.env=false:=by simp[interactive,I.ok.kind]
def UD(te:TE):TS:=λD G H=>te G H λ_ Y=>D.nx G Y
def pG(c:PE X e te)(b:‹swapsWith e none O.line X.env=pure false›):PS X (.Expr e O) (UD te):=by
 intro U s G H D I h;exact wpAny_Expr_any (ag (c U s G H _ I h) λv g d=>by let⟨x,Y,f,i,a⟩:=d;exact#[G,Y,f,a]) I.quiet b
def MI(te:TE):TS:=λD G H=>te G H D.rt
def z8(c:PE X e te):PS X (.Return (some e) O) (MI te):=by
 intro U s G H D I h;exact wpAny_Return_some (ag (c U s G H _ I h) λv g d=>by let⟨x,Y,f,a,b⟩:=d;exact#[x,G,Y,f,a,b])
def NL(c:TT)(t u:TS):TS:=λD G H=>c G H λb Y=>if b=true then t D G Y else u D G Y
def EJ{a b:wq}{e:TT}(hc:PT X c e)(k:PSs X a t)(j:PSs X b u):PS X (.If c a b O) (NL e t u):=by
 intro U s G H D I h;refine wpAny_If (ag (hc U s G H _ I h) λd f l=>?_);let⟨Y,i,g⟩:=l;cases d with
 |true=>exact k U f G Y D i g
 |false=>exact j U f G Y D i g
def UO:TS:=λ_ _ _=>False
def adB:PS X st UO:=λ_ _ _ _ _ _ h=>h.elim
end
abbrev TG:=V->St->Hp->(St->Hp->Prop)->Prop
abbrev fj:=Ζ->St->Hp->(St->Hp->Prop)->Prop
def PG(X:Cx)(b:Expr)(t:TG):Prop :=
 ∀(U:Δ)(s:Shared)(G:St)(H:Hp)(v:V)(u:Value)(Q:St->Hp->Prop),↥X->zZ v u->t v G H Q ->
  ⇑X (assign b X.env u) (λ_ s'=>∃a W,Inv X U a W s'/\Q a W) X.xe s
def PGs(X:Cx)(d:xw)(t:fj):Prop :=
 ∀(U:Δ)(s:Shared)(G:St)(H:Hp)(b:Ζ)(c:Θ)(Q:St->Hp->Prop),↥X->zN b c->t b G H Q ->
  ⇑X (assignInOrder ((assignEach d X.env).map (·.2)) c) (λ_ s'=>∃a W,Inv X U a W s'/\Q a W) X.xe s
abbrev oI:=V->V->V->Hp->(Hp->Prop)->Prop
def B7(X:Cx)(t:oI):Prop :=
 ∀(U:Δ)(s:Shared)(G:St)(H:Hp)(o i v:V)(a b u:Value)(Q:Hp->Prop),↥X->zZ o a->zZ i b->zZ v u->t o i v H Q ->
  ⇑X (setItem a b u) (λ_ s'=>∃W,Inv X U G W s'/\Q W) X.xe s
abbrev mT:=V->V->Hp->VK->Prop
def rh(X:Cx)(a:Operator)(t:mT):Prop :=
 ∀(U:Δ)(s:Shared)(G:St)(H:Hp)(x y:V)(v u:Value)(Q:VK),↥X->zZ x v->zZ y u->t x y H Q ->
  ⇑X (inplaceOp a v u) (EP X U G Q) X.xe s
def yH(i:Nat):TG:=λv G H Q=>Q (G.set i (some v)) H
def gU(d:X.N.Nodup)(b:X.N[i]?\x)(a:fc X.env.scope x)(c:zd X x:=by first|exact .inl rfl|exact .inr rfl|assumption):PG X (.Name x O) (yH i):=by
 intro U s G H v u Q I r h;exact wpAny_assign_Name (vZ I d b a r (λs' e=>#[_,H,e,h]) c)
def OY:fj:=λa G H Q=>a=[]/\Q G H
def Se(t:TG)(u:fj):fj:=λb G H Q=>∃v r,b=v::r/\t v G H λa W=>u r a W Q
def I':PGs X [] OY:=by
 intro U s G H a b Q I r h;let⟨e,h⟩:=h;subst e;cases r;exact assignInOrder_nil #[G,H,I,h]
def N8{t:TG}{u:fj}(j:PG X e t)(i:PGs X Z u)
 (f:‹(assignEach (e::Z) X.env).map (·.2)=assign e X.env::(assignEach Z X.env).map (·.2)›):PGs X (e::Z) (Se t u):=by
 intro U s G H m n Q I r h;let⟨v,vr,k,h⟩:=h;subst k;cases r with
 |cons r c =>
  rw[f];refine assignInOrder_cons (ag (j U s G H _ _ _ I r h) λ_ b g=>?_);let⟨a,Y,l,d⟩:=g;exact i U b a Y _ _ Q l c d
def Op(K:Frag)(n:Nat)(t:fj):TG:=λv G H Q=>∃a I,v=.ref a/\SqT K H a I/\I.length=n/\t I G H Q
abbrev zD(X:Cx)(a:xw):Prop:=(assignEach a X.env).findIdx? (·.1)=none
def HQ{t:fj}{n:Nat}(hc:X.calm)(h:PGs X Z t)
 (m:‹(assignEach Z X.env).length=n›)(w:‹zD X Z›):PG X (.Tuple Z k O) (Op X.K n t):=by
 intro U s G H v u Q c r hw;let⟨a,I,q,l,p,hw⟩:=hw;subst q;cases r;let⟨g,d,j,y⟩:=c.tuple l;refine assign_Tuple_tuple (c.ok.hd hc) j (by simp[m,<- p,d.length]) w λh' i=>?_;have x:Inv X U G H { s with heap:=h' }:=c.kept (t':=s.toks) λb o e=>i b o (aQ (aK e)) e;exact h U _ G H I _ Q x ↑d hw
def ML(a b:TE)(t:oI):TG:=λv G H Q=>a G H λo Y=>b G Y λi d=>t o i v d λc=>Q G c
def GU{o i:Expr}{d e:TE}{t:oI}(n:PE X o d)(p:PE X i e)(m:B7 X t)
 (q:∀v,assign (.Subscript o i O) X.env v=(do
   let a <- holding [v] (eval o X.env)
   let b <- holding [v,a] (eval i X.env)
   standAt O
   holding [v,a,b] (setItem a b v)
   release [v,a,b] []):=by intro _;rfl):PG X (.Subscript o i O) (ML d e t):=by
 intro U s G H v u Q I r h;rw[q];refine ZU (wpAny_holding (ag (n U s G H _ I h) λa g c=>?_));let⟨x,Y,A,k,l⟩:=c;refine ZU (wpAny_holding (ag (p U g G Y _ A l) λb f c=>?_));let⟨y,C,z,j,q2⟩:=c;refine ZU (wpAny_standAt (ZU (wpAny_holding (ag (m U f G C x y v a b u _ z k j r q2) λ_ D c=>?_))));let⟨B,w,q3⟩:=c;exact wpAny_release #[G,B,w,q3]
def iO(te:TE)(g:TG):TS:=λD G H=>te G H λx Y=>g x G Y D.nx
def qP{g:TG}(j:PE X e te)(i:PG X tg g)(f:‹swapsWithSole [tg] e O.line X.env=pure false›)(d:‹swappedStores [tg] e X.env=pure none›)
 (l:‹(assignEach [tg] X.env).map (·.2)=[assign tg X.env]›):PS X (.Assign [tg] e O) (iO te g):=by
 intro U s G H D I h;refine wpAny_Assign_stores (ag (j U s G H _ I h) λv a k=>?_) f d;let⟨x,Y,m,b,c⟩:=k;rw[l];exact ag (i U a G Y x v _ m b c) λ_ n q=>q
def vH(l:X.N.Nodup)(f:X.N[i]?\x)(c:fc X.env.scope x)(j:PE X e te)(d:‹swapsWith e (some (.Name x a9)) O.line X.env=pure false›)(g:zd X x:=by first|exact .inl rfl|exact .inr rfl|assumption) :
  PS X (.Assign [.Name x a9] e O) (iO te (yH i)):=by
 intro U s G H D I h;refine wpAny_Assign_Name (ag (j U s G H _ I h) λv p k=>?_) d;let⟨y,Y,n,a,b⟩:=k;exact vZ n l f c a (λo m=>#[_,Y,m,b]) g
def NU(i j:Nat)(b:TA):TS:=λD G H=>b G H λa Y=>∃v w,a=[v,w]/\D.nx ((G.set i (some v)).set j (some w)) Y
variable{a:Expr}{ta:TA}{op:Operator}{b5:wq}{p:Pos}{fp:Ψ}
def _J{j:Nat}{y:Str}{b:Expr}{n m r:Pos}{t u d}(hc:X.calm)(F:X.N.Nodup)(V:X.N[i]?\x)(T:X.N[j]?\y)(R:i≠j)
 (C:X.env.scope.names.lookup x\.local)(B:X.env.scope.names.lookup y\.local)(W:PA X [a,b] ta)
 (hw:swappedStores [.Tuple [.Name x n,.Name y m] t r] (.Tuple [a,b] u d) X.env=pure (some [x,y]))
 (S:‹swapsWithSole [.Tuple [.Name x n,.Name y m] t r] (.Tuple [a,b] u d) O.line X.env=pure false›) :
  PS X (.Assign [.Tuple [.Name x n,.Name y m] t r] (.Tuple [a,b] u d) O) (NU i j ta):=by
 intro U s G H D I h;rw[exec_Assign_arm];refine ZU (wpAny_standAt ?_);rw[S];refine ZU (ZT ?_);rw[ZZ vw];refine ZU (Tuple_ (ag (W _ U s G H _ I h) λK k Z=>?_));let⟨vs,Y,I1,M,l⟩:=Z;let⟨v,w,e1,l⟩:=l;subst e1;obtain⟨g,f,rfl,L,gp⟩ : ∃g f,K=[g,f]/\zZ v g/\zZ w f:=by
  cases M with
  |cons p q =>
   cases q with
   |cons Q P =>
    cases P;exact#[_,_,rfl,p,Q]
 refine wpAny_newObj_type ?_ (by show 2<=sizeLine;decide);have I2:Inv X U G Y { k with heap:=k.heap.push { cls:=.type "tuple",data:=.seq [g,f].toArray } }:=I1.kept (t':=k.toks) λb o e=>aH _ e;rw[hw];refine ZU (ZT ?_);show ⇑X (do rule "assign.swapped-stores"; let c <- unpackItems (.ref k.zs) 2 none;assignInOrder [λv=>bindName X.env y v,λv=>bindName X.env x v] c.reverse;pure Flow.next) _ _ _;refine ZU (wpAny_rule (ZU (unpackItems_tuple (items:=↥[g,f]) (I.ok.hd hc) (IsTup.new k.heap _) λh' z=>?_)));have I3:=I2.kept (h':=h') (t':=k.toks) λb o e=>z b o (aQ (aK e)) e;show wpAny _ _ (assignInOrder [λv=>bindName X.env y v,λv=>bindName X.env x v] [f,g] >>= λ_=>pure Flow.next) _ _ _;refine ZU (assignInOrder_cons (wpAny_bindName (vZ I3 F T (.inl B) gp (λs2 I4=>?_) (.inr B))));refine assignInOrder_cons (wpAny_bindName (vZ I4 F V (.inl C) L (λs3 J=>assignInOrder_nil (ZT ?_)) (.inr C)));rw[List.set_comm _ _ (Ne.symm R)]at J;exact#[_,Y,J,l]
def OP(i:Nat)(te:TE)(a:mT):TS:=λD G H=>∃x,G[i]?\(some x)/\te G H λy Y=>a x y Y λz b=>D.nx (G.set i (some z)) b
def Wl{n:mT}(P:X.N.Nodup)(o:X.N[i]?\x)(g:fc X.env.scope x)(M:PE X e te)(E:rh X op n)(L:zd X x:=by first|exact .inl rfl|exact .inr rfl|assumption) :
  PS X (.AugAssign (.Name x a9) op e O) (OP i te n):=by
 intro U s G H D I h;let⟨v,Q,h⟩:=h;let⟨m,F,K⟩:=I.loc;have f:ky X.env.scope x:=by rcases g with k|k;exact .inl k;exact .inr (.inl k)
 let⟨u,r,l⟩:=K i x v o Q f;refine wpAny_AugAssign_Name ?_;have p:⇑X (eval e X.env) (λw d=>⇑X (inplaceOp op u w) (λr b=>⇑X (storeName X.env x r) (λ_=>SP X U D .next) X.xe b) X.xe d) X.xe s:=by
  refine ag (M U s G H _ I h) λw q j=>?_;let⟨y,Y,V,B,C⟩:=j;refine ag (E U q G Y v y u w _ V r B C) λz s2 j=>?_;let⟨Z,W,T,t,q2⟩:=j;exact vZ T P o g t (λs3 S=>#[_,W,S,q2]) L
 rcases l with⟨a,J⟩|⟨a,c,hc,R⟩
 .exact wpAny_loadName_local I.ok.kind a F J p
 .rcases a with a|a
  .exact wpAny_loadName_cell I.ok.kind a hc R p
  .rcases g with k|k
   .have:X.env.scope.names.lookup x\.free:=a;rw[k]at this;cases this
   .have:X.env.scope.names.lookup x\.free:=a;rw[k]at this;cases this
def tS(f:Int->Int->Int):mT:=λx y H Q=>∃i j,x=.int i/\y=.int j/\Q (.int (f i j)) H
def G1:rh X .Add (tS λi j=>i+j):=by
 intro U s G H x y v u Q I b a h;let⟨i,j,d,c,q⟩:=h;subst d;subst c;let⟨t,rfl⟩:=b;let⟨t',rfl⟩:=a;exact iadd_int #[.int _,H,I.tok _,#[_,rfl],q]
def _v(c:TT)(f:TS):TS:=λD G H=>∃a:Nat->St->Hp->Prop,(∃m,a m G H)/\∀m G H,a m G H ->
 c G H λb Y=>if b=true then ∃N:St->Hp->Prop,(∀d W,N d W->∃e,e<m/\a e d W)/\f { D with nx:=N,ct:=N,bk:=D.nx } G Y else D.nx G Y
def YC{q:TT}{r:TS}(t:PassesOwn (model X.prog X.w) X.A X.env X.xe)(hc:PT X c q)(J:PSs X b5 r):PS X (.While c b5 [] O) (_v q r):=by
 intro U s G H D I h;let⟨a,⟨F,B⟩,i⟩:=h;refine wpAny_While (codeAny_whileLoop (λn s'=>∃g W,Inv X U g W s'/\a n g W) ?_ F #[G,H,I,B]);rintro n E ⟨e,Y,L,z⟩;refine wpAny_passesOwn t (ag (hc U E e Y _ L (i n e Y z)) λb C K=>?_);let⟨y,x,q2⟩:=K;cases b with
 |true =>
  let⟨N,u,q2⟩:=q2;rw[ZY rfl];refine wpAny_passesOwn t (ag (J U C e y _ x q2) λf M q3=>?_);cases f with
  |next =>
   let⟨d,j,p,l⟩:=q3;let⟨m,o,k⟩:=u d j l;exact#[m,o,d,j,p,k]
  |cont =>
   let⟨d,j,p,l⟩:=q3;let⟨m,o,k⟩:=u d j l;exact#[m,o,d,j,p,k]
  |brk=>exact q3
  |ret v=>exact q3
 |false =>
  rw[ZZ bx];exact wpAny_execs_nil #[e,y,x,q2]
structure It where
 go:Nat->Hp->Prop
 yld:Nat->Hp->V->Hp->Prop
 stop:Nat->Hp->Prop
def Kc(X:Cx)(U:Δ)(H:Hp)(b:Addr):Prop :=
 H b=none/\b≠X.env.locals/\b∉X.fs/\(b∈X.ex\/X.s₀.zs<=b)/\(∀x c,X.env.cells.lookup x\c->c≠b)/\∀p∈X.pn++U,p.1≠b
def Inv.fpOk{X:Cx}(I:↥X)(a:s.zs<=b)(f:W b=none):Kc X U W b:=by
 refine#[f,UZ (aR I.lt a),I.nofs a,.inr (aL I.sz a),λx c e z=>?_,λp d z=>?_]
 .let⟨v,q⟩:=I.cell x c e;exact absurd (aR q.lt (by rwa[z])) (X2 _)
 .exact absurd (aR (aK (I.pin p d).1) (by rwa[z])) (X2 _)
structure Turn(P:Program)(w:World)(K:Frag)(tg:Expr)(J:It)(fp:Ψ)(it:Addr)(tn:Nat->Heap->Prop):Prop where
 mem:it∈fp
 obj:∀i h,tn i h->∀b∈fp,∃o,h.get? b\o/\∀v,o.data≠.cell v
 keep:∀i h h',tn i h->(∀b∈fp,∀o,h.get? b\o->h'.get? b\o)->tn i h'
 item:∀(X:Cx),X.prog=P->X.w=w->X.K=K->X.calm=true->∀(i:Nat)(U:Δ)(s:Shared)(G:St)(H:Hp)(E:Ε),↥X->(∀b∈fp,Kc X U H b)->tn i s.heap->J.go i H ->
  wpAny (model P w) X.A (pyNext (.ref it)) (λr s1=>∃u,r\u /\
   wpAny (model P w) X.A (letOwnedTupleGo tg (.ref it) u) (λ_ s2=>∃x W,Inv X U G W s2/\zZ x u/\J.yld i H x W/\tn (i+1) s2.heap/\∀b∈fp,W b=none) E s1) E s
 done:∀(X:Cx),X.prog=P->X.w=w->X.K=K->X.calm=true->∀(i:Nat)(U:Δ)(s:Shared)(G:St)(H:Hp)(E:Ε),↥X->(∀b∈fp,Kc X U H b)->tn i s.heap->J.stop i H ->
  wpAny (model P w) X.A (pyNext (.ref it)) (λr s1=>r=none/\Inv X U G H s1) E s
 self:∀(A:Around)(i:Nat)(s:Shared)(Q:Ε)(E:Ε),tn i s.heap->Q (.ref it) s->wpAny (model P w) A (pyIter (.ref it)) Q E s
abbrev TI:=St->Hp->(It->Hp->Prop)->Prop
def K4(X:Cx)(U:Δ)(G:St)(tg:Expr)(R:It->Hp->Prop)(e:Value)(c:Shared):Prop :=
 ∃(d:Addr)(fp:Ψ)(a:Nat->Heap->Prop)(J:It)(W:Hp),e=.ref d/\Inv X U G W c/\Turn X.prog X.w X.K tg J fp d a/\a 0 c.heap/\(∀b∈fp,Kc X U W b)/\R J W
def PI(X:Cx)(tg iter:Expr)(a:TI):Prop :=
 ∀(U:Δ)(s:Shared)(G:St)(H:Hp)(R:It->Hp->Prop),↥X->a G H R ->
  ⇑X (eval iter X.env) (λv b=>⇑X (pyIter v) (K4 X U G tg R) X.xe b) X.xe s
def l4{c:Addr}{n:String}{b:xA}(d:s.heap.get? c\o)(hc:o.cls=.type n)(hd:o.data=.fields b)
   (e : ["enumerate","zip","dict_itemiterator","dict_reverseitemiterator","odict_iterator","itertools.zip_longest","itertools.pairwise"].contains n=false)(a:Q () s):wpAny M A (letOwnedTupleGo tg (.ref c) u) Q E s:=by
  unfold letOwnedTupleGo;cases tg<;>first
    |exact ZT a
    |(cases u<;>first
        |exact ZT a
        | (refine ZU (wpAny_load d ?_)
           rw[hc,hd];show wpAny M A (if(["enumerate","zip","dict_itemiterator","dict_reverseitemiterator","odict_iterator","itertools.zip_longest","itertools.pairwise"].contains n&&b[0]?==some (rawInt _))=true then _ else _) Q E s;rw[ZZ (by intro h;rw[e,Bool.false_and]at h;cases h)];exact ZT a))
def Lu(K:Frag)(a:Addr):It :=
 #[λi H=>∃I x,SqL K H a I/\I[i]?=some x,λi H x W=>W=H/\∀I,SqL K H a I->I[i]?\x,λi H=>∃I,SqL K H a I/\I.length<=i]
def kM(lo:Int)(n:Nat):It:=#[λi _=>i<n,λi H x W=>W=H/\x=.int (lo+i),λi _=>n<=i]
def ade(a j:Addr):Turn P w K tg (Lu K a) [j] j (λi h=>h.IsListIter j a i) where
 mem:=by simp
 obj:=λi h g b l=>by
  have e:b=j:=↑l
  subst e;let⟨o,e,c,d⟩:=g;exact#[o,e,λv z=>by rw[d]at z;cases z]
 keep:=λi h h' g k=>g.at λo e=>k j vc o e
 item:=by
  intro X A hw B hc i U s G H E f q g y;subst A hw B;let⟨I,x,n,M⟩:=y;let⟨t,r,p,R⟩:=f.list n;let⟨u,T,Q⟩:=r.get M;let⟨L,J,V,F,D,C⟩:=q j vc;refine wpAny_pyNext_list_item g p.isList (x:=u) ↑T λh' N O=>?_;have Y:Inv X U G H { s with heap:=h' }:=f.turned (t':=s.toks) (λb o l e=>(O.2 b l).trans e) L J F D C;let⟨o,e,c,d⟩:=id N;exact#[u,rfl,l4 (s:={ s with heap:=h' }) e c d vw #[x,H,Y,Q,#[rfl,λys S=>by rwa[f.list_inj S n]],N,λb l=>(q b l).1]]
 done:=by
  intro X A hw B hc i U s G H E f q g y;subst A hw B;let⟨I,n,M⟩:=y;let⟨t,r,p,R⟩:=f.list n;let⟨L,J,V,F,D,C⟩:=q j vc;have Z:=r.length;exact wpAny_pyNext_list_end (f.ok.hd hc) g p.isList (by simp;lia) λh' W=>#[rfl,f.turned (t':=s.toks) (λb o l e=>W b o l e) L J F D C]
 self:=λ_ _ _ _ _ g h=>wpAny_pyIter_listiter g h
def ZW(c:Addr)(lo:Int)(n:Nat):Turn P w K tg (kM lo n) [c] c (λi h=>IsRangeIter h c (lo+(i:Nat)*1) ((n:Int)-(i:Nat)) 1) where
 mem:=by simp
 obj:=λi h a b d=>by
  have e:b=c:=↑d
  subst e;exact#[_,a,λv z=>by
   have B:Data.fields _=Data.cell v:=z;cases B]
 keep:=λi h h' a k=>k c vc _ a
 item:=by
  intro X l hw m hc i U s G H E I g a j;subst l hw m;let⟨x,u,F,r,q,p⟩:=g c vc;have W:=Walks.range (prog:=X.prog) (w:=X.w) (I.ok.hd hc) c lo 1 n;refine W.item i s _ _ j a λv h' y D A C=>?_;let⟨t,rfl⟩:=D;have L:Inv X U G H { s with heap:=h',toks:=y }:=I.turned (λb o d e=>C b o ↑d e) x u r q p;refine#[_,rfl,l4 (s:={ s with heap:=h',toks:=y }) (n:="range_iterator") A rfl rfl vw #[.int (lo+i),H,L,#[t,?_],#[rfl,rfl],A,λb d=>(g b d).1]];rw[Int.mul_one]
 done:=by
  intro X l hw m hc i U s G H E I g a j;subst l hw m;let⟨x,u,F,r,q,p⟩:=g c vc;exact wpAny_pyNext_range_end (I.ok.hd hc) a (by have:n<=i:=j;lia) λh' J=>#[rfl,I.turned (t':=s.toks) (λb o d e=>J b o d e) x u r q p]
 self:=λ_ _ _ _ _ a h=>wpAny_pyIter_rangeiter a h
def Rc(K:Frag)(b:TE):TI:=λG H R=>b G H λx Y=>∃a,x=.ref a/\(∃I,SqL K Y a I)/\R (Lu K a) Y
def ah8{l:Expr}{g:TE}(n:PE X l g):PI X tg l (Rc X.K g):=by
 intro U s G H R c h;refine ag (n U s G H _ c h) λv d t=>?_;let⟨x,Y,f,i,j⟩:=t;let⟨a,e,⟨I,m⟩,q⟩:=j;subst e;cases i;let⟨k,u,p,w⟩:=f.list m;refine wpAny_pyIter_list p.isList ?_;refine#[d.zs,[d.zs],_,_,Y,rfl,f.kept (t':=d.toks) λb o e=>aH _ e,ade a _,#[_,aW _ rfl,rfl,rfl],λb r=>?_,q];have e:b=d.zs:=↑r
 subst e;exact f.fpOk (aG _) (f.hok.fresh (aG _))
def Wk{R:It->Hp->Prop}{lo a:Int}{t u v:Tok}{d:Nat}(I:↥X)(k : -(2^62)<=lo)(j:lo<2^62)(i : -(2^62)<=a)(h:a<2^62)
 (q:R (kM lo (a-lo).toNat) H):⇑X (pyIter (.ref s.zs)) (K4 X U G tg R) E { s with heap:=s.heap.push { cls:=.type "range",data:=.fields ↥[.int lo t,.int a u,.int 1 v] },toks:=d }:=by
 refine wpAny_pyIter_range (IsRange.new ..) (small_one k j i h) ?_;have f:Inv X U G H { s with heap:=s.heap.push { cls:=.type "range",data:=.fields ↥[.int lo t,.int a u,.int 1 v] },toks:=d }:=I.kept λb o e=>aH _ e;refine#[(s.heap.push { cls:=.type "range",data:=.fields ↥[.int lo t,.int a u,.int 1 v] }).objs.size,[(s.heap.push { cls:=.type "range",data:=.fields ↥[.int lo t,.int a u,.int 1 v] }).objs.size],_,_,H,rfl,
  f.kept (t':=d) λb o e=>aH _ e,ZW _ lo (a-lo).toNat,?_,λb g=>?_,q]
 .have m:lo+((0:Nat):Int)*1=lo:=by simp
  have l:(((a-lo).toNat:Nat):Int)-((0:Nat):Int)=Builtin.Range.rangeSize lo a 1:=by rw[rangeSize_one];split<;>lia
  show IsRangeIter _ _ (lo+((0:Nat):Int)*1) ((((a-lo).toNat:Nat):Int)-((0:Nat):Int)) 1;rw[m,l];exact aW _ rfl
 .have e:b=(s.heap.push { cls:=.type "range",data:=.fields ↥[.int lo t,.int a u,.int 1 v] }).objs.size:=↑g
  subst e;exact f.fpOk (aG _) (f.hok.fresh (aG _))
def PY(ta:TA):TI:=λG H R=>ta G H λa Y=>∃j:Int,a=[.int j]/\-(2^62)<=j/\j<2^62/\R (kM 0 j.toNat) Y
def So(ta:TA):TI:=λG H R=>ta G H λa Y=>∃i j:Int,a=[.int i,.int j]/\(-(2^62)<=i/\i<2^62/\-(2^62)<=j/\j<2^62)/\R (kM i (j-i).toNat) Y
def ac6(i:Gl X "range")(g:X.mg "range"=none)(k:PA X [a] ta)(f:‹starEach [a] X.env=[(false,eval a X.env)]›):PI X tg (.Call (.Name "range" p) [a] [] O) (PY ta):=by
 intro U s G H R I h;refine Call_ (Ek I i g boot_range (PyProof.Rows.callWith_type1 (ag (k O U s G H _ I h) λo u l=>?_) f rfl));let⟨n,Y,m,d,b⟩:=l;let⟨j,e,b,q2,q⟩:=b;subst e;cases d with
 |cons r c =>
  cases c;let⟨t,rfl⟩:=r;exact call_range_1 (Wk m (XY vw) (T2 vw) b q2 ↑q)
def acN{b:Expr}(o:Gl X "range")(n:X.mg "range"=none)(u:PA X [a,b] ta)(m:‹starEach [a,b] X.env=[(false,eval a X.env),(false,eval b X.env)]›)(f:‹starEach [b] X.env=[(false,eval b X.env)]›) :
  PI X tg (.Call (.Name "range" p) [a,b] [] O) (So ta):=by
 intro U s G H R I h;refine Call_ (Ek I o n boot_range (PyProof.Rows.callWith_type1 (ag (u O U s G H _ I h) λy z v=>?_) %[m,f|_] (by rw[f];rfl)));let⟨x,Y,w,g,d⟩:=v;let⟨i,j,e,⟨d,q2,q3,l⟩,q⟩:=d;subst e;cases g with
 |cons r c =>
  cases c with
  |cons k c =>
   cases c;let⟨t,rfl⟩:=r;let⟨t',rfl⟩:=k;exact call_range_2 (Wk w d q2 q3 l q)
def Be(e:TI)(g:TG)(f:TS):TS:=λD G H=>e G H λJ Y=>∃a:Nat->Nat->St->Hp->Prop,(∃m,a 0 m G Y)/\∀i m G H,a i m G H ->
 (J.stop i H/\D.nx G H)\/(J.go i H/\∃N:St->Hp->Prop,(∀b W,N b W->∃d,d<m/\a (i+1) d b W)/\∀x W,J.yld i H x W->g x G W λc h=>f { D with nx:=N,ct:=N,bk:=D.nx } c h)
def Og(fp:Ψ)(h:Heap):Δ:=fp.filterMap λb=>(h.get? b).map λo=>(b,o)
def tV(a:b∈fp)(e:h.get? b\o):(b,o)∈Og fp h:=List.mem_filterMap.mpr #[b,a,by rw[e];rfl]
def acr{p:Addr×Obj}(a:p∈Og fp h):p.1∈fp/\h.get? p.1=some p.2:=by
 let⟨b,c,e⟩:=List.mem_filterMap.mp a;cases q:h.get? b with
 |none=>rw[q]at e;cases e
 |some o =>
  rw[q]at e;have d:(b,o)=p:=Option.some.inj e;subst d;exact#[c,q]
def Inv.pinned(I:↥X)(h:∀b∈fp,Kc X U H b)(g:∀b∈fp,∃o,s.heap.get? b\o/\∀v,o.data≠.cell v):Inv X (U++Og fp s.heap) G H s :=
 I.pins_of λp f=>(Y1.mp f).elim (λz=>I.pin p (aP _ z)) λz=>by
  let⟨a,e⟩:=acr z;let⟨k,j,i,_⟩:=h p.1 a;let⟨o,c,d⟩:=g p.1 a;rw[e]at c;cases c;exact#[e,k,j,i,d]
def Inv.unpinned{a:Δ}(I:Inv X (U++a) G H s):↥X:=I.pins_of λp b=>I.pin p (aP _ (US _ b))
abbrev zh(X:Cx)(a:Expr):Prop:=∀z,foldedSetIterable a X.env z=pure z
def FO{iter:Expr}{Y:TI}{g:TG}{tb:TS}(E:PassesOwn (model X.prog X.w) X.A X.env X.xe)(hc:X.calm)(hi:PI X tg iter Y)(hg:PG X tg g)(l:PSs X b5 tb)
 (hs:zh X iter:=by intro _;rfl):PS X (.For tg iter b5 [] O) (Be Y g tb):=by
 intro U s G H D I h;refine wpAny_For (ag (hi U s G H _ I h) λv s1 h1=>ag h1 λpe s2 h2=>?_) hs;let⟨it,fp,Z,J,H2,e,I2,T,g3,f2,a,⟨m0,w0⟩,z⟩:=h2;subst e

 have Q:∀{W:Hp},(∀b∈fp,W b=none)->∀b∈fp,Kc X U W b:=λhn b l=>#[hn b l,(f2 b l).2];refine codeAny_forLoop_any (λn s'=>∃i k W,Inv X U k W s'/\Z i s'.heap/\(∀b∈fp,W b=none)/\a i n k W) ?_ m0 #[0,G,H2,I2,g3,λb l=>(f2 b l).1,w0];rintro n s3 ⟨i,j,K,I3,ki,F,w3⟩;rcases z i n j K w3 with⟨B,qn⟩|⟨go,N,hN,step⟩
 .refine wpAny_passesOwn E (ag (T.done X rfl rfl rfl hc i U s3 j K X.xe I3 (Q F) ki B) λr s4 y=>?_);let⟨R,I4⟩:=y;subst R;exact wpAny_execs_nil #[j,K,I4,qn]
 .refine wpAny_passesOwn E (ag (T.item X rfl rfl rfl hc i U s3 j K X.xe I3 (Q F) ki go) λr s4 y=>?_);let⟨u,R,h4⟩:=y;subst R;refine wpAny_passesOwn E (ag h4 λ_ s5 y=>?_);let⟨x,H5,I5,r5,y5,P,S⟩:=y;have V:=I5.pinned (Q S) (T.obj _ _ P);refine wpAny_passesOwn E (ag (hg _ s5 j H5 x u _ V r5 (step x H5 y5)) λ_ s6 y=>?_);let⟨L,H6,I6,q6⟩:=y;refine wpAny_passesOwn E (ag (l _ s6 L H6 _ I6 q6) λf M t=>?_);have again:∀{c:St}{q:Hp},Inv X (U++Og fp s5.heap) c q M->N c q->∃m,m<n/\∃i k W,Inv X U k W M/\Z i M.heap/\(∀b∈fp,W b=none)/\a i m k W:=λ{c q}p C=>by
   let⟨m',hm,w7⟩:=hN c q C;refine#[m',hm,i+1,c,q,p.unpinned,T.keep _ _ _ P λb l o e=>(p.pin (b,o) (aP _ (aP _ (tV l e)))).1,λb l=>?_,w7];let⟨o,e,d⟩:=T.obj _ _ P b l;exact(p.pin (b,o) (aP _ (aP _ (tV l e)))).2.1
  cases f with
  |next=>let⟨c,q,p,C⟩:=t;exact again p C
  |cont=>let⟨c,q,p,C⟩:=t;exact again p C
  |brk=>let⟨c,q,p,t⟩:=t;exact#[c,q,p.unpinned,t]
  |ret v=>let⟨x7,c,q,p,r7,t⟩:=t;exact#[x7,c,q,p.unpinned,r7,t]
abbrev R2:=V->V->Hp->VK->Prop
def OpR(X:Cx)(f:Value->Value->Sem Value)(r:R2):Prop :=
 ∀(U:Δ)(s:Shared)(G:St)(H:Hp)(x y:V)(v u:Value)(Q:VK),↥X->zZ x v->zZ y u->r x y H Q ->
  ⇑X (f v u) (EP X U G Q) X.xe s
def rf(X:Cx)(f:Value->Sem Value)(r:V->Hp->VK->Prop):Prop :=
 ∀(U:Δ)(s:Shared)(G:St)(H:Hp)(x:V)(v:Value)(Q:VK),↥X->zZ x v->r x H Q ->
  ⇑X (f v) (EP X U G Q) X.xe s
def jx(X:Cx)(f:Value)(r:Ζ->Hp->VK->Prop):Prop :=
 ∀(U:Δ)(s:Shared)(G:St)(H:Hp)(I:Ζ)(a:Θ)(Q:VK),↥X->zN I a->r I H Q ->
  ⇑X (call f a) (EP X U G Q) X.xe s
def PH(X:Cx)(r:V->Hp->(Bool->Hp->Prop)->Prop):Prop :=
 ∀(U:Δ)(s:Shared)(G:St)(H:Hp)(x:V)(v:Value)(Q:Bool->Hp->Prop),↥X->zZ x v->r x H Q ->
  ⇑X (truthy v) (TP X U G Q) X.xe s
def jj(r:R2)(ta a:TE):TE:=λG H Q=>ta G H λx Y=>a G Y λy b=>r x y b Q
def LI(r:V->Hp->VK->Prop)(ta:TE):TE:=λG H Q=>ta G H λx Y=>r x Y Q
def rI(C:Int->Int->Prop)(g:Int->Int->V):R2:=λx y H Q=>∃i j,x=.int i/\y=.int j/\C i j/\Q (g i j) H
def gl(g:Int->Int->V):R2:=λx y H Q=>∃i j,x=.int i/\y=.int j/\Q (g i j) H
def rU(g:Int->V):V->Hp->VK->Prop:=λx H Q=>∃i,x=.int i/\Q (g i) H
variable{b:Expr}{ta tb:TE}{f:Value->Value->Sem Value}{r:R2}{v:Value}{g:Int->Int->Int}
def oP(p:PE X a ta)(o:PE X b tb){R:V->V->Hp->Prop}(I:↥X)
 (h:ta G H λx Y=>tb G Y λy c=>R x y c){Q:Ε}
 (n:∀v u g x y c,Inv X U G c g->zZ x v->zZ y u->R x y c->⇑X (f v u) Q X.xe g) :
  ⇑X (eval a X.env) (λv e=>⇑X (eval b X.env) (λu d=>⇑X (f v u) Q X.xe d) X.xe e) X.xe s:=by
 refine ag (p U s G H _ I h) λv j i=>?_;let⟨x,Y,r,l,m⟩:=i;refine ag (o U j G Y _ r m) λu g i=>?_;let⟨y,c,q,k,q2⟩:=i;exact n v u g x y c q l k q2
def p0(f:OpR X (binaryOp op) r)(i:PE X a ta)(g:PE X b tb):PE X (.BinOp a op b O) (jj r ta tb):=by
 intro U s G H Q I h;exact wpAny_BinOp (oP i g I h λv u c x y k j e d q=>f U c G k x y v u Q j e d q)
def RM{op:UnaryOp}{r:V->Hp->VK->Prop}(e:rf X (unaryOp op) r)(f:PE X a ta):PE X (.UnaryOp op a O) (LI r ta):=by
 intro U s G H Q I h;exact UnaryOp_ (ag (f U s G H _ I h) λv b g=>by let⟨x,Y,i,c,d⟩:=g;exact e U b G Y x v Q i c d)
def adu(c:OpR X (inplaceOp op) r){x y:V}{Q:VK}(I:↥X)
 (b:zZ x v)(a:zZ y u)(q:r x y H Q):⇑X (inplaceOp op v u) (EP X U G Q) X.xe s:=c U s G H x y v u Q I b a q
def jI{C:Int->Int->Prop}
 (rule:∀(i j:Int)(t u:Tok)(s:Shared)(Q:Ε)(E:Ε),C i j->Q (.int (g i j) s.toks) { s with toks:=s.toks+1 }->⇑X (f (.int i t) (.int j u)) Q E s) :
  OpR X f (rI C λi j=>.int (g i j)):=by
 intro U s G H x y v u Q I c b h;let⟨i,j,rfl,rfl,d,q⟩:=h;let⟨t,rfl⟩:=c;let⟨t',rfl⟩:=b;exact rule i j t t' s _ _ d #[.int (g i j),H,I.tok _,#[_,rfl],q]
def C7
 (rule:∀(i j:Int)(t u:Tok)(s:Shared)(Q:Ε)(E:Ε),Q (.int (g i j) s.toks) { s with toks:=s.toks+1 }->⇑X (f (.int i t) (.int j u)) Q E s) :
  OpR X f (gl λi j=>.int (g i j)):=by
 intro U s G H x y v u Q I c b h;let⟨i,j,rfl,rfl,q⟩:=h;let⟨t,rfl⟩:=c;let⟨t',rfl⟩:=b;exact rule i j t t' s _ _ #[.int (g i j),H,I.tok _,#[_,rfl],q]
def lb{g:Int->Int->Bool}
 (rule:∀(i j:Int)(t u:Tok)(s:Shared)(Q:Ε)(E:Ε),Q (.bool (g i j)) s->⇑X (f (.int i t) (.int j u)) Q E s) :
  OpR X f (gl λi j=>.bl (g i j)):=by
 intro U s G H x y v u Q I b a h;let⟨i,j,rfl,rfl,q⟩:=h;let⟨t,rfl⟩:=b;let⟨t',rfl⟩:=a;exact rule i j t t' s _ _ #[.bl (g i j),H,I,rfl,q]
def DC(i j:Int):Prop:=0<=j/\j<=1000000/\i.natAbs<2^64
def aiE(i j:Int):Prop:=(-(2^64)<i/\i<2^64)\/(-(2^64)<j/\j<2^64)
def aiE.ok{i j:Int}(h:aiE i j):IntMulOk i j:=by
 rcases h with⟨b,a⟩|⟨b,a⟩
 .exact .of_left (intBits_le_64 b a)
 .exact .of_right (intBits_le_64 b a)
def ZN:OpR X (binaryOp .Add) (gl λi j=>.int (i+j)):=C7 λ_ _ _ _ _ _ _ q=>add_int q
def WO:OpR X (binaryOp .Sub) (gl λi j=>.int (i-j)):=C7 λ_ _ _ _ _ _ _ q=>sub_int q
def _6:OpR X (binaryOp .Mult) (rI aiE λi j=>.int (i*j)):=jI λ_ _ _ _ _ _ _ a q=>mul_int q a.ok
def _B:OpR X (binaryOp .Mod) (rI (λ_ j=>0<j) λi j=>.int (i%j)):=jI λi j _ _ _ _ _ a q=>by
 have b:(0:Int)<j:=a;exact mod_int' (WS a) (by rwa[Int.fmod_eq_emod_of_nonneg i (XY a)])
def ZO:OpR X (binaryOp .Pow) (rI DC λi j=>.int (i^j.toNat)):=jI λ_ _ _ _ _ _ _ a q=>pow_int_small a.1 a.2.1 a.2.2 q
def LF{f:Value->Sem Value}{g:Int->Int}
 (rule:∀(i:Int)(t:Tok)(s:Shared)(Q:Ε)(E:Ε),Q (.int (g i) s.toks) { s with toks:=s.toks+1 }->⇑X (f (.int i t)) Q E s) :
  rf X f (rU λi=>.int (g i)):=by
 intro U s G H x v Q I b h;let⟨i,rfl,q⟩:=h;let⟨t,rfl⟩:=b;exact rule i t s _ _ #[.int (g i),H,I.tok _,#[_,rfl],q]
def _q:rf X (unaryOp .USub) (rU λi=>.int (-i)):=LF λ_ _ _ _ _ q=>neg_int q
def iC:V->V->Bool
 |.non,.non=>true|.non,.int _=>true|.int _,.non=>true|.non,.bl _=>true|.bl _,.non=>true|.non,.str _=>true|.str _,.non=>true
 |.int _,.int _=>true|.bl _,.bl _=>true|.str _,.str _=>true|.byt _,.byt _=>true
 |.int _,.str _=>true|.str _,.int _=>true|.bl _,.str _=>true|.str _,.bl _=>true
 |_,_=>false
def L5:R2:=λx y H Q=>iC x y=true/\Q (.bl (decide (x=y))) H
def LZ:R2:=λx y H Q=>iC x y=true/\Q (.bl (!decide (x=y))) H
def KL{i j:Int} : decide (V.int i=V.int j)=(i==j):=by
 rw[Bool.eq_iff_iff];simp
def GN{i j:Bool} : decide (V.bl i=V.bl j)=(i==j):=by
 rw[Bool.eq_iff_iff];simp
def JE{i j:Str} : decide (V.str i=V.str j)=(i==j):=by
 rw[Bool.eq_iff_iff];simp
def IT{i j:Array UInt8} : decide (V.byt i=V.byt j)=(i.toList==j.toList):=by
 rw[Bool.eq_iff_iff];cases i;cases j;simp
def dX{Q:VK}{k a:Bool}(I:↥X)(q:Q (.bl k) H)(e:k=a):EP X U G Q (.bool a) s:=by
 subst e;exact#[.bl k,H,I,rfl,q]
def UF:OpR X (compareOp .Eq) L5:=by
 intro U s G H x y v u Q I c a h;let⟨b,q⟩:=h;cases x with
 |non =>
  cases c;cases y with
  |non=>cases a;exact PySem.EqNone.eq_none_none (dX I q vc)
  |bl j=>cases a;exact PySem.EqNone.eq_none_bool (dX I q vc)
  |int j=>let⟨t',rfl⟩:=a;exact PySem.EqNone.eq_none_int (dX I q vc)
  |str j=>let⟨t',rfl⟩:=a;exact PySem.EqNone.eq_none_str (dX I q vc)
  |_=>exact absurd (show false=true from b) bx
 |bl i =>
  cases c;cases y with
  |non=>cases a;exact PySem.EqNone.eq_bool_none (dX I q vc)
  |bl j=>cases a;exact eq_bool (dX I q GN)
  |str j=>let⟨t',rfl⟩:=a;exact PySem.EqMixed.eq_bool_str (dX I q vc)
  |_=>exact absurd (show false=true from b) bx
 |int i =>
  let⟨t,rfl⟩:=c;cases y with
  |non=>cases a;exact PySem.EqNone.eq_int_none (dX I q vc)
  |int j=>let⟨t',rfl⟩:=a;exact eq_int (dX I q KL)
  |str j=>let⟨t',rfl⟩:=a;exact PySem.EqMixed.eq_int_str (dX I q vc)
  |_=>exact absurd (show false=true from b) bx
 |str i =>
  let⟨t,rfl⟩:=c;cases y with
  |non=>cases a;exact PySem.EqNone.eq_str_none (dX I q vc)
  |bl j=>cases a;exact PySem.EqMixed.eq_str_bool (dX I q vc)
  |int j=>let⟨t',rfl⟩:=a;exact PySem.EqMixed.eq_str_int (dX I q vc)
  |str j=>let⟨t',rfl⟩:=a;exact eq_str (dX I q JE)
  |_=>exact absurd (show false=true from b) bx
 |byt i =>
  let⟨t,rfl⟩:=c;cases y with
  |byt j=>let⟨t',rfl⟩:=a;exact PySem.W.eq_bytes (dX I q IT)
  |_=>exact absurd (show false=true from b) bx
 |_=>cases y<;>exact absurd (show false=true from b) bx
def Ps:OpR X (compareOp .NotEq) LZ:=by
 intro U s G H x y v u Q I c a h;let⟨b,q⟩:=h;cases x with
 |non =>
  cases c;cases y with
  |non=>cases a;exact PySem.EqNone.ne_none_none (dX I q vc)
  |bl j=>cases a;exact PySem.EqNone.ne_none_bool (dX I q vc)
  |int j=>let⟨t',rfl⟩:=a;exact PySem.EqNone.ne_none_int (dX I q vc)
  |str j=>let⟨t',rfl⟩:=a;exact PySem.EqNone.ne_none_str (dX I q vc)
  |_=>exact absurd (show false=true from b) bx
 |bl i =>
  cases c;cases y with
  |non=>cases a;exact PySem.EqNone.ne_bool_none (dX I q vc)
  |bl j=>cases a;exact ne_bool (dX I q (ZH not GN))
  |str j=>let⟨t',rfl⟩:=a;exact PySem.EqMixed.ne_bool_str (dX I q vc)
  |_=>exact absurd (show false=true from b) bx
 |int i =>
  let⟨t,rfl⟩:=c;cases y with
  |non=>cases a;exact PySem.EqNone.ne_int_none (dX I q vc)
  |int j=>let⟨t',rfl⟩:=a;exact ne_int (dX I q (ZH not KL))
  |str j=>let⟨t',rfl⟩:=a;exact PySem.EqMixed.ne_int_str (dX I q vc)
  |_=>exact absurd (show false=true from b) bx
 |str i =>
  let⟨t,rfl⟩:=c;cases y with
  |non=>cases a;exact PySem.EqNone.ne_str_none (dX I q vc)
  |bl j=>cases a;exact PySem.EqMixed.ne_str_bool (dX I q vc)
  |int j=>let⟨t',rfl⟩:=a;exact PySem.EqMixed.ne_str_int (dX I q vc)
  |str j=>let⟨t',rfl⟩:=a;exact ne_str (dX I q (ZH not JE))
  |_=>exact absurd (show false=true from b) bx
 |byt i =>
  let⟨t,rfl⟩:=c;cases y with
  |byt j=>let⟨t',rfl⟩:=a;exact PySem.W.ne_bytes (dX I q (ZH not IT))
  |_=>exact absurd (show false=true from b) bx
 |_=>cases y<;>exact absurd (show false=true from b) bx
def Fs:OpR X (compareOp .Lt) (gl λi j=>.bl (decide (i<j))):=lb λ_ _ _ _ _ _ _ q=>lt_int q
def SL:OpR X (compareOp .LtE) (gl λi j=>.bl (decide (i<=j))):=lb λ_ _ _ _ _ _ _ q=>le_int q
def T7:OpR X (compareOp .Gt) (gl λi j=>.bl (decide (j<i))):=lb λ_ _ _ _ _ _ _ q=>gt_int q
def SC:OpR X (compareOp .GtE) (gl λi j=>.bl (decide (j<=i))):=lb λ_ _ _ _ _ _ _ q=>ge_int q
def HU:OpR X (compareOp .Is) (λx y H Q=>y=.non/\Q (.bl (decide (x=.non))) H):=by
 intro U s G H x y v u Q I a b h;let⟨rfl,q⟩:=h;cases b;refine is_none_gen (dX I q ?_);cases x<;>first
  |(cases a;rfl)
  |(let⟨t,rfl⟩:=a;rfl)
def ahO:OpR X (compareOp .IsNot) (λx y H Q=>y=.non/\Q (.bl (!decide (x=.non))) H):=by
 intro U s G H x y v u Q I a b h;let⟨rfl,q⟩:=h;cases b;refine isnot_none_gen (dX I q ?_);cases x<;>first
  |(cases a;rfl)
  |(let⟨t,rfl⟩:=a;rfl)
variable{op:CmpOp}{tc:TE}{us:Θ}{dx x C f:Addr}{mA:Str->Ω}{prog:Program}{name:Str}{pl:Sem Bool}{kw:xL}
def MJ(b:Expr)(h:‹(op≠.In,2)›)(a:‹(op≠.NotIn,2)›):behindInMarks op b=false:=by
 have d:(op==CmpOp.In)=false:=by cases op<;>first|rfl|exact absurd rfl h
 have c:(op==CmpOp.NotIn)=false:=by cases op<;>first|rfl|exact absurd rfl a
 cases b<;>simp[behindInMarks,d,c]
def ai9(f:OpR X (compareOp op) r)(j:PE X a ta)(i:PE X b tb)(g:behindInMarks op b=false):PE X (.Compare a [op] [b] O) (jj r ta tb):=by
 intro U s G H Q I h;exact wpAny_Compare1 (oP j i I h λv u c x y l k e d q=>f U c G l x y v u Q k e d q) g
def EK(t:TE):TT:=λG H Q=>t G H λx W=>∃k,x=.bl k/\Q k W
def Kr(m:OpR X (compareOp op) r)(p:PE X a ta)(o:PE X b tb)(n:behindInMarks op b=false):PT X (.Compare a [op] [b] O) (EK (jj r ta tb)):=by
 intro U s G H Q I h;refine wpAny_isTrue_Compare1 (ag (p U s G H _ I h) λv f #[x,Y,w,j,l]=>ag (o U f G Y _ w l) λu d #[y,B,t,i,q2] =>
  ag (m U d G B x y v u _ t j i q2) λc C #[z,A,q,g,k,e,q3]=>?_) n
 subst e;cases g;exact wpAny_truthy_bool #[A,q,q3]
def YL(r c:R2)(ta tb tc:TE):TE:=λG H Q=>ta G H λx Y=>tb G Y λy e=>r x y e λz a=>∃k,z=.bl k /\
 (if k=true then tc G a λb d=>c y b d Q else Q (.bl false) a)
def aeC{f:CmpOp}{i:R2}(E:OpR X (compareOp op) r)(M:OpR X (compareOp f) i)(K:PE X a ta)(J:PE X b tb)(hc:PE X c tc)
 (F:lastMarks [op,f] [b,c]=false:=by with_unfolding_all rfl):PE X (.Compare a [op,f] [b,c] O) (YL r i ta tb tc):=by
 intro U s G H Q I h;refine Compare_chain (ag (K U s G H _ I h) λv t #[x,Y,R,B,D]=>chain_link (ag (J U t G Y _ R D) λu q #[y,T,P,g,q2] =>
  ag (E U q G T x y v u _ P B g q2) λd p #[z,l,j,A,k,e,q3]=>?_)) F
 subst e;cases A;refine wpAny_truthy_bool ?_;cases k with
 |false=>exact ite_ff #[.bl false,l,j,rfl,q3]
 |true=>exact ite_tt (chain_last (ag (hc U p G l _ j q3) λn o L=>by let⟨m,S,N,w,C⟩:=L;exact M U o G S y m u n Q N g w C))
def af4{f:CmpOp}{i:R2}(K:OpR X (compareOp op) r)(R:OpR X (compareOp f) i)(N:PE X a ta)(M:PE X b tb)(hc:PE X c tc)
 (L:lastMarks [op,f] [b,c]=false:=by with_unfolding_all rfl):PT X (.Compare a [op,f] [b,c] O) (EK (YL r i ta tb tc)):=by
 intro U s G H Q I h;refine isTrue_chain (ag (N U s G H _ I h) λv t #[x,Y,I1,C,F]=>test_link (ag (M U t G Y _ I1 F) λu q #[y,H2,Z,g,q2] =>
  ag (K U q G H2 x y v u _ Z C g q2) λd p #[z,l,j,B,k,e,q3]=>?_)) L
 subst e;cases B;refine wpAny_truthy_bool ?_;cases k with
 |false =>
  let⟨k',T,J⟩:=q3;cases T;exact ite_ff #[l,j,J]
 |true =>
  refine ite_tt (test_last (ag (hc U p G l _ j q3) λn o #[m,H4,W,A,E]=>ag (R U o G H4 y m u n _ W g A E) λd' s5 P=>?_));let⟨z2,H5,V,w,k2,S,D⟩:=P;subst S;cases w;exact wpAny_truthy_bool #[H5,V,D]
def uA(K:Frag)(x:V)(H:Hp)(k:Bool):Prop :=
 match x with
 |.non=>k=false
 |.bl b=>k=b
 |.int i=>k=(i != 0)
 |.str y=>y.length<=sizeLine/\k=((y.length:Int) != 0)
 |.byt y=>y.size<=sizeLine/\k=((y.size:Int) != 0)
 |.ref p=>(∃I,SqL K H p I/\k = !I.isEmpty)\/(∃I,SqT K H p I/\k = !I.isEmpty)\/∃a,H p\(.dK a)/\k = !a.isEmpty
 |_=>False
def aao{b:Type}{a:List (b×V)}{c:List (b×Value)}(r:KV a c):(!c.isEmpty) = !a.isEmpty:=by
 cases r<;>rfl
def Ov{a:Θ}(r:zN I a):(!a.toArray.isEmpty) = !I.isEmpty:=by
 cases r<;>simp
def zc:(sizeLine:Nat)<2^63:=by rw[sizeLine_eq];decide
def _c:PH X (λx H Q=>∃k,uA X.K x H k/\Q k H):=by
 intro U s G H x v Q a f h;let⟨k,e,q⟩:=h;have B:=zc;have A:sizeLine=16777216:=sizeLine_eq;cases x with
 |non =>
  cases f;have c:k=false:=e;subst c;exact truthy_none #[H,a,q]
 |bl b =>
  cases f;have c:k=b:=e;subst c;exact wpAny_truthy_bool #[H,a,q]
 |int i =>
  let⟨t,rfl⟩:=f;have c:k=(i != 0):=e;subst c;exact PySem.P.truthy_int #[H,a,q]
 |str y =>
  let⟨t,rfl⟩:=f;obtain⟨o,c⟩ : y.length<=sizeLine/\k=((y.length:Int) != 0):=e;subst c;exact PySem.P.truthy_str vy #[H,a.tok _,q]
 |byt y =>
  let⟨t,rfl⟩:=f;obtain⟨o,c⟩ : y.size<=sizeLine/\k=((y.size:Int) != 0):=e;subst c;exact PySem.W.truthy_bytes (aL o vw) #[H,a.tok _,q]
 |ref p =>
  cases f;have c:(∃I,SqL X.K H p I/\k = !I.isEmpty)\/(∃I,SqT X.K H p I/\k = !I.isEmpty)\/∃d,H p\(.dK d)/\k = !d.isEmpty:=e;rcases c with⟨I,g,c⟩|⟨I,g,c⟩|⟨d,g,c⟩
  .subst c;let⟨l,r,pl,n⟩:=a.list g;have u:=r.length;exact wpAny_truthy_list pl.isList (by simp only[aX];lia) #[H,a.tok _,by rwa[Ov r]]
  .subst c;let⟨l,r,pl,n⟩:=a.tuple g;have u:=r.length;exact truthy_tuple pl (by simp only[aX];lia) #[H,a.tok _,by rwa[Ov r]]
  .subst c;obtain⟨n,z,j,r,m⟩ : d.length<=sizeLine/\(p==sysModules)=false/\∃j,KV d j/\s.heap.DictOf (gM X.prog X.w) p j:=a.hok p _ g;have u:d.length=j.length:=Paired.length r;exact wpAny_truthy_dict z m vy #[H,a.tok _,by rwa[aao r]]
 |_=>exact(show False from e).elim
def aeW(g:PE X a ta)(f:∀b,isTrue a X.env b=(do let v <- b;standAt a.pos;holding [v] (truthy v))) :
  PT X a (λG H Q=>ta G H λx W=>∃k,uA X.K x W k/\Q k W):=by
 intro U s G H Q I h;exact isTrue_plain (ag (g U s G H _ I h) λv c i=>by let⟨x,Y,j,d,e⟩:=i;exact _c U c G Y x v Q j d e) (f _)
def Zq:OpR X (binaryOp .Add) (λx y H Q=>∃i j,x=.str i/\y=.str j/\i.length+j.length<=sizeLine/\Q (.str (i++j)) H):=by
 intro U s G H x y v u Q I b a h;let⟨i,j,rfl,rfl,c,q⟩:=h;let⟨t,rfl⟩:=b;let⟨t',rfl⟩:=a;exact add_str (λt' d=>#[.str (i++j),H,I.tok _,#[_,rfl],q]) c
def vals1{x:V}(r:zN [x] us):∃u,us=[u]/\zZ x u:=by
 cases r with
 |cons b a=>cases a;exact#[_,rfl,b]
def vals2{x y:V}(r:zN [x,y] us):∃u a,us=[u,a]/\zZ x u/\zZ y a:=by
 cases r with
 |cons e d =>
  cases d with
  |cons c b=>cases b;exact#[_,_,rfl,e,c]
def aek:jx X (.builtin "abs") (λI H Q=>∃i,I=[.int i]/\Q (.int (if i<0 then -i else i)) H):=by
 intro U s G H I us Q a r h;let⟨i,rfl,q⟩:=h;let⟨u,rfl,t,rfl⟩:=vals1 r;exact call_abs_int λu b=>#[.int (if i<0 then -i else i),H,a.tok _,#[_,rfl],q]
def acG(c:X.calm):jx X (.builtin "min") (λI H Q=>∃i j,I=[.int i,.int j]/\Q (.int (if j<i then j else i)) H):=by
 intro U s G H I us Q a r h;let⟨i,j,rfl,q⟩:=h;let⟨u,d,rfl,⟨t,rfl⟩,⟨t',rfl⟩⟩:=vals2 r;refine min_two_ints (a.ok.hd c) λh' e k=>#[_,H,a.kept k,?_,q];by_cases b:j<i
 .rw[ZY b,ZY b];exact#[_,rfl]
 .rw[ZZ b,ZZ b];exact#[_,rfl]
def acS:jx X (.type "int") (λI H Q=>(∃i,I=[.int i]/\Q (.int i) H)\/∃k,I=[.bl k]/\Q (.int (if k then 1 else 0)) H):=by
 intro U s G H I us Q a r h;rcases h with⟨i,rfl,q⟩|⟨k,rfl,q⟩
 .let⟨u,rfl,t,rfl⟩:=vals1 r;exact call_int_int #[.int i,H,a,#[_,rfl],q]
 .let⟨u,rfl,b⟩:=vals1 r;cases b;exact call_int_bool #[.int (if k then 1 else 0),H,a.tok _,#[_,rfl],q]
structure ZL(h:Heap)(x dx C:Addr)(mA:Str->Ω):Prop where
 obj:h.get? x\(instObj C dx)
 ns:h.Ns1 dx mA
 ne:dx≠x
def Ry(n:h.Ns1 dx mA):∃b,h.get? dx\b/\∀name,lookIn name b\(mA name):=by
 let⟨o,Z,k,d,hd,g,_,f⟩:=n;refine#[o,d,λname=>?_];have e:=f name;unfold nsFind findBy at e;rw[<- Array.find?_toList]at e;unfold lookIn;rw[hd];dsimp only;split
 .rename_i y q
  rw[q]at e;exact ZH some e
 .rename_i q
  rw[q]at e;have a:Z.toList.any (·.refKey)=false:=by
   rw[List.any_eq_false];intro y c;let⟨z,t,i⟩:=g y (Array.mem_toList_iff.mp c);simp[DictEntry.refKey,i]
  have j:¬Z.toList.any (·.refKey)=true:=%[a|bx]
  rw[ZZ j];exact ZH some e
def ZL.look(I:ZL h x dx C mA):∃a,PySem.W.InstAt h x (instObj C dx) C (some a)/\∀name,lookIn name a\(mA name) :=
 let⟨a,b,c⟩:=Ry I.ns
 #[a,#[I.obj,rfl,rfl,b],c]
def get_map{b:Bool}{Q:Ε}(X:K.In s.heap)(I:ZL s.heap x dx C mA)(g:plainGet K C name)(f:hasDictIn K C)
 (i:findIn K (.ref C) name\none)(d:mA name\v)(c:handedIn v)(h:Q v { s with toks:=s.toks+1 }) :
  wpAny (model prog w) A (getAttr (.ref x) name b) Q E s:=by
 let⟨j,J,e⟩:=I.look;exact PySem.W.get_value X J (plainGet_of g).1 (findObj_own f i rfl %[e,d|_]) c h
def afP{Q:Value×Θ->Shared->Prop}(X:K.In s.heap)(I:ZL s.heap x dx C mA)(a:plainGet K C name)
 (g:findIn K (.ref C) name\(some (.ref f)))(d:isFn K (.ref f))(c:mA name=none)(h:Q (.ref f,[.ref x]) s) :
  wpAny (model prog w) A (getMethod (.ref x) name pl) Q E s:=by
 let⟨b,J,e⟩:=I.look;exact PySem.W.method_fn X J (plainGet_of a).1 (plainGet_of a).2 g (beq_iff_eq.mp d) (by show(lookIn name b).map (·.isSome)\false;rw[e,c];rfl) h
def ahK{e:Φ}(X:K.In s.heap)(I:ZL s.heap x dx C mA)
 (p:findIn K (.ref C) "__setattr__"\(some (.builtin "object.__setattr__")))(q:plainOver K C)(o:takerIn K C name\none)(t:hasDictIn K C)
 (n:PySem.Within mA e)(d:e.length<=sizeLine)
 (h:∀h',ZL h' x dx C (λy=>if y=name then some v else mA y)->Heap.SameBut dx s.heap h'->Q () { s with heap:=h',toks:=s.toks+2 }) :
  wpAny (model prog w) A (setAttr (.ref x) name v) Q E s:=by
 let⟨F,J,H⟩:=I.look;refine set_plain X J p (PySem.W.osa_open (s:={ s with toks:=s.toks+1 }) (r:=none) X J q o λb=>?_);let⟨L,u,D⟩:=PySem.W.any_some t;have m:s.heap.get? x\#[.ref C,some dx,.plain,↥[]]:=I.obj;refine ZU (ZT (ZU (ZU (wpAny_loadPart m (ZU (PySem.W.Looks.here (s:={ s with toks:=s.toks+1 }) (looks_clsIn X u) ?_))))));rw[D];refine ZT (a:=some dx) (ZU (ZT (ZU ?_)));refine wpAny_nsSet1 (s:={ s with toks:=s.toks+1 }) I.ns λh' f i=>?_;let⟨G,z,B,k,j,l⟩:=f.count (PySem.Within.cons name v n);refine ZU (wpAny_lookBehind k %[j|pastItsLine_dict (aL l %[length_cons|succ_le_succ d])] ?_);exact ZT (h _ #[(i.2 _ (Ne.symm I.ne)).trans I.obj,f,I.ne] i)
def aeu{R:Result->Shared->Prop}{b:Θ}(X:K.In s.heap)(e:makesIn K C)
 (i:findIn K (.ref C) "__init__"\(some (.ref f)))(j:typeIn K (.ref f)\(.type "function"))
 (h:codeAny (model prog w) (A.under (.builtin "type.__call__" #[.ref C::b,kw])) (.call (.ref f) #[.ref (s.zs+1)::b,kw]) (PySem.W.InitBack (s.zs+1) R)
   { s with heap:=(s.heap.push emptyDict).push (instObj C s.zs) }) :
  codeAny (model prog w) A (.call (.ref C) #[b,kw]) R s:=by
 let⟨k,g,d,t,os⟩:=s;exact PySem.W.make_core (PySem.W.makes_of X e) (looks_findIn X i) (λa=>PySem.W.bind_fn X a j) (.inl rfl) h
def yQ(f:Str)(v:V):xE->xE
 |[]=>[(f,v)]
 |(g,x)::r=>if g=f then(g,v)::r else(g,x)::yQ f v r
theorem Jw(f g:Str)(v:V):∀c:xE,(yQ f v c).lookup g=if g=f then some v else c.lookup g
 |[]=>by
  show List.lookup g [(f,v)]=_;by_cases h:g=f
  .have a:(g==f):=beq_iff_eq.mpr h;simp only[List.lookup,a,ZY h]
  .have a:(g==f)=false:=beq_eq_false_iff_ne.mpr h;simp only[List.lookup,a,ZZ h]
 |(k,x)::r=>by
  have d:=Jw f g v r;rw[show yQ f v ((k,x)::r)=(if k=f then(k,v)::r else(k,x)::yQ f v r)from rfl];by_cases b:k=f
  .rw[ZY b];by_cases h:g=k
   .have a:(g==k):=beq_iff_eq.mpr h;simp only[List.lookup,a,ZY (h.trans b)]
   .have a:(g==k)=false:=beq_eq_false_iff_ne.mpr h;simp only[List.lookup,a,ZZ (λe:g=f=>h (e.trans b.symm))]
  .rw[ZZ b];by_cases h:g=k
   .have a:(g==k):=beq_iff_eq.mpr h;simp only[List.lookup,a,ZZ (λe:g=f=>b (h.symm.trans e))]
   .have a:(g==k)=false:=beq_eq_false_iff_ne.mpr h;simp only[List.lookup,a];exact d
theorem Jc(f:Str)(v:V):∀b:xE,f∈(yQ f v b).map (·.1)/\∀g,g∈b.map (·.1)->g∈(yQ f v b).map (·.1)
 |[]=>#[by simp[yQ],λg h=>by simp at h]
 |(k,x)::r=>by
  let⟨d,c⟩:=Jc f v r;rw[show yQ f v ((k,x)::r)=(if k=f then(k,v)::r else(k,x)::yQ f v r)from rfl];by_cases a:k=f
  .rw[ZY a];subst a;exact#[by simp,λg h=>↑h]
  .rw[ZZ a];refine#[?_,λg h=>?_]
   .rw[map_cons];exact aJ _ d
   .rw[map_cons]at h ⊢;rcases YU.mp h with e|e
    .exact YU.mpr (.inl e)
    .exact aJ _ (c g e)
theorem Jq(f:Str)(v:V):∀b:xE,(yQ f v b).length<=b.length+1
 |[]=>by simp[yQ]
 |(k,x)::r=>by
  have c:=Jq f v r;rw[show yQ f v ((k,x)::r)=(if k=f then(k,v)::r else(k,x)::yQ f v r)from rfl];by_cases a:k=f
  .rw[ZY a,length_cons,length_cons];exact Xs _
  .rw[ZZ a,length_cons,length_cons];exact succ_le_succ c
variable{v:V}{a:Addr}{fs:xE}{f m:Str}{b:Bool}
def zy.some_of{o:Ω}(r:zy (some v) o):∃u,o\u/\zZ v u:=by
 cases o with
 |none=>exact(show False from r).elim
 |some u=>exact#[u,rfl,r]
def zy.none_of{o:Ω}(r:zy none o):o=none:=by
 cases o with
 |none=>rfl
 |some u=>exact(show False from r).elim
def Ri(r:zZ v u):handedIn u:=by
 cases v with
 |non=>cases(show u=Value.none from r);rfl
 |bl b=>cases(show u=Value.bool b from r);rfl
 |int i=>let⟨t,e⟩:=(show ∃t,u=Value.int i t from r);cases e;rfl
 |str x=>let⟨t,e⟩:=(show ∃t,u=Value.str x t from r);cases e;rfl
 |byt b=>let⟨t,e⟩:=(show ∃t,u=Value.bytes b t from r);cases e;rfl
 |flt b=>let⟨t,e⟩:=(show ∃t,u=Value.float b t from r);cases e;rfl
 |ref a=>cases(show u=Value.ref a from r);rfl
 |ty n=>cases(show u=Value.type n from r);rfl
def K7(b:HOk P w H h)(e:H a\(.ins C dx fs)):∃mA,ZL h a dx C mA/\(∀f,zy (fs.lookup f) (mA f))/\PySem.Within mA (fs.map (·.1))/\fs.length<=1000/\H dx=some (.own a):=by
 let⟨d,z,g,c,mA,n,r,q⟩:=(show fJ P w H h a (.ins C dx fs)from b a _ e);exact#[mA,#[c,n,g],r,q,z,d]
structure Cls(K:Frag)(C:Addr):Prop where
 pg:plainGet K C Str.empty
 hd:hasDictIn K C
 po:plainOver K C
 sa:findIn K (.ref C) "__setattr__"\(some (.builtin "object.__setattr__"))
def Cls.get{K:Frag}{C:Addr}(c:Cls K C)(f:Str):plainGet K C f:=c.pg
def cA(K:Frag)(C:Addr)(f:Str):Prop:=findIn K (.ref C) f=some none
def cA.taker(n:cA K C f):takerIn K C f\none:=by
 unfold takerIn;rw[show findIn K (.ref C) f\none from n]
 rfl
structure Meth(K:Frag)(C:Addr)(m:Str)(f:Addr):Prop where
 at_:findIn K (.ref C) m\(some (.ref f))
 fn:isFn K (.ref f)
 kp:keepIn K (.ref f)
def YX{Q:Ε}(I:↥X)(e:H a\(.ins C dx fs))(c:Cls X.K C)(n:cA X.K C f)(l:fs.lookup f\v)
 (h:∀u s',Inv X U G H s'->zZ v u->Q u s'):wpAny (model X.prog X.w) A (getAttr (.ref a) f b) Q E s:=by
 let⟨mA,O,r,_,_,_⟩:=K7 I.hok e;let⟨u,g,d⟩:=zy.some_of (v:=v) (o:=mA f) %[<- l|r f];exact get_map I.kIn O (c.get f) c.hd n g (Ri d) (h u _ (I.tok _) d)
def D_{g:Addr}{Q:Value×Θ->Shared->Prop}(I:↥X)(e:H a\(.ins C dx fs))(c:Cls X.K C)(k:Meth X.K C m g)(l:fs.lookup m=none)
 (h:Q (.ref g,[.ref a]) s):wpAny (model X.prog X.w) A (getMethod (.ref a) m pl) Q E s:=by
 let⟨mA,O,r,_,_,_⟩:=K7 I.hok e;have b:mA m=none:=zy.none_of %[<- l|r m];exact afP I.kIn O (c.get m) k.at_ k.fn b h
def Y9{y:V}(I:↥X)(e:H a\(.ins C dx fs))(c:Cls X.K C)(n:cA X.K C f)(p:fs.length<1000)(l:zZ y u)
 (h:∀s',Inv X U G (upd H a (.ins C dx (yQ f y fs))) s'->Q () s'):wpAny (model X.prog X.w) A (setAttr (.ref a) f u) Q E s:=by
 let⟨mA,O,r,i,_,j⟩:=K7 I.hok e;have m:(fs.map (·.1)).length<=sizeLine:=%[ak,sizeLine_eq|aL (Y2 p) vw]
 refine ahK I.kIn O c.sa c.po n.taker c.hd i m λh' d k=>h _ ?_;have hd:∃o,h'.get? dx\o:=by let⟨o,_,_,B,_⟩:=d.ns;exact#[o,B]
 refine I.write (x:=a) (e:=dx) %[e|True.intro] (.inr j) (λb q v z=>(k.2 b v).trans z) hd ?_;refine#[%[b_ O.ne|j],?_,O.ne,d.obj,_,d.ns,λg=>?_,λg t=>?_]
 .have:=Jq f y fs;lia
 .show zy ((yQ f y fs).lookup g) (if g=f then some u else mA g);rw[Jw];by_cases q:g=f
  .rw[ZY q,ZY q];exact l
  .rw[ZZ q,ZZ q];exact r g
 .by_cases q:g=f
  .rw[q];exact(Jc f y fs).1
  .refine(Jc f y fs).2 g (i g λz=>t ?_);show(if g=f then some u else mA g)=none;rw[ZZ q];exact z
def Inv.made(I:↥X):Inv X U G (upd (upd H s.zs (.own (s.zs+1))) (s.zs+1) (.ins C s.zs []))
  { s with heap:=(s.heap.push emptyDict).push (instObj C s.zs) }:=by
 have f:(s.heap.push emptyDict).get? s.zs\emptyDict:=aW s.heap rfl;have j:((s.heap.push emptyDict).push (instObj C s.zs)).get? (s.zs+1)\(instObj C s.zs):=by
  have:=aW (s.heap.push emptyDict) (o:=instObj C s.zs) rfl;rwa[Heap.size_push]at this
 have i:(s.heap.push emptyDict).Ns s.zs (λ_=>none):=#[emptyDict,↥[],_,f,rfl,(λe h=>absurd h vc),λ_=>rfl];have k:=I.laid (a:=s.zs) (o:=.own (s.zs+1)) (h':=s.heap.push emptyDict) (t':=s.toks) (λb u q=>aH _ q) (aG _) #[_,f];refine k.laid (a:=s.zs+1) (o:=.ins C s.zs []) (t':=s.toks) (λb u q=>aH _ q) (WG (Heap.size_push _ _)) ?_;have c:s.zs≠s.zs+1:=aQ (X0 _);refine#[%[b_ c,cu|_],aZ _,c,j,λ_=>none,(Heap.Ns1.of_empty i).at λo q=>aH _ q,λ_=>True.intro,λy g=>absurd rfl g]
variable{Q:Ε}{o ay:Expr}{tv:TE}{c:Value}{t:TA}
def KT{env:Env}(b:attributeBase e f env (eval e env)=eval e env)
 (h:wpAny (model prog w) A (eval e env) (λo a=>wpAny (model prog w) A (getAttr o f true) Q E a) E s):wpAny (model prog w) A (eval (.Attribute e f O) env) Q E s :=
 Attribute_any_ h %[arm_eval_Attribute,b|_]
def MH(K:Frag)(ta:TE)(f:Str):TE:=λG H Q=>ta G H λx Y=>∃a C dx fs v,x=.ref a/\Y a=some (.ins C dx fs)/\Cls K C/\cA K C f/\fs.lookup f=some v/\Q v Y
def OG(K:Frag)(ta tv:TE)(f:Str):TS:=λD G H=>tv G H λy Y=>ta G Y λx b=>∃a C dx fs,x=.ref a/\b a=some (.ins C dx fs)/\Cls K C/\cA K C f/\fs.length<1000 /\
 D.nx G (upd b a (.ins C dx (yQ f y fs)))
abbrev zt(X:Cx)(a:Expr)(b:Str):Prop:=attributeBase a b X.env (eval a X.env)=eval a X.env
def F3(g:PE X e ta)(i:zt X e f):PE X (.Attribute e f O) (MH X.K ta f):=by
 intro U s G H Q I h;refine KT i (ag (g U s G H _ I h) λu r h=>?_);let⟨x,Y,m,b,a,C,dx,fs,v,rfl,j,c,n,l,q⟩:=h;obtain rfl:u=Value.ref a:=b;exact YX m j c n l λo p k d=>#[v,Y,k,d,q]
def _r(k:PE X o ta)(i:PE X ay tv)(j:swapsWith ay (some (.Attribute o f a9)) O.line X.env=pure false):PS X (.Assign [.Attribute o f a9] ay O) (OG X.K ta tv f):=by
 intro U s G H D I h;refine plainObj_wpAny_Assign_Attribute (ag (i U s G H _ I h) λu b #[y,Y,t,d,q]=>ag (k U b G Y _ t q) λg w h=>?_) j;let⟨x,z,r,e,a,C,dx,fs,rfl,m,c,n,l,q2⟩:=h;obtain rfl:g=Value.ref a:=e;exact Y9 r m c n l d λv p=>#[G,_,p,q2]
inductive HY(K:Frag)(H:Hp):V->Value->Prop where
 |non:HY K H .non (.type "NoneType")
 |bl (x:Bool):HY K H (.bl x) (.type "bool")
 |int (i:Int):HY K H (.int i) (.type "int")
 |str (x:Str):HY K H (.str x) (.type "str")
 |flt (x:UInt64):HY K H (.flt x) (.type "float")
 |lst {a:Addr}{I:Ζ} (e:H a\(.lst I)):HY K H (.ref a) (.type "list")
 |frz {a:Addr}{o:Obj}{I:Ζ} (e:H a\(.frz o (.lst I))):HY K H (.ref a) (.type "list")
 |tup {a:Addr}{I:Ζ} (e:H a\(.tup I)):HY K H (.ref a) (.type "tuple")
 |dK {a:Addr}{kvs:wx} (e:H a\(.dK kvs)):HY K H (.ref a) (.type "dict")
 |ins {a C dx:Addr}{fs:xE} (e:H a\(.ins C dx fs)) (cl:Cls K C) (ha:findIn K (.ref C) "__class__"\(some (.builtin "object.__class__")))
   (hn:specialIn K (.builtin "object.__class__") "__get__"\(some (.builtin "getset_descriptor.__get__"))) (htk:PySem.W.takesIn K (.builtin "object.__class__")\true)
   (hm:mroIn K C (.type "object")\true):HY K H (.ref a) (.ref C)
def acd{x:V}{t:Value}(d:↥X)(f:zZ x u)(B:HY X.K H x t)(e:kitOne X.K t c\b)(h:∀D,Q (.bool b) { s with toks:=D }) :
  wpAny (model X.prog X.w) A (call (.builtin "isinstance") [u,c]) Q E s:=by
 cases B with
 |non=>cases(show u=Value.none from f);exact kia_one PySem.W.kitx_none d.kIn True.intro e (λz=>nomatch z) h
 |bl y=>cases(show u=Value.bool y from f);exact kia_one PySem.W.kitx_bool d.kIn True.intro e (λz=>nomatch z) h
 |int i=>let⟨t,q⟩:=(show ∃t,u=Value.int i t from f);cases q;exact kia_one PySem.W.kitx_int d.kIn True.intro e (λz=>nomatch z) h
 |str y=>let⟨t,q⟩:=(show ∃t,u=Value.str y t from f);cases q;exact kia_one PySem.W.kitx_str d.kIn True.intro e (λz=>nomatch z) h
 |flt y=>let⟨t,q⟩:=(show ∃t,u=Value.float y t from f);cases q;exact kia_one PySem.W.kitx_float d.kIn True.intro e (λz=>nomatch z) h
 |@lst a I g =>
  cases(show u=Value.ref a from f);let⟨_,_,n,_,j⟩:=(show fJ X.prog X.w H s.heap a (.lst I)from d.hok a _ g);exact kia_one kitx_list d.kIn #[_,j,rfl] e (λz=>nomatch z) h
 |@frz a F I g =>
  cases(show u=Value.ref a from f);let⟨_,_,_,n,_,j⟩:=(show fJ X.prog X.w H s.heap a (.frz F (.lst I))from d.hok a _ g);exact kia_one kitx_list d.kIn #[_,j,rfl] e (λz=>nomatch z) h
 |@tup a I g =>
  cases(show u=Value.ref a from f);let⟨_,_,_,p⟩:=(show fJ X.prog X.w H s.heap a (.tup I)from d.hok a _ g);let⟨o,j,m,_⟩:=p;exact kia_one kitx_tuple d.kIn #[o,j,m] e (λz=>nomatch z) h
 |@dK a k g =>
  cases(show u=Value.ref a from f);let⟨_,_,P,_,p⟩:=(show fJ X.prog X.w H s.heap a (.dK k)from d.hok a _ g);let⟨o,Z,S,j,m,_⟩:=p;exact kia_one PySem.W.kitx_dict d.kIn #[o,j,m.1] e (λz=>nomatch z) h
 |@ins a C dx fs g v N L l M =>
  cases(show u=Value.ref a from f);let⟨mA,O,_⟩:=K7 d.hok g;let⟨R,J,_⟩:=O.look;exact kia_one (PySem.W.kitx_own (v.get _) v.hd N L l M) d.kIn J e (λz=>nomatch z) h
structure dZ(k:Nat)(A:Around):Prop where
 hd:A.handled=none
 dp:A.depth+3*k+5<recursionLimit
 un:A.units+16*k+200<cLine
def dZ.mono{j:Nat}(r:dZ k A)(h:j<=k):dZ j A:=#[r.hd,by have:=r.dp;lia,by have:=r.un;lia]
def dZ.md{n:Nat}(h:dZ n A)(e:‹(k<=n,2)›):dZ k A:=h.mono e
def dZ.deeper{k:Nat}{A:Around}(r:dZ (k+1) A)(env:Env):dZ k (A.deeper env) :=
 #[r.hd,by have:=r.dp;show A.depth+1+3*k+5<_;lia,by have:=r.un;show A.units+3+16*k+200<_;lia]
def YZ : (A.under (.builtin "type.__call__" #[.ref C::us,kw])).depth=A.depth+1:=by
 first|rfl|simp[Around.under,Code.weight,Code.isCreation,Code.isGuard,Code.isCaller,Code.frames,Code.isFrame,guardIds]
def aak : (A.under (.builtin "type.__call__" #[.ref C::us,kw])).units=A.units+1:=by
 first|rfl|simp[Around.under,Code.cUnits,Code.frames,Code.isFrame]
def dZ.make(r:dZ (k+1) A)(C:Addr)(us:Θ)(kw:xL):dZ k (A.under (.builtin "type.__call__" #[.ref C::us,kw])) :=
 #[r.hd,by have:=r.dp;rw[YZ];lia,by have:=r.un;rw[aak];lia]
def dZ.depth{k:Nat}{A:Around}(r:dZ k A):A.depth<recursionLimit:=by have:=r.dp;lia
def dZ.units{k:Nat}{A:Around}(r:dZ k A):A.units+64<cLine:=by have:=r.un;lia
def iN:TA:=λ_ H Q=>Q [] H
def Di(ta:TE)(tr:TA):TA:=λG H Q=>ta G H λx Y=>tr G Y λI a=>Q (x::I) a
def iM:PA X [] iN:=λ_ _ _ _ H Q I h=>Calls.spliced_nil #[[],H,I,.nil,h]
abbrev zw(X:Cx)(a:Expr)(b:xw):Prop:=starEach (a::b) X.env=(false,eval a X.env)::starEach b X.env
def cD(k:PE X e te)(j:PA X Z t)(i:‹zw X e Z›):PA X (e::Z) (Di te t):=by
 intro O U s G H Q a h;rw[i];show wpAny _ _ (spliced ((false,eval e X.env)::backTo O (starEach Z X.env))) _ _ s;refine Calls.spliced_cons (ag (k U s G H _ a h) λu c b=>?_);let⟨x,Y,m,f,g⟩:=b;exact ag (j O U c G Y _ m g) λus o b=>by let⟨I,n,l,d,q2⟩:=b;exact#[x::I,n,l,.cons f d,q2]
def DA(t:TA):TE:=λG H Q=>t G H λI Y=>I.length<=sizeLine/\∀p,Y p=none->Q (.ref p) (upd Y p (.tup I))
def Pc(t:TA):TE:=λG H Q=>t G H λI Y=>I.length<=sizeLine/\∀p,Y p=none->Q (.ref p) (upd Y p (.lst I))
def HK{f}(h:PA X Z t):PE X (.Tuple Z f O) (DA t):=by
 intro U s G H Q a g;refine wpAny_Tuple_spliced (ag (h O U s G H _ a g) λus c #[I,Y,d,r,z,q]=>#[%[<- r.length|z],?_]);have i:Y c.zs=none:=d.hok.fresh (aG _);refine#[.ref c.zs,upd Y c.zs (.tup I),d.laid (t':=c.toks) (λb u e=>aH _ e) (aG _) ?_,rfl,q _ i];exact#[z,us,r,#[_,aW _ rfl,rfl,_,rfl]]
def FM(h:PA X Z t):PE X (.List Z O) (Pc t):=by
 intro U s G H Q a f;refine wpAny_List_spliced (ag (h O U s G H _ a f) λus c #[I,Y,d,r,z,q]=>#[%[<- r.length|z],?_]);have g:Y c.zs=none:=d.hok.fresh (aG _);refine#[.ref c.zs,upd Y c.zs (.lst I),d.laid (t':=c.toks) (λb u e=>aH _ e) (aG _) ?_,rfl,q _ g];exact#[z,us,0,r,aW _ rfl]
abbrev Sp:=Ζ->Hp->VK->XK->Prop
abbrev fv:=xC->Hp->Shared->XK->Value->Shared->Prop
structure Yy(P:Program)(w:World)(K:Frag)(mg:Str->Ω)(base:Heap)(A:Around)(outer:xC)(s:Shared)(H:Hp):Prop where
 frames:A.frames\outer
 mod:Mod K mg base
 bs:∀b o,base.get? b\o->s.heap.get? b\o/\H b=none
 bsz:base.objs.size<=s.zs
 funs:s.heap.FunFrames base outer
 frf:∀b∈cX outer,H b=none
 hok:HOk P w H s.heap
 bare:AllBare s.gens
def CE(a:xC)(P:Program)(w:World)(H:Hp)(s:Shared)(Q:VK)(u:Value)(s':Shared):Prop :=
 ∃v W,s'.os=s.os/\AllBare s'.gens/\Un (cX a) [] H W s.heap s'.heap/\HOk P w W s'.heap/\zZ v u/\Q v W
def CR(b:fv)(a:xC)(P:Program)(w:World)(H:Hp)(s:Shared)(Q:VK)(E:XK)(r:Result)(s':Shared):Prop :=
 match r with
 |.ok (.ret u)=>CE a P w H s Q u s'
 |.ok _=>False
 |.error e=>b a H s E e s'
structure fK(P:Program)(w:World)(K:Frag)(mg:Str->Ω)(base:Heap)(CX:fv)(k:Nat)(f:Addr)(fd:FuncData)(ps:Φ)(sp:Sp):Prop where
 len:∀vs H Q E,sp vs H Q E->vs.length=ps.length
 run:∀(A:Around)(outer:xC)(s:Shared)(H:Hp)(args:Args)(us:Θ)(vs:Ζ)(Q:VK)(E:XK),dZ k A->Yy P w K mg base A outer s H->BindsTo s fd args (ps.zip us)->zN vs us->sp vs H Q E ->
  codeAny (model P w) A (.call (.ref f) args) (CR CX outer P w H s Q E) s
variable{f:Addr}{mg:Str->Ω}{base:Heap}{CX:fv}{fd:FuncData}{ps:Φ}{sp:Sp}{Q:VK}{E:XK}{vs db:Ζ}{ds:Θ}{x:Str}{ah:Pos}{J:Scope}
def fK.imp{b:Sp}(F:fK P w K mg base CX k f fd ps sp)
 (h:∀vs H Q E,b vs H Q E->sp vs H Q E):fK P w K mg base CX k f fd ps b :=
 #[λvs H Q E q=>F.len vs H Q E (h _ _ _ _ q),λA a s H c us vs Q E g i j d e=>F.run A a s H c us vs Q E g i j d (h _ _ _ _ e)]
def Yy.make{a:xC}(e:Yy P w K mg base A a s H)(C:Addr)(us:Θ)(kw:xL) :
  Yy P w K mg base (A.under (.builtin "type.__call__" #[.ref C::us,kw])) a s H:=#[by first|exact e.frames|(simpa[Around.under,Code.envs,Code.isFrame,pushEnvs]using e.frames),e.mod,e.bs,e.bsz,e.funs,e.frf,e.hok,e.bare]
def Inv.env0(I:↥X):Yy X.prog X.w X.K X.mg X.base X.A X.stack s H :=
 #[I.ok.frames,I.ok.mod,I.bs,aL I.ok.bsz I.sz,I.stack,I.stkFree,I.hok,I.bare]
def Inv.after(I:↥X)(h:CE X.stack X.prog X.w H s Q u s'):EP X U G Q u s':=by
 let⟨v,W,os,bare,un,hok,r,q⟩:=h;let⟨c,g,d,t,a⟩:=s';obtain rfl:a=s.os:=os;exact#[v,W,I.call (h':=c) (g':=g) (d':=d) (t':=t) (ch:=[]) un hok bare (λb z=>absurd z vc),r,q]
def UC(sp:Sp)(db:Ζ)(E:XK)(t:TA):TE:=λG H Q=>t G H λvs Y=>sp (vs++db) Y Q E
def E1(C:Addr)(m:Str)(sp:Sp)(db:Ζ)(E:XK)(ta:TE)(t:TA):TE:=λG H Q=>ta G H λx Y=>∃a dx fs,x=.ref a/\Y a=some (.ins C dx fs)/\fs.lookup m=none /\
 t G Y λvs b=>sp (x::(vs++db)) b Q E
def SS(C:Addr)(sp:Sp)(db:Ζ)(E:XK)(t:TA):TE:=λG H Q=>t G H λvs Y=>∀x dx,Y x=none->Y dx=none->dx≠x ->
 sp (.ref x::(vs++db)) (upd (upd Y dx (.own x)) x (.ins C dx [])) (λv a=>v=.non/\Q (.ref x) a) E
def Binds(K:Frag)(fd:FuncData)(ps:Φ)(ds:Θ):Prop :=
 ∀(s:Shared)(us:Θ),K.In s.heap->(us++ds).length=ps.length->BindsTo s fd #[us,[]] (ps.zip (us++ds))
def Binds.all(h:∀us:Θ,us.length=ps.length->bindArgs fd #[us,[]]=pure (ps.zip us)):Binds K fd ps []:=λs us _ a=>by
 rw[append_nil]at a ⊢;exact .of_eq (h us a)
def Passes(CX:fv)(X:Cx)(E:XK):Prop:=∀(U:Δ)(G:St)(H:Hp)(s:Shared)(e:Value)(s':Shared),↥X->CX X.stack H s E e s'->X.xe e s'
def Lf(F:fK X.prog X.w X.K X.mg X.base CX k f fd ps sp)(d:dZ k X.A)(i:Binds X.K fd ps ds)(hd:zN db ds)(c:Passes CX X E)
 (I:↥X)(r:zN vs us)(h:sp (vs++db) H Q E):⇑X (call (.ref f) us) (EP X U G Q) X.xe s:=by
 have b:zN (vs++db) (us++ds):=r.append hd;have g:(us++ds).length=ps.length:=%[<- b.length|F.len _ _ _ _ h]
 refine wpAny_call (codeAny_mono (F.run X.A X.stack s H #[us,[]] (us++ds) (vs++db) Q E d I.env0 (i s us I.kIn g) b h) λr s' a=>?_);cases r with
 |error e=>exact c U G H s e s' I a
 |ok j =>
  cases j with
  |ret u=>exact I.after a
  |next=>exact False.elim a
  |brk=>exact False.elim a
  |cont=>exact False.elim a
abbrev zb(X:Cx)(a:Pos)(b:xw):Prop:=(backTo a (starEach b X.env)).any (·.1)=false
def _9(F:fK X.prog X.w X.K X.mg X.base CX k f fd ps sp)(c:dZ k X.A)(i:Gl X x)(d:X.mg x\(.ref f))(g:keepIn X.K (.ref f))(l:Binds X.K fd ps ds)(hd:zN db ds)(b:Passes CX X E)
 (m:PA X (e::Z) t)(n:‹(zz x,2)›)(j:‹zw X e Z›)(o:‹zb X O Z›) :
  PE X (.Call (.Name x p) (e::Z) [] O) (UC sp db E t):=by
 intro U s G H Q I h;refine wpAny_Call_Name_kw (uE I i d ?_ n);refine callWith_K (h₀:=X.base) I.ok.mod.kin g (ag (m O U s G H _ I h) λus u #[vs,Y,a,r,q]=>#[a.kIn,?_]) j o;exact Lf F c l hd b a r q
def ai4(z:PE X o ta)(c:Cls X.K C)(d:Meth X.K C m f)(F:fK X.prog X.w X.K X.mg X.base CX k f fd ps sp)(y:dZ k X.A)(B:Binds X.K fd ps ds)(hd:zN db ds)(p:Passes CX X E)(D:PA X (e::Z) t)
 (N:‹zw X e Z›)(P:‹zb X O Z›)
 (v:eval (.Call (.Attribute o m ah) (e::Z) [] O) X.env=(do
   let b <- eval o X.env
   standAt ah.atName
   let(f,first) <- holding [b] (getMethod b m pl)
   callWith O f first (backTo O (starEach (e::Z) X.env)) (backToKw O (keywordEach [] X.env))):=by rfl) :
  PE X (.Call (.Attribute o m ah) (e::Z) [] O) (E1 C m sp db E ta t):=by
 intro U s G H Q I h;refine methodCall_KW (pl:=pl) (ag (z U s G H _ I h) λu j J=>?_) v;let⟨x,Y,i,n,a,dx,fs,L,M,l,q⟩:=J;subst L;obtain rfl:u=Value.ref a:=n;refine D_ i M c d l ?_;refine callWith_K (first:=[.ref a]) (h₀:=X.base) I.ok.mod.kin d.kp (ag (D O U j G Y _ i q) λus R #[vs,S,g,r,q2]=>#[g.kIn,?_]) N P;exact Lf (us:=.ref a::us) (vs:=.ref a::vs) F y B hd p g (.cons rfl r) q2
def aeG(p:PE X o ta)(c:Cls X.K C)(e:Meth X.K C m f)(F:fK X.prog X.w X.K X.mg X.base CX k f fd ps sp)(n:dZ k X.A)(r:Binds X.K fd ps ds)(hd:zN db ds)(i:Passes CX X E)
 (j:eval (.Call (.Attribute o m ah) [] [] O) X.env=(do
   let d <- eval o X.env
   standAt ah.atName
   let(f,first) <- holding [d] (getMethod d m pl)
   callWith O f first (backTo O (starEach [] X.env)) (backToKw O (keywordEach [] X.env))):=by rfl) :
  PE X (.Call (.Attribute o m ah) [] [] O) (E1 C m sp db E ta iN):=by
 intro U s G H Q I h;refine methodCall_KW (pl:=pl) (ag (p U s G H _ I h) λu z t=>?_) j;let⟨x,Y,b,g,a,dx,fs,v,y,l,q⟩:=t;subst v;obtain rfl:u=Value.ref a:=g;refine D_ b y c e l ?_;exact PySem.W.callWith_K0 (first:=[.ref a]) b.kIn e.kp (Lf (us:=[.ref a]) (vs:=[.ref a]) F n r hd i b (.cons rfl .nil) q)
structure Mk(K:Frag)(C f:Addr):Prop where
 makes:makesIn K C
 init:findIn K (.ref C) "__init__"\(some (.ref f))
 fn:isFn K (.ref f)
 kp:keepIn K (.ref C)
def afZ(M:Mk X.K C f)(F:fK X.prog X.w X.K X.mg X.base CX k f fd ps sp)(j:dZ (k+1) X.A)(m:Binds X.K fd ps ds)(hd:zN db ds)
 (i:Passes CX X E)(I:↥X)(r:zN vs us)
 (h:∀x dx,H x=none->H dx=none->dx≠x->sp (.ref x::(vs++db)) (upd (upd H dx (.own x)) x (.ins C dx [])) (λv q=>v=.non/\Q (.ref x) q) E) :
  ⇑X (call (.ref C) us) (EP X U G Q) X.xe s:=by
 have d:=h (s.zs+1) s.zs (I.hok.fresh (Xs _)) (I.hok.fresh (aG _)) (aQ (X0 _));have b:=Inv.made (C:=C) I;have c:zN (V.ref (s.zs+1)::(vs++db)) (Value.ref (s.zs+1)::(us++ds)):=.cons rfl (r.append hd);have l:(Value.ref (s.zs+1)::us++ds).length=ps.length:=by
  have e:=c.length;rw[F.len _ _ _ _ d]at e;exact e.symm
 refine wpAny_call (aeu (f:=f) I.kIn M.makes M.init (beq_iff_eq.mp M.fn) (codeAny_mono (F.run _ X.stack _ _ #[Value.ref (s.zs+1)::us,[]] (Value.ref (s.zs+1)::(us++ds)) _ _ E (j.make C us [])
  (b.env0.make C us []) (m _ (Value.ref (s.zs+1)::us) b.kIn l) c d) λr s' a=>?_))
 cases r with
 |error e=>exact i U G _ _ e s' b a
 |ok n =>
  cases n with
  |ret u =>
   let⟨v,W,p,g,o,q3⟩:=b.after a;subst o;exact#[g,#[V.ref (s.zs+1),W,p,rfl,q3]]
  |next=>exact False.elim a
  |brk=>exact False.elim a
  |cont=>exact False.elim a
def aiM(M:Mk X.K C f)(F:fK X.prog X.w X.K X.mg X.base CX k f fd ps sp)(c:dZ (k+1) X.A)(g:Gl X x)(d:X.mg x\(.ref C))(j:Binds X.K fd ps ds)(hd:zN db ds)(b:Passes CX X E)
 (l:PA X (e::Z) t)(m:‹(zz x,2)›)(i:‹zw X e Z›)(n:‹zb X O Z›) :
  PE X (.Call (.Name x p) (e::Z) [] O) (SS C sp db E t):=by
 intro U s G H Q I h;refine wpAny_Call_Name_kw (uE I g d ?_ m);refine callWith_K (h₀:=X.base) I.ok.mod.kin M.kp (ag (l O U s G H _ I h) λus o #[vs,Y,a,r,q]=>#[a.kIn,?_]) i n;exact afZ M F c j hd b a r q
structure bL(N P:Φ)(sc:Scope):Prop where
 kind:sc.kind=.function
 co:sc.isCoroutine=false
 gen:sc.isGenerator=false
 nd:N.Nodup
 pre:N.take P.length=P
 par:∀x∈P,sc.names.lookup x\.local\/sc.names.lookup x=some .cell
 nofree:∀y∈sc.names,y.2≠.free
theorem QM{kindOf:Str->Option NameKind}{x:Str} : ∀{a:xL}{m:Str->Ω},(∀v,(x,v)∉a)->bindL kindOf a m x=m x
 |[],_,_=>rfl
 |(n,v)::r,m,h=>by
  unfold bindL;rw[QM λw b=>h w (aJ _ b)];split
  .have:x≠n:=by rintro rfl;exact h v aO
   simp[this]
  .rfl
theorem QH{kindOf:Str->Option NameKind}{x:Str} : ∀{a:xL}{m:Str->Ω},(∀v,(x,v)∉a)->bindC kindOf a m x=m x
 |[],_,_=>rfl
 |(n,v)::r,m,h=>by
  unfold bindC;rw[QH λw b=>h w (aJ _ b)];split
  .rfl
  .have:x≠n:=by rintro rfl;exact h v aO
   simp[this]
theorem Rm{kindOf:Str->Option NameKind}{x:Str}{v:Value} : ∀{P:Φ}{vs:Θ}{i:Nat}{m:Str->Ω},P.Nodup->P[i]?\x->vs[i]?\v->kindOf x\.local ->
  bindL kindOf (P.zip vs) m x\v
 |[],_,_,_,_,h,_,_=>by simp at h
 |_::_,[],_,_,_,_,h,_=>by simp at h
 |p::P,w::vs,0,m,c,b,a,d=>by
  simp at b a;subst b;subst a;show bindL kindOf ((p,w)::P.zip vs) m p=_;unfold bindL;rw[QM λv e=>(List.nodup_cons.mp c).1 (UX e).1,ZY d];simp
 |p::P,w::vs,i+1,m,c,b,a,d=>by
  show bindL kindOf ((p,w)::P.zip vs) m x=_;unfold bindL;exact Rm (i:=i) (List.nodup_cons.mp c).2 ↑b ↑a d
theorem Q9{kindOf:Str->Option NameKind}{x:Str}{v:Value} : ∀{P:Φ}{vs:Θ}{i:Nat}{m:Str->Ω},P.Nodup->P[i]?\x->vs[i]?\v->kindOf x≠some .local ->
  bindC kindOf (P.zip vs) m x\v
 |[],_,_,_,_,h,_,_=>by simp at h
 |_::_,[],_,_,_,_,h,_=>by simp at h
 |p::P,w::vs,0,m,c,b,a,d=>by
  simp at b a;subst b;subst a;show bindC kindOf ((p,w)::P.zip vs) m p=_;unfold bindC;rw[QH λv e=>(List.nodup_cons.mp c).1 (UX e).1,ZZ d];simp
 |p::P,w::vs,i+1,m,c,b,a,d=>by
  show bindC kindOf ((p,w)::P.zip vs) m x=_;unfold bindC;exact Q9 (i:=i) (List.nodup_cons.mp c).2 ↑b ↑a d
def start(N:Φ)(vs:Ζ):St:=vs.map some++replicate (N.length-vs.length) none
def G_(CX:fv)(P:Program)(w:World)(K:Frag)(mg:Str->Ω)(base:Heap)(N:Φ)(b:Str)(J:Scope)(f:Addr)(a:Value)(A:Around)(outer:xC)(s:Shared)(H:Hp)(E:XK):Cx where
 prog:=P
 w:=w
 K:=K
 mg:=mg
 base:=base
 A:=A.deeper (envOfC b J s.zs f a)
 N:=N
 s₀:=s
 H₀:=H
 env:=envOfC b J s.zs f a
 outer:=outer
 stack:=envOfC b J s.zs f a::outer
 ex:=[]
 calm:=true
 fn:=λ_=>true
 pn:=[]
 xe:=λe s'=>wpAny (model P w) (A.deeper (envOfC b J s.zs f a)) (leaving (envOfC b J s.zs f a) e) (λ_ c=>CX outer H s E e c) (λd c=>CX outer H s E d c) s'
def Yt{a:Scope}{n:Nat}(h:a.names.lookup x\.cell):∃c,(cellsFrom n a.names []).lookup x\c:=by
 have q:=PySem.W.cellsFrom_some a.names n [] (.inl h);exact Option.isSome_iff_exists.mp q
def adb{N:Φ}{C:Str}{B:Value}{d:xC}{G:Shared}
 (S:bL N ps J)(hd:A.handled=none)(j:Yy P w K mg base A d s H)(O:vs.length=ps.length)(r:zN vs us)
 (x:InCallC s s.zs (bindL (envOfC C J s.zs f B).kindOf (ps.zip us) λ_=>none) (cellsFrom (s.zs+1) J.names []) (bindC (envOfC C J s.zs f B).kindOf (ps.zip us) λ_=>none) G) :
  Inv (G_ CX P w K mg base N C J f B A d s H E) [] (start N vs) H G:=by
 have U:ps.length<=N.length:=by have:=ZH List.length S.pre;rw[aY]at this;lia
 let⟨F,R,rfl,L⟩:=x.done;have D:∀b:Addr,b∉(G_ CX P w K mg base N C J f B A d s H E).ex:=λb z=>absurd (show b∈([] : Ψ)from z) vc;refine#[#[j.mod,S.kind,rfl,rfl,aG _,λy z c F g=>?_,λy l=>?_,λy c _ h=>?_,λ_=>hd,Around.frames_deeper j.frames,.inr #[rfl,rfl],λb z=>absurd z (D b),j.bs,j.bsz,λb _ _=>D b,λb z=>absurd z (D b),j.funs,j.frf],
  rfl,j.bare,Un.kept L,#[_,x.toInCall.ns,λi y v F g T=>?_],λy c h=>#[_,x.cell y c h],j.hok.fresh (aG _),λy c h=>?_,λp o=>absurd (show p∈([] : Δ)from o) vc,j.hok.kept L,?_]
 .exact name_of_addr x.apart (PySem.mem_of_lookup F) (PySem.mem_of_lookup g)
 .have l:J.names.lookup y\.cell\/J.names.lookup y=some .free:=l;rcases l with l|l
  .exact Yt l
  .exact absurd rfl (S.nofree _ (PySem.mem_of_lookup l))
 .exact Y2 (x.above y c (PySem.mem_of_lookup h))
 .have t:i<vs.length:=by
   unfold start at g;by_cases t:i<vs.length
   .exact t
   .rw[aD ↑t]at g;rw[XG]at g;split at g<;>cases g
  have Q:vs[i]?\v:=by
   unfold start at g;rw[aF ↑t,aq]at g;cases e:vs[i]? with
   |none=>rw[e]at g;cases g
   |some a=>rw[e]at g;cases g;rfl
  let⟨u,I,M⟩:=r.get Q;have o:ps[i]?\y:=by
   rwa[<- S.pre,List.getElem?_take_of_lt (aR t (WG O))]
  have m:ps.Nodup:=%[<- S.pre|S.nd.sublist (List.take_sublist _ _)]
  refine#[u,M,?_];rcases S.par y (aC o)with k|k
  .exact .inl #[k,Rm m o I k]
  .let⟨c,e⟩:=Yt (n:=s.zs+1) k;refine .inr #[.inl k,c,e,?_];have q:=x.cell y c e;rw[Q9 m o I (by show J.names.lookup y≠_;rw[k];decide)]at q;exact q
 .exact j.hok.fresh (Y2 (x.above y c (PySem.mem_of_lookup h)))
 .unfold start;show _=N.length;rw[aA,ak,aN];lia
def ER{g:Str}{F:Arguments}{L kV O D h M Y:Value}{T X:Ξ}
 {eM:Array (Ω)}{N:Φ}(Z:K.lookup f\#[Y,X,.func (PySem.W.fnOf name g F b5 J L kV O D T h M),eM])(be:codeIn K h g)(S:bL N ps J)
 (j:∀vs H Q E,sp vs H Q E->vs.length=ps.length)
 (br:∀(A:Around)(c:xC)(s:Shared)(H:Hp)(vs:Ζ)(Q:VK)(E:XK),dZ k (A.deeper (envOfC g J s.zs f h))->sp vs H Q E ->
   ∃t,PSs (G_ CX P w K mg base N g J f h A c s H E) b5 t/\t { nx:=λ_ W=>Q .non W,rt:=Q } (start N vs) H) :
  fK P w K mg base CX (k+1) f (PySem.W.fnOf name g F b5 J L kV O D T h M) ps sp:=by
 refine#[j,λA c s H R us vs Q E B m hb r G=>?_];have hl:=j _ _ _ _ G;have U:K.In s.heap:=m.mod.kin.keeps λb o e=>(m.bs b o e).1;have z:s.heap.NoLimit:=m.mod.nolimit.keeps λb o e=>(m.bs b o e).1;have df:∀y∈ps.zip us,J.names.lookup y.1\.local\/(J.names.lookup y.1\.cell/\((cellsFrom (s.zs+1) J.names []).lookup y.1).isSome):=λ#[n,v] hy=>by
  rcases S.par n (UX hy).1 with q|q
  .exact .inl q
  .exact .inr #[q,PySem.W.cellsFrom_some _ _ _ (.inl q)]
 refine codeAny_call_function B.depth (U _ _ Z) rfl S.co S.gen rfl (PySem.W.codeRec_of U be) (hb _ _ _ _ ?_);refine wpAny_newFunctionEnv_cells S.kind df λenv he C x=>?_;subst he;refine#[z.keeps x.toInCall.keep,codeAny_func ?_];let⟨t,ht,hq⟩:=br A c s H vs Q E (B.deeper _) G;have I:Inv (G_ CX P w K mg base N g J f h A c s H E) [] (start N vs) H C:=adb S B.hd m hl r x;refine wpAny_mono (ht [] C (start N vs) H _ I hq) (λfl s' i=>?_) λe s' i=>i;have l:∀{d:St}{W:Hp}{v:V}{u:Value},Inv (G_ CX P w K mg base N g J f h A c s H E) [] d W s'->zZ v u->Q v W->CE c P w H s Q u s' :=
  λ{d W v u}a p q=>#[v,W,a.os,a.bare,a.base,a.hok,p,q]
 cases fl with
 |ret u =>
  let⟨v,d,W,a,p,q⟩:=i;exact l a p q
 |next =>
  let⟨d,W,a,q⟩:=i;exact l (v:=V.non) (u:=Value.none) a rfl q
 |brk =>
  let⟨_,_,_,q⟩:=i;exact False.elim q
 |cont =>
  let⟨_,_,_,q⟩:=i;exact False.elim q
section
variable{X:Cx}{x:Str}{p O:Pos}{e:Expr}{Z:xw}{t:TA}{id T:String}{r:Ζ->Hp->VK->Prop}
def r_(r:Ζ->Hp->VK->Prop)(t:TA):TE:=λG H Q=>t G H λvs Y=>r vs Y Q
def Ys(k:jx X (.builtin id) r)(i:Gl X x)(g:X.mg x=none)(d:bootBuiltins x\(.builtin id))(l:PA X (e::Z) t)(f:‹(x≠"__name__",2)›)(n:‹(zz x,2)›)
 (j:‹zw X e Z›)(o:‹zb X O Z›):PE X (.Call (.Name x p) (e::Z) [] O) (r_ r t):=by
 intro U s G H Q I h;refine wpAny_Call_Name_kw (Ek I i g d ?_ f n);exact PyProof.Rows.callWith_builtin1 (ag (l O U s G H _ I h) λus a m=>by let⟨vs,Y,q,b,c⟩:=m;exact k U a G Y vs us Q q b c) j o
def QF(k:jx X (.type T) r)(i:Gl X x)(g:X.mg x=none)(d:bootBuiltins x\(.type T))(l:PA X (e::Z) t)(f:‹(x≠"__name__",2)›)(n:‹(zz x,2)›)
 (j:‹zw X e Z›)(o:‹zb X O Z›):PE X (.Call (.Name x p) (e::Z) [] O) (r_ r t):=by
 intro U s G H Q I h;refine wpAny_Call_Name_kw (Ek I i g d ?_ f n);exact PyProof.Rows.callWith_type1 (ag (l O U s G H _ I h) λus a m=>by let⟨vs,Y,q,b,c⟩:=m;exact k U a G Y vs us Q q b c) j o
end
end L2
set_option genInjectivity false
namespace HT
local macro_rules|`(#[$x,*])=>`(⟨$x,*⟩)
open PySem PyProof.Rows
def sIx(n d:Nat):xn->Nat
 |none=>d
 |some v=>if v<0 then(v+(n:Int)).toNat else min v.toNat n
def Cd(n d k:Nat):sIx n d (some (k:Int))=min k n:=by
 show(if(k:Int)<0 then((k:Int)+(n:Int)).toNat else min (k:Int).toNat n)=min k n;rw[ZZ (Int.not_lt_of_ge (X9 _)),Int.toNat_natCast]
def amc(n d:Nat)(hd:d<=n)(o:xn):sIx n d o<=n:=by
 cases o with
 |none=>exact hd
 |some v =>
  show(if v<0 then(v+(n:Int)).toNat else min v.toNat n)<=n;by_cases a:v<0
  .rw[ZY a];lia
  .rw[ZZ a];exact Nat.min_le_right _ _
end HT
namespace L2
local macro_rules|`(#[$x,*])=>`(⟨$x,*⟩)
open PySem PySem.Spec PyProof.Rows
abbrev TO:=St->Hp->(xn->Hp->Prop)->Prop
def PO(X:Cx)(e:Option Expr)(t:TO):Prop :=
 ∀(U:Δ)(s:Shared)(G:St)(H:Hp)(Q:xn->Hp->Prop),↥X->t G H Q ->
  ⇑X (evalPart e X.env) (λu a=>∃o W,Inv X U G W a/\IsPart u o/\Q o W) X.xe s
def ahX:TO:=λ_ H Q=>Q none H
def SF(t:TE):TO:=λG H Q=>t G H λx Y=>∃i,x=.int i/\Q (some i) Y
def intsAre_of{b:xi} : ∀{a:Θ},zN (b.map V.int) a->IntsAre a b:=by
 induction b with
 |nil=>intro a r;rw[map_nil]at r;cases r;exact .nil
 |cons n b f =>
  intro a r;rw[map_cons]at r;cases r with
  |cons d c =>
   let⟨t,e⟩:=d;subst e;exact .cons n t (f c)
variable{X:Cx}{e:Expr}{te:TE}{lo hi:Option Expr}{tl th:TO}{O p2:Pos}{α:Type}{n:Nat}{U:Δ}{G:St}{H:Hp}{s:Shared}{I ys:Ζ}{l:Addr}
def aip:PO X none ahX:=by
 intro U s G H Q I h;rw[evalPart_none];exact ZT #[none,H,I,.none,h]
def ah3(h:PE X e te):PO X (some e) (SF te):=by
 intro U s G H Q I c;rw[evalPart_some];refine ag (h U s G H _ I c) λu g d=>?_;let⟨x,Y,f,a,b⟩:=d;let⟨i,rfl,q⟩:=b;let⟨t,rfl⟩:=a;exact#[some i,Y,f,.int i t,q]
def SlR(X:Cx)(r:V->xn->xn->Hp->VK->Prop):Prop :=
 ∀(U:Δ)(s:Shared)(G:St)(H:Hp)(x:V)(v b a:Value)(lo hi:xn)(c:Addr)(Q:VK),↥X->zZ x v->s.heap.IsSliceOf c b a .none->IsPart b lo->IsPart a hi->r x lo hi H Q ->
  ∃T id,typeLookup (.type T) "__getitem__"=pure (some (.builtin id))/\s.TypeIs v T/\⇑X (getItem v (.ref c)) (EP X U G Q) X.xe s
def SlR.or{r e:V->xn->xn->Hp->VK->Prop}(h:SlR X r)(j:SlR X e):SlR X (λx lo hi H Q=>r x lo hi H Q\/e x lo hi H Q):=by
 intro U s G H x v b a lo hi c Q I d i g f q;rcases q with q|q
 .exact h U s G H x v b a lo hi c Q I d i g f q
 .exact j U s G H x v b a lo hi c Q I d i g f q
def LJ(r:V->xn->xn->Hp->VK->Prop)(te:TE)(tl th:TO):TE:=λG H Q=>te G H λx Y=>tl G Y λl b=>th G b λu a=>r x l u a Q
def ae5{r:V->xn->xn->Hp->VK->Prop}(z:SlR X r)(D:PE X e te)(B:PO X lo tl)(t:PO X hi th):PE X (.Subscript e (.Slice lo hi none p2) O) (LJ r te tl th):=by
 intro U s G H Q I h;refine Subscript_ (ag (D U s G H _ I h) λv k g=>?_);let⟨x,Y,L,m,n⟩:=g;refine wpAny_Slice (ag (B U k G Y _ L n) λf j #[l,M,K,p,q2]=>ag (t U j G M _ K q2) λd a g=>?_);let⟨u,i,J,o,q3⟩:=g;rw[evalPart_none];refine ZT ?_;have F:Inv X U G i { a with heap:=a.heap.push { cls:=.type "slice",data:=.fields ↥[f,d,.none] } }:=J.kept (t':=a.toks) λb N q=>aH _ q;let⟨T,id,E,y,C⟩:=z U { a with heap:=a.heap.push { cls:=.type "slice",data:=.fields ↥[f,d,.none] } } G i x v f d l u a.zs Q F m (Heap.IsSliceOf.new ..) p o q3;show ⇑X (subscriptTail e (.Slice lo hi none p2) v (.ref a.zs)) (EP X U G Q) X.xe { a with heap:=a.heap.push { cls:=.type "slice",data:=.fields ↥[f,d,.none] } };exact tail_any (ops:=[.ref a.zs,v]) y E C (by with_unfolding_all rfl)
def iP(I:Ζ)(lo hi:xn):Ζ:=(I.drop (HT.sIx I.length 0 lo)).take (HT.sIx I.length I.length hi-HT.sIx I.length 0 lo)
def W4(I:Ζ)(lo hi:xn):(iP I lo hi).length<=I.length:=by
 unfold iP;rw[aY,UR];lia
def dj(n:Nat)(i:Int):xS:=if 0<=i then(if i<n then some i.toNat else none)else if -(n:Int)<=i then some (i+n).toNat else none
def dP(I:List α)(i:Int):Option α:=(dj I.length i).bind λj=>I[j]?
def Kt{i:Int}{j:Nat}(h:dj n i\j):seqIndex? i n\j/\j<n/\-(n:Int)<=i/\i<n:=by
 unfold dj at h;by_cases b:0<=i
 .rw[ZY b]at h;by_cases a:i<n
  .rw[ZY a]at h;have e:i.toNat=j:=Option.some.inj h;exact#[%[seqIndex_of b a,e|_],by lia,by lia,a]
  .rw[ZZ a]at h;cases h
 .rw[ZZ b]at h;by_cases a : -(n:Int)<=i
  .rw[ZY a]at h;have e:(i+n).toNat=j:=Option.some.inj h;exact#[%[seqIndex_neg (T2 b) a,e|_],by lia,a,by lia]
  .rw[ZZ a]at h;cases h
def Te{I:List α}{i:Int}{v:α}(h:dP I i\v):∃j,seqIndex? i I.length\j/\I[j]?=some v/\j<I.length/\-(I.length:Int)<=i/\i<I.length:=by
 unfold dP at h;cases e:dj I.length i with
 |none=>rw[e]at h;cases h
 |some j =>
  rw[e]at h;let⟨d,c,b,a⟩:=Kt e;exact#[j,d,h,c,b,a]
def o_(b:Expr):Prop:=∀o i,subscripted b false o i=operate [o,i] (getItem o i)
def IxR(X:Cx)(r:R2):Prop :=
 ∀(b a:Expr)(U:Δ)(s:Shared)(G:St)(H:Hp)(x y:V)(v u:Value)(Q:VK),↥X->zZ x v->zZ y u->r x y H Q ->
  subscripted a false v u=operate [v,u] (getItem v u)->⇑X (subscriptTail b a v u) (EP X U G Q) X.xe s
def MtR(X:Cx)(id:String)(r:V->Ζ->Hp->VK->Prop):Prop :=
 ∀(U:Δ)(s:Shared)(G:St)(H:Hp)(x:V)(I:Ζ)(v:Value)(a:Θ)(Q:VK),↥X->zZ x v->zN I a->r x I H Q ->
  ⇑X (call (.builtin id) (v::a)) (EP X U G Q) X.xe s
section
variable{X:Cx}{a b:Expr}{ta tb:TE}{O:Pos}
def IxR.or{r c:R2}(h:IxR X r)(g:IxR X c):IxR X (λx y H Q=>r x y H Q\/c x y H Q):=by
 intro f e U s G H x y v u Q I b a q d;rcases q with q|q
 .exact h f e U s G H x y v u Q I b a q d
 .exact g f e U s G H x y v u Q I b a q d
def uo{r:R2}(g:IxR X r)(j:PE X a ta)(i:PE X b tb)(f:o_ b):PE X (.Subscript a b O) (jj r ta tb):=by
 intro U s G H Q I h;exact Subscript_ (oP j i I h λv u c x y l k e d q=>g a b U c G l x y v u Q k e d q (f _ _))
def MX(K:Frag):R2:=λx y H Q=>∃p I i v,x=.ref p/\y=.int i/\SqL K H p I/\dP I i=some v/\Q v H
def NG(K:Frag):R2:=λx y H Q=>∃p I i v,x=.ref p/\y=.int i/\SqT K H p I/\dP I i=some v/\Q v H
def OF:R2:=λx y H Q=>∃z i c,x=.str z/\y=.int i/\z.length<=sizeLine/\dP z.cps.toList i=some c/\Q (.str #[↥[c]]) H
def Ck:IxR X (MX X.K):=by
 intro P O U s G H x y v u Q a o n h k;let⟨p,I,i,z,rfl,rfl,A,C,q⟩:=h;cases o;let⟨t,rfl⟩:=n;let⟨f,r,e,L⟩:=a.list A;let⟨j,c,F,N,E,D⟩:=Te C;let⟨w,l,J⟩:=r.get F;have B:=r.length;have M:=zc;have b:EP X U G Q w s:=#[z,H,a,J,q];by_cases d:0<=i
 .have g:i.toNat=j:=by
   rw[seqIndex_of d D]at c;exact Option.some.inj c
  exact item_listR e.isList d vy (by rw[g];simpa using l) b k
 .have g:(i+(f.toArray.size:Int)).toNat=j:=by
   rw[seqIndex_neg (T2 d) E]at c;rw[aX,<- B];exact Option.some.inj c
  exact subscriptTail_builtinR (x:=w) e.isList.typeIs slot_list_getitem.lookup
   (wpAny_getItem_list_neg (Q:=λr m=>r=w/\EP X U G Q r m) e.isList (T2 d) (by rw[aX]<;>lia) vy (by rw[g];simpa using l) #[rfl,b]) k
def Ei:IxR X (NG X.K):=by
 intro N M U s G H x y v u Q a f e h k;let⟨p,I,i,z,rfl,rfl,l,n,q⟩:=h;cases f;let⟨t,rfl⟩:=e;let⟨g,r,c,C⟩:=a.tuple l;let⟨j,L,o,J,F,E⟩:=Te n;let⟨w,B,A⟩:=r.get o;have m:=r.length;have D:=zc;have b:EP X U G Q w s:=#[z,H,a,A,q];exact subscriptTail_builtinR (x:=w) c.typeIs slot_tuple_getitem.lookup
  (getItem_tuple (j:=j) (Q:=λr d=>r=w/\EP X U G Q r d) c vy vy (by rwa[aX,<- m]) ↑B #[rfl,b]) k
def ZJ:IxR X OF:=by
 intro C B U s G H x y v u Q I d b h e;let⟨z,i,c,rfl,rfl,r,g,q⟩:=h;let⟨t,rfl⟩:=d;let⟨p,rfl⟩:=b;let⟨j,a,m,A,l,k⟩:=Te g;have f:z.cps.toList.length=z.length:=by simp[Str.length]
 rw[f]at a l k;have w:=zc;exact tail_any (typeIs_str s z t) slot_str_getitem.lookup (getItem_str (c:=c) (by
  have o:decide (i < -(2^63:Int))=false:=Zp vy;have n:decide (i>=2^63)=false:=Zp vy;rw[o,n,Bool.or_false]) (by rw[a];simpa using m) #[.str #[↥[c]],H,I.tok _,#[_,rfl],q]) e
def Z_(a:Θ)(n j:Nat)(u:Value):Obj.mapSeq (·.setIfInBounds j u) { cls:=.type "list",data:=.seq a.toArray n }={ cls:=.type "list",data:=.seq (a.set j u).toArray n }:=by
 simp[Obj.mapSeq]
def Inv.lst{U:Δ}{G:St}{H:Hp}{s:Shared}{p:Addr}{I:Ζ}(a:↥X)(h:H p\(.lst I)) :
  ∃(b:Θ)(n:Nat),zN I b/\s.heap.get? p=some { cls:=.type "list",data:=.seq b.toArray n }/\I.length<=sizeLine:=by
 let⟨z,b,n,r,e⟩:=a.hok p _ h;exact#[b,n,r,e,z]
def Inv.lstUpd{p:Addr}{d c:Θ}{g:Nat}{f:Obj->Obj}(a:↥X)(h:H p\(.lst I))
 (l:s.heap.get? p=some { cls:=.type "list",data:=.seq d.toArray n })(i:f { cls:=.type "list",data:=.seq d.toArray n }={ cls:=.type "list",data:=.seq c.toArray g })(r:zN ys c)(k:ys.length<=sizeLine)(t:Nat) :
  Inv X U G (upd H p (.lst ys)) { s with heap:=s.heap.update p f,toks:=t }:=by
 have e:(s.heap.update p f).get? p=some { cls:=.type "list",data:=.seq c.toArray g }:=by
  rw[Heap.get?_update_self f l (by rw[i]<;>rfl),i]
 refine a.write (x:=p) (e:=p) (by rw[h];trivial) (.inl rfl) (λb u m q=>(Heap.get?_update_other _ _ (Ne.symm m)).trans q) #[_,e] ?_;exact#[k,c,g,r,e]
def RF:V->V->V->Hp->(Hp->Prop)->Prop:=λo i v H Q=>∃p I k j,o=.ref p/\i=.int k/\H p=some (.lst I)/\dj I.length k=some j/\Q (upd H p (.lst (I.set j v)))
def set_list:B7 X RF:=by
 intro U s G H o i v D E u Q a y z x h;let⟨p,I,k,j,rfl,rfl,l,A,q⟩:=h;cases y;let⟨t,rfl⟩:=z;let⟨b,n,r,e,F⟩:=a.lst l;let⟨c,K,C,B⟩:=Kt A;have f:=r.length;have J:=zc;have w:Inv X U G (upd H p (.lst (I.set j v))) { s with heap:=s.heap.update p (Obj.mapSeq (·.setIfInBounds j u)) } :=
  a.lstUpd l e (Z_ b n j u) (r.set x j) (by rwa[WH]) s.toks
 by_cases d:0<=k
 .have g:k.toNat=j:=by
   rw[seqIndex_of d B]at c;exact Option.some.inj c
  exact PySem.W.ki_setAt e d vy (by rwa[aX,<- f]) %[g|#[_,w,q]]
 .have g:(k+(b.toArray.size:Int)).toNat=j:=by
   rw[seqIndex_neg (T2 d) C]at c;rw[aX,<- f];exact Option.some.inj c
  exact PySem.W.ki_setBack e (T2 d) (by rwa[aX,<- f]) vy %[g|#[_,w,q]]
def S9(lo hi:xn)(n:Nat):(sliceBounds lo hi none n).1=((HT.sIx n 0 lo:Nat):Int)/\(sliceBounds lo hi none n).2.1=((HT.sIx n n hi:Nat):Int)/\(sliceBounds lo hi none n).2.2=1:=by
 refine#[?_,?_,rfl]
 .cases lo with
  |none=>simp[sliceBounds,HT.sIx]
  |some i =>
   simp only[sliceBounds,HT.sIx,getD_none,show(1:Int)>0 by decide,if_true];by_cases h:i<0
   .simp only[h,if_true]<;>lia
   .simp only[h,if_false]<;>lia
 .cases hi with
  |none=>simp[sliceBounds,HT.sIx]
  |some i =>
   simp only[sliceBounds,HT.sIx,getD_none,show(1:Int)>0 by decide,if_true];by_cases h:i<0
   .simp only[h,if_true]<;>lia
   .simp only[h,if_false]<;>lia
def Pr(a:Θ)(lo hi:xn):slicePick a.toArray lo hi none=((a.drop (HT.sIx a.length 0 lo)).take (HT.sIx a.length a.length hi-HT.sIx a.length 0 lo)).toArray:=by
 let⟨d,c,b⟩:=S9 lo hi a.toArray.size;unfold slicePick;rw[d,c,b];simp only[sliceRange_one,pick_run,aX]<;>rfl
def OW(K:Frag):V->xn->xn->Hp->VK->Prop:=λx lo hi H Q=>∃a I,x=.ref a/\SqL K H a I/\∀p,H p=none->Q (.ref p) (upd H p (.lst (iP I lo hi)))
def agV:SlR X (OW X.K):=by
 intro U s G H x v p n lo hi t Q c e l g f h;let⟨a,I,rfl,k,q⟩:=h;cases e;let⟨i,r,d,j⟩:=c.list k;have m:=r.length;refine#["list",_,slot_list_getitem.lookup,d.isList.typeIs,?_];refine wpAny_getItem_list_slice d.isList l g f .none vc ?_ (by rw[aX]<;>lia);rw[Pr,<- m];refine#[.ref s.zs,_,c.laid (t':=s.toks) (o:=.lst (iP I lo hi)) (λb u q=>aH _ q) (aG _) ?_,rfl,q _ (c.hok.fresh (aG _))];exact#[aL (W4 I lo hi) j,_,0,(r.drop (HT.sIx I.length 0 lo)).take (HT.sIx I.length I.length hi-HT.sIx I.length 0 lo),aW _ rfl]
def Rv:V->Bool
 |.non=>true
 |.bl _=>true
 |.int _=>true
 |.str _=>true
 |_=>false
def MD:V->V->Bool
 |.non,.non=>true
 |.bl a,.bl b=>a==b
 |.bl a,.int b=>(if a then 1 else 0)==b
 |.int a,.bl b=>a==(if b then 1 else 0)
 |.int a,.int b=>a==b
 |.str a,.str b=>a==b
 |_,_=>false
def R5:jx X (.builtin "len") (λI H Q=>∃p ys,I=[.ref p]/\(SqL X.K H p ys\/SqT X.K H p ys)/\Q (.int ys.length) H):=by
 intro U s G H I j Q a r h;let⟨p,ys,rfl,b,q⟩:=h;let⟨u,rfl,g⟩:=vals1 r;cases g;have k:=zc;rcases b with b|b
 .let⟨e,c,d,i⟩:=a.list b;have f:=c.length;exact Calls.call_len_list d.isList (by simp only[aX]<;>lia) #[.int ys.length,H,a.tok _,#[s.toks+1,%[aX,f|_]],q]
 .let⟨e,c,d,i⟩:=a.tuple b;have f:=c.length;exact len_tuple d (by simp only[aX]<;>lia) #[.int ys.length,H,a.tok _,#[s.toks+1,%[aX,f|_]],q]
def SJ:jx X (.builtin "len") (λI H Q=>∃z,I=[.str z]/\z.length<=sizeLine/\Q (.int z.length) H):=by
 intro U s G H I b Q a r h;let⟨z,rfl,c,q⟩:=h;let⟨u,rfl,t,rfl⟩:=vals1 r;have d:=zc;exact len_str vy #[.int z.length,H,a.tok _,#[_,rfl],q]
def Uw:jx X (.type "list") (λI H Q=>∃p ys,I=[.ref p]/\(SqL X.K H p ys\/SqT X.K H p ys)/\∀l,H l=none->Q (.ref l) (upd H l (.lst ys))):=by
 intro U s G H I B Q a r h;let⟨p,ys,rfl,k,q⟩:=h;let⟨u,rfl,z⟩:=vals1 r;cases z;have m:∀(c:Θ),zN ys c->ys.length<=sizeLine->∀(d:Heap)(g:Nat),(∀b x,s.heap.get? b\x->d.get? b\x) ->
   d.get? s.zs=some { cls:=.type "list",dict:=none,data:=.seq c.toArray g,slots:=↥[] }->EP X U G Q (.ref s.zs) { s with heap:=d }:=λc f j d g i e =>
  #[.ref s.zs,_,a.laid (t':=s.toks) i (aG _) (show fJ X.prog X.w _ d _ (.lst ys)from#[j,c,g,f,e]),rfl,q _ (a.hok.fresh (aG _))]
 rcases k with k|k
 .let⟨c,f,t,j⟩:=a.list k;have A:=f.length;let⟨o,v,hc,n,hd⟩:=t.isList;exact call_list_seq p (.inl rfl) v hc hd (λd g i e=>m c f j d g i e) (by simp only[aX]<;>lia)
 .let⟨c,f,t,j⟩:=a.tuple k;have A:=f.length;let⟨o,v,hc,n,hd⟩:=t;exact call_list_seq p (.inr rfl) v hc hd (λd g i e=>m c f j d g i e) (by simp only[aX]<;>lia)
def r3(K:Frag)(T:String)(x:V)(H:Hp):Prop:=match x with
 |.str _=>T="str"
 |.int _=>T="int"
 |.ref p=>(T="list"/\∃I,SqL K H p I)\/(T="tuple"/\∃o,K.lookup p\o/\o.cls=.type "tuple"/\o.dict=none) \/
   (T="dict"/\(∃a,H p\(.dK a)))\/(T="set"/\∃S n,H p\(.set S n))
 |_=>False
def Z'{T:String}{x:V}{v:Value}(b:↥X)(r:zZ x v)(g:r3 X.K T x H) :
  s.TypeIs v T/\∀a,v=.ref a->∃k,s.heap.get? a\k/\k.dict=none:=by
 cases x with
 |str z =>
  let⟨t,rfl⟩:=r;cases(show T="str" from g);exact#[typeIs_str s z t,λ_ e=>nomatch e]
 |int i =>
  let⟨t,rfl⟩:=r;cases(show T="int" from g);exact#[typeIs_int s i t,λ_ e=>nomatch e]
 |ref p =>
  cases r;rcases g with⟨rfl,I,q⟩|⟨rfl,o,d,hc,hd⟩|⟨rfl,d⟩|⟨rfl,S,n,d⟩
  .let⟨m,_,j,_⟩:=b.list q;refine#[j.isList.typeIs,λa e=>?_];cases e;let⟨o,n,e,c,hd,_⟩:=j;exact#[o,e,hd]
  .refine#[#[o,b.kIn p o d,hc],λa e=>?_];cases e;exact#[o,b.kIn _ o d,hd]
  .have z:∃o,s.heap.get? p\o/\o.ExactDict:=by
    let⟨l,d⟩:=d;let⟨_,_,_,_,o,_,_,e,f,_⟩:=b.hok p _ d;exact#[o,e,f]
   let⟨o,e,f⟩:=z;refine#[#[o,e,f.1],λa h=>?_];cases h;exact#[o,e,f.2.1]
  .let⟨o,_,_,_,e,f,_⟩:=b.hok p _ d;refine#[#[o,e,f.1],λa h=>?_];cases h;exact#[o,e,f.2.1]
 |_=>exact False.elim g
def LP(K:Frag)(T:String)(r:V->Ζ->Hp->VK->Prop)(a:TE)(t:TA):TE:=λG H Q=>a G H λx Y=>r3 K T x Y/\t G Y λI b=>r x I b Q
variable{o e:Expr}{Z:xw}{to:TE}{t:TA}{name:Str}{ah af:Pos}{T id:String}{r:V->Ζ->Hp->VK->Prop}
abbrev zC(a b:Pos):Prop:=(a.endLine==b.line)=true
def l3(p:PlainAttrs T)(slot:Slot T name id)(w:typeOf (.builtin id)=pure (.type "method_descriptor"))(B:MtR X id r)(A:PE X o to)(C:PA X (e::Z) t)
 (q:‹zt X o name›)
 (m:((backTo af (starEach (e::Z) X.env)).all (λx=>!x.1)&&(backToKw af (keywordEach [] X.env)).all (λx=>x.1.isSome)
   && decide ((e::Z).length+([] : wP).length+(if([] : wP).isEmpty then 0 else 1)<30))=true:=by rfl)
 (u:‹zC ah af›)(z:‹zw X e Z›)(y:‹zb X af Z›) :
  PE X (.Call (.Attribute o name ah) (e::Z) [] af) (LP X.K T r to t):=by
 intro U s G H Q I h;refine wpAny_Call_method_late q m u rfl (ag (A U s G H _ I h) λv k a=>?_);let⟨x,Y,d,b,i,n⟩:=a;let⟨E,D⟩:=Z' d b i;refine#[T,id,p,slot,w,E,D,?_];have c:=C af U k G Y _ d n;rw[z]at c ⊢;refine Calls.callWith_builtin (by show(false || (backTo af (starEach Z X.env)).any (·.1))=false;rw[y]<;>rfl) (Calls.evalArgs_plain ?_);exact ag c λg j a=>by let⟨f,J,F,l,q2⟩:=a;exact B U j G J x f v g Q F b l q2

end
def kL(X:Cx)(id:String)(r:V->Ζ->Hp->VK->Prop):Prop :=
 ∀(U:Δ)(s:Shared)(G:St)(H:Hp)(x:V)(I:Ζ)(v:Value)(a:Θ)(Q:VK),↥X->zZ x v->zN I a->r x I H Q ->
  ⇑X (call (.builtin id) (v::a)) (EP X U G Q) X.xe s
def zN.one:∀{x:V}{a:Θ},zN [x] a->∃u,a=[u]/\zZ x u
 |_,_,.cons r .nil=>#[_,rfl,r]
def zN.two{x y:V}{a:Θ}(h:zN [x,y] a):∃u v,a=[u,v]/\zZ x u/\zZ y v:=by
 cases h with|cons r t=>cases t with|cons q t=>cases t;exact#[_,_,rfl,r,q]
theorem zN.rep{I:Ζ}{a:Θ}(h:zN I a):∀k:Nat,zN (replicate k I).flatten (replicate k a).flatten
 |0=>.nil
 |k+1=>by
  rw[replicate_succ,replicate_succ,flatten_cons,flatten_cons];exact zN.append h (zN.rep h k)
theorem foldl_rep(a:Θ):∀(k:Nat)(b:Θ),
  List.foldl (λd c=>d++c) b.toArray (replicate k a.toArray)=(b++(replicate k a).flatten).toArray
 |0,b=>by simp
 |k+1,b=>by
  have e:b.toArray++a.toArray=(b++a).toArray:=by simp
  have f:(b++a)++(replicate k a).flatten=b++(replicate (k+1) a).flatten:=by
   rw[replicate_succ,flatten_cons,Wp]
  rw[<- f,<- foldl_rep a k (b++a),<- e,replicate_succ,foldl_cons]
def Inv.lset{b its':Θ}{f:xA->xA}{d:Nat}(a:↥X)(m:H l\(.lst I))
 (e:s.heap.get? l=some { cls:=.type "list",data:=.seq b.toArray n })(j:f b.toArray=its'.toArray)(h:zN ys its')(g:ys.length<=sizeLine) :
  Inv X U G (upd H l (.lst ys)) { s with heap:=s.heap.update l (Obj.mapSeq f),toks:=d }:=by
 have q:=PySem.IsL.update e f;rw[j]at q;refine a.write (x:=l) (e:=l) %[m|trivial] (.inl rfl) (λo u k i=>(Heap.get?_update_other s.heap (Obj.mapSeq f) (Ne.symm k)).trans i) #[_,q] ?_;exact#[g,its',_,h,q]
def Inv.lnew{its:Θ}{t':Nat}(I:↥X)(c:zN ys its)(b:ys.length<=sizeLine) :
  Inv X U G (upd H s.zs (.lst ys)) { s with heap:=s.heap.push { cls:=.type "list",data:=.seq its.toArray },toks:=t' } :=
 I.laid (λ_ _ q=>aH _ q) (aG _) #[b,its,0,c,aW _ rfl]
def Inv.fresh(I:↥X):H s.zs=none:=I.hok.fresh (aG _)
def Inv.lstM(a:↥X)(c:H l\(.lst I)):I.length<=sizeLine/\∃(b:Θ)(n:Nat),zN I b/\I.length=b.length/\s.heap.get? l=some { cls:=.type "list",data:=.seq b.toArray n }:=by
 let⟨z,b,n,r,e⟩:=a.hok l _ c;exact#[z,b,n,r,r.length,e]
def agR(h:n<=sizeLine):Builtin.List.listTooLong n=false:=by
 unfold Builtin.List.listTooLong;exact Zp (QQ h)
def aiI:V->Ζ->Hp->VK->Prop:=λx a H Q=>∃l I y,x=.ref l/\a=[y]/\H l=some (.lst I)/\I.length<sizeLine/\Q .non (upd H l (.lst (I++[y])))
def Rn:kL X "list.append" aiI:=by
 intro U s G H x i v j Q a d f h;let⟨l,I,y,rfl,rfl,c,k,q⟩:=h;cases d;let⟨u,rfl,g⟩:=f.one;let⟨z,b,n,r,m,e⟩:=a.lstM c;refine call_meets F.slot_list_append #[_,e,rfl] F.entry_list_append (F.args_list_append_2 _ _) (PySem.list_append l b.toArray n u (by rw[aX];lia)) #[e,?_];refine#[.non,_,a.lset (its':=b++[u]) c e vc (r.append (.cons g .nil)) ?_,rfl,q];rwa[aA,length_singleton]
def O0:R2:=λx y H Q=>∃l b I a,x=.ref l/\y=.ref b/\H l=some (.lst I)/\H b=some (.lst a)/\I.length+a.length<=sizeLine/\∀p,H p=none->Q (.ref p) (upd H p (.lst (I++a)))
def _5:OpR X (binaryOp .Add) O0:=by
 intro U s G H x y v u Q a g f h;let⟨l,b,I,t,rfl,rfl,k,m,B,q⟩:=h;cases g;cases f;let⟨z,c,n,r,C,e⟩:=a.lstM k;let⟨w,d,A,i,j,p⟩:=a.lstM m;refine PySem.P.add_list e p ?_ (by rw[aX,aX];lia);have o:c.toArray++d.toArray=(c++d).toArray:=by simp
 rw[o];exact#[.ref _,_,a.lnew (t':=s.toks) (r.append i) (by rw[aA];omega),rfl,q _ a.fresh]
def OI:R2:=λx y H Q=>∃l k I,x=.ref l/\y=.int k/\H l=some (.lst I)/\-(2^63)<=k/\k<2^63/\I.length*k.toNat<=sizeLine /\
 ∀p,H p=none->Q (.ref p) (upd H p (.lst (replicate k.toNat I).flatten))
def len_rep(I:List α)(k:Nat):(replicate k I).flatten.length=k*I.length:=by
 induction k with
 |zero=>simp
 |succ k a=>rw[replicate_succ,flatten_cons,aA,a,Nat.succ_mul,Nat.add_comm]
def _F:OpR X (binaryOp .Mult) OI:=by
 intro U s G H x y v u Q b j i h;let⟨l,k,I,rfl,rfl,C,E,D,M,q⟩:=h;cases j;let⟨t,rfl⟩:=i;let⟨z,c,n,r,B,e⟩:=b.lstM C;have K:c.toArray.size*k.toNat<=sizeLine:=by rwa[aX,<- B]
 have o:¬c.toArray.size*k.toNat>(2^63-1)/8:=by
  have:(sizeLine:Nat)<=(2^63-1)/8:=by decide
  lia
 have p:¬(!Builtin.List.listFitsIndex k)=true:=by
  rw[fitsIndex_both E D];exact bx
 have A:¬Builtin.List.listTooLong (c.toArray.size*k.toNat)=true:=by
  rw[agR K];exact bx
 have w:List.foldl (λf d=>f++d) ↥[] (replicate (if c.toArray.isEmpty=true then 0 else k.toNat) c.toArray)=(replicate k.toNat c).flatten.toArray:=by
  have J:∀m:Nat,List.foldl (λf d=>f++d) ↥[] (replicate m c.toArray)=(replicate m c).flatten.toArray:=λm=>by
   have:=foldl_rep c m [];rw[List.nil_append]at this;exact this
  rw[J];cases c with
  |nil=>simp
  |cons a L=>rw[ZZ vc]
 refine wpAny_binaryOp_repeat_ref (T:="list") (U:="int") vw #[_,e,rfl] (λg=>typeIs_int g k t) noFill_list_mul F.fills_int_mul F.slot_int_rmul repeat_list F.slot_int_index.lookup
  (call_meets F.slot_int_rmul (typeIs_int s k t) F.entry_int_rmul (F.args_int_rmul_2 _ _) (int___rmul___int_list k t l c.toArray n)
   #[e,rfl,#[_,e,rfl],call_meets F.slot_list_mul #[_,e,rfl] F.entry_list_mul (F.args_list_mul_2 _ _) (AutoListH.list___mul___list_int_3 l c.toArray n k t p o A) #[e,?_]])
 rw[w];exact#[.ref _,_,b.lnew (t':=s.toks) (r.rep k.toNat) (by rwa[len_rep,Nat.mul_comm]),rfl,q _ b.fresh]
end L2
namespace Att
local macro_rules|`(#[$x,*])=>`(⟨$x,*⟩)
open PySem PySem.W PySem.Calls PyProof.Rows
def JW{P:Params}{h:Heap} : ∀(c:xi)(d:Θ),WellAll P h d (c.map WData.int)->IntsAre d c:=by
 intro c
 induction c with
 |nil =>
  intro d w;rw[map_nil]at w;cases w;exact .nil
 |cons n c e =>
  intro d w;rw[map_cons]at w;cases w with
  |cons a b =>
   cases a;exact .cons _ _ (e _ b)
variable{l:OpenLaw}
def acY{n:Nat}(v:l.most\n){P:Params}{h:Heap}{b:List WData}{j:Θ}
 (k:l.row.toRowW.claim.pre b)(s:WellAll P h j b) :
  ∃a i c,j=[Value.ref a]/\b=[WData.list (c.map WData.int)]/\h.get? a=some { cls:=.type "list",data:=.seq i.toArray }/\IntsAre i c/\c.length<=n:=by
 have t:WShape.hasAll [] b [.list .int]:=(pre_splitW k).1;have hc:l.pre.holds [] { args:=b }:=(pre_splitW k).2;let⟨d,r,rfl,y,x⟩:=hasAllW_cons t;obtain rfl:=hasAllW_nil x;let⟨I,rfl,w⟩:=hasW_list y;let⟨c,rfl⟩:=items_int w;have z:c.length<=n:=by
  unfold OpenLaw.pre at hc;have g:(WTm.not (.lt (.lit (.int (n:Int))) (.len (.arg 0)))).holds [] { args:=[.list (c.map .int)] }:=by
   have g:=(holds_andW hc).1;rw[v]at g;exact g
  have f:=condW_of g (w_not (w_lt w_lit (w_len_list (w_arg rfl))));rw[ak]at f;refine VU λq=>?_;have p:(n:Int)<((c.length:Nat):Int):=by omega
  first
   |(rw[Zs p]at f;exact absurd f vw)
   |(simp at f;omega)
 cases s with
 |cons o m =>
  cases m;cases o with
  |list u e=>exact#[_,_,c,rfl,rfl,u,JW c _ e,z]
def ac8(l:OpenLaw)(a:List WData):l.row.toRowW.claim.post a (.bool true) a=true :=
 postW_of (r:=l.row.toRowW) (X:=(true==true))
  (show WShape.has [] (.bool true) .bool=true by first|rfl|decide|simp[WShape.has,WShape.arms,WShape.armsAll])
  (show(WTm.eq .res (.lit (.bool true))).value [] { args:=a,res:=some (.bool true),after:=a }\(.bool (true==true))from w_eq_bool (w_res rfl) w_lit) rfl
def Xh{n:Nat}{q:Program}{e:Φ}{z:(Str->Ω)->Heap->Prop}{y:World->Heap->Prop}{d:DefRec}
 (H:l.most\n)(B:d.params.defaults=[])
 (call:∀(w:World)(c b:Shared)(k s:Str->Ω)(h:Addr)(o:Obj)(p m t:Value)(a:Addr)(g:Θ)(j:xi),
   Ground q e [] z w c k s b.heap->y w b.heap ->
   b.heap.get? h\o->o.data=.func (docDef d.name d.params d.body d.scope p m t)->b.heap.CodeRec m d.name->k d.name\(.ref h) ->
   b.heap.get? a=some { cls:=.type "list",data:=.seq g.toArray }->IntsAre g j->j.length<=n->b.gens = ↥[] ->
   codeAny (model l.prog w) callerA (.call (.ref h) #[[.ref a],[]]) (λr i=>r=.ok (.ret (.bool true))/\OldK b.heap i.heap/\i.os=b.os/\AllBare i.gens) b) :
  WalkO q e z y l.row.toRowW d [] (λf g=>PySem.call f g):=by
 intro w c b k s G Y h o p m t R kV F hd T v P K x U V Q u D A J;obtain rfl:R=.none:=Dflts.none v B;obtain rfl:kV=.none:=Dflts.noKw v;let⟨a,g,j,rfl,rfl,C,O,S⟩:=acY H Q A;refine enter_call (codeAny_mono (call w c b k s h o p m t a g j G Y F (fd_plain hd) T P C O S K) λr i E=>?_);let⟨rfl,N,M,L⟩:=E;exact#[.inl #[.bool true,.bool true,[],rfl,λ_=>rfl,.bool true,ac8 l _,λ_=>#[List.Pairwise.nil,λ_ I=>(nomatch I)]],N,M,L]
end Att
namespace L2
local macro_rules|`(#[$x,*])=>`(⟨$x,*⟩)
open PySem PySem.Spec PyProof.Rows
theorem Jk:∀{a:Θ}{b:xi},IntsAre a b->zN (b.map V.int) a
 |_,_,.nil=>.nil
 |_,_,.cons n t h=>.cons #[t,rfl] (Jk h)
def Only(H:Hp):Prop:=∀b,H b=none\/∃o I,H b\(.frz o (.lst I))
def agp{P:Program}{w:World}{K:Frag}{p G:Str->Ω}{CX:fv}{k:Nat}{M a:Addr}{fd:FuncData}{x:Str}{Q:Sp}{c:Shared}{i:Θ}{l:xi}
 (KX:K.In c.heap)(Y:c.heap.Ns mainGlobals p)(f:c.heap.Ns builtinsNs G)(L:∀x:Str,x≠"__name__"->G x=bootBuiltins x)(p9:c.heap.NoLimit)(hg:c.gens = ↥[])
 (E:c.heap.get? a=some { cls:=.type "list",data:=.seq i.toArray })(T:IntsAre i l)(S:l.length<=sizeLine)(hr:dZ k callerA)
 (F:∀base:Heap,K.In base->base.Ns mainGlobals p->fK P w K p base CX k M fd [x] Q)(mr:∀(s:Shared)(u:Value),BindsTo s fd #[[u],[]] [(x,u)])
 (gc:∀H:Hp,Only H->SqL K H a (l.map V.int)->Q [.ref a] H (λv _=>v=.bl true) λ_ _ _=>False)
 (r6:∀H e g,CX [] H c (λ_ _ _=>False) e g->False) :
  codeAny (model P w) callerA (.call (.ref M) #[[.ref a],[]]) (λr g=>r=.ok (.ret (.bool true))/\OldK c.heap g.heap/\g.os=c.os/\AllBare g.gens) c:=by
 have R:=Jk T;have o6:=T.length

 have core:∀H:Hp,Only H->SqL K H a (l.map V.int)->HOk P w H c.heap->(∀b,H b≠none->b=a)->(H a≠none->K.lookup a=none) ->
   codeAny (model P w) callerA (.call (.ref M) #[[.ref a],[]]) (λr g=>r=.ok (.ret (.bool true))/\OldK c.heap g.heap/\g.os=c.os/\AllBare g.gens) c:=by
  intro H U hS y X hK;have fN:∀{b:Addr}{o:Obj},c.heap.get? b\o->H b=none->(RL c.heap H).get? b\o:=λe n=>afN e n;have kN:∀{b:Addr}{o:Obj}{Z:Array DictEntry}{B:Nat},c.heap.get? b\o->o.data=.dict Z B->H b=none:=λ{b o Z B}e d=>by
   cases q:H b with
   |none=>rfl
   |some u =>
    have N:b=a:=X b (by rw[q];simp);subst N;rw[E]at e;cases e;have d':Data.seq i.toArray _=Data.dict Z B:=d;cases d'
  have D:∀{b:Addr}{m:Str->Ω},c.heap.Ns b m->(RL c.heap H).Ns b m:=λ{b m}#[o,Z,B,e,d,r]=>#[o,Z,B,fN e (kN e d),d,r];have A:K.In (RL c.heap H):=λb o e=>fN (KX b o e) (by
   cases q:H b with
   |none=>rfl
   |some u =>
    have N:b=a:=X b (by rw[q];simp);subst N;rw[hK (by rw[q];simp)]at e;cases e)
  have hM:Mod K p (RL c.heap H):=#[A,D Y,#[G,D f,L],let⟨mc,h1,h2⟩:=p9;#[mc,D h1,h2]];have e0:Yy P w K p (RL c.heap H) callerA [] c H:=#[rfl,hM,λb o e=>ag2 e,WG (adi _ _),trivial,λb f=>absurd (show b∈([] : Ψ)from f) vc,y,.of_eq hg];refine codeAny_mono ((F _ A (D Y)).run callerA [] c H #[[.ref a],[]] [.ref a] [.ref a] _ _ hr e0 (mr c (.ref a)) (.cons rfl .nil) (gc H U hS)) λr g h=>?_;cases r with
  |error e=>exact(r6 H e g h).elim
  |ok fl =>
   cases fl with
   |next=>exact False.elim h
   |brk=>exact False.elim h
   |cont=>exact False.elim h
   |ret u =>
    let⟨v,W,os,C,O,t,r',q⟩:=h;have q':v=.bl true:=q;subst q';obtain rfl:u=Value.bool true:=r';refine#[rfl,OldK.of_keep λb o e=>?_,os,C];cases q:H b with
    |none=>exact O.keep b o e q (by intro z;exact absurd (show b∈([] : Ψ)from z) vc) vc
    |some u =>
     rcases U b with z|⟨ob,I,z⟩
     .rw[q]at z;cases z
     .have z2:=O.frzs b ob _ z;let⟨e1,_⟩:=y b _ z;let⟨e2,_⟩:=t b _ z2;rw[e]at e1;cases e1;exact e2
 cases J:K.lookup a with
 |some o =>

  have e:=KX a o J;rw[E]at e;cases e;refine core (λ_=>none) (λ_=>.inl rfl) (.inr #[_,i.toArray,_,J,rfl,rfl,rfl,%[aX,o6|S],↑R]) (λb u z=>by have j:(none:Option HO)\u:=z;cases j) (λb z=>absurd rfl z) λz=>absurd rfl z
 |none =>
  refine core (λb=>if b=a then some (.frz { cls:=.type "list",data:=.seq i.toArray } (.lst (l.map V.int)))else none) (λb=>?_) (.inl (.inr #[{ cls:=.type "list",data:=.seq i.toArray },ZY rfl])) (λb u z=>?_) (λb z=>?_) λ_=>J
  .by_cases f:b=a
   .exact .inr #[_,_,ZY f]
   .exact .inl (ZZ f)
  .by_cases f:b=a
   .have j:=(ZY f).symm.trans z;cases j;subst f;exact#[E,%[ak|S],i,_,R,E]
   .have j:=(ZZ f).symm.trans z;cases j
  .by_cases f:b=a
   .exact f
   .exact absurd (ZZ f) z
abbrev KOf{K:Frag}{h:Heap}(_:K.In h):Frag:=K
def abk{l:PySem.W.OpenLaw}{n k:Nat}{q:Program}{c:Φ}{XP:(Str->Ω)->Heap->Prop}{B:World->Heap->Prop}{d:DefRec}{K:Params->Frag}{CX:World->fv}{sp:World->Sp}{x:Str}
 (M:l.most\n)(I:n<=sizeLine)(E:d.params.defaults=[])(L:dZ k callerA)
 (P:∀(w:World)(h:Heap),B w h->(K w.params).In h)
 (F:∀(w:World)(i:Str->Ω)(p:Addr)(h:Heap),(K w.params).In h->h.Ns mainGlobals i->i d.name\(.ref p) ->
   ∃t:FuncData,(∀(s:Shared)(u:Value),BindsTo s t #[[u],[]] [(x,u)]) /\
    ∀base:Heap,(K w.params).In base->base.Ns mainGlobals i->fK l.prog w (K w.params) i base (CX w) k p t [x] (sp w))
 (U:∀(w:World)(H:Hp)(a:Addr)(m:xi),m.length<=n->Only H->SqL (K w.params) H a (m.map V.int)->sp w [.ref a] H (λv _=>v=.bl true) λ_ _ _=>False)
 (D:∀(w:World)(H:Hp)(s:Shared)(e:Value)(r:Shared),CX w [] H s (λ_ _ _=>False) e r->False) :
  PySem.W.WalkO q c XP B l.row.toRowW d [] (λf y=>PySem.call f y):=by
 refine Att.Xh M E λw z j i mb p o pm cd b6 a y m G Y ho hd be Z J X A N=>?_;have C:=P w _ Y;let⟨t,O,S⟩:=F w i p _ C G.T.g Z;exact agp C G.T.g G.T.b G.T.builtins G.T.nolimit N J X (aL A I) L S O (λH R Q=>U w H a m A R Q) λH e r=>D w H j e r
end L2

namespace L2
local macro_rules|`(#[$x,*])=>`(⟨$x,*⟩)
open PySem PySem.Spec PyProof.Rows
abbrev bh:fv:=λ_ _ _ _ _ _=>False
abbrev E0:XK:=λ_ _ _=>False
def Nx{X:Cx} : Passes bh X E0:=λ_ _ _ _ _ _ _ h=>h.elim
structure Fun(K:Frag)(x am:Str)(st:Stmt)(f:Addr)(fd:FuncData):Prop where
 ex:∃(oc:Value)(od:Ξ)(kV b6 pm:Value)(an:Ξ)(ai ct:Value)(eM:Array (Ω)),
  fd=PySem.W.fnOf x am (j9 st) (fP st) (bH st) .none kV b6 pm an ai ct/\K.lookup f=some #[oc,od,.func fd,eM]/\codeIn K ai am
 kp:keepIn K (.ref f)
variable{P:Program}{w:World}{K:Frag}{mg:Str->Ω}{base:Heap}{x am:Str}{st:Stmt}{f:Addr}{fd:FuncData}{N ps:Φ}{sp:Sp}{oc:Value}{eM:Array (Ω)}{A:Around}
def Fun.ok{k:Nat}(F:Fun K x am st f fd)(S:bL N ps (bH st))(d:∀b H Q E,sp b H Q E->b.length=ps.length)
 (j:∀(c:Value)(A:Around)(a:xC)(s:Shared)(H:Hp)(b:Ζ)(Q:VK)(E:XK),dZ k (A.deeper (envOfC am (bH st) s.zs f c))->sp b H Q E ->
   ∃t,PSs (G_ bh P w K mg base N am (bH st) f c A a s H E).nox (fP st) t/\t { nx:=λ_ W=>Q .non W,rt:=Q } (start N b) H):fK P w K mg base bh (k+1) f fd ps sp:=by
 let⟨oc,n,kV,p,m,r,c,o,eM,rfl,e,l⟩:=F.ex;refine ER e l S d λA a s H b Q E g i=>?_;let⟨t,h,q⟩:=j c A a s H b Q E g i;exact#[t,h.nox,q]
def HA{h g:Ξ}{kV e b a d:Value}(l:K.lookup f\#[oc,h,.func (PySem.W.fnOf x am (j9 st) (fP st) (bH st) .none kV e b g a d),eM])
 (c:codeIn K a am)(k:keepIn K (.ref f)):Fun K x am st f (PySem.W.fnOf x am (j9 st) (fP st) (bH st) .none kV e b g a d):=#[#[oc,h,kV,e,b,g,a,d,eM,rfl,l,c],k]
def yL{k:Nat}(a:dZ k A):A.units+1<cLine:=Y3 (Nat.add_le_add_left (by decide:1<=64) _) a.units
def qw(a:Scope)(x:Str):Bool:=(a.names.lookup x).any λk=>k == .local || k == .cell || k == .free
def ZF{a:Scope}(h:qw a x):ky a x:=by
 unfold qw at h;unfold ky;cases e:a.names.lookup x with
 |none=>rw[e]at h;cases h
 |some k=>rw[e]at h;cases k<;>first|exact .inl rfl|exact .inr (.inl rfl)|exact .inr (.inr rfl)|cases h
variable{X:Cx}{O:Pos}{H W:Hp}{a b:Addr}{I:Ζ}{prog:Program}{E:Ε}{s:Shared}{Q:Unit->Shared->Prop}{bt Z:xw}{t:String}{e:Expr}{h:Heap}{fl:Value}{oe o:Obj}{vs:xA}
abbrev n_X(X:Cx)(i:Nat)(x:Str):Prop:=X.N[i]?=some x/\qw X.env.scope x/\zz x/\zk x
def pv(i:Nat)(b:‹(n_X X i x,0)›):PE X (.Name x O) (Lg i):=_w b.1 (ZF b.2.1) b.2.2.1 b.2.2.2
def MG{A B:Prop}(h:B):if false=true then A else B:=by
 rwa[ZZ bx]
def NY{A B:Prop}(h:A):if true=true then A else B:=by
 rwa[ZY rfl]
def zT(H W:Hp):Prop:=∀b o,H b\o->W b\o
def zT.refl(H:Hp):zT H H:=λ_ _ h=>h
def zT.trans{Y d:Hp}(a:zT H Y)(b:zT Y d):zT H d:=λc o h=>b c o (a c o h)
def zT.free(e:zT H W){l:Addr}(h:W l=Option.none):H l=Option.none:=by
 cases q:H l with
 |none=>rfl
 |some o =>
  rw[e l o q]at h;cases h
def zT.seq(e:zT H W)(h:SqL K H a I):SqL K W a I:=by
 rcases h with(h|⟨o,h⟩)|h
 .exact .inl (.inl (e _ _ h))
 .exact .inl (.inr #[o,e _ _ h])
 .exact .inr h
def Bd(i:Int):Prop:=i.natAbs<2^8000
def Bd.log2{i:Int}(h:Bd i):i.natAbs.log2<8000:=by
 by_cases a:i.natAbs=0
 .rw[a,Nat.log2_zero];exact TU _
 .exact(Nat.log2_lt a).mpr h
def Bd.bits{i:Int}(h:Bd i):Builtin.Int.intBits i<=2^20:=by
 have e:(2:Nat)^20=1048576:=by decide
 have:=h.log2;unfold Builtin.Int.intBits;split
 .exact aZ _
 .lia
def Tj:OpR X (binaryOp .Mult) (rI (λi j=>Bd i/\Bd j) λi j=>.int (i*j)):=jI λ_ _ _ _ _ _ _ a q=>mul_int q (.of_bits a.1.bits a.2.bits)
def afJ:OpR X (binaryOp .FloorDiv) (rI (λ_ j=>j≠0/\Bd j) λi j=>.int (i.fdiv j)):=jI λ_ _ _ _ _ _ _ a q=>floordiv_int a.1 q (.inl (PyProof.noPylong_of_log2 (by have:=a.2.log2;exact Tk this vw)))
def WK:jx X (.builtin "isinstance") (λI H Q=>∃x c d t b,I=[x,c]/\((∃T,c=.ty T/\d=Value.type T)\/∃C,c=.ref C/\d=Value.ref C)/\HY X.K H x t/\kitOne X.K t d=some b/\Q (.bl b) H):=by
 intro U s G H I l Q a r h;let⟨x,c,d,t,b,rfl,j,g,e,q⟩:=h;let⟨u,v,rfl,i,f⟩:=r.two;have k:v=d:=by
  rcases j with⟨T,rfl,rfl⟩|⟨T,rfl,rfl⟩
  .exact f
  .exact f
 subst k;exact acd a i g e λm=>#[.bl b,H,a.tok _,rfl,q]
def Yw:jx X (.builtin "sorted") (λI H Q=>∃l g,I=[.ref l]/\SqL X.K H l (g.map V.int)/\g.length<64/\∀(i:xi)p,H p=none->i.Perm g->i.Pairwise (· <= ·)->Q (.ref p) (upd H p (.lst (i.map V.int)))):=by
 intro U s G H I C Q c r h;let⟨l,g,rfl,v,j,q⟩:=h;let⟨u,rfl,t⟩:=r.one;cases t;let⟨d,k,p,m⟩:=c.list v;have x:=intsAre_of k;have z:d.length=g.length:=by have:=k.length;simpa using this.symm
 refine sorted_ints (vs:=d) p.isList x (Y3 (WG z) j) λout f B n A=>?_;let⟨e,w⟩:=sortedAll_at s.heap d out;have y:H (s.zs+1)=none:=c.hok.fresh (Xs _);refine#[.ref _,_,c.laid (a:=s.zs+1) (o:=.lst (f.map V.int)) (t':=s.toks) (λb u e=>sortedAll_old e) (Xs _) ?_,rfl,q f _ y n A];refine#[?_,out.toList,e,Jk B,w];rw[ak,n.length_eq];rw[ak]at m;exact m
theorem Rr{d t:Addr}{a:xA}(q:t≠d):∀(n i:Nat)(s:Shared)(Q:Θ->Shared->Prop),s.heap.IsListIter d t i->PlainL s.heap t a->i+n<=a.size ->
  (∀j,j.IsListIter d t (i+n)->Heap.SameBut d s.heap j->Q ((a.toList.drop i).take n) { s with heap:=j })->wpAny (model prog w) A (draw (.ref d) n) Q E s
 |0,i,s,Q,c,_,_,h=>by
  show wpAny _ _ (pure []) Q E s;exact ZT ↑(h s.heap c (Heap.SameBut.refl ..))
 |n+1,i,s,Q,c,m,z,h=>by
  have u:i<a.size:=by lia
  show wpAny _ _ (pyNext (.ref d) >>= _) Q E s;refine ZU (wpAny_pyNext_list_item c m.isList (x:=a[i]) (by simp[u]) λg y l=>?_);have v:PlainL g t a:=by
   let⟨o,k,e,r⟩:=m;exact#[o,k,(l.2 t q).trans e,r]
  refine ZU (wpAny_holding (Rr q n (i+1) _ _ y v vy λf B b=>ZT ?_));have hd:a.toList.drop i=a[i]::a.toList.drop (i+1):=by simp[QP,u]
  have:=h f (by rwa[show i+(n+1)=i+1+n by lia]) (l.trans b);rw[hd,List.take_succ_cons]at this;exact this
def Jj{t:Addr}{a:xA}{Q:Θ->Shared->Prop}(x:A.handled=none)(i:PlainL s.heap t a)
 (y:∀n,Heap.ExtBut s.zs s.heap n->Q a.toList { s with heap:=n }):wpAny (model prog w) A (unpackItems (.ref t) a.size none) Q E s:=by
 have p:t≠s.zs:=by let⟨o,_,v,_⟩:=i;exact aQ (aK v)
 unfold unpackItems;refine ZU ?_
 .unfold notIterableAtAll;refine ZU (wpAny_specialOf i.isList.typeIs slot_list_iter.lookup ?_);refine ZT ?_;simp only[XW,if_false];refine ZU (wpAny_holding (wpAny_pyIter_list i.isList ?_));have g:PlainL (s.heap.push { cls:=.type "list_iterator",data:=.fields ↥[.ref t,.int 0 0] }) t a:=by
   let⟨o,k,e,r⟩:=i;exact#[o,k,aH _ e,r]
  refine ZU (wpAny_holding (Rr p a.size 0 _ _ #[_,aW _ rfl,rfl,rfl] g vy λf u j=>?_));have h:List.take a.size (List.drop 0 a.toList)=a.toList:=by
   rw[drop_zero];exact Q1 vc
  rw[h];rw[ZZ vc];have q:PlainL f t a:=by
   let⟨o,k,e,r⟩:=g;exact#[o,k,(j.2 t p).trans e,r]
  refine ZU (wpAny_holding (wpAny_pyNext_list_end x u q.isList vc λd c=>?_));simp only[Option.isSome_none,XW,if_false];refine ZT (y d λb o m e=>c b o m (j.extBut b o m (aH _ e)))
def Hi{env:Env}{d}{t:Addr}{a:xA}(i:A.handled=none)(f:PlainL s.heap t a)
 (g:(assignEach bt env).length=a.size)(e:(assignEach bt env).findIdx? (·.1)=none)
 (h:∀c,Heap.ExtBut s.zs s.heap c->wpAny (model prog w) A (assignInOrder ((assignEach bt env).map (·.2)) a.toList) Q E { s with heap:=c }) :
  wpAny (model prog w) A (assign (.Tuple bt d O) env (.ref t)) Q E s:=by
 rw[assign_Tuple];refine ZU (wpAny_standAt ?_);unfold unpack;rw[g,e];exact ZU (wpAny_holding (Jj i f h))
def Pt(K:Frag)(n:Nat)(t:fj):TG:=λv G H Q=>∃a I,v=.ref a/\SqL K H a I/\I.length=n/\t I G H Q
def ahg{k:Nat}{t:fj}{n:Nat}(hc:X.calm)(h:PGs X Z t)
 (m:‹(assignEach Z X.env).length=n›)(x:‹zD X Z›):PG X (.Tuple Z k O) (Pt X.K n t):=by
 intro U s G H v u Q c r hw;let⟨a,I,w,l,p,hw⟩:=hw;subst w;cases r;let⟨g,d,j,z⟩:=c.list l;refine Hi (c.ok.hd hc) j (by simp[m,<- p,d.length]) x λq i=>?_;have y:Inv X U G H { s with heap:=q }:=c.kept (t':=s.toks) λb o e=>i b o (aQ (aK e)) e;exact h U _ G H I _ Q y ↑d hw
def zT.upd{H:Hp}{p:Addr}{o:HO}(a:H p=none):zT H (upd H p o):=λb u e=>by
 rw[b_ (mG e a)];exact e
def IxR.imp{r a:R2}(h:IxR X r)(i:∀x y H Q,a x y H Q->r x y H Q):IxR X a:=by
 intro b O U s G H x y v u Q I d c q e;exact h _ _ _ _ _ _ _ _ _ _ _ I d c (i _ _ _ _ q) e
def Sn:R2:=λx y H Q=>∃p I i v,x=.ref p/\y=.int i/\H p=some (.tup I)/\dP I i=some v/\Q v H
def Uj:IxR X Sn:=Ei.imp λx y H Q e=>by let⟨p,I,i,v,a,b,c,d⟩:=e;exact#[p,I,i,v,a,b,.of c,d]
def jx.imp{f:Value}{r b:Ζ->Hp->VK->Prop}(h:jx X f r)(i:∀I H Q,b I H Q->r I H Q):jx X f b:=λU s G H I c Q a d q=>h U s G H I c Q a d (i _ _ _ q)
def nX(H:Hp):V->Option String
 |.non=>some "NoneType"
 |.bl _=>some "bool"
 |.int _=>some "int"
 |.str _=>some "str"
 |.ref a=>match H a with
  |some (.lst _)=>some "list"
  |some (.tup _)=>some "tuple"
  |some (.dK _)=>some "dict"
  |_=>none
 |_=>none
def _u{x:V}(h:nX H x\t):HY K H x (.type t):=by
 cases x with
 |non=>cases h;exact .non
 |bl=>cases h;exact .bl _
 |int=>cases h;exact .int _
 |str=>cases h;exact .str _
 |byt=>cases h
 |flt=>cases h
 |ty=>cases h
 |ref a =>
  have h:(match H a with
   |some (.lst _)=>some "list"
   |some (.tup _)=>some "tuple"
   |some (.dK _)=>some "dict"
   |_=>none)=some t:=h
  split at h
  .cases h;exact .lst (by assumption)
  .cases h;exact .tup (by assumption)
  .cases h;exact .dK (by assumption)
  .cases h
def Uz(t T:String):Bool:=(t==T) || (t=="bool" && T=="int")
def IX{T:String}(a:t∈["NoneType","bool","int","str","list","tuple","dict"])(b:T∈["bool","int","str","list","tuple","dict"]):kitOne K (.type t) (.type T)\(Uz t T):=by
 simp only[YU,UV,or_false]at a b;rcases a with rfl|rfl|rfl|rfl|rfl|rfl|rfl<;>rcases b with rfl|rfl|rfl|rfl|rfl|rfl<;>with_unfolding_all rfl
def YE{x:V}(h:nX H x\t):t∈["NoneType","bool","int","str","list","tuple","dict"]:=by
 cases x with
 |non=>cases h;decide
 |bl=>cases h;decide
 |int=>cases h;decide
 |str=>cases h;decide
 |byt=>cases h
 |flt=>cases h
 |ty=>cases h
 |ref a =>
  have h:(match H a with
   |some (.lst _)=>some "list"
   |some (.tup _)=>some "tuple"
   |some (.dK _)=>some "dict"
   |_=>none)=some t:=h
  split at h<;>cases h<;>decide
def ON:Ζ->Hp->VK->Prop:=λI H Q=>∃x T t,I=[x,.ty T]/\T∈["bool","int","str","list","tuple","dict"]/\nX H x=some t/\Q (.bl (Uz t T)) H
def zf:jx X (.builtin "isinstance") ON:=WK.imp λI H Q e=>by let⟨x,T,t,a,b,c,d⟩:=e;exact#[x,.ty T,.type T,.type t,_,a,.inl #[T,rfl,rfl],_u c,IX (YE c) b,d]
def PG.imp{t a:TG}(h:PG X e t)(i:∀v G H Q,a v G H Q->t v G H Q):PG X e a:=λU s G H v u Q I r q=>h U s G H v u Q I r (i _ _ _ _ q)
def Sf(n:Nat)(t:fj):TG:=λv G H Q=>∃a I,v=.ref a/\H a=some (.tup I)/\I.length=n/\t I G H Q
def ag0{k:Nat}{t:fj}{n:Nat}(c:X.calm)(h:PGs X Z t)(b:‹(assignEach Z X.env).length=n›)(i:‹zD X Z›):PG X (.Tuple Z k O) (Sf n t) :=
 (HQ c h b i).imp λv G H Q d=>by let⟨a,I,g,f,e⟩:=d;exact#[a,I,g,.of f,e]
def Rj:Ζ->Hp->VK->Prop:=λI H Q=>∃l a,I=[.ref l]/\H l=some (.lst (a.map V.int))/\a.length<64/\∀(b:xi)p,H p=none->b.Perm a->b.Pairwise (· <= ·)->Q (.ref p) (upd H p (.lst (b.map V.int)))
def acj:jx X (.builtin "sorted") Rj:=Yw.imp λI H Q e=>by let⟨l,d,a,b,c⟩:=e;exact#[l,d,a,.of b,c]
def OkF(P:Program)(w:World)(K:Frag)(mg:Str->Ω)(base:Heap)(k:Nat)(x:Str)(ps:Φ)(sp:Sp):Prop :=
 ∃f fd,fK P w K mg base bh k f fd ps sp/\Binds K fd ps []/\mg x=some (.ref f)/\keepIn K (.ref f)
def cF(K:Frag)(mg:Str->Ω)(x:Str)(st:Stmt)(ps:Φ):Prop :=
 ∃f fd,Fun K x x st f fd/\(∀a:Θ,a.length=ps.length->bindArgs fd #[a,[]]=pure (ps.zip a))/\mg x=some (.ref f)
def cF.ok{k:Nat}(h:cF K mg x st ps)
 (d:∀f fd,Fun K x x st f fd->fK P w K mg base bh k f fd ps sp):OkF P w K mg base k x ps sp:=by
 let⟨f,fd,a,b,c⟩:=h;exact#[f,fd,d f fd a,.all b,c,a.kp]
def ahD{m i:Ξ}{kV g d b e:Value}(X:K.In h)(G:h.Ns mainGlobals mg)
 (a:nsIn K mainGlobals x\(some (.ref f)))(l:K.lookup f\#[oc,m,.func (PySem.W.fnOf x x (j9 st) (fP st) (bH st) .none kV g d i b e),eM])
 (c:codeIn K b x)(k:keepIn K (.ref f))
 (n:∀(kV g d:Value)(i:Ξ)(b e:Value)(j:Θ),j.length=ps.length->bindArgs (PySem.W.fnOf x x (j9 st) (fP st) (bH st) .none kV g d i b e) #[j,[]]=pure (ps.zip j)):cF K mg x st ps :=
 #[f,_,HA l c k,n kV g d i b e,mg_of X G a]
def lY(K:Frag):Sp:=λvs H Q _=>∃(a:Addr)(b:xi),vs=[.ref a]/\SqL K H a (b.map V.int)/\b.length<=63/\Only H/\∀W,Q (.bl true) W
def ao9{l:PySem.W.OpenLaw}{k:Nat}{q:Program}{b:Φ}{E:(Str->Ω)->Heap->Prop}{i:World->Heap->Prop}{d:DefRec}{K:Params->Frag}(r:l.most\63)(o:d.params.defaults=[])
 (p:dZ k callerA)(B:∀(w:World)(h:Heap),i w h->(K w.params).In h)
 (F:∀(w:World)(mg:Str->Ω)(c:Addr)(h:Heap),(K w.params).In h->h.Ns mainGlobals mg->mg d.name\(.ref c) ->
   ∃st,cF (K w.params) mg d.name st [x]/\∀(base:Heap)(f:Addr)(fd:FuncData),Fun (K w.params) d.name d.name st f fd->fK l.prog w (K w.params) mg base bh k f fd [x] (lY (K w.params))) :
  PySem.W.WalkO q b E i l.row.toRowW d [] (λf vs=>PySem.call f vs):=by
 refine L2.abk (n:=63) (k:=k) (x:=x) (CX:=λ_=>bh) (sp:=λw=>lY (K w.params)) r vw o p B (λw mg c h H G g=>?_) (λ_ _ a m v D C=>#[a,m,rfl,C,v,D,λ_=>rfl]) λ_ _ _ _ _ z=>z;let⟨st,⟨f,fd,y,A,t⟩,j⟩:=F w mg c h H G g;rw[t]at g;have e:f=c:=by injection g with z;injection z
 subst e;exact#[fd,λs u=>.of_eq (A [u] rfl),λbase _ _=>j base f fd y]
section
variable{X:Cx}{p O:Pos}{e:Expr}{Z:xw}{t:TA}{x:Str}{k:Nat}{ps:Φ}{sp:Sp}
def Lp(sp:Sp)(t:TA):TE:=λG H Q=>t G H λvs Y=>sp vs Y Q E0
def lK(a:OkF X.prog X.w X.K X.mg X.base k x ps sp)(d:dZ k X.A)(i:Gl X x)(l:PA X (e::Z) t)(m:‹(zz x,2)›)
 (j:‹zw X e Z›)(n:‹zb X O Z›):PE X (.Call (.Name x p) (e::Z) [] O) (Lp sp t):=by
 let⟨f,fd,F,b,g,c⟩:=a;intro U s G H Q I h;refine _9 F d i g c b .nil Nx l m j n U s G H Q I ?_;show t G H λvs Y=>sp (vs++[]) Y Q E0;simp only[append_nil];exact h
end
def VC(a:Int):(if a<0 then -a else a)=((a.natAbs:Nat):Int):=by split<;>omega
def vQ(a:Int){b:Int}(h:0<b):fdiv a b=a/b:=mu a (XY h)
def TrD(h base:Heap)(e:Addr)(a:Value)(d:Ξ)(fl:Value):Prop :=
 ∃oe vs T oT b,h.get? e\oe/\(oe.cls=a/\oe.dict=d)/\oe.data=.fields vs/\vs[1]?=some (.ref T)/\base.get? T=none/\T≠e/\h.get? T=some oT/\oT.data=.fields b/\b[3]?=some fl
def yP(base:Heap)(l:xC)(e:Addr)(a:Value)(d:Ξ)(fl:Value)(h:Heap):Prop :=
 base.StaysIn h/\base.get? e=none/\h.FunFrames base l/\TrD h base e a d fl
def yP.first{l:xC}{e:Addr}{a:Value}{d:Ξ}(x:yP base l e a d fl h):∃oe vs,h.get? e\oe/\oe.cls=a/\oe.dict=d/\oe.data=.fields vs :=
 by let⟨_,_,_,oe,vs,_,_,_,c,b,hd,_⟩:=x;exact#[oe,vs,c,b.1,b.2,hd]
section
variable{M:Model}{A:Around}{E:Ε}{s:Shared}{base:Heap}{env:Env}{outer l:xC}{L e:Addr}{cls:Value}{d:Ξ}{Q:Unit->Shared->Prop}
def Lk(o:Obj)(f:xA->xA):(Obj.mapFields f o).dict=o.dict:=by
 unfold Obj.mapFields;split<;>rfl
def FR{head:Value}{K:Bool}(O:A.frames\(env::outer))(k:s.heap.FunFrames base (env::outer))(J:env.frame\L)(n:s.heap.get? e\oe)
 (N:base.StaysIn s.heap)(y:base.get? e=none)(hd:oe.data=.fields vs)(i:1<vs.size)(h:∀p,yP base (env::outer) e oe.cls oe.dict (rawInt L) p->s.heap.UpToSlots p->Q () { s with heap:=p }) :
  wpAny M A (do let a <- frameOf env;let j <- entryPlaceOf L K;let b <- EntryCells.newEntry head a .none (rawInt L) .none j;setField (.ref e) 1 b) Q E s:=by
 have d:e∉(env::outer).filterMap (·.frame):=λz=>by
  let⟨_,o,w,m⟩:=k.mem z;rw[n]at w;cases w;exact m vs hd
 refine ZU (wpAny_frameOf_fun O k J λg l=>ZU (wpAny_entryPlaceOf λj G=>?_));unfold EntryCells.newEntry newFields;refine ZU (wpAny_newObj_type ?_ (G.sizeOk5 _ _ _ _ _));have B:g.get? e\oe:=(l.2.1 e d).trans n;have u:base.StaysIn g:=λb o q=>(l.2.1 b λz=>by rw[(k.mem z).1]at q;cases q).trans (N b o q);generalize C:({ cls:=.type "traceback",dict:=none,data:=.fields ([head,.ref L,.none,rawInt L,.none]++(if j.isEmpty then replicate 6 Value.none else j)).toArray } : Obj)=ot;have v:g.objs.size≠e:=UZ (aK B);have D:(g.push ot).get? e\oe:=aH _ B;refine wpAny_setField D hd i (h _ ?_ ?_)
 all_goals
  have F:=Obj.data_mapFields hd (·.setIfInBounds 1 (Value.ref g.objs.size));have P:=Heap.get?_update_self (Obj.mapFields (·.setIfInBounds 1 (Value.ref g.objs.size))) D (Obj.isFreed_of_fields F);have c:∀b o,b≠e->g.get? b\o->((g.push ot).update e (Obj.mapFields (·.setIfInBounds 1 (Value.ref g.objs.size)))).get? b\o:=λb o I q=>by
   rw[Heap.get?_update_other _ _ (Ne.symm I)];exact aH _ q
  have t:∀b o,s.heap.get? b\o->(∀H,o.data≠.fields H)->b≠e:=λb o q f z=>by
   rw[z,n]at q;cases q;exact f vs hd
 .refine#[λb o q=>c b o (λz=>by rw[z,y]at q;cases q) (u b o q),y,k.of_keeps λb o q f=>?_,?_]
  .let⟨r,z⟩:=l.2.2 b o q;exact#[_,c b _ (t b o q f) z,rfl]
  .refine#[_,_,g.objs.size,ot,_,P,#[Obj.cls_mapFields _ _,Lk _ _],F,by simp[i],u.fresh,v,?_,%[<- C|_],?_]
   .rw[Heap.get?_update_other _ _ (Ne.symm v)];exact aW g (by rw[<- C];rfl)
   .first|(simp;done)|(rcases G with rfl|⟨_,_,_,_,_,_,_,rfl⟩<;>simp)
 .intro b o q f;let⟨r,z⟩:=l.2.2 b o q;exact#[r,c b _ (t b o q f) z]
def Zn(k:A.frames\(env::outer))(g:s.heap.FunFrames base (env::outer))(b:env.frame\L)(d:s.heap.get? e\oe)
 (j:base.StaysIn s.heap)(i:base.get? e=none)(hd:oe.data=.fields vs)(f:vs[1]?\.none)(h:∀a,yP base (env::outer) e oe.cls oe.dict (rawInt L) a->s.heap.UpToSlots a->Q () { s with heap:=a }) :
  wpAny M A (noteFrame (.ref e) env) Q E s:=by
 unfold noteFrame;simp only[b];refine ZU (wpAny_field d hd f ?_);rw[ZZ vw];exact FR k g b d j i hd (Array.getElem?_eq_some_iff.mp f).1 h
def Rg(H:A.frames\(env::outer))(m:env.frame\L)(x:yP base (env::outer) e cls d .none s.heap)
 (h:∀f,yP base (env::outer) e cls d (rawInt L) f->s.heap.UpToSlots f->Q () { s with heap:=f }):wpAny M A (noteFrame (.ref e) env) Q E s:=by
 let⟨G,F,C,oe,vs,T,oT,v,n,⟨hc,j⟩,hd,r,w,B,k,i,p⟩:=x;subst hc j;unfold noteFrame;simp only[m];refine ZU (wpAny_field n hd r ?_);rw[ZY (show(Value.ref T != Value.none)=true from by simp)];refine ZU (wpAny_field k i p ?_);rw[ZZ (show ¬((Value.none==rawInt L)=true)from by simp[rawInt])];refine ZU (wpAny_setField k i (Array.getElem?_eq_some_iff.mp p).1 ?_);have g:∀b,b≠T->(s.heap.update T (Obj.mapFields (·.setIfInBounds 3 Value.none))).get? b=s.heap.get? b:=λb D=>Heap.get?_update_other _ _ (Ne.symm D);have l:∀b o,s.heap.get? b\o->(∀t,o.data≠.fields t)->b≠T:=λb o q a z=>by
  rw[z,k]at q;cases q;exact a v i
 refine FR (s:={ s with heap:=_ }) H (C.of_keeps λb o q a=>#[o,(g b (l b o q a)).trans q,rfl]) m ((g e (Ne.symm B)).trans n)
  (λb o q=>(g b λz=>by rw[z,w]at q;cases q).trans (G b o q)) F hd (Array.getElem?_eq_some_iff.mp r).1 λf y u=>h f y λb o q a=>u b o ((g b (l b o q a)).trans q) a
def lX(x:yP base l e cls d fl s.heap)(h:∀j,yP base l e cls d .none j->s.heap.UpToSlots j->Q () { s with heap:=j }):wpAny M A (setFlight (.ref e) none) Q E s:=by
 let⟨F,D,y,oe,vs,T,oT,m,u,hc,hd,v,p,r,i,c,C⟩:=x;have k:3<m.size:=(Array.getElem?_eq_some_iff.mp C).1;have g:∀b,b≠T->(s.heap.update T (Obj.mapFields (·.setIfInBounds 3 ((none:Ξ).elim Value.none λf=>rawInt f)))).get? b=s.heap.get? b:=λb B=>Heap.get?_update_other _ _ (Ne.symm B);have n:∀b o,s.heap.get? b\o->(∀w,o.data≠.fields w)->b≠T:=λb o q a z=>by
  rw[z,i]at q;cases q;exact a m c
 unfold setFlight;refine ZU (wpAny_field u hd v ?_);rw[ZY (show(Value.ref T != Value.none)=true from by simp)];refine wpAny_setField i c k (h _ #[λb o q=>(g b λz=>by rw[z,p]at q;cases q).trans (F b o q),D,y.of_keeps λb o q a=>#[o,(g b (n b o q a)).trans q,rfl],?_] λb o q a=>#[o.slots,(g b (n b o q a)).trans q]);exact#[oe,vs,T,_,_,(g e (Ne.symm r)).trans u,hc,hd,v,p,r,Heap.get?_update_self _ i (Obj.isFreed_of_fields (Obj.data_mapFields c _)),Obj.data_mapFields c _,by simp[k]]
def yP.pop(x:yP base (env::outer) e cls d fl h):yP base outer e cls d fl h:=#[x.1,x.2.1,x.2.2.1.2.2,x.2.2.2]
def aeU(j:A.frames\(env::outer))(g:env.frame\L)(x:yP base (env::outer) e cls d .none s.heap)
 (h:∀a,yP base outer e cls d .none a->s.heap.UpToSlots a->Q () { s with heap:=a }):wpAny M A (leaving env (.ref e)) Q E s:=by
 unfold leaving;exact ZU (Rg j g x λk y c=>lX y λi z f=>h i z.pop (c.trans f))
def acK{h0:Heap}(t:A.frames\(env::outer))(m:env.frame\L)(i:base.StaysIn h0)(l:h0.FunFrames base (env::outer))(d:∀b o,h0.get? b\o->s.heap.get? b\o)
 (a:h0.get? e=none)(n:s.heap.get? e\oe)(hd:oe.data=.fields vs)(g:vs[1]?\.none)
 (h:∀c,yP base outer e oe.cls oe.dict .none c->s.heap.UpToSlots c->Q () { s with heap:=c }):wpAny M A (leaving env (.ref e)) Q E s:=by
 have r:base.get? e=none:=by
  cases q:base.get? e with
  |none=>rfl
  |some o=>have:=i e o q;rw[a]at this;cases this
 unfold leaving;exact ZU (Zn t (l.of_keeps λb o q _=>#[o,d b o q,rfl]) m n (λb o q=>d b o (i b o q)) r hd g λg y j=>lX y λp z k=>h p z.pop (j.trans k))
end
def fJ.there{o:HO}(x:fJ P w H h a o):∃b,h.get? a\b:=by
 cases o with
 |lst I=>let⟨_,_,_,_,e⟩:=x;exact#[_,e]
 |tup I=>let⟨_,_,_,o,e,_⟩:=x;exact#[_,e]
 |dK c=>let⟨_,_,_,_,o,_,_,e,_⟩:=x;exact#[_,e]
 |set S n=>let⟨o,_,_,_,e,_⟩:=x;exact#[_,e]
 |ins C j d=>let⟨_,_,_,e,_⟩:=x;exact#[_,e]
 |own y=>exact x
 |xd d=>let⟨_,⟨_,_,_,e,_⟩,_⟩:=x;exact#[_,e]
 |rng lo i=>let⟨_,_,_,e⟩:=x;exact#[_,e]
 |frz b u=>let⟨e,_⟩:=x;exact#[_,e]
 |tbl ps=>exact#[_,(show h.get? a\_ from x)]
 |met f y=>exact#[_,(show h.get? a\_ from x)]
 |ext g=>let⟨_,e,_⟩:=x;exact e
structure Fly(P:Program)(w:World)(l:xC)(H:Hp)(s:Shared)(a:Addr)(C:Value)(W:Hp)(s':Shared)(B:Heap)(d:Ξ):Prop where
 os:s'.os=s.os
 bare:AllBare s'.gens
 new:s.heap.get? a=none
 un:Un (cX l) [] H W s.heap s'.heap
 hok:HOk P w W s'.heap
 frf:∀b∈cX l,W b=none
 fl:yP B l a C d .none s'.heap
 cov:∀b o,s'.heap.get? b\o->b∉cX l->((∃u,s.heap.get? b\u)\/∃u,W b\u)->B.get? b\o
section
variable{P:Program}{w:World}{l:xC}{H W:Hp}{s s':Shared}{a:Addr}{C:Value}{B:Heap}{d:Ξ}{h':Heap}
def Fly.trk(F:Fly P w l H s a C W s' B d){u:HO}(e:W b\u)(q:s'.heap.get? b\o):B.get? b\o :=
 F.cov b o q (λz=>by rw[F.frf b z]at e;cases e) (.inr #[u,e])
def Fly.hok'(F:Fly P w l H s a C W s' B d)(k:∀b o,B.get? b\o->h'.get? b\o):HOk P w W h':=λb u e =>
 (F.hok b u e).stay (λc v f q=>k c v (by
  rcases f with z|z
  .subst z;exact F.trk e q
  .exact F.trk z q)) (λ_ q=>q) λ_ _ q=>q
def Fly.un'(F:Fly P w l H s a C W s' B d)(k:∀b o,B.get? b\o->h'.get? b\o)(i:s'.heap.UpToSlots h'):Un (cX l) [] H W s.heap h':=by
 have j:∀b∈cX l,∀o,s'.heap.get? b\o->∀vs,o.data≠.fields vs:=λb c o e=>by
  let⟨_,h,f,d⟩:=F.fl.2.2.1.mem c;rw[e]at f;cases f;exact d
 refine#[λb o q n c g=>k b o (F.cov b o (F.un.keep b o q n c g) c (.inl #[o,q])),λb o q n c g=>?_,F.un.free,λb o q g=>?_,F.un.tups,F.un.frzs,F.un.tbls]
 .let⟨p,e⟩:=F.un.slot b o q n c g;let⟨m,f⟩:=i b _ e (j b c _ e);exact#[m,f]
 .let⟨h,e⟩:=F.un.there b o q g;by_cases c:b∈cX l
  .let⟨m,f⟩:=i b _ e (j b c _ e);exact#[_,f]
  .exact#[h,k b h (F.cov b h e c (.inl #[o,q]))]
end
section
variable{X:Cx}{U:Δ}{G:List wv}{H W:Hp}{s s':Shared}{a:Addr}{C:Value}{B:Heap}{d:Ξ}{h':Heap}
def Inv.flown(I:↥X)(F:Fly X.prog X.w X.stack H s a C W s' B d)(k:∀b o,B.get? b\o->h'.get? b\o)(e:s'.heap.UpToSlots h'):Inv X U G W { s' with heap:=h' } :=
 I.call' (s':={ s' with heap:=h' }) (ch:=[]) F.os (F.un' k e) (F.hok' k) F.bare λ_ z=>nomatch z
def Inv.old(I:↥X)(a:X.ex=[])(e:X.s₀.heap.get? b\o):(∃u,s.heap.get? b\u)/\b≠X.env.locals:=by
 let⟨u,q⟩:=I.base.there b o e (by rw[a];simp);exact#[#[u,q],aQ (aR (aK e) I.ok.above)]
def Inv.nostk(I:↥X)(c:b≠X.env.locals)(a:b∉X.fs):b∉cX X.stack:=λz=>by
 rcases YU.mp (I.stkSub b z)with e|e
 .exact c e
 .exact a e
def Inv.flyOut(I:↥X)(h:X.ex=[])(F:Fly X.prog X.w X.stack H s a C W s' B d)(fl:yP B X.outer a C d .none h')(k:s'.heap.UpToSlots h') :
  Fly X.prog X.w X.outer X.H₀ X.s₀ a C W { s' with heap:=h' } B d:=by
 have J:=I.flown F fl.1 k;refine#[J.os,J.bare,?_,by have:=J.base;rw[h]at this;exact this,J.hok,λb f=>?_,fl,λb o e f hc=>?_]
 .cases q:X.s₀.heap.get? a with
  |none=>rfl
  |some o =>
   let⟨⟨u,z⟩,_⟩:=I.old h q;rw[F.new]at z;cases z
 .let⟨_,o,l,_⟩:=I.ok.funs.mem f;exact J.base.free b o l (I.ok.frf b f) λz=>I.ok.exfs b z f
 .rcases hc with⟨u,q⟩|⟨u,q⟩
  .let⟨⟨v,z⟩,n⟩:=I.old h q;let⟨g,j⟩:=F.un.there b v z vc;have y:=F.cov b g j (I.nostk n f) (.inl #[v,z]);have i:=fl.1 b g y;rw[show({ s' with heap:=h' } : Shared).heap.get? b=h'.get? b from rfl,i]at e;cases e;exact y
  .let⟨g,j⟩:=(F.hok b u q).there;have y:=F.trk q j;have i:=fl.1 b g y;rw[show({ s' with heap:=h' } : Shared).heap.get? b=h'.get? b from rfl,i]at e;cases e;exact y
end
def eL(P:Program)(w:World):fv:=λl H s E e b=>∃a C d W B,e=.ref a/\Fly P w l H s a C W b B d/\E C d W
def i4(X:Cx)(c:Value->Ξ->L2.St->Hp->Prop):Prop :=
 ∀U G H s a C W b B d,↥X->Fly X.prog X.w X.stack H s a C W b B d->c C d G W->X.xe (.ref a) b
variable{E:XK}{J:Scope}{cd:Value}{outer:xC}{C:Addr}
def FH:i4 (G_ (eL P w) P w K mg base N am J f cd A outer s H E) (λC d _ W=>E C d W):=by
 intro U G Y c a C W e B d I F q;show wpAny _ _ (leaving _ (.ref a)) _ _ _;refine aeU (outer:=outer) I.ok.frames rfl F.fl λg fl b=>?_;exact#[a,C,d,W,B,rfl,I.flyOut rfl F fl b,q]
def Fun.okX{k:Nat}(F:Fun K x am st f fd)(S:bL N ps (bH st))(b:∀vs H Q E,sp vs H Q E->vs.length=ps.length)
 (g:∀(a:Value)(A:Around)(outer:xC)(s:Shared)(H:Hp)(vs:Ζ)(Q:VK)(E:XK),dZ k (A.deeper (envOfC am (bH st) s.zs f a))->sp vs H Q E ->
   ∃t,PSs (G_ (eL P w) P w K mg base N am (bH st) f a A outer s H E) (fP st) t/\t { nx:=λ_ W=>Q .non W,rt:=Q } (L2.start N vs) H):fK P w K mg base (eL P w) (k+1) f fd ps sp:=by
 let⟨oc,j,kV,m,i,n,a,l,eM,rfl,c,h⟩:=F.ex;exact ER c h S b λA outer s H vs Q E d e=>g a A outer s H vs Q E d e
def nc(P:Program)(w:World)(K:Frag)(mg:Str->Ω)(base:Heap)(k:Nat)(x:Str)(ps:Φ)(sp:Sp):Prop :=
 ∃f fd,fK P w K mg base (eL P w) k f fd ps sp/\Binds K fd ps []/\mg x=some (.ref f)/\keepIn K (.ref f)
def cF.okX{k:Nat}(h:cF K mg x st ps)
 (d:∀f fd,Fun K x x st f fd->fK P w K mg base (eL P w) k f fd ps sp):nc P w K mg base k x ps sp:=by
 let⟨f,fd,a,b,c⟩:=h;exact#[f,fd,d f fd a,.all b,c,a.kp]
section
variable{X:Cx}{p O:Pos}{e:Expr}{Z:xw}{t:TA}{x:Str}{k:Nat}{ps:Φ}{sp:Sp}{Ex:Value->Ξ->L2.St->Hp->Prop}
def _s(sp:Sp)(Ex:Value->Ξ->L2.St->Hp->Prop)(t:TA):TE:=λG H Q=>t G H λvs Y=>sp vs Y Q λC d W=>Ex C d G W
def Yc(b:nc X.prog X.w X.K X.mg X.base k x ps sp)(y:dZ k X.A)(E:Gl X x)(v:i4 X Ex)(M:PA X (e::Z) t)(N:‹(zz x,2)›)
 (J:‹zw X e Z›)(P:‹zb X O Z›):PE X (.Call (.Name x p) (e::Z) [] O) (_s sp Ex t):=by
 let⟨f,fd,F,L,z,o⟩:=b;intro U s G H Q I h;refine wpAny_Call_Name_kw (uE I E z ?_ N);refine callWith_K (h₀:=X.base) I.ok.mod.kin o (ag (M O U s G H _ I h) λi j #[vs,Y,g,r,q]=>#[g.kIn,?_]) J P;have D:i.length=ps.length:=%[<- r.length|F.len _ _ _ _ q]
 have l:=L j i g.kIn ↑D;simp only[append_nil]at l;refine wpAny_call (codeAny_mono (F.run X.A X.stack j Y #[i,[]] i vs Q _ y g.env0 l r q) λr m c=>?_);cases r with
 |error e =>
  let⟨a,C,d,W,B,rfl,R,n⟩:=c;exact v U G Y j a C W m B d g R n
 |ok fl =>
  cases fl with
  |ret u=>exact g.after c
  |next=>exact False.elim c
  |brk=>exact False.elim c
  |cont=>exact False.elim c
end
abbrev f4:Θ:=[.type "ValueError",.type "Exception",.type "BaseException",.type "object"]
def oo(K:Frag)(C:Addr):Prop:=excIn K C f4 "ValueError.__new__"=true
def ag7(X:K.In h)(q:oo K C):∃j N o m s E k sub t b r i g f e d w,h.get? C\(excClassObj o m C N s j E k sub t b r i g f e d "ValueError.__new__") /\
  h.Ns N w/\w "__init__"=none/\OwnTail h f4 j:=by
 unfold oo excIn at q;split at q
 .rename_i r cd u D
  split at q
  .rename_i G j i g f e n d y x
   simp only[JY,beq_iff_eq,Bool.not_eq_true']at q;let⟨⟨⟨⟨⟨rfl,rfl⟩,v⟩,B⟩,a⟩,c⟩:=q;let⟨o,s,A,z,m,hd,k,sub,t,b,F⟩:=cd;dsimp only at y v a c;subst y v;have p:u = ↥[i,g,f,e,some (.builtin "ValueError.__new__"),d]:=by
    let⟨l⟩:=u;simp only at x;rw[x]
   subst p;exact#[j,z,o,m,s,hd,k,sub,t,b,r,i,g,f,e,d,_,X _ _ D,.of_isNs (isNs_of_in X a),PySem.W.nsMap_none_of_in X a c,PySem.W.tail_of_in X B]
  .cases q
 .cases q
abbrev Cx.tryc(X:Cx)(pn:Δ)(E:Ε):Cx:={ X with pn:=pn,xe:=E }
abbrev Cx.marked(X:Cx)(a:Addr)(E:Ε):Cx:={ X with A:=X.A.mark (some (.ref a)),calm:=false,xe:=E }
variable{E:Ε}{pn U eK:Δ}{G:L2.St}{i t:Nat}{n Dn:Str}{M:Model}{d:Drawn}{g:wn}{os:OsState}{D:Addr}{pS np:Pos}{b5 ic:wq}{b₀:Stmt}{tb:(Value->Ξ->L2.St->Hp->Prop)->TS}{th:TS}
def Cx.Ok.tryc(a:X.Ok):(X.tryc pn E).Ok:=#[a.mod,a.kind,a.glob,a.blt,a.above,a.inj,a.has,a.cab,a.hd,a.frames,a.stk,a.exf,a.bs,a.bsz,a.noex,a.exfs,a.funs,a.frf]
def Cx.Ok.untry(a:(X.tryc pn E).Ok):X.Ok:=#[a.mod,a.kind,a.glob,a.blt,a.above,a.inj,a.has,a.cab,a.hd,a.frames,a.stk,a.exf,a.bs,a.bsz,a.noex,a.exfs,a.funs,a.frf]
def Inv.tryc(I:↥X):Inv (X.tryc (X.pn++U) E) [] G H s:=#[I.ok.tryc,I.os,I.bare,I.base,I.loc,I.cell,I.free,I.freeC,λp a=>I.pin p ↑a,I.hok,I.len]
def Inv.untry(I:Inv (X.tryc (X.pn++U) E) eK G H s):↥X:=#[I.ok.untry,I.os,I.bare,I.base,I.loc,I.cell,I.free,I.freeC,λp a=>I.pin p (US _ a),I.hok,I.len]
def Cx.Ok.marked(b:X.Ok):(X.marked a E).Ok:=#[b.mod,b.kind,b.glob,b.blt,b.above,b.inj,b.has,b.cab,λz=>(nomatch z),b.frames,b.stk,b.exf,b.bs,b.bsz,b.noex,b.exfs,b.funs,b.frf]
def Inv.marked(I:↥X):Inv (X.marked a E) U G H s:=#[I.ok.marked,I.os,I.bare,I.base,I.loc,I.cell,I.free,I.freeC,I.pin,I.hok,I.len]
def Inv.unmarked(ok:X.Ok)(I:Inv (X.marked a E) U G H s):↥X:=#[ok,I.os,I.bare,I.base,I.loc,I.cell,I.free,I.freeC,I.pin,I.hok,I.len]
def Inv.track{o:HO}(d:↥X)(k:H a=none)(l:X.s₀.heap.get? a=none)(r:a≠X.env.locals)(t:∀x c,X.env.cells.lookup x\c->c≠a)(j:∀p∈X.pn++U,p.1≠a)
 (ok:fJ X.prog X.w (upd H a o) s.heap a o):Inv X U G (upd H a o) s:=by
 have f:∀b u,H b\u->b≠a:=λb u e=>mG e k;have h:∀b u,X.s₀.heap.get? b\u->b≠a:=λb u e z=>by rw[z,l]at e;cases e
 refine#[d.ok,d.os,d.bare,#[d.base.keep,d.base.slot,λb g e n i=>%[b_ (h b g e)|d.base.free b g e n i],d.base.there,λb I e=>?_,λb g u e=>?_,λb ps e=>?_],d.loc,d.cell,%[b_ r.symm|d.free],λx c e=>%[b_ (t x c e)|d.freeC x c e],λp q=>?_,λb u e=>?_,d.len]
 .have z:=d.base.tups b I e;rw[b_ (f b _ z)];exact z
 .have z:=d.base.frzs b g u e;rw[b_ (f b _ z)];exact z
 .let⟨m,z⟩:=d.base.tbls b ps e;exact#[m,%[b_ (f b _ z)|z]]
 .let⟨A,y,v⟩:=d.pin p q;exact#[A,%[b_ (j p q)|y],v]
 .by_cases z:b=a
  .subst z;rw[cu]at e;cases e;exact ok
  .rw[b_ z]at e;exact(d.hok b u e).stay (λ_ _ _ q=>q) (λc q=>by rwa[b_ (f c _ q)]) λc I q=>by rwa[b_ (f c _ q)]
def Inv.unname(I:↥X)(hN:X.N.Nodup)(D:X.N[i]?\n)(hk:X.env.scope.names.lookup n\.local)
 (h:∀B,Inv X U (G.set i none) H B->Q () B):wpAny M A (do bindName X.env n .none;unbindBehindTheSuite X.env n O) Q E s:=by
 let⟨m,Y,Z⟩:=id I.loc;have gV:(X.env.scope.kind == .class || (X.env.scope.kind == .module&&X.env.locals != X.env.globals))=false:=by rw[I.ok.kind];rfl
 have cne:=I.cne;have T:i<G.length:=%[I.len|(ao.mp D).1]
 refine wpAny_nameGoes_keeps hk Y gV λh' v P a=>?_;have hok:HOk X.prog X.w H h':=λb R e=>(I.hok b R e).stay (λc x hc q=>(a.2 c (by
  rintro rfl;rcases hc with rfl|hc
  .rw[I.free]at e;cases e
  .rw[I.free]at hc;cases hc)).trans q) (λ_ q=>q) λ_ _ q=>q
 refine h _ #[I.ok,I.os,I.bare,#[λb o e g u l=>?_,λb o e g u l=>?_,I.base.free,λb o e l=>?_,I.base.tups,I.base.frzs,I.base.tbls],#[_,P,λj y F f r e3=>?_],λy c e=>?_,I.free,I.freeC,λp W=>?_,hok,↑I.len]
 .exact(a.2 b (aQ (aR (aK e) I.ok.above))).trans (I.base.keep b o e g u l)
 .let⟨K,f⟩:=I.base.slot b o e g u l;exact#[K,(a.2 b (aQ (aR (aK e) I.ok.above))).trans f]
 .let⟨S,f⟩:=I.base.there b o e l;exact#[S,(a.2 b (aQ (aR (aK e) I.ok.above))).trans f]
 .by_cases t:j=i
  .subst t;rw[Up T]at r;cases r
  .rw[VV (Ne.symm t)]at r;let⟨J,L,q⟩:=Z j y F f r e3;refine#[J,L,?_];rcases q with⟨k,e⟩|⟨k,c,e,z⟩
   .refine .inl #[k,?_];have:y≠n:=λe=>t (Mp hN f (e ▸ D));simp[this,e]
   .exact .inr #[k,c,e,z.sameBut a (cne y c e)]
 .let⟨x,z⟩:=I.cell y c e;exact#[x,z.sameBut a (cne y c e)]
 .let⟨e,g,C,V,d⟩:=I.pin p W;exact#[(a.2 p.1 C).trans e,g,C,V,d]
def XO(a C:Addr)(d:Ξ):HO:=.ext λh=>∃o,h.get? a\o/\o.cls=.ref C/\o.dict=d/\∃vs,o.data=.fields vs
def Wn{Q:Bool->Shared->Prop}{b:Bool}(X:K.In h)
 (e:mroIn K D (.type "BaseException")\true)(l:typeIn K (.ref D)\(.type "type"))(u:h.get? a\oe)(hc:oe.cls=.ref C)(j:mroIn K C (.ref D)\b)
 (f:Q b #[h,g,d,t,os]):wpAny M A (excMatches (.ref a) (.ref D)) Q E #[h,g,d,t,os]:=by
 have r:PySem.W.Looks M h (isInstance (.ref D) (.type "tuple")) false:=(PySem.W.looks_typeIn X l).andThen (PySem.W.Looks.of_pure tc_notTuple);have p:PySem.W.Looks M h (isType (.ref D)) true:=by
  let⟨v,c,_⟩:=Option.bind_eq_some_iff.mp e;unfold clsIn at c;split at c
  .rename_i G F w B s
   intro z x y i k q;unfold isType loadHead;exact ZU (wpAny_loadPart (k _ _ (X _ _ s)) (ZT q))
  .cases c
 have o:PySem.W.Looks M h (isSubtype (.ref D) (.type "BaseException")) true:=looks_mroIn X e;have n:PySem.W.Looks M h (isSubtype (.ref C) (.ref D)) b:=looks_mroIn X j;have m:PySem.W.Looks M h (typeOf (.ref a)) (.ref C):=by
  intro z x y i k q;rw[<- hc]at q;unfold typeOf;exact ZU (wpAny_loadPart (k _ _ u) (ZT q))
 unfold excMatches;refine ZU (r.at ?_);simp only[XW,if_false];refine ZU (ZT ?_);simp only[List.forIn_cons,List.forIn_nil];unfold isExcClass;refine ZU (ZU (ZU (ZU (p.at ?_))));simp only[if_true];refine o.at ?_;simp only[Bool.not_true,XW,if_false];refine ZT (ZT (ZU (m.at ?_)));refine ZU (ZU (ZU (n.at ?_)));cases b with
 |true =>
  simp only[if_true];exact ZT (ZT (ZT f))
 |false =>
  simp only[XW,if_false];exact ZT (ZT (ZT f))
def Ends.unset(R:Ends)(i:Nat):Ends:={ nx:=λG H=>R.nx (G.set i none) H,rt:=R.rt,bk:=λG H=>R.bk (G.set i none) H,ct:=λG H=>R.ct (G.set i none) H }
def Vc(K:Frag)(D:Addr)(i:Nat)(tb:(Value->Ξ->L2.St->Hp->Prop)->TS)(th:TS):TS:=λR G H =>
 ∃c:Value->Ξ->L2.St->Hp->Prop,tb c R G H/\∀e d b W,c e d b W->∃C,e=.ref C/\mroIn K C (.ref D)=some true /\
  ∀a,W a=none->th (R.unset i) (b.set i (some (.ref a))) (upd W a (XO a C d))
def afA(hN:X.N.Nodup)(hi:X.N[i]?\n)(iF:X.env.scope.names.lookup n\.local)(hgD:Gl X Dn)(hmD:X.mg Dn\(.ref D))(qD:mroIn X.K D (.type "BaseException")\true)
 (n9:typeIn X.K (.ref D)\(.type "type"))(bz:X.stack=X.env::X.outer)(eS:X.env.frame\X.env.locals)(hex:X.ex=[])
 (hb:∀pn' E' Ex,i4 (X.tryc pn' E') Ex->PSs (X.tryc pn' E') b5 (tb Ex))(hh:∀a E',PSs (X.marked a E') (b₀::ic) th)(bS:‹(zz Dn,2)›) :
  PS X (.Try b5 [.ExceptHandler (some (.Name Dn np)) (some n) (b₀::ic) pS] [] [] O) (Vc X.K D i tb th):=by
 intro U s G H R I h;let⟨Ex,h1,h2⟩:=h;refine wpAny_Try_except ?_;have kb:∀{b:Cx}{pn:Δ}{f:Flow}{A:Shared},(∀{g:L2.St}{W:Hp},Inv b pn g W A->Inv X U g W A)->SP b pn R f A->SP X U R f A:=λ{b pn f A}k q=>by
  cases f with
  |next=>let⟨g,W,J,z⟩:=q;exact#[g,W,k J,z]
  |brk=>let⟨g,W,J,z⟩:=q;exact#[g,W,k J,z]
  |cont=>let⟨g,W,J,z⟩:=q;exact#[g,W,k J,z]
  |ret u=>let⟨v,g,W,J,z⟩:=q;exact#[v,g,W,k J,z]
 refine wpAny_mono (hb (X.pn++U) _ Ex ?_ [] s G H R I.tryc h1) (λf s1 q=>?_) λ_ _ z=>z
 rotate_left
 .have q':=kb (λJ=>J.untry) q;cases f with
  |next=>exact wpAny_execs_nil q'
  |brk=>exact q'
  |cont=>exact q'
  |ret u=>exact q'
 intro eK l Y s1 a C' W A B d J F ex;have J0:Inv X U l Y s1:=J.untry;let⟨C,rfl,qS,k⟩:=h2 C' d l W ex;have P:Fly X.prog X.w X.stack Y s1 a (.ref C) W A B d:=F;have fl0:yP B (X.env::X.outer) a (.ref C) d .none A.heap:=%[<- bz|P.fl]
 show wpAny _ _ (noteFrame (.ref a) X.env) _ _ _;refine Rg (outer:=X.outer) (L:=X.env.locals) (I.ok.frames.trans %[bz|_]) eS fl0 λh₄ j1 t=>?_;refine lX j1 λh₅ sf r=>?_;have J5:Inv X U l W { A with heap:=h₅ }:=J0.flown P sf.1 (t.trans r);let⟨oe,vs,he,gV,_,hd⟩:=sf.first;refine wpAny_handleBy_cons (codeAny_handlers_test ?_) (by intro q;cases q);refine uE (X:=X.marked a (λ_ _=>False)) J5.marked hgD hmD ?_ bS;refine Wn (K:=X.K) J5.kIn qD n9 he gV qS ?_;show codeAny _ _ _ _ _;refine codeAny_handlers_suite_as ?_;refine lX sf λj E Q=>?_;have J6:Inv X U l W { A with heap:=j }:=J0.flown P E.1 ((t.trans r).trans Q);let⟨oe6,vs6,nv,mn,hda,qE⟩:=E.first;have na:W a=none:=by
  cases q:W a with
  |none=>rfl
  |some u =>
   let⟨o',T⟩:=(P.hok a u q).there;have y:=P.trk q T;rw[P.fl.2.1]at y;cases y
 have ns:X.s₀.heap.get? a=none:=by
  cases q:X.s₀.heap.get? a with
  |none=>rfl
  |some o =>
   let⟨⟨u,z⟩,_⟩:=J0.old hex q;rw[P.new]at z;cases z
 have nL:a≠X.env.locals:=λz=>by
  let⟨m,⟨o,Z,ep,e,dd,_⟩,_⟩:=J6.loc;rw[<- z]at e;have T:j.get? a\o:=e;rw[nv]at T;cases T;rw[qE]at dd;cases dd
 have nC:∀x c,X.env.cells.lookup x\c->c≠a:=λx c e z=>by
  let⟨v,o,T,dd⟩:=J6.cell x c e;rw[z]at T;have e2:j.get? a\o:=T;rw[nv]at e2;cases e2;rw[qE]at dd;cases dd
 have nP:∀p∈X.pn++U,p.1≠a:=λp hp z=>by
  have:=(J0.pin p hp).1;rw[z,P.new]at this;cases this
 have okx:fJ X.prog X.w (upd W a (XO a C d)) j a (XO a C d):=#[#[oe6,nv,mn,hda,vs6,qE],#[oe6,nv],λg1 g2 #[o,e1,e2] kk=>#[o,kk o e1,e2]];have J7:Inv X U l (upd W a (XO a C d)) { A with heap:=j }:=J6.track na ns nL nC nP okx;refine vZ (X:=X.marked a (λ_ _=>False)) J7.marked hN hi (.inl iF) (v:=.ref a) rfl (λs8 J8=>?_) (.inr iF);have J8':Inv X U (l.set i (some (.ref a))) (upd W a (XO a C d)) s8:=J8.unmarked I.ok;refine wpAny_mono (hh a _ U s8 _ _ _ J8'.marked (k a na)) (λf s9 q=>?_) λ_ _ z=>z;cases f with
 |next =>
  let⟨g,H2,V,z⟩:=q;exact(V.unmarked I.ok).unname hN hi iF λkl S=>#[_,_,S,z]
 |brk =>
  let⟨g,H2,V,z⟩:=q;exact(V.unmarked I.ok).unname hN hi iF λkl S=>#[_,_,S,z]
 |cont =>
  let⟨g,H2,V,z⟩:=q;exact(V.unmarked I.ok).unname hN hi iF λkl S=>#[_,_,S,z]
 |ret u =>
  let⟨v,g,H2,V,rv,z⟩:=q;exact(V.unmarked I.ok).unname hN hi iF λkl S=>#[v,_,_,S,rv,z]
structure iL(K:Frag)(C:Addr):Prop where
 ga:findIn K (.ref C) "__getattribute__"\(some (.builtin "BaseException.__getattribute__"))
 gn:findIn K (.ref C) "__getattr__"\none
 cl:findIn K (.ref C) "__class__"\(some (.builtin "object.__class__"))
 mo:mroIn K C (.type "object")\true
 mb:mroIn K C (.type "BaseException")\true
def Ey(b:h.get? a\o)(c:o.cls=.ref C):PySem.W.Looks M h (typeOf (.ref a)) (.ref C):=by
 intro g e f d k q;rw[<- c]at q;unfold typeOf;exact ZU (wpAny_loadPart (k _ _ b) (ZT q))
def TF{b:Value}(X:K.In h)(T:iL K C)(c:h.get? a\o)(e:o.cls=.ref C)(i:Q () #[h,g,d,t,os]) :
  wpAny M A (checkBuiltinCall "BaseException.__getattribute__" #[[.ref a,b],[]]) Q E #[h,g,d,t,os]:=by
 have j:builtinKind "BaseException.__getattribute__"\.slot:=by decide +kernel
 have f:splitId "BaseException.__getattribute__"\("BaseException","__getattribute__"):=by decide +kernel
 have l:=F.args_bexc_ga (.ref a) b;have LT:=Ey (M:=M) c e;have k:=looks_mroIn (M:=M) X T.mb;simp only[checkBuiltinCall,j,f];refine ZU ?_;unfold isInstance
 repeat (first|with_reducible refine LT.at ?_|with_reducible refine k.at ?_|(with_reducible refine wpAny_loadPart_at c ?_;rw[e])|wp_step)
 exact i
def yp(a:xB):wf->xB->xB
 |[],b=>b
 |(n,k)::r,b=>yp a r (if k == .free then(n,(a.lookup n).getD 0)::b else b)
def Y6{env:Env}(h:∀y∈J.names,y.2=.free->∃c,env.cells.lookup y.1\c):closureFor J env=pure (yp env.cells J.names []):=by
 unfold closureFor;have o:∀(l:wf)(b:xB),(∀y∈l,y.2=.free->∃c,env.cells.lookup y.1\c) ->
   (forIn l b (λ(x:Str×NameKind)(r:xB)=>if(x.2==NameKind.free)=true then(do let a <- cellOf env x.1;pure (ForInStep.yield ((x.1,a)::r)))else pure (ForInStep.yield r)):Sem (xB))=pure (yp env.cells l b):=by
  intro l
  induction l with
  |nil=>intro b _;rfl
  |cons y r g =>
   intro b f;let⟨n,k⟩:=y;rw[List.forIn_cons];by_cases i:k=.free
   .subst i;let⟨c,j⟩:=f (n,.free) aO rfl;have p:cellOf env n=pure c:=by unfold cellOf;rw[show env.cells.lookup n\c from j]
    simp only[beq_self_eq_true,if_true,p,pure_bind];rw[g _ λz d=>f z (aJ _ d)];show pure _=pure (yp env.cells r (if(NameKind.free==NameKind.free)=true then(n,(env.cells.lookup n).getD 0)::b else b));rw[show env.cells.lookup n\c from j]
    rfl
   .have m:(k==NameKind.free)=false:=↑i
    simp only[m,XW,if_false,pure_bind];rw[g _ λz d=>f z (aJ _ d)];show pure _=pure (yp env.cells r (if(k==NameKind.free)=true then(n,(env.cells.lookup n).getD 0)::b else b));rw[m]
    rfl
 have e:=o J.names [] h;show(forIn J.names [] (λ(x:Str×NameKind)(r:xB)=>if(x.2==NameKind.free)=true then(do let a <- cellOf env x.1;pure (ForInStep.yield ((x.1,a)::r)))else pure (ForInStep.yield r)):Sem (xB)) >>= (λq=>pure q)=_;rw[e]
 rfl
theorem Xa{a:xB} : ∀{b:wf}{d:xB}{x:Str}{c:Addr},(∀y∈b,y.2=.free->∃c,a.lookup y.1\c)->(x,c)∈yp a b d->(x,c)∈d\/a.lookup x=some c
 |[],_,_,_,_,h=>.inl h
 |(n,k)::r,d,x,c,g,h=>by
  unfold yp at h;rcases Xa (λy i=>g y (aJ _ i)) h with z|z
  .by_cases f:k=.free
   .subst f;simp only[beq_self_eq_true,if_true]at z;rcases YU.mp z with e|e
    .let⟨m,l⟩:=g (n,.free) aO rfl;cases e;rw[show a.lookup n\m from l];exact .inr rfl
    .exact .inl e
   .have j:(k==NameKind.free)=false:=↑f
    simp only[j,XW,if_false]at z;exact .inl z
  .exact .inr z
theorem W3{cells:xB} : ∀{a:wf}{acc:xB}{x:Str},((x,NameKind.free)∈a\/∃c,(x,c)∈acc)->∃c,(x,c)∈yp cells a acc
 |[],_,_,h=>by
  rcases h with h|h
  .cases h
  .exact h
 |(n,k)::r,acc,x,h=>by
  unfold yp;refine W3 ?_;rcases h with h|⟨c,h⟩
  .rcases YU.mp h with e|e
   .cases e;exact .inr #[_,by simp only[beq_self_eq_true,if_true];exact aO]
   .exact .inl e
  .refine .inr #[c,?_];split
   .exact aJ _ h
   .exact h
theorem sI{a:Type}{x:Str}{c:a} : ∀{l:List (Str×a)},(x,c)∈l->∃f,l.lookup x\f
 |(y,d)::r,h=>by
  rw[lookup_cons];cases b:x==y with
  |true=>exact#[d,rfl]
  |false =>
   rcases YU.mp h with e|e
   .cases e;simp at b
   .exact sI e
def Cx.comp(X:Cx)(a:Φ)(J:Scope)(x:Str)(C:Addr)(s₀:Shared)(H₀:Hp)(ex:Ψ)(pn:Δ):Cx :=
 { X with env:=compEnvC J (yp X.env.cells J.names []) C X.env,N:=x::a,s₀:=s₀,H₀:=H₀,outer:=X.stack,ex:=ex,fn:=λ_=>false,pn:=pn,xe:=λ_ _=>False }
def Inv.nostk'(I:↥X)(c:b≠X.env.locals)(a:b∉X.fs):b∉cX X.stack:=λz=>by
 rcases YU.mp (I.stkSub b z)with e|e
 .exact c e
 .exact a e
theorem Gi{env:Env} : ∀{a:wf}{y:Str},(a.map λ(n,k)=>if(k==NameKind.free&&env.scope.kind == .function&&env.kindOf n==some .cell)then(n,NameKind.cell)else(n,k)).lookup y\.cell \/
  (a.map λ(n,k)=>if(k==NameKind.free&&env.scope.kind == .function&&env.kindOf n==some .cell)then(n,NameKind.cell)else(n,k)).lookup y\.free->(∀z∈a,z.2≠.cell)->(y,NameKind.free)∈a
 |[],y,h,_=>by rcases h with h|h<;>cases h
 |(n,k)::r,y,h,hc=>by
  have e:=@Gi env r y;simp only[map_cons]at h;by_cases b:(k==NameKind.free&&env.scope.kind == .function&&env.kindOf n==some .cell)
  .rw[ZY b]at h;simp only[lookup_cons]at h;cases c:y==n with
   |true =>
    have f:k=.free:=by
     simp only[JY,beq_iff_eq]at b;exact b.1.1
    have:y=n:=↑c
    subst this f;exact aO
   |false =>
    rw[c]at h;exact aJ _ (e h λz d=>hc z (aJ _ d))
  .rw[ZZ b]at h;simp only[lookup_cons]at h;cases c:y==n with
   |true =>
    rw[c]at h;have:y=n:=↑c
    subst this;rcases h with h|h
    .exact absurd (Option.some.inj h) (hc (y,k) aO)
    .have:k=.free:=Option.some.inj h;subst this;exact aO
   |false =>
    rw[c]at h;exact aJ _ (e h λz d=>hc z (aJ _ d))
def eg:Ζ->Ζ->Bool
 |[],[]=>true
 |x::I,y::a=>MD x y&&eg I a
 |_,_=>false
def eqH(H:Hp)(x y:V):wr :=
 match x,y with
 |.ref a,.ref b=>match H a,H b with
  |some (.tup I),some (.tup c)=>if I.all Rv&&c.all Rv then some (eg I c)else none
  |some (.lst I),some (.lst c)=>if I.all Rv&&c.all Rv then some (eg I c)else none
  |some (.lst _),some (.tup _)=>some false
  |some (.tup _),some (.lst _)=>some false
  |_,_=>none
 |.ref a,y=>if Rv y then(match H a with
  |some (.tup _)=>some false
  |some (.lst _)=>some false
  |_=>none)else none
 |x,.ref b=>if Rv x then(match H b with
  |some (.tup _)=>some false
  |some (.lst _)=>some false
  |_=>none)else none
 |x,y=>if iC x y then some (decide (x=y))else none
def Inv.tupIs(b:↥X)(h:H a\(.tup I)):∃c,zN I c/\IsTup s.heap a c.toArray/\s.heap.IsTuple a c.toArray:=by
 let⟨c,e,d,_⟩:=b.tuple (SqT.of h);exact#[c,e,d,d]
def Inv.lstIs(b:↥X)(h:H a\(.lst I)):∃c,zN I c/\s.heap.IsList a c.toArray:=by
 let⟨c,d,e,_⟩:=b.list (SqL.of h);exact#[c,d,e.isList]
open PySem.SeqAt in
section
variable{X:Cx}
structure m4(X:Cx)(st:Stmt)(t:TS):Prop where
 out:PS X st t
structure lz(X:Cx)(b:wq)(t:TS):Prop where
 out:PSs X b t
def ab1{rest:wq}{t u:TS}(b:m4 X st t)(a:lz X rest u):lz X (st::rest) (j6 t u):=#[nW b.out a.out]
end
def Fun.okB{k:Nat}(F:Fun K x am st f fd)(S:bL N ps (bH st))(b:∀vs H Q E,sp vs H Q E->vs.length=ps.length)
 (h:∀(a:Value)(A:Around)(outer:xC)(s:Shared)(H:Hp)(vs:Ζ)(Q:VK)(E:XK),dZ k (A.deeper (envOfC am (bH st) s.zs f a))->sp vs H Q E ->
   ∃t,lz (G_ bh P w K mg base N am (bH st) f a A outer s H E).nox (fP st) t/\t { nx:=λ_ W=>Q .non W,rt:=Q } (L2.start N vs) H):fK P w K mg base bh (k+1) f fd ps sp :=
 F.ok S b λa A outer s H vs Q E c g=>let⟨t,e,d⟩:=h a A outer s H vs Q E c g;#[t,e.out,d]
mutual
inductive Shows(H:Hp):V->PyData->Prop
 |non:Shows H .non .none
 |bl (b:Bool):Shows H (.bl b) (.bool b)
 |int (i:Int):Shows H (.int i) (.int i)
 |str (x:Str):Shows H (.str x) (.str x)
 |lst {a:Addr}{I:Ζ}{ds:xD} : H a\(.lst I)->fQ H I ds->Shows H (.ref a) (.list ds)
 |tup {a:Addr}{I:Ζ}{ds:xD} : H a\(.tup I)->fQ H I ds->Shows H (.ref a) (.tuple ds)
inductive fQ(H:Hp):Ζ->xD->Prop
 |nil:fQ H [] []
 |cons {x:V}{I:Ζ}{d:PyData}{ds:xD} : Shows H x d->fQ H I ds->fQ H (x::I) (d::ds)
end
mutual
theorem Shows.same{H W:Hp}(S:zT H W){x:V}{d:PyData}(h:Shows H x d):Shows W x d:=by
 cases h with
 |non|bl|int|str=>constructor
 |lst e h=>exact .lst (S _ _ e) (fQ.same S h)
 |tup e h=>exact .tup (S _ _ e) (fQ.same S h)
theorem fQ.same{H W:Hp}(S:zT H W){I:Ζ}{a:xD}(h:fQ H I a):fQ W I a:=by
 cases h with
 |nil=>exact .nil
 |cons h t=>exact .cons (Shows.same S h) (fQ.same S t)
end
theorem fQ.ints(H:Hp):∀a:xi,fQ H (a.map V.int) (a.map PyData.int)
 |[]=>.nil
 |n::a=>.cons (.int n) (fQ.ints H a)
mutual
theorem Inv.reads(I:↥X){x:V}{d:PyData}{v:Value}(h:Shows H x d)(r:zZ x v):∃g,Reads s.heap v d g:=by
 cases h with
 |non=>cases r;exact#[_,.none]
 |bl b=>cases r;exact#[_,.bool b]
 |int i=>let⟨t,rfl⟩:=r;exact#[_,.int i t]
 |str x=>let⟨t,rfl⟩:=r;exact#[_,.str x t]
 |lst e h =>
  cases r;let⟨c,a,⟨o,f,hc,n,hd⟩⟩:=I.lstIs e;let⟨g,q⟩:=Inv.readsAll I h a;exact#[_,.list f hc hd q]
 |tup e h =>
  cases r;let⟨c,a,_,⟨o,f,hc,n,hd⟩⟩:=I.tupIs e;let⟨g,q⟩:=Inv.readsAll I h a;exact#[_,.tuple f hc hd q]
theorem Inv.readsAll(c:↥X){I:Ζ}{d:xD}{vs:Θ}(h:fQ H I d)(r:zN I vs):∃i,ReadsAll s.heap vs d i:=by
 cases h with
 |nil=>cases r;exact#[_,.nil]
 |cons h t =>
  cases r with
  |cons f e =>
   let⟨a,g⟩:=Inv.reads c h f;let⟨b,q2⟩:=Inv.readsAll c t e;exact#[_,.cons g q2]
end
def M0(a:Bool):R2:=λx y H Q=>∃d e,Shows H x d/\Shows H y e/\SeqAt.shaped d/\SeqAt.shaped e/\Q (.bl (if a then !PyData.eqv d e else PyData.eqv d e)) H
def UN(j:X.A.units+64<cLine):OpR X (compareOp .NotEq) (M0 true):=by
 intro U s G H x y v u Q I f c h;let⟨d,e,hd,k,b,a,q⟩:=h;let⟨m,i⟩:=I.reads hd f;let⟨l,g⟩:=I.reads k c;exact SeqAt.compareNe_shaped i g b a j #[.bl _,H,I,rfl,q]
def Uf:Ζ->Hp->VK->Prop:=λI H Q=>∃(l:Addr)(a:xi),I=[.ref l]/\H l=some (.lst (a.map V.int))/\Q (.int a.sum) H
def ac5(hc:X.calm):jx X (.builtin "sum") Uf:=by
 intro U s G H I m Q a r h;let⟨l,i,rfl,j,q⟩:=h;let⟨u,rfl,g⟩:=r.one;cases g;let⟨b,f,p⟩:=a.lstIs j;have d:=intsAre_of f;let⟨I,e⟩:=d.allInts.items;have c:=d.numsOf;rw[show b=b.toArray.toList from rfl,e,nums_intItems]at c;rw[e]at p;refine sum_intListG (a.ok.hd hc) p λt n o k=>#[.int i.sum,H,a.kept k,?_,q];rw[preSum_eq,Q1 vc,c];exact#[_,rfl]
def tM(t:TE):TE:=λG H Q=>∃R:VK,t G H R/\∀x W,R x W->Q x W
def r8(t:TA):TA:=λG H Q=>∃R:Ζ->Hp->Prop,t G H R/\∀x W,R x W->Q x W
def PE.mono{a:Expr}{t:TE}(h:PE X a t):PE X a (tM t):=λU s G H Q I #[R,d,c] =>
 ag (h U s G H R I d) λv f b=>by let⟨x,W,e,r,q⟩:=b;exact#[x,W,e,r,c x W q]
variable{t:TA}{ah af:Pos}{tg l bg iter:Expr}{tl te:TE}{v:V}{tc:TT}{wi:TI}{ext:Addr->xB}{fn:Str->Bool}{aS:xw}{gt:TG}
def PA.mono(h:PA X Z t):PA X Z (r8 t):=λO U s G H Q I #[R,c,b] =>
 ag (h O U s G H R I c) λv e a=>by let⟨x,W,d,r,q⟩:=a;exact#[x,W,d,r,b x W q]
def PE.imp{a:Expr}{t b:TE}(h:PE X a t)(i:∀G H Q,b G H Q->t G H Q):PE X a b:=λU s G H Q I q=>h U s G H Q I (i G H Q q)
def NC(c:TE)(t:TA):TE:=λG H Q=>c G H λx Y=>∃l I,x=.ref l/\Y l=some (.lst I)/\t G Y λvs b=>∃y a,vs=[y]/\b l=some (.lst a)/\a.length<sizeLine/\Q .non (upd b l (.lst (a++[y])))
abbrev zg(X:Cx)(a:Pos)(e:Expr):Prop:=((backTo a (starEach [e] X.env)).all (λx=>!x.1)&&(backToKw a (keywordEach [] X.env)).all (λx=>x.1.isSome)&&decide ([e].length+([] : wP).length+(if([] : wP).isEmpty then 0 else 1)<30))=true
def qs{o:Expr}{a:TE}(j:PE X o a)(p:PA X [e] t)(n:‹attributeBase o "append" X.env (eval o X.env)=eval o X.env›)
 (m:‹zg X af e›)
 (k:‹zC ah af›)(g:‹zw X e []›)(i:‹zb X af []›) :
  PE X (.Call (.Attribute o "append" ah) [e] [] af) (NC a t):=by
 refine(l3 PySem.F.plainAttrs_list PySem.F.slot_list_append PySem.F.type_list_append Rn j.mono p.mono n m k g i).imp λG H Q h=>?_;refine#[_,h,?_];rintro x Y ⟨l,I,rfl,f,r⟩;refine#[.inl #[rfl,_,SqL.of f],_,r,?_];rintro vs s ⟨y,b,rfl,d,c,q⟩;exact#[l,b,y,rfl,rfl,d,c,q]
def To:Ζ->Hp->VK->Prop:=λI H Q=>∃p a,I=[.ref p]/\H p=some (.lst a)/\∀l,H l=none->Q (.ref l) (upd H l (.lst a))
def Oa:jx X (.type "list") To:=Uw.imp λI H Q e=>by let⟨p,d,a,b,c⟩:=e;exact#[p,d,a,.inl (.of b),c]
mutual
theorem aad:∀a:xi,PyData.canLayAll0 (a.map PyData.int)
 |[]=>rfl
 |n::a=>by
  rw[map_cons];unfold PyData.canLayAll0;rw[aad a];rfl
end
def frD(f:Β):PyData:=.tuple [.int f.1,.int f.2]
inductive FL(H:Hp):Ζ->Γ->Prop
 |nil:FL H [] []
 |cons {p:Addr}{f:Β}{I:Ζ}{fs:Γ} : H p\(.tup [.int f.1,.int f.2])->FL H I fs->FL H (.ref p::I) (f::fs)
def ni(x:Str):It:=#[λi _=>i<x.cps.size,λi H v W=>W=H/\∃c,x.cps[i]?\c/\v=.str #[↥[c]],λi _=>i=x.cps.size]
def Wx(a:Addr)(x:Str)(t:Tok)(j:String)(R : ["enumerate","zip","dict_itemiterator","dict_reverseitemiterator","odict_iterator","itertools.zip_longest","itertools.pairwise"].contains j=false)
 (W:∀A:Around,A.handled=none->Walks P w A a [a] [a] x.cps.size (SignAt x) (λi h=>h.IsStrIter a j x t i))
 (O:∀(A:Around)(i:Nat)(s:Shared)(Q:Ε)(E:Ε),s.heap.IsStrIter a j x t i->Q (.ref a) s->wpAny (model P w) A (pyIter (.ref a)) Q E s):Turn P w K tg (ni x) [a] a (λi h=>h.IsStrIter a j x t i) where
 mem:=by simp
 obj:=λi h st b d=>by
  have e:b=a:=↑d
  subst e;let⟨o,f,_,hd⟩:=st;exact#[o,f,λv z=>by rw[hd]at z;cases z]
 keep:=λi h m st k=>let⟨o,f,r⟩:=st;#[o,k a vc o f,r]
 item:=by
  intro X y hw B hc i U s G H E I l st q;subst y hw B;let⟨L,J,Y,F,D,C⟩:=l a vc;refine(W X.A (I.ok.hd hc)).item i s _ _ q st λv m n V M p=>?_;let⟨c,u,T,rfl⟩:=V;have Z:Inv X U G H { s with heap:=m,toks:=n }:=I.turned (λb o d e=>p b o ↑d e) L J F D C;let⟨o,f,S,hd⟩:=id M;exact#[_,rfl,l4 (s:={ s with heap:=m,toks:=n }) f S hd R #[.str #[↥[c]],H,Z,#[u,rfl],#[rfl,c,T,rfl],M,λb d=>(l b d).1]]
 done:=by
  intro X y hw B hc i U s G H E I l st q;subst y hw B;let⟨L,J,Y,F,D,C⟩:=l a vc;have N:i=x.cps.size:=q;subst N;exact(W X.A (I.ok.hd hc)).done s _ _ st λm n p=>#[rfl,I.turned (λb o d e=>p b o ↑d e) L J F D C]
 self:=O
def No(te:TE):TI:=λG H R=>te G H λv Y=>∃x,v=.str x/\R (ni x) Y
def YN(n:PE X l tl):PI X tg l (No tl):=by
 intro U s G H R I h;refine ag (n U s G H _ I h) λv a r=>?_;let⟨x,Y,d,m,y,u,q⟩:=r;subst u;let⟨t,rfl⟩:=m;have j:∀b∈[a.zs],Kc X U Y b:=λb p=>by
  have e:b=a.zs:=↑p
  subst e;exact d.fpOk (aG _) (d.hok.fresh (aG _))
 have k:∀o:Obj,Inv X U G Y { a with heap:=a.heap.push o }:=λo=>d.kept (t':=a.toks) λb w z=>aH _ z;cases g:y.cps.all (· < 128)
 .exact wpAny_pyIter_wide g #[a.zs,[a.zs],_,ni y,Y,rfl,k _,Wx _ y t "str_iterator" vw (λA c=>Walks.strWide c _ y t) (λA i s Q E st h=>wpAny_pyIter_striter_wide st h),#[_,aW _ rfl,rfl,rfl],j,q]
 .exact wpAny_pyIter_ascii g #[a.zs,[a.zs],_,ni y,Y,rfl,k _,Wx _ y t "str_ascii_iterator" vw (λA c=>Walks.strAscii c _ y t) (λA i s Q E st h=>wpAny_pyIter_striter_ascii st h),#[_,aW _ rfl,rfl,rfl],j,q]
def JT(x:Str)(lo a:xn):Str:=#[((x.cps.toList.drop (HT.sIx x.length 0 lo)).take (HT.sIx x.length x.length a-HT.sIx x.length 0 lo)).toArray]
def strIdx(lo a:xn)(n:Nat):Builtin.Str.strSliceIndices lo a 1 n=(range (HT.sIx n n a-HT.sIx n 0 lo)).map (HT.sIx n 0 lo + ·):=by
 rw[<- sliceRange_one];unfold Builtin.Str.strSliceIndices;have b:∀(o:xn)(d:Nat),d<=n->(match o with
   |none=>(d:Int)
   |some i=>(let i:=if i<0 then i+(n:Int)else i;if(1:Int)>0 then max 0 (min i n)else max (-1) (min i (n-1))))=((HT.sIx n d o:Nat):Int):=by
  intro o d hd;cases o with
  |none=>rfl
  |some i =>
   simp only[HT.sIx,show(1:Int)>0 by decide,if_true];by_cases h:i<0
   .simp only[h,if_true]<;>lia
   .simp only[h,if_false]<;>lia
 have e:=b lo 0 (aZ _);have c:=b a n (aG _);simp only[show(1:Int)>0 by decide,if_true]at e c ⊢;rw[<- e,<- c]
 rfl
def aiR(x:Str)(lo a:xn):(#[((Builtin.Str.strSliceIndices lo a 1 x.length).filterMap (x.cps[·]?)).toArray] : Str)=JT x lo a:=by
 rw[strIdx,pick_run];rfl
def Z2(x:Str)(lo a:xn)(h:(Builtin.Str.strSliceIndices lo a 1 x.length).length=x.length):JT x lo a=x:=by
 rw[strIdx,ak,WP]at h;have d:=HT.amc x.length x.length (aG _) a;unfold JT;have b:x.length=x.cps.size:=rfl;have e:x.cps.toList.length=x.length:=by simp[b]
 by_cases z:x.length=0
 .have:x.cps.toList=[]:=List.length_eq_zero_iff.mp (Eq.trans e z);rw[this];let⟨⟨l⟩⟩:=x;simp at this;subst this;simp
 .have c:HT.sIx x.length 0 lo=0:=by lia
  rw[c,drop_zero,Q1 vy]
def MK:V->xn->xn->Hp->VK->Prop:=λx lo a H Q=>∃y,x=.str y/\y.length<=sizeLine/\Q (.str (JT y lo a)) H
def part_of{v:Value}{o:xn}(h:IsPart v o):∃l:Option (Int×Tok),v=partValue l/\l.map (·.1)=o:=by
 cases h with
 |none=>exact#[none,rfl,rfl]
 |int i t=>exact#[some (i,t),rfl,rfl]
def _N{X:Cx} : SlR X MK:=by
 intro U s G H x v o n lo a p Q I c j f d h;let⟨y,rfl,g,q⟩:=h;let⟨t,rfl⟩:=c;let⟨l,rfl,m⟩:=part_of f;let⟨u,rfl,k⟩:=part_of d;refine#["str",_,F.slot_str_getitem.lookup,typeIs_str s y t,wpAny_getItem_str_slice (l:=l) (u:=u) (st:=none) j rfl ?_];unfold sliceMade slicePicked;rw[m,k];split
 .rename_i i
  have b:=(Bool.and_eq_true_iff.mp i).2;rw[beq_iff_eq]at b;have e:=Z2 y lo a b;rw[e]at q;exact#[.str y,H,I,#[t,rfl],q]
 .have e:=aiR y lo a;refine#[?_,.str (JT y lo a),H,I.tok _,#[s.toks,?_],q]
  .refine aL ?_ g;refine aL (WG (ZH Str.length e)) ?_;show((y.cps.toList.drop _).take _).toArray.size<=y.cps.size;rw[aX,aY,UR,Array.length_toList];lia
  .rw[<- e];rfl
def UA:R2:=λx y H Q=>∃i j,x=.str i/\y=.str j/\i.length+j.length<=sizeLine/\Q (.str (i++j)) H
def ahe:OpR X (binaryOp .Add) UA:=Zq
def MV:R2:=λx y H Q=>∃i j,x=.str i/\y=.str j/\Q (.bl (!decide (j.cps.toList<i.cps.toList))) H
def _E:OpR X (compareOp .LtE) MV:=by
 intro U s G H x y v u Q I b a h;let⟨i,j,rfl,rfl,q⟩:=h;let⟨t,rfl⟩:=b;let⟨c,rfl⟩:=a;exact PySem.P.le_str (dX I q rfl)
def OpR.imp{f:Value->Value->Sem Value}{r a:R2}(h:OpR X f r)(i:∀x y H Q,a x y H Q->r x y H Q):OpR X f a:=λU s G H x y v u Q I c b q=>h U s G H x y v u Q I c b (i _ _ _ _ q)
theorem Iz:∀{a:xf}{c:Θ},zN (a.map V.bl) c->∀(i:Nat)(v:Value),c[i]?\v->∃b,a[i]?\b/\v=.bool b
 |[],_,.nil,i,v,h=>by cases i<;>cases h
 |b::a,_,.cons r t,0,v,h=>by
  rw[List.getElem?_cons_zero]at h;cases h;exact#[b,rfl,r]
 |b::a,_,.cons r t,i+1,v,h=>by
  rw[List.getElem?_cons_succ]at h;exact Iz t i v h
def UM:Ζ->Hp->VK->Prop:=λI H Q=>∃(l:Addr)(a:xf),I=[.ref l]/\H l=some (.lst (a.map V.bl))/\Q (.bl (a.all id)) H
theorem yK:∀a:xf,((range a.length).all λi=>(a[i]?).getD true)=a.all id
 |[]=>rfl
 |b::a=>by
  rw[length_cons,List.range_succ_eq_map,all_cons,all_map,all_cons];have:=yK a;simp only[Function.comp_def,List.getElem?_cons_succ,List.getElem?_cons_zero,getD_some,id]at this ⊢;rw[this]
def ach(hc:X.calm):jx X (.builtin "all") UM:=by
 intro U s G H I y Q a r h;let⟨l,d,rfl,n,q⟩:=h;let⟨u,rfl,k⟩:=r.one;cases k;let⟨c,f,p⟩:=a.lstIs n;have x:l<s.zs:=by let⟨_,e,_⟩:=p;exact aK e
 refine call_all_walk (wpAny_pyIter_list p ?_);refine#[s.zs,[s.zs,l],[s.zs],c.toArray.size,_,_,λi=>(d[i]?).getD true,rfl,Walks.list (A:=X.A.in1) (a.ok.hd hc) _ l (aQ x) c.toArray,
  #[#[_,aW _ rfl,rfl,rfl],p.push _],λi v z C D w g=>?_,λB j t=>?_]
 .let⟨b,e,rfl⟩:=Iz f i v ↑w;simp only[e,getD_some]at g;exact wpAny_truthy_bool g
 .have e:((range c.toArray.size).all λi=>(d[i]?).getD true)=d.all id:=by
   rw[aX,<- f.length,ak];exact yK d
  refine#[.bl (d.all id),H,a.kept (t':=j) λb o q=>t b o (λm=>?_) (aH _ q),?_,q]
  .rw[YR.mp m]at q;exact X2 _ (aK q)
  .rw[e];rfl
def LL(r:V->Ζ->Hp->VK->Prop)(a:TE)(t:TA):TE:=λG H Q=>a G H λx Y=>(∃y,x=.str y)/\t G Y λvs b=>r x vs b Q
def Po{o:Expr}{b:TE}{a:Str}{id:String}{r:V->Ζ->Hp->VK->Prop}(slot:Slot "str" a id)(c:typeOf (.builtin id)=pure (.type "method_descriptor"))(i:kL X id r)(g:PE X o b)(m:PA X [e] t)
 (l:‹zt X o a›)
 (k:‹zg X af e›)
 (j:‹zC ah af›)(d:‹zw X e []›)(f:‹zb X af []›) :
  PE X (.Call (.Attribute o a ah) [e] [] af) (LL r b t):=by
 refine(l3 PySem.F.plainAttrs_str slot c i g.mono m l k j d f).imp λG H Q h=>?_;refine#[_,h,?_];rintro x Y ⟨⟨y,rfl⟩,n⟩;exact#[rfl,n]
def afR(b:Gl X x)(a:∃u,X.mg x\u/\zZ v u)(hd:‹(zz x,2)›):PE X (.Name x O) (tC v):=by
 let⟨u,d,c⟩:=a;exact IL b d c hd
def agQ{t:TS}(a:m4 X st t):lz X [st] t:=#[pC a.out]
def hid(y:Str):Str:=Str.ofString "?"++y
def Rz(I:Φ)(N:Φ):Φ:=N.map λy=>if y∈I then hid y else y
def Cx.compG(X:Cx)(a:Φ)(J:Scope)(I:Φ)(C:Addr)(s₀:Shared)(H₀:Hp)(ex:Ψ)(pn:Δ):Cx :=
 { X with env:=compEnvC J (yp X.env.cells J.names []) C X.env,N:=I++a,s₀:=s₀,H₀:=H₀,outer:=X.stack,ex:=ex,fn:=λ_=>false,pn:=pn,xe:=λ_ _=>False }
def PTs(X:Cx)(aS:xw)(tc:TT):Prop:=∀(U:Δ)(s:Shared)(G:L2.St)(H:Hp)(Q:Bool->Hp->Prop),↥X->tc G H Q ->
 ⇑X (forIn aS true λc r=>if r=true then do let d <- isTrue c X.env (eval c X.env);pure (ForInStep.yield d)else pure (ForInStep.yield r)) (λb a=>∃W,Inv X U G W a/\Q b W) X.xe s
def Of:TT:=λ_ H Q=>Q true H
def ahI{X:Cx} : PTs X [] Of:=λ_ _ _ H _ I q=>wpAny_tests_nil #[H,I,q]
def ahA{X:Cx}{c:Expr}(h:PT X c tc):PTs X [c] tc:=λU s G H Q I q=>wpAny_tests_one (h U s G H Q I q)
def vO(wi:TI)(n:Nat)(gt:TG)(tc:TT)(te:TE):TE:=λG H Q=>wi G H λJ Y=>∀D,Y D=none->∃a:Nat->Nat->Ζ->Hp->Prop,(∃m,a 0 m [] (upd Y D (.lst [])))/\∀i m d g,a i m d g ->
 (J.stop i g/\Q (.ref D) g)\/(J.go i g/\∀x W,J.yld i g x W->∀e:L2.St,e.length=n->gt x (e++G) W λc l=>∃h:L2.St,h.length=n/\c=h++G/\tc c l λb k =>
  match b with
  |true=>te c k λy j=>d.length<sizeLine/\j D=some (.lst d)/\∃f,f<m/\a (i+1) f (d++[y]) (upd j D (.lst (d++[y])))
  |false=>∃f,f<m/\a (i+1) f d k)
def Cx.compE(X:Cx)(ext:Addr->xB)(fn:Str->Bool)(a:Φ)(J:Scope)(I:Φ)(C:Addr)(s₀:Shared)(H₀:Hp)(ex:Ψ)(pn:Δ):Cx :=
 { X with env:=compEnvC J (ext C++yp X.env.cells J.names []) C X.env,N:=I++a,s₀:=s₀,H₀:=H₀,outer:=X.stack,ex:=ex,fn:=fn,pn:=pn,xe:=λ_ _=>False }
structure W7(X:Cx)(J:Scope)(I:Φ)(ext:Addr->xB)(fn:Str->Bool):Prop where
 new:∀{M:Model}{A:Around}{E:Ε}{s:Shared}{globals:Addr}{b8:xB}{am:Str}{outer:Env}{Q:Env->Shared->Prop},(∀g,g.Ns s.zs (λx=>([] : xL).reverse.lookup x)->(∀y c,(ext s.zs).lookup y\c->g.IsCell c none)->(∀b o,s.heap.get? b\o->g.get? b\o)->Q (newEnv J s.zs globals (ext s.zs++b8) am none .none (some outer) builtinsNs) { s with heap:=g,toks:=s.toks+([] : xL).length }) ->
  wpAny M A (newFunctionEnv J globals b8 [] am none .none (some outer)) Q E s
 up:∀C y c,(ext C).lookup y\c->C<c
 one:∀C y z c,(ext C).lookup y\c->(ext C).lookup z\c->y=z
 nw:∀C y,fn y->∃c,(ext C).lookup y\c
 off:∀C y,y∉I->(ext C).lookup y=none
 kd:∀C y,((relabel J X.env).names.lookup y\.cell\/(relabel J X.env).names.lookup y=some .free)->(∃c,(ext C).lookup y\c)\/(y,NameKind.free)∈J.names
def vK{X:Cx}{I:Φ}(f:J.kind=.function)(c:∀y∈J.names,y.2≠.cell):W7 X J I (λ_=>[]) (λ_=>false) :=
 #[λh=>wpAny_newFunctionEnv c (by intro y d;simp at d) (λg i a=>h g i (λ_ _ z=>(nomatch z)) λb o e=>(a.2 b (aQ (aK e))).trans (aH _ e)) f,λ_ _ _ z=>(nomatch z),λ_ _ _ _ z=>(nomatch z),λ_ _ z=>(nomatch z),λ_ _ _=>rfl,λ_ _ e=>.inr (Gi e c)]
def QX{use:Option (Value->Sem Unit)}{post:Ε}{Qv:VK}{pp:Pos}{I N':Φ}(E:W7 X J I ext fn)(hc:X.calm)(ir:Rz I X.N=N')(df:J.kind=.function)(dA:∀y∈J.names,y.2=.local->J.names.lookup y.1\.local)
 (c8:∀y∈J.names,y.2=.free->X.env.kindOf y.1\.cell\/X.env.kindOf y.1=some .free)(gE:∀y∈X.N,y∉I->(relabel J X.env).names.lookup y≠some .local)(hq:∀y∈X.N,y∈I->(relabel J X.env).names.lookup (hid y)=none)(hi:PI X tg iter wi)
 (hg:∀C x F ex pn,PG (X.compE ext fn N' J I C x F ex pn) tg gt)(ht:∀C x F ex pn,PTs (X.compE ext fn N' J I C x F ex pn) aS tc)(he:∀C x F ex pn,PE (X.compE ext fn N' J I C x F ex pn) bg te)(hs:zh X iter)(f:↥X)(h:vO wi I.length gt tc te G H Qv)
 (sB:∀(C D:Addr)(l:Hp)(s6:Shared)(m:Str->Ω)(fl:Flow),s6.heap.Ns C m->Inv X U G l s6->Kc X U l C->Qv (.ref D) l->compPost (model X.prog X.w) X.A X.xe use post (.ref D) C (.ok fl) s6) :
  ⇑X (comprehension (.ListComp bg [#[tg,iter,aS,0]] J O) J X.env pp (newList []) false (eval iter X.env) use) post X.xe s:=by
 have eS:∀y∈J.names,y.2=.free->∃c,X.env.cells.lookup y.1\c:=λy hy e=>f.ok.has y.1 (c8 y hy e);refine wpAny_comprehension_free (use:=use) (Q:=post) rfl hs (Y6 eS) df dA (ag (hi U s G H _ f h) λv s1 h1=>ag h1 λpe B h2=>?_);let⟨it,V,tn,a,H2,e,I2,T,g3,f2,R⟩:=h2;subst e;have nD:H2 B.zs=none:=I2.hok.fresh (aG _);let⟨W,⟨m0,w0⟩,turn⟩:=R B.zs nD;refine wpAny_newObj_type ?_ (by show 0<=sizeLine;exact aZ _);have t:Inv X U G (upd H2 B.zs (.lst [])) { B with heap:=B.heap.push { cls:=.type "list",dict:=none,data:=.seq ([] : Θ).toArray } }:=I2.lnew (t':=B.toks) (ys:=[]) (its:=[]) .nil (aZ _);have oC:∀b o,B.heap.get? b\o->(B.heap.push { cls:=.type "list",dict:=none,data:=.seq ([] : Θ).toArray }).get? b\o:=λb o e=>aH _ e;generalize hs3:({ B with heap:=B.heap.push { cls:=.type "list",dict:=none,data:=.seq ([] : Θ).toArray } } : Shared)=s3 at t ⊢;have ki:tn 0 s3.heap:=T.keep _ _ _ g3 λb _ o e=>%[<- hs3|oC b o e]
 generalize hH3:upd H2 B.zs (.lst [])=H3 at t w0;have f3:∀b∈V,Kc X U H3 b:=λb k=>by
  let⟨a1,a2⟩:=f2 b k;refine#[?_,a2];let⟨o,e,_⟩:=T.obj _ _ g3 b k;rwa[<- hH3,b_ (aQ (aK e))]
 refine E.new λg fq j2 kg=>?_;have clm:∀{y:Str}{c:Addr},(yp X.env.cells J.names []).lookup y\c->X.env.cells.lookup y\c:=λ{y c}e=>by
  rcases Xa eS (PySem.mem_of_lookup e)with z|z
  .cases z
  .exact z
 have io:∀{y:Str},(ext s3.zs).lookup y=none->((relabel J X.env).names.lookup y\.cell\/(relabel J X.env).names.lookup y=some .free)->(X.env.kindOf y\.cell\/X.env.kindOf y=some .free)/\∃c,(ext s3.zs++yp X.env.cells J.names []).lookup y\c/\X.env.cells.lookup y=some c:=λ{y}ny e=>by
  rcases E.kd s3.zs y e with⟨c,z⟩|z
  .rw[ny]at z;cases z
  .let⟨c,eI⟩:=W3 (cells:=X.env.cells) (acc:=[]) (.inl z);let⟨c,eI⟩:=sI eI;exact#[c8 _ z rfl,c,%[lookup_append,ny|eI],clm eI]
 have mI:∀{y:Str}{c:Addr},(ext s3.zs++yp X.env.cells J.names []).lookup y\c->(ext s3.zs).lookup y\c\/X.env.cells.lookup y=some c:=λ{y c}e=>by
  rw[lookup_append]at e;cases hy:(ext s3.zs).lookup y with
  |some d=>rw[hy]at e;exact .inl e
  |none=>rw[hy]at e;exact .inr (clm e)
 have cll:∀{y z c},(ext s3.zs).lookup z\c->¬X.env.cells.lookup y\c:=λ{y z c}S e=>by
  let⟨v,o,h1,_⟩:=t.cell y c e;exact X2 _ (Tk (aK h1) (E.up _ _ _ S))
 have o0:∀b∈V,b<s3.zs:=λb k=>by
  let⟨o,e,_⟩:=T.obj _ _ ki b k;exact aK e
 have nst:∀b∈V,b∉cX X.stack:=λb k=>t.nostk' (f3 b k).2.1 (f3 b k).2.2.1;have cfp:∀b∈V,∀y c,(ext s3.zs++yp X.env.cells J.names []).lookup y\c->c≠b:=λb k y c e=>by
  rcases mI e with z|z
  .exact UZ (Tk (o0 b k) (E.up _ _ _ z))
  .exact(f3 b k).2.2.2.2.1 y c z
 generalize hX:X.compE ext fn N' J I s3.zs s3 H3 V (X.pn++U)=Y;have ok':Y.Ok:=by
  subst hX;exact#[t.ok.mod,df,t.ok.glob,t.ok.blt,aG _,λy z c h1 h2=>by
    rcases mI h1 with S|S<;>rcases mI h2 with e2|e2
    .exact E.one _ _ _ _ S e2
    .exact absurd e2 (cll S)
    .exact absurd S (cll e2)
    .exact t.ok.inj y z c S e2,λy hy=>by
    cases hz:(ext s3.zs).lookup y with
    |some c=>exact#[c,List.lookup_append.trans (by rw[hz];rfl)]
    |none=>exact let⟨_,c,q,_⟩:=io hz hy;#[c,q],λy c l6 e=>by
    let⟨d,z⟩:=E.nw s3.zs y l6;have e:(ext s3.zs++yp X.env.cells J.names []).lookup y\c:=e;rw[lookup_append,z]at e;cases e;exact Y2 (E.up _ _ _ z),t.ok.hd,t.ok.frames,.inl rfl,
   λb k=>#[aQ (o0 b k),cfp b k],t.bs,aL t.ok.bsz t.sz,λb o e k=>by
    rcases(f3 b k).2.2.2.1 with z|z
    .exact t.ok.noex b o e z
    .exact absurd (aR (aR (aK e) t.ok.bsz) z) (X2 _),nst,t.stack,t.stkFree]
 have J4:∀tk,Inv Y [] (replicate I.length none++G) H3 { s3 with heap:=g,toks:=tk }:=λtk=>by
  subst hX;refine#[ok',rfl,t.bare,Un.kept kg,#[_,fq,λi y v S e2 e3=>?_],λy c e=>?_,t.hok.fresh (aG _),λy c e=>(mI e).elim (λz=>t.hok.fresh (Y2 (E.up _ _ _ z))) (t.freeC y c),λp hp=>?_,t.hok.kept kg,?_]
  .by_cases lS:i<I.length
   .rw[aF (by rwa[aN]),XG,ZY lS]at e2;cases e2
   .obtain⟨j,rfl⟩ : ∃j,i=I.length+j:=#[i-I.length,by lia];have e0:N'[j]?\y:=by
     have S:(I++N')[I.length+j]?\y:=S;rw[aD (X1 _ _)]at S;rw[show I.length+j-I.length=j by exact JU _ _]at S;exact S
    have nK:G[j]?\(some v):=by
     rw[aD %[aN|X1 _ _],aN]at e2;rw[show I.length+j-I.length=j by exact JU _ _]at e2;exact e2
    rw[<- ir]at e0;obtain⟨M,kx,ey⟩ : ∃M,X.N[j]?\M/\(if M∈I then hid M else M)=y:=by
     unfold Rz at e0;rw[aq]at e0;cases hz:X.N[j]? with
     |none=>rw[hz]at e0;cases e0
     |some M=>rw[hz]at e0;exact#[M,rfl,Option.some.inj e0]
    have e3:(relabel J X.env).names.lookup y\.local\/(relabel J X.env).names.lookup y=some .cell\/(relabel J X.env).names.lookup y=some .free:=e3;have ne:¬M∈I:=λz=>by
     rw[ZY z]at ey;subst ey;rw[hq M (aC kx) z]at e3;rcases e3 with z|z|z<;>cases z
    rw[ZZ ne]at ey;subst ey;have e3':(relabel J X.env).names.lookup M\.cell\/(relabel J X.env).names.lookup M=some .free:=by
     rcases e3 with z|z
     .exact absurd z (gE M (aC kx) ne)
     .exact z
    let⟨kd,c,j2,f7⟩:=io (E.off _ _ ne) e3';let⟨m,_,hl⟩:=t.loc;let⟨u,r,lk⟩:=hl j M v kx nK (.inr kd);refine#[u,r,.inr #[e3',c,j2,?_]];rcases lk with⟨k1,_⟩|⟨_,c',q1,o,q2,q3⟩
    .exfalso;have k1':X.env.kindOf M\.local:=k1;rcases kd with k2|k2<;>rw[k1']at k2<;>cases k2
    .rw[f7]at q1;cases q1;exact#[o,kg _ _ q2,q3]
  .rcases mI e with z|z
   .exact#[none,j2 y c z]
   .let⟨v,o,q2,q3⟩:=t.cell y c z;exact#[v,o,kg _ _ q2,q3]
  .have eR:p∈X.pn++U:=by simpa[Cx.compE]using hp
   let⟨a1,a2,a3,a4,a5⟩:=t.pin p eR;exact#[kg _ _ a1,a2,aQ (aK a1),t.nostk' a3 a4,a5]
  .show(replicate I.length none++G).length=(I++N').length;have iF:N'.length=X.N.length:=by rw[<- ir];unfold Rz;rw[ak]
   rw[aA,aN,aA,t.len,iF]
 have r9:∀{l:Hp},(∀b∈V,l b=none)->∀b∈V,Kc Y [] l b:=λ{l}hn b k=>by
  subst hX;exact#[hn b k,aQ (o0 b k),nst b k,.inl k,cfp b k,λp hp=>(f3 b k).2.2.2.2.2 p (by simpa[Cx.compE]using hp)]
 have ja:∀s4:Shared,s4={ s3 with heap:=g,toks:=s3.toks+([] : xL).length } ->
   codeAny (model X.prog X.w) X.A (.compLoop (.ListComp bg [#[tg,iter,aS,0]] J O) 0 (.ref it) (.ref B.zs) Y.env) (compPost (model X.prog X.w) X.A X.xe use post (.ref B.zs) s3.zs) s4:=by
  rintro s4 rfl;have YP:Y.prog=X.prog/\Y.w=X.w/\Y.K=X.K/\Y.calm=X.calm/\Y.A=X.A/\Y.env.locals=s3.zs:=by subst hX;exact#[rfl,rfl,rfl,rfl,rfl,rfl]
  let⟨y1,y2,y3,y4,y5,y6⟩:=YP;have he':PE Y bg te:=by subst hX;exact he _ _ _ _ _
  have lT:PG Y tg gt:=by subst hX;exact hg _ _ _ _ _
  have ht':PTs Y aS tc:=by subst hX;exact ht _ _ _ _ _
  have mM:Y.xe=λ_ _=>False:=by subst hX;rfl
  have yb:∀{l:Hp}{L:L2.St}{pn:Δ}{s':Shared},Inv Y pn L l s'->Un (cX X.stack) V H3 l s3.heap s'.heap:=λ{l L pn s'}Z=>by
   have:=Z.base;subst hX;exact this
  have yos:∀{l:Hp}{L:L2.St}{pn:Δ}{s':Shared},Inv Y pn L l s'->s'.os=s3.os:=λ{l L pn s'}Z=>by
   have:=Z.os;subst hX;exact this
  refine codeAny_loop rfl (λn s'=>∃i ys l,∃L:L2.St,L.length=I.length/\Inv Y [] (L++G) l s'/\tn i s'.heap/\(∀b∈V,l b=none)/\W i n ys l) (λn s5 hI=>?_) m0 #[0,[],H3,replicate I.length none,aN,J4 _,T.keep _ _ _ ki λb _ o e=>kg b o e,λb k=>(f3 b k).1,w0];let⟨i,ys,l,L,eC,Z,stc,frc,wc⟩:=hI;show wpAny _ _ ((compTurn (.ListComp bg [#[tg,iter,aS,0]] J O) 0 (.ref it) (.ref B.zs) Y.env).onRaise (λz=>do noteFrame z Y.env;theTreesLotGoes z)) _ _ s5;refine wpAny_noted (wpAny_noRaise ?_);rw[compTurn_list];show ⇑X _ _ _ _;rcases turn i n ys l wc with⟨stop,qn⟩|⟨go,step⟩
  .have hd:=T.done Y y1 y2 y3 (y4.trans hc) i [] s5 (L++G) l (λ_ _=>False) Z (r9 frc) stc stop;rw[y5]at hd;refine ZU (wpAny_standAt (ZU (ag hd λr s6 P=>?_)));let⟨hr,Z6⟩:=P;subst hr;refine ZT ?_;let⟨m,lh,_⟩:=Z6.loc;rw[y6]at lh;have u6:=yb Z6;have hok:HOk X.prog X.w l s6.heap:=by
    have z:=Z6.hok;rw[y1,y2]at z;exact z
   have cn:l s3.zs=none:=by
    have z:=Z6.free;rw[y6]at z;exact z
   have I6:Inv X U G l s6:=t.call' (s':=s6) (ch:=V) (yos Z6) u6 hok Z6.bare λb k=>#[(f3 b k).2.2.2.1,(f3 b k).2.1,(f3 b k).2.2.2.2.1,(f3 b k).2.2.2.2.2];have fC:Kc X U l s3.zs:=t.fpOk (aG _) cn;exact sB _ _ l s6 m _ lh I6 fC qn
  .have hd:=T.item Y y1 y2 y3 (y4.trans hc) i [] s5 (L++G) l (λ_ _=>False) Z (r9 frc) stc go;rw[y5]at hd;refine ZU (wpAny_standAt (ZU (ag hd λr s6 P=>?_)));let⟨u,hr,h6⟩:=P;subst hr;refine ZU (ag h6 λ_ s7 P=>?_);let⟨xv,H7,Z7,r7,yl,og,fr7⟩:=P;have Z7':=Z7.pinned (r9 fr7) (T.obj _ _ og);have bz:=lT _ s7 _ H7 xv u _ Z7' r7 (step xv H7 yl L eC);rw[y1,y2,y5,mM]at bz;refine ZU (ag bz λ_ s8 P=>?_);let⟨σ8,H8,Z8,pre,f6,e8,q8⟩:=P;subst e8;have hte:=ht' _ s8 _ H8 _ Z8 q8;rw[y1,y2,y5,mM]at hte;have fin:∀{m':Nat}{kz:Ζ}{H9:Hp}{s9:Shared},Inv Y ([]++Og V s7.heap) (pre++G) H9 s9->m'<n->W (i+1) m' kz H9->∃m,m<n/\∃i ys l,∃L:L2.St,L.length=I.length/\Inv Y [] (L++G) l s9/\tn i s9.heap/\(∀b∈V,l b=none)/\W i m ys l:=λ{m' kz H9 s9}Z9 iE w9 =>
    #[m',iE,i+1,kz,H9,pre,f6,Z9.unpinned,T.keep _ _ _ og λb k o e=>(Z9.pin (b,o) (aP _ (aP _ (tV k e)))).1,λb k=>by
     let⟨o,e,_⟩:=T.obj _ _ og b k;exact(Z9.pin (b,o) (aP _ (aP _ (tV k e)))).2.1,w9]
   refine ZU (ag hte λok s9 P=>?_);let⟨H9,Z9,q9⟩:=P;cases ok with
   |false =>
    let⟨m',iE,w9⟩:=q9;exact ZT #[rfl,fin Z9 iE w9]
   |true =>
    have hel:=he' _ s9 _ H9 _ Z9 q9;rw[y1,y2,y5,mM]at hel;refine ZU (ZU (ag hel λev kl P=>?_));let⟨yv,H10,Z10,r10,hz,rX,m',iE,w10⟩:=P;have rV:=Rn (X:=Y) _ kl _ H10 (.ref B.zs) [yv] (.ref B.zs) [ev] (λ_ Hf=>Hf=upd H10 B.zs (.lst (ys++[yv]))) Z10 rfl (.cons r10 .nil) #[_,ys,yv,rfl,rfl,rX,hz,rfl];rw[y1,y2,y5,mM]at rV;refine ZU (ag rV λav s11 P=>?_);let⟨_,H11,Z11,_,e11⟩:=P;subst e11;exact ZT (ZT #[rfl,fin Z11 iE w10])
 have qr:Y.env=compEnvC J (ext s3.zs++yp X.env.cells J.names []) s3.zs X.env:=by subst hX;rfl
 rw[qr]at ja;exact codeAny_compStart_list (ja _ rfl) (T.self _ 0 _ _ _ (T.keep _ _ _ ki λb _ o e=>kg b o e) (ja _ rfl))
def YB{I i:Φ}(E:W7 X J I ext fn)(x:X.calm)(l:Rz I X.N=i)(F:J.kind=.function)(K:∀y∈J.names,y.2=.local->J.names.lookup y.1\.local)
 (L:∀y∈J.names,y.2=.free->X.env.kindOf y.1\.cell\/X.env.kindOf y.1=some .free)(B:∀y∈X.N,y∉I->(relabel J X.env).names.lookup y≠some .local)(r:∀y∈X.N,y∈I->(relabel J X.env).names.lookup (hid y)=none)(u:PI X tg iter wi)
 (v:∀C c d g pn,PG (X.compE ext fn i J I C c d g pn) tg gt)(n:∀C c d g pn,PTs (X.compE ext fn i J I C c d g pn) aS tc)(w:∀C c d g pn,PE (X.compE ext fn i J I C c d g pn) bg te)(p:zh X iter) :
  PE X (.ListComp bg [#[tg,iter,aS,0]] J O) (vO wi I.length gt tc te):=by
 intro U s G H Q a h;rw[eval_ListComp];exact QX E x l F K L B r u v n w p a h λC D P k m fl t M f q=>#[m,t,λj A=>#[.ref D,P,M.turned (it:=C) (h':=j) (t':=k.toks) (λb o z e=>(A.2 b z).trans e) f.1 f.2.1 f.2.2.2.1 f.2.2.2.2.1 f.2.2.2.2.2,rfl,q]]
variable{G:St}{us:Θ}{o:wv}{u r:Value}{y:V}{kvs:wx}{h':Heap}{ay i:Expr}
section
variable{X:Cx}{k:Nat}{f C:Addr}{fd:FuncData}{ps:Φ}{sp:Sp}{db:Ζ}{ds:Θ}{x m:Str}{p O ah:Pos}{e o:Expr}{Z:xw}{ta:TE}{t:TA}{Ex:Value->Ξ->L2.St->Hp->Prop}
def ag5{Q:VK}{vs:Ζ}(F:fK X.prog X.w X.K X.mg X.base (eL X.prog X.w) k f fd ps sp)(l:dZ k X.A)(n:Binds X.K fd ps ds)(hd:zN db ds)(j:i4 X Ex)
 (I:↥X)(r:zN vs us)(h:sp (vs++db) H Q λC d W=>Ex C d G W):⇑X (call (.ref f) us) (EP X U G Q) X.xe s:=by
 have c:zN (vs++db) (us++ds):=r.append hd;have m:(us++ds).length=ps.length:=%[<- c.length|F.len _ _ _ _ h]
 refine wpAny_call (codeAny_mono (F.run X.A X.stack s H #[us,[]] (us++ds) (vs++db) Q _ l I.env0 (n s us I.kIn m) c h) λr g b=>?_);cases r with
 |error e =>
  let⟨a,C,d,W,B,rfl,o,i⟩:=b;exact j U G H s a C W g B d I o i
 |ok fl =>
  cases fl with
  |ret u=>exact I.after b
  |next=>exact False.elim b
  |brk=>exact False.elim b
  |cont=>exact False.elim b
end
section
variable{κ:Type}[DecidableEq κ]
def Mt(kvs:List (κ×V))(k:κ):wv:=(kvs.find? λa=>decide (a.1=k)).map (·.2)
def putK(kvs:List (κ×V))(k:κ)(v:V):List (κ×V) :=
 if(kvs.any λa=>decide (a.1=k))=true then kvs.map (λa=>if a.1=k then(a.1,v)else a)else kvs++[(k,v)]
def WY{p:κ×V}{r:List (κ×V)}{k:κ}(e:p.1=k):Mt (p::r) k\p.2:=by simp[Mt,List.find?_cons,e]
def N6{p:κ×V}{r:List (κ×V)}{k:κ}(e:¬p.1=k):Mt (p::r) k=Mt r k:=by simp[Mt,List.find?_cons,e]
def XS(kvs:List (κ×V))(k:κ)(v:V):(putK kvs k v).length<=kvs.length+1:=by
 unfold putK;split
 .rw[ak];exact Xs _
 .rw[aA,length_cons,List.length_nil];exact aG _
def zy.isSome_eq{u:Ω}(r:zy o u):o.isSome=u.isSome:=by
 cases o with
 |none=>cases u with
  |none=>rfl
  |some _=>exact(show False from r).elim
 |some _=>cases u with
  |none=>exact(show False from r).elim
  |some _=>rfl
def zy.getD{o:wv}{u:Ω}{d:V}{a:Value}(r:zy o u)(rd:zZ d a):zZ (o.getD d) (u.getD a):=by
 cases o with
 |none=>cases u with
  |none=>exact rd
  |some _=>exact(show False from r).elim
 |some _=>cases u with
  |none=>exact(show False from r).elim
  |some _=>exact r
def KV.val{kvs:List (κ×V)}{vs:List (κ×Value)}(r:KV kvs vs)(k:κ):zy (Mt kvs k) (valueAt vs k):=by
 unfold KV at r
 induction r with
 |nil=>exact True.intro
 |@cons p q ps a h t f =>
  let⟨d,g⟩:=h;by_cases e:p.1=k
  .have c:q.1=k:=d.symm.trans e;have b:valueAt (q::a) k\q.2:=by simp[valueAt,List.find?_cons,c]
   rwa[WY e,b]
  .have c:¬q.1=k:=λz=>e (d.trans z);have b:valueAt (q::a) k=valueAt a k:=by simp[valueAt,List.find?_cons,c]
   rwa[N6 e,b]
def KV.any{kvs:List (κ×V)}{vs:List (κ×Value)}(r:KV kvs vs)(k:κ):(kvs.any λa=>decide (a.1=k))=vs.any λa=>decide (a.1=k):=by
 unfold KV at r
 induction r with
 |nil=>rfl
 |cons h t b=>rw[any_cons,any_cons,b,h.1]
def KV.repl{kvs:List (κ×V)}{vs:List (κ×Value)}(r:KV kvs vs)(k:κ)(c:zZ y u) :
  KV (kvs.map λa=>if a.1=k then(a.1,y)else a) (vs.map λa=>if a.1=k then(a.1,u)else a):=by
 unfold KV at r ⊢
 induction r with
 |nil=>exact .nil
 |@cons p q ps g h t d =>
  rw[map_cons,map_cons];refine .cons ?_ d;let⟨b,f⟩:=h;by_cases e:p.1=k
  .rw[ZY e,ZY (b.symm.trans e)];exact#[b,c]
  .rw[ZZ e,ZZ (λz=>e (b.trans z))];exact#[b,f]
def KV.put{kvs:List (κ×V)}{vs:List (κ×Value)}(r:KV kvs vs)(k:κ)(a:zZ y u):KV (putK kvs k y) (stored vs k u):=by
 unfold putK stored;rw[r.any k];by_cases e:(vs.any λb=>decide (b.1=k))=true
 .rw[ZY e,ZY e];exact r.repl k a
 .rw[ZZ e,ZZ e];exact Paired.snoc r #[rfl,a]
def KV.length{kvs:List (κ×V)}{vs:List (κ×Value)}(r:KV kvs vs):kvs.length=vs.length:=Paired.length r
end
def Wu{k:bo}(r:zZ (kV k) u):(gM P w).is k u:=by
 cases k with
 |inl i=>let⟨t,e⟩:=(show ∃t,u=Value.int i t from r);subst e;exact Xy P w i t
 |inr x=>let⟨t,e⟩:=(show ∃t,u=Value.str x t from r);subst e;exact YD P w x t
def Sr{u:HO}(b:HOk P w H h)(e:Rd H a u):fJ P w H h a u:=e.ok b
def LC(b:HOk P w H h)(e:Rd H a (.dK kvs)):kvs.length<=sizeLine/\(a==sysModules)=false/\∃vs,KV kvs vs/\h.DictOf (gM P w) a vs :=
 show fJ P w H h a (.dK kvs)from Sr b e
def Sk(b:HOk P w H h)(e:H a\(.dK kvs)):kvs.length<=sizeLine/\(a==sysModules)=false/\∃vs,KV kvs vs/\h.DictOf (gM P w) a vs:=LC b (.inl e)
def I_(H:Hp)(a:Addr)(y:V)(r:wv):Prop :=
 (∃kvs k,Rd H a (.dK kvs)/\y=kV k/\r=Mt kvs k)\/False
def D7(H:Hp)(a:Addr)(y v:V)(W:Hp):Prop :=
 (∃kvs k,H a\(.dK kvs)/\y=kV k/\kvs.length<sizeLine/\W=upd H a (.dK (putK kvs k v)))\/False
def I_.k{H:Hp}{a:Addr}{kvs:wx}{k:bo}(e:H a\(.dK kvs)):I_ H a (kV k) (Mt kvs k):=.inl #[kvs,k,.inl e,rfl,rfl]
def Inv.big(I:↥X):sysModules<s.zs:=by
 have h:mainGlobals<s.zs:=(I.mod.glob.keeps I.bk).lt;exact Tk vw h
def adn{Q:Ε}(q:A.units+1<cLine)(I:↥X)(g:I_ H a y (some v))(f:zZ y u)(h:∀b d,Inv X U G H d->zZ v b->Q b d) :
  wpAny (model X.prog X.w) A (getItem (.ref a) u) Q E s:=by
 rcases g with⟨kvs,k,e,n,l⟩|j
 .subst n;let⟨z,hd,vs,c,p⟩:=LC I.hok e;let⟨b,i,m⟩:=zy.some_of (v:=v) (o:=valueAt vs k) %[l|c.val k];exact wpAny_getItem_of (Wu f) p.mapOf i (h b _ (I.tok _) m)
 .exact j.elim
def PV{Q:Ε}(m:A.units+1<cLine)(I:↥X)(g:I_ H a y o)(d:zZ y u)(h:∀c,Inv X U G H c->Q (.bool o.isSome) c) :
  wpAny (model X.prog X.w) A (compareOp .In u (.ref a)) Q E s:=by
 rcases g with⟨kvs,k,e,i,l⟩|f
 .subst i;let⟨z,hd,vs,b,j⟩:=LC I.hok e;refine wpAny_in_of (Wu d) hd j.mapOf ?_;rw[<- (b.val k).isSome_eq,<- l];exact h _ (I.tok _)
 .exact f.elim
def aik{Q:Ε}(m:A.units+1<cLine)(I:↥X)(g:I_ H a y o)(d:zZ y u)(h:∀c,Inv X U G H c->Q (.bool (!o.isSome)) c) :
  wpAny (model X.prog X.w) A (compareOp .NotIn u (.ref a)) Q E s:=by
 rcases g with⟨kvs,k,e,i,l⟩|f
 .subst i;let⟨z,hd,vs,b,j⟩:=LC I.hok e;refine wpAny_notIn_of (Wu d) hd j.mapOf ?_;rw[<- (b.val k).isSome_eq,<- l];exact h _ (I.tok _)
 .exact f.elim
def aiH{g:Nat}{c:HO}(I:↥X)(h:kK (H a))(i:Heap.SameBut a s.heap h')(j:∃q,h'.get? a\q)(d:fJ X.prog X.w (upd H a c) h' a c) :
  Inv X U G (upd H a c) { s with heap:=h',toks:=g } :=
 I.write (x:=a) (e:=a) h (.inl rfl) (λb q k z=>(i.2 b k).trans z) j d
def _z{vs:List (bo×Value)}(z:kvs.length<=sizeLine)(hd:(a==sysModules)=false)(b:KV kvs vs)(c:h'.DictOf (gM P w) a vs) :
  fJ P w W h' a (.dK kvs):=#[z,hd,vs,b,c]
def acE(D:A.units+1<cLine)(I:↥X)(g:D7 H a y v W)(f:zZ y u)(i:zZ v r)(h:∀d,Inv X U G W d->Q () d) :
  wpAny (model X.prog X.w) A (setItem (.ref a) u r) Q E s:=by
 rcases g with⟨kvs,k,e,x,l,B⟩|t
 .subst x B;let⟨z,hd,vs,b,C⟩:=Sk I.hok e;have j:vs.length<=sizeLine:=%[<- b.length|z]
  have o:(putK kvs k v).length<=sizeLine:=by have:=XS kvs k v;lia
  refine wpAny_setItem_pairs (hsz:=j) (Wu f) C λh' c m=>h _ ?_;have p:∃q,h'.get? a\q:=by let⟨q,_,_,n,_⟩:=c;exact#[q,n]
  exact aiH I %[e|True.intro] m p (_z o hd (b.put k i) c)
 .exact t.elim
def oD(i:Expr):Prop:=∀a b,subscripted i false a b=operate [a,b] (getItem a b)
def ai8{env:Env}{j:Expr}{T id:String}{Q:Ε}
 (m:typeLookup (.type T) "__getitem__"=pure (some (.builtin id)))(l:oD j)
 (h:wpAny (model prog w) A (eval ay env) (λo d=>wpAny (model prog w) A (eval j env) (λi a=>a.TypeIs o T/\wpAny (model prog w) A (getItem o i) Q E a) E d) E s) :
  wpAny (model prog w) A (eval (.Subscript ay j O) env) Q E s:=by
 refine Subscript_ (wpAny_mono h (λo d g=>wpAny_mono g (λi a b=>?_) λ_ _ x=>x) λ_ _ x=>x);let⟨k,b⟩:=b;unfold subscriptTail;refine ZU ?_;rw[getitemInPython_of_ne k.not_modules];refine ZU (wpAny_specialOf k m ?_);have e:wpAny (model prog w) A (subscripted j false o i) (λr c=>wpAny (model prog w) A (letTemporaryGo ay o r >>= λ_=>pure r) Q E c) E a:=by
  rw[l o i];exact wpAny_operating (wpAny_mono b (λr c f=>ZU (wpAny_letTemporaryGo (ZT f))) λ_ _ x=>x)
 first
  |exact ZT (ZU e)
  |exact ZU (ZT (ZU e))
  |exact ZU e
def Xo{X:Cx}(I:↥X)(g:I_ H a y o):s.TypeIs (.ref a) "dict":=by
 rcases g with⟨kvs,k,e,_,_⟩|b
 .let⟨_,_,vs,_,c⟩:=LC I.hok e;exact c.typeIs
 .exact b.elim
def Pv(d c:TE):TE:=λG H Q=>d G H λx Y=>c G Y λy b=>∃a v,x=.ref a/\I_ b a y (some v)/\Q v b
def PM(c d:TE):TE:=λG H Q=>c G H λy Y=>d G Y λx b=>∃a o,x=.ref a/\I_ b a y o/\Q (.bl o.isSome) b
def ahx(c d:TE):TE:=λG H Q=>c G H λy Y=>d G Y λx b=>∃a o,x=.ref a/\I_ b a y o/\Q (.bl (!o.isSome)) b
def RU(e c d:TE):TS:=λD G H=>d G H λv Y=>e G Y λx g=>c G g λy f=>∃a b,x=.ref a/\D7 f a y v b/\D.nx G b
variable{o:Expr}{td ty tv:TE}{a9:Pos}{d:V}
def ahV(j:X.A.units+1<cLine)(l:PE X o td)(m:PE X i ty)(k:oD i):PE X (.Subscript o i O) (Pv td ty):=by
 intro U s G H Q I h;refine ai8 PySem.F.slot_dict_getitem.lookup k (ag (l U s G H _ I h) λu c #[x,Y,t,e,f]=>ag (m U c G Y _ t f) λD C n=>?_);let⟨y,w,b,d,a,v,q,g,q2⟩:=n;subst q;obtain rfl:u=Value.ref a:=e;exact#[Xo b g,adn j b g d λz B r p=>#[v,w,r,p,q2]]
def Tl(j:X.A.units+1<cLine)(l:PE X i ty)(k:PE X o td):PC X .In i o (PM ty td):=by
 intro U s G H Q I h;refine ag (l U s G H _ I h) λz b #[y,Y,r,c,e]=>ag (k U b G Y _ r e) λu w m=>?_;let⟨x,t,q,d,a,f,n,g,q2⟩:=m;subst n;obtain rfl:u=Value.ref a:=d;exact PV j q g c λv p=>#[.bl f.isSome,t,p,rfl,q2]
def ab6(j:X.A.units+1<cLine)(l:PE X i ty)(k:PE X o td):PC X .NotIn i o (ahx ty td):=by
 intro U s G H Q I h;refine ag (l U s G H _ I h) λz b #[y,Y,r,c,e]=>ag (k U b G Y _ r e) λu w m=>?_;let⟨x,t,q,d,a,f,n,g,q2⟩:=m;subst n;obtain rfl:u=Value.ref a:=d;exact aik j q g c λv p=>#[.bl (!f.isSome),t,p,rfl,q2]
def ahi(l:X.A.units+1<cLine)(n:PE X o td)(p:PE X i ty)(k:PE X ay tv)(m:swapsWith ay (some (.Subscript o i a9)) O.line X.env=pure false) :
  PS X (.Assign [.Subscript o i a9] ay O) (RU td ty tv):=by
 intro U s G H D I h;refine wpAny_Assign_Subscript (ag (k U s G H _ I h) λr c #[v,Y,C,f,j]=>ag (n U c G Y _ C j) λu b #[x,F,B,e,q2]=>ag (p U b G F _ B q2) λL K q=>?_) m;let⟨y,M,z,d,a,E,t,g,q3⟩:=q;subst t;obtain rfl:u=Value.ref a:=e;exact acE l z g d f λJ w=>#[G,E,w,q3]
def aeZ(h:Heap)(a:sysModules<h.objs.size):fJ P w H (h.push { cls:=.type "dict",data:=.dict ↥[] }) h.objs.size (.dK []) :=
 #[aZ _,beq_eq_false_iff_ne.mpr (Ne.symm (aQ a)),[],.nil,Heap.DictOf.new h]
def _i:TE:=λ_ H Q=>∀p,H p=none->Q (.ref p) (upd H p (.dK []))
def adH:PE X (.Dict [] [] O) _i:=λU s G H Q I h =>
 wpAny_Dict_empty #[.ref s.zs,_,I.laid (a:=s.zs) (o:=.dK []) (t':=s.toks) (λ_ _ q=>aH _ q) (aG _) (aeZ s.heap I.big),rfl,h _ (I.hok.fresh (aG _))]
structure M2(X:Cx)(o:Expr)(m:Str)(ah:Pos)(e f:Expr)(af:Pos):Prop where
 base:zt X o m
 few:((backTo af (starEach [e,f] X.env)).all (λx=>!x.1)&&(backToKw af (keywordEach [] X.env)).all (λx=>x.1.isSome)
  && decide (([e,f] : xw).length+([] : wP).length+(if([] : wP).isEmpty then 0 else 1)<30))=true
 line:zC ah af
 trees:backTo af (starEach [e,f] X.env)=[(false,eval e X.env),(false,eval f X.env)]
def Lv(H:Hp)(a:Addr):Prop:=(∃kvs,Rd H a (.dK kvs))\/False
def _G{X:Cx}(I:↥X)(d:Lv H a) :
  s.TypeIs (.ref a) "dict"/\(∀b,Value.ref a=.ref b->∃c,s.heap.get? b\c/\c.dict=none)/\(a==sysModules)=false:=by
 rcases d with⟨kvs,e⟩|g
 .let⟨_,hd,vs,_,f⟩:=LC I.hok e;refine#[f.typeIs,λb q=>?_,hd];cases q;let⟨c,_,_,i,h,_⟩:=f;exact#[c,i,h.2.1]
 .exact g.elim
variable{o:wv}{f:Expr}
def XE{Q:Ε}(p:A.units+1<cLine)(I:↥X)(g:I_ H a y o)(j:zZ y u)(rd:zZ d r)(h:∀c f,Inv X U G H f->zZ (o.getD d) c->Q c f) :
  wpAny (model X.prog X.w) A (call (.builtin "dict.get") [.ref a,u,r]) Q E s:=by
 rcases g with⟨kvs,k,e,n,l⟩|m
 .subst n;let⟨z,hd,vs,b,i⟩:=LC I.hok e;refine call_meetsIn PySem.F.slot_dict_get i.typeIs PySem.F.entry_dict_get (PySem.F.args_dict_get_3 _ _ _) (meets_dict_get_default (gM X.prog X.w) a (Wu j) hd r) #[_,i.mapOf,h _ _ (I.tok _) ?_];rw[l];exact(b.val k).getD rd
 .exact m.elim
def Zl(td ty c:TE):TE:=λG H Q=>td G H λx Y=>∃a,x=.ref a/\Lv Y a/\ty G Y λy d=>c G d λz b=>∃o,I_ b a y o/\Q (o.getD z) b
variable{o:Expr}{tx:TE}{pl:Sem Bool}{G:L2.St}
def af9(r:X.A.units+1<cLine)(t:PE X o td)(w:PE X e ty)(v:PE X f tx)(m:M2 X o "get" ah e f af):PE X (.Call (.Attribute o "get" ah) [e,f] [] af) (Zl td ty tx):=by
 intro U s G H Q I h;refine wpAny_Call_method m.base m.few m.line PySem.F.plainAttrs_dict PySem.F.slot_dict_get PySem.F.type_dict_get (ag (t U s G H _ I h) λu k B=>?_);let⟨x,Y,b,p,a,D,d,q⟩:=B;subst D;obtain rfl:u=Value.ref a:=p;let⟨i,c,_⟩:=_G b d;refine#[i,c,?_];rw[m.trees];refine Calls.callWith_builtin rfl (Calls.evalArgs_plain (Calls.spliced_cons (ag (w U k G Y _ b q) λS j #[y,M,K,n,q2] =>
  Calls.spliced_cons (ag (v U j G M _ K q2) λT P #[z,L,J,l,R,g,q3]=>Calls.spliced_nil ?_))))
 exact XE r J g n l λN O E C=>#[_,L,E,C,q3]
def nE(a:Addr)(o:Obj)(kvs:wx):It:=#[λi H=>H a\(.frz o (.dK kvs))/\i<kvs.length,λi H v W=>W=H/\∃k y,kvs[i]?\(k,y)/\v=kV k,λi H=>H a\(.frz o (.dK kvs))/\i=kvs.length]
def EV{k:bo}(h:(gM P w).is k u):zZ (kV k) u:=by
 have h:Gp k u:=h;cases k with
 |inl i =>
  cases u<;>simp[Gp,Value.isInt]at h
  .subst h;exact#[_,rfl]
 |inr x =>
  cases u<;>simp[Gp,Value.isStrOf]at h
  .subst h;exact#[_,rfl]
def KV.at{a:Type}{kvs:List (a×V)}{vs:List (a×Value)}(r:KV kvs vs):∀{i:Nat}{k:a}{y:V},kvs[i]?\(k,y)->∃u,vs[i]?\(k,u)/\zZ y u:=by
 unfold KV at r
 induction r with
 |nil=>intro i k y h;cases h
 |@cons p q ps f h t b =>
  intro i k y e;cases i with
  |zero =>
   rw[List.getElem?_cons_zero]at e;cases e;let⟨g,q2⟩:=q;let⟨d,c⟩:=h;cases d;exact#[q2,rfl,c]
  |succ i =>
   rw[List.getElem?_cons_succ]at e ⊢;exact b e
def ada(f a:Addr)(o:Obj)(kvs:wx)(vs:List (bo×Value))(N:Nat)(m:KV kvs vs)(M:∀h:Heap,h.get? a\o->h.DictAt (gM P w) a vs N) :
  Turn P w K tg (nE a o kvs) [f] f (λi h=>h.IsKeyIter f a i vs.length N) where
 mem:=by simp
 obj:=λi h st b l=>by
  have e:b=f:=↑l
  subst e;let⟨o,g,_,hd⟩:=st;exact#[o,g,λv z=>by rw[hd]at z;cases z]
 keep:=λi h h' st k=>let⟨o,g,r⟩:=st;#[o,k f vc o g,r]
 item:=by
  intro X t hw x hc i U s G H E I q st j;subst t hw x;let⟨j,Y⟩:=j;let⟨g,_⟩:=(show fJ X.prog X.w H s.heap a (.frz o (.dK kvs))from I.hok a _ j);let⟨F,D,V,C,B,A⟩:=q f vc;obtain⟨⟨k,y⟩,L⟩ : ∃p,kvs[i]?\p:=#[kvs[i],by simp[Y]];let⟨u,R,ru⟩:=m.at L;refine wpAny_pyNext_dict_item st (M _ g) R λZ h' T O Q=>?_;have I1:Inv X U G H { s with heap:=h' }:=I.turned (t':=s.toks) (λb J l e=>(Q.2 b l).trans e) F D C B A;let⟨oi,e,c,d⟩:=id O;exact#[Z,rfl,l4 (s:={ s with heap:=h' }) e c d vw #[kV k,H,I1,EV T,#[rfl,k,y,L,rfl],O,λb l=>(q b l).1]]
 done:=by
  intro X t hw x hc i U s G H E I q st j;subst t hw x;let⟨j,rfl⟩:=j;let⟨g,_⟩:=(show fJ X.prog X.w H s.heap a (.frz o (.dK kvs))from I.hok a _ j);let⟨F,D,V,C,B,A⟩:=q f vc;have S:=m.length;exact wpAny_pyNext_dict_end (I.ok.hd hc) st (M _ g) (by simp;exact WG (Eq.symm S)) λh' W=>#[rfl,I.turned (t':=s.toks) (λb J l e=>W b J l e) F D C B A]
 self:=λ_ _ _ _ _ st h=>wpAny_pyIter_keyiter st h
def Sj(te:TE):TI:=λG H R=>te G H λx Y=>∃a kvs,x=.ref a/\Y a=some (.dK kvs)/\∀o,R (nE a o kvs) (upd Y a (.frz o (.dK kvs)))
def ahJ(C:PE X l tl):PI X tg l (Sj tl):=by
 intro U s G H R I h;refine ag (C U s G H _ I h) λv c D=>?_;let⟨x,Y,y,A,a,kvs,f,m,q⟩:=D;subst f;cases A;have B:=(show fJ X.prog X.w Y c.heap a (.dK kvs)from y.hok a _ m);let⟨z,hd,vs,d,o,Z,g,e,f,t,r,j,p⟩:=B;have n:∀h:Heap,h.get? a\o->h.DictAt (gM X.prog X.w) a vs g:=λh e=>#[o,Z,e,f,t,r,j,p];have i:Inv X U G (upd Y a (.frz o (.dK kvs))) c:=by
  have:=y.write (x:=a) (e:=a) (o:=.frz o (.dK kvs)) (h':=c.heap) (t':=c.toks) %[m|True.intro] (.inl rfl) (λb u k z=>z) #[o,e] #[e,z,hd,vs,d,o,Z,g,e,f,t,r,j,p];exact this
 refine wpAny_pyIter_dict hd (n _ e) ?_;refine#[c.zs,[c.zs],_,nE a o kvs,_,rfl,i.kept (t':=c.toks) λb E z=>aH _ z,ada _ a o kvs vs g d n,#[_,aW _ rfl,rfl,rfl],λb k=>?_,q o];have e:b=c.zs:=↑k
 subst e;exact i.fpOk (aG _) (i.hok.fresh (aG _))
def gS(g:TG):TG:=λv G H Q=>∃R:L2.St->Hp->Prop,g v G H R/\∀a W,R a W->Q a W
def gL(t:TT):TT:=λG H Q=>∃R:Bool->Hp->Prop,t G H R/\∀b W,R b W->Q b W
def PG.mono{g:TG}(h:PG X e g):PG X e (gS g):=λU s G H v u Q I r b=>by let⟨R,d,c⟩:=b;exact ag (h U s G H v u R I r d) λ_ i b=>by let⟨a,W,f,q⟩:=b;exact#[a,W,f,c a W q]
def PTs.mono{t:TT}(h:PTs X aS t):PTs X aS (gL t):=λU s G H Q I a=>by let⟨R,d,c⟩:=a;exact ag (h U s G H R I d) λb f a=>by let⟨W,e,q⟩:=a;exact#[W,e,c b W q]
structure Js(K:Frag)(B:Addr)(m:Str)(f:Addr):Prop where
 ga:specialIn K (.ref B) "__getattribute__"\(some (.builtin "type.__getattribute__"))
 rd:readsIn K B (.type "type")
 at_:findCls K (.ref B) (.type "type") m\(.val (.ref f))
 hd:handedIn (.ref f)
 kp:keepIn K (.ref f)
section
variable{X:Cx}{k:Nat}{f B:Addr}{fd:FuncData}{ps:Φ}{sp:Sp}{db:Ζ}{ds:Θ}{x m:Str}{p O ah:Pos}{e:Expr}{Z:xw}{t:TA}{Ex:Value->Ξ->L2.St->Hp->Prop}
def Js.get{U:Δ}{G:L2.St}{H:Hp}{s:Shared}{pl:Sem Bool}{A:Around}{E:Ε}{Q:Value×Θ->Shared->Prop}(c:Js X.K B m f)(I:↥X)(h:∀t,Q (.ref f,[]) { s with toks:=t }) :
  wpAny (model X.prog X.w) A (getMethod (.ref B) m pl) Q E s :=
 method_cls I.kIn c.ga (cls_value I.kIn c.rd c.at_ c.hd (h _))
def aht(c:Js X.K B m f)(F:fK X.prog X.w X.K X.mg X.base bh k f fd ps sp)(i:dZ k X.A)(l:Gl X x)(j:X.mg x\(.ref B))(n:Binds X.K fd ps [])(o:PA X (e::Z) t)(u:‹(zz x,2)›)
 (q:‹zw X e Z›)(v:‹zb X O Z›)
 (g:eval (.Call (.Attribute (.Name x p) m ah) (e::Z) [] O) X.env=(do
   let a <- eval (.Name x p) X.env
   standAt ah.atName
   let(f,first) <- holding [a] (getMethod a m pl)
   callWith O f first (backTo O (starEach (e::Z) X.env)) (backToKw O (keywordEach [] X.env))):=by rfl) :
  PE X (.Call (.Attribute (.Name x p) m ah) (e::Z) [] O) (Lp sp t):=by
 intro U s G H Q I h;refine methodCall_KW (pl:=pl) (uE I l j (c.get I λd=>?_) u) g;refine callWith_K (first:=[]) (h₀:=X.base) I.ok.mod.kin c.kp (ag (o O U _ G H _ (I.tok d) h) λus y #[vs,z,b,r,q2]=>#[b.kIn,?_]) q v;exact Lf (us:=us) (vs:=vs) F i n .nil Nx b r %[append_nil|q2]
end
def zT.tup{K:Frag}{H W:Hp}{a:Addr}{I:Ζ}(e:zT H W)(h:SqT K H a I):SqT K W a I:=by
 rcases h with(h|⟨o,h⟩)|h
 .exact .inl (.inl (e _ _ h))
 .exact .inl (.inr #[o,e _ _ h])
 .exact .inr h
mutual
inductive iw(K:Frag)(H:Hp):V->PyData->Prop
 |non:iw K H .non .none
 |bl (b:Bool):iw K H (.bl b) (.bool b)
 |int (i:Int):iw K H (.int i) (.int i)
 |str (x:Str):iw K H (.str x) (.str x)
 |lst {a:Addr}{I:Ζ}{ds:xD} : H a\(.lst I)->eZ K H I ds->iw K H (.ref a) (.list ds)
 |tup {a:Addr}{I:Ζ}{ds:xD} : SqT K H a I->eZ K H I ds->iw K H (.ref a) (.tuple ds)
inductive eZ(K:Frag)(H:Hp):Ζ->xD->Prop
 |nil:eZ K H [] []
 |cons {x:V}{I:Ζ}{d:PyData}{ds:xD} : iw K H x d->eZ K H I ds->eZ K H (x::I) (d::ds)
end
mutual
theorem iw.same{K:Frag}{H W:Hp}(S:zT H W){x:V}{d:PyData}(h:iw K H x d):iw K W x d:=by
 cases h with
 |non|bl|int|str=>constructor
 |lst e h=>exact .lst (S _ _ e) (eZ.same S h)
 |tup e h=>exact .tup (S.tup e) (eZ.same S h)
theorem eZ.same{K:Frag}{H W:Hp}(S:zT H W){I:Ζ}{a:xD}(h:eZ K H I a):eZ K W I a:=by
 cases h with
 |nil=>exact .nil
 |cons h t=>exact .cons (iw.same S h) (eZ.same S t)
end
mutual
theorem Inv.readsK(I:↥X){x:V}{d:PyData}{v:Value}(h:iw X.K H x d)(r:zZ x v):∃g,Reads s.heap v d g:=by
 cases h with
 |non=>cases r;exact#[_,.none]
 |bl b=>cases r;exact#[_,.bool b]
 |int i=>let⟨t,rfl⟩:=r;exact#[_,.int i t]
 |str x=>let⟨t,rfl⟩:=r;exact#[_,.str x t]
 |lst e h =>
  cases r;let⟨c,a,⟨o,f,hc,n,hd⟩⟩:=I.lstIs e;let⟨g,q⟩:=Inv.readsAllK I h a;exact#[_,.list f hc hd q]
 |tup e h =>
  cases r;let⟨c,a,⟨o,f,hc,n,hd⟩,_⟩:=I.tuple e;let⟨g,q⟩:=Inv.readsAllK I h a;exact#[_,.tuple f hc hd q]
theorem Inv.readsAllK(c:↥X){I:Ζ}{d:xD}{vs:Θ}(h:eZ X.K H I d)(r:zN I vs):∃i,ReadsAll s.heap vs d i:=by
 cases h with
 |nil=>cases r;exact#[_,.nil]
 |cons h t =>
  cases r with
  |cons f e =>
   let⟨a,g⟩:=Inv.readsK c h f;let⟨b,q2⟩:=Inv.readsAllK c t e;exact#[_,.cons g q2]
end
def ow(K:Frag)(a:Bool):R2:=λx y H Q=>∃d e,iw K H x d/\iw K H y e/\SeqAt.shaped d/\SeqAt.shaped e/\Q (.bl (if a then !PyData.eqv d e else PyData.eqv d e)) H
def VE(j:X.A.units+64<cLine):OpR X (compareOp .Eq) (ow X.K false):=by
 intro U s G H x y v u Q I f c h;let⟨d,e,hd,k,b,a,q⟩:=h;let⟨m,i⟩:=I.readsK hd f;let⟨l,g⟩:=I.readsK k c;exact SeqAt.compareEq_shaped i g b a j #[.bl _,H,I,rfl,q]
def YA(j:X.A.units+64<cLine):OpR X (compareOp .NotEq) (ow X.K true):=by
 intro U s G H x y v u Q I f c h;let⟨d,e,hd,k,b,a,q⟩:=h;let⟨m,i⟩:=I.readsK hd f;let⟨l,g⟩:=I.readsK k c;exact SeqAt.compareNe_shaped i g b a j #[.bl _,H,I,rfl,q]
def ah2(K:Frag):Ζ->Hp->VK->Prop:=λI H Q=>∃p T a,I=[.ref p,.ty T]/\T∈["bool","int","str","list","tuple","dict"]/\SqT K H p a/\Q (.bl (Uz "tuple" T)) H
def Xl:jx X (.builtin "isinstance") (ah2 X.K):=by
 intro U s G H I us Q b r h;let⟨p,T,k,rfl,j,g,q⟩:=h;let⟨u,v,rfl,e,d⟩:=r.two;cases e;cases d;let⟨f,c,⟨o,i,hc,n,hd⟩,_⟩:=b.tuple g;refine kia_one (kitx_tuple (a:=p)) b.kIn #[o,i,hc] (IX (K:=X.K) (t:="tuple") vw j) (λz=>nomatch z) λl=>#[.bl _,H,b.tok _,rfl,q]
def OkI(P:Program)(w:World)(K:Frag)(mg:Str->Ω)(base:Heap)(a:fv)(k:Nat)(f:Addr)(ps:Φ)(sp:Sp):Prop:=∃fd,fK P w K mg base a k f fd ps sp/\Binds K fd ps []
def CN(K:Frag)(x am:Str)(st:Stmt)(ps:Φ)(f:Addr):Prop:=∃fd,Fun K x am st f fd/\∀us:Θ,us.length=ps.length->bindArgs fd #[us,[]]=pure (ps.zip us)
variable{f fI:Addr}{k i:Nat}{o:Obj}{ta:TA}{p:Pos}{x0:Str}{mN:Str->Ω}
def CN.ok{c:fv}(h:CN K x am st ps f)(d:∀fd,Fun K x am st f fd->fK P w K mg base c k f fd ps sp):OkI P w K mg base c k f ps sp :=
 by let⟨fd,a,b⟩:=h;exact#[fd,d fd a,.all b]
def aie{h g:Ξ}{kV e b a d:Value}
 (l:K.lookup f\#[oc,h,.func (PySem.W.fnOf x am (j9 st) (fP st) (bH st) .none kV e b g a d),eM])(c:codeIn K a am)(k:keepIn K (.ref f))
 (i:∀(kV e b:Value)(g:Ξ)(a d:Value)(us:Θ),us.length=ps.length->bindArgs (PySem.W.fnOf x am (j9 st) (fP st) (bH st) .none kV e b g a d) #[us,[]]=pure (ps.zip us)):CN K x am st ps f :=
 #[_,HA l c k,i kV e b g a d]
section
variable{X:Cx}{k:Nat}{f C B:Addr}{ps:Φ}{sp:Sp}{x m:Str}{p O ah:Pos}{e o:Expr}{Z:xw}{ta:TE}{t:TA}{Ex:Value->Ξ->L2.St->Hp->Prop}
def Ii(C:Addr)(m:Str)(sp:Sp)(ta:TE)(t:TA):TE:=λG H Q=>ta G H λx Y=>∃a c b,x=.ref a/\Y a=some (.ins C c b)/\b.lookup m=none/\t G Y λvs d=>sp (x::vs) d Q E0
abbrev zS(X:Cx):=OkI X.prog X.w X.K X.mg X.base
def adJ(l:PE X o ta)(c:Cls X.K C)(j:Meth X.K C m f)(b:zS X bh k f ps sp)(i:dZ k X.A)(p:PA X (e::Z) t)
 (z:‹zw X e Z›)(B:‹zb X O Z›)
 (g:eval (.Call (.Attribute o m ah) (e::Z) [] O) X.env=(do
   let d <- eval o X.env
   standAt ah.atName
   let(f,first) <- holding [d] (getMethod d m pl)
   callWith O f first (backTo O (starEach (e::Z) X.env)) (backToKw O (keywordEach [] X.env))):=by rfl) :
  PE X (.Call (.Attribute o m ah) (e::Z) [] O) (Ii C m sp ta t):=by
 let⟨fd,F,n⟩:=b;refine(ai4 (pl:=pl) l.mono c j F i n .nil Nx p.mono z B g).imp λG H Q h=>#[_,h,?_];rintro x Y ⟨a,y,w,v,u,s,r⟩;refine#[a,y,w,v,u,s,_,r,λvs D q=>?_];show sp (x::(vs++[])) D Q E0;rwa[append_nil]
def adf(j:PE X o ta)(c:Cls X.K C)(i:Meth X.K C m f)(b:zS X bh k f ps sp)(g:dZ k X.A)
 (e:eval (.Call (.Attribute o m ah) [] [] O) X.env=(do
   let d <- eval o X.env
   standAt ah.atName
   let(f,first) <- holding [d] (getMethod d m pl)
   callWith O f first (backTo O (starEach [] X.env)) (backToKw O (keywordEach [] X.env))):=by rfl) :
  PE X (.Call (.Attribute o m ah) [] [] O) (Ii C m sp ta iN):=by
 let⟨fd,F,l⟩:=b;refine(aeG (pl:=pl) j.mono c i F g l .nil Nx e).imp λG H Q h=>#[_,h,?_];rintro x Y ⟨a,t,s,r,q,p,n⟩;exact#[a,t,s,r,q,p,n]
def NK{O:Pos}(b:Gl X x)(a:X.mg x\(.ref D))(hd:‹(zz x,2)›):PE X (.Name x O) (tC (.ref D)):=IL b a rfl hd
end
def nr(a:Addr)(o:Obj)(kvs:wx):It:=#[λi H=>H a\(.frz o (.dK kvs))/\i<kvs.length,λi H v W=>∃k y t,kvs[i]?\(k,y)/\H t=none/\v=.ref t/\W=upd H t (.tup [kV k,y]),λi H=>H a\(.frz o (.dK kvs))/\i=kvs.length]
def Om:entryFor table "dict_itemiterator.__iter__"\Builtin.«dict_keyiterator.__iter__»:=entryFor_alias (id' :="dict_keyiterator.__iter__") (by kernel_rfl) rfl (by decide +kernel) (by kernel_rfl)
def Zi{a d:Addr}{n e:Nat}{c b:Value}{Q:Ε}(st:IsItemIter s.heap a d i n e c b)(q:Q (.ref a) s):wpAny (model P w) A (pyIter (.ref a)) Q E s:=by
 have ty:s.TypeIs (.ref a) "dict_itemiterator":=#[_,st,rfl];exact wpAny_pyIter_slot ty F.slot_dict_itemiterator_iter (wpAny_call_entry F.slot_dict_itemiterator_iter ty Om (ZT #[_,rfl,"dict_itemiterator",_,ty,F.slot_dict_itemiterator_next.lookup,q]) (F.args_dict_itemiterator_iter_1 _))
def HJ{a:Obj}(e:(h.push o).get? b\a)(c:b≠h.objs.size):h.get? b\a:=by
 let⟨f,d⟩:=Heap.get?_some_iff.mp e;refine Heap.get?_some_iff.mpr #[?_,d];cases h;simpa[Heap.push,Array.getElem?_push,c]using f
def Z4{S}(c a:Addr)(o:Obj)(kvs:wx)(vs:List (bo×Value))(R:Nat)(l:KV kvs vs)(Q:∀h:Heap,h.get? a\o->h.DictAt (gM P w) a vs R) :
  Turn P w K (.Tuple bt S O) (nr a o kvs) [c] c (λi h=>∃j g,IsItemIter h c a i vs.length R j g) where
 mem:=by simp
 obj:=by
  rintro i h ⟨j,g,st⟩ b d;have e:b=c:=↑d
  subst e;exact#[_,st,λv z=>by cases z]
 keep:=λi h h' #[j,g,st] k=>#[j,g,k c vc _ st]
 item:=by
  intro X A hw B hc i U s G H E I x st f;subst A hw B;let⟨j,g,st⟩:=st;let⟨f,eQ⟩:=f;let⟨t,_⟩:=(show fJ X.prog X.w H s.heap a (.frz o (.dK kvs))from I.hok a _ f);let⟨m,J,f2,F,D,C⟩:=x c vc;obtain⟨⟨k,y⟩,M⟩ : ∃p,kvs[i]?\p:=#[kvs[i],by simp[eQ]];let⟨u,Y,V⟩:=l.at M;refine wpAny_pyNext_items_item st (Q _ t) Y λn h' gN out Z hz hk=>#[_,rfl,?_];refine wpAny_letOwnedTupleGo_items out λh2 g3 T=>?_;have W:H s.zs=none:=I.fresh;have L:c≠s.zs:=aQ (aK st);have I1:=I.laid (a:=s.zs) (o:=.tup [kV k,y]) (h':=s.heap.push { cls:=.type "tuple",data:=.seq ↥[n,u] }) (t':=s.toks) (λb q z=>aH _ z) (aG _)
   #[(by show 2<=sizeLine;decide),[n,u],.cons (EV gN) (.cons V .nil),_,aW _ rfl,rfl,_,rfl]
  have I2:=I1.turned (it:=c) (h':=h2) (t':=s.toks) (λb r d e=>by
   refine(T.2 b d).trans ?_;by_cases N:b=s.zs
   .subst N;have e2:=aW s.heap (o:={ cls:=.type "tuple",data:=.seq ↥[n,u] }) rfl;have e:(s.heap.push { cls:=.type "tuple",data:=.seq ↥[n,u] }).get? s.zs\r:=e;rw[e2]at e;cases e;exact Z
   .exact hk b _ d (HJ e N)) ((b_ L).trans m) J F D C
  exact#[.ref _,_,I2,rfl,#[k,y,_,M,W,rfl,rfl],#[_,_,g3],λb d=>by
   have e:b=c:=↑d
   subst e;exact(b_ L).trans m]
 done:=by
  intro X A hw B hc i U s G H E I x st f;subst A hw B;let⟨j,g,st⟩:=st;let⟨f,rfl⟩:=f;let⟨t,_⟩:=(show fJ X.prog X.w H s.heap a (.frz o (.dK kvs))from I.hok a _ f);let⟨m,J,f2,F,D,C⟩:=x c vc;have hl:=l.length;exact wpAny_pyNext_items_end (I.ok.hd hc) st (Q _ t) (by simp;exact WG (Eq.symm hl)) λh' eb=>#[rfl,I.turned (t':=s.toks) (λb r d e=>eb b r d e) m J F D C]
 self:=λ_ _ _ _ _ #[_,_,st] h=>Zi st h
def _Z(te:TE):TI:=λG H R=>te G H λx Y=>∃a kvs,x=.ref a/\Y a=some (.dK kvs)/\∀o,R (nr a o kvs) (upd Y a (.frz o (.dK kvs)))
def aep{C}{N:Pos}(L:PE X l tl)(i:attributeBase l "items" X.env (eval l X.env)=eval l X.env)(K:zC ah O):PI X (.Tuple bt C N) (.Call (.Attribute l "items" ah) [] [] O) (_Z tl):=by
 intro U s G H R I h;refine wpAny_Call_method (T:="dict") (id:="dict.items") i rfl K PySem.F.plainAttrs_dict PySem.F.slot_dict_items PySem.F.type_dict_items (ag (L U s G H _ I h) λv c M=>?_);let⟨x,Y,B,D,a,kvs,f,y,q⟩:=M;subst f;cases D;have E:=(show fJ X.prog X.w Y c.heap a (.dK kvs)from B.hok a _ y);let⟨z,hd,vs,d,o,Z,j,e,f,p,n,k,m⟩:=E;have A:∀h:Heap,h.get? a\o->h.DictAt (gM X.prog X.w) a vs j:=λh e=>#[o,Z,e,f,p,n,k,m];have P:Inv X U G (upd Y a (.frz o (.dK kvs))) c:=by
  have:=B.write (x:=a) (e:=a) (o:=.frz o (.dK kvs)) (h':=c.heap) (t':=c.toks) %[y|True.intro] (.inl rfl) (λb u i z=>z) #[o,e] #[e,z,hd,vs,d,o,Z,j,e,f,p,n,k,m];exact this
 have g:c.heap.DictOf (gM X.prog X.w) a vs:=#[o,Z,j,e,f,p,n,k,m];refine#[g.typeIs,g.mapOf.noDict,?_];refine method_meetsIn PySem.F.slot_dict_items PySem.F.entry_dict_items rfl (PySem.evalArgs_none #[rfl,g.typeIs,PySem.F.args_dict_items_1 _,_,meets_dict_items (gM X.prog X.w) a hd,#[vs,g],?_]);have r:Inv X U G (upd Y a (.frz o (.dK kvs))) { c with heap:=c.heap.push { cls:=.type "dict_items",data:=.fields ↥[.ref a] } }:=P.kept (t':=c.toks) λb J z=>aH _ z;refine wpAny_pyIter_items #[_,aW _ rfl,rfl,rfl] (A _ (aH _ e)) ?_;refine#[_,[_],_,nr a o kvs,_,rfl,r.kept (t':=c.toks) λb J z=>aH _ z,Z4 _ a o kvs vs j d A,#[_,_,aW _ rfl],λb i=>?_,q o];rw[YR.mp i];exact r.fpOk (aG _) (r.hok.fresh (aG _))
theorem Wt:∀{c:Φ}{vs:Θ},zN (c.map V.str) vs->StrsAre vs c
 |[],_,h=>by cases h;exact .nil
 |y::c,_,h=>by
  rw[map_cons]at h;cases h with
  |cons a b =>
   let⟨t,rfl⟩:=a;exact .cons y t (Wt b)
def rJoin:V->Ζ->Hp->VK->Prop:=λx vs H Q=>∃a l b,x=.str a/\vs=[.ref l]/\H l=some (.lst (b.map V.str))/\(b.map (·.length)).sum+b.length*a.length<=16777216/\Q (.str (Txt.join a b)) H
def ag4:kL X "str.join" rJoin:=by
 intro U s G H x vs v us Q I b c h;let⟨a,l,j,rfl,rfl,i,g,q⟩:=h;let⟨t,rfl⟩:=b;let⟨u,rfl,d⟩:=c.one;cases d;let⟨_,f,n,r,_,e⟩:=I.lstM i;exact join_list #[_,e,rfl,n,rfl] ↑(Wt r) g λm k=>#[.str _,H,I.tok _,#[_,rfl],q]
def aeE{q:Nat}{f:Str}{g K:Pos}{I n:Φ}(E:W7 X J I ext fn)(hc:X.calm)(S:Rz I X.N=n)(df:J.kind=.function)(dA:∀y∈J.names,y.2=.local->J.names.lookup y.1\.local)
 (c8:∀y∈J.names,y.2=.free->X.env.kindOf y.1\.cell\/X.env.kindOf y.1=some .free)(gE:∀y∈X.N,y∉I->(relabel J X.env).names.lookup y≠some .local)(r:∀y∈X.N,y∈I->(relabel J X.env).names.lookup (hid y)=none)(W:PI X tg iter wi)
 (hg:∀C c d k pn,PG (X.compE ext fn n J I C c d k pn) tg gt)(T:∀C c d k pn,PTs (X.compE ext fn n J I C c d k pn) aS tc)(he:∀C c d k pn,PE (X.compE ext fn n J I C c d k pn) bg te)(hV:PG X (.Name f g) (yH q))(hG:swapsWith (.ListComp bg [#[tg,iter,aS,0]] J O) (some (.Name f g)) K.line X.env=pure true)(V:zh X iter) :
  PS X (.Assign [.Name f g] (.ListComp bg [#[tg,iter,aS,0]] J O) K) (iO (vO wi I.length gt tc te) (yH q)):=by
 intro U s G H u a h;have h:vO wi I.length gt tc te G H (λx Y=>yH q x G Y u.nx):=h;rw[exec_Assign_Name_used _ _ _ _ hG];refine ZU (wpAny_standAt (ZU ?_));show wpAny _ X.A (comprehension (.ListComp bg [#[tg,iter,aS,0]] J O) J X.env _ (newList []) false (eval iter X.env) (some (assign (.Name f g) X.env)) >>= λ_=>_) _ _ s;refine ZU (wpAny_mono (QX (use:=some (assign (.Name f g) X.env)) (post:=λ_ B=>SP X U u .next B) E hc S df dA c8 gE r W hg T he V a h λC D Hc w m fl F I6 l P=>?_) (λ_ B r=>ZT (ZT r)) λ_ _ e=>e);let⟨oc,Z,ep,t,Q,_⟩:=id F;have I7:=I6.pinned (fp:=[C]) (λb j=>by rwa[YR.mp j]) λb j=>by
  rw[YR.mp j];exact#[oc,t,λv z=>by rw[Q]at z;cases z]
 show wpAny _ X.A (assign (.Name f g) X.env _) _ _ w;refine ag (hV _ w G Hc (.ref D) _ u.nx I7 rfl P) λ_ M hP=>?_;let⟨p,H7,L,R⟩:=hP;have i:=L.pin (C,oc) (aP _ (aP _ (tV vc t)));refine#[m,F.at' λo e=>?_,λh' gh=>#[p,H7,L.unpinned.turned (it:=C) (h':=h') (t':=M.toks) (λb o j e=>(gh.2 b j).trans e) i.2.1 l.2.1 l.2.2.2.1 l.2.2.2.2.1 l.2.2.2.2.2,R]];rw[t]at e;cases e;exact i.1
def Inv.turnedL{t':Nat}{ch:Ψ}(I:↥X)(k:∀b o,b∉ch->s.heap.get? b\o->h'.get? b\o)(a:∀b∈ch,Kc X U H b):Inv X U G H { s with heap:=h',toks:=t' }:=by
 have f:∀b u,H b\u->b∉ch:=λb u e z=>by rw[(a b z).1]at e;cases e
 refine I.step (g':=s.gens) (d':=s.drawn) (ch:=ch) (λb d=>#[(a b d).2.2.2.1,(a b d).2.1,(a b d).2.2.2.2.1,(a b d).2.2.2.2.2]) (λb o _ _ hc e _=>k b o hc e) (λb o _ _ hc e _=>#[o.slots,k b o hc e]) (λ_ _ _ _ n=>n) (λb o hc e=>#[o,k b o hc e]) (λ_ _ e=>e) (λ_ _ _ e=>e) (λb ps e=>#[↥[],by rw[e];simp]) (λm i=>?_) (λb u e=>?_) I.bare
 .let⟨o,Z,j,h,r⟩:=i;exact#[o,Z,j,k _ o (λz=>(a _ z).2.1 rfl) h,r]
 .refine(I.hok b u e).stay (λc v hc q=>k c v ?_ q) (λ_ q=>q) λ_ _ q=>q;rcases hc with z|z
  .rw[z];exact f b u e
  .exact f c _ z
def rs(a b:Addr):It:=#[λi H=>∃I c,H a\(.lst I)/\H b=some (.lst c)/\i<I.length/\i<c.length,λi H v W=>∃I c x y t,H a\(.lst I)/\H b=some (.lst c)/\I[i]?=some x/\c[i]?=some y/\H t=none/\v=.ref t/\W=upd H t (.tup [x,y]),λi H=>∃I c,H a\(.lst I)/\H b=some (.lst c)/\(I.length<=i\/c.length<=i)]
def qU{g:Heap}{l:Addr}(x:h.IsListIter a l i)(k:∀o,h.get? a\o->g.get? a\o):g.IsListIter a l i:=by let⟨o,e,r⟩:=x;exact#[o,k o e,r]
def V7{vs:Θ} : zN I vs->∀{i:Nat}{x:V},I[i]?\x->∃u,vs[i]?\u/\zZ x u:=by
 intro h
 induction h with
 |nil=>intro i x e;cases e
 |cons a b c =>
  intro i x e;cases i with
  |zero=>rw[List.getElem?_cons_zero]at e;cases e;exact#[_,rfl,a]
  |succ i=>rw[List.getElem?_cons_succ]at e ⊢;exact c e
def adM{x1}(z TI TO l j Y W:Addr)(D:ZipApart z TI TO l j Y W) :
  Turn P w K (.Tuple bt x1 O) (rs Y W) [z,TI,TO,l,j] z (λi h=>IsZip h z TI TO .none/\IsPair h TI (.ref l) (.ref j)/\(∃p q,IsPair h TO p q)/\h.IsListIter l Y i/\h.IsListIter j W i) where
 mem:=by simp
 obj:=by
  rintro i h ⟨g,m,⟨p,q,B⟩,⟨o4,A,_,d4⟩,⟨o5,t,_,d5⟩⟩ b f;simp only[YU,UV,or_false]at f;rcases f with rfl|rfl|rfl|rfl|rfl
  .exact#[_,g,λv e=>by cases e]
  .exact#[_,m,λv e=>by cases e]
  .exact#[_,B,λv e=>by cases e]
  .exact#[_,A,λv e=>by rw[d4]at e;cases e]
  .exact#[_,t,λv e=>by rw[d5]at e;cases e]
 keep:=λi h h' #[g,m,#[p,q,B],A,t] k=>#[k z vc _ g,k TI vc _ m,#[p,q,k TO vc _ B],qU A (k l vc),qU t (k j vc)]
 item:=by
  intro X hP hw hK hc i U s G H E d J st hg;subst hP hw hK;let⟨g,m,⟨p,q,B⟩,A,t⟩:=st;let⟨I,r,L,f,o1,S⟩:=hg;let⟨_,gy,R,ii,V,g1⟩:=d.lstM L;let⟨_,Z,Q,oB,T,g2⟩:=d.lstM f;have ex:I[i]?\I[i]:=aj o1;have ey:r[i]?\r[i]:=aj S;let⟨u,hu,ru⟩:=V7 ii ex;let⟨v,hv,rv⟩:=V7 oB ey;refine wpAny_pyNext_zip_item D g m B A t (xs:=gy.toArray) (ys:=Z.toArray) #[_,g1,rfl,R,rfl] #[_,g2,rfl,Q,rfl] (x:=u) (y:=v) ↑hu ↑hv λh' a1 a2 a3 a4 a5 a6 a7=>#[_,rfl,?_];refine wpAny_letOwnedTupleGo_zip a1 λh2 g3 sb=>?_;have nt:H s.zs=none:=d.fresh;have I1:=d.laid (a:=s.zs) (o:=.tup [I[i],r[i]]) (h':=s.heap.push { cls:=.type "tuple",data:=.seq ↥[u,v] }) (t':=s.toks) (λb q z=>aH _ z) (aG _)
   #[(by show 2<=sizeLine;decide),[u,v],.cons ru (.cons rv .nil),_,aW _ rfl,rfl,_,rfl]
  have nz:z≠s.zs:=aQ (aK g);have nO:TO≠s.zs:=aQ (aK B);have nI:TI≠s.zs:=aQ (aK m);have oQ:l≠s.zs:=by let⟨o,e,_⟩:=A;exact aQ (aK e)
  have N:j≠s.zs:=by let⟨o,e,_⟩:=t;exact aQ (aK e)
  have my:∀b∈[z,TI,TO,l,j],upd H s.zs (.tup [I[i],r[i]]) b=none:=by
   intro b f;have C:=(J b f).1;simp only[YU,UV,or_false]at f;rcases f with rfl|rfl|rfl|rfl|rfl
   .exact(b_ nz).trans C
   .exact(b_ nI).trans C
   .exact(b_ nO).trans C
   .exact(b_ oQ).trans C
   .exact(b_ N).trans C
  have I2:=I1.turnedL (ch:=[z,TO,l,j]) (h':=h2) (t':=s.toks) (λb M f e=>by
   simp only[YU,UV,or_false,not_or]at f;let⟨b1,b2,b3,b4⟩:=f;refine(sb.2 b b1).trans ?_;by_cases hs:b=s.zs
   .subst hs;have e2:=aW s.heap (o:={ cls:=.type "tuple",data:=.seq ↥[u,v] }) rfl;have e:(s.heap.push { cls:=.type "tuple",data:=.seq ↥[u,v] }).get? s.zs\M:=e;rw[e2]at e;cases e;exact a5
   .exact a7 b _ b1 b2 b3 b4 (HJ e hs)) λb f=>by
    have di:b∈[z,TI,TO,l,j]:=by
     simp only[YU,UV,or_false]at f ⊢;rcases f with h|h|h|h<;>simp[h]
    exact#[my b di,(J b di).2]
  have F:∀c o,c≠z->h'.get? c\o->h2.get? c\o:=λc o n e=>(sb.2 c n).trans e;exact#[.ref _,_,I2,rfl,#[I,r,_,_,_,L,f,ex,ey,nt,rfl,rfl],#[g3,F _ _ D.TIz (a7 _ _ D.TIz D.TITO D.TIi1 D.TIi2 m),#[_,_,F _ _ D.TOz a2],qU a3 λo e=>F _ _ D.i1z e,qU a4 λo e=>F _ _ D.i2z e],my]
 done:=by
  intro X hP hw hK hc i U s G H E d J st hg;subst hP hw hK;let⟨g,m,⟨p,q,B⟩,A,t⟩:=st;let⟨I,r,L,f,lt⟩:=hg;let⟨_,gy,R,ii,V,g1⟩:=d.lstM L;let⟨_,Z,Q,oB,T,g2⟩:=d.lstM f;refine wpAny_pyNext_zip_end (d.ok.hd hc) D g m B A t (xs:=gy.toArray) (ys:=Z.toArray) #[_,g1,rfl,R,rfl] #[_,g2,rfl,Q,rfl] (by simp;lia) λh' k=>#[rfl,d.turnedL (ch:=[z,TO,l,j]) (t':=s.toks) (λb M f e=>?_) λb f=>?_]
  .simp only[YU,UV,or_false,not_or]at f;exact k b M f.1 f.2.1 f.2.2.1 f.2.2.2 e
  .exact J b (by
    simp only[YU,UV,or_false]at f ⊢;rcases f with h|h|h|h<;>simp[h])
 self:=λ_ _ _ _ _ #[g,_] h=>wpAny_pyIter_zip g h
def ac2(n b a:Nat)(d:b<n)(c:a<n):ZipApart (n+4) (n+2) (n+3) n (n+1) b a:=by
 constructor<;>first|exact aQ (by omega)|exact UZ vy
def ahy(n b:Nat)(h:b=n+4\/b=n+2\/b=n+3\/b=n\/b=n+1):n<=b:=by lia
def boot_zip:bootBuiltins "zip"\(.type "zip"):=by decide +kernel
def CA(ta:TA):TI:=λG H R=>ta G H λvs Y=>∃a b I c,vs=[.ref a,.ref b]/\Y a=some (.lst I)/\Y b=some (.lst c)/\R (rs a b) Y
def GA{a b:Expr}{w}{V:Pos}(M:Gl X "zip")(L:X.mg "zip"=none)(N:PA X [a,b] ta)(K:‹starEach [a,b] X.env=[(false,eval a X.env),(false,eval b X.env)]›)(k:‹starEach [b] X.env=[(false,eval b X.env)]›) :
  PI X (.Tuple bt w V) (.Call (.Name "zip" p) [a,b] [] O) (CA ta):=by
 intro U s G H R c h;refine Call_ (Ek c M L boot_zip (PyProof.Rows.callWith_type1 (ag (N O U s G H _ c h) λus d P=>?_) %[K,k|_] (by rw[k];rfl)));let⟨vs,Y,f,z,A⟩:=P;let⟨i,g,I,t,e,S,Q,q⟩:=A;subst e;let⟨u,v,rfl,y,x⟩:=z.two;cases y;cases x;let⟨_,T,D,ii,F,g1⟩:=f.lstM S;let⟨_,J,C,oB,E,l⟩:=f.lstM Q;have r:=aK g1;have o:=aK l;refine call_zip_2 (xs:=T.toArray) (ys:=J.toArray) #[_,g1,rfl,D,rfl] #[_,l,rfl,C,rfl] λh' n a2 a3 a4 Z a6 W=>?_;refine wpAny_pyIter_zip n ?_;refine#[_,[d.zs+4,d.zs+2,d.zs+3,d.zs,d.zs+1],_,rs i g,Y,rfl,f.kept (t':=d.toks) λb B e=>W b B e,adM _ _ _ _ _ i g (ac2 _ _ _ r o),#[n,a2,#[_,_,a3],a4,Z],λb j=>?_,q];have m:d.zs<=b:=by
  simp only[YU,UV,or_false]at j;exact ahy _ _ j
 exact f.fpOk m (f.hok.fresh m)
def ado{g:TG}{tb:TS}{D:Ends}(h:ta G H λvs Y=>∃a b I f,vs=[.ref a,.ref b]/\Y a=some (.lst I)/\Y b=some (.lst f)/\I.length=f.length/\∃J:Nat->L2.St->Hp->Prop,J 0 G Y /\
   (∀k x y c W t,I[k]?\x->f[k]?\y->J k c W->W a\(.lst I)->W b\(.lst f)->W t=none->g (.ref t) c (upd W t (.tup [x,y])) λo N=>tb { D with nx:=λd i=>i a\(.lst I)/\i b=some (.lst f)/\J (k+1) d i,ct:=λd i=>i a\(.lst I)/\i b=some (.lst f)/\J (k+1) d i,bk:=D.nx } o N) /\
   ∀c W,J I.length c W->W a\(.lst I)->W b\(.lst f)->D.nx c W):Be (CA (r8 ta)) g tb D G H:=by
 refine#[_,h,?_];rintro vs Y ⟨a,b,I,f,rfl,s,r,E,J,C,step,p⟩;refine#[a,b,I,f,rfl,s,r,λk m c W=>k<=I.length/\m=I.length-k/\W a=some (.lst I)/\W b=some (.lst f)/\J k c W,#[_,aZ _,rfl,s,r,C],?_];rintro k m c W ⟨F,rfl,l,n,j⟩;by_cases e:k=I.length
 .subst e;exact .inl #[#[I,f,l,n,.inl (aG _)],p c W j l n]
 .have q:k<I.length:=by exact XX F e
  refine .inr #[#[I,f,l,n,q,by exact aR q (WG E)],λd i=>i a\(.lst I)/\i b=some (.lst f)/\J (k+1) d i,λd i #[B,A,z]=>#[I.length-(k+1),by lia,by exact q,rfl,B,A,z],?_];rintro v Q ⟨R,P,x,y,t,w,u,M,L,K,rfl,rfl⟩;rw[l]at w;rw[n]at u;cases w;cases u;exact step k x y c W t M L j l n K
def g6(b J:Scope):Scope:={ J with names:=J.names.map λ(n,k)=>if(k==NameKind.free&&b.kind == .function&&b.names.lookup n==some .cell)then(n,NameKind.cell)else(n,k) }
theorem IJ(c:Nat):∀(n:Nat)(a:Array Nat),((replicate n ↥[c]).foldl (· ++ ·) a).toList=a.toList++replicate n c
 |0,a=>by simp
 |n+1,a=>by
  rw[replicate_succ,foldl_cons,IJ c n,Array.toList_append,Wp]
  rfl
def SU:R2:=λx y H Q=>∃c n,x=.str #[↥[c]]/\y=.int n/\1<=n/\n<=1000/\∀z:Str,z.cps.toList=replicate n.toNat c->Q (.str z) H
def aiD:OpR X (binaryOp .Mult) SU:=by
 intro U s G H x y v u Q I i g h;let⟨c,n,rfl,rfl,l,k,q⟩:=h;let⟨t,rfl⟩:=i;let⟨j,rfl⟩:=g;have b:(#[↥[c]] : Str).length=1:=rfl;have a:∀z:Str,z.cps.toList=replicate n.toNat c->(Made.str z).post (EP X U G Q) s:=λz d=>#[by
  have:z.length=n.toNat:=by
   show z.cps.size=_;rw[<- Array.length_toList,d,aN]
  exact aL (show z.length<=1001 by lia) vw,.str z,H,I.tok _,#[_,rfl],q z d]
 refine PySem.P.mul_str ?_ (λ_ _=>?_) (λ_ _=>?_) ?_
 .rw[Zp vy,Zp vy];rfl
 .rw[b];have:1<=(2^63-1:Int)/n:=Int.le_ediv_of_mul_le (by omega) vy;lia
 .rw[b];unfold Builtin.Str.tooLong;exact Zp (by
   have:n.toNat<=1000:=by lia
   have e:1000<=sizeLine:=by decide
   lia)
 .split
  .lia
  .split
   .rename_i f
    rw[b]at f;have e:n.toNat=1:=by
     simp at f;lia
    refine#[.str #[↥[c]],H,I,#[t,rfl],q _ ?_];rw[e];rfl
   .refine a _ ?_;show((replicate n.toNat ↥[c]).foldl (· ++ ·) ↥[]).toList=_;rw[IJ];rfl
def Cx.compGC(X:Cx)(a:Φ)(J:Scope)(x0:Str)(C:Addr)(s₀:Shared)(H₀:Hp)(ex:Ψ)(pn:Δ):Cx :=
 { X with env:=compEnvC J ((x0,C+1)::yp X.env.cells J.names []) C X.env,N:=[x0]++a,s₀:=s₀,H₀:=H₀,outer:=X.stack,ex:=ex,fn:=λz=>z==x0,pn:=pn,xe:=λ_ _=>False }
theorem Dh{env:Env}{x0:Str} : ∀{a:wf}{y:Str},y≠x0->((a.map λ(n,k)=>if(k==NameKind.free&&env.scope.kind == .function&&env.kindOf n==some .cell)then(n,NameKind.cell)else(n,k)).lookup y\.cell \/
  (a.map λ(n,k)=>if(k==NameKind.free&&env.scope.kind == .function&&env.kindOf n==some .cell)then(n,NameKind.cell)else(n,k)).lookup y\.free)->(∀z∈a,z.2=.cell->z.1=x0)->(y,NameKind.free)∈a
 |[],y,_,h,_=>by rcases h with h|h<;>cases h
 |(n,k)::r,y,d,h,hc=>by
  have f:=@Dh env x0 r y d;have g:∀z∈r,z.2=.cell->z.1=x0:=λz i=>hc z (aJ _ i);simp only[map_cons]at h;by_cases b:(k==NameKind.free&&env.scope.kind == .function&&env.kindOf n==some .cell)
  .rw[ZY b]at h;have j:k=.free:=by
    simp only[JY,beq_iff_eq]at b;exact b.1.1
   subst j;simp only[lookup_cons]at h;cases c:y==n with
   |true=>rw[show y=n by simpa using c];exact aO
   |false=>rw[c]at h;exact aJ _ (f h g)
  .rw[ZZ b]at h;simp only[lookup_cons]at h;cases c:y==n with
   |true =>
    have e:y=n:=↑c
    rw[c]at h;rcases h with h|h
    .cases h;exact absurd (e.trans (hc (n,.cell) aO rfl)) d
    .cases h;rw[e];exact aO
   |false=>rw[c]at h;exact aJ _ (f h g)
def Ql{a:Addr}{j:xB}{outer:Env}{Q:Env->Shared->Prop}(t:∀n d,cellsFrom n J.names d=(x0,n)::d)(r:∀h,pushCells h J.names=h.push { cls:=.type "cell",data:=.cell none })
 (q:∀g,g.Ns s.zs (λx=>([] : xL).reverse.lookup x)->g.IsCell (s.zs+1) none->(∀b o,s.heap.get? b\o->g.get? b\o)->Q (newEnv J s.zs a ((x0,s.zs+1)::j) am none .none (some outer) builtinsNs) { s with heap:=g,toks:=s.toks+([] : xL).length }) :
  wpAny M A (newFunctionEnv J a j [] am none .none (some outer)) Q E s:=by
 simp only[newFunctionEnv,Option.isSome_some,if_true];refine ZU (wpAny_alloc ?_);refine ZU (wpAny_layCells _ (λl c i=>by cases f:c==NameKind.cell<;>simp[f]) _ _ _ _ ?_);rw[t,r];have k:(s.heap.push { cls:=.type "dict",data:=.dict ↥[] }).objs.size=s.zs+1:=Heap.size_push ..;show wpAny _ _ (forIn ([] : xL) _ _ >>= _) _ _ _;rw[List.forIn_nil];refine ZU (ZT (ZT ?_));have p:=aW (s.heap.push { cls:=.type "dict",data:=.dict ↥[] }) (o:={ cls:=.type "cell",data:=.cell none }) rfl;rw[k]at p;show Q (newEnv J s.zs a ((x0,(s.heap.push { cls:=.type "dict",data:=.dict ↥[] }).objs.size)::j) am none .none (some outer) builtinsNs) _;rw[k];exact q _ ((Heap.Ns.new s.heap (.type "dict")).at' λo e=>aH _ e) #[_,p,rfl] λb o e=>aH _ (aH _ e)
def mm{y:Str}{d c:Addr}(e : [(x0,d)].lookup y\c):y=x0/\c=d:=by
 rw[lookup_cons]at e;cases a:y==x0 with
 |true=>rw[a]at e;cases e;exact#[↑a,rfl]
 |false=>rw[a]at e;cases e
def ext1(k:∀n a,cellsFrom n J.names a=(x0,n)::a)(j:∀h,pushCells h J.names=h.push { cls:=.type "cell",data:=.cell none })(d:∀y∈J.names,y.2=.cell->y.1=x0):W7 X J [x0] (λC=>[(x0,C+1)]) (λz=>z==x0) :=
 #[λi=>Ql k j λg l p f=>i g l (λy c e=>by rwa[(mm e).2]) f,λC y c e=>%[(mm e).2|X0 _],λC y z c o m=>(mm o).1.trans (mm m).1.symm,λC y e=>#[C+1,%[beq_iff_eq.mp e|List.lookup_cons_self]],λC y e=>by
  rw[lookup_cons,beq_eq_false_iff_ne.mpr λz=>e (by rw[z];simp)]
  rfl,λC y e=>by
  by_cases b:y=x0
  .exact .inl #[C+1,%[b|List.lookup_cons_self]]
  .exact .inr (Dh b e d)]
def UB:Ζ->Hp->VK->Prop:=λI H Q=>∃(l:Addr)(a:xf),I=[.ref l]/\H l=some (.lst (a.map V.bl))/\Q (.bl (a.any id)) H
theorem yN:∀a:xf,((range a.length).any λi=>(a[i]?).getD true)=a.any id
 |[]=>rfl
 |b::a=>by
  rw[length_cons,List.range_succ_eq_map,any_cons,U1,any_cons];have:=yN a;simp only[Function.comp_def,List.getElem?_cons_succ,List.getElem?_cons_zero,getD_some,id]at this ⊢;rw[this]
def acQ(hc:X.calm):jx X (.builtin "any") UB:=by
 intro U s G H I us Q a r h;let⟨l,d,rfl,n,q⟩:=h;let⟨u,rfl,k⟩:=r.one;cases k;let⟨c,f,p⟩:=a.lstIs n;have x:l<s.zs:=by let⟨_,e,_⟩:=p;exact aK e
 refine call_any_walk (wpAny_pyIter_list p ?_);refine#[s.zs,[s.zs,l],[s.zs],c.toArray.size,_,_,λi=>(d[i]?).getD true,rfl,Walks.list (A:=X.A.in1) (a.ok.hd hc) _ l (aQ x) c.toArray,
  #[#[_,aW _ rfl,rfl,rfl],p.push _],λi v y z B w g=>?_,λh' j t=>?_]
 .let⟨b,e,rfl⟩:=Iz f i v ↑w;simp only[e,getD_some]at g;exact wpAny_truthy_bool g
 .have e:((range c.toArray.size).any λi=>(d[i]?).getD true)=d.any id:=by
   rw[aX,<- f.length,ak];exact yN d
  refine#[.bl (d.any id),H,a.kept (t':=j) λb o q=>t b o (λm=>?_) (aH _ q),?_,q]
  .rw[YR.mp m]at q;exact X2 _ (aK q)
  .rw[e];rfl
def rL(l:Addr):It:=#[λi H=>∃I,H l\(.lst I)/\i<I.length,λi H v W=>∃I x t,H l\(.lst I)/\I[i]?=some x/\H t=none/\v=.ref t/\W=upd H t (.tup [.int i,x]),λi H=>∃I,H l\(.lst I)/\I.length<=i]
def acJ{Z}(e m l:Addr)(T:e≠m) :
  Turn P w K (.Tuple bt Z O) (rL l) [e,m] e (λi h=>(∃g,IsEnum h e m ((i:Nat):Int) g)/\h.IsListIter m l i) where
 mem:=by simp
 obj:=by
  rintro i h ⟨⟨g,j⟩,⟨o4,p,_,d4⟩⟩ b f;simp only[YU,UV,or_false]at f;rcases f with rfl|rfl
  .exact#[_,j,λv e=>by cases e]
  .exact#[_,p,λv e=>by rw[d4]at e;cases e]
 keep:=λi h h' #[#[g,j],p] k=>#[#[g,k e vc _ j],qU p (k m vc)]
 item:=by
  intro X J hw L hc i U s G H E d r st F;subst J hw L;let⟨⟨g,j⟩,p⟩:=st;let⟨I,t,o1⟩:=F;let⟨_,M,B,D,C,g1⟩:=d.lstM t;have W:I[i]?\I[i]:=aj o1;let⟨u,hu,ru⟩:=V7 D W;refine wpAny_pyNext_enum_item j p (items:=M.toArray) #[_,g1,rfl,B,rfl] (x:=u) ↑hu T λh' a1 a3 a5 a6 a7=>#[_,rfl,?_];refine wpAny_letOwnedTupleGo_enum a1 λS g3 N=>?_;have nt:H s.zs=none:=d.fresh;have I1:=d.laid (a:=s.zs) (o:=.tup [.int i,I[i]]) (h':=s.heap.push { cls:=.type "tuple",data:=.seq ↥[.int i s.toks,u] }) (t':=s.toks+1) (λb q z=>aH _ z) (aG _)
   #[(by show 2<=sizeLine;decide),[.int i s.toks,u],.cons #[_,rfl] (.cons ru .nil),_,aW _ rfl,rfl,_,rfl]
  have nz:e≠s.zs:=aQ (aK j);have oQ:m≠s.zs:=by let⟨o,e,_⟩:=p;exact aQ (aK e)
  have Q:∀b∈[e,m],upd H s.zs (.tup [.int i,I[i]]) b=none:=by
   intro b f;have V:=(r b f).1;simp only[YU,UV,or_false]at f;rcases f with rfl|rfl
   .exact(b_ nz).trans V
   .exact(b_ oQ).trans V
  have I2:=I1.turnedL (ch:=[e,m]) (h':=S) (t':=s.toks+1) (λb A f z=>by
   simp only[YU,UV,or_false,not_or]at f;let⟨Y,b3⟩:=f;refine(N.2 b Y).trans ?_;by_cases R:b=s.zs
   .subst R;have e2:=aW s.heap (o:={ cls:=.type "tuple",data:=.seq ↥[.int i s.toks,u] }) rfl;have z:(s.heap.push { cls:=.type "tuple",data:=.seq ↥[.int i s.toks,u] }).get? s.zs\A:=z;rw[e2]at z;cases z;exact a5
   .exact a7 b _ Y b3 (HJ z R)) λb f=>#[Q b f,(r b f).2]
  have mv:∀c o,c≠e->h'.get? c\o->S.get? c\o:=λc o n z=>(N.2 c n).trans z;exact#[.ref _,_,I2,rfl,#[I,_,_,t,W,nt,rfl,rfl],#[#[_,by rwa[Int.natCast_add]],qU a3 λo z=>mv _ _ (λy=>T y.symm) z],Q]
 done:=by
  intro X J hw L hc i U s G H E d r st F;subst J hw L;let⟨⟨g,j⟩,p⟩:=st;let⟨I,t,lt⟩:=F;let⟨_,M,B,D,C,g1⟩:=d.lstM t;have hl:=D.length;refine wpAny_pyNext_enum_end (d.ok.hd hc) j p (items:=M.toArray) #[_,g1,rfl,B,rfl] (by simp;lia) λh' k=>#[rfl,d.turnedL (ch:=[e,m]) (t':=s.toks) (λb A f z=>?_) r];simp only[YU,UV,or_false,not_or]at f;exact k b A f.2 z
 self:=λ_ _ _ _ _ #[#[_,j],_] h=>wpAny_pyIter_enum j h
def PZ(ta:TA):TI:=λG H R=>ta G H λvs Y=>∃a I,vs=[.ref a]/\Y a=some (.lst I)/\R (rL a) Y
def agZ{a:Expr}{l}{E:Pos}(y:Gl X "enumerate")(x:X.mg "enumerate"=none)(A:PA X [a] ta)(w:‹starEach [a] X.env=[(false,eval a X.env)]›) :
  PI X (.Tuple bt l E) (.Call (.Name "enumerate" p) [a] [] O) (PZ ta):=by
 intro U s G H R c h;refine Call_ (Ek c y x boot_enumerate (PyProof.Rows.callWith_type1 (ag (A O U s G H _ c h) λus d B=>?_) (by rw[w];rfl) (by rfl)));let⟨vs,Y,f,n,o⟩:=B;let⟨g,I,e,C,q⟩:=o;subst e;let⟨u,rfl,m⟩:=n.one;cases m;let⟨_,D,t,K,v,g1⟩:=f.lstM C;refine call_enumerate_list (items:=D.toArray) #[_,g1,rfl,t,rfl] λh' k J L F=>?_;refine wpAny_pyIter_enum k ?_;refine#[_,[d.zs+1,d.zs],_,rL g,Y,rfl,f.kept (t':=d.toks) λb r e=>F b r e,acJ _ _ g (Nat.succ_ne_self _),#[#[_,k],J],λb i=>?_,q];have j:d.zs<=b:=by
  simp only[YU,UV,or_false]at i;rcases i with z|z
  .rw[z];exact Xs _
  .rw[z];exact aG _
 exact f.fpOk j (f.hok.fresh j)
def K5(P:Program)(w:World)(K:Frag)(mg:Str->Ω)(base:Heap)(k:Nat)(f:Addr)(ps:Φ)(sp:Sp):Prop:=∃fd,fK P w K mg base bh k f fd ps sp/\Binds K fd ps []/\keepIn K (.ref f)
def OkF.val(G:OkF P w K mg base k x ps sp):∃f,mg x\(.ref f)/\K5 P w K mg base k f ps sp :=
 let⟨f,fd,F,b,c,a⟩:=G
 #[f,c,fd,F,b,a]
def _t(f:Addr)(sp:Sp)(tv:TE)(t:TA):TE:=λG H Q=>tv G H λv a=>v=.ref f/\t G a λvs Y=>sp vs Y Q E0
def aev(a:K5 X.prog X.w X.K X.mg X.base k f ps sp)(m:dZ k X.A)(l:PE X (.Name x p) tv)(y:PA X (e::Z) t)
 (o:‹zw X e Z›)(z:‹zb X O Z›):PE X (.Call (.Name x p) (e::Z) [] O) (_t f sp tv t):=by
 let⟨fd,F,b,n⟩:=a;intro U s G H Q I h;refine wpAny_Call_Name_kw (ag (l U s G H _ I h) ?_);rintro u g ⟨v,B,d,i,rfl,j⟩;cases i;refine callWith_K (h₀:=X.base) d.ok.mod.kin n (ag (y O U g G B _ d j) λus C #[vs,Y,c,r,q]=>#[c.kIn,?_]) o z;refine Lf F m b .nil Nx c r ?_;rwa[append_nil]
section
variable{prog:Program}{w:World}{A:Around}{E:Ε}{h:Heap}{g:wn}{d:Drawn}{t:Nat}{os:OsState}{nm q:Str}{C N:Addr}{bs bm nN:Θ}{hZ:Bool}{sn:Φ}{sub:Θ}{ab:Bool}{col:wr}{dd:Ξ}{k0 k1 k2 k3 k5:Ω}{B fm gz:String}
abbrev QV(h:Heap)(C:Addr)(us:Θ):Heap:=(h.push { cls:=.type "tuple",data:=.seq us.toArray }).push { cls:=.ref C,data:=.fields ↥[.ref h.objs.size,.none,.none,.none,.bool false,.none] }
def Jr(b:Addr)(o:Obj)(e:h.get? b\o):(QV h C us).get? b\o:=aH _ (aH _ e)
def Qi(F:ExcBaseFacts B fm gz nN)(T:OwnTail h nN bm){i:Obj}{Q:Fin->Shared->Prop}(a:h.get? C\(excClassObj nm q C N bs bm hZ sn sub ab col dd k0 k1 k2 k3 k5 fm))(l:h.Ns N mN)(n:mN "__init__"\(.ref fI))(o:h.get? fI\i)(p:i.cls=.type "function")(m:us.length<=sizeLine)
 (k:wpAny (model prog w) A (call (.ref fI) (.ref (h.objs.size+1)::us)) (λr f=>r=.none/\Q (.done (.ret (.ref (h.objs.size+1)))) f) E #[QV h C us,g,d,t,os]):wpAny (model prog w) A (Builtin.«type.__call__» #[.ref C::us,[]]) Q E #[h,g,d,t,os]:=by
 have K:=Jr (h:=h) (C:=C) (us:=us);have j:=K _ _ a;have u:=T.keeps K;have c:(QV h C us).get? (h.objs.size+1)=some { cls:=.ref C,data:=.fields ↥[.ref h.objs.size,.none,.none,.none,.bool false,.none] }:=by heap_get
 have b:(Value.ref C::bm).contains (.ref C):=by simp
 repeat (first|with_reducible refine wpAny_loadPart_at a ?_|with_reducible refine wpAny_madeBy_exc a ?_|wp_step)
 refine codeAny_call_builtin_code (Code.quiet_builtin _ F.quiet) (wpAny_check_new_subT F T a (codeAny_exc_new_subT F T a ?_ m));show wpAny _ _ _ _ _ _;unfold isInstance
 repeat (first|with_reducible refine wpAny_loadPart_at c ?_|(with_reducible refine wpAny_isSubtype_exc j ?_;rw[b])|wp_step)
 show wpAny _ _ (typeLookup (.ref C) _) _ _ _;refine wpAny_typeLookup_tail j (l.keeps K) u F.mroIs F.init.lookup ?_;rw[n];refine wpAny_holding (ZU ?_);unfold bindSpecial;refine ZU (wpAny_typeOf (T:="function") #[_,K _ _ o,p] ?_);rw[ZY vw];refine ZT (ZU (wpAny_mono k (λr f s=>?_) λ_ _ x=>x));let⟨e,z⟩:=s;subst e
 wp_walk
 exact z
def adV(F:ExcBaseFacts B fm gz nN)(T:OwnTail h nN bm){b:Obj}{Q:Ε}(a:h.get? C\(excClassObj nm q C N bs bm hZ sn sub ab col dd k0 k1 k2 k3 k5 fm))(f:h.Ns N mN)(j:mN "__init__"\(.ref fI))(k:h.get? fI\b)(l:b.cls=.type "function")(i:us.length<=sizeLine)
 (e:wpAny (model prog w) (A.under (.builtin "type.__call__" #[.ref C::us,[]])) (call (.ref fI) (.ref (h.objs.size+1)::us)) (λr c=>r=.none/\Q (.ref (h.objs.size+1)) c) E #[QV h C us,g,d,t,os]):wpAny (model prog w) A (call (.ref C) us) Q E #[h,g,d,t,os]:=by
 have o:=tc_lookup;have n:=tc_bind (.ref C);have m:(#[h,g,d,t,os] : Shared).TypeIs (.ref C) "type":=#[_,a,rfl];refine wpAny_call (codeAny_of_tree ?_);show wpAny _ _ (callAny (.ref C) _) _ _ _
 repeat (any_goals (first|assumption|with_reducible refine wpAny_loadPart_at a ?_|wp_step))
 exact#[rfl,codeAny_call_builtin_at (Code.quiet_builtin _ (by decide +kernel)) entry_typeCall (wpAny_check_type_call_sub a (Qi F T a f j k l i e))]
end
def T4:Θ->Bool
 |.ref _::l=>T4 l
 |l=>l==f4
def Zm{a:Value}{l:Θ}(h:T4 l):refuseLoop a "__setattr__" l=pure ():=by
 induction l with
 |nil=>cases h
 |cons x l b =>
  cases x with
  |ref C=>rw[refuseLoop_ref];exact b h
  |type n =>
   have e:Value.type n::l=f4:=beq_iff_eq.mp h;rw[e];exact PySem.F.store_ValueError.passes a
  |_=>exact absurd (beq_iff_eq.mp h) (by intro z;cases z)
structure j7(K:Frag)(C:Addr):Prop where
 cd:∃cd,clsIn K C\cd/\cd.hasDict/\T4 cd.mro
 sa:findIn K (.ref C) "__setattr__"\(some (.builtin "object.__setattr__"))
 mo:mroIn K C (.type "object")\true
variable{x HE:Addr}{f:Str}{v:Value}{ox:Obj}
def aiA(X:K.In s.heap)(S:j7 K C)(n:cA K C f)(h:s.heap.get? x\ox)(hc:ox.cls=.ref C)(hd:ox.dict=none)(j:ox.data=.fields vs)
 (O:∀h' D,h'.Ns1 s.zs (λy=>if y=f then some v else none)->h'.get? x=some { ox with dict:=some s.zs }->(∀b,b≠x->b≠s.zs->h'.get? b=s.heap.get? b)->Q () #[h',s.gens,s.drawn,D,s.os]):wpAny (model prog w) A (setAttr (.ref x) f v) Q E s:=by
 let⟨cd,B,l,P⟩:=S.cd;have J:PySem.W.InstAt s.heap x ox C none:=#[h,hc,by unfold notCls;rw[j],by rw[hd];trivial];have e:=PySem.F.store_object;refine set_plain X J S.sa ?_;have sub:PySem.W.Looks (model prog w) s.heap (isInstance (.ref x) (.type "object")) true:=J.type.andThen (looks_mroIn X S.mo);have q:PySem.W.Looks (model prog w) s.heap (mroOf (.ref C)) cd.mro:=(looks_clsIn X B).andThen .now;generalize u:({ s with toks:=s.toks+1 } : Shared)=s1;have o:s1.heap=s.heap:=%[<- u|_]
 rw[<- o]at sub q X J;refine codeAny_call_builtin e.slot.plain e.entry (@PySem.W.check_slot (model prog w) _ _ s1 "object.__setattr__" "object" "__setattr__" (.ref x) [.str f s.toks,v] [] _ e.kind e.split sub (e.args (.ref x) (.str f s.toks) v) ?_);rw[PySem.W.osa_eq,refuse_eq];refine ZU (ZU (J.type.here (ZU (q.here ?_))));rw[Zm P];refine ZT (ZU (J.type.here (ZU ((looks_findIn X n).here (ZU (ZT ?_))))));have c:s1.heap.get? x\ox:=by rwa[o]
 let⟨oc,L,M,eM⟩:=ox;dsimp only at hc hd j;subst hc hd j;refine ZU (ZT (ZU (ZU (wpAny_loadPart c (ZU ((looks_clsIn X B).here ?_))))));rw[l,ZZ vc,ZZ (by simp[typeHasDict])];have U:=u;let⟨Z,gg,dr,V,os⟩:=s1;dsimp only at c o ⊢;cases U;have a:x≠s.zs:=aQ (aK h);refine ZU (wpAny_alloc' (ZU (wpAny_update' (aH _ h) (ZT ?_))));generalize k:(s.heap.push { cls:=.type "dict",data:=.dict ↥[] }).update x _=m;have H:m.get? s.zs=some { cls:=.type "dict",data:=.dict ↥[] }:=by
  rw[<- k];exact(Heap.get?_update_ne _ _ _ _ a.symm).trans (Heap.get?_push_at rfl rfl)
 have q2:m.get? x=some { cls:=.ref C,dict:=some s.zs,data:=.fields vs,slots:=eM }:=by
  rw[<- k];exact Heap.get?_update_self _ (aH _ h) rfl
 have q3:∀b,b≠x->b≠s.zs->m.get? b=s.heap.get? b:=λb i g=>by
  rw[<- k];exact(Heap.get?_update_ne _ _ _ _ i).trans (Heap.get?_push_ne _ _ _ g)
 dsimp only;unfold Builtin.ObjectAttr.storeInDict Builtin.ObjectAttr.newKeyGuard;refine ZU (ZT (ZU (wpAny_nsSet1 (Heap.Ns1.of_empty #[_,↥[],_,H,rfl,λ_ z=>absurd z vc,λ_=>rfl]) λh' t r=>?_)));let⟨Y,R,T,I,G,N⟩:=t.count (Within.cons f v Within.nil);refine ZU (wpAny_lookBehind I %[G|pastItsLine_dict (aL N %[length_cons,List.length_nil,sizeLine_eq|Nat.le_add_left _ _])] ?_)
 wp_walk
 exact O h' _ t ((r.2 x a).trans q2) λb i g=>(r.2 b g).trans (q3 b i g)
structure V0(K:Frag)(C HE fI:Addr):Prop where
 ex:∃nm qn N bs sn sub ab col dd k0 k1 k2 k3 k5,K.lookup C\(excClassObj nm qn C N bs (.ref HE::f4) true sn sub ab col dd k0 k1 k2 k3 k5 "ValueError.__new__")/\nsOkIn K N/\nsIn K N "__init__"=some (some (.ref fI))
 he:oo K HE
 fn:∃o,K.lookup fI\o/\o.cls=.type "function"
 kp:keepIn K (.ref C)
def ahf{N:Addr}{m:Str->Ω}(X:K.In h)(G:h.Ns N m)(e:nsIn K N n\(some v)):m n\v:=by
 let⟨o,Z,d,a,hd,_,b⟩:=G;rw[<- b];unfold nsIn at e;split at e
 .rename_i q
  cases(X _ _ q).symm.trans a;cases hd;unfold nsFind findBy;rw[<- Array.find?_toList];split at e
  .rename_i f c
   cases e;rw[c];rfl
  .split at e<;>cases e
 .cases e
def V0.obj(q:V0 K C HE fI)(X:K.In h):∃f e N p d sub r c n m k j i g mN o,h.get? C\(excClassObj f e C N p (.ref HE::f4) true d sub r c n m k j i g "ValueError.__new__") /\
  h.Ns N mN/\mN "__init__"=some (.ref fI)/\h.get? fI=some o/\o.cls=.type "function"/\OwnTail h f4 (.ref HE::f4):=by
 let⟨f,e,N,p,d,sub,r,c,n,m,k,j,i,g,l,a,b⟩:=q.ex;let⟨o,lo,E⟩:=q.fn;let⟨O,P,w,v,I,M,u,s,J,t,L,D,B,A,z,y,x,H,G,F,T⟩:=ag7 X q.he;exact#[f,e,N,p,d,sub,r,c,n,m,k,j,i,g,_,o,X _ _ l,.of_isNs (isNs_of_in X a),ahf X (.of_isNs (isNs_of_in X a)) b,X _ _ lo,E,.own H G F .base]
abbrev Ww(C t:Addr)(d:Ξ):Obj:={ cls:=.ref C,dict:=d,data:=.fields ↥[.ref t,.none,.none,.none,.bool false,.none] }
def XN(a C:Addr)(d:Ξ):HO:=.ext λh=>∃t,h.get? a\(Ww C t d)
def pE{t:Addr}{d:Ξ}(e:h.get? a\(Ww C t d)):fJ P w H h a (XN a C d):=#[#[t,e],#[_,e],λ_ _ #[u,z] k=>#[u,k _ z]]
def l5{d:Ξ}(e:fJ P w H h a (XN a C d)):∃t,h.get? a\(Ww C t d):=e.1
def WE{o:HO}(e:H a\o):upd H a o=H:=by
 funext b;unfold upd;split
 .rename_i z;rw[z,e]
 .rfl
structure p5(K:Frag)(B:Addr):Prop where
 ga:specialIn K (.ref B) "__getattribute__"\(some (.builtin "type.__getattribute__"))
 rd:readsIn K B (.type "type")
 at_:findCls K (.ref B) (.type "type") "__init__"\(.val (.builtin "ValueError.__init__"))
section
variable{X:Cx}{B C HE fI:Addr}{x:Str}{p O ah:Pos}{e:Expr}{Z:xw}{t:TA}{U:Δ}{G:L2.St}{H:Hp}{s:Shared}
def init_exc{Q:Ε}(I:↥X)(q:V0 X.K C HE fI)(d:H a\(XN a C none))(P:us.length<=sizeLine)
 (h:∀f,Inv X U G H f->Q .none f):wpAny (model X.prog X.w) A (call (.builtin "ValueError.__init__") (.ref a::us)) Q E s:=by
 let⟨y,r,N,bs,m,sub,ab,l,Z,O,M,L,D,B,mN,o,k,V,R,S,p,T⟩:=q.obj I.kIn;let⟨u,g⟩:=l5 (I.hok a _ d);have F:=PySem.F.excBase_ValueError;let⟨c,W,Y,j,os⟩:=s;refine wpAny_call (codeAny_call_builtin F.init.plain F.initEntry (wpAny_check_init_subT F T k g rfl ?_))
 wp_walk
 refine h _ ?_;have i:(c.push { cls:=.type "tuple",data:=.seq us.toArray }).get? a\(Ww C u none):=aH _ g;have J:=I.write (x:=a) (e:=a) (o:=XN a C none) (t':=j) (h':=(c.push { cls:=.type "tuple",data:=.seq us.toArray }).update a (Obj.mapFields λx=>x.setIfInBounds 0 (Value.ref c.objs.size))) (by rw[d];trivial) (.inl rfl)
  (λb v n z=>(Heap.get?_update_other _ _ (Ne.symm n)).trans (aH _ z)) #[_,Heap.get?_update_self _ i rfl] (pE (t:=c.objs.size) (Heap.get?_update_self _ i rfl))
 rwa[WE d]at J
def We(C:Addr)(t:TA):TE:=λG H Q=>t G H λvs Y=>∃a b,vs=.ref a::b/\Y a=some (XN a C none)/\b.length<=sizeLine/\Q .non Y
def aeS(c:p5 X.K B)(q:V0 X.K C HE fI)(l:Gl X x)(k:X.mg x\(.ref B))(m:PA X (e::Z) t)(w:‹(zz x,2)›)
 (v:‹zw X e Z›)(y:‹zb X O Z›)
 (j:eval (.Call (.Attribute (.Name x p) "__init__" ah) (e::Z) [] O) X.env=(do
   let b <- eval (.Name x p) X.env
   standAt ah.atName
   let(f,first) <- holding [b] (getMethod b "__init__" pl)
   callWith O f first (backTo O (starEach (e::Z) X.env)) (backToKw O (keywordEach [] X.env))):=by rfl) :
  PE X (.Call (.Attribute (.Name x p) "__init__" ah) (e::Z) [] O) (We C t):=by
 intro U s G H Q I h;refine methodCall_KW (pl:=pl) (uE I l k (method_cls I.kIn c.ga (cls_value I.kIn c.rd c.at_ vw ?_)) w) j;show wpAny _ _ (callWith O (.builtin "ValueError.__init__") [] (backTo O (starEach (e::Z) X.env)) []) _ _ _;have d:=m O U _ G H _ (I.tok (s.toks+1)) h;rw[v]at d ⊢;refine PySem.W.callWith_of (P:=λ_=>True) (by show((false || (backTo O (starEach Z X.env)).any (·.1)) || false)=false;rw[y];rfl) (λ_ _=>#[.machine,.inr (.inl rfl),.now]) (Calls.evalArgs_plain (ag d λus E #[vs,A,z,r,a,D,u,o,L,n]=>#[trivial,?_]));subst u;cases r with
 |cons i g =>
  cases i;exact init_exc z q o (by rwa[<- g.length]) λF J=>#[.non,A,J,rfl,n]
end
variable{v:V}{ta:TE}
def ab7(I:↥X)(e:H a\(XN a C none))(c:j7 X.K C)(n:cA X.K C f)(r:zZ v u)
 (h:∀d k,H d=none->d≠a->Inv X U G (upd (upd H a (XN a C (some d))) d (.xd [(f,v)])) k->Q () k):wpAny (model X.prog X.w) A (setAttr (.ref a) f u) Q E s:=by
 let⟨t,B⟩:=l5 (I.hok a _ e);have l:H s.zs=none:=I.hok.fresh (aG _);have m:s.zs≠a:=(aQ (aK B)).symm;refine aiA I.kIn c n B rfl rfl rfl λh' j F y D=>h s.zs _ l m ?_;have J:=I.write (x:=a) (e:=a) (o:=XN a C (some s.zs)) (t':=j) (h':=h') (by rw[e];trivial) (.inl rfl) (λb w z q=>(D b z (aQ (aK q))).trans q) #[_,y] (pE y);refine J.track ((b_ m).trans l) (Heap.get?_none_of_le I.sz) (UZ I.lt) (λx c q z=>?_) (λp q z=>?_) #[_,F,λg=>?_]
 .let⟨w,o,i,_⟩:=I.cell x c q;rw[z]at i;exact X2 _ (aK i)
 .have i:=(I.pin p q).1;rw[z]at i;exact X2 _ (aK i)
 .by_cases z:g=f
  .subst z;simp[List.lookup];exact r
  .have:(g==f)=false:=by simp[z]
   simp[List.lookup,this,z]
   trivial
def RR(K:Frag)(ta tv:TE)(f:Str):TS:=λD G H=>tv G H λy Y=>ta G Y λx b=>∃a C,x=.ref a/\b a=some (XN a C none)/\j7 K C/\cA K C f/\∀d,b d=none->d≠a->D.nx G (upd (upd b a (XN a C (some d))) d (.xd [(f,y)]))
def ag6{o:Expr}(l:PE X o ta)(j:PE X ay tv)(k:swapsWith ay (some (.Attribute o f a9)) O.line X.env=pure false):PS X (.Assign [.Attribute o f a9] ay O) (RR X.K ta tv f):=by
 intro U s G H D I h;refine plainObj_wpAny_Assign_Attribute (ag (j U s G H _ I h) λu b #[y,Y,A,e,q]=>ag (l U b G Y _ A q) λi E m=>?_) k;let⟨x,F,z,g,a,C,t,v,c,n,q2⟩:=m;subst t;obtain rfl:i=Value.ref a:=g;exact ab7 z v c n e λd B r p w=>#[G,_,w,q2 d r p]
def Inv.madeE(I:↥X):Inv X U G (upd H (s.zs+1) (XN (s.zs+1) C none)) { s with heap:=QV s.heap C us } :=
 I.laid (a:=s.zs+1) (o:=XN (s.zs+1) C none) (h':=QV s.heap C us) (t':=s.toks) Jr (Xs _) (pE (t:=s.zs) (by heap_get))
def acX{vs:Ζ}{Q:Addr->Hp->Prop}(q:V0 X.K C HE fI)(F:fK X.prog X.w X.K X.mg X.base bh k fI fd ps sp)(z:dZ (k+1) X.A)(J:Binds X.K fd ps [])
 (I:↥X)(r:zN vs us)(B:us.length<=sizeLine)(h:∀x,H x=none->sp (.ref x::vs) (upd H x (XN x C none)) (λv S=>v=.non/\Q x S) E0) :
  ⇑X (call (.ref C) us) (λu f=>∃a W,u=.ref a/\X.s₀.zs<=a/\Inv X U G W f/\Q a W) X.xe s:=by
 let⟨nm,Z,N,bs,Y,sub,ab,P,dd,k0,k1,k2,k3,k5,mN,o,M,L,D,E,y,T⟩:=q.obj I.kIn;have l:=h (s.zs+1) (I.hok.fresh (Xs _));have c:=I.madeE (C:=C) (us:=us);have j:zN (V.ref (s.zs+1)::vs) (Value.ref (s.zs+1)::us):=.cons rfl r;have i:(Value.ref (s.zs+1)::us++[]).length=ps.length:=by
  rw[append_nil,<- j.length];exact F.len _ _ _ _ l
 have n:=J _ (Value.ref (s.zs+1)::us) c.kIn i;rw[append_nil]at n;have sz:=I.sz;let⟨m,g,d,t,os⟩:=s;refine adV PySem.F.excBase_ValueError T M L D E y B (wpAny_call (codeAny_mono (F.run _ X.stack _ _ #[Value.ref (m.objs.size+1)::us,[]] _ _ _ E0 (z.make C us []) (c.env0.make C us []) n j l) λr f b=>?_));cases r with
 |error e=>exact Nx U G _ _ e f c b
 |ok fl =>
  cases fl with
  |ret u =>
   let⟨v,W,R,p,O,q3⟩:=c.after b;subst O;exact#[p,m.objs.size+1,W,rfl,Nat.le_succ_of_le sz,R,q3]
  |next=>exact False.elim b
  |brk=>exact False.elim b
  |cont=>exact False.elim b
def out(H:Hp)(a:Addr):Hp:=λb=>if b=a then none else H b
def XH : out H a a=none:=by unfold out;rw[ZY rfl]
def yW(n:b≠a):out H a b=H b:=by unfold out;rw[ZZ n]
def Wo{o:HO}(e:out H a b\o):b≠a/\H b=some o:=by
 by_cases z:b=a
 .subst z;rw[XH]at e;cases e
 .exact#[z,by rw[yW z]at e;exact e]
section
variable{X:Cx}{U:Δ}{G:L2.St}{H:Hp}{s:Shared}{a C:Addr}{B h':Heap}{d:Ξ}
def Inv.flyMade(f:↥X)(F:X.ex=[])(e:H a\(XN a C d))(sz:X.s₀.zs<=a)(N:B=hideAll (s.heap.hide a) (cX X.stack))(fl:yP B X.outer a (.ref C) d .none h')(A:s.heap.UpToSlots h') :
  Fly X.prog X.w X.outer X.H₀ X.s₀ a (.ref C) (out H a) { s with heap:=h' } B d:=by
 have j:∀b o,b≠a->s.heap.get? b\o->b∉cX X.stack->B.get? b\o:=λb o n q m=>%[N|hideAll_get _ ((Heap.hide_ne _ n).trans q) m]
 have K:∀b u,H b\u->b∉cX X.stack:=λb u q z=>by rw[f.stkFree b z]at q;cases q
 have trk:∀b u o,b≠a->H b\u->s.heap.get? b\o->B.get? b\o:=λb u o n q r=>j b o n r (K b u q);have E:∀b,H b=none->b≠a:=λb q z=>by rw[z,e]at q;cases q
 have D:∀b∈cX X.stack,∀o,s.heap.get? b\o->∀vs,o.data≠.fields vs:=λb g o q=>by
  let⟨_,l,k,z⟩:=f.stack.mem g;rw[q]at k;cases k;exact z
 have hok:HOk X.prog X.w (out H a) h':=λb u q=>by
  let⟨n,q⟩:=Wo q;refine(f.hok b u q).stay (λc v hc r=>?_) (λc r=>?_) λc I r=>?_
  .rcases hc with z|z
   .subst z;exact fl.1 c v (trk c u v n q r)
   .exact fl.1 c v (trk c _ v (Li z e (by intro z;cases z)) z r)
  .rw[yW (Li r e (by intro z;cases z))];exact r
  .rw[yW (Li r e (by intro z;cases z))];exact r
 have un:Un (cX X.stack) [a] H (out H a) s.heap h':=by
  refine#[λb o q n g _=>fl.1 b o (j b o (E b n) q g),λb o q n g _=>A b o q (D b g o q),λb o _ n _=>%[yW (E b n)|n],λb o q g=>?_,λb I q=>?_,λb o u q=>?_,λb ps q=>#[↥[],?_]]
  .by_cases m:b∈cX X.stack
   .let⟨P,r⟩:=A b o q (D b m o q);exact#[_,r]
   .exact#[o,fl.1 b o (j b o ↑g q m)]
  .rw[yW (Li q e (by intro z;cases z))];exact q
  .rw[yW (Li q e (by intro z;cases z))];exact q
  .rw[yW (Li q e (by intro z;cases z)),q];simp
 have J:Inv X U G (out H a) { s with heap:=h' }:=f.call' (s':={ s with heap:=h' }) (ch:=[a]) rfl un hok f.bare λb g=>by
  obtain rfl:b=a:=↑g
  exact#[.inr sz,(λz=>by have:=f.free;rw[<- z,e]at this;cases this),(λx c q z=>by have:=f.freeC x c q;rw[z,e]at this;cases this),(λp L z=>by have:=(f.pin p L).2.1;rw[z,e]at this;cases this)]
 have t:∀b o,X.s₀.heap.get? b\o->b≠a:=λb o q z=>X2 a (aR (z ▸ aK q) sz);refine#[J.os,J.bare,Heap.get?_none_of_le sz,by have:=J.base;rw[F]at this;exact this,J.hok,λb g=>?_,fl,λb o q g hc=>?_]
 .let⟨_,o,M,_⟩:=f.ok.funs.mem g;exact J.base.free b o M (f.ok.frf b g) λz=>f.ok.exfs b z g
 .have i:∀v,B.get? b\v->B.get? b\o:=λv y=>by
   have O:=fl.1 b v y;rw[show({ s with heap:=h' } : Shared).heap.get? b=h'.get? b from rfl,O]at q;cases q;exact y
  rcases hc with⟨u,r⟩|⟨u,r⟩
  .let⟨⟨v,z⟩,n⟩:=f.old F r;exact i v (j b v (t b u r) z (f.nostk n g))
  .let⟨n,r⟩:=Wo r;let⟨l,k⟩:=(f.hok b u r).there;exact i l (trk b u l n r k)
end
def ZD(X:Cx)(b:Value->Ξ->L2.St->Hp->Prop):Prop :=
 ∀U G H s a C d,↥X->H a\(XN a C d)->X.s₀.zs<=a->b (.ref C) d G (out H a)->X.xe (.ref a) s
variable{f:Addr}{E:XK}
def HR:ZD (G_ (eL P w) P w K mg base N am J f cd A outer s H E) (λC d _ W=>E C d W):=by
 intro U G Y c a C d I e sz q;show wpAny _ _ (leaving _ (.ref a)) _ _ _;have i:∀env∈(envOfC am J s.zs f cd::outer),∀b,env.frame\b->b∈cX (envOfC am J s.zs f cd::outer):=λenv g b h=>List.mem_filterMap.mpr #[env,g,h];let⟨t,k⟩:=l5 (I.hok a _ e);have l:(c.heap.hide a).FunFrames base (envOfC am J s.zs f cd::outer):=PySem.W.funFrames_hideAll (as:=[a]) I.stack λenv g b h z=>by
  obtain rfl:b=a:=↑h
  have:=I.stkFree b (i env g b z);rw[e]at this;cases this
 refine acK (base:=hideAll (c.heap.hide a) (cX (envOfC am J s.zs f cd::outer))) (h0:=c.heap.hide a) (outer:=outer) I.ok.frames rfl (λb o q=>of_hideAll _ q) (PySem.W.funFrames_hide l i) (λb o q=>Heap.of_hide q) (Heap.hide_self _ _) k rfl rfl λh' fl j=>?_;exact#[a,.ref C,d,out Y a,_,rfl,I.flyMade rfl e sz rfl fl j,q]
section
variable{prog:Program}{w:World}{A:Around}{E:Ε}{s:Shared}{env:Env}{nm qn:Str}{C N:Addr}{bs bm:Θ}{hd:Bool}{sn:Φ}{sub:Θ}{ab:Bool}{col:wr}{dd:Ξ}{k0 k1 k2 k3 k5:Ω}
def ab2{x:Sem Value}{Q:Flow->Shared->Prop}(f:bm.contains (.type "BaseException"))(e:A.handled=none)
 (h:wpAny (model prog w) A x (λv b=>∃a t d,v=.ref a/\b.heap.get? C=some (excClassObj nm qn C N bs bm hd sn sub ab col dd k0 k1 k2 k3 k5 "ValueError.__new__")/\b.heap.get? a=some (Ww C t d)/\E (.ref a) b) E s):wpAny (model prog w) A (raiseStmt env (some x) none) Q E s:=by
 have j:(Value.ref C::bm).contains (.type "BaseException"):=%[List.contains_cons,f,Bool.or_true|_]
 unfold raiseStmt;refine ZU (wpAny_mono h (λv b z=>?_) λ_ _ z=>z);let⟨a,t,d,rfl,c,g,i⟩:=z;let⟨l,m,n,k,os⟩:=b
 repeat (first|with_reducible refine wpAny_loadPart_at g ?_|with_reducible refine wpAny_loadPart_at c ?_|(with_reducible refine wpAny_isSubtype_exc c ?_;rw[j])|wp_step)
 exact wpAny_raiseNew_none e i
end
section
variable{X:Cx}{x:Str}{np af O:Pos}{e₀:Expr}{rest:xw}{ta:TA}{C HE fI:Addr}{Ex:Value->Ξ->L2.St->Hp->Prop}{k:Nat}{ps:Φ}{sp:Sp}
def ai0(C:Addr)(sp:Sp)(Ex:Value->Ξ->L2.St->Hp->Prop)(ta:TA):TS:=λ_ G H=>ta G H λvs Y=>vs.length<=sizeLine/\∀a,Y a=none->sp (.ref a::vs) (upd Y a (XN a C none)) (λv b=>v=.non/\∃d,b a\(XN a C d)/\Ex (.ref C) d G (out b a)) E0
def acg(hc:X.calm)(hg:Gl X x)(Z:X.mg x\(.ref C))(q:V0 X.K C HE fI)(b:zS X bh k fI ps sp)(V:dZ (k+1) X.A)(R:ZD X Ex)(ha:PA X (e₀::rest) ta)(bS:‹(zz x,2)›)
 (he:‹zw X e₀ rest›)(a8:‹zb X af rest›) :
  PS X (.Raise (some (.Call (.Name x np) (e₀::rest) [] af)) none O) (ai0 C sp Ex ta):=by
 let⟨fd,F,hb⟩:=b;intro U s G H D I h;let⟨v,p,N,L,n,sub,M,e,J,E,B,z,y,w,mN,o,hC,hN,hi,hf,qo,T⟩:=q.obj I.ok.mod.kin;rw[arm_exec_Raise];refine ZU (wpAny_standAt (ab2 (C:=C) (nm:=v) (qn:=p) (N:=N) (bs:=L) (bm:=.ref HE::f4) (hd:=true) (sn:=n) (sub:=sub) (ab:=M) (col:=e) (dd:=J) (k0:=E) (k1:=B) (k2:=z) (k3:=y) (k5:=w) (T.hasType vw) (I.ok.hd hc) ?_));refine ZU (ag (Q:=λu f=>∃a W d,u=.ref a/\X.s₀.zs<=a/\Inv X U G W f/\W a=some (XN a C d)/\Ex (.ref C) d G (out W a)) ?_ λu f #[a,W,d,m,l,c,g,j]=>ZU (wpAny_standAt (ZT ?_)))
 .refine wpAny_Call_Name_kw (uE I hg Z ?_ bS);refine callWith_K (h₀:=X.base) I.ok.mod.kin q.kp (ag (ha af U s G H _ I h) λus f #[vs,Y,c,r,hl,P]=>#[c.kIn,?_]) he a8;exact ag (acX (Q:=λa i=>∃d,i a\(XN a C d)/\Ex (.ref C) d G (out i a)) q F V hb c r (by show us.length<=_;rwa[<- r.length]) P) λu s2 hP=>by let⟨a,i,m,l,I2,d,g,j⟩:=hP;exact#[a,i,d,m,l,I2,g,j]
 .let⟨t,S⟩:=l5 (c.hok a _ g);exact#[a,t,d,m,c.bk _ _ hC,S,R U G W f a C d c g l j]
end
variable{f:Str}{od:Option Obj}{E:Ε}{t:Nat}{d:Drawn}
def ZK{i:Tok}{fl b:Bool}{Q:Ε}(X:K.In h)(T:iL K C)(J:PySem.W.InstAt h a o C od)(c:h.get? a\o)(e:o.cls=.ref C)(m:PySem.W.findObj K C od f\(.value u))(l:handedIn u)(k:Q u #[h,g,d,t,os]) :
  wpAny (model prog w) A (getAttrBy (.ref a) (.str f i) fl b) Q E #[h,g,d,t,os]:=by
 have s:=F.excAttr_ValueError.ga.bind (.ref a);have j:(Value.builtin "BaseException.__getattribute__"== Value.builtin "object.__getattribute__")=false:=by decide +kernel
 have r:(onTheHeap (Value.ref C)&&Value.builtin "BaseException.__getattribute__"== Value.builtin "object.__getattribute__")=false:=%[j|JS _]
 have LT:=Ey (M:=model prog w) c e;have p:=looks_findIn (M:=model prog w) X T.ga;have n:=looks_findIn (M:=model prog w) X T.gn;have q:=PySem.W.looks_find (M:=model prog w) X J m
 repeat (any_goals (first|assumption|with_reducible refine LT.at ?_|with_reducible refine p.at ?_|with_reducible refine n.at ?_|(with_reducible refine wpAny_loadPart_at c ?_;rw[e])|wp_step))
 rw[ZZ (show ¬(b&&onTheHeap (Value.builtin "BaseException.__getattribute__"))=true from by rw[show onTheHeap (Value.builtin "BaseException.__getattribute__")=false from rfl,JS];exact bx)]
 repeat (any_goals (first|assumption|wp_step))
 refine codeAny_call_builtin F.excAttr_ValueError.ga.plain F.entry_bexc_ga (TF X T c e ?_)
 repeat (any_goals (first|assumption|with_reducible refine LT.at ?_|with_reducible refine q.at ?_|wp_step))
 show wpAny _ _ (handedOut u) _ _ _;rw[PySem.W.handedOut_of l];exact ZT k
variable{d:Addr}{fs:xE}
def aco{b:Bool}{Q:Ε}(I:↥X)(e:H a\(XO a C (some d)))(F:H d\(.xd fs))(c:iL X.K C)(D:hasDictIn X.K C)(n:cA X.K C f)(l:fs.lookup f\v)
 (h:∀u i,Inv X U G H i->zZ v u->Q u i):wpAny (model X.prog X.w) A (getAttr (.ref a) f b) Q E s:=by
 let⟨ox,k,m,hd,vs,x⟩:=(I.hok a _ e).1;let⟨p,z,r⟩:=I.hok d _ F;let⟨od,N,B⟩:=Ry z;let⟨u,y,j⟩:=zy.some_of (v:=v) (o:=p f) %[<- l|r f];have J:PySem.W.InstAt s.heap a ox C (some od):=#[k,m,by unfold notCls;rw[x],by rwa[hd]];have L:=I.tok (s.toks+1);have q:=I.kIn;let⟨M,g,O,t,os⟩:=s;unfold getAttr
 repeat (first|exact ZK q c J k m (findObj_own D n rfl %[B,y|_]) (Ri j) (h u _ L j)|wp_step)
def E6(K:Frag)(ta:TE)(f:Str):TE:=λG H Q=>ta G H λx Y=>∃a C d fs v,x=.ref a/\Y a=some (XO a C (some d))/\Y d=some (.xd fs)/\iL K C/\hasDictIn K C/\cA K C f/\fs.lookup f=some v/\Q v Y
def ahF(i:PE X e ta)(j:zt X e f):PE X (.Attribute e f O) (E6 X.K ta f):=by
 intro U s G H Q I h;refine KT j (ag (i U s G H _ I h) λu z k=>?_);let⟨x,Y,t,b,a,C,d,fs,v,m,p,o,c,hd,n,l,q⟩:=k;subst m;obtain rfl:u=Value.ref a:=b;exact aco t p o c hd n l λw y r g=>#[v,Y,r,g,q]
def ap{P:Φ}{a:Scope}(f:‹a.kind=.function›)(e:‹a.isCoroutine=false›)(d:‹a.isGenerator=false›)(b:N.Nodup/\(∀x∈P,a.names.lookup x\.local\/a.names.lookup x=some .cell)/\∀y∈a.names,y.2≠.free:=by decide +kernel)(c:‹N.take P.length=P›):bL N P a:=#[f,e,d,b.1,c,b.2.1,b.2.2]
abbrev LA(sc J:Scope)(N N' I:Φ):Prop:=Rz I N=N'/\(∀y∈J.names,y.2=.local->J.names.lookup y.1\.local)/\(∀y∈J.names,y.2=.free->sc.names.lookup y.1\.cell\/sc.names.lookup y.1=some .free) /\
 (∀y∈N,y∉I->(J.names.map λ(n,k)=>if(k==NameKind.free&&sc.kind == .function&&sc.names.lookup n==some .cell)then(n,NameKind.cell)else(n,k)).lookup y≠some .local)/\∀y∈N,y∈I->(J.names.map λ(n,k)=>if(k==NameKind.free&&sc.kind == .function&&sc.names.lookup n==some .cell)then(n,NameKind.cell)else(n,k)).lookup (hid y)=none
abbrev CK(sc J:Scope)(N N' I:Φ):Prop:=(∀y∈J.names,y.2≠.cell)/\LA sc J N N' I
def Iq(e:Scope)(N d I:Φ)(j:PI X tg iter wi)(k:∀{C a b c pn},PG (X.compG d J I C a b c pn) tg gt)(g:∀{C a b c pn},PTs (X.compG d J I C a b c pn) aS tc)(l:∀{C a b c pn},PE (X.compG d J I C a b c pn) bg te)
 (n:‹X.env.scope=e›)(o:‹X.N=N›)(m:‹X.calm›)(f:‹J.kind=.function›)(h:CK e J N d I:=by decide +kernel)(i:zh X iter:=by intro _;rfl):PE X (.ListComp bg [#[tg,iter,aS,0]] J O) (vO wi I.length (gS gt) (gL tc) (tM te)) :=
 by
 subst n o;exact YB (vK f h.1) m h.2.1 f h.2.2.1 h.2.2.2.1 h.2.2.2.2.1 h.2.2.2.2.2 j (λ_ _ _ _ _=>k.mono) (λ_ _ _ _ _=>g.mono) (λ_ _ _ _ _=>l.mono) i
def Pm{i j:Int}{d:Ξ}{n:Nat}{b:Array (Ω)}{t u:Tok}(l:K.lookup a\#[.type "tuple",d,.seq ↥[.int i t,.int j u] n,b]):∀H,SqT K H a [.int i,.int j]:=λH=>.inr #[_,_,_,l,rfl,rfl,(by show 2<=sizeLine;decide),.cons #[_,rfl] (.cons #[_,rfl] .nil)]
def O3{x:Str}{i:Int}{t:Tok}(X:K.In h)(G:h.Ns mainGlobals mg)(l:nsIn K mainGlobals x\(some (.int i t))):∃u,mg x\u/\zZ (.int i) u:=#[_,mg_of X G l,_,rfl]
def nf:Nat->(Θ->Prop)->Prop
 |0,P=>P []
 |n+1,P=>∀a,nf n λl=>P (a::l)
theorem Vo:∀(n:Nat){P:Θ->Prop},nf n P->∀us:Θ,us.length=n->P us
 |0,_,h,[],_=>h
 |n+1,_,h,a::l,e=>Vo n (h a) l (Nat.succ.inj e)
section
variable{K:Frag}{h:Heap}{mg:Str->Ω}{x m am:Str}{v:Value}{C f:Addr}{st:Stmt}{ps:Φ}{oc:Value}{od an:Ξ}{eM:Array (Ω)}{kV b6 pm ai ct:Value}{i j:Int}{d:Ξ}{n:Nat}{sl:Array (Ω)}{t u:Tok}
def gb(X:K.In h:=by assumption)(G:h.Ns mainGlobals mg:=by assumption)(e:‹(nsIn K mainGlobals x\(some v),1)›):mg x\v:=mg_of X G e
def ee(X:K.In h:=by assumption)(G:h.Ns mainGlobals mg:=by assumption)(e:‹(nsIn K mainGlobals x\none,1)›):mg x=none:=PySem.W.mg_none_of X G e
def bE(e:‹(findIn K (.ref C) x\none,1)›):cA K C x:=e
def g7(a:‹(findIn K (.ref C) m\(some (.ref f)),1)›)(b:‹(isFn K (.ref f),1)›)(c:‹(keepIn K (.ref f),1)›):Meth K C m f:=#[a,b,c]
def js(a:‹(makesIn K C,1)›)(b:‹(findIn K (.ref C) "__init__"\(some (.ref f)),1)›)(c:‹(isFn K (.ref f),1)›)(e:‹(keepIn K (.ref C),1)›):Mk K C f:=#[a,b,c,e]
def ip(a:‹(plainGet K C Str.empty,1)›)(b:‹(hasDictIn K C,1)›)(c:‹(plainOver K C,1)›)(e:‹(findIn K (.ref C) "__setattr__"\(some (.builtin "object.__setattr__")),1)›):Cls K C:=#[a,b,c,e]
def sA(a:‹(specialIn K (.ref C) "__getattribute__"\(some (.builtin "type.__getattribute__")),1)›)(b:‹(readsIn K C (.type "type"),1)›)(c:‹(findCls K (.ref C) (.type "type") m\(.val (.ref f)),1)›)(e:‹(keepIn K (.ref f),1)›):Js K C m f:=#[a,b,c,rfl,e]
def L6(X:K.In h:=by assumption)(G:h.Ns mainGlobals mg:=by assumption)(l:‹(nsIn K mainGlobals x\(some (.int i t)),1)›):∃u,mg x\u/\zZ (.int i) u:=O3 X G l
def sr(l:‹(K.lookup C\#[.type "tuple",d,.seq ↥[.int i t,.int j u] n,sl],1)›):∀H,SqT K H C [.int i,.int j]:=Pm l
def ar(b:∀(kV b6 pm:Value)(an:Ξ)(ai ct:Value),nf ps.length λus=>bindArgs (PySem.W.fnOf x x (j9 st) (fP st) (bH st) .none kV b6 pm an ai ct) #[us,[]]=pure (ps.zip us):=by repeat (first|rfl|intro _))(X:K.In h:=by assumption)(G:h.Ns mainGlobals mg:=by assumption)
 (a:‹(nsIn K mainGlobals x\(some (.ref f)),1)›)(l:‹(K.lookup f\#[oc,od,.func (PySem.W.fnOf x x (j9 st) (fP st) (bH st) .none kV b6 pm an ai ct),eM],1)›)
 (c:‹(codeIn K ai x,1)›)(k:‹(keepIn K (.ref f),1)›):cF K mg x st ps:=ahD X G a l c k λkV b6 pm an ai ct us e=>Vo _ (b kV b6 pm an ai ct) us e
def fM(a:∀(kV b6 pm:Value)(an:Ξ)(ai ct:Value),nf ps.length λus=>bindArgs (PySem.W.fnOf x am (j9 st) (fP st) (bH st) .none kV b6 pm an ai ct) #[us,[]]=pure (ps.zip us):=by repeat (first|rfl|intro _))
 (l:‹(K.lookup f\#[oc,od,.func (PySem.W.fnOf x am (j9 st) (fP st) (bH st) .none kV b6 pm an ai ct),eM],1)›)(c:‹(codeIn K ai am,1)›)(k:‹(keepIn K (.ref f),1)›):CN K x am st ps f:=aie l c k λkV b6 pm an ai ct us e=>Vo _ (a kV b6 pm an ai ct) us e
end
variable{N f:Addr}{nm qn:Str}{bs sub:Θ}{sn:Φ}{ab:Bool}{col:wr}{dd:Ξ}{k0 k1 k2 k3 k5:Ω}{cd:ClassData}{t:TA}
def L9(e:excIn K HE f4 "ValueError.__new__":=by k_exc)(l:‹(K.lookup C\(excClassObj nm qn C N bs (.ref HE::f4) true sn sub ab col dd k0 k1 k2 k3 k5 "ValueError.__new__"),1)›)(b:nsOkIn K N:=by kernel_rfl)(a:‹(nsIn K N "__init__"\(some (.ref fI)),1)›)
 (lf:‹(K.lookup fI\o,1)›)(d:‹o.cls=.type "function"›)(c:‹(keepIn K (.ref C),1)›):V0 K C HE fI:=#[#[nm,qn,N,bs,sn,sub,ab,col,dd,k0,k1,k2,k3,k5,l,b,a],e,#[o,lf,d],c]
def L8(a:‹(clsIn K C\cd,1)›)(b:‹cd.hasDict›)(c:‹T4 cd.mro›)(e:‹(findIn K (.ref C) "__setattr__"\(some (.builtin "object.__setattr__")),1)›)(m:‹(mroIn K C (.type "object")\true,1)›):j7 K C:=#[#[cd,a,b,c],e,m]
def L7(a:‹(specialIn K (.ref C) "__getattribute__"\(some (.builtin "type.__getattribute__")),1)›)(b:‹(readsIn K C (.type "type"),1)›)(c:‹(findCls K (.ref C) (.type "type") "__init__"\(.val (.builtin "ValueError.__init__")),1)›):p5 K C:=#[a,b,c]
def L'(a:‹(findIn K (.ref C) "__getattribute__"\(some (.builtin "BaseException.__getattribute__")),1)›)(b:‹(findIn K (.ref C) "__getattr__"\none,1)›)(c:‹(findIn K (.ref C) "__class__"\(some (.builtin "object.__class__")),1)›)(e:‹(mroIn K C (.type "object")\true,1)›)(m:‹(mroIn K C (.type "BaseException")\true,1)›):iL K C:=#[a,b,c,e,m]
def ahn(C:Addr)(m:Str)(sp:Sp)(e:Value->Ξ->L2.St->Hp->Prop)(ta:TE)(t:TA):TE:=λG H Q=>ta G H λx Y=>∃a b fs,x=.ref a/\Y a=some (.ins C b fs)/\fs.lookup m=none/\t G Y λvs c=>sp (x::vs) c Q λD d W=>e D d G W
variable{o:Expr}{m:Str}{Ex:Value->Ξ->L2.St->Hp->Prop}{x:V}
def acU(z:PE X o ta)(c:Cls X.K C)(i:Meth X.K C m f)(b:zS X (eL X.prog X.w) k f ps sp)(y:dZ k X.A)(p:i4 X Ex)(D:PA X (e::Z) t)
 (M:‹zw X e Z›)(N:‹zb X O Z›)
 (v:eval (.Call (.Attribute o m ah) (e::Z) [] O) X.env=(do
   let g <- eval o X.env
   standAt ah.atName
   let(f,first) <- holding [g] (getMethod g m pl)
   callWith O f first (backTo O (starEach (e::Z) X.env)) (backToKw O (keywordEach [] X.env))):=by rfl) :
  PE X (.Call (.Attribute o m ah) (e::Z) [] O) (ahn C m sp Ex ta t):=by
 let⟨fd,F,B⟩:=b;intro U s G H Q I h;refine methodCall_KW (pl:=pl) (ag (z U s G H _ I h) λu R E=>?_) v;let⟨x,Y,d,n,a,S,fs,J,L,l,q⟩:=E;subst J;obtain rfl:u=Value.ref a:=n;refine D_ d L c i l ?_;refine callWith_K (first:=[.ref a]) (h₀:=X.base) d.ok.mod.kin i.kp (ag (D O U _ G Y _ d q) λus P #[vs,T,j,r,q2]=>#[j.kIn,?_]) M N;exact ag5 (us:=.ref a::us) (vs:=.ref a::vs) F y B .nil p j (.cons rfl r) %[append_nil|q2]
def afu{K':Frag}{f:Str}(c:X.K=K')(a:PE X e ta)(b:zt X e f):PE X (.Attribute e f O) (E6 K' ta f):=by
 subst c;exact ahF a b
def Os(t:TA):TE:=λG H Q=>t G H λI Y=>I.length<=sizeLine/\∀p W,zT Y W->Y p=none->W p\(.lst I)->Q (.ref p) W
def KA(h:PA X Z t):PE X (.List Z O) (Os t):=(FM h.mono).imp λG H Q h=>#[_,h,λI Y z=>#[z.1,λp a=>z.2 p _ (zT.upd a) a cu]]
def UI:R2:=λx y H Q=>∃l b I a,x=.ref l/\y=.ref b/\H l=some (.lst I)/\H b=some (.lst a)/\I.length+a.length<=sizeLine/\∀p W,zT H W->H p=none->W p\(.lst (I++a))->Q (.ref p) W
def ahL:OpR X (binaryOp .Add) UI:=_5.imp λx y H Q d=>by let⟨l,b,I,c,h,g,f,e,z,q⟩:=d;exact#[l,b,I,c,h,g,f,e,z,λp a=>q p _ (zT.upd a) a cu]
section
variable{X:Cx}{k:Nat}{f C B:Addr}{ps:Φ}{sp:Sp}{x m:Str}{p O ah:Pos}{e:Expr}{Z:xw}{t:TA}
def _D(C:Addr)(sp:Sp)(t:TA):TE:=λG H Q=>t G H λvs Y=>∀x a,Y x=none->Y a=none->a≠x->sp (.ref x::vs) (upd (upd Y a (.own x)) x (.ins C a [])) (λv b=>v=.non/\Q (.ref x) b) E0
def aeo(M:Mk X.K C f)(a:zS X bh k f ps sp)(b:dZ (k+1) X.A)(d:Gl X x)(c:X.mg x\(.ref C))(j:PA X (e::Z) t)(r:‹(zz x,2)›)
 (g:‹zw X e Z›)(s:‹zb X O Z›):PE X (.Call (.Name x p) (e::Z) [] O) (_D C sp t):=by
 let⟨fd,F,i⟩:=a;refine(aiM M F b d c i .nil Nx j.mono r g s).imp λG H Q h=>#[_,h,λvs Y q x o n m l=>?_];rw[append_nil];exact q x o n m l
def aga(c:Js X.K B m f)(G:zS X bh k f ps sp)(d:dZ k X.A)(h:Gl X x)(g:X.mg x\(.ref B))(j:PA X (e::Z) t)(n:‹(zz x,2)›)
 (l:‹zw X e Z›)(o:‹zb X O Z›)
 (b:eval (.Call (.Attribute (.Name x p) m ah) (e::Z) [] O) X.env=(do
   let a <- eval (.Name x p) X.env
   standAt ah.atName
   let(f,first) <- holding [a] (getMethod a m pl)
   callWith O f first (backTo O (starEach (e::Z) X.env)) (backToKw O (keywordEach [] X.env))):=by rfl) :
  PE X (.Call (.Attribute (.Name x p) m ah) (e::Z) [] O) (Lp sp t):=by
 let⟨fd,F,i⟩:=G;exact aht (pl:=pl) c F d h g i j n l o b
end
inductive T where
 |any|non|bl (b:Bool)|int (i:Int)|str (s:Str)|val (v:V)
 |tup (ts:List T)|lst (ts:List T)|scr (ts:List T)
 |dct (ks:xI) (ts:List T)|ins (C:Addr) (ks:Φ) (ts:List T)|exc (C:Addr) (ks:Φ) (ts:List T)
abbrev xk:=List T
abbrev vj:=List xk
def ajg(F:Hp):Ξ->xE->Prop
 |none,l=>l=[]
 |some d,l=>F d\(.xd l)
mutual
inductive Rep(K:Frag)(F:Hp):V->T->Prop
 |any (v:V):Rep K F v .any
 |non:Rep K F .non .non
 |bl (b:Bool):Rep K F (.bl b) (.bl b)
 |int (i:Int):Rep K F (.int i) (.int i)
 |str (s:Str):Rep K F (.str s) (.str s)
 |val (v:V):Rep K F v (.val v)
 |tup {a:Addr}{I:Ζ}{ts:xk} : SqT K F a I->bY K F I ts->Rep K F (.ref a) (.tup ts)
 |lst {a:Addr}{I:Ζ}{ts:xk} : F a\(.lst I)->bY K F I ts->Rep K F (.ref a) (.lst ts)
 |scr {a:Addr}{I:Ζ}{ts:xk} : SqL K F a I->bY K F I ts->Rep K F (.ref a) (.scr ts)
 |dct {a:Addr}{ks:xI}{I:Ζ}{ts:xk} : Rd F a (.dK (ks.zip I))->ks.length=I.length->bY K F I ts->Rep K F (.ref a) (.dct ks ts)
 |ins {a C dx:Addr}{ks:Φ}{I:Ζ}{ts:xk} : F a\(.ins C dx (ks.zip I))->F dx\(.own a)->ks.length=I.length->bY K F I ts->Rep K F (.ref a) (.ins C ks ts)
 |exc {a C:Addr}{d:Ξ}{ks:Φ}{I:Ζ}{ts:xk} : F a\(XO a C d)->ajg F d (ks.zip I)->ks.length=I.length->bY K F I ts->Rep K F (.ref a) (.exc C ks ts)
inductive bY(K:Frag)(F:Hp):Ζ->xk->Prop
 |nil:bY K F [] []
 |cons {x:V}{I:Ζ}{t:T}{ts:xk} : Rep K F x t->bY K F I ts->bY K F (x::I) (t::ts)
end
variable{ts:xk}{S:Addr->Prop}
section
variable{K:Frag}{F F' H W:Hp}
def zT.rd{u:HO}(S:zT F F')(h:Rd F a u):Rd F' a u:=h.imp (S _ _) λb=>by let⟨o,e⟩:=b;exact#[o,S _ _ e]
def ajg.same{d:Ξ}{l:xE}(S:zT F F')(h:ajg F d l):ajg F' d l:=by
 cases d with
 |none=>exact h
 |some d=>exact S _ _ h
mutual
theorem Rep.same(S:zT F F'){x:V}{t:T}(h:Rep K F x t):Rep K F' x t:=by
 cases h with
 |any|non|bl|int|str|val=>constructor
 |tup e h=>exact .tup (S.tup e) (bY.same S h)
 |lst e h=>exact .lst (S _ _ e) (bY.same S h)
 |scr e h=>exact .scr (S.seq e) (bY.same S h)
 |dct e l h=>exact .dct (S.rd e) l (bY.same S h)
 |ins e d l h=>exact .ins (S _ _ e) (S _ _ d) l (bY.same S h)
 |exc e d l h=>exact .exc (S _ _ e) (d.same S) l (bY.same S h)
theorem bY.same(S:zT F F'){I:Ζ}{ts:xk}(h:bY K F I ts):bY K F' I ts:=by
 cases h with
 |nil=>exact .nil
 |cons h t=>exact .cons (Rep.same S h) (bY.same S t)
end
def Rep.lstI(h:Rep K F x (.lst ts)):∃a I,x=.ref a/\F a=some (.lst I)/\bY K F I ts:=by cases h;exact#[_,_,rfl,by assumption,by assumption]
def Rep.tupI(h:Rep K F x (.tup ts)):∃a I,x=.ref a/\SqT K F a I/\bY K F I ts:=by cases h;exact#[_,_,rfl,by assumption,by assumption]
def Rep.scrI(h:Rep K F x (.scr ts)):∃a I,x=.ref a/\SqL K F a I/\bY K F I ts:=by cases h;exact#[_,_,rfl,by assumption,by assumption]
def Rep.dctI{b:xI}(h:Rep K F x (.dct b ts)):∃a I,x=.ref a/\Rd F a (.dK (b.zip I))/\b.length=I.length/\bY K F I ts:=by cases h;exact#[_,_,rfl,by assumption,by assumption,by assumption]
def Rep.insI{b:Φ}(h:Rep K F x (.ins C b ts)):∃a c I,x=.ref a/\F a=some (.ins C c (b.zip I))/\F c=some (.own a)/\b.length=I.length/\bY K F I ts:=by cases h;exact#[_,_,_,rfl,by assumption,by assumption,by assumption,by assumption]
theorem bY.len{I:Ζ}{ts:xk}(h:bY K F I ts):I.length=ts.length:=by
 cases h with
 |nil=>rfl
 |cons _ t=>exact ZH (· + 1) (bY.len t)
theorem bY.app{I c:Ζ}{ts us:xk}(h:bY K F I ts)(k:bY K F c us):bY K F (I++c) (ts++us):=by
 cases h with
 |nil=>exact k
 |cons a b=>exact .cons a (bY.app b k)
theorem bY.at_{I:Ζ}{ts:xk}{i:Nat}{t:T}(h:bY K F I ts)(e:ts[i]?\t):∃x,I[i]?\x/\Rep K F x t:=by
 cases h with
 |nil=>cases e
 |cons a b =>
  cases i with
  |zero=>cases e;exact#[_,rfl,a]
  |succ i =>
   let⟨x,q,r⟩:=bY.at_ (i:=i) b ↑e;exact#[x,↑q,r]
theorem bY.of_at:∀{I:Ζ}{ts:xk},I.length=ts.length->(∀(i:Nat)x t,I[i]?\x->ts[i]?\t->Rep K F x t)->bY K F I ts
 |[],[],_,_=>.nil
 |x::I,t::ts,l,h=>.cons (h 0 x t rfl rfl) (bY.of_at (Nat.succ.inj l) λi y u b a=>h (i+1) y u b a)
 |[],_::_,l,_=>by cases l
 |_::_,[],l,_=>by cases l
theorem bY.set{x:V}{t:T}(r:Rep K F x t):∀{I:Ζ}{ts:xk}(i:Nat),bY K F I ts->bY K F (I.set i x) (ts.set i t)
 |_,_,_,.nil=>.nil
 |_,_,0,.cons _ h=>.cons r h
 |_,_,i+1,.cons a h=>.cons a (bY.set r i h)
theorem bY.take:∀{I:Ζ}{ts:xk}(n:Nat),bY K F I ts->bY K F (I.take n) (ts.take n)
 |_,_,0,_=>.nil
 |_,_,_+1,.nil=>.nil
 |_,_,n+1,.cons a h=>.cons a (bY.take n h)
theorem bY.drop:∀{I:Ζ}{ts:xk}(n:Nat),bY K F I ts->bY K F (I.drop n) (ts.drop n)
 |_,_,0,h=>h
 |_,_,_+1,.nil=>.nil
 |_,_,n+1,.cons _ h=>bY.drop n h
def hd(S:Addr->Prop)(H:Hp):Hp:=λb=>open Classical in if S b then none else H b
def rN(h:S b):hd S H b=none:=by unfold hd;rw[ZY h]
def cZ(h:¬S b):hd S H b=H b:=by unfold hd;rw[ZZ h]
def cW{o:HO}(e:hd S H b\o):¬S b/\H b=some o:=by
 by_cases h:S b
 .rw[rN h]at e;cases e
 .rw[cZ h]at e;exact#[h,e]
def jd{a:Addr->Prop}(i:∀b,a b->S b\/H b=none)(e:zT H W):zT (hd S H) (hd a W):=λb o h=>by
 let⟨n,h⟩:=cW h;rw[cZ λz=>?_]
 .exact e _ _ h
 .rcases i b z with y|y
  .exact n y
  .rw[h]at y;cases y
def cI : zT (hd S H) H:=λ_ _ h=>(cW h).2
def bU(e:zT H W):zT (hd S H) (hd S W):=jd (λ_=>.inl) e
def TQ:hd (λ_=>False) H=H:=funext λ_=>cZ id
inductive OT where
 |und|fz (t:T)|l1 (ts:xk)|l2 (ax:vj)|d1 (ks:xI) (ts:xk)|ob (a dx C:Addr) (ks:Φ) (ts:xk)|la (a:Addr) (ts:xk)|pr (ts us:xk)
abbrev xo:=List OT
def frz:OT->T
 |.und=>.any
 |.fz t=>t
 |.l1 ts=>.lst ts
 |.l2 b=>.lst (b.map T.lst)
 |.d1 a ts=>.dct a ts
 |.ob _ _ C a ts=>.ins C a ts
 |.la _ ts=>.lst ts
 |.pr ts us=>.tup [.lst ts,.lst us]
def Slo(K:Frag)(F H:Hp)(v:wv)(A:Ψ):OT->Prop
 |.und=>A=[]
 |.fz t=>A=[]/\∃u,v\u/\Rep K F u t
 |.l1 ts=>∃a I,v\(.ref a)/\A=[a]/\H a=some (.lst I)/\bY K F I ts
 |.l2 f=>∃a bs,v\(.ref a)/\A=a::bs/\(a::bs).Nodup/\H a=some (.lst (bs.map V.ref))/\bs.length=f.length/\∀(i:Nat)b ts,bs[i]?\b->f[i]?\ts->∃I,H b\(.lst I)/\bY K F I ts
 |.d1 c ts=>∃a I,v\(.ref a)/\A=[a]/\H a=some (.dK (c.zip I))/\c.length=I.length/\bY K F I ts
 |.ob a d C c ts=>∃I,v\(.ref a)/\A=[a,d]/\H a=some (.ins C d (c.zip I))/\H d=some (.own a)/\c.length=I.length/\bY K F I ts
 |.la a ts=>∃I,v\(.ref a)/\A=[a]/\H a=some (.lst I)/\bY K F I ts
 |.pr ts us=>∃p a b I e,v\(.ref p)/\A=[a,b]/\a≠b/\F p=some (.tup [.ref a,.ref b])/\H a=some (.lst I)/\H b=some (.lst e)/\bY K F I ts/\bY K F e us
def Slo.same{v:wv}{A:Ψ}(S:zT F F')(E:zT H W){x:OT}(h:Slo K F H v A x):Slo K F' W v A x:=by
 cases x with
 |und=>exact h
 |fz t=>let⟨a,u,e,r⟩:=h;exact#[a,u,e,r.same S]
 |l1 ts=>let⟨a,I,e,z,h,r⟩:=h;exact#[a,I,e,z,E _ _ h,r.same S]
 |l2 o=>let⟨a,bs,e,z,n,h,l,r⟩:=h;exact#[a,bs,e,z,n,E _ _ h,l,λi b ts j g=>let⟨I,q,r⟩:=r i b ts j g;#[I,E _ _ q,r.same S]]
 |d1 f ts=>let⟨a,I,e,z,h,l,r⟩:=h;exact#[a,I,e,z,E _ _ h,l,r.same S]
 |ob a m C f ts=>let⟨I,e,z,h,d,l,r⟩:=h;exact#[I,e,z,E _ _ h,E _ _ d,l,r.same S]
 |la a ts=>let⟨I,e,z,h,r⟩:=h;exact#[I,e,z,E _ _ h,r.same S]
 |pr ts us=>let⟨p,a,b,I,c,e,z,n,t,h,k,r,q⟩:=h;exact#[p,a,b,I,c,e,z,n,S _ _ t,E _ _ h,E _ _ k,r.same S,q.same S]
def Slo.off{v:wv}{A:Ψ}{x:OT}(s:Slo K F H v A x)(off:∀b∈A,∀u,H b\u->W b\u):Slo K F W v A x:=by
 cases x with
 |und=>exact s
 |fz t=>exact s
 |l1 ts=>let⟨a,I,e,z,w,r⟩:=s;exact#[a,I,e,z,off a (by rw[z];simp) _ w,r]
 |l2 y=>let⟨a,bs,e,z,g,w,l,r⟩:=s;exact#[a,bs,e,z,g,off a (by rw[z];simp) _ w,l,λi b ts c m=>let⟨I,q,r⟩:=r i b ts c m;#[I,off b %[z|aJ _ (aC c)] _ q,r]]
 |d1 j ts=>let⟨a,I,e,z,w,r⟩:=s;exact#[a,I,e,z,off a (by rw[z];simp) _ w,r]
 |ob a o C j ts=>let⟨I,e,z,w,d,r⟩:=s;exact#[I,e,z,off a (by rw[z];simp) _ w,off o (by rw[z];simp) _ d,r]
 |la a ts=>let⟨I,e,z,w,r⟩:=s;exact#[I,e,z,off a (by rw[z];simp) _ w,r]
 |pr ts us=>let⟨p,a,b,I,f,e,z,n,t,h,k,r⟩:=s;exact#[p,a,b,I,f,e,z,n,t,off a (by rw[z];simp) _ h,off b (by rw[z];simp) _ k,r]
def afx(H:Hp)(a:Addr):Prop:=∃o,H a\o/\((∃I,o=.lst I)\/(∃k,o=.dK k)\/(∃C d f,o=.ins C d f)\/∃x,o=.own x)
def Slo.sole{v:wv}{A:Ψ}{x:OT}(h:Slo K F H v A x)(f:a∈A):afx H a:=by
 cases x with
 |und=>rw[show A=[]from h]at f;cases f
 |fz t=>rw[h.1]at f;cases f
 |l1 ts=>let⟨b,I,_,rfl,e,_⟩:=h;cases YR.mp f;exact#[_,e,.inl #[_,rfl]]
 |l2 m =>
  let⟨b,bs,_,rfl,_,e,l,r⟩:=h;rcases YU.mp f with z|z
  .exact#[_,z ▸ e,.inl #[_,rfl]]
  .let⟨i,g⟩:=aV z;have j:i<m.length:=l ▸ (ao.mp g).1;let⟨I,q,_⟩:=r i a _ g (aj j);exact#[_,q,.inl #[_,rfl]]
 |d1 k ts=>let⟨b,I,_,rfl,e,_⟩:=h;cases YR.mp f;exact#[_,e,.inr (.inl #[_,rfl])]
 |ob b o C k ts =>
  let⟨I,_,rfl,e,d,_⟩:=h;rcases YU.mp f with z|z
  .exact#[_,z ▸ e,.inr (.inr (.inl #[_,_,_,rfl]))]
  .cases YR.mp z;exact#[_,d,.inr (.inr (.inr #[_,rfl]))]
 |la b ts=>let⟨I,_,rfl,e,_⟩:=h;cases YR.mp f;exact#[_,e,.inl #[_,rfl]]
 |pr ts us =>
  let⟨p,b,c,I,n,_,rfl,_,_,e,d,_⟩:=h;rcases YU.mp f with z|z
  .exact#[_,z ▸ e,.inl #[_,rfl]]
  .cases YR.mp z;exact#[_,d,.inl #[_,rfl]]
def Slo.frz{u:V}{A:Ψ}{x:OT}(h:Slo K F H (some u) A x)(S:zT F F')(E:∀a∈A,F' a=H a):Rep K F' u (frz x):=by
 cases x with
 |und=>exact .any _
 |fz t=>let⟨_,w,e,r⟩:=h;cases e;exact r.same S
 |l1 ts=>let⟨b,I,e,rfl,q,r⟩:=h;cases e;exact .lst ((E _ vc).trans q) (r.same S)
 |l2 v =>
  let⟨b,bs,e,rfl,_,q,l,r⟩:=h;cases e;refine .lst ((E _ vc).trans q) (bY.of_at (by simp[l]) λi x t g f=>?_);rw[aq]at g f;cases j:bs[i]? with
  |none=>rw[j]at g;cases g
  |some c =>
   cases k:v[i]? with
   |none=>rw[k]at f;cases f
   |some ts =>
    rw[j]at g;rw[k]at f;cases g;cases f;let⟨I,q,r⟩:=r i c ts j k;exact .lst ((E _ (aJ _ (aC j))).trans q) (r.same S)
 |d1 s ts=>let⟨b,I,e,rfl,q,l,r⟩:=h;cases e;exact .dct (.inl ((E _ vc).trans q)) l (r.same S)
 |ob b z C s ts=>let⟨I,e,rfl,q,d,l,r⟩:=h;cases e;exact .ins ((E _ vc).trans q) ((E _ vc).trans d) l (r.same S)
 |la b ts=>let⟨I,e,rfl,q,r⟩:=h;cases e;exact .lst ((E _ vc).trans q) (r.same S)
 |pr ts us =>
  let⟨p,b,c,I,y,e,rfl,_,t,o,q2,n,m⟩:=h;cases e;exact .tup (.inl (.of (S _ _ t))) (.cons (.lst ((E _ vc).trans o) (n.same S)) (.cons (.lst ((E _ vc).trans q2) (m.same S)) .nil))
def Ow(a:Nat->Ψ)(b:Addr):Prop:=∃i,b∈a i
structure SR(K:Frag)(own:Nat->Ψ)(H:Hp)(G:L2.St)(o:xo):Prop where
 len:o.length=G.length
 sl:∀i x,o[i]?\x->Slo K (hd (Ow own) H) H (G[i]?.join) (own i) x
 out:∀i,o.length<=i->∀a∈own i,∃I,H a\(.lst I)
 dis:∀i j a,a∈own i->a∈own j->i=j
variable{own:Nat->Ψ}{G:L2.St}{o:xo}
def SR.same(h:SR K own H G o)(E:zT H W):SR K own W G o:=#[h.len,λi x e=>(h.sl i x e).same (bU E) E,λi b a c=>let⟨I,e⟩:=h.out i b a c;#[I,E _ _ e],h.dis]
def SR.sole(h:SR K own H G o){b:Addr}(z:Ow own b):afx H b:=by
 let⟨i,z⟩:=z;by_cases a:i<o.length
 .exact(h.sl i _ (aj a)).sole z
 .let⟨I,e⟩:=h.out i (Nat.not_lt.mp a) b z;exact#[_,e,.inl #[_,rfl]]
def afx.ne(h:afx H a):H a≠none:=by
 let⟨o,e,_⟩:=h;rw[e];exact λz=>by cases z
def NR(K:Frag)(S:Addr->Prop)(H W:Hp)(v:V)(x:OT):Prop:=∃B,(∀a∈B,H a=none)/\Slo K (hd (λb=>S b\/b∈B) W) W (some v) B x
def NR.rep{x:OT}(h:NR K S H W v x)(c:∀b,S b->H b≠none):Rep K (hd S W) v (L2.frz x):=by
 let⟨B,n,r⟩:=h;exact r.frz (jd (λb z=>.inl (.inl z)) (λ_ _ z=>z)) λa d=>cZ λz=>c a z (n a d)
def NR.fz{S:Addr->Prop}{v:V}{t:T}(h:Rep K (hd S W) v t):NR K S H W v (.fz t):=#[[],λ_ z=>(nomatch z),rfl,v,rfl,h.same (jd (λb z=>.inl (z.elim id λy=>(nomatch y))) λ_ _ z=>z)]
def NR.l1{S:Addr->Prop}{a:Addr}{I:Ζ}{ts:xk}(n:H a=none)(e:W a\(.lst I))(h:bY K (hd (λb=>S b\/b=a) W) I ts):NR K S H W (.ref a) (.l1 ts) :=
 #[[a],λ_ z=>(YR.mp z) ▸ n,a,I,rfl,rfl,e,h.same (jd (λb z=>.inl (z.imp id YR.mp)) λ_ _ z=>z)]
def NR.back{b:Hp}{x:OT}(h:NR K S H W v x)(E:zT b H):NR K S b W v x:=by
 let⟨B,n,r⟩:=h;exact#[B,λa c=>E.free (n a c),r]
def own1(own:Nat->Ψ)(i:Nat)(B:Ψ):Nat->Ψ:=λj=>if j=i then B else own j
def kj{B:Ψ} : own1 own i B i=B:=ZY rfl
def gF{j:Nat}{B:Ψ}(h:j≠i):own1 own i B j=own j:=ZZ h
def Ow.of1{B:Ψ}(h:Ow (own1 own i B) b):Ow own b\/b∈B:=by
 let⟨j,h⟩:=h;by_cases z:j=i
 .rw[z,kj]at h;exact .inr h
 .rw[gF z]at h;exact .inl #[j,h]
def SR.put(h:SR K own H G o)(E:zT H W){x:OT}(n:NR K (Ow own) H W v x)(l:i<o.length):∃m,SR K m W (G.set i (some v)) (o.set i x)/\zT (hd (Ow own) H) (hd (Ow m) W):=by
 let⟨B,f,r⟩:=n;have le:zT (hd (Ow own) H) (hd (Ow (own1 own i B)) W):=jd (λb z=>z.of1.imp id (f b)) E;refine#[own1 own i B,#[%[WH,WH,h.len|_],λj y e=>?_,λj g=>?_,λj k a d c=>?_],le]
 .by_cases z:j=i
  .subst z;rw[Up l]at e;cases e;rw[kj,Up (h.len ▸ l)];exact r.same (jd (λb z=>.inl z.of1) λ_ _ z=>z) λ_ _ z=>z
  .rw[VV (Ne.symm z)]at e;rw[gF z,VV (Ne.symm z)];exact(h.sl j y e).same le E
 .rw[WH]at g;rw[gF vy];intro a p;let⟨I,e⟩:=h.out j g a p;exact#[I,E _ _ e]
 .by_cases z:j=i<;>by_cases y:k=i
  .rw[z,y]
  .rw[z,kj]at d;rw[gF y]at c;exact absurd (f a d) (h.sole #[k,c]).ne
  .rw[y,kj]at c;rw[gF z]at d;exact absurd (f a c) (h.sole #[j,d]).ne
  .rw[gF z]at d;rw[gF y]at c;exact h.dis j k a d c
def SR.frz(h:SR K own H G o){i:Nat}{x:OT}(e:o[i]?\x){u:V}(g:G[i]?\(some u)):∃n,SR K n H G (o.set i (.fz (L2.frz x)))/\zT (hd (Ow own) H) (hd (Ow n) H):=by
 have p:i<o.length:=(ao.mp e).1;have le:zT (hd (Ow own) H) (hd (Ow (own1 own i [])) H):=jd (λb z=>.inl (z.of1.elim id λy=>(nomatch y))) λ_ _ z=>z;have l:=h.sl i x e;rw[g]at l;refine#[own1 own i [],#[%[WH,h.len|_],λj y f=>?_,λj m=>?_,λj k a d c=>?_],le]
 .by_cases z:j=i
  .subst z;rw[Up p]at f;cases f;rw[kj,g];exact#[rfl,u,rfl,Slo.frz l le λa q=>cZ λz=>by
    let⟨k,z⟩:=z;by_cases y:k=j
    .rw[y,kj]at z;cases z
    .rw[gF y]at z;exact y (h.dis k j a z q)]
  .rw[VV (Ne.symm z)]at f;rw[gF z];exact(h.sl j y f).same le λ_ _ z=>z
 .rw[WH]at m;rw[gF vy];exact h.out j m
 .by_cases z:j=i
  .rw[z,kj]at d;cases d
  by_cases y:k=i
  .rw[y,kj]at c;cases c
  .rw[gF z]at d;rw[gF y]at c;exact h.dis j k a d c
def SR.chg(h:SR K own H G o){x:OT}(e:o[i]?\x){y:OT}(E:∀b u,b∉own i->H b\u->W b\u)(r:Slo K (hd (Ow own) W) W (G[i]?.join) (own i) y):SR K own W G (o.set i y)/\zT (hd (Ow own) H) (hd (Ow own) W):=by
 have g:i<o.length:=(ao.mp e).1;have le:zT (hd (Ow own) H) (hd (Ow own) W):=λb u z=>by
  let⟨n,z⟩:=cW z;rw[cZ n];exact E b u (λq=>n #[i,q]) z
 refine#[#[%[WH,h.len|_],λj z c=>?_,λj d a f=>?_,h.dis],le]
 rotate_left
 .rw[WH]at d;let⟨I,l⟩:=h.out j d a f;exact#[I,E a _ (λz=>by have:=h.dis j i a f z;lia) l]
 by_cases q:j=i
 .subst q;rw[Up g]at c;cases c;exact r
 .rw[VV (Ne.symm q)]at c;exact((h.sl j z c).same le λ_ _ z=>z).off λb k u=>E b u λz=>q (h.dis j i b k z)
def SR.get(h:SR K own H G o){i:Nat}{t:T}(e:o[i]?\(.fz t)):∃u,G[i]?\(some u)/\Rep K (hd (Ow own) H) u t:=by
 let⟨_,u,q,r⟩:=h.sl i _ e;refine#[u,?_,r];cases z:G[i]? with
 |none=>rw[z]at q;cases q
 |some w=>rw[z]at q;exact ZH some q
end
end L2
namespace L2
local macro_rules|`(#[$x,*])=>`(⟨$x,*⟩)
open PySem PySem.Spec PyProof.Rows
abbrev RE:=xo->(OT->Prop)->Prop
abbrev RT:=xo->(Bool->Prop)->Prop
abbrev RA:=xo->(xk->Prop)->Prop
def tQ(K:Frag)(r:RE):TE:=λG H Q=>∃a o R,SR K a H G o/\r o R/\∀W v x,R x->zT H W->NR K (Ow a) H W v x->Q v W
def tQT(K:Frag)(r:RT):TT:=λG H Q=>∃a o R,SR K a H G o/\r o R/\∀W b,R b->zT H W->Q b W
def tQA(K:Frag)(n:Nat)(r:RA):TA:=λG H Q=>∃a o R,SR K a H G o/\r o R/\∀W c b,R b->b.length=n->zT H W->bY K (hd (Ow a) W) c b->Q c W
def QE(X:Cx)(e:Expr)(r:RE):Prop:=PE X e (tQ X.K r)
def QT(X:Cx)(e:Expr)(r:RT):Prop:=PT X e (tQT X.K r)
def QW(X:Cx)(e:Expr)(r:RT):Prop:=PW X e (tQT X.K r)
def QA(X:Cx)(Z:xw)(r:RA):Prop:=PA X Z (tQA X.K Z.length r)
variable{X:Cx}{e:Expr}{Z:xw}{K:Frag}{own:Nat->Ψ}{H:Hp}{G:L2.St}{o:xo}{R:OT->Prop}{Q:VK}{b:Bool}{x:Str}{O:Pos}{t:T}{v:V}
def PT.imp{t a:TT}(h:PT X e t)(i:∀G H Q,a G H Q->t G H Q):PT X e a:=λU s G H Q I q=>h U s G H Q I (i G H Q q)
def PW.imp{t a:TT}(h:PW X e t)(i:∀G H Q,a G H Q->t G H Q):PW X e a:=λb U s G H Q I q=>h b U s G H Q I (i G H Q q)
def PA.imp{t a:TA}(h:PA X Z t)(i:∀G H Q,a G H Q->t G H Q):PA X Z a:=λp U s G H Q I q=>h p U s G H Q I (i G H Q q)
def tQ.mk{r:RE}(h:SR K own H G o)(c:r o R)(k:∀W v x,R x->zT H W->Rep K (hd (Ow own) W) v (frz x)->Q v W):tQ K r G H Q :=
 #[own,o,R,h,c,λW v x a E n=>k W v x a E (n.rep λb z=>(h.sole z).ne)]
def slot:xo->Nat->OT
 |[],_=>.und
 |x::_,0=>x
 |_::l,n+1=>slot l n
theorem gQ:∀{o:xo}{i:Nat}{x:OT},slot o i=x->x≠.und->o[i]?\x
 |[],_,_,e,n=>absurd e.symm n
 |_::_,0,_,e,_=>ZH some e
 |_::l,i+1,x,e,n=>↑(gQ (o:=l) (i:=i) e n)
def gw(i:Nat):RE:=λo q=>match slot o i with|.fz t=>q (.fz t)|_=>False
def rC(t:T):RE:=λ_ q=>q (.fz t)
abbrev zi:Type:=T->T->(OT->Prop)->Prop
def fL(g:zi)(a b:RE):RE:=λo q=>a o λx=>b o λy=>g (frz x) (frz y) q
def LW(g:T->(OT->Prop)->Prop)(a:RE):RE:=λo q=>a o λx=>g (frz x) q
def sw(b:Bool)(p q:Prop):Prop:=match b with|true=>p|false=>q
def er{p q:Prop}(c:b->p)(a:b=false->q):sw b p q:=by
 cases b
 .exact a rfl
 .exact c rfl
def eT{c:Prop}[Decidable c]{p q:Prop}(b:c->p)(a:¬c->q):sw (decide c) p q:=er (λe=>b (of_decide_eq_true e)) λe=>a (of_decide_eq_false e)
def dI{p q:Prop}(e:b)(h:p):sw b p q:=by subst e;exact h
def cR{p q:Prop}(e:b=false)(h:q):sw b p q:=by subst e;exact h
def qv(i:Nat)(d:‹(n_X X i x,0)›):QE X (.Name x O) (gw i):=(pv i d).imp λG H Q c=>by
 let⟨own,o,R,h,a,k⟩:=c;unfold gw at a;cases e:slot o i with
 |fz t =>
  rw[e]at a;let⟨u,q,r⟩:=h.get (gQ e (by intro z;cases z));exact#[u,q,k H u _ a (.refl _) (NR.fz r)]
 |_=>rw[e]at a;exact a.elim
def vt(b:‹(n_X X 0 x,0)›):QE X (.Name x O) (gw 0):=qv 0 b
def vn(b:‹(n_X X 1 x,0)›):QE X (.Name x O) (gw 1):=qv 1 b
def ve(b:‹(n_X X 2 x,0)›):QE X (.Name x O) (gw 2):=qv 2 b
def vi(b:‹(n_X X 3 x,0)›):QE X (.Name x O) (gw 3):=qv 3 b
def vF(b:‹(n_X X 4 x,0)›):QE X (.Name x O) (gw 4):=qv 4 b
def vS(b:‹(n_X X 5 x,0)›):QE X (.Name x O) (gw 5):=qv 5 b
def qC(h:PE X e (tC v))(r:∀F,Rep X.K F v t):QE X e (rC t):=h.imp λG H Q b=>by let⟨own,o,R,_,a,k⟩:=b;exact k H v _ a (.refl _) (NR.fz (r _))
def bF{i j O} : QE X (.Constant (.int i) j O) (rC (.int i)):=qC uG λ_=>.int _
def fH{b j O} : QE X (.Constant (.bool b) j O) (rC (.bl b)):=qC E3 λ_=>.bl _
def fW{j O} : QE X (.Constant .none j O) (rC .non):=qC Zu λ_=>.non
def vm{x j O} : QE X (.Constant (.str x) j O) (rC (.str x)):=qC F_ λ_=>.str _
def Yo(hm:∃u,X.mg x\u/\zZ v u)(r:∀F,Rep X.K F v t)(hg:‹Gl X x›)(hd:‹(zz x,2)›):QE X (.Name x O) (rC t):=qC (afR hg hm hd) r
variable{b a c:Expr}{ra rb re:RE}{g:zi}{op:CmpOp}{S:Addr->Prop}{W:Hp}{I:Ζ}{ts:xk}{f:Addr}{P:Program}{w:World}{mg:Str->Ω}{base:Heap}{k n:Nat}{fd:FuncData}{ps:Φ}{r:RA}{p p2:Pos}{α:Type}{lo hi:Option Expr}
def GO(X:Cx)(f:Value->Value->Sem Value)(g:zi):Prop:=OpR X f λx y H Q=>∃S t u R,(∀b,S b->H b≠none)/\Rep X.K (hd S H) x t/\Rep X.K (hd S H) y u/\g t u R/\∀W v z,R z->zT H W->NR X.K S H W v z->Q v W
theorem q2{g:zi}{G:L2.St}{H:Hp}{Q:VK}(h:tQ X.K (fL g ra rb) G H Q):jj (λx y H Q=>∃S t u R,(∀b,S b->H b≠none)/\Rep X.K (hd S H) x t/\Rep X.K (hd S H) y u/\g t u R/\∀W v z,R z->zT H W->NR X.K S H W v z->Q v W) (tQ X.K ra) (tQ X.K rb) G H Q:=by
 let⟨own,o,R,h,i,k⟩:=h;exact tQ.mk h i λY v x q c f=>tQ.mk (h.same c) q λl w y q2 a e=>#[Ow own,_,_,R,λb z=>((h.same (c.trans a)).sole z).ne,f.same (bU a),e,q2,λW u z d j n=>k W u z d (c.trans (a.trans j)) (n.back (c.trans a))]
def bM{op:Operator}(c:GO X (binaryOp op) g)(e:QE X a ra)(d:QE X b rb):QE X (.BinOp a op b O) (fL g ra rb):=(p0 c e d).imp λ_ _ _=>q2
def kh(c:GO X (compareOp op) g)(e:QE X a ra)(d:QE X b rb)(hm:behindInMarks op b=false:=by exact MJ _):QE X (.Compare a [op] [b] O) (fL g ra rb):=(ai9 c e d hm).imp λ_ _ _=>q2
def gI(g:Int->Int->OT):zi
 |.int i,.int j,q=>q (g i j)
 |_,_,_=>False
def GO.ints{f:Value->Value->Sem Value}{g:Int->Int->V}{t:Int->Int->T}(h:OpR X f (gl g))(r:∀i j F,Rep X.K F (g i j) (t i j)):GO X f (gI λi j=>.fz (t i j)):=h.imp λx y H Q d=>by
 let⟨S,t,u,R,_,c,b,a,k⟩:=d;cases c<;>try exact a.elim
 cases b<;>try exact a.elim
 exact#[_,_,rfl,rfl,k H _ _ a (.refl _) (NR.fz (r _ _ _))]
def Vk:GO X (binaryOp .Sub) (gI λi j=>.fz (.int (i-j))):=.ints WO λ_ _ _=>.int _
def CQ:GO X (compareOp .Lt) (gI λi j=>.fz (.bl (decide (i<j)))):=.ints Fs λ_ _ _=>.bl _
def Q_:GO X (compareOp .LtE) (gI λi j=>.fz (.bl (decide (i<=j)))):=.ints SL λ_ _ _=>.bl _
def Fj:GO X (compareOp .Gt) (gI λi j=>.fz (.bl (decide (j<i)))):=.ints T7 λ_ _ _=>.bl _
def p_:GO X (compareOp .GtE) (gI λi j=>.fz (.bl (decide (j<=i)))):=.ints SC λ_ _ _=>.bl _
def N2:zi
 |.int i,.int j,q=>q (.fz (.int (i+j)))
 |.str a,.str b,q=>a.length+b.length<=sizeLine/\q (.fz (.str (a++b)))
 |.lst a,.lst b,q=>a.length+b.length<=sizeLine/\q (.l1 (a++b))
 |_,_,_=>False
def Aa{p:Addr}(r:bY X.K (hd S H) I ts)(E:zT H W)(n:H p=none)(e:W p\(.lst I)):NR X.K S H W (.ref p) (.l1 ts) :=
 NR.l1 n e (r.same (jd (λb z=>z.imp id λ(y:b=p)=>y ▸ n) E))
def dB:GO X (binaryOp .Add) N2:=λU s G H x y v u Q c g f o=>by
 let⟨S,t,w,R,_,i,h,d,k⟩:=o;cases t<;>try exact d.elim
 .cases i;cases w<;>try exact d.elim
  cases h;exact ZN U s G H _ _ v u Q c g f #[_,_,rfl,rfl,k H _ _ d (.refl _) (NR.fz (.int _))]
 .cases i;cases w<;>try exact d.elim
  cases h;exact ahe U s G H _ _ v u Q c g f #[_,_,rfl,rfl,d.1,k H _ _ d.2 (.refl _) (NR.fz (.str _))]
 .cases w<;>try exact d.elim
  let⟨a,I,rfl,r,l⟩:=i.lstI;let⟨b,m,rfl,q,j⟩:=h.lstI;exact ahL U s G H _ _ v u Q c g f #[a,b,I,m,rfl,rfl,(cW r).2,(cW q).2,%[l.len,j.len|d.1],λp W E n e=>k W _ _ d.2 E (Aa (l.app j) E n e)]
def MQ:zi
 |.int i,.int j,q=>(Bd i/\Bd j)/\q (.fz (.int (i*j)))
 |.lst a,.int j,q=>(-(2^63)<=j/\j<2^63/\a.length*j.toNat<=sizeLine)/\∀z,z=(replicate j.toNat a).flatten->q (.l1 z)
 |.str a,.int j,q=>(∃c,a=#[↥[c]]/\1<=j/\j<=1000/\∀z:Str,z.cps.toList=replicate j.toNat c->q (.fz (.str z)))
 |_,_,_=>False
def NI:zi
 |.int i,.int j,q=>(j≠0/\Bd j)/\q (.fz (.int (i.fdiv j)))
 |_,_,_=>False
def MY:zi
 |.int i,.int j,q=>0<j/\q (.fz (.int (i%j)))
 |_,_,_=>False
def Pl:zi
 |.int i,.int j,q=>DC i j/\q (.fz (.int (i^j.toNat)))
 |_,_,_=>False
def mq:GO X (binaryOp .FloorDiv) NI:=afJ.imp λx y H Q d=>by
 let⟨S,t,u,R,_,c,b,a,k⟩:=d;cases c<;>try exact a.elim
 cases b<;>try exact a.elim
 exact#[_,_,rfl,rfl,a.1,k H _ _ a.2 (.refl _) (NR.fz (.int _))]
def cM:GO X (binaryOp .Mod) MY:=_B.imp λx y H Q d=>by
 let⟨S,t,u,R,_,c,b,a,k⟩:=d;cases c<;>try exact a.elim
 cases b<;>try exact a.elim
 exact#[_,_,rfl,rfl,a.1,k H _ _ a.2 (.refl _) (NR.fz (.int _))]
def VH:GO X (binaryOp .Pow) Pl:=ZO.imp λx y H Q d=>by
 let⟨S,t,u,R,_,c,b,a,k⟩:=d;cases c<;>try exact a.elim
 cases b<;>try exact a.elim
 exact#[_,_,rfl,rfl,a.1,k H _ _ a.2 (.refl _) (NR.fz (.int _))]
def OR:T->(OT->Prop)->Prop
 |.int i,q=>q (.fz (.int (-i)))
 |_,_=>False
def Vz(d:QE X a ra):QE X (.UnaryOp .USub a O) (LW OR ra):=(RM _q d).imp λG H Q #[own,o,R,h,c,k]=>tQ.mk h c λY v x q e b=>by
 revert b q
 generalize frz x=t;intro q b;cases b<;>try exact q.elim
 exact#[_,rfl,k _ _ _ q e (NR.fz (.int _))]
def mh:T->wr
 |.non=>some true
 |.any=>none
 |.val v=>some (decide (v=.non))
 |_=>some false
def kR(a:Bool):zi:=λt u q=>match u,mh t with
 |.non,some b=>q (.fz (.bl (xor a b)))
 |_,_=>False
def XQ{F:Hp}{x:V}{b:Bool}(h:Rep K F x t)(e:mh t\b):decide (x=.non)=b:=by
 cases h<;>cases e<;>first|rfl|(apply Zp;intro z;cases z)
def yc:GO X (compareOp .Is) (kR false):=HU.imp λx y H Q f=>by
 let⟨S,t,u,R,_,d,c,a,k⟩:=f;cases c<;>try exact a.elim
 unfold kR at a;cases e:mh t with
 |none=>rw[e]at a;exact a.elim
 |some b=>rw[e]at a;exact#[rfl,k H _ _ a (.refl _) (NR.fz %[XQ d e,Bool.false_xor|.bl _])]
def Fx:GO X (compareOp .IsNot) (kR true):=ahO.imp λx y H Q f=>by
 let⟨S,t,u,R,_,d,c,a,k⟩:=f;cases c<;>try exact a.elim
 unfold kR at a;cases e:mh t with
 |none=>rw[e]at a;exact a.elim
 |some b=>rw[e]at a;exact#[rfl,k H _ _ a (.refl _) (NR.fz %[XQ d e,Bool.true_xor|.bl _])]
structure nR(H:Hp)(S:Addr->Prop):Prop where
 sole:∀b,S b->afx H b
 ins:∀a C dx fs,S a->H a\(.ins C dx fs)->S dx
 own:∀b x,S b->H b\(.own x)->S x
def SR.mate(h:SR K own H G o){j:Nat}{b:Addr}(a:b∈own j):(∀C d f,H b\(.ins C d f)->d∈own j)/\∀x,H b\(.own x)->x∈own j:=by
 have g:∀{I:Ζ},H b\(.lst I)->(∀C d f,H b\(.ins C d f)->d∈own j)/\∀x,H b\(.own x)->x∈own j:=λq=>#[(λ_ _ _ e=>by rw[q]at e;cases e),(λ_ e=>by rw[q]at e;cases e)];by_cases m:j<o.length
 .have s:=h.sl j _ (aj m);cases y:o[j]with
  |und=>rw[y]at s;rw[show own j=[]from s]at a;cases a
  |fz t=>rw[y]at s;rw[s.1]at a;cases a
  |l1 ts=>rw[y]at s;let⟨c,I,_,w,q,_⟩:=s;rw[w]at a;cases YR.mp a;exact g q
  |l2 D =>
   rw[y]at s;let⟨c,B,_,n,_,k,l,r⟩:=s;rw[n]at a;rcases YU.mp a with z|z
   .exact g (z ▸ k)
   .let⟨i,hi⟩:=aV z;let⟨I,q2,_⟩:=r i b _ hi (aj (l ▸ (ao.mp hi).1));exact g q2
  |d1 u ts=>rw[y]at s;let⟨c,I,_,w,q,_⟩:=s;rw[w]at a;cases YR.mp a;exact#[(λ_ _ _ e=>by rw[q]at e;cases e),(λ_ e=>by rw[q]at e;cases e)]
  |la c ts=>rw[y]at s;let⟨I,_,w,q,_⟩:=s;rw[w]at a;cases YR.mp a;exact g q
  |pr ts A =>
   rw[y]at s;let⟨p,c,e,I,v,_,w,_,_,k,q2,_⟩:=s;rw[w]at a;rcases YU.mp a with z|z
   .exact g (z ▸ k)
   .cases YR.mp z;exact g q2
  |ob c d E u ts =>
   rw[y]at s;let⟨I,_,w,q,q2,_⟩:=s;rw[w]at a ⊢;rcases YU.mp a with z|z
   .refine#[λ_ _ _ e=>?_,λ_ e=>?_]
    .rw[z,q]at e;cases e;simp
    .rw[z,q]at e;cases e
   .cases YR.mp z;refine#[λ_ _ _ e=>?_,λ_ e=>?_]
    .rw[q2]at e;cases e
    .rw[q2]at e;cases e;simp
 .let⟨I,q⟩:=h.out j (Nat.not_lt.mp m) b a;exact g q
def SR.hid(h:SR K own H G o):nR H (Ow own) :=
 #[λb z=>h.sole z,λa C d c #[j,z] e=>#[j,(h.mate z).1 C d c e],λb x #[j,z] e=>#[j,(h.mate z).2 x e]]
def dv(S:Addr->Prop)(H G:Hp):Hp:=λb=>open Classical in if S b then H b else G b
def xJ{G:Hp}{b:Addr}(h:S b):dv S H G b=H b:=by unfold dv;rw[ZY h]
def jW{G:Hp}{b:Addr}(h:¬S b):dv S H G b=G b:=by unfold dv;rw[ZZ h]
def hF(c:Sp):Sp:=λa H Q _=>∃S:Addr->Prop,nR H S/\c a (hd S H) (λv G=>(∀b,S b->G b=none)->Q v (dv S H G)) λ_ _ _=>False
def fK.hid{sp:Sp}(F:fK P w K mg base bh k f fd ps sp):fK P w K mg base bh k f fd ps (hF sp):=by
 refine#[λD H Q E h=>?_,λA j s H O us D Q E hr i hb r h=>?_]
 .let⟨S,_,z⟩:=h;exact F.len D _ _ _ z
 let⟨S,t,z⟩:=h;have l:∀{b:Addr},H b=none->hd S H b=none:=λ{b}e=>by
  by_cases z:S b
  .exact rN z
  .rw[cZ z];exact e
 have R:∀{b:Addr}{u:HO},S b->H b\u->(∀I,u≠.tup I)/\(∀o v,u≠.frz o v)/\∀ps,u≠.tbl ps:=λ{b u}z e=>by
  let⟨o,q,w⟩:=t.sole b z;rw[e]at q;cases q;rcases w with⟨_,rfl⟩|⟨_,rfl⟩|⟨_,_,_,rfl⟩|⟨_,rfl⟩<;>exact#[λ_ z=>(nomatch z),λ_ _ z=>(nomatch z),λ_ z=>(nomatch z)]
 have e1:Yy P w K mg base A j s (hd S H):=#[i.frames,i.mod,λb o e=>#[(i.bs b o e).1,l (i.bs b o e).2],i.bsz,i.funs,λb hb=>l (i.frf b hb),λb u e=>by
  let⟨nb,T⟩:=cW e;refine(i.hok b u T).stay (λ_ _ _ z=>z) (λd z=>?_) λd I z=>?_
  .rw[cZ λy=>nb (t.own d b y z)];exact z
  .rw[cZ λy=>(R y z).1 I rfl];exact z,i.bare]
 refine codeAny_mono (F.run A j s (hd S H) O us D _ _ hr e1 hb r z) λU s' L=>?_;cases U with
 |error e=>exact L.elim
 |ok fl =>
  cases fl with
  |next=>exact False.elim L
  |brk=>exact False.elim L
  |cont=>exact False.elim L
  |ret u =>
   let⟨v,G,os,N,m,Y,rv,q⟩:=L;have p:∀{b:Addr},S b->∃o,s.heap.get? b\o:=λ{b}y=>by
    let⟨u,e,w⟩:=t.sole b y;have x:=i.hok b u e;rcases w with⟨I,rfl⟩|⟨kk,rfl⟩|⟨C,d,f,rfl⟩|⟨y,rfl⟩
    .let⟨_,_,_,_,g⟩:=x;exact#[_,g]
    .let⟨_,_,_,_,_,_,_,g,_⟩:=x;exact#[_,g]
    .let⟨_,_,_,g,_⟩:=x;exact#[_,g]
    .exact x
   have a:∀{b:Addr}{o:Obj},S b->s.heap.get? b\o->s'.heap.get? b\o:=λ{b o}y e=>m.keep b o e (rN y) (λz=>(t.sole b y).ne (i.frf b z)) vc;have bj:∀b,S b->G b=none:=λb y=>by
    let⟨o,ho⟩:=p y;exact m.free b o ho (rN y) vc
   have W:∀{b:Addr}{u:HO},G b\u->¬S b:=λe z=>by rw[bj _ z]at e;cases e
   have M:∀{b:Addr}{u:HO},G b\u->dv S H G b\u:=λe=>(jW (W e)).trans e;refine#[v,dv S H G,os,N,#[λb o e n=>m.keep b o e (l n),λb o e n=>m.slot b o e (l n),λb o e n z=>?_,m.there,λb I e=>?_,λb o u e=>?_,λb ps e=>?_],λb u e=>?_,rv,q bj]
   .rw[jW λy=>(t.sole b y).ne n];exact m.free b o e (l n) z
   .have n:¬S b:=λy=>(R y e).1 I rfl;exact M (m.tups b I ((cZ n).trans e))
   .have n:¬S b:=λy=>(R y e).2.1 o u rfl;exact M (m.frzs b o u ((cZ n).trans e))
   .have n:¬S b:=λy=>(R y e).2.2 ps rfl;let⟨J,this⟩:=m.tbls b ps ((cZ n).trans e);exact#[J,M this]
   .by_cases z:S b
    .rw[xJ z]at e;have x:=i.hok b u e;let⟨u',T,w⟩:=t.sole b z;rw[e]at T;cases T;rcases w with⟨I,rfl⟩|⟨kk,rfl⟩|⟨C,d,f,rfl⟩|⟨y,rfl⟩
     .let⟨B,X,n,r,g⟩:=x;exact#[B,X,n,r,a z g]
     .let⟨B,y,D,r,V,Z,ep,g,c⟩:=x;exact#[B,y,D,r,V,Z,ep,a z g,c]
     .let⟨d1,B,ne,g,mA,⟨od,Z,ep,e3,c⟩,r⟩:=x;have sd:=t.ins b C d f z e;exact#[(xJ sd).trans d1,B,ne,a z g,mA,#[od,Z,ep,a sd e3,c],r]
     .let⟨V,g⟩:=x;exact#[V,a z g]
    .rw[jW z]at e;exact(Y b u e).stay (λ_ _ _ z=>z) (λd z=>M z) λd I z=>M z
abbrev ST:=xk->(OT->Prop)->Prop
def spT(K:Frag)(S:ST):Sp:=λa H Q _=>∃ts R,bY K H a ts/\S ts R/\∀W v x,R x->zT H W->NR K (λ_=>False) H W v x->Q v W
abbrev rn(P:Program)(w:World)(K:Frag)(mg:Str->Ω)(base:Heap)(k:Nat)(x:Str)(ps:Φ)(S:ST):Prop:=OkF P w K mg base k x ps (spT K S)
def ov:RA:=λ_ q=>q []
def EI(a:RE)(r:RA):RA:=λo q=>a o λx=>r o λts=>q (frz x::ts)
def bC:QA X [] ov:=iM.imp λG H Q b=>by let⟨own,o,R,h,a,k⟩:=b;exact k H [] [] a rfl (.refl _) .nil
def tQA.mk{R:xk->Prop}{Q:Ζ->Hp->Prop}(h:SR K own H G o)(b:r o R)(k:∀W a ts,R ts->ts.length=n->zT H W->bY K (hd (Ow own) W) a ts->Q a W):tQA K n r G H Q:=#[own,o,R,h,b,k]
def bA{a:RE}(m:QE X e a)(b:QA X Z r)(l:‹zw X e Z›):QA X (e::Z) (EI a r):=(cD m b l).imp λG H Q #[own,o,R,h,b,k] =>
 tQ.mk h b λY v x q d i=>tQA.mk (h.same d) q λn f ts q2 j c g=>k n (v::f) (frz x::ts) q2 (ZH (· + 1) j) (d.trans c) (.cons (i.same (bU c)) g)
def pk(S:ST)(r:RA):RE:=λo q=>r o λts=>S ts q
def bJ{S:ST}(c:rn X.prog X.w X.K X.mg X.base k x ps S)(d:QA X (e::Z) r)(g:dZ k X.A:=by exact dZ.mono (by assumption) vw)(I:‹Gl X x›)(M:‹(zz x,2)›)
 (J:‹zw X e Z›)(N:‹zb X O Z›):QE X (.Call (.Name x p) (e::Z) [] O) (pk S r):=by
 let⟨f,fd,F,b,D,C⟩:=c;refine(lK (sp:=hF (spT X.K S)) #[f,fd,F.hid,b,D,C] g I d M J N).imp λG H Q #[own,o,R,h,g,k]=>tQA.mk h g λY T ts q _ j t=>?_;have L:=h.same j;refine#[Ow own,L.hid,ts,R,t,q,λc v x m E n i=>?_];have P:zT Y (dv (Ow own) Y c):=λb u e=>by
  by_cases z:Ow own b
  .rw[xJ z];exact e
  .rw[jW z];exact E b u ((cZ z).trans e)
 have l:zT c (dv (Ow own) Y c):=λb u e=>%[jW λz=>by rw[i b z]at e;cases e|e]
 refine k _ v x m (j.trans P) (NR.back (H:=Y) ?_ j);let⟨B,y,s⟩:=n;have out:∀a∈B,¬Ow own a:=λa d z=>(s.sole d).ne (i a z);refine#[B,λa d=>by have:=y a d;rwa[cZ (out a d)]at this,s.same (jd (λb z=>?_) l) l];rcases z with z|z
 .exact .inr (i b z)
 .exact .inl (.inr z)
def rB(a:RE):RT:=λo q=>a o λx=>match frz x with|.bl b=>q b|_=>False
def LG:T->(Bool->Prop)->Prop
 |.bl b,q=>q b
 |.int i,q=>q (i != 0)
 |.non,q=>q false
 |.lst ts,q=>q (!ts.isEmpty)
 |.tup ts,q=>q (!ts.isEmpty)
 |_,_=>False
def OO(a:RE):RT:=λo q=>a o λx=>LG (frz x) q
def oy(a b:RT):RT:=λo q=>a o λc=>sw c (b o q) (q false)
def LY(a b:RT):RT:=λo q=>a o λc=>sw c (q true) (b o q)
def ME(a:RT):RT:=λo q=>a o λc=>q (!c)
def Re(a b:RE):RE:=λo q=>a o λx=>match frz x with|.bl c=>sw c (b o q) (q (.fz (.bl false)))|_=>False
def Rs(a:RE):RE:=λo q=>a o λx=>match frz x with|.bl c=>q (.fz (.bl (!c)))|_=>False
def L4(c:RT)(a b:RE):RE:=λo q=>c o λk=>sw k (a o q) (b o q)
def tQT.mk{r:RT}{R:Bool->Prop}{Q:Bool->Hp->Prop}(h:SR K own H G o)(a:r o R)(k:∀W b,R b->zT H W->Q b W):tQT K r G H Q:=#[own,o,R,h,a,k]
def Rep.isEmpty{K:Frag}{F:Hp}{I:Ζ}{ts:xk}(h:bY K F I ts):I.isEmpty=ts.isEmpty:=by cases h<;>rfl
def Nq{c:Bool}{p q b a:Prop}(h:sw c p q)(i:p->b)(j:q->a):if c=true then b else a:=by
 cases c
 .exact MG (j h)
 .exact NY (i h)
section
variable{X:Cx}{a b c:Expr}{ra rb rc:RE}{qa qb qc:RT}{O:Pos}{rest:xw}
def cg(e:GO X (compareOp op) g)(i:QE X a ra)(f:QE X b rb)(hm:behindInMarks op b=false:=by exact MJ _):QT X (.Compare a [op] [b] O) (rB (fL g ra rb)) :=
 (Kr e i f hm).imp λG H Q #[own,o,R,h,d,k]=>q2 (ra:=ra) (rb:=rb) (tQ.mk h d λY v x q j c=>by
  revert c q
  generalize frz x=t;intro q c;cases c<;>try exact q.elim
  exact#[_,rfl,k _ _ q j])
def cJ(i:QE X a ra)(g:∀d,isTrue a X.env d=(do let v <- d;standAt a.pos;holding [v] (truthy v)):=by exact λ_=>rfl):QT X a (OO ra):=(aeW i g).imp λG H Q #[own,o,R,h,f,k]=>tQ.mk h f λY v x q c b=>by
 revert b q
 generalize frz x=t;intro q b;cases t<;>try exact q.elim
 .cases b;exact#[false,rfl,k _ _ q c]
 .cases b;exact#[_,rfl,k _ _ q c]
 .cases b;exact#[_,rfl,k _ _ q c]
 .let⟨p,I,rfl,e,r⟩:=b.tupI;exact#[_,.inr (.inl #[I,cI.tup e,rfl]),%[Rep.isEmpty r|k _ _ q c]]
 .let⟨p,I,rfl,e,r⟩:=b.lstI;exact#[_,.inl #[I,.of (cW e).2,rfl],%[Rep.isEmpty r|k _ _ q c]]
def dJ(d:QT X a qa):QT X (.UnaryOp .Not a O) (ME qa):=(TL d).imp λG H Q e=>by let⟨own,o,R,h,c,k⟩:=e;exact tQT.mk h c λY b q f=>k Y _ q f
def qF(b:QT X a qa):QW X (.BoolOp .And [a] O) qa:=pw_and1 b
def gD(b:QT X a qa):QW X (.BoolOp .Or [a] O) qa:=pw_or1 b
def xK(i:QT X a qa)(g:QW X (.BoolOp .And (b::rest) O) qb):QW X (.BoolOp .And (a::b::rest) O) (oy qa qb):=(pw_and i g).imp λG H Q j=>by let⟨own,o,R,h,f,k⟩:=j;exact tQT.mk h f λY c q e=>Nq q (λq=>tQT.mk (h.same e) q λl d q m=>k l d q (e.trans m)) λq=>k Y _ q e
def iJ(i:QT X a qa)(g:QW X (.BoolOp .Or (b::rest) O) qb):QW X (.BoolOp .Or (a::b::rest) O) (LY qa qb):=(pw_or i g).imp λG H Q j=>by let⟨own,o,R,h,f,k⟩:=j;exact tQT.mk h f λY c q e=>Nq q (λq=>k Y _ q e) λq=>tQT.mk (h.same e) q λl d q m=>k l d q (e.trans m)
def QW.qt(h:QW X a qa):QT X a qa:=PW.pt h
def Bt{op}(h:QE X a ra):QE X (.BoolOp op [a] O) ra:=VM h
def vp(g:QE X a ra)(f:QE X (.BoolOp .And (b::rest) O) rb):QE X (.BoolOp .And (a::b::rest) O) (Re ra rb):=(WC g f).imp λG H Q #[own,o,R,h,e,k]=>tQ.mk h e λY v x q c d=>by
 revert d q
 generalize frz x=t;intro q d;cases d<;>try exact q.elim
 exact#[_,rfl,Nq q (λq=>#[own,o,R,h.same c,q,λi v x q j n=>k i v x q (c.trans j) (n.back c)]) λq=>k Y _ _ q c (NR.fz (.bl _))]
def HC(d:QE X a ra):QE X (.UnaryOp .Not a O) (Rs ra):=(TC d).imp λG H Q #[own,o,R,h,c,k]=>tQ.mk h c λY v x q e b=>by
 revert b q
 generalize frz x=t;intro q b;cases b<;>try exact q.elim
 exact#[_,rfl,k Y _ _ q e (NR.fz (.bl _))]
def Ho{c:Expr}(i:QT X c qc)(l:QE X a ra)(j:QE X b rb):QE X (.IfExp c a b O) (L4 qc ra rb):=(afX i l j).imp λG H Q #[own,o,R,h,g,k]=>tQT.mk h g λY c q d =>
 Nq q (λq=>#[own,o,R,h.same d,q,λe v x q f n=>k e v x q (d.trans f) (n.back d)]) λq=>#[own,o,R,h.same d,q,λe v x q f n=>k e v x q (d.trans f) (n.back d)]
def n3(g d:zi)(a b c:RE):RE:=λo q=>a o λx=>b o λy=>g (frz x) (frz y) λz=>match frz z with|.bl k=>sw k (c o λw=>d (frz y) (frz w) q) (q (.fz (.bl false)))|_=>False
def q3{C:CmpOp}{l:zi}(I:GO X (compareOp op) g)(J:GO X (compareOp C) l)(h:tQ X.K (n3 g l ra rb rc) G H Q):YL (λx y H Q=>∃S t u R,(∀b,S b->H b≠none)/\Rep X.K (hd S H) x t/\Rep X.K (hd S H) y u/\g t u R/\∀W v z,R z->zT H W->NR X.K S H W v z->Q v W) (λx y H Q=>∃S t u R,(∀b,S b->H b≠none)/\Rep X.K (hd S H) x t/\Rep X.K (hd S H) y u/\l t u R/\∀W v z,R z->zT H W->NR X.K S H W v z->Q v W) (tQ X.K ra) (tQ X.K rb) (tQ X.K rc) G H Q:=by
 let⟨own,o,R,h,B,k⟩:=h;refine tQ.mk h B λY v x q e s=>tQ.mk (h.same e) q λM w y q2 d m=>?_;have j:=h.same (e.trans d);refine#[Ow own,_,_,_,λb z=>(j.sole z).ne,s.same (bU d),m,q2,λD u z a c n=>?_];have i:=n.rep λb z=>(j.sole z).ne
 revert i a
 generalize frz z=t;intro a i;cases i<;>try exact a.elim
 have p:=j.same c;refine#[_,rfl,Nq a (λq=>tQ.mk p q λL F z A f r=>#[Ow own,_,_,R,λb z=>((p.same f).sole z).ne,m.same (bU (c.trans f)),r,A,λW u z a E n=>k W u z a (e.trans (d.trans (c.trans (f.trans E)))) (n.back (e.trans (d.trans (c.trans f))))]) λq=>k D _ _ q (e.trans (d.trans c)) (NR.fz (.bl _))]
def W6{d:CmpOp}{f:zi}(e:GO X (compareOp op) g)(h:GO X (compareOp d) f)(l:QE X a ra)(k:QE X b rb)(j:QE X c rc)(i:lastMarks [op,d] [b,c]=false:=by with_unfolding_all rfl):QE X (.Compare a [op,d] [b,c] O) (n3 g f ra rb rc):=(aeC e h l k j i).imp λ_ _ _=>q3 e h
def MF{e:CmpOp}{i:zi}(f:GO X (compareOp op) g)(j:GO X (compareOp e) i)(p:QE X a ra)(n:QE X b rb)(hc:QE X c rc)(m:lastMarks [op,e] [b,c]=false:=by with_unfolding_all rfl):QT X (.Compare a [op,e] [b,c] O) (rB (n3 g i ra rb rc)) :=
 (af4 f j p n hc m).imp λG H Q #[own,o,R,h,l,k]=>q3 (ra:=ra) (rb:=rb) (rc:=rc) f j (tQ.mk h l λY v x q r d=>by
  revert d q
  generalize frz x=t;intro q d;cases d<;>try exact q.elim
  exact#[_,rfl,k _ _ q r])
end
def ef{α:Type} : List α->Nat->Option α
 |[],_=>none
 |x::_,0=>some x
 |_::l,n+1=>ef l n
theorem vB{α:Type} : ∀(l:List α)(n:Nat),ef l n=l[n]?
 |[],_=>rfl
 |_::_,0=>rfl
 |_::l,n+1=>by simpa[ef]using vB l n
def c3(ts:List α):Int->Option α
 |.ofNat n=>ef ts n
 |.negSucc n=>ef ts.reverse n
def Zj(ts:List α)(i:Int):c3 ts i=dP ts i:=by
 unfold c3 dP dj;cases i with
 |ofNat n =>
  show ef ts n=_;rw[vB,ZY (show 0<=Int.ofNat n from X9 n)];by_cases h:n<ts.length
  .rw[ZY (by show(n:Int)<_;lia)];rfl
  .rw[ZZ (by show ¬(n:Int)<_;lia),aM (Nat.not_lt.mp h)];rfl
 |negSucc n =>
  show ef ts.reverse n=_;rw[vB,ZZ vy];by_cases h:n<ts.length
  .rw[ZY vy,List.getElem?_reverse h];show _=ts[_]?;rw[show(Int.negSucc n+(ts.length:Int)).toNat=ts.length-1-n by lia]
  .rw[ZZ vy,aM %[List.length_reverse|VU h]];rfl
def bY.ix{F:Hp}{i:Int}(h:bY K F I ts)(e:c3 ts i\t):∃x,dP I i\x/\Rep K F x t:=by
 rw[Zj]at e;unfold dP at e ⊢;rw[h.len];cases j:dj ts.length i with
 |none=>rw[j]at e;cases e
 |some n=>rw[j]at e;exact h.at_ e
def oT(x:Option α)(q:α->Prop):Prop:=match x with|some t=>q t|none=>False
def EN{x:Option α}{q:α->Prop}(h:oT x q):∃t,x\t/\q t:=by
 cases x with
 |none=>exact h.elim
 |some t=>exact#[t,rfl,h]
def oj:zi
 |.tup ts,.int i,q=>oT (c3 ts i) λt=>q (.fz t)
 |.lst ts,.int i,q=>∃t,c3 ts i\t/\q (.fz t)
 |.scr ts,.int i,q=>∃t,c3 ts i\t/\q (.fz t)
 |.str s,.int i,q=>s.length<=sizeLine/\∃c,c3 s.cps.toList i\c/\q (.fz (.str #[↥[c]]))
 |_,_,_=>False
def MB:IxR X (λx y H Q=>∃S t u R,(∀b,S b->H b≠none)/\Rep X.K (hd S H) x t/\Rep X.K (hd S H) y u/\oj t u R/\∀W v z,R z->zT H W->NR X.K S H W v z->Q v W):=by
 refine(Ck.or (Ei.or ZJ)).imp λx y H Q h=>?_;let⟨S,t,u,R,_,g,l,a,k⟩:=h;cases u with
 |int i=>?_
 |_=>cases t<;>exact a.elim
 cases l;cases t with
 |any=>exact a.elim
 |non=>exact a.elim
 |bl _=>exact a.elim
 |int _=>exact a.elim
 |val _=>exact a.elim
 |dct _ _=>exact a.elim
 |ins _ _ _=>exact a.elim
 |exc _ _ _=>exact a.elim
 |str s=>?_
 |tup ts=>?_
 |lst ts=>?_
 |scr ts=>?_
 .cases g;let⟨z,c,e,q⟩:=a;rw[Zj]at e;exact .inr (.inr #[_,_,c,rfl,rfl,z,e,k H _ _ q (.refl _) (NR.fz (.str _))])
 .let⟨p,I,rfl,e,r⟩:=g.tupI;let⟨t,j,q⟩:=EN a;let⟨v,f,d⟩:=r.ix j;exact .inr (.inl #[p,I,i,v,rfl,rfl,cI.tup e,f,k H _ _ q (.refl _) (NR.fz d)])
 .let⟨p,I,rfl,e,r⟩:=g.lstI;let⟨t,j,q⟩:=a;let⟨v,f,d⟩:=r.ix j;exact .inl #[p,I,_,v,rfl,rfl,.of (cW e).2,f,k H _ _ q (.refl _) (NR.fz d)]
 .let⟨p,I,rfl,e,r⟩:=g.scrI;let⟨t,j,q⟩:=a;let⟨v,f,d⟩:=r.ix j;exact .inl #[p,I,_,v,rfl,rfl,cI.seq e,f,k H _ _ q (.refl _) (NR.fz d)]
def bK(e:QE X a ra)(d:QE X b rb)(c:o_ b:=by exact λ_ _=>rfl):QE X (.Subscript a b O) (fL oj ra rb):=(uo MB e d c).imp λ_ _ _=>q2
abbrev RO:=xo->(xn->Prop)->Prop
def LM(K:Frag)(r:RO):TO:=λG H Q=>∃own o R,SR K own H G o/\r o R/\∀W b,R b->zT H W->Q b W
def QO(X:Cx)(e:Option Expr)(r:RO):Prop:=PO X e (LM X.K r)
def Nl:RO:=λ_ q=>q none
def P'(a:RE):RO:=λo q=>a o λx=>match frz x with|.int i=>q (some i)|_=>False
def PO.imp{e:Option Expr}{t a:TO}(h:PO X e t)(i:∀G H Q,a G H Q->t G H Q):PO X e a:=λU s G H Q I q=>h U s G H Q I (i G H Q q)
def Gu:QO X none Nl:=aip.imp λG H Q b=>by let⟨own,o,R,h,a,k⟩:=b;exact k H _ a (.refl _)
def fZ(h:QE X e re):QO X (some e) (P' re):=(ah3 h).imp λG H Q #[own,o,R,h,b,k]=>tQ.mk h b λY v x q c a=>by
 revert a q
 generalize frz x=t;intro q a;cases a<;>try exact q.elim
 exact#[_,rfl,k _ _ q c]
def fG(I:List α)(lo hi:xn):List α:=(I.drop (HT.sIx I.length 0 lo)).take (HT.sIx I.length I.length hi-HT.sIx I.length 0 lo)
def bY.cut{F:Hp}(h:bY K F I ts)(lo hi:xn):bY K F (iP I lo hi) (fG ts lo hi):=by
 unfold iP fG;rw[h.len];exact(h.drop _).take _
def MC:T->xn->xn->(OT->Prop)->Prop
 |.lst ts,lo,hi,q=>q (.l1 (fG ts lo hi))
 |.scr ts,lo,hi,q=>q (.l1 (fG ts lo hi))
 |.str s,lo,hi,q=>s.length<=sizeLine/\q (.fz (.str (JT s lo hi)))
 |_,_,_,_=>False
def LX(a:RE)(lo hi:RO):RE:=λo q=>a o λx=>lo o λl=>hi o λu=>MC (frz x) l u q
def i_{g i:RO}(w:QE X e re)(s:QO X lo g)(m:QO X hi i):QE X (.Subscript e (.Slice lo hi none p2) O) (LX re g i):=(ae5 (agV.or _N) w s m).imp λG H Q #[own,o,R,h,n,k] =>
 tQ.mk h n λY v x q f b=>#[own,o,_,h.same f,q,λz l q d=>#[own,o,_,(h.same f).same d,q,λy u q j=>by
  have E:=f.trans (d.trans j);have b:=b.same (bU (d.trans j))
  revert b q
  generalize frz x=t;intro q b;cases t<;>try exact q.elim
  .cases b;exact .inr #[_,rfl,q.1,k _ _ _ q.2 E (NR.fz (.str _))]
  .let⟨p,I,rfl,e,r⟩:=b.lstI;exact .inl #[p,I,rfl,.of (cW e).2,λa c=>k _ _ _ q (E.trans (zT.upd c)) ((Aa (r.cut l u) (zT.upd c) c cu).back E)]
  .let⟨p,I,rfl,e,r⟩:=b.scrI;exact .inl #[p,I,rfl,cI.seq e,λa c=>k _ _ _ q (E.trans (zT.upd c)) ((Aa (r.cut l u) (zT.upd c) c cu).back E)]]]
section
variable{X:Cx}{e:Expr}{Z:xw}{r:RA}{O:Pos}
def AM(r:RA):RE:=λo q=>r o λts=>q (.fz (.tup ts))
def wt(r:RA):RE:=λo q=>r o λts=>q (.l1 ts)
def d7(h:QA X Z r)(e:‹(Z.length<=sizeLine,2)›):QE X (.Tuple Z k O) (AM r):=(HK h).imp λG H Q #[own,o,R,h,f,k]=>tQA.mk h f λY g ts q d c b =>
 #[%[b.len,d|e],λp a=>k _ _ _ q (c.trans (zT.upd a)) (NR.fz (.tup (.of %[cZ λz=>(h.sole z).ne (c.free a)|cu]) (b.same (bU (zT.upd a)))))]
def dg(h:QA X Z r)(e:‹(Z.length<=sizeLine,2)›):QE X (.List Z O) (wt r):=(FM h).imp λG H Q #[own,o,R,h,f,k]=>tQA.mk h f λY g ts q d c b =>
 #[%[b.len,d|e],λp a=>k _ _ _ q (c.trans (zT.upd a)) ((Aa b (zT.upd a) a cu).back c)]
def GC(X:Cx)(f:Value)(g:ST):Prop:=jx X f λI H Q=>∃S ts R,(∀b,S b->H b≠none)/\bY X.K (hd S H) I ts/\g ts R/\∀W v z,R z->zT H W->NR X.K S H W v z->Q v W
variable{x:Str}{p:Pos}{id Ty:String}{g:ST}
def bQ(t:GC X (.builtin id) g)(l:X.mg x=none)(f:bootBuiltins x\(.builtin id))(u:QA X (e::Z) r)(m:‹Gl X x›)(j:‹(x≠"__name__",2)›)(y:‹(zz x,2)›)
 (s:‹zw X e Z›)(A:‹zb X O Z›):QE X (.Call (.Name x p) (e::Z) [] O) (pk g r) :=
 (Ys t m l f u j y s A).imp λG H Q w=>by let⟨own,o,R,h,i,k⟩:=w;exact tQA.mk h i λY B ts q _ a d=>#[Ow own,ts,R,λb z=>((h.same a).sole z).ne,d,q,λW v z c E n=>k W v z c (a.trans E) (n.back a)]
def qW(t:GC X (.type Ty) g)(l:X.mg x=none)(f:bootBuiltins x\(.type Ty))(u:QA X (e::Z) r)(m:‹Gl X x›)(j:‹(x≠"__name__",2)›)(y:‹(zz x,2)›)
 (s:‹zw X e Z›)(A:‹zb X O Z›):QE X (.Call (.Name x p) (e::Z) [] O) (pk g r) :=
 (QF t m l f u j y s A).imp λG H Q w=>by let⟨own,o,R,h,i,k⟩:=w;exact tQA.mk h i λY B ts q _ a d=>#[Ow own,ts,R,λb z=>((h.same a).sole z).ne,d,q,λW v z c E n=>k W v z c (a.trans E) (n.back a)]
def bY.one{F:Hp}(h:bY K F I [t]):∃x,I=[x]/\Rep K F x t:=by
 cases h with
 |cons a b=>cases b;exact#[_,rfl,a]
def bY.two{F:Hp}{u:T}(h:bY K F I [t,u]):∃x y,I=[x,y]/\Rep K F x t/\Rep K F y u:=by
 cases h with
 |cons a b =>
  let⟨y,rfl,c⟩:=b.one;exact#[_,y,rfl,a,c]
def g1(g:T->(OT->Prop)->Prop):ST:=λts q=>match ts with|[t]=>g t q|_=>False
def GC.one{f:Value}{g:T->(OT->Prop)->Prop}{r:Ζ->Hp->VK->Prop}(h:jx X f r)(i:∀S t x H Q R,Rep X.K (hd S H) x t->g t R->(∀W v z,R z->zT H W->NR X.K S H W v z->Q v W)->r [x] H Q):GC X f (g1 g):=h.imp λI H Q d=>by
 let⟨S,ts,R,_,c,a,k⟩:=d
 match ts,a with
 |[t],a =>
  let⟨x,rfl,b⟩:=c.one;exact i S t x H Q R b a k
def N4:T->(OT->Prop)->Prop
 |.lst ts,q=>q (.fz (.int ts.length))
 |.tup ts,q=>q (.fz (.int ts.length))
 |.scr ts,q=>q (.fz (.int ts.length))
 |_,_=>False
def cH:GC X (.builtin "len") (g1 N4):=.one R5 λS t x H Q R b a k=>by
 cases t<;>try exact a.elim
 .let⟨p,I,rfl,e,r⟩:=b.tupI;exact#[p,I,rfl,.inr (cI.tup e),k H _ _ a (.refl _) (NR.fz %[r.len|.int _])]
 .let⟨p,I,rfl,e,r⟩:=b.lstI;exact#[p,I,rfl,.inl (.of (cW e).2),k H _ _ a (.refl _) (NR.fz %[r.len|.int _])]
 .let⟨p,I,rfl,e,r⟩:=b.scrI;exact#[p,I,rfl,.inl (cI.seq e),k H _ _ a (.refl _) (NR.fz %[r.len|.int _])]
def NO:T->(OT->Prop)->Prop
 |.str s,q=>s.length<=sizeLine/\q (.fz (.int s.length))
 |_,_=>False
def OC:T->(OT->Prop)->Prop
 |.dct a _,q=>q (.fz (.int a.length))
 |_,_=>False
def ac0:jx X (.builtin "len") (λI H Q=>∃p b,I=[.ref p]/\Rd H p (.dK b)/\Q (.int b.length) H):=by
 intro U s G H I k Q a r h;let⟨p,b,rfl,c,q⟩:=h;let⟨u,rfl,f⟩:=vals1 r;cases f;have e:b.length<=sizeLine/\(p==sysModules)=false/\∃d,KV b d/\s.heap.DictOf (gM X.prog X.w) p d:=by
  rcases c with c|⟨o,c⟩
  .exact a.hok p _ c
  .exact(a.hok p _ c).2
 let⟨l,i,d,g,m⟩:=e;have n:=zc;have j:b.length=d.length:=g.length;exact call_len_dict i m vy #[.int b.length,H,a.tok _,#[_,%[j|_]],q]
def IS:GC X (.builtin "len") (g1 OC):=.one ac0 λS t x H Q R b a k=>by
 cases t<;>try exact a.elim
 let⟨p,I,rfl,e,l,r⟩:=b.dctI;exact#[p,_,rfl,cI.rd e,k H _ _ a (.refl _) (NR.fz %[VZ,l,VQ|.int _])]
def NS:T->(OT->Prop)->Prop
 |.int i,q=>q (.fz (.int i.natAbs))
 |_,_=>False
def Ol:GC X (.builtin "abs") (g1 NS):=.one aek λS t x H Q R b a k=>by
 cases t<;>try exact a.elim
 cases b;exact#[_,rfl,k H _ _ a (.refl _) (NR.fz %[VC|.int _])]
theorem bY.ints{K:Frag}{F:Hp} : ∀{I:Ζ}{c:xi},bY K F I (c.map T.int)->I=c.map V.int
 |_,[],.nil=>rfl
 |_,n::c,.cons a b=>by cases a;rw[bY.ints b];rfl
theorem bY.bls{K:Frag}{F:Hp} : ∀{I:Ζ}{c:xf},bY K F I (c.map T.bl)->I=c.map V.bl
 |_,[],.nil=>rfl
 |_,n::c,.cons a b=>by cases a;rw[bY.bls b];rfl
theorem Jd{K:Frag}{F:Hp} : ∀(a:xi),bY K F (a.map V.int) (a.map T.int)
 |[]=>.nil
 |_::a=>.cons (.int _) (Jd a)
def PU:T->(OT->Prop)->Prop
 |.lst ts,q=>∃a:xi,ts=a.map T.int/\q (.fz (.int a.sum))
 |_,_=>False
def qB(hc:X.calm):GC X (.builtin "sum") (g1 PU):=.one (ac5 hc) λS t x H Q R b a k=>by
 cases t<;>try exact a.elim
 let⟨p,I,rfl,e,r⟩:=b.lstI;let⟨c,rfl,q⟩:=a;exact#[p,c,rfl,(r.ints ▸ (cW e).2),k H _ _ q (.refl _) (NR.fz (.int _))]
def Bu(f:xf->Bool):T->(OT->Prop)->Prop
 |.lst ts,q=>∃a:xf,ts=a.map T.bl/\q (.fz (.bl (f a)))
 |_,_=>False
def V9(hc:X.calm):GC X (.builtin "all") (g1 (Bu λf=>f.all λb=>b)):=.one (ach hc) λS t x H Q R c a k=>by
 cases t<;>try exact a.elim
 let⟨p,I,rfl,e,r⟩:=c.lstI;let⟨d,rfl,q⟩:=a;exact#[p,d,rfl,(r.bls ▸ (cW e).2),k H _ _ q (.refl _) (NR.fz (.bl _))]
def Zg(hc:X.calm):GC X (.builtin "any") (g1 (Bu λf=>f.any λb=>b)):=.one (acQ hc) λS t x H Q R c a k=>by
 cases t<;>try exact a.elim
 let⟨p,I,rfl,e,r⟩:=c.lstI;let⟨d,rfl,q⟩:=a;exact#[p,d,rfl,(r.bls ▸ (cW e).2),k H _ _ q (.refl _) (NR.fz (.bl _))]
def Nn:T->(OT->Prop)->Prop
 |.lst ts,q=>∃a:xi,ts=a.map T.int/\a.length<64/\∀b:xi,b.Perm a->b.Pairwise (· <= ·)->q (.l1 (b.map T.int))
 |_,_=>False
def acZ:GC X (.builtin "sorted") (g1 Nn):=.one acj λS t x H Q R f d k=>by
 cases t<;>try exact d.elim
 let⟨p,I,rfl,e,r⟩:=f.lstI;let⟨g,rfl,l,q⟩:=d;exact#[p,g,rfl,(r.ints ▸ (cW e).2),l,λc a b i h=>k _ _ _ (q c i h) (zT.upd b) (Aa (Jd c) (zT.upd b) b cu)]
def SW:T->(OT->Prop)->Prop
 |.lst ts,q=>q (.l1 ts)
 |_,_=>False
def FZ:GC X (.type "list") (g1 SW):=.one Oa λS t x H Q R d c k=>by
 cases t<;>try exact c.elim
 let⟨p,I,rfl,e,r⟩:=d.lstI;exact#[p,I,rfl,(cW e).2,λa b=>k _ _ _ c (zT.upd b) (Aa r (zT.upd b) b cu)]
def NW:T->(OT->Prop)->Prop
 |.int i,q=>q (.fz (.int i))
 |.bl b,q=>q (.fz (.int (if b then 1 else 0)))
 |_,_=>False
def TM:GC X (.type "int") (g1 NW):=.one acS λS t x H Q R b a k=>by
 cases t<;>try exact a.elim
 .cases b;exact .inr #[_,rfl,k H _ _ a (.refl _) (NR.fz (.int _))]
 .cases b;exact .inl #[_,rfl,k H _ _ a (.refl _) (NR.fz (.int _))]
inductive Knd where
 |int|bool|str|list|tuple
def Knd.s:Knd->String
 |.int=>"int"
 |.bool=>"bool"
 |.str=>"str"
 |.list=>"list"
 |.tuple=>"tuple"
def oa:Knd->T->wr
 |.int,.int _=>some true
 |.int,.bl _=>some true
 |.bool,.bl _=>some true
 |.str,.str _=>some true
 |.list,.lst _=>some true
 |.tuple,.tup _=>some true
 |_,.any=>none
 |_,.val _=>none
 |_,.scr _=>none
 |_,.ins _ _ _=>none
 |_,.exc _ _ _=>none
 |_,.dct _ _=>none
 |_,_=>some false
def _K(d:Knd):GC X (.builtin "isinstance") (λts q=>match ts with|[t,.val v]=>v=.ty d.s/\oT (oa d t) λb=>q (.fz (.bl b))|_=>False):=by
 intro U s G H I g Q a m h;let⟨S,ts,R,_,z,o,k⟩:=h
 match ts,o with
 |[t,.val v],o =>
  let⟨x,y,rfl,l,w⟩:=z.two;cases w;let⟨rfl,o⟩:=o;let⟨b,j,q⟩:=EN o;have n:d.s∈["bool","int","str","list","tuple","dict"]:=by cases d<;>decide
  cases t with
  |tup ts =>
   let⟨p,u,rfl,e,r⟩:=l.tupI;have f:b=Uz "tuple" d.s:=by cases d<;>cases j<;>decide
   exact Xl U s G H _ g Q a m #[p,d.s,u,rfl,n,cI.tup e,k H _ _ q (.refl _) (NR.fz (f ▸ .bl _))]
  |lst ts =>
   let⟨p,u,rfl,e,r⟩:=l.lstI;have f:b=Uz "list" d.s:=by cases d<;>cases j<;>decide
   exact zf U s G H _ g Q a m #[_,d.s,"list",rfl,n,by show(match H p with|some (.lst _)=>some "list" |some (.tup _)=>some "tuple" |some (.dK _)=>some "dict" |_=>none)=_;rw[(cW e).2],k H _ _ q (.refl _) (NR.fz (f ▸ .bl _))]
  |non =>
   cases l;have f:b=Uz "NoneType" d.s:=by cases d<;>cases j<;>decide
   exact zf U s G H _ g Q a m #[_,d.s,"NoneType",rfl,n,rfl,k H _ _ q (.refl _) (NR.fz (f ▸ .bl _))]
  |bl c =>
   cases l;have f:b=Uz "bool" d.s:=by cases d<;>cases j<;>decide
   exact zf U s G H _ g Q a m #[_,d.s,"bool",rfl,n,rfl,k H _ _ q (.refl _) (NR.fz (f ▸ .bl _))]
  |int i =>
   cases l;have f:b=Uz "int" d.s:=by cases d<;>cases j<;>decide
   exact zf U s G H _ g Q a m #[_,d.s,"int",rfl,n,rfl,k H _ _ q (.refl _) (NR.fz (f ▸ .bl _))]
  |str c =>
   cases l;have f:b=Uz "str" d.s:=by cases d<;>cases j<;>decide
   exact zf U s G H _ g Q a m #[_,d.s,"str",rfl,n,rfl,k H _ _ q (.refl _) (NR.fz (f ▸ .bl _))]
  |_=>cases d<;>cases j
def OA(c:Knd)(a:RE):RE:=λo q=>a o λx=>oT (oa c (frz x)) λb=>q (.fz (.bl b))
def oW(c:Knd){y:Str}(A:QE X a ra)(u:X.mg "isinstance"=none)(m:X.mg y=none)(l:bootBuiltins y\(.type c.s))(d:‹Gl X y›)(w:‹Gl X "isinstance"›)(r:‹(y≠"__name__",2)›)(j:‹(zz y,2)›)
 (f:‹starEach (a::[.Name y p2]) X.env=(false,eval a X.env)::starEach [.Name y p2] X.env›):QE X (.Call (.Name "isinstance" p) [a,.Name y p2] [] O) (OA c ra) :=
 (Ys (_K c) w u boot_isinstance (cD A (cD (ai6 (v:=.ty c.s) d m l rfl r j) iM) f) vw vw f).imp λG H Q #[own,o,R,h,t,k]=>tQ.mk h t λY v x q e i =>
  #[Ow own,[frz x,.val (.ty c.s)],R,λb z=>((h.same e).sole z).ne,.cons i (.cons (.val _) .nil),#[rfl,q],λW v z g E n=>k W v z g (e.trans E) (n.back e)]
end
structure DT where
 nx:xo->Prop
 rt:OT->Prop
 bk:xo->Prop:=λ_=>False
 ct:xo->Prop:=λ_=>False
 xc:Addr->Φ->xk->Prop:=λ_ _ _=>False
abbrev RS:=DT->xo->Prop
def zx(X:Cx):XK:=λC d W=>(∀U G H s a b B,↥X->Fly X.prog X.w X.stack H s a C W b B d->X.xe (.ref a) b) /\
 ∀U G H s a c,C=.ref c->↥X->H a\(XN a c d)->X.s₀.zs<=a->out H a=W->X.xe (.ref a) s
structure Lnk(K:Frag)(Z:XK)(F:Hp)(E:DT)(D:Ends):Prop where
 nx:∀own H G o,E.nx o->zT F (hd (Ow own) H)->SR K own H G o->D.nx G H
 rt:∀S H v x B,E.rt x->zT F (hd S H)->Slo K (hd S H) H (some v) B x->(∀a∈B,S a)->D.rt v H
 bk:∀own H G o,E.bk o->zT F (hd (Ow own) H)->SR K own H G o->D.bk G H
 ct:∀own H G o,E.ct o->zT F (hd (Ow own) H)->SR K own H G o->D.ct G H
 xc:∀H C d ks vs ts,E.xc C ks ts->zT F H->H d\(.xd (ks.zip vs))->bY K H vs ts->Z (.ref C) (some d) H
variable{E:DT}{st:Stmt}{b a:RS}{kA:wq}{a9 ah af aE:Pos}{D:Addr}{i:Nat}{ys:Ζ}
def Lnk.step{Z:XK}{F a:Hp}{D:Ends}(h:Lnk K Z F E D)(S:zT F a):Lnk K Z a E D :=
 #[λown H G o e s=>h.nx own H G o e (S.trans s),λT H v x B e s=>h.rt T H v x B e (S.trans s),λown H G o e s=>h.bk own H G o e (S.trans s),λown H G o e s=>h.ct own H G o e (S.trans s),λH C d c b ts e s=>h.xc H C d c b ts e (S.trans s)]
def ik(X:Cx)(r:RS):TS:=λD G H=>∃own o E,SR X.K own H G o/\r E o/\Lnk X.K (zx X) (hd (Ow own) H) E D
def QS(X:Cx)(st:Stmt)(r:RS):Prop:=PS X st (ik X r)
def eh(X:Cx)(st:wq)(r:RS):Prop:=PSs X st (ik X r)
def PS.imp{t a:TS}(h:PS X st t)(i:∀D G H,a D G H->t D G H):PS X st a:=λU s G H D I q=>h U s G H D I (i D G H q)
def PSs.imp{st:wq}{t a:TS}(h:PSs X st t)(i:∀D G H,a D G H->t D G H):PSs X st a:=λU s G H D I q=>h U s G H D I (i D G H q)
def Rl:RS:=λE o=>E.nx o
def jY(a b:RS):RS:=λE o=>a { E with nx:=b E } o
def pc(i:Nat)(a:RE):RS:=λE o=>a o λx=>E.nx (o.set i (.fz (frz x)))
def om(i:Nat)(a:RE):RS:=λE o=>a o λx=>E.nx (o.set i x)
def Si(a:RE):RS:=λE o=>a o λ_=>E.nx o
def OU(a:RE):RS:=λE o=>a o E.rt
def E7(i:Nat):RS:=λE o=>match slot o i with|.und=>False|x=>E.rt x
def B8(c:RT)(a b:RS):RS:=λE o=>c o λk=>sw k (a E o) (b E o)
def _P:RS:=λ_ _=>False
def CO(i:Nat)(a:RS):RS:=λE o=>match slot o i with|.und=>False|x=>a E (o.set i (.fz (frz x)))
def SR.putA(h:SR K own H G o)(E:zT H W){x:OT}(n:NR K (Ow own) H W v x)(i:Nat):∃a,SR K a W (G.set i (some v)) (o.set i x)/\zT (hd (Ow own) H) (hd (Ow a) W):=by
 by_cases hi:i<o.length
 .exact h.put E n hi
 .rw[mw (Nat.not_lt.mp hi),mw (h.len ▸ Nat.not_lt.mp hi)];exact#[own,h.same E,bU E]
def NR.frz{S:Addr->Prop}{v:V}{x:OT}(n:NR K S H W v x)(a:∀b,S b->H b≠none):NR K S H W v (.fz (L2.frz x)):=NR.fz (n.rep a)
def Slo.val{F:Hp}{v:wv}{A:Ψ}{x:OT}(h:Slo K F H v A x)(n:x≠.und):∃u,v\u:=by
 cases x with
 |und=>exact absurd rfl n
 |fz t=>exact#[_,h.2.choose_spec.1]
 |l1 ts=>let⟨a,I,e,_⟩:=h;exact#[_,e]
 |l2 ts=>let⟨a,I,e,_⟩:=h;exact#[_,e]
 |d1 c ts=>let⟨a,I,e,_⟩:=h;exact#[_,e]
 |ob a d C c ts=>let⟨I,e,_⟩:=h;exact#[_,e]
 |la a ts=>let⟨I,e,_⟩:=h;exact#[_,e]
 |pr ts f=>let⟨p,a,b,I,ys,e,_⟩:=h;exact#[_,e]
def SR.val(h:SR K own H G o){i:Nat}{x:OT}(e:slot o i=x)(n:x≠.und):∃u,G[i]?\(some u)/\Slo K (hd (Ow own) H) H (some u) (own i) x:=by
 have s:=h.sl i x (gQ e n);let⟨u,a⟩:=s.val n;rw[a]at s;refine#[u,?_,s];cases z:G[i]? with
 |none=>rw[z]at a;cases a
 |some w=>rw[z]at a;exact ZH some a
def bV:eh X [] Rl:=IU.imp λD G H b=>by let⟨own,o,E,h,a,L⟩:=b;exact L.nx own H G o a (.refl _) h
def OB{D:Ends}(h:ik X (jY a b) D G H):j6 (ik X a) (ik X b) D G H:=by
 let⟨own,o,E,h,e,L⟩:=h;exact#[own,o,_,h,e,λg W c d q S f=>#[g,d,E,f,q,L.step S],L.rt,L.bk,L.ct,L.xc]
def bG(d:QS X st a)(c:eh X kA b):eh X (st::kA) (jY a b):=(nW d c).imp λ_ _ _=>OB
def bI(h:QS X st a):eh X [st] a:=pC h
def bT(i:Nat)(he:QE X e re)(hN:X.N.Nodup:=by assumption)(hx:fc X.env.scope x:=by first|exact .inl rfl|exact .inr rfl)(hi:‹X.N[i]?\x›)(hs:‹swapsWith e (some (.Name x a9)) O.line X.env=pure false›)(hf:zd X x:=by first|exact .inl rfl|exact .inr rfl|assumption) :
  QS X (.Assign [.Name x a9] e O) (pc i re):=(vH hN hi hx he hs hf).imp λD G H #[own,o,E,h,a,L]=>#[own,o,_,h,a,λW v y q S n=>by
 let⟨d,c,f⟩:=h.putA S (n.frz λb z=>(h.sole z).ne) i;exact L.nx d W _ _ q f c]
def gA(i:Nat)(f:QE X e re)(g:X.N.Nodup:=by assumption)(a:fc X.env.scope x:=by first|exact .inl rfl|exact .inr rfl)(hi:‹X.N[i]?\x›)(b:‹swapsWith e (some (.Name x a9)) O.line X.env=pure false›)(d:zd X x:=by first|exact .inl rfl|exact .inr rfl|assumption) :
  QS X (.Assign [.Name x a9] e O) (om i re):=(vH g hi a f b d).imp λD G H #[own,o,E,h,c,L]=>#[own,o,_,h,c,λW v y q S n=>by
 let⟨k,j,l⟩:=h.putA S n i;exact L.nx k W _ _ q l j]
def m7(c:QE X e re)(a:‹swapsWith e none O.line X.env=pure false›):QS X (.Expr e O) (Si re):=(pG c a).imp λD G H d=>by let⟨own,o,E,h,b,L⟩:=d;exact#[own,o,_,h,b,λW v y q S n=>L.nx own W G o q (bU S) (h.same S)]
def bR(f:QE X e re):QS X (.Return (some e) O) (OU re):=(z8 f).imp λD G H #[own,o,E,h,d,L]=>#[own,o,_,h,d,λW v y q S n=>by
 let⟨B,c,s⟩:=n;exact L.rt _ W v y B q (jd (λb z=>z.imp id (c b)) S) s λa g=>.inr g]
def gC(i:Nat)(g:‹(n_X X i x,0)›):QS X (.Return (some (.Name x p)) O) (E7 i):=(z8 (pv i g)).imp λD G H f=>by
 let⟨own,o,E,h,b,L⟩:=f;have b:E.rt (slot o i)/\slot o i≠.und:=by
  unfold E7 at b;cases e:slot o i<;>rw[e]at b<;>first|exact b.elim|exact#[b,λz=>by cases z]
 let⟨u,e,s⟩:=h.val rfl b.2;exact#[u,e,L.rt (Ow own) H u _ _ b.1 (.refl _) s λa d=>#[i,d]]
def cB{e ts:wq}{f:RT}(i:QT X c f)(k:eh X e a)(j:eh X ts b):QS X (.If c e ts O) (B8 f a b):=(EJ i k j).imp λD G H #[own,o,E,h,g,L]=>tQT.mk h g λY c q d =>
 Nq q (λq=>#[own,o,E,h.same d,q,L.step (bU d)]) λq=>#[own,o,E,h.same d,q,L.step (bU d)]
def gO:QS X st _P:=adB.imp λD G H b=>by let⟨own,o,E,h,a,L⟩:=b;exact a
def VR(i:Nat)(c:QS X st a):QS X st (CO i a):=PS.imp c λD G H d=>by
 let⟨own,o,E,h,b,L⟩:=d;have b:a E (o.set i (.fz (frz (slot o i))))/\slot o i≠.und:=by
  unfold CO at b;cases e:slot o i<;>rw[e]at b<;>first|exact b.elim|exact#[b,λz=>by cases z]
 let⟨u,g,s⟩:=h.val rfl b.2;let⟨j,f,S⟩:=h.frz (gQ rfl b.2) g;exact#[j,_,E,f,b.1,L.step S]
def Br{u:HO}(h:S D):hd S (upd H D u)=hd S H:=funext λb=>by
 by_cases z:S b
 .rw[rN z,rN z]
 .rw[cZ z,cZ z,b_ λ(e:b=D)=>z (e.symm ▸ h)]
def OS:OT->Option (List T×(xk->OT))
 |.l1 ts=>some (ts,.l1)
 |.la a ts=>some (ts,.la a)
 |_=>none
def hJ(x:OT)(k:xk->(xk->OT)->Prop):Prop:=match OS x with|some (ts,c)=>k ts c|none=>False
def IW{x:OT}{k:xk->(xk->OT)->Prop}(h:hJ x k):∃ts c,k ts c/\((x=.l1 ts/\c=.l1)\/∃a,x=.la a ts/\c=.la a):=by
 cases x with
 |l1 ts=>exact#[ts,_,h,.inl #[rfl,rfl]]
 |la a ts=>exact#[ts,_,h,.inr #[a,rfl,rfl]]
 |_=>exact h.elim
def OL(i:Nat)(a:RE):RS:=λE o=>hJ (slot o i) λts c=>a o λy=>ts.length<sizeLine/\E.nx (o.set i (c (ts++[frz y])))
def SR.l1{K:Frag}{own:Nat->Ψ}{H:Hp}{G:L2.St}{o:xo}(h:SR K own H G o){i:Nat}{ts:xk}{c:xk->OT}(e:(slot o i=.l1 ts/\c=.l1)\/∃a,slot o i=.la a ts/\c=.la a):∃l I,G[i]?\(some (.ref l))/\own i=[l]/\H l=some (.lst I)/\bY K (hd (Ow own) H) I ts/\∀(W:Hp)(ys:Ζ)d,W l\(.lst ys)->bY K (hd (Ow own) W) ys d->Slo K (hd (Ow own) W) W (some (.ref l)) [l] (c d):=by
 rcases e with⟨e,rfl⟩|⟨a,e,rfl⟩
 .let⟨u,k,l,I,j,g,f,r⟩:=h.val e (by intro z;cases z);cases j;exact#[l,I,k,g,f,r,λW ys d a b=>#[l,ys,rfl,rfl,a,b]]
 .let⟨u,k,I,j,g,f,r⟩:=h.val e (by intro z;cases z);cases j;exact#[a,I,k,g,f,r,λW ys d a b=>#[ys,rfl,rfl,a,b]]
def Mv{c:xk->OT}(e:(slot o i=.l1 ts/\c=.l1)\/∃a,slot o i=.la a ts/\c=.la a):∃x,o[i]?\x:=by
 rcases e with⟨e,_⟩|⟨a,e,_⟩
 .exact#[_,gQ e (by intro z;cases z)]
 .exact#[_,gQ e (by intro z;cases z)]
def SR.chg1(h:SR K own H G o){a:xk}{c:xk->OT}(e:∃x,o[i]?\x){l:Addr}(d:G[i]?\(some (.ref l)))(f:own i=[l])(sl:∀(W:Hp)(ys:Ζ)a,W l\(.lst ys)->bY K (hd (Ow own) W) ys a->Slo K (hd (Ow own) W) W (some (.ref l)) [l] (c a))(r:bY K (hd (Ow own) H) ys a):SR K own (upd H l (.lst ys)) G (o.set i (c a))/\zT (hd (Ow own) H) (hd (Ow own) (upd H l (.lst ys))):=by
 let⟨x,e⟩:=e;refine h.chg e (λb u g e=>(b_ λz=>g (by rw[f,z];simp)).trans e) ?_;rw[d,f];exact sl _ ys a cu %[Br #[i,by rw[f];simp]|r]
def pZ(i:Nat)(w:QE X e re)(B:‹(n_X X i x,0)›)
 (z:‹attributeBase (.Name x p) "append" X.env (eval (.Name x p) X.env)=eval (.Name x p) X.env›)
 (u:‹zg X af e›)
 (t:‹zC ah af›)(g:‹zw X e []›)(s:‹zb X af []›)
 (n:‹swapsWith (.Call (.Attribute (.Name x p) "append" ah) [e] [] af) none O.line X.env=pure false›) :
  QS X (.Expr (.Call (.Attribute (.Name x p) "append" ah) [e] [] af) O) (OL i re):=(pG (qs (pv i B) (cD w iM g) z u t g s) n).imp λD G H A=>by
 let⟨own,o,E,h,b,L⟩:=A;let⟨ts,c,b,Z⟩:=IW b;let⟨l,I,f,F,d,r,j⟩:=h.l1 Z;refine#[_,f,l,I,rfl,d,tQ.mk h b λY v y q a k=>#[v,I,rfl,a _ _ d,%[r.len|q.1],?_]];let⟨C,S⟩:=(h.same a).chg1 (Mv Z) f F j ((r.same (bU a)).app (.cons k .nil));exact L.nx own _ G _ q.2 ((bU a).trans S) C
def MW(i:Nat)(a b:RE):RS:=λE o=>hJ (slot o i) λts c=>a o λy=>b o λk=>(match frz k with|.int j=>∃n,dj ts.length j\n/\E.nx (o.set i (c (ts.set n (frz y))))|_=>False)
def pY(i:Nat){k:Expr}{m:RE}(K:QE X e re)(J:QE X k m)(Q:‹(n_X X i x,0)›)
 (M:∀v,assign (.Subscript (.Name x p) k aE) X.env v=(do
   let a <- holding [v] (eval (.Name x p) X.env)
   let g <- holding [v,a] (eval k X.env)
   standAt aE
   holding [v,a,g] (setItem a g v)
   release [v,a,g] []):=by intro _;rfl)
 (F:‹swapsWithSole [.Subscript (.Name x p) k aE] e O.line X.env=pure false›)(hw:‹swappedStores [.Subscript (.Name x p) k aE] e X.env=pure none›)
 (R:‹(assignEach [.Subscript (.Name x p) k aE] X.env).map (·.2)=[assign (.Subscript (.Name x p) k aE) X.env]›):QS X (.Assign [.Subscript (.Name x p) k aE] e O) (MW i re m):=(qP K (GU (pv i Q) J set_list M) F hw R).imp λD G H P=>by
 let⟨own,o,E,h,j,L⟩:=P;let⟨ts,c,j,Z⟩:=IW j;let⟨l,I,s,W,V,r,B⟩:=h.l1 Z;refine tQ.mk h j λY v y q A f=>#[_,s,tQ.mk (h.same A) q λH2 w z q u d=>?_];have f:=f.same (bU u)
 revert d q
 generalize frz z=t;intro q d;cases t<;>try exact q.elim
 cases d;let⟨n,U,q⟩:=q;have b:=A.trans u;refine#[l,I,_,n,rfl,rfl,b _ _ V,%[r.len|U],?_];let⟨T,S⟩:=(h.same b).chg1 (Mv Z) s W B (bY.set f n (r.same (bU b)));exact L.nx own _ G _ q ((bU b).trans S) T
def PP(i:Nat)(b:RE):RE:=λo q=>hJ (slot o i) λts _=>b o λy=>(match frz y with|.int j=>∃t,c3 ts j\t/\q (.fz t)|_=>False)
def uN(i:Nat){b:Expr}(n:QE X b rb)(u:‹(n_X X i x,0)›)(m:o_ b:=by exact λ_ _=>rfl):QE X (.Subscript (.Name x p) b O) (PP i rb):=(uo Ck (pv i u) n m).imp λG H Q s=>by
 let⟨own,o,R,h,e,k⟩:=s;let⟨ts,c,e,Z⟩:=IW e;let⟨a,I,z,E,w,r,D⟩:=h.l1 Z;refine#[_,z,tQ.mk h e λY v y q f d=>?_]
 revert d q
 generalize frz y=t;intro q d;cases t<;>try exact q.elim
 cases d;let⟨t,j,q⟩:=q;let⟨v,A,g⟩:=r.ix j;exact#[a,I,_,v,rfl,rfl,.of (f _ _ w),A,k Y _ _ q f (NR.fz (g.same (bU f)))]
def EQ(i:Nat)(f:Int->Int->Int)(a:RE):RS:=λE o=>match slot o i with|.fz (.int k)=>a o λy=>(match frz y with|.int j=>E.nx (o.set i (.fz (.int (f k j))))|_=>False)|_=>False
def GY(i:Nat){op:Operator}{f:Int->Int->Int}(g:rh X op (tS f))(k:QE X e re)(m:X.N.Nodup:=by assumption)(d:fc X.env.scope x:=by first|exact .inl rfl|exact .inr rfl)(hi:‹X.N[i]?\x›)(j:zd X x:=by first|exact .inl rfl|exact .inr rfl|assumption):QS X (.AugAssign (.Name x a9) op e O) (EQ i f re):=(Wl m hi d k g j).imp λD G H l=>by
 let⟨own,o,E,h,a,L⟩:=l;unfold EQ at a;cases Z:slot o i with
 |fz t =>
  rw[Z]at a;cases t<;>try exact a.elim
  let⟨u,p,r⟩:=h.get (gQ Z (by intro z;cases z));cases r;refine#[_,p,tQ.mk h a λY v y q c b=>?_]
  revert b q
  generalize frz y=t;intro q b;cases t<;>try exact q.elim
  cases b;refine#[_,_,rfl,rfl,?_];let⟨s,n,S⟩:=(h.same c).putA (.refl _) (NR.fz (.int _)) i;exact L.nx s _ _ _ q ((bU c).trans S) n
 |_=>rw[Z]at a;exact a.elim
def Io(n:Nat)(own b:Nat->Ψ)(G a:L2.St):Prop:=(∀j,b j=own j\/(j<n/\b j=[]))/\a.length=G.length/\∀j,n<=j->a[j]?=G[j]?
def Io.refl : Io n own own G G:=#[λ_=>.inl rfl,rfl,λ_ _=>rfl]
def Io.trans{n:Nat}{own own1 g:Nat->Ψ}{G d c:L2.St}(a:Io n own own1 G d)(b:Io n own1 g d c):Io n own g G c :=
 #[λj=>(b.1 j).elim (λe=>(a.1 j).imp (λz=>e.trans z) λz=>#[z.1,e.trans z.2]) .inr,b.2.1.trans a.2.1,λj f=>(b.2.2 j f).trans (a.2.2 j f)]
def Io.same{d:Nat->Ψ}{c:L2.St}(a:Io n own d G c) : zT (hd (Ow own) H) (hd (Ow d) H):=jd (λb f=>by let⟨j,z⟩:=f;exact .inl #[j,(a.1 j).elim (λe=>e ▸ z) λe=>by rw[e.2]at z;cases z]) λ_ _ z=>z
abbrev zn:Type:=T->xo->(xo->Prop)->Prop
def gf(K:Frag)(n:Nat)(g:zn):TG:=λv G H Q=>∃own o t R,SR K own H G o/\Rep K (hd (Ow own) H) v t/\g t o R/\∀c a b,R b->Io n own c G a->SR K c H a b->Q a H
def QG(X:Cx)(n:Nat)(a:Expr)(g:zn):Prop:=PG X a (gf X.K n g)
abbrev ze:Type:=xk->xo->(xo->Prop)->Prop
def kG(X:Cx)(n:Nat)(d:xw)(g:ze):Prop:=PGs X d λv G H Q=>∃own o t R,SR X.K own H G o/\bY X.K (hd (Ow own) H) v t/\g t o R/\∀c a b,R b->Io n own c G a->SR X.K c H a b->Q a H
def PGs.imp{a:xw}{t b:fj}(h:PGs X a t)(i:∀v G H Q,b v G H Q->t v G H Q):PGs X a b:=λU s G H v u Q I r q=>h U s G H v u Q I r (i _ _ _ _ q)
def hName(i:Nat):zn:=λt o q=>q (o.set i (.fz t))
def AG:ze:=λts o q=>match ts with|[]=>q o|_=>False
def EM(g:zn)(b:ze):ze:=λts o q=>match ts with|t::ts=>g t o λa=>b ts a q|_=>False
def Nd(n:Nat)(a:ze):zn:=λt o q=>match t with|.tup ts=>ts.length=n/\a ts o q|_=>False
def SR.setF(h:SR K own H G o)(r:Rep K (hd (Ow own) H) v t)(hi:i<n):∃p,SR K p H (G.set i (some v)) (o.set i (.fz t))/\Io n own p G (G.set i (some v)):=by
 have le:zT (hd (Ow own) H) (hd (Ow (own1 own i [])) H):=jd (λb z=>.inl (z.of1.elim id λy=>(nomatch y))) λ_ _ z=>z;have m:Io n own (own1 own i []) G (G.set i (some v)):=#[λj=>by
  by_cases z:j=i
  .exact .inr #[z ▸ hi,%[z,kj|_]]
  .exact .inl (gF z),WH,λj g=>VV vy]
 by_cases c:i<o.length
 .refine#[own1 own i [],#[%[WH,WH,h.len|_],λj y e=>?_,λj g a l=>?_,λj k a f d=>?_],m]
  .by_cases z:j=i
   .subst z;rw[Up c]at e;cases e;rw[kj,Up (h.len ▸ c)];exact#[rfl,v,rfl,r.same le]
   .rw[VV (Ne.symm z)]at e;rw[gF z,VV (Ne.symm z)];exact(h.sl j y e).same le λ_ _ z=>z
  .rw[WH]at g;rw[gF vy]at l;exact h.out j g a l
  .by_cases z:j=i
   .rw[z,kj]at f;cases f
   by_cases y:k=i
   .rw[y,kj]at d;cases d
   .rw[gF z]at f;rw[gF y]at d;exact h.dis j k a f d
 .refine#[own,?_,#[λ_=>.inl rfl,m.2]];rwa[mw (Nat.not_lt.mp c),mw (h.len ▸ Nat.not_lt.mp c)]
def bW(i:Nat)(hN:X.N.Nodup:=by assumption)(hx:fc X.env.scope x:=by first|exact .inl rfl|exact .inr rfl)(hi:‹X.N[i]?\x›)(hn:‹(i<n,2)›)(hf:zd X x:=by first|exact .inl rfl|exact .inr rfl|assumption):QG X n (.Name x O) (hName i):=(gU hN hi hx hf).imp λv G H Q b=>by
 let⟨own,o,t,R,h,r,a,k⟩:=b;let⟨d,c,S⟩:=h.setF r hn;exact k d _ _ a S c
def cT : kG X n [] AG:=I'.imp λv G H Q b=>by
 let⟨own,o,t,R,h,r,a,k⟩:=b;cases r with
 |nil=>exact#[rfl,k own G o a .refl h]
 |cons _ _=>exact a.elim
variable{g:zn}{gs:ze}{tg:Expr}
def bO(s:QG X n e g)(d:kG X n Z gs)(m:‹(assignEach (e::Z) X.env).map (·.2)=assign e X.env::(assignEach Z X.env).map (·.2)›):kG X n (e::Z) (EM g gs):=(N8 s d m).imp λv G H Q p=>by
 let⟨own,o,t,R,h,r,f,k⟩:=p;cases r with
 |nil=>exact f.elim
 |cons a b=>exact#[_,_,rfl,own,o,_,_,h,a,f,λx i l q S u=>#[x,l,_,R,u,b.same S.same,q,λw c j q y d=>k w c j q (S.trans y) d]]
def dY{m:Nat}(h:kG X m Z gs)(hc:‹X.calm›)(c:‹(assignEach Z X.env).length=n›)(f:‹zD X Z›):QG X m (.Tuple Z k O) (Nd n gs):=(HQ hc h c f).imp λv G H Q d=>by
 let⟨own,o,t,R,h,r,b,k⟩:=d;cases t<;>try exact b.elim
 let⟨a,I,rfl,e,r⟩:=r.tupI;exact#[a,I,rfl,cI.tup e,r.len.trans b.1,own,o,_,R,h,r,b.2,k]
def ND(a:RE)(g:zn):RS:=λE o=>a o λx=>g (frz x) o E.nx
def Uk(l:QE X e re)(k:QG X n tg g)(i:‹swapsWithSole [tg] e O.line X.env=pure false›)(f:‹swappedStores [tg] e X.env=pure none›)(p:‹(assignEach [tg] X.env).map (·.2)=[assign tg X.env]›):QS X (.Assign [tg] e O) (ND re g) :=
 (qP l k i f p).imp λD G H m=>by let⟨own,o,E,h,j,L⟩:=m;exact tQ.mk h j λY v y q b c=>#[own,o,_,_,h.same b,c,q,λs a d q S r=>L.nx s Y a d q ((bU b).trans S.same) r]
def start'(n:Nat)(ts:xk):xo:=ts.map OT.fz++replicate (n-ts.length) .und
def SR.start{H:Hp}{c:Ζ}{ts:xk}(r:bY K H c ts)(N:Φ):SR K (λ_=>[]) H (start N c) (start' N.length ts):=by
 have k:Ow (λ_=>[])=λ_=>False:=funext λb=>propext #[λg=>by let⟨_,z⟩:=g;exact(nomatch z),False.elim];refine#[by unfold start' L2.start;simp[r.len],λi x e=>?_,λ_ _ _ z=>(nomatch z),λi j a z=>(nomatch z)];rw[k,TQ];unfold start' at e;unfold L2.start;by_cases hi:i<ts.length
 .rw[aF ↑hi,aq,aj hi]at e;cases e;let⟨v,h,f⟩:=r.at_ (aj hi);rw[aF (by rwa[ak,r.len]),aq,h];exact#[rfl,v,rfl,f]
 .rw[aD ↑hi,ak,XG]at e;by_cases d:i-ts.length<N.length-ts.length
  .rw[ZY d]at e;cases e;rfl
  .rw[ZZ d]at e;cases e
def l7 : hd (Ow λ_=>[]) H=H:=%[show Ow (λ_=>[])=λ_=>False from funext λb=>propext #[λa=>by let⟨_,z⟩:=a;exact(nomatch z),False.elim],TQ|_]
def lL(q:∀W v x,R x->zT H W->NR K (λ_=>False) H W v x->Q v W)(S:Addr->Prop)(W:Hp)(v:V)(x:OT)(B:Ψ)(d:R x)(E:zT H (hd S W))(s:Slo K (hd S W) W (some v) B x)(c:∀a∈B,S a):Q v W :=
 q W v x d (E.trans cI) #[B,λa e=>E.free (rN (c a e)),s.same (jd (λb z=>.inl (z.elim False.elim (c b))) λ_ _ z=>z) λ_ _ z=>z]
def Fun.okT{i:Str}{N:Φ}{S:ST}(F:Fun K x i st f fd)(j:bL N ps (bH st))
 {r}(y:∀{c:Value}{A:Around}{a:xC}{s:Shared}{H:Hp}{E:XK},dZ k (A.deeper (envOfC i (bH st) s.zs f c))->N.Nodup ->eh (G_ bh P w K mg base N i (bH st) f c A a s H E).nox (fP st) r)(C:∀ts R,S ts R->r { nx:=λ_=>R (.fz .non),rt:=R } (start' N.length ts))(e:∀ts R,S ts R->ts.length=ps.length:=by intro _ _ h;repeat (first|exact(ZH List.length h.1).trans rfl|let⟨_,h⟩:=h)):fK P w K mg base bh (k+1) f fd ps (spT K S):=by
 refine F.ok j (λm H Q E h=>?_) λc A a s H m Q E n h=>?_
 .let⟨ts,R,r,g,_⟩:=h;exact r.len.trans (e ts R g)
 .let⟨ts,R,r,g,q⟩:=h;have u:=@y c A a s H E n j.nd;have t:=C;have l:=l7 (H:=H);have b:=lL q;refine#[_,u,λ_=>[],_,_,SR.start r N,t ts R g,#[λown W G o d E h=>?_,λD W v x B d E s p=>b D W v x B d (l ▸ E) s p,λ_ _ _ _ z=>z.elim,λ_ _ _ _ z=>z.elim,λ_ _ _ _ _ _ z=>z.elim]];exact b (Ow own) W .non _ [] d (l ▸ E) #[rfl,_,rfl,.non] λ_ z=>(nomatch z)
def Fun.okU{i:Str}{N:Φ}{S:ST}(F:Fun K x i st f fd)(j:bL N ps (bH st))
 (y:∀(c:Value)(A:Around)(a:xC)(s:Shared)(H:Hp)(E:XK),dZ k (A.deeper (envOfC i (bH st) s.zs f c))->N.Nodup ->
   ∃r,eh (G_ bh P w K mg base N i (bH st) f c A a s H E).nox (fP st) r/\∀ts R,S ts R->r { nx:=λ_=>R (.fz .non),rt:=R } (start' N.length ts))(e:∀ts R,S ts R->ts.length=ps.length:=by intro _ _ h;repeat (first|exact(ZH List.length h.1).trans rfl|let⟨_,h⟩:=h)):fK P w K mg base bh (k+1) f fd ps (spT K S):=by
 refine F.ok j (λm H Q E h=>?_) λc A a s H m Q E n h=>?_
 .let⟨ts,R,r,g,_⟩:=h;exact r.len.trans (e ts R g)
 .let⟨ts,R,r,g,q⟩:=h;let⟨rd,u,t⟩:=y c A a s H E n j.nd;have l:=l7 (H:=H);have b:=lL q;refine#[_,u,λ_=>[],_,_,SR.start r N,t ts R g,#[λown W G o d E h=>?_,λC W v x B d E s p=>b C W v x B d (l ▸ E) s p,λ_ _ _ _ z=>z.elim,λ_ _ _ _ z=>z.elim,λ_ _ _ _ _ _ z=>z.elim]];exact b (Ow own) W .non _ [] d (l ▸ E) #[rfl,_,rfl,.non] λ_ z=>(nomatch z)
abbrev RI:=xo->(xk->Prop)->Prop
def h7(K:Frag)(J:It)(F:Hp)(I:xk):Prop:=∀(S:Addr->Prop)(H:Hp)(i:Nat),(∀b,S b->H b≠none)->zT F (hd S H) ->
 (i=I.length->J.stop i H)/\∀t,I[i]?\t->J.go i H/\∀x W,J.yld i H x W->zT H W/\Rep K (hd S W) x t
def jf(K:Frag)(r:RI):TI:=λG H Q=>∃own o R,SR K own H G o/\r o R/\∀W J I,R I->zT H W->h7 K J (hd (Ow own) W) I->Q J W
def QI(X:Cx)(tg a:Expr)(r:RI):Prop:=PI X tg a (jf X.K r)
def PI.imp{b:Expr}{t a:TI}(h:PI X tg b t)(i:∀G H Q,a G H Q->t G H Q):PI X tg b a:=λU s G H Q I q=>h U s G H Q I (i G H Q q)
def PF(a:RE):RI:=λo q=>a o λx=>match frz x with|.lst ts=>q ts|_=>False
def Zf{t:Addr}{u:HO}(n:H t=none)(a:∀b,S b->H b≠none):hd S (upd H t u) t\u:=%[cZ λz=>a t z n|cu]
variable{a b iter bg:Expr}{bt aS:xw}{ri:RI}{rc rt:RT}{Y H0:Hp}{J sO:Scope}{N0:Φ}{C0:Addr}{s0:Shared}{c9:Ψ}{c5:Δ}{i0:Nat}{y0:Str}{q:xk->Prop}
def bZ(m:QE X e re):QI X tg e (PF re):=(ah8 m).imp λG H Q #[own,o,R,h,l,k]=>tQ.mk h l λY v x q n c=>by
 revert c q
 generalize frz x=t;intro q c;cases t<;>try exact q.elim
 let⟨a,I,rfl,e,r⟩:=c.lstI;refine#[a,rfl,#[I,.of (cW e).2],k Y _ _ q n λS s i _ b=>#[λhi=>#[I,.of (cW (b _ _ e)).2,%[r.len|WG hi.symm]],λt j=>?_]];let⟨y,d,f⟩:=r.at_ j;refine#[#[I,y,.of (cW (b _ _ e)).2,d],?_];rintro x p ⟨rfl,g⟩;have:=g I (.of (cW (b _ _ e)).2);rw[d]at this;cases this;exact#[.refl _,f.same b]
def rng(lo:Int)(n:Nat):xk:=(range n).map λk:Nat=>.int (lo+k)
def JA{lo:Int}{F:Hp} : h7 K (kM lo n) F (rng lo n):=λS H i _ _=>#[λhi=>by rw[rng,ak,WP]at hi;exact WG hi.symm,λt a=>by
 unfold rng at a;rw[aq]at a;by_cases hi:i<n
 .rw[VY hi]at a;cases a;refine#[hi,?_];rintro x W ⟨rfl,rfl⟩;exact#[.refl _,.int _]
 .rw[aM ↑hi]at a;cases a]
def NA(r:RA):RI:=λo q=>r o λts=>match ts with|[.int j]=>(-(2^62)<=j/\j<2^62)/\q (rng 0 j.toNat)|_=>False
def Nw(r:RA):RI:=λo q=>r o λts=>match ts with|[.int i,.int j]=>(-(2^62)<=i/\i<2^62/\-(2^62)<=j/\j<2^62)/\q (rng i (j-i).toNat)|_=>False
def c7(g:X.mg "range"=none)(m:QA X [a] r)(i:‹Gl X "range"›)(e:‹starEach [a] X.env=[(false,eval a X.env)]›):QI X tg (.Call (.Name "range" p) [a] [] O) (NA r):=(ac6 i g m e).imp λG H Q #[own,o,R,h,f,k]=>#[own,o,_,h,f,λY s ts q _ n d=>by
 rcases ts with _|⟨b,l⟩
 .exact q.elim
 obtain⟨j,rfl⟩ : ∃j,b=.int j:=by
  cases b with
  |int j=>exact#[j,rfl]
  |_=>exact q.elim
 rcases l with _|⟨t,l⟩<;>try exact q.elim
 let⟨x,rfl,c⟩:=d.one;cases c;exact#[j,rfl,q.1.1,q.1.2,k Y _ _ q.2 n JA]]
def Q8(s:X.mg "range"=none)(u:QA X [a,b] r)(t:‹Gl X "range"›)(m:‹starEach [a,b] X.env=[(false,eval a X.env),(false,eval b X.env)]›)(v:‹starEach [b] X.env=[(false,eval b X.env)]›):QI X tg (.Call (.Name "range" p) [a,b] [] O) (Nw r):=(acN t s u m v).imp λG H Q #[own,o,R,h,n,k]=>#[own,o,_,h,n,λY z ts q _ w g=>by
 rcases ts with _|⟨d,l⟩
 .exact q.elim
 obtain⟨i,rfl⟩ : ∃j,d=.int j:=by
  cases d with
  |int j=>exact#[j,rfl]
  |_=>exact q.elim
 rcases l with _|⟨c,l⟩<;>try exact q.elim
 obtain⟨j,rfl⟩ : ∃j,c=.int j:=by
  cases c with
  |int j=>exact#[j,rfl]
  |_=>exact q.elim
 rcases l with _|⟨A,l⟩<;>try exact q.elim
 let⟨x,y,rfl,f,e⟩:=g.two;cases f;cases e;exact#[i,j,rfl,q.1,k Y _ _ q.2 w JA]]
def uh(ts:xk):xk:=ts.zipIdx.map λp=>.tup [.int (p.2:Nat),p.1]
def NV(r:RA):RI:=λo q=>r o λts=>match ts with|[.lst ts]=>q (uh ts)|_=>False
def qO{s}(A:X.mg "enumerate"=none)(C:QA X [a] r)(B:‹Gl X "enumerate"›)(d:‹starEach [a] X.env=[(false,eval a X.env)]›):QI X (.Tuple bt s aE) (.Call (.Name "enumerate" p) [a] [] O) (NV r):=(agZ B A C d).imp λG H Q #[own,o,R,h,z,k]=>#[own,o,_,h,z,λY J ts q _ E w=>by
 rcases ts with _|⟨f,l⟩
 .exact q.elim
 obtain⟨ts,rfl⟩ : ∃j,f=.lst j:=by
  cases f with
  |lst j=>exact#[j,rfl]
  |_=>exact q.elim
 rcases l with _|⟨K,l⟩<;>try exact q.elim
 let⟨x,rfl,v⟩:=w.one;let⟨a,I,rfl,e,r⟩:=v.lstI;refine#[a,I,rfl,(cW e).2,k Y _ _ q E λS N i d c=>#[λhi=>#[I,(cW (c _ _ e)).2,by rw[r.len,hi];simp[uh]],λt b=>?_]];unfold uh at b;rw[aq]at b;by_cases hi:i<ts.length
 .rw[aj ↑hi,Q2]at b;cases b;let⟨y,D,u⟩:=r.at_ (aj hi);refine#[#[I,(cW (c _ _ e)).2,by rwa[r.len]],?_];rintro x M ⟨L,F,t,m,g,n,rfl,rfl⟩;rw[(cW (c _ _ e)).2]at m;cases m;rw[D]at g;cases g;refine#[zT.upd n,.tup (.of (Zf n d)) (.cons ?_ (.cons (u.same (c.trans (bU (zT.upd n)))) .nil))];rw[show((0+i:Nat):Int)=(i:Int)by lia];exact .int _
 .rw[aM ↑hi]at b;cases b]
def G3(ts a:xk):xk:=(ts.zip a).map λp=>.tup [p.1,p.2]
def N3(r:RA):RI:=λo q=>r o λts=>match ts with|[.lst ts,.lst a]=>q (G3 ts a)|_=>False
def Im{E}(N:X.mg "zip"=none)(T:QA X [a,b] r)(P:‹Gl X "zip"›)(s:‹starEach [a,b] X.env=[(false,eval a X.env),(false,eval b X.env)]›)(U:‹starEach [b] X.env=[(false,eval b X.env)]›):QI X (.Tuple bt E aE) (.Call (.Name "zip" p) [a,b] [] O) (N3 r):=(GA P N T s U).imp λG H Q #[own,o,R,h,M,k]=>#[own,o,_,h,M,λY vs ts q _ Z L=>by
 rcases ts with _|⟨v,l⟩
 .exact q.elim
 obtain⟨ts,rfl⟩ : ∃j,v=.lst j:=by
  cases v with
  |lst j=>exact#[j,rfl]
  |_=>exact q.elim
 rcases l with _|⟨u,l⟩<;>try exact q.elim
 obtain⟨F,rfl⟩ : ∃j,u=.lst j:=by
  cases u with
  |lst j=>exact#[j,rfl]
  |_=>exact q.elim
 rcases l with _|⟨t3,l⟩<;>try exact q.elim
 let⟨x,y,rfl,K,g⟩:=L.two;let⟨a,I,rfl,e,r⟩:=K.lstI;let⟨b,ys,rfl,f,m⟩:=g.lstI;refine#[a,b,I,ys,rfl,(cW e).2,(cW f).2,k Y _ _ q Z λS H2 i s c=>#[λhi=>#[I,ys,(cW (c _ _ e)).2,(cW (c _ _ f)).2,?_],λt d=>?_]]
 .rw[r.len,m.len];rw[G3,ak,VZ]at hi;lia
 .unfold G3 at d;rw[aq]at d;by_cases hi:i<ts.length/\i<F.length
  .rw[aj (by rw[VZ];lia),JP]at d;cases d;let⟨y,W,g⟩:=r.at_ (aj hi.1);let⟨z,V,J⟩:=m.at_ (aj hi.2);refine#[#[I,ys,(cW (c _ _ e)).2,(cW (c _ _ f)).2,%[r.len|hi.1],%[m.len|hi.2]],?_];rintro x H3 ⟨f8,kz,x',y',t,C,w,B,A,n,rfl,rfl⟩;rw[(cW (c _ _ e)).2]at C;cases C;rw[(cW (c _ _ f)).2]at w;cases w;rw[W]at B;cases B;rw[V]at A;cases A;have D:=c.trans (bU (S:=S) (zT.upd (o:=.tup [y,z]) n));exact#[zT.upd n,.tup (.of (Zf n s)) (.cons (g.same D) (.cons (J.same D) .nil))]
  .rw[aM (by rw[VZ];lia)]at d;cases d]
def vV(g:zn)(b:RS)(E:DT):xk->xo->Prop
 |[],o=>E.nx o
 |t::ts,o=>∃N:xo->Prop,(∀o,N o->vV g b E ts o)/\g t o λa=>b { E with nx:=N,ct:=N,bk:=E.nx } a
def Oy(a:RI)(g:zn)(b:RS):RS:=λE o=>a o λI=>vV g b E I o
def cY{R:wq}{rb:RS}(hi:QI X tg iter ri)(hg:QG X n tg g)(hb:eh X R rb)(hc:‹X.calm›)(hp:PassesOwn (model X.prog X.w) X.A X.env X.xe:=by first|exact PassesOwn.never|exact PassesOwn.leaving)
 (hs:zh X iter:=by intro _;rfl):QS X (.For tg iter R [] O) (Oy ri g rb):=(FO hp hc hi hg hb hs).imp λD G H #[own,o,E,h,hr,L]=>#[own,o,_,h,hr,λY J I q P Z=>by
 refine#[λi m e W=>∃f p,SR X.K f W e p/\zT (hd (Ow own) Y) (hd (Ow f) W)/\vV g rb E (I.drop i) p/\i<=I.length/\m=I.length-i,#[_,own,o,h.same P,.refl _,q,aZ _,rfl],?_];rintro i m e W ⟨f,p,v,C,j,il,rfl⟩;let⟨w1,w2⟩:=Z (Ow f) W i (λb z=>(v.sole z).ne) C;have S0:=(bU P).trans C;by_cases hi:i<I.length
 .right;let⟨go,V⟩:=w2 _ (aj hi);rw[QP hi]at j;let⟨N,Q,j⟩:=j;refine#[go,λk s=>∃u t,SR X.K u s k t/\zT (hd (Ow own) Y) (hd (Ow u) s)/\vV g rb E (I.drop (i+1)) t,λk s #[u,t,a,b,c]=>#[I.length-(i+1),by omega,u,t,a,b,c,hi,rfl],λx s y=>?_];let⟨T,rx⟩:=V x s y;refine#[f,p,_,_,v.same T,rx,j,λgv U o3 q3 j' h3=>#[gv,o3,_,h3,q3,?_]];have B:=C.trans ((bU (S:=Ow f) T).trans j'.same);have F:=L.step ((bU P).trans B);exact#[λr M d l q S h=>#[r,l,h,B.trans S,Q _ q],F.rt,λr M d l q S h=>F.nx r M d l q S h,λr M d l q S h=>#[r,l,h,B.trans S,Q _ q],F.xc]
 .left;refine#[w1 vy,?_];rw[Th (Nat.not_lt.mp hi)]at j;exact L.nx f W e p j S0 v]
def _d(c:RT)(b:RS):RS:=λE o=>∃W:Nat->xo->Prop,(∃m,W m o)/\∀m o,W m o->c o λk=>sw k (∃N:xo->Prop,(∀a,N a->∃d,d<m/\W d a)/\b { E with nx:=N,ct:=N,bk:=E.nx } o) (E.nx o)
def O5{B:wq}{rb:RS}(R:QT X c rc)(T:eh X B rb)(Q:PassesOwn (model X.prog X.w) X.A X.env X.xe:=by first|exact PassesOwn.never|exact PassesOwn.leaving):QS X (.While c B [] O) (_d rc rb):=(YC Q R T).imp λD G H n=>by
 let⟨own,o,E,h,P,L⟩:=n;let⟨d,⟨J,I⟩,st⟩:=P;refine#[λm f W=>∃r g,SR X.K r W f g/\zT (hd (Ow own) H) (hd (Ow r) W)/\d m g,#[J,own,o,h,.refl _,I],?_];rintro m f W ⟨r,g,u,C,F⟩;refine tQT.mk u (st m g F) λY k q t=>Nq q (λn=>?_) λq=>L.nx r Y f g q (C.trans (bU t)) (u.same t);let⟨N,U,q⟩:=n;have v:=C.trans (bU t);have x:=L.step v;refine#[λi z=>∃s l,SR X.K s z i l/\zT (hd (Ow own) H) (hd (Ow s) z)/\N l,λi z n=>?_,r,g,_,u.same t,q,#[λp y e j q S h=>#[p,j,h,v.trans S,q],x.rt,λp y e j q S h=>x.nx p y e j q S h,λp y e j q S h=>#[p,j,h,v.trans S,q],x.xc]];let⟨s,l,a,b,c⟩:=n;let⟨M,lt,w⟩:=U l c;exact#[M,lt,s,l,a,b,w]
def iG(g:zn)(c:RT)(e:RE)(o:xo):xk->(xk->Prop)->Prop
 |[],q=>q []
 |t::ts,q=>∃(N:T->Prop)(M:Prop),(∀y,N y->iG g c e o ts λd=>q (y::d))/\(M->iG g c e o ts q)/\g t o λa=>c a λb=>sw b (e a λy=>N (frz y)) M
def Pd:RT:=λ_ q=>q true
def WW(b:RI)(n:Nat)(g:zn)(c:RT)(e:RE):RE:=λo q=>b o λI=>I.length<=sizeLine/\iG g c e (replicate n .und++o) I λa=>q (.l1 a)
def ownL2(n L:Nat)(own:Nat->Ψ)(A:Ψ):Nat->Ψ:=λi=>if i<n then[]else if i<n+L then own (i-n)else if i=n+L then A else own (i-n-1)
def Ow.ownL2{n L:Nat}{own:Nat->Ψ}{A:Ψ}{b:Addr} : Ow (ownL2 n L own A) b↔Ow own b\/b∈A:=by
 constructor
 .rintro⟨i,z⟩;unfold L2.ownL2 at z;by_cases d:i<n
  .rw[ZY d]at z;cases z
  rw[ZZ d]at z;by_cases c:i<n+L
  .rw[ZY c]at z;exact .inl #[_,z]
  rw[ZZ c]at z;by_cases a:i=n+L
  .rw[ZY a]at z;exact .inr z
  .rw[ZZ a]at z;exact .inl #[_,z]
 .rintro(⟨i,z⟩|z)
  .by_cases h:i<L
   .exact#[n+i,by unfold L2.ownL2;rw[ZZ (QQ (X1 _ _)),ZY (Nat.add_lt_add_left h _),show n+i-n=i by exact JU _ _];exact z]
   .exact#[n+i+1,by unfold L2.ownL2;rw[ZZ vy,ZZ vy,ZZ vy,show n+i+1-n-1=i by lia];exact z]
  .exact#[n+L,by unfold L2.ownL2;rw[ZZ (QQ (X1 _ _)),ZZ (X2 _),ZY rfl];exact z]
def SR.blockL(h:SR K own H G o){A:Ψ}(E:zT H W)(r:∀a∈A,H a=none)(v:∀a∈A,∃ys,W a\(.lst ys))(c:L2.St):SR K (ownL2 c.length o.length own A) W (c++G) (replicate c.length .und++o):=by
 have le:zT (hd (Ow own) H) (hd (Ow (ownL2 c.length o.length own A)) W):=jd (λb z=>(Ow.ownL2.mp z).imp id (r b)) E;have n:∀j,∀a∈A,a∉own j:=λj a g z=>(h.sole #[j,z]).ne (r a g);refine#[by simp[h.len],λi x e=>?_,λi hi a g=>?_,λi j a f d=>?_]
 .by_cases m:i<c.length
  .rw[aF ↑m,XG,ZY m]at e;cases e;show ownL2 _ _ _ _ i=[];unfold ownL2;rw[ZY m]
  .rw[aD ↑m,aN]at e;have w:i-c.length<o.length:=(ao.mp e).1;rw[aD (Nat.not_lt.mp m)];have:ownL2 c.length o.length own A i=own (i-c.length):=by unfold ownL2;rw[ZZ m,ZY (by omega)]
   rw[this];exact(h.sl _ x e).same le E
 .rw[aA,aN]at hi;unfold ownL2 at g;rw[ZZ vy,ZZ (QQ hi)]at g;by_cases s:i=c.length+o.length
  .rw[ZY s]at g;exact v a g
  .rw[ZZ s]at g;let⟨I,e⟩:=h.out _ vy a g;exact#[I,E _ _ e]
 .unfold ownL2 at f d;by_cases u:i<c.length
  .rw[ZY u]at f;cases f
  by_cases t:j<c.length
  .rw[ZY t]at d;cases d
  rw[ZZ u]at f;rw[ZZ t]at d;by_cases q:i<c.length+o.length<;>by_cases p:j<c.length+o.length
  .rw[ZY q]at f;rw[ZY p]at d;have:=h.dis _ _ a f d;omega
  .rw[ZY q]at f;rw[ZZ p]at d;by_cases k:j=c.length+o.length
   .rw[ZY k]at d;exact absurd f (n _ a d)
   .rw[ZZ k]at d;have:=h.dis _ _ a f d;omega
  .rw[ZZ q]at f;rw[ZY p]at d;by_cases l:i=c.length+o.length
   .rw[ZY l]at f;exact absurd d (n _ a f)
   .rw[ZZ l]at f;have:=h.dis _ _ a f d;lia
  .rw[ZZ q]at f;rw[ZZ p]at d;by_cases l:i=c.length+o.length<;>by_cases k:j=c.length+o.length
   .exact Eq.trans l (Eq.symm k)
   .rw[ZY l]at f;rw[ZZ k]at d;exact absurd d (n _ a f)
   .rw[ZZ l]at f;rw[ZY k]at d;exact absurd f (n _ a d)
   .rw[ZZ l]at f;rw[ZZ k]at d;have:=h.dis _ _ a f d;lia
def ownS(n L:Nat)(own:Nat->Ψ)(D:Addr):Nat->Ψ:=ownL2 n L own [D]
def Ow.ownS{n L:Nat}{own:Nat->Ψ}{D b:Addr} : Ow (ownS n L own D) b↔Ow own b\/b=D:=Ow.ownL2.trans (or_congr_right YR)
def SR.block(h:SR K own H G o)(E:zT H W)(c:H D=none)(d:W D\(.lst ys))(b:L2.St):SR K (ownS b.length o.length own D) W (b++G) (replicate b.length .und++o):=h.blockL E (λa z=>YR.mp z ▸ c) (λa z=>YR.mp z ▸ #[_,d]) b
def Xz{d:Nat->Ψ}{b a:L2.St}(e:b.length=n)(g:Io n own d (b++G) a):∃c:L2.St,c.length=n/\a=c++G:=by
 let⟨_,l,k⟩:=g;refine#[a.take n,by rw[aY,l,aA];lia,?_];refine Q3 λi=>?_;by_cases hi:i<n
 .rw[aF (by rw[aY,l,aA];lia),List.getElem?_take_of_lt hi]
 .rw[aD (by rw[aY,l,aA];lia),k i (VU hi),aD vy,aY,l,aA]
  congr 1
  lia
def Xr{J:It}{I:xk}(h1:SR K own Y G o)(wk:h7 K J (hd (Ow own) Y) I)(lx:I.length<=sizeLine)(q:iG g rc re (replicate n .und++o) I λF=>R (.l1 F))(s:Y D=none)(k:∀W v x,R x->zT Y W->NR K (Ow own) Y W v x->Q v W) :
  ∃a:Nat->Nat->Ζ->Hp->Prop,(∃m,a 0 m [] (upd Y D (.lst [])))/\∀i m ys c,a i m ys c ->
   (J.stop i c/\Q (.ref D) c)\/(J.go i c/\∀x W,J.yld i c x W->∀d:L2.St,d.length=n->gS (gf K n g) x (d++G) W λl E=>∃C:L2.St,C.length=n/\l=C++G/\gL (tQT K rc) l E λb P =>
    match b with
    |true=>tM (tQ K re) l P λy O=>ys.length<sizeLine/\O D=some (.lst ys)/\∃t,t<m/\a (i+1) t (ys++[y]) (upd O D (.lst (ys++[y])))
    |false=>∃t,t<m/\a (i+1) t ys P):=by
 generalize hO:replicate n OT.und++o=H at q;refine#[λi m ys c=>∃ts,c D\(.lst ys)/\zT Y c/\bY K (hd (λb=>Ow own b\/b=D) c) ys ts/\ys.length<=i/\i<=I.length/\m=I.length-i/\iG g rc re H (I.drop i) λF=>R (.l1 (ts++F)),#[_,[],cu,zT.upd s,.nil,aG _,aZ _,rfl,q],?_];rintro i m ys c ⟨ts,w,r,A,X,ix,rfl,f⟩;have hn:∀b,Ow own b\/b=D->c b≠none:=λb z=>z.elim (λz=>((h1.same r).sole z).ne) λe z=>by rw[e,w]at z;cases z
 have SD:zT (hd (Ow own) Y) (hd (λb=>Ow own b\/b=D) c):=jd (λb z=>z.imp id λ(e:b=D)=>e ▸ s) r;let⟨w1,w2⟩:=wk (λb=>Ow own b\/b=D) c i hn SD;by_cases hi:i<I.length
 .right;let⟨go,yl⟩:=w2 _ (aj hi);rw[QP hi]at f;let⟨N,M,hN,hM,f⟩:=f;refine#[go,λx E y d Z=>?_];let⟨h,U⟩:=yl x E y;have L:(λb=>Ow own b\/b=D)=Ow (ownS n o.length own D):=funext λb=>propext Ow.ownS.symm;have hb:SR K (ownS n o.length own D) E (d++G) H:=by
   have:=h1.block (r.trans h) s (h _ _ w) d;rw[Z,hO]at this;exact this
  rw[L]at U A;refine#[_,#[ownS n o.length own D,H,_,_,hb,U,f,λgv σ3 o3 q3 V h3=>?_],λ_ _ z=>z];let⟨C,eR,rfl⟩:=Xz Z V;have e3:gv=ownS n o.length own D:=funext λj=>by
   rcases V.1 j with e|⟨e1,e2⟩
   .exact e
   .rw[e2];exact(ZY e1).symm
  subst e3;refine#[C,eR,rfl,_,tQT.mk h3 q3 λP b B p=>?_,λ_ _ z=>z];have B:sw b (re o3 λy=>N (frz y)) M:=B;cases b with
  |false=>exact#[I.length-(i+1),by lia,ts,p _ _ (h _ _ w),r.trans (h.trans p),%[L|A.same (bU (h.trans p))],by exact aL X (X1 _ _),by exact hi,rfl,hM B]
  |true =>
   refine#[_,tQ.mk (h3.same p) B λO v y q5 T r4=>#[by lia,T _ _ (p _ _ (h _ _ w)),I.length-(i+1),by lia,ts++[frz y],cu,λb u e=>?_,?_,%[aA,length_singleton|succ_le_succ X],by exact hi,rfl,?_],λ_ _ z=>z]
   .rw[b_ λz=>by rw[z,s]at e;cases e];exact T _ _ (p _ _ (h _ _ (r _ _ e)))
   .rw[Br (S:=λb=>Ow own b\/b=D) (.inr rfl),L];exact(A.same (bU (h.trans (p.trans T)))).app (.cons r4 .nil)
   .have:=hN _ q5;simp only[Wp,List.singleton_append];exact this
 .left;have:i=I.length:=by lia
  refine#[w1 this,?_];rw[Th (VU hi)]at f;have f:R (.l1 (ts++[])):=f;rw[append_nil]at f;exact k c _ _ f r (NR.l1 s w A)
def O6(h:tQ K (WW ri n g rc re) G H Q):vO (jf K ri) n (gS (gf K n g)) (gL (tQT K rc)) (tM (tQ K re)) G H Q:=by
 let⟨own,o,R,h,e,k⟩:=h;exact#[own,o,_,h,e,λY J I q a b D d=>Xr (h.same a) b q.1 q.2 d λW v x c E n=>k W v x c (a.trans E) (n.back a)]
def f_(X:Cx)(aS:xw)(r:RT):Prop:=PTs X aS (tQT X.K r)
def cj:f_ X [] Pd:=λU s G H Q I b=>by let⟨own,o,R,h,a,k⟩:=b;exact ahI U s G H Q I (k H true a (.refl _))
def FW(h:QT X c rc):f_ X [c] rc:=ahA h
def cL(f:Scope)(N e I:Φ)(hi:QI X tg iter ri)(l:∀{C a b d c},QG (X.compG e J I C a b d c) I.length tg g)(i:∀{C a b d c},f_ (X.compG e J I C a b d c) aS rc)(m:∀{C a b d c},QE (X.compG e J I C a b d c) bg re)
 (o:‹X.env.scope=f›)(p:‹X.N=N›)(n:‹X.calm›)(k:‹J.kind=.function›)(h:CK f J N e I:=by decide +kernel)(j:zh X iter:=by intro _;rfl):QE X (.ListComp bg [#[tg,iter,aS,0]] J O) (WW ri I.length g rc re) :=
 (Iq (gt:=gf X.K I.length g) (tc:=tQT X.K rc) (te:=tQ X.K re) f N e I hi l i m o p n k h j).imp λ_ _ _=>O6
def zj{X:Cx}{tg iter bg:Expr}{aS:List Expr}{ri:RI}{g:zn}{rc:RT}{re:RE}{J:Scope}{O:Pos}(Z:RI->Nat->zn->RT->RE->RE)(r:∀{K G H Q ri n g rc re},tQ K (Z ri n g rc re) G H Q->vO (jf K ri) n (gS (gf K n g)) (gL (tQT K rc)) (tM (tQ K re)) G H Q)(j:Scope)(N i:Φ)(c:Str)(hi:QI X tg iter ri)(o:∀{C a b e d},QG (X.compGC i J c C a b e d) 1 tg g)(k:∀{C a b e d},f_ (X.compGC i J c C a b e d) aS rc)(p:∀{C a b e d},QE (X.compGC i J c C a b e d) bg re)
 (u:‹X.env.scope=j›)(v:‹X.N=N›)(q:‹X.calm›)(m:‹J.kind=.function›)(t:∀n f,cellsFrom n J.names f=(c,n)::f:=by intro _ _;rfl)(s:∀h,pushCells h J.names=h.push { cls:=.type "cell",data:=.cell none }:=by intro _;rfl)(h:(∀y∈J.names,y.2=.cell->y.1=c)/\LA j J N i [c]:=by decide +kernel)(l:zh X iter:=by intro _;rfl):QE X (.ListComp bg [#[tg,iter,aS,0]] J O) (Z ri 1 g rc re):=PE.imp (by subst u v;exact YB (ext1 t s h.1) q h.2.1 m h.2.2.1 h.2.2.2.1 h.2.2.2.2.1 h.2.2.2.2.2 hi (λ_ _ _ _ _=>o.mono) (λ_ _ _ _ _=>k.mono) (λ_ _ _ _ _=>p.mono) l) λ_ _ _=>r
def ahS:=@zj X tg iter bg aS ri g rc re J O WW O6
def IM{c:Str}(i:Scope)(N f I:Φ)(hi:QI (X.compGC N0 sO c C0 s0 H0 c9 c5) tg iter ri)(m:∀{C a b e d},QG ((X.compGC N0 sO c C0 s0 H0 c9 c5).compG f J I C a b e d) I.length tg g)(j:∀{C a b e d},f_ ((X.compGC N0 sO c C0 s0 H0 c9 c5).compG f J I C a b e d) aS rc)(n:∀{C a b e d},QE ((X.compGC N0 sO c C0 s0 H0 c9 c5).compG f J I C a b e d) bg re)
 (p:‹X.env.scope=i›)(q : [c]++N0=N:=by rfl)(o:‹X.calm›)(l:‹J.kind=.function›)(h:CK (g6 i sO) J N f I:=by decide +kernel)(k:∀z,foldedSetIterable iter (X.compGC N0 sO c C0 s0 H0 c9 c5).env z=pure z:=by intro _;rfl):QE (X.compGC N0 sO c C0 s0 H0 c9 c5) (.ListComp bg [#[tg,iter,aS,0]] J O) (WW ri I.length g rc re):=by
 subst p q;exact cL (X:=X.compGC N0 sO c C0 s0 H0 c9 c5) (g6 X.env.scope sO) _ f I hi m j n rfl rfl o l h k
def zF{X:Cx}{tg iter bg:Expr}{aS:List Expr}{ri:RI}{g:zn}{rc:RT}{re:RE}{J:Scope}{O:Pos}{i0:Nat}{y0:Str}{f k:Pos}(Z:Nat->RI->Nat->zn->RT->RE->RS)(r:∀{X i0 ri n g rc re D G H},ik X (Z i0 ri n g rc re) D G H->iO (vO (jf X.K ri) n (gS (gf X.K n g)) (gL (tQT X.K rc)) (tM (tQ X.K re))) (yH i0) D G H)(i:Scope)(N e I:Φ)(hi:QI X tg iter ri)(o:∀{C a b d c},QG (X.compG e J I C a b d c) I.length tg g)(l:∀{C a b d c},f_ (X.compG e J I C a b d c) aS rc)(p:∀{C a b d c},QE (X.compG e J I C a b d c) bg re)(s:PG X (.Name y0 f) (yH i0))
 (u:‹X.env.scope=i›)(v:‹X.N=N›)(q:‹X.calm›)(j:‹J.kind=.function›)(h:CK i J N e I:=by decide +kernel)(t:‹swapsWith (.ListComp bg [#[tg,iter,aS,0]] J O) (some (.Name y0 f)) k.line X.env=pure true›)(m:zh X iter:=by intro _;rfl):QS X (.Assign [.Name y0 f] (.ListComp bg [#[tg,iter,aS,0]] J O) k) (Z i0 ri I.length g rc re):=PS.imp (by subst u v;exact aeE (vK j h.1) q h.2.1 j h.2.2.1 h.2.2.2.1 h.2.2.2.2.1 h.2.2.2.2.2 hi (λ_ _ _ _ _=>o.mono) (λ_ _ _ _ _=>l.mono) (λ_ _ _ _ _=>p.mono) s t m) λ_ _ _=>r
def FY{a f:Pos}:=@zF X tg iter bg aS ri g rc re J O i0 y0 a f (λi r n g c e=>om i (WW r n g c e)) λ{_ i0 _ _ _ _ _ _ _ _}#[own,o,E,h,b,L]=>O6 #[own,o,_,h,b,λW v y q S n=>by
 let⟨j,d,k⟩:=h.putA S n i0;exact L.nx j W _ _ q k d]
def dH{c I:Φ}{C a b e d}(j:(I++c).Nodup:=by decide +kernel)(hi:‹(I++c)[i]?\x›)(g:‹(i<n,2)›)(f:fc (X.compG c J I C a b e d).env.scope x:=by exact Or.inl rfl)(h:(X.compG c J I C a b e d).fn x\/(X.compG c J I C a b e d).env.scope.names.lookup x=some .local:=by exact Or.inr rfl):QG (X.compG c J I C a b e d) n (.Name x p) (hName i):=bW (i:=i) (hN:=j) (hx:=f) (hi:=hi) (hn:=g) (hf:=h)
def EZ{d:Φ}{c:Str}{C a b h e}(g:([c]++d).Nodup:=by decide +kernel)(f:fc (X.compGC d J c C a b h e).env.scope c:=by exact Or.inr rfl):QG (X.compGC d J c C a b h e) 1 (.Name c p) (hName 0)   := bW (i:=0) (hN:=g) (hx:=f) (hi:=rfl) (hn:=vw) (hf:=(.inl (beq_self_eq_true _)))
def ac4{c:RT}{e:RE}(h:g t o λd=>c d λb=>sw b (e d λy=>iG g c e o ts λa=>q (frz y::a)) (iG g c e o ts q)):iG g c e o (t::ts) q:=#[λy=>iG g c e o ts λa=>q (y::a),_,λ_ h=>h,id,h]
theorem bY.reps{K:Frag}{F:Hp}{I:Ζ}{ts:xk}(h:bY K F I ts):∀n:Nat,bY K F (replicate n I).flatten (replicate n ts).flatten
 |0=>.nil
 |n+1=>%[replicate_succ,replicate_succ,flatten_cons,flatten_cons|h.app (bY.reps h n)]
def cN:GO X (binaryOp .Mult) MQ:=λU s G H x y v u Q b g f h=>by
 let⟨S,t,w,R,_,i,A,d,k⟩:=h;cases w with
 |int j=>?_
 |_=>cases t<;>exact d.elim
 cases A;cases t<;>try exact d.elim
 .cases i;exact Tj U s G H _ _ v u Q b g f #[_,_,rfl,rfl,d.1,k H _ _ d.2 (.refl _) (NR.fz (.int _))]
 .cases i;let⟨c,rfl,n,m,q⟩:=d;exact aiD U s G H _ _ v u Q b g f #[c,j,rfl,rfl,n,m,λz o=>k H _ _ (q z o) (.refl _) (NR.fz (.str _))]
 .let⟨p,I,rfl,e,r⟩:=i.lstI;let⟨⟨n,m,B⟩,q⟩:=d;exact _F U s G H _ _ v u Q b g f #[p,j,I,rfl,rfl,(cW e).2,n,m,%[r.len|B],λa l=>k _ _ _ (q _ rfl) (zT.upd l) (Aa (r.reps j.toNat) (zT.upd l) l cu)]
mutual
def dc:PyData->T
 |.none=>.non
 |.bool b=>.bl b
 |.int i=>.int i
 |.str s=>.str s
 |.list a=>.lst (Tt a)
 |.tuple a=>.tup (Tt a)
 |.dict _=>.any
def Tt:xD->xk
 |[]=>[]
 |d::a=>dc d::Tt a
end
mutual
theorem Rep.shows{K:Frag}{F:Hp} : ∀{x:V}{t:T},Rep K F x t->∀d,t=dc d->d.canLay0=true->iw K F x d
 |_,_,.any v,d,e,s=>by cases d<;>cases e;cases s
 |_,_,.non,d,e,_=>by cases d<;>cases e;exact .non
 |_,_,.bl b,d,e,_=>by cases d<;>cases e;exact .bl _
 |_,_,.int i,d,e,_=>by cases d<;>cases e;exact .int _
 |_,_,.str s,d,e,_=>by cases d<;>cases e;exact .str _
 |_,_,.val v,d,e,_=>by cases d<;>cases e
 |_,_,.tup q h,d,e,s=>by
  cases d<;>cases e;exact .tup q (bY.shows h _ rfl s)
 |_,_,.lst q h,d,e,s=>by
  cases d<;>cases e;exact .lst q (bY.shows h _ rfl s)
 |_,_,.scr q h,d,e,_=>by cases d<;>cases e
 |_,_,.dct q l h,d,e,_=>by cases d<;>cases e
 |_,_,.ins q a l h,d,e,_=>by cases d<;>cases e
 |_,_,.exc q a l h,d,e,_=>by cases d<;>cases e
theorem bY.shows{K:Frag}{F:Hp} : ∀{I:Ζ}{ts:xk},bY K F I ts->∀c,ts=Tt c->PyData.canLayAll0 c=true->eZ K F I c
 |_,_,.nil,c,e,_=>by cases c<;>cases e;exact .nil
 |_,_,.cons a b,c,e,s=>by
  cases c<;>cases e;let⟨f,d⟩:=Bool.and_eq_true_iff.mp s;exact .cons (Rep.shows a _ rfl f) (bY.shows b _ rfl d)
end
def xr:Bool->Bool->Bool
 |false,b=>b
 |true,b=>!b
def iz:T->T->wr
 |.int i,.int j=>some (decide (i=j))
 |.str i,.str j=>some (decide (i=j))
 |.bl i,.bl j=>some (decide (i=j))
 |.non,.non=>some true
 |.non,.int _=>some false
 |.int _,.non=>some false
 |.non,.str _=>some false
 |.str _,.non=>some false
 |.int _,.str _=>some false
 |.str _,.int _=>some false
 |.tup [.int a,.int b],.tup [.int c,.int d]=>some (decide (a=c)&&decide (b=d))
 |_,_=>none
def hU(a:Bool)(t u:T)(q:OT->Prop):Prop:=match iz t u with
 |some b=>q (.fz (.bl (xr a b)))
 |none=>∃d e,t=dc d/\u=dc e/\SeqAt.shaped d/\SeqAt.shaped e/\q (.fz (.bl (xr a (PyData.eqv d e))))
def pM(a b c d:Int):PyData.eqv (.tuple [.int a,.int b]) (.tuple [.int c,.int d])=(decide (a=c)&&decide (b=d)):=by
 simp only[PyData.eqv,PyData.eqvAll,Bool.and_true]
 rfl
def sv:T->wv
 |.non=>some .non
 |.bl b=>some (.bl b)
 |.int i=>some (.int i)
 |.str s=>some (.str s)
 |_=>none
def Rep.sca{F:Hp}{x:V}(h:Rep K F x t)(e:sv t\v):x=v:=by cases h<;>cases e<;>rfl
def EqC(t u:T)(b:Bool):Prop:=(∃v w,sv t\v/\sv u=some w/\iC v w/\decide (v=w)=b)\/∃i j k l,t=.tup [.int i,.int j]/\u=.tup [.int k,.int l]/\(decide (i=k)&&decide (j=l))=b
def WF{u:T}{b:Bool}(e:iz t u\b):EqC t u b:=by
  cases t with
  |tup t=>
   iterate 2
    obtain _|⟨r,t⟩:=t
    .cases e
    cases r<;>try (cases e;done)
   cases t with|cons=>cases e|nil=>
    cases u<;>try (cases e;done)
    rename_i u;iterate 2
     obtain _|⟨r,u⟩:=u
     .cases e
     cases r<;>try (cases e;done)
    cases u<;>cases e;exact .inr #[_,_,_,_,rfl,rfl,rfl]
  |_=>first|(cases e;done)|(cases u<;>cases e<;>exact .inl #[_,_,rfl,rfl,rfl,by simp])
def _Q{F:Hp}{x y:V}{u:T}{b:Bool}(S:zT F H)(c:Rep K F x t)(a:Rep K F y u)(e:iz t u\b):(iC x y=true/\decide (x=y)=b)\/∃d e,iw K H x d/\iw K H y e/\SeqAt.shaped d/\SeqAt.shaped e/\PyData.eqv d e=b:=by
 rcases WF e with⟨_,_,p,q,r⟩|⟨_,_,_,_,rfl,rfl,r⟩
 .cases c.sca p;cases a.sca q;exact .inl r
 exact .inr #[.tuple [.int _,.int _],.tuple [.int _,.int _],(c.shows _ rfl rfl).same S,(a.shows _ rfl rfl).same S,rfl,rfl,(pM _ _ _ _).trans r]
def Hk(f:Bool)(B:OpR X (compareOp op) λx y H Q=>iC x y=true/\Q (.bl (xr f (decide (x=y)))) H)(r:OpR X (compareOp op) (ow X.K f)):GO X (compareOp op) (hU f):=λU s G H x y v u Q I m l h=>by
 let⟨S,t,w,R,_,p,o,g,k⟩:=h;have n:∀b:Bool,(if f then !b else b)=xr f b:=λb=>by cases f<;>rfl
 unfold hU at g;cases Z:iz t w with
 |some b =>
  rw[Z]at g;rcases _Q cI p o Z with⟨a,c⟩|⟨d,e,j,i,A,z,c⟩
  .exact B U s G H x y v u Q I m l #[a,%[c|k H _ _ g (.refl _) (NR.fz (.bl _))]]
  .exact r U s G H x y v u Q I m l #[d,e,j,i,A,z,%[n,c|k H _ _ g (.refl _) (NR.fz (.bl _))]]
 |none =>
  rw[Z]at g;let⟨d,e,D,C,j,i,q⟩:=g;exact r U s G H x y v u Q I m l #[d,e,(p.shows d D (Bool.and_eq_true_iff.mp j).1).same cI,(o.shows e C (Bool.and_eq_true_iff.mp i).1).same cI,j,i,%[n|k H _ _ q (.refl _) (NR.fz (.bl _))]]
def z4(a:X.A.units+64<cLine):GO X (compareOp .Eq) (hU false):=Hk false UF (VE a)
def mX(a:X.A.units+64<cLine):GO X (compareOp .NotEq) (hU true):=Hk true Ps (YA a)
def flat:OT->Prop
 |.fz (.int _)=>True
 |.fz (.bl _)=>True
 |.fz (.str _)=>True
 |.fz .non=>True
 |_=>False
def M3(i:Nat)(a:RE):RE:=λo q=>match slot o i with|.und=>False|x=>a (o.set i (.fz (frz x))) λy=>flat y/\q y
def P3(i:Nat)(a:RT):RT:=λo q=>match slot o i with|.und=>False|x=>a (o.set i (.fz (frz x))) q
def KI{P:OT->Prop}(h:match slot o i with|.und=>False|x=>P x):P (slot o i)/\slot o i≠.und:=by
 cases e:slot o i<;>rw[e]at h<;>first|exact h.elim|exact#[h,λz=>by cases z]
def RQ(i:Nat)(h:QE X e re):QE X e (M3 i re):=PE.imp h λG H Q j=>by
 let⟨own,o,R,h,a,k⟩:=j;let⟨a,c⟩:=KI (P:=λx=>re (o.set i (.fz (frz x))) λy=>flat y/\R y) a;let⟨u,l,s⟩:=h.val rfl c;let⟨m,d,S⟩:=h.frz (gQ rfl c) l;refine#[m,_,_,d,a,λW v x q E n=>k W v x q.2 E ?_];have f:=q.1;have g:=n.rep λb z=>(d.sole z).ne;cases x with
 |fz t=>cases t<;>first|exact f.elim|(cases g;first|exact NR.fz (.int _)|exact NR.fz (.bl _)|exact NR.fz (.str _)|exact NR.fz .non)
 |_=>exact f.elim
def Ih(i:Nat)(h:QT X e rt):QT X e (P3 i rt):=PT.imp h λG H Q c=>by
 let⟨own,o,R,h,a,k⟩:=c;let⟨a,b⟩:=KI (P:=λx=>rt (o.set i (.fz (frz x))) R) a;let⟨u,f,s⟩:=h.val rfl b;let⟨g,d,S⟩:=h.frz (gQ rfl b) f;exact#[g,_,_,d,a,k]
def iK:T->Option bo
 |.int i=>some (.inl i)
 |.str s=>some (.inr s)
 |_=>none
def pO{α:Type} : xI->List α->bo->Option α
 |k::a,t::ts,j=>if k=j then some t else pO a ts j
 |_,_,_=>none
def U5{F:Hp}{x:V}{k:bo}(h:Rep K F x t)(e:iK t\k):x=kV k:=by
 cases h<;>cases e<;>rfl
theorem I8{K:Frag}{F:Hp}{k:bo} : ∀{ks:xI}{I:Ζ}{ts:xk},bY K F I ts->(∀t,pO ks ts k\t->∃x,Mt (ks.zip I) k\x/\Rep K F x t)/\(pO ks ts k=none->Mt (ks.zip I) k=none)
 |[],_,_,_=>#[λ_ z=>(nomatch z),λ_=>rfl]
 |_::_,_,_,.nil=>#[λ_ z=>(nomatch z),λ_=>rfl]
 |j::ks,_,_,.cons a b=>by
  by_cases h:j=k
  .refine#[λt z=>?_,λz=>?_]
   .unfold pO at z;rw[ZY h]at z;cases z;exact#[_,WY h,a]
   .unfold pO at z;rw[ZY h]at z;cases z
  .let⟨d,c⟩:=I8 (k:=k) (ks:=ks) b;refine#[λt z=>?_,λz=>?_]
   .unfold pO at z;rw[ZZ h]at z;let⟨x,e,r⟩:=d t z;exact#[x,(N6 h).trans e,r]
   .unfold pO at z;rw[ZZ h]at z;exact(N6 h).trans (c z)
def QN:zi
 |.dct a ts,u,q=>∃k t,iK u\k/\pO a ts k=some t/\q (.fz t)
 |_,_,_=>False
def Ud(n:X.A.units+1<cLine)(B:QE X a ra)(u:QE X b rb)(p:oD b:=by exact λ_ _=>rfl):QE X (.Subscript a b O) (fL QN ra rb):=(ahV n B u p).imp λG H Q #[own,o,R,h,s,k]=>tQ.mk h s λY v x q g c=>tQ.mk (h.same g) q λF w y q f m=>by
 have c:=c.same (bU f)
 revert c q
 generalize frz x=t;intro q c;cases t<;>try exact q.elim
 let⟨d,I,rfl,e,l,r⟩:=c.dctI;let⟨j,t,E,D,q⟩:=q;let⟨z,C,i⟩:=(I8 r).1 t D;cases U5 m E;exact#[d,z,rfl,.inl #[_,_,cI.rd e,rfl,C.symm],k F _ _ q (g.trans f) (NR.fz i)]
def oq(a:Bool):zi
 |u,.dct b ts,q=>∃k,iK u\k/\q (.fz (.bl (xr a (pO b ts k).isSome)))
 |_,_,_=>False
def Ix{neg:Bool}(h:tQ X.K (fL (oq neg) ra rb) G H Q):(tQ X.K ra) G H λy Y=>(tQ X.K rb) G Y λx b=>∃a o,x=.ref a/\I_ b a y o/\Q (.bl (xr neg o.isSome)) b:=by
 let⟨own,o,R,h,n,k⟩:=h;refine tQ.mk h n λY v x q m f=>tQ.mk (h.same m) q λb w y q i c=>?_;have f:=f.same (bU i)
 revert c q
 generalize frz y=t;intro q c;cases t with
 |dct g ts =>
  let⟨d,I,rfl,e,l,r⟩:=c.dctI;let⟨j,p,q⟩:=q;cases U5 f p;refine#[d,_,rfl,.inl #[_,_,cI.rd e,rfl,rfl],?_];have:(Mt (g.zip I) j).isSome=(pO g ts j).isSome:=by
   cases z:pO g ts j with
   |none=>rw[(I8 r).2 z];rfl
   |some t=>let⟨x,e,_⟩:=(I8 r).1 t z;rw[e];rfl
  rw[this];exact k b _ _ q (m.trans i) (NR.fz (.bl _))
 |_=>cases frz x<;>exact q.elim
def FA{r:RE}{b:TE}(i:∀G H Q,tQ X.K r G H Q->b G H Q){Q:Bool->Hp->Prop}(h:tQT X.K (rB r) G H Q):tB b G H Q:=by
 let⟨own,o,R,h,c,k⟩:=h;refine i G H _ (tQ.mk h c λY v x q d a=>?_)
 revert a q
 generalize frz x=t;intro q a;cases a<;>try exact q.elim
 exact#[_,rfl,k _ _ q d]
def HP(c:X.A.units+1<cLine)(e:QE X a ra)(d:QE X b rb)(f:‹behindInMarks .In b=false›):QT X (.Compare a [.In] [b] O) (rB (fL (oq false) ra rb)):=(Go (Tl c e d) f).imp λ_ _ _=>FA λ_ _ _=>Ix (neg:=false)
def acy(c:X.A.units+1<cLine)(e:QE X a ra)(d:QE X b rb)(f:‹behindInMarks .NotIn b=false›):QT X (.Compare a [.NotIn] [b] O) (rB (fL (oq true) ra rb)):=(Go (ab6 c e d) f).imp λ_ _ _=>FA λ_ _ _=>Ix (neg:=true)
def SH:RE:=λ_ q=>q (.d1 [] [])
def Km:QE X (.Dict [] [] O) SH:=adH.imp λG H Q #[own,o,R,h,c,k] p b=>k _ _ _ c (zT.upd b) #[[p],λa d=>(YR.mp d) ▸ b,p,[],rfl,rfl,cu,rfl,.nil]
def atV(i:Nat)(a b:RE):RS:=λE o=>match slot o i with|.d1 c ts=>a o λy=>b o λk=>∃j,iK (frz k)\j/\pO c ts j=none/\c.length<sizeLine/\c.length=ts.length/\E.nx (o.set i (.d1 (c++[j]) (ts++[frz y])))|_=>False
def gm{α:Type} : Φ->List α->Str->Option α
 |k::a,t::ts,f=>if k=f then some t else gm a ts f
 |_,_,_=>none
def Ld:Φ->Str->Φ
 |[],f=>[f]
 |k::a,f=>if k=f then k::a else k::Ld a f
def Dj{α:Type} : Φ->List α->Str->α->List α
 |k::a,t::ts,f,v=>if k=f then v::ts else t::Dj a ts f v
 |_,ts,_,v=>ts++[v]
theorem qi{K:Frag}{F:Hp}{f:Str} : ∀{ks:Φ}{I:Ζ}{ts:xk},bY K F I ts->(∀t,gm ks ts f\t->∃x,(ks.zip I).lookup f\x/\Rep K F x t)/\(gm ks ts f=none->(ks.zip I).lookup f=none)
 |[],_,_,_=>#[λ_ z=>(nomatch z),λ_=>rfl]
 |_::_,_,_,.nil=>#[λ_ z=>(nomatch z),λ_=>rfl]
 |j::ks,_,_,.cons a b=>by
  let⟨d,c⟩:=qi (f:=f) (ks:=ks) b;by_cases h:j=f
  .refine#[λt z=>?_,λz=>?_]
   .unfold gm at z;rw[ZY h]at z;cases z;exact#[_,%[zip_cons_cons,lookup_cons,h,beq_self_eq_true|_],a]
   .unfold gm at z;rw[ZY h]at z;cases z
  .have e:∀x(r:xE),((j,x)::r).lookup f=r.lookup f:=λx r=>%[lookup_cons,beq_false_of_ne (Ne.symm h)|_]
   refine#[λt z=>?_,λz=>?_]
   .unfold gm at z;rw[ZZ h]at z;let⟨x,g,r⟩:=d t z;exact#[x,(e _ _).trans g,r]
   .unfold gm at z;rw[ZZ h]at z;exact(e _ _).trans (c z)
theorem X3{f:Str}{v:V} : ∀{ks:Φ}{I:Ζ},ks.length=I.length->yQ f v (ks.zip I)=(Ld ks f).zip (Dj ks I f v)/\(Ld ks f).length=(Dj ks I f v).length
 |[],[],_=>#[rfl,rfl]
 |k::ks,x::I,l=>by
  let⟨b,a⟩:=X3 (f:=f) (v:=v) (ks:=ks) (I:=I) (Nat.succ.inj l);show(if k=f then(k,v)::ks.zip I else(k,x)::yQ f v (ks.zip I))=_/\_;unfold Ld Dj;by_cases h:k=f
  .rw[ZY h,ZY h,ZY h];exact#[rfl,l]
  .rw[ZZ h,ZZ h,ZZ h,b];exact#[rfl,ZH (· + 1) a]
 |[],_::_,l=>by cases l
 |_::_,[],l=>by cases l
theorem bY.put{K:Frag}{F:Hp}{f:Str}{v:V}{t:T}(r:Rep K F v t):∀{c:Φ}{I:Ζ}{ts:xk},bY K F I ts->bY K F (Dj c I f v) (Dj c ts f t)
 |[],_,_,h=>h.app (.cons r .nil)
 |_::_,_,_,.nil=>.cons r .nil
 |k::c,_,_,.cons a b=>by
  unfold Dj;by_cases h:k=f
  .rw[ZY h,ZY h];exact .cons r b
  .rw[ZZ h,ZZ h];exact .cons a (bY.put r b)
abbrev SI:=Addr->Φ->xk->xk->(Φ->xk->Prop)->Prop
def dq(a c b:Addr):Prop:=b=a\/b=c
def gk(K:Frag)(S:SI):Sp:=λi H Q _=>∃a b C c I ts f h R,i=.ref a::f/\H a=some (.ins C b (c.zip I))/\H b=some (.own a)/\c.length=I.length/\bY K (hd (dq a b) H) I ts/\bY K (hd (dq a b) H) f h/\S C c ts h R /\
 ∀W d e g,R d g->zT (hd (dq a b) H) (hd (dq a b) W)->W a\(.ins C b (d.zip e))->W b\(.own a)->d.length=e.length->bY K (hd (dq a b) W) e g->Q .non W
def startI(n:Nat)(a c C:Addr)(b:Φ)(ts d:xk):xo:=.ob a c C b ts::start' (n-1) d
def AI(a b:Addr):Nat->Ψ
 |0=>[a,b]
 |_+1=>[]
def Kb(a c:Addr):Ow (AI a c)=dq a c:=funext λb=>propext #[(λh=>by
  let⟨i,z⟩:=h;cases i with
  |zero =>
   rcases YU.mp z with z|z
   .exact .inl z
   .exact .inr (YR.mp z)
  |succ i=>cases z),λz=>#[0,by show b∈[a,c];rcases z with rfl|rfl<;>simp]]
def SR.startI{H:Hp}{a c C:Addr}{h:Φ}{I:Ζ}{ts d:xk}{f:Ζ}(p:H a\(.ins C c (h.zip I)))(t:H c\(.own a))(l:h.length=I.length)(r:bY K (hd (dq a c) H) I ts)(g:bY K (hd (dq a c) H) f d)(N:Φ)(u:f.length+1<=N.length) :
  SR K (AI a c) H (L2.start N (.ref a::f)) (L2.startI N.length a c C h ts d):=by
 have q:=Kb a c;refine#[?_,λi x e=>?_,λi hi b o=>?_,λi j b k s=>?_]
 .unfold L2.startI start' L2.start;have:=g.len;simp only[length_cons,aA,ak,aN];lia
 .rw[q];unfold L2.startI at e;cases i with
  |zero =>
   cases e;exact#[I,rfl,rfl,p,t,l,r]
  |succ i =>
   rw[List.getElem?_cons_succ]at e;show Slo K _ _ _ [] x;unfold start' at e;unfold L2.start;rw[map_cons,cons_append,List.getElem?_cons_succ];by_cases hi:i<d.length
   .rw[aF ↑hi,aq,aj hi]at e;cases e;let⟨v,k,n⟩:=g.at_ (aj hi);rw[aF (by rwa[ak,g.len]),aq,k];exact#[rfl,v,rfl,n]
   .rw[aD ↑hi,ak,XG]at e;by_cases m:i-d.length<N.length-1-d.length
    .rw[ZY m]at e;cases e;rfl
    .rw[ZZ m]at e;cases e
 .unfold L2.startI at hi;cases i with
  |zero=>cases hi
  |succ i=>cases o
 .cases i with
  |zero =>
   cases j with
   |zero=>rfl
   |succ j=>cases s
  |succ i=>cases k
def Fun.okI{y:Str}{N:Φ}{S:SI}(F:Fun K x y st f fd)(B:bL N ps (bH st))(i:∀C e ts d R,S C e ts d R->d.length+1=ps.length)(hn:ps.length<=N.length)
 (br:∀(t:Value)(A:Around)(c:xC)(s:Shared)(H:Hp)(E:XK),dZ k (A.deeper (envOfC y (bH st) s.zs f t))->N.Nodup ->
   ∃r,eh (G_ bh P w K mg base N y (bH st) f t A c s H E).nox (fP st) r/\∀a g C e ts d R,S C e ts d R->r { nx:=λo=>∃n p,slot o 0=.ob a g C n p/\R n p,rt:=λ_=>False } (startI N.length a g C e ts d)):fK P w K mg base bh (k+1) f fd ps (gk K S):=by
 refine F.ok B (λD H Q E h=>?_) λt A c s H D Q E L h=>?_
 .let⟨a,g,C,e,I,ts,J,d,R,rfl,_,_,_,_,j,m,_⟩:=h;rw[length_cons,j.len];exact i _ _ _ _ _ m
 .let⟨a,g,C,e,I,ts,J,d,R,rfl,M,bv,l,r,j,m,q⟩:=h;let⟨rd,T,O⟩:=br t A c s H E L B.nd;have s0:=SR.startI M bv l r j N (by rwa[j.len,i _ _ _ _ _ m]);have V:=Kb a g;refine#[_,T,_,_,_,s0,O a g C e ts d R m,#[λown W G o v E h=>?_,λ_ _ _ _ _ z=>z.elim,λ_ _ _ _ z=>z.elim,λ_ _ _ _ z=>z.elim,λ_ _ _ _ _ _ z=>z.elim]];let⟨n,p,Z,v⟩:=v;rw[V]at E;let⟨u,_,U,e1,e2,e3,e4,Y,X⟩:=h.val Z (by intro z;cases z);have sub:zT (hd (Ow own) W) (hd (dq a g) W):=jd (λb z=>.inl #[0,by rw[e2];rcases z with rfl|rfl<;>simp]) λ_ _ z=>z;exact q W n U p v (E.trans sub) e3 e4 Y (X.same sub)
def EW(b:Addr->Prop)(i:Nat)(f:Str):RE:=λo q=>match slot o i with|.ob _ _ C a ts=>b C/\∃t,gm a ts f\t/\q (.fz t)|_=>False
variable{f:Str}{Fm:Addr->Prop}{S:ST}{ro:RE}{pl:Sem Bool}{j:Int}
def ail(i:Nat)(c:∀C,Fm C->Cls X.K C/\cA X.K C f)(n:‹(n_X X i x,0)›)(j:‹attributeBase (.Name x p) f X.env (eval (.Name x p) X.env)=eval (.Name x p) X.env›):QE X (.Attribute (.Name x p) f O) (EW Fm i f):=(F3 (pv i n) j).imp λG H Q m=>by
 let⟨own,o,R,h,b,k⟩:=m;unfold EW at b;cases Z:slot o i with
 |ob a D C J ts =>
  rw[Z]at b;let⟨u,B,I,A,M,y,L,l,r⟩:=h.val Z (by intro z;cases z);cases A;let⟨d,t,w,q⟩:=b;let⟨v,s,e⟩:=(qi r).1 t w;exact#[_,B,a,C,D,_,v,rfl,y,(c C d).1,(c C d).2,s,k H _ _ q (.refl _) (NR.fz e)]
 |_=>rw[Z]at b;exact b.elim
def E9(Fm:Addr->Prop)(i:Nat)(f:Str)(a:RE):RS:=λE o=>match slot o i with|.ob b d C c ts=>a o λy=>(Fm C/\c.length<1000)/\E.nx (o.set i (.ob b d C (Ld c f) (Dj c ts f (frz y))))|_=>False
def uf(i:Nat)(c:∀C,Fm C->Cls X.K C/\cA X.K C f)(J:QE X e re)(Q:‹(n_X X i x,0)›)(F:‹swapsWith e (some (.Attribute (.Name x p) f aE)) O.line X.env=pure false›):QS X (.Assign [.Attribute (.Name x p) f aE] e O) (E9 Fm i f re):=(_r (pv i Q) J F).imp λD G H P=>by
 let⟨own,o,E,h,d,L⟩:=P;unfold E9 at d;cases Z:slot o i with
 |ob a k C j ts =>
  rw[Z]at d;let⟨u,t,I,U,m,s,n,l,r⟩:=h.val Z (by intro z;cases z);cases U;refine tQ.mk h d λY v y q g w=>#[_,t,a,C,k,_,rfl,g _ _ s,(c C q.1.1).1,(c C q.1.1).2,%[VZ,<- l,VQ|q.1.2],?_];let⟨A,pl⟩:=X3 (f:=f) (v:=v) l;rw[A];have T:k≠a:=Li n s (by intro z;cases z);let⟨R,S⟩:=(h.same g).chg (gQ Z (by intro z;cases z)) (y:=.ob a k C (Ld j f) (Dj j ts f (frz y))) (W:=upd Y a (.ins C k ((Ld j f).zip (Dj j I f v)))) (λb u M e=>(b_ λz=>M (by rw[m,z];simp)).trans e) (by
   rw[t,Br #[i,by rw[m];simp]];exact#[_,rfl,m,cu,(b_ T).trans (g _ _ n),pl,bY.put w (r.same (bU g))])
  exact L.nx own _ G _ q.2 ((bU g).trans S) R
 |_=>rw[Z]at d;exact d.elim
def MU(Fm:Addr->Prop)(f:Str)(a:RE):RE:=λo q=>a o λx=>match frz x with|.ins C b ts=>Fm C/\∃t,gm b ts f\t/\q (.fz t)|_=>False
def Dw(c:∀C,Fm C->Cls X.K C/\cA X.K C f)(m:QE X e re)(n:‹zt X e f›):QE X (.Attribute e f O) (MU Fm f re):=(F3 m n).imp λG H Q #[own,o,R,h,j,k]=>tQ.mk h j λY v x q w b=>by
 revert b q
 generalize frz x=t;intro q b;cases t<;>try exact q.elim
 let⟨a,u,I,rfl,e,d,l,r⟩:=b.insI;let⟨g,t,s,q⟩:=q;let⟨v,p,i⟩:=(qi r).1 t s;exact#[a,_,u,_,v,rfl,(cW e).2,(c _ g).1,(c _ g).2,p,k Y _ _ q w (NR.fz i)]
abbrev Lc(X:Cx)(k:Nat)(fa:Addr)(ps:Φ)(S:ST):Prop:=zS X bh k fa ps (spT X.K S)
def OkI.hid{P:Program}{w:World}{K:Frag}{mg:Str->Ω}{base:Heap}{k:Nat}{c:Addr}{ps:Φ}{a:Sp}(G:OkI P w K mg base bh k c ps a):OkI P w K mg base bh k c ps (hF a):=by let⟨fd,F,b⟩:=G;exact#[fd,F.hid,b]
def Yv{g:Ζ}{E:XK}(m:SR X.K own Y G o)(j:bY X.K (hd (Ow own) Y) g ts)(q:S ts R)(k:∀W v x,R x->zT Y W->NR X.K (Ow own) Y W v x->Q v W):hF (spT X.K S) g Y Q E:=by
 refine#[Ow own,m.hid,ts,R,j,q,λc v x i E n f=>?_];have p:zT Y (dv (Ow own) Y c):=λb u e=>by
  by_cases z:Ow own b
  .rw[xJ z];exact e
  .rw[jW z];exact E b u ((cZ z).trans e)
 have h:zT c (dv (Ow own) Y c):=λb u e=>%[jW λz=>by rw[f b z]at e;cases e|e]
 refine k _ v x i p ?_;let⟨B,l,s⟩:=n;have out:∀a∈B,¬Ow own a:=λa d z=>(s.sole d).ne (f a z);refine#[B,λa d=>by have:=l a d;rwa[cZ (out a d)]at this,s.same (jd (λb z=>?_) h) h];rcases z with z|z
 .exact .inr (f b z)
 .exact .inl (.inr z)
def FE(C:Addr)(e:Φ)(S:ST)(a:RE)(r:RA):RE:=λo q=>a o λx=>match frz x with|.ins c b ts=>(c=C/\b=e)/\r o λd=>S (.ins c b ts::d) q|_=>False
theorem Ky{f:Str} : ∀{a:Φ}{I:Ζ},f∉a->(a.zip I).lookup f=none
 |[],_,_=>rfl
 |_::_,[],_=>rfl
 |k::a,x::I,h=>by
  rw[zip_cons_cons,lookup_cons,beq_false_of_ne λ(z:f=k)=>h %[z|aO ..]];exact Ky λz=>h (aJ _ z)
def yj{o:Expr}{s C:Addr}{KS:Φ}(D:QE X o ro)(c:Cls X.K C)(z:Meth X.K C f s)(b:Lc X k s ps S)(F:QA X (e::Z) r)(m:dZ k X.A:=by exact dZ.mono (by assumption) vw)(B:f∉KS:=by decide +kernel)
 (L:‹zw X e Z›)(M:‹zb X O Z›)
 (y:eval (.Call (.Attribute o f ah) (e::Z) [] O) X.env=(do
   let p <- eval o X.env
   standAt ah.atName
   let(f,first) <- holding [p] (getMethod p f pl)
   callWith O f first (backTo O (starEach (e::Z) X.env)) (backToKw O (keywordEach [] X.env))):=by rfl) :
  QE X (.Call (.Attribute o f ah) (e::Z) [] O) (FE C KS S ro r):=(adJ (pl:=pl) D c z (OkI.hid b) m F L M y).imp λG H Q #[own,o,R,h,m,k]=>tQ.mk h m λY v x q j g=>by
 revert g q
 generalize frz x=t;intro q g;cases t<;>try exact q.elim
 let⟨a,J,I,rfl,e,d,l,r⟩:=g.insI;let⟨⟨rfl,rfl⟩,q⟩:=q;refine#[a,J,_,rfl,(cW e).2,Ky B,tQA.mk (h.same j) q λT N P q _ i w=>?_];exact Yv ((h.same j).same i) (.cons (g.same (bU i)) w) q λW v x u E n=>k W v x u (j.trans (i.trans E)) (n.back (j.trans i))
def sU{o:Expr}{p C:Addr}{KS:Φ}(z:QE X o ro)(c:Cls X.K C)(w:Meth X.K C f p)(b:Lc X k p ps S)(i:dZ k X.A:=by exact dZ.mono (by assumption) vw)(y:f∉KS:=by decide +kernel)
 (u:eval (.Call (.Attribute o f ah) [] [] O) X.env=(do
   let m <- eval o X.env
   standAt ah.atName
   let(f,first) <- holding [m] (getMethod m f pl)
   callWith O f first (backTo O (starEach [] X.env)) (backToKw O (keywordEach [] X.env))):=by rfl) :
  QE X (.Call (.Attribute o f ah) [] [] O) (FE C KS S ro ov):=(adf (pl:=pl) z c w (OkI.hid b) i u).imp λG H Q #[own,o,R,h,i,k]=>tQ.mk h i λY v x q j g=>by
 revert g q
 generalize frz x=t;intro q g;cases t<;>try exact q.elim
 let⟨a,B,I,rfl,e,d,l,r⟩:=g.insI;let⟨⟨rfl,rfl⟩,q⟩:=q;refine#[a,B,_,rfl,(cW e).2,Ky y,?_];exact Yv (E:=E0) (h.same j) (.cons g .nil) q λW v x s E n=>k W v x s (j.trans E) (n.back j)
def UE(C:Addr)(S:SI)(r:RA):RE:=λo q=>r o λb=>S C [] [] b λa ts=>q (.fz (.ins C a ts))
theorem Gg{D C:Addr}{S:SI}(M:Mk X.K C D)(c:zS X bh k D ps (gk X.K S))(T:X.mg x\(.ref C))(W:QA X (e::Z) r)(j:dZ (k+1) X.A:=by exact dZ.mono (by assumption) vw)(U:‹Gl X x›)(bS:‹(zz x,2)›)
 (V:‹zw X e Z›)(a8:‹zb X O Z›):QE X (.Call (.Name x p) (e::Z) [] O) (UE C S r):=(aeo M (OkI.hid c) j U T W bS V a8).imp λG H Q #[own,o,R,h,j,k]=>tQA.mk h j λY L as q _ J P a d B y w=>by
 have m:=h.same J;have g:zT Y (upd (upd Y d (.own a)) a (.ins C d [])):=(zT.upd y).trans (zT.upd ((b_ (Ne.symm w)).trans B));have h2:=m.same g;have v:¬Ow own a:=λz=>(m.sole z).ne B;have t:¬Ow own d:=λz=>(m.sole z).ne y;refine#[Ow own,h2.hid,a,d,C,[],[],[],L,as,_,rfl,(cZ v).trans cu,(cZ t).trans ((b_ w).trans cu),rfl,.nil,P.same (λb u e=>?_),q,λc fo f8 dQ N E ea ed l r F=>#[rfl,?_]]
 .let⟨n,e⟩:=cW e;have i:¬dq a d b:=λz=>by rcases z with rfl|rfl<;>rw[e]at *<;>contradiction
  rw[cZ i,cZ n];exact g _ _ e
 .have f:zT c (dv (Ow own) (upd (upd Y d (.own a)) a (.ins C d [])) c):=λb u e=>%[jW λz=>by rw[F b z]at e;cases e|e]
  refine k _ _ _ N (J.trans λb u e=>?_) (NR.fz (.ins (dx:=d) (ks:=fo) (I:=f8) ?_ ?_ l (r.same λb u e=>?_)))
  .by_cases z:Ow own b
   .rw[xJ z];exact g _ _ e
   .have i:¬dq a d b:=λz=>by rcases z with rfl|rfl<;>rw[e]at *<;>contradiction
    exact f _ _ (cW (E b u ((cZ i).trans ((cZ z).trans (g _ _ e))))).2
  .rw[cZ v];exact f _ _ ea
  .rw[cZ t];exact f _ _ ed
  .have s:=(cW e).2;rw[cZ λz=>by rw[F b z]at s;cases s];exact f _ _ s
def Fl(i:Nat)(S:SI)(r:RA):RS:=λE o=>match slot o i with|.ob a d C b ts=>r o λf=>S C b ts f λc e=>E.nx (o.set i (.ob a d C c e))|_=>False
def Kv(i:Nat){y m:Str}{R B:Addr}{S:SI}(c:Js X.K B m R)(g:zS X bh k R ps (gk X.K S))(hm:X.mg x\(.ref B))(ha:QA X Z r)(v:dZ k X.A:=by exact dZ.mono (by assumption) vw)(hg:‹Gl X x›)
 (hN:‹(n_X X i y,0)›)(bS:‹(zz x,2)›)
 (U:‹starEach (.Name y p2::Z) X.env=(false,eval (.Name y p2) X.env)::starEach Z X.env›)(a8:‹zb X af Z›)
 (ht:eval (.Call (.Attribute (.Name x p) m ah) (.Name y p2::Z) [] af) X.env=(do
   let Q <- eval (.Name x p) X.env
   standAt ah.atName
   let(f,first) <- holding [Q] (getMethod Q m pl)
   callWith af f first (backTo af (starEach (.Name y p2::Z) X.env)) (backToKw af (keywordEach [] X.env))):=by rfl)
 (hs:‹swapsWith (.Call (.Attribute (.Name x p) m ah) (.Name y p2::Z) [] af) none O.line X.env=pure false›) :
  QS X (.Expr (.Call (.Attribute (.Name x p) m ah) (.Name y p2::Z) [] af) O) (Fl i S r):=(pG (aga (pl:=pl) c (OkI.hid g) v hg hm (cD (pv i hN) ha U) bS U a8 ht) hs).imp λD G H hP=>by
 let⟨own,o,E,h,v,L⟩:=hP;unfold Fl at v;cases Z:slot o i with
 |ob a s C ks ts =>
  rw[Z]at v;let⟨u,T,I,e2,P,e4,e5,l,r⟩:=h.val Z (by intro z;cases z);cases e2;refine#[_,T,tQA.mk h v λY vs as q _ J r1=>?_];have t:=h.same J;have sub:∀b,dq a s b->b∈own i:=λb z=>by rw[P];rcases z with rfl|rfl<;>simp
  have F:∀b,b∈own i->dq a s b:=λb z=>by
   rw[P]at z;rcases YU.mp z with z|z
   .exact .inl z
   .exact .inr (YR.mp z)
  have hid:nR Y (λb=>Ow own b/\¬dq a s b):=#[λb z=>t.sole z.1,λb C d f #[#[j,z],n] e=>#[#[j,(t.mate z).1 C d f e],λy=>n (F b ((t.dis j i d ((t.mate z).1 C d f e) (sub d y)) ▸ z))],λb x #[#[j,z],n] e=>#[#[j,(t.mate z).2 x e],λy=>n (F b ((t.dis j i x ((t.mate z).2 x e) (sub x y)) ▸ z))]];have eg:∀W:Hp,hd (dq a s) (hd (λb=>Ow own b/\¬dq a s b) W)=hd (Ow own) W:=λW=>funext λb=>by
   by_cases z:dq a s b
   .rw[rN z,rN #[i,sub b z]]
   .rw[cZ z];by_cases y:Ow own b
    .rw[rN (#[y,z] : Ow own b/\¬dq a s b),rN y]
    .rw[cZ (λw=>y w.1),cZ y]
  have na:¬(Ow own a/\¬dq a s a):=λz=>z.2 (.inl rfl);have nd:¬(Ow own s/\¬dq a s s):=λz=>z.2 (.inr rfl);refine#[_,hid,a,s,C,ks,I,ts,vs,as,_,rfl,(cZ na).trans (J _ _ e4),(cZ nd).trans (J _ _ e5),l,%[eg|r.same (bU J)],%[eg|r1],q,λg fo f8 dQ rx EE ea ed l' r' V=>?_];rw[eg]at EE;have M:∀{b:Addr}{u:HO},g b\u->dv (λb=>Ow own b/\¬dq a s b) Y g b\u:=λ{b u}e=>(jW λz=>by rw[V b z]at e;cases e).trans e;let⟨h',S'⟩:=t.chg (gQ Z (by intro z;cases z)) (y:=.ob a s C fo dQ) (W:=dv (λb=>Ow own b/\¬dq a s b) Y g) (λb u hb e=>by
   by_cases z:Ow own b
   .rw[xJ #[z,λy=>hb (sub b y)]];exact e
   .exact M (cW (EE b u ((cZ z).trans e))).2) (by
   rw[T];refine#[f8,rfl,P,M ea,M ed,l',r'.same λb u e=>?_];let⟨n1,e⟩:=cW e;rw[cZ λz=>by rw[V b #[z,n1]]at e;cases e];exact M e)
  exact L.nx own _ G _ rx ((bU J).trans S') h'
 |_=>rw[Z]at v;exact v.elim
def mW{A:Addr}{i:Int}(b:X.mg x\(.ref A))(a:∀H,SqT X.K H A [.int i,.int j])(c:‹Gl X x›)(hd:‹(zz x,2)›):QE X (.Name x O) (rC (.tup [.int i,.int j])):=qC (NK c b hd) λF=>.tup (a F) (.cons (.int _) (.cons (.int _) .nil))
def QE.any{r:Addr->RE}(h:∀C,Fm C->QE X e (r C)):QE X e (λo q=>∃C,Fm C/\r C o q):=λU s G H Q I #[own,o,R,a,#[C,c,b],k]=>h C c U s G H Q I #[own,o,R,a,b,k]
def oA{a j:Pos}:=@zF X tg iter bg aS ri g rc re J O i0 y0 a j (λi r n g c e=>pc i (WW r n g c e)) λ{_ i0 _ _ _ _ _ _ _ _}#[own,o,E,h,d,L]=>O6 #[own,o,_,h,d,λW v y q S n=>by
 let⟨k,f,l⟩:=h.putA S (n.frz λb z=>(h.sole z).ne) i0;exact L.nx k W _ _ q l f]
def O'(i j:Nat)(r:RA):RS:=λE o=>r o λts=>match ts with|[t,u]=>E.nx ((o.set i (.fz t)).set j (.fz u))|_=>False
def _k(i j:Nat){y:Str}{e d f:Pos}{g k c}(K:X.calm)(P:X.N.Nodup)(z:i≠j)(M:QA X [a,b] r)(hi:‹X.N[i]?\x›)(J:‹X.N[j]?\y›)
 (B:‹X.env.scope.names.lookup x\.local›)(A:‹X.env.scope.names.lookup y\.local›)
 (C:‹swappedStores [.Tuple [.Name x e,.Name y d] g f] (.Tuple [a,b] k c) X.env=pure (some [x,y])›)
 (F:‹swapsWithSole [.Tuple [.Name x e,.Name y d] g f] (.Tuple [a,b] k c) O.line X.env=pure false›) :
  QS X (.Assign [.Tuple [.Name x e,.Name y d] g f] (.Tuple [a,b] k c) O) (O' i j r):=(_J K P hi J z B A M C F).imp λD G H #[own,o,E,h,I,L]=>#[own,o,_,h,I,λY U ts q _ m p=>by
 match ts,q with
 |[t,u],q =>
  let⟨v,w,rfl,n,s⟩:=p.two;refine#[v,w,rfl,?_];let⟨V,R,l⟩:=(h.same m).setF n (X0 i);let⟨S,Q,T⟩:=R.putA (.refl _) (NR.fz (s.same l.same)) j;exact L.nx S Y _ _ q ((bU m).trans (l.same.trans T)) Q]
def MA{a:Type}{I:List α}{ys:List a}{y:a}(l:I.length=ys.length)(e:c3 ys j\y):∃n x,dj ys.length j\n/\ys[n]?=some y/\I[n]?=some x/\dP I j=some x:=by
 rw[Zj]at e;unfold dP at e ⊢;rw[l];cases z:dj ys.length j with
 |none=>rw[z]at e;cases e
 |some n =>
  rw[z]at e;have b:n<I.length:=l ▸ (ao.mp e).1;exact#[n,I[n],rfl,e,aj b,aj b]
theorem MP{α:Type} : ∀{l:List α},l.Nodup->∀{i j:Nat}{x:α},l[i]?\x->l[j]?\x->i=j
 |[],_,_,_,_,e,_=>by cases e
 |y::l,d,i,j,x,b,a=>by
  let⟨c,f⟩:=List.nodup_cons.mp d;cases i with
  |zero =>
   cases j with
   |zero=>rfl
   |succ j=>cases b;exact absurd (aC ↑a) c
  |succ i =>
   cases j with
   |zero=>cases a;exact absurd (aC ↑b) c
   |succ j=>exact ZH (· + 1) (MP f ↑b ↑a)
def SR.l2{K:Frag}{own:Nat->Ψ}{H:Hp}{G:L2.St}{o:xo}(h:SR K own H G o){i:Nat}{c:vj}(e:slot o i=.l2 c):∃l a,G[i]?\(some (.ref l))/\own i=l::a/\(l::a).Nodup/\H l=some (.lst (a.map V.ref))/\a.length=c.length/\∀(i:Nat)b ts,a[i]?\b->c[i]?\ts->∃I,H b\(.lst I)/\bY K (hd (Ow own) H) I ts:=by
 let⟨u,m,l,a,k,j,d,g,f,r⟩:=h.val e (by intro z;cases z);cases k;exact#[l,a,m,j,d,g,f,r]
def SR.chg2(h:SR K own H G o){j:vj}(e:slot o i=.l2 j){l b:Addr}{a:Ψ}{s:xk}(m:G[i]?\(some (.ref l)))(p:own i=l::a)(t:(l::a).Nodup)(D:H l\(.lst (a.map V.ref)))(v:a.length=j.length)(r:∀(i:Nat)b ts,a[i]?\b->j[i]?\ts->∃I,H b\(.lst I)/\bY K (hd (Ow own) H) I ts)(d:a[n]?\b)(x:bY K (hd (Ow own) H) ys s) :
  SR K own (upd H b (.lst ys)) G (o.set i (.l2 (j.set n s)))/\zT (hd (Ow own) H) (hd (Ow own) (upd H b (.lst ys))):=by
 have w:=aC d;let⟨B,C⟩:=List.nodup_cons.mp t;refine h.chg (gQ e (by intro z;cases z)) (λc u hc e=>(b_ λz=>hc %[p,z|aJ _ w]).trans e) ?_;rw[m,Br #[i,%[p|aJ _ w]]];refine#[l,a,rfl,p,t,(b_ λ(z:l=b)=>B (by rwa[z])).trans D,%[WH|v],λk c ts f g=>?_];by_cases z:k=n
 .subst z;rw[d]at f;cases f;rw[Up (v ▸ (ao.mp d).1)]at g;cases g;exact#[ys,cu,x]
 .rw[VV (Ne.symm z)]at g;let⟨I,q,A⟩:=r k c ts f g;refine#[I,(b_ λy=>?_).trans q,A];have F:=(ao.mp f).1;have E:=(ao.mp d).1;exact z (MP C f %[d,y|_])
def qp{a:Ψ}{c:Addr}(e:dP a j\c):dP (a.map V.ref) j\(.ref c):=by
 have:dP (a.map V.ref) j=(dP a j).map V.ref:=by unfold dP;rw[ak];cases dj a.length j<;>simp
 rw[this,e];rfl
def Fc(i:Nat)(a b:RE):RE:=λo q=>match slot o i with
 |.l2 c=>a o λx=>(match frz x with|.int j=>∃ts,c3 c j\ts/\b o λy=>(match frz y with|.int m=>∃t,c3 ts m\t/\q (.fz t)|_=>False)|_=>False)
 |_=>False
def ahj(i:Nat)(E:QE X a ra)(D:QE X b rb)(J:‹(n_X X i x,0)›)(K:o_ a:=by exact λ_ _=>rfl)(C:o_ b:=by exact λ_ _=>rfl):QE X (.Subscript (.Subscript (.Name x p) a p2) b O) (Fc i ra rb):=(uo Ck (uo Ck (pv i J) E K) D C).imp λG H Q F=>by
 let⟨own,o,R,h,d,k⟩:=F;unfold Fc at d;cases Z:slot o i with
 |l2 ax =>
  rw[Z]at d;let⟨l,m,e1,e3,nd,e4,A,r⟩:=h.l2 Z;refine#[_,e1,tQ.mk h d λY v x q j f=>?_]
  revert f q
  generalize frz x=t;intro q f;cases t<;>try exact q.elim
  cases f;let⟨ts,S,q⟩:=q;let⟨n,c,_,L,U,T⟩:=MA (I:=m) A S;let⟨I,M,s⟩:=r n c ts U L;refine#[l,m.map V.ref,_,.ref c,rfl,rfl,.of (j _ _ e4),?_,tQ.mk (h.same j) q λH2 w y q E2 e=>?_]
  .exact qp T
  .revert e q
   generalize frz y=t;intro q e;cases t<;>try exact q.elim
   cases e;let⟨t,P,q⟩:=q;let⟨z,W,u⟩:=s.ix P;have g:=j.trans E2;exact#[c,I,_,z,rfl,rfl,.of (g _ _ M),W,k H2 _ _ q g (NR.fz (u.same (bU g)))]
 |_=>rw[Z]at d;exact d.elim
def ET(i:Nat)(a b:RE):RS:=λE o=>match slot o i with
 |.l2 c=>a o λx=>(match frz x with|.int j=>∃n ts,dj c.length j\n/\c[n]?=some ts/\ts.length<sizeLine/\b o λy=>E.nx (o.set i (.l2 (c.set n (ts++[frz y]))))|_=>False)
 |_=>False
def tJ{a:Type}{I:List α}{ys:List a}{y:a}(l:I.length=ys.length)(e:dj ys.length j\n)(c:ys[n]?\y):∃x,I[n]?\x/\dP I j=some x:=by
 have b:n<I.length:=l ▸ (ao.mp c).1;exact#[I[n],aj b,by unfold dP;rw[l,e];exact aj b]
def _S(i:Nat)(ha:QE X a ra)(U:QE X e re)(hN:‹(n_X X i x,0)›)(g4:o_ a:=by exact λ_ _=>rfl)
 (W:‹attributeBase (.Subscript (.Name x p) a p2) "append" X.env (eval (.Subscript (.Name x p) a p2) X.env)=eval (.Subscript (.Name x p) a p2) X.env›)
 (T:‹zg X af e›)
 (R:‹zC ah af›)(C:‹zw X e []›)(Q:‹zb X af []›)
 (P:‹swapsWith (.Call (.Attribute (.Subscript (.Name x p) a p2) "append" ah) [e] [] af) none O.line X.env=pure false›) :
  QS X (.Expr (.Call (.Attribute (.Subscript (.Name x p) a p2) "append" ah) [e] [] af) O) (ET i ra re):=(pG (qs (uo Ck (pv i hN) ha g4) (cD U iM C) W T R C Q) P).imp λD G H hP=>by
 let⟨own,o,E,h,f,L⟩:=hP;unfold ET at f;cases Z:slot o i with
 |l2 ax =>
  rw[Z]at f;let⟨l,F,B,e3,K,A,m,r⟩:=h.l2 Z;refine#[_,B,tQ.mk h f λY v x q g j=>?_]
  revert j q
  generalize frz x=t;intro q j;cases t<;>try exact q.elim
  cases j;let⟨n,ts,en,s,sz,q⟩:=q;let⟨c,z,ei⟩:=tJ (I:=F) m en s;let⟨I,u,k⟩:=r n c ts z s;refine#[l,F.map V.ref,_,.ref c,rfl,rfl,.of (g _ _ A),qp ei,c,I,rfl,g _ _ u,tQ.mk (h.same g) q λH2 w y q E2 J=>?_];have d:=g.trans E2;refine#[w,I,rfl,d _ _ u,%[k.len|sz],?_];let⟨h',S⟩:=(h.same d).chg2 Z B e3 K (d _ _ A) m (λi b ts a c=>let⟨I,p,q⟩:=r i b ts a c;#[I,d _ _ p,q.same (bU d)]) z ((k.same (bU d)).app (.cons J .nil));exact L.nx own _ G _ q ((bU d).trans S) h'
 |_=>rw[Z]at f;exact f.elim
def Ff(i:Nat)(c a b:RE):RS:=λE o=>match slot o i with
 |.l2 d=>c o λy=>a o λx=>(match frz x with|.int j=>∃n ts,dj d.length j\n/\d[n]?=some ts/\b o λz=>(match frz z with|.int m=>∃k,dj ts.length m\k/\E.nx (o.set i (.l2 (d.set n (ts.set k (frz y)))))|_=>False)|_=>False)
 |_=>False
def _U(i:Nat)(he:QE X e re)(ha:QE X a ra)(hk:QE X b rb)(hN:‹(n_X X i x,0)›)(g4:o_ a:=by exact λ_ _=>rfl)
 (hq:∀v,assign (.Subscript (.Subscript (.Name x p) a p2) b aE) X.env v=(do
   let m <- holding [v] (eval (.Subscript (.Name x p) a p2) X.env)
   let A <- holding [v,m] (eval b X.env)
   standAt aE
   holding [v,m,A] (setItem m A v)
   release [v,m,A] []):=by intro _;rfl)
 (hs:‹swapsWithSole [.Subscript (.Subscript (.Name x p) a p2) b aE] e O.line X.env=pure false›)(hw:‹swappedStores [.Subscript (.Subscript (.Name x p) a p2) b aE] e X.env=pure none›)
 (h1:‹(assignEach [.Subscript (.Subscript (.Name x p) a p2) b aE] X.env).map (·.2)=[assign (.Subscript (.Subscript (.Name x p) a p2) b aE) X.env]›):QS X (.Assign [.Subscript (.Subscript (.Name x p) a p2) b aE] e O) (Ff i re ra rb):=(qP he (GU (uo Ck (pv i hN) ha g4) hk set_list hq) hs hw h1).imp λD G H hP=>by
 let⟨own,o,E,h,g,L⟩:=hP;unfold Ff at g;cases Z:slot o i with
 |l2 ax =>
  rw[Z]at g;let⟨l,P,M,e3,U,K,C,r⟩:=h.l2 Z;refine tQ.mk h g λH0 v0 y q j T=>#[_,M,tQ.mk (h.same j) q λY v x q R u=>?_]
  revert u q
  generalize frz x=t;intro q u;cases t<;>try exact q.elim
  cases u;let⟨n,ts,en,F,q⟩:=q;let⟨c,J,ei⟩:=tJ (I:=P) C en F;let⟨I,eq,B⟩:=r n c ts J F;have f:=j.trans R;refine#[l,P.map V.ref,_,.ref c,rfl,rfl,.of (f _ _ K),qp ei,tQ.mk (h.same f) q λH2 w z q Q s=>?_]
  revert s q
  generalize frz z=t;intro q s;cases t<;>try exact q.elim
  cases s;let⟨k,ek,q⟩:=q;have d:=f.trans Q;refine#[c,I,_,k,rfl,rfl,d _ _ eq,%[B.len|ek],?_];let⟨h',S⟩:=(h.same d).chg2 Z M e3 U (d _ _ K) C (λi b ts a c=>let⟨I,p,q⟩:=r i b ts a c;#[I,d _ _ p,q.same (bU d)]) J (bY.set (T.same (bU (R.trans Q))) k (B.same (bU d)));exact L.nx own _ G _ q ((bU d).trans S) h'
 |_=>rw[Z]at g;exact g.elim
def NX:zi
 |.str i,.str j,q=>q (.fz (.bl (!decide (j.cps.toList<i.cps.toList))))
 |_,_,_=>False
def GW:GO X (compareOp .LtE) NX:=_E.imp λx y H Q d=>by
 let⟨S,t,u,R,_,c,b,a,k⟩:=d;cases c<;>try exact a.elim
 cases b<;>try exact a.elim
 exact#[_,_,rfl,rfl,k H _ _ a (.refl _) (NR.fz (.bl _))]
def ag3:GC X (.builtin "len") (g1 NO):=.one SJ λS t x H Q R b a k=>by
 cases t<;>try exact a.elim
 cases b;exact#[_,rfl,a.1,k H _ _ a.2 (.refl _) (NR.fz (.int _))]
def OM(a:RE):RI:=λo q=>a o λx=>match frz x with|.str s=>q (s.cps.toList.map λc=>.str #[↥[c]])|_=>False
def _g(g:QE X e re):QI X tg e (OM re):=(YN g).imp λG H Q #[own,o,R,h,f,k]=>tQ.mk h f λY v x q j b=>by
 revert b q
 generalize frz x=t;intro q b;cases t<;>try exact q.elim
 cases b;refine#[_,rfl,k Y _ _ q j λS p i _ m=>#[λhi=>show i=_ by simpa using hi,λt a=>?_]];rw[aq]at a;cases z:((by assumption:Str).cps.toList)[i]? with
 |none=>rw[z]at a;cases a
 |some c =>
  rw[z]at a;cases a;refine#[show i<_ by simpa using(ao.mp z).1,?_];rintro x n ⟨rfl,l,d,rfl⟩;rw[<- Array.getElem?_toList,z]at d;cases d;exact#[.refl _,.str _]
abbrev HG:=zn
variable{e:RE}{b:RS}{g:HG}{c:RT}{ks:xI}
theorem KU(h:α->T)(l:List α)(J:List α->xo->Prop)(st:∀c a d o,l=c++a::d->J c o->g (h a) o λi=>b { E with nx:=J (c++[a]),ct:=J (c++[a]),bk:=E.nx } i)(f:∀o,J l o->E.nx o):∀(d c:List α)(o:xo),l=c++d->J c o->vV g b E (d.map h) o
 |[],c,o,e,j=>f o (by rw[append_nil]at e;rwa[e])
 |a::d,c,o,e,j=>#[J (c++[a]),λo k=>KU h l J st f d (c++[a]) o (by rw[e];simp) k,st c a d o e j]
def eF(h:α->T)(l:List α)(J:List α->xo->Prop)(j:J [] o)(st:∀c a f o,l=c++a::f->J c o->g (h a) o λe=>b { E with nx:=J (c++[a]),ct:=J (c++[a]),bk:=E.nx } e)(d:∀o,J l o->E.nx o):vV g b E (l.map h) o:=KU h l J st d l [] o rfl j
theorem FQ(J:Nat->xo->Prop):∀(I:xk)(k:Nat){o:xo},J k o->(∀i t o,I[i]?\t->J (k+i) o->g t o λc=>b { E with nx:=J (k+i+1),ct:=J (k+i+1),bk:=E.nx } c)->(∀o,J (k+I.length) o->E.nx o)->vV g b E I o
 |[],_,o,j,_,a=>a o j
 |t::ts,k,o,j,st,a=>#[J (k+1),λo z=>FQ J ts (k+1) z (λi t o e z=>by
   have:=st (i+1) t o ↑e %[show k+(i+1)=k+1+i by lia|z];rw[show k+(i+1)+1=k+1+i+1 by lia]at this;exact this) (λo z=>a o %[length_cons,show k+(ts.length+1)=k+1+ts.length by lia|z]),st 0 t o rfl j]
def jg(J:Nat->xo->Prop)(j:J 0 o)(st:∀k o,k<n->J k o->g (.int (k:Nat)) o λc=>b { E with nx:=J (k+1),ct:=J (k+1),bk:=E.nx } c)(a:∀o,J n o->E.nx o):vV g b E (rng 0 n) o:=by
 refine FQ J (rng 0 n) 0 j (λi t o e z=>?_) λo z=>a o (by rw[rng,ak,WP,U2]at z;exact z);unfold rng at e;rw[aq]at e;by_cases hi:i<n
 .rw[VY hi]at e;cases e;rw[U2]at z ⊢;have:=st i o hi z;show g (.int (0+((i:Nat):Int))) o _;rw[show(0:Int)+((i:Nat):Int)=((i:Nat):Int)by exact Int.zero_add _];exact this
 .rw[aM ↑hi]at e;cases e
def q_(h:α->T)(l:List α)(J:Nat->xo->Prop)(j:J 0 o)(st:∀k a o,l[k]?\a->J k o->g (.tup [.int (k:Nat),h a]) o λd=>b { E with nx:=J (k+1),ct:=J (k+1),bk:=E.nx } d)(c:∀o,J l.length o->E.nx o):vV g b E (uh (l.map h)) o:=by
 refine FQ J (uh (l.map h)) 0 j (λi t o e z=>?_) λo z=>c o (by rw[uh,ak,Tu,ak,U2]at z;exact z);unfold uh at e;rw[aq]at e;by_cases hi:i<l.length
 .rw[aj ↑hi,Q2,VW]at e;cases e;rw[U2]at z ⊢;have:=st i _ o (aj hi) z;exact this
 .rw[aM ↑hi]at e;cases e
theorem comp_map(h:α->T)(f:α->T):∀(l:List α){q:xk->Prop},(∀a∈l,∀(N:T->Prop)(M:Prop),N (f a)->g (h a) o λd=>c d λb=>sw b (e d λy=>N (frz y)) M)->q (l.map f)->iG g c e o (l.map h) q
 |[],_,_,k=>k
 |a::l,q,st,k=>#[λy=>y=f a,False,λy z=>comp_map h f l (λa i=>st a (aJ _ i)) (z ▸ k),False.elim,st a (aO ..) (λy=>y=f a) False rfl]
theorem jL(h:α->T)(p:α->Bool)(f:α->T):∀(l:List α){q:xk->Prop},(∀a∈l,∀(N:T->Prop)(M:Prop),(p a=true->N (f a))->(p a=false->M)->g (h a) o λi=>c i λb=>sw b (e i λy=>N (frz y)) M)->q ((l.filter p).map f)->iG g c e o (l.map h) q
 |[],_,_,k=>k
 |a::l,q,st,k=>#[λy=>y=f a/\p a,p a=false,λy z=>jL h p f l (λa d=>st a (aJ _ d)) (by rw[List.filter_cons_of_pos z.2]at k;exact z.1 ▸ k),λz=>jL h p f l (λa d=>st a (aJ _ d)) (by rw[List.filter_cons_of_neg (by rw[z];decide)]at k;exact k),st a (aO ..) (λy=>y=f a/\p a) (p a=false) (λz=>#[rfl,z]) id]
inductive ke(R:α->T->Prop):List α->xk->Prop
 |nil:ke R [] []
 |cons {a:α}{t:T}{l:List α}{ts:xk} : R a t->ke R l ts->ke R (a::l) (t::ts)
theorem Yd(h:α->T)(R:α->T->Prop):∀(l:List α){q:xk->Prop},(∀a∈l,∀(N:T->Prop)(M:Prop),(∀t,R a t->N t)->g (h a) o λd=>c d λb=>sw b (e d λy=>N (frz y)) M)->(∀ts,ke R l ts->q ts)->iG g c e o (l.map h) q
 |[],_,_,k=>k [] .nil
 |a::l,q,st,k=>#[R a,False,λy z=>Yd h R l (λa f=>st a (aJ _ f)) λts t=>k _ (.cons z t),False.elim,st a (aO ..) (R a) False λ_ z=>z]
def Hg(f:Nat->T)(n:Nat)(st:∀k,k<n->∀(N:T->Prop)(M:Prop),N (f k)->g (.int (k:Nat)) o λd=>c d λb=>sw b (e d λy=>N (frz y)) M)(k:q ((range n).map f)):iG g c e o (rng 0 n) q:=by
 refine comp_map (λk:Nat=>.int (0+k)) f (range n) (λa h N M i=>?_) k;have:=st a (List.mem_range.mp h) N M i;show g (.int (0+((a:Nat):Int))) o _;rw[show(0:Int)+((a:Nat):Int)=((a:Nat):Int)by exact Int.zero_add _];exact this
def zip_map{α a:Type}(h:α->T)(k:a->T)(I:List α)(ys:List a):G3 (I.map h) (ys.map k)=(I.zip ys).map λp=>.tup [h p.1,k p.2]:=by
 unfold G3;rw[List.zip_map,WU]
 rfl
def Nj(h:α->T)(I:List α):uh (I.map h)=I.zipIdx.map λp=>.tup [.int (p.2:Nat),h p.1]:=by
 unfold uh;rw[List.zipIdx_map,WU]
 rfl
def M_(ks:xI)(j:bo):Bool:=ks.any λk=>decide (k=j)
def eU(ks:xI)(j:bo):xI:=if M_ ks j=true then ks else ks++[j]
def d6(ks:xI)(ts:List α)(j:bo)(t:α):List α:=if M_ ks j=true then ks.zipWith (λk x=>if k=j then t else x) ts else ts++[t]
def afQ{j:bo}(l:ks.length=I.length):putK (ks.zip I) j v=(eU ks j).zip (d6 ks I j v)/\(eU ks j).length=(d6 ks I j v).length:=by
 have any:∀{ks:xI}{I:Ζ},ks.length=I.length->((ks.zip I).any λb=>decide (b.1=j))=M_ ks j:=λ{ks}=>by
  induction ks with
  |nil=>intro I _;rfl
  |cons k ks a =>
   intro I l;cases I with
   |nil=>cases l
   |cons x I=>rw[zip_cons_cons,any_cons,a (Nat.succ.inj l)];rfl
 unfold putK eU d6;rw[any l];by_cases h:M_ ks j
 .rw[ZY h,ZY h,ZY h];refine#[?_,%[TR,l,VQ|_]]
  clear any h
  induction ks generalizing I with
  |nil=>rfl
  |cons k ks a =>
   cases I with
   |nil=>cases l
   |cons x I =>
    rw[zip_cons_cons,map_cons,a (Nat.succ.inj l),zipWith_cons_cons,zip_cons_cons];by_cases h:k=j
    .rw[ZY h,ZY h]
    .rw[ZZ h,ZZ h]
 .rw[ZZ h,ZZ h,ZZ h];exact#[by rw[List.zip_append l];rfl,by simp[l]]
def bY.kp{F:Hp}{j:bo}(r:Rep K F v t)(h:bY K F I ts):bY K F (d6 ks I j v) (d6 ks ts j t):=by
 unfold d6;by_cases z:M_ ks j
 .rw[ZY z,ZY z]
  clear z
  induction ks generalizing I ts with
  |nil=>exact .nil
  |cons k ks c =>
   cases h with
   |nil=>exact .nil
   |cons a b =>
    rw[zipWith_cons_cons,zipWith_cons_cons];refine .cons ?_ (c b);by_cases y:k=j
    .rw[ZY y,ZY y];exact r
    .rw[ZZ y,ZZ y];exact a
 .rw[ZZ z,ZZ z];exact h.app (.cons r .nil)
def EL(i:Nat)(a b:RE):RS:=λE o=>match slot o i with|.d1 ks ts=>a o λy=>b o λk=>∃j,iK (frz k)\j/\ks.length<sizeLine/\E.nx (o.set i (.d1 (eU ks j) (d6 ks ts j (frz y))))|_=>False
def SR.d1{K:Frag}{own:Nat->Ψ}{H:Hp}{G:L2.St}{o:xo}(h:SR K own H G o){i:Nat}{ks:xI}{ts:xk}(e:slot o i=.d1 ks ts):∃l I,G[i]?\(some (.ref l))/\own i=[l]/\H l=some (.dK (ks.zip I))/\ks.length=I.length/\bY K (hd (Ow own) H) I ts:=by
 let⟨u,d,l,I,c,b,a,r⟩:=h.val e (by intro z;cases z);cases c;exact#[l,I,d,b,a,r]
variable{e b:Expr}{g:zn}{as:Ψ}
def KY(i:Nat)(J:X.A.units+1<cLine)(M:QE X e re)(d:QE X b rb)(Q:‹(n_X X i x,0)›)
 (K:‹swapsWith e (some (.Subscript (.Name x p) b aE)) O.line X.env=pure false›):QS X (.Assign [.Subscript (.Name x p) b aE] e O) (EL i re rb):=(ahi J (pv i Q) d M K).imp λD G H P=>by
 let⟨own,o,E,h,a,L⟩:=P;unfold EL at a;cases Z:slot o i with
 |d1 ks ts =>
  rw[Z]at a;let⟨l,I,k,f,U,g,r⟩:=h.d1 Z;refine tQ.mk h a λY v y q n t=>#[_,k,tQ.mk (h.same n) q λH2 w z q m s=>?_];let⟨j,T,sz,q⟩:=q;have c:=n.trans m;cases U5 s T;let⟨B,pl⟩:=afQ (j:=j) (v:=v) g;have C:(ks.zip I).length<sizeLine:=%[VZ,<- g,VQ|sz]
  refine#[l,_,rfl,.inl #[_,j,c _ _ U,rfl,C,rfl],?_];rw[B];let⟨R,S⟩:=(h.same c).chg (gQ Z (by intro z;cases z)) (y:=.d1 (eU ks j) (d6 ks ts j (frz y))) (W:=upd H2 l (.dK ((eU ks j).zip (d6 ks I j v)))) (λb u d e=>(b_ λz=>d (by rw[f,z];simp)).trans e) (by
   rw[k,Br #[i,by rw[f];simp]];exact#[l,_,rfl,f,cu,pl,bY.kp (t.same (bU m)) (r.same (bU c))])
  exact L.nx own _ G _ q ((bU c).trans S) R
 |_=>rw[Z]at a;exact a.elim
def FF(i:Nat)(a b:RE):RE:=λo q=>match slot o i with|.d1 ks ts=>a o λy=>b o λz=>∃j,iK (frz y)\j/\q (.fz ((pO ks ts j).getD (frz z)))|_=>False
def IQ(i:Nat)(E:X.A.units+1<cLine)(J:QE X a ra)(F:QE X b rb)(m:M2 X (.Name x p) "get" ah a b af:=by first|exact#[rfl,rfl,rfl,rfl]|constructor<;>rfl)(L:‹(n_X X i x,0)›) :
  QE X (.Call (.Attribute (.Name x p) "get" ah) [a,b] [] af) (FF i ra rb):=(af9 E (pv i L) J F m).imp λG H Q K=>by
 let⟨own,o,R,h,c,k⟩:=K;unfold FF at c;cases Z:slot o i with
 |d1 ks ts =>
  rw[Z]at c;let⟨l,I,P,W,f,V,r⟩:=h.d1 Z;refine#[_,P,l,rfl,.inl #[_,.inl f],tQ.mk h c λY v y q n C=>tQ.mk (h.same n) q λg w z q U B=>?_];let⟨j,M,q⟩:=q;have e:=n.trans U;cases U5 C M;refine#[_,I_.k (e _ _ f),?_];have r:=r.same (bU e);cases d:pO ks ts j with
  |none =>
   rw[d]at q;rw[(I8 r).2 d];exact k g _ _ q e (NR.fz B)
  |some t =>
   rw[d]at q;let⟨u,O,s⟩:=(I8 r).1 t d;rw[O];exact k g _ _ q e (NR.fz s)
 |_=>rw[Z]at c;exact c.elim
def kT:bo->T
 |.inl i=>.int i
 |.inr s=>.str s
def l9(f:xI->xk->xk)(i n:Nat)(g:zn)(c:RT)(e:RE):RS:=λE o=>match slot o i with
 |.d1 ks ts=>ks.length<=sizeLine/\iG g c e (replicate n .und++o.set i (.fz (.dct ks ts))) (f ks ts) λa=>E.rt (.l1 a)
 |_=>False
def iW(J:Addr->Obj->wx->It)(c:TE):TI:=λG H R=>c G H λx Y=>∃a b,x=.ref a/\Y a=some (.dK b)/\∀o,R (J a o b) (upd Y a (.frz o (.dK b)))
abbrev SV:=l9 λks _=>ks.map kT
abbrev SE:=l9 λks ts=>(ks.zip ts).map λp=>.tup [kT p.1,p.2]
def ahW{a:Addr}{d:Obj}{F:Hp}(l:ks.length=I.length)(e:F a\(.frz d (.dK (ks.zip I)))):h7 K (nE a d (ks.zip I)) F (ks.map kT):=λS H i _ h=>by
 have f:=(cW (h _ _ e)).2;have c:(ks.zip I).length=ks.length:=%[VZ,<- l,VQ|_]
 refine#[λhi=>#[f,by rw[c];simpa using hi],λt b=>?_];rw[aq]at b;cases z:ks[i]? with
 |none=>rw[z]at b;cases b
 |some k =>
  rw[z]at b;cases b;have hi:=(ao.mp z).1;refine#[#[f,by rwa[c]],?_];rintro x W ⟨rfl,m,y,g,rfl⟩;rw[aj (by rwa[c]),JP]at g;rw[aj hi]at z;cases z;cases g;refine#[.refl _,?_];cases ks[i]with
  |inl j=>exact .int _
  |inr s=>exact .str _
def aiX{a:Addr}{f:Obj}{F:Hp}(l:ks.length=I.length)(e:F a\(.frz f (.dK (ks.zip I))))(r:bY K F I ts):h7 K (nr a f (ks.zip I)) F ((ks.zip ts).map λp=>.tup [kT p.1,p.2]):=λS H i u m=>by
 have h:=(cW (m _ _ e)).2;have lt:=r.len;have d:(ks.zip I).length=ks.length:=%[VZ,<- l,VQ|_]
 have b:(ks.zip ts).length=ks.length:=%[VZ,<- lt,<- l,VQ|_]
 refine#[λhi=>#[h,by rw[ak,b]at hi;rwa[d]],λt c=>?_];rw[aq]at c;cases z:(ks.zip ts)[i]? with
 |none=>rw[z]at c;cases c
 |some q =>
  rw[z]at c;cases c;let⟨hi,z⟩:=ao.mp z;rw[JP]at z;subst z;rw[b]at hi;let⟨y,g,o⟩:=r.at_ (aj (show i<ts.length by lia));refine#[#[h,by rwa[d]],?_];rintro x W ⟨w,v,t,k,n,rfl,rfl⟩;rw[aj (by rwa[d]),JP]at k;rw[aj (aR hi (WG l))]at g;cases g;cases k;refine#[zT.upd n,.tup (.of (Zf n u)) (.cons ?_ (.cons (o.same (m.trans (bU (zT.upd n)))) .nil))];cases ks[i]with
  |inl j=>exact .int _
  |inr s=>exact .str _
def IP{c:Addr->Obj->wx->It}{f:xI->xk->xk}(i:Nat)(pi:PI X tg iter (iW c (Lg i)))(U:∀{a p ks I ts F},ks.length=I.length->F a\(.frz p (.dK (ks.zip I)))->bY X.K F I ts->h7 X.K (c a p (ks.zip I)) F (f ks ts)/\(f ks ts).length=ks.length)(V:Scope)(N M I:Φ)(hg:∀{C d m A t},QG (X.compG M J I C d m A t) I.length tg g)(ht:∀{C d m A t},f_ (X.compG M J I C d m A t) aS rc)(he:∀{C d m A t},QE (X.compG M J I C d m A t) bg re)
 (cy:‹X.env.scope=V›)(cK:‹X.N=N›)(hc:‹X.calm›)(hk:‹J.kind=.function›)(h:CK V J N M I:=by decide +kernel)(hs:zh X iter) :
  QS X (.Return (some (.ListComp bg [#[tg,iter,aS,0]] J af)) O) (l9 f i I.length g rc re):=(z8 (Iq (gt:=gf X.K I.length g) (tc:=tQT X.K rc) (te:=tQ X.K re) V N M I pi hg ht he cy cK hc hk h hs)).imp λD G H Y=>by
 let⟨own,o,E,h,q,L⟩:=Y;unfold l9 at q;cases Z:slot o i with
 |d1 ks ts =>
  rw[Z]at q;let⟨l,ys,e1,R,e4,ln,r⟩:=h.d1 Z;refine#[_,e1,l,_,rfl,e4,λp DD nD=>?_];have eo:∀b,Ow (own1 own i []) b->Ow own b/\b≠l:=λb Y=>by
   let⟨j,z⟩:=Y;by_cases y:j=i
   .rw[y,kj]at z;cases z
   .rw[gF y]at z;exact#[#[j,z],λw=>y (h.dis j i b z (by rw[R,w];simp))]
  have nl:¬Ow (own1 own i []) l:=λz=>(eo l z).2 rfl;have ol:Ow own l:=#[i,by rw[R];simp];have T:zT (hd (Ow own) H) (hd (Ow (own1 own i [])) (upd H l (.frz p (.dK (ks.zip ys))))):=λb u e=>by
   let⟨n,e⟩:=cW e;rw[cZ λz=>n (eo b z).1,b_ λ(z:b=l)=>n (z.symm ▸ ol)];exact e
  have h1:SR X.K (own1 own i []) (upd H l (.frz p (.dK (ks.zip ys)))) G (o.set i (.fz (.dct ks ts))):=by
   have hi:i<o.length:=(ao.mp (gQ Z (by intro z;cases z))).1;refine#[%[WH,h.len|_],λj y S=>?_,λj hj a x=>?_,λj k a Q P=>?_]
   .by_cases z:j=i
    .subst z;rw[Up hi]at S;cases S;rw[kj,e1];exact#[rfl,_,rfl,.dct (.inr #[p,%[cZ nl|cu]]) ln (r.same T)]
    .rw[VV (Ne.symm z)]at S;rw[gF z];exact((h.sl j y S).same T (.refl _)).off λb hb u e=>(b_ λw=>z (h.dis j i b hb (by rw[R,w];simp))).trans e
   .rw[WH]at hj;rw[gF vy]at x;let⟨I,e⟩:=h.out j hj a x;exact#[I,(b_ λw=>by have:=h.dis j i a x (by rw[R,w];simp);lia).trans e]
   .by_cases z:j=i
    .rw[z,kj]at Q;cases Q
    by_cases y:k=i
    .rw[y,kj]at P;cases P
    .rw[gF z]at Q;rw[gF y]at P;exact h.dis j k a Q P
  have L1:=L.step T;let⟨U,wl⟩:=U ln %[cZ nl|cu] (r.same T);refine Xr h1 U %[wl|q.1] q.2 nD λW v y rx E n=>?_;let⟨B,nb,s⟩:=n;exact L1.rt _ W v y B rx (jd (λb z=>z.imp id (nb b)) E) s λa x=>.inr x
 |_=>rw[Z]at q;exact q.elim
def _Y(i:Nat)(j:Scope)(N f I:Φ)(q:∀{C a b d c},QG (X.compG f J I C a b d c) I.length tg g)(m:∀{C a b d c},f_ (X.compG f J I C a b d c) aS rc)(r:∀{C a b d c},QE (X.compG f J I C a b d c) bg re)
 (t:‹(n_X X i x,0)›)
 (u:‹X.env.scope=j›)(v:‹X.N=N›)(s:‹X.calm›)(o:‹J.kind=.function›)(h:CK j J N f I:=by decide +kernel)(n:∀z,foldedSetIterable (.Name x p) X.env z=pure z:=by intro _;rfl) :
  QS X (.Return (some (.ListComp bg [#[tg,.Name x p,aS,0]] J af)) O) (SV i I.length g rc re):=IP i (ahJ (tg:=tg) (pv i t)) (λl e _=>#[ahW l e,%[ak|_]]) j N f I q m r u v s o h n
def aiS{k:Pos}{m}(i:Nat)(j:Scope)(N f I:Φ)(u:∀{C a b d c},QG (X.compG f J I C a b d c) I.length (.Tuple bt m aE) g)(o:∀{C a b d c},f_ (X.compG f J I C a b d c) aS rc)(v:∀{C a b d c},QE (X.compG f J I C a b d c) bg re)
 (A:‹(n_X X i x,0)›)(y:‹attributeBase (.Name x p) "items" X.env (eval (.Name x p) X.env)=eval (.Name x p) X.env›)(s:‹zC ah k›)
 (B:‹X.env.scope=j›)(D:‹X.N=N›)(w:‹X.calm›)(t:‹J.kind=.function›)(h:CK j J N f I:=by decide +kernel)(q:∀z,foldedSetIterable (.Call (.Attribute (.Name x p) "items" ah) [] [] k) X.env z=pure z:=by intro _;rfl) :
  QS X (.Return (some (.ListComp bg [#[.Tuple bt m aE,.Call (.Attribute (.Name x p) "items" ah) [] [] k,aS,0]] J af)) O) (SE i I.length g rc re):=IP i (aep (pv i A) y s) (λl e r=>#[aiX l e r,%[ak,VZ,l,r.len,VQ|_]]) j N f I u o v B D w t h q
def pa(K:Frag)(as:Ψ)(H:Hp)(b:vj):Prop:=b.length=as.length/\∀(j:Nat)a ts,as[j]?\a->b[j]?\ts->∃I,H a\(.lst I)/\bY K (hd (· ∈ as) H) I ts
abbrev SO:=vj->xk->(vj->Prop)->Prop
def gj(K:Frag)(S:SO):Sp:=λd H Q _=>∃(as:Ψ)(c:vj)(a:Ζ)(ts:xk)(R:vj->Prop),d=as.map V.ref++a/\as.Nodup/\pa K as H c/\bY K (hd (· ∈ as) H) a ts/\S c ts R /\
 ∀W b,R b->zT (hd (· ∈ as) H) (hd (· ∈ as) W)->pa K as W b->Q .non W
def ownL(as:Ψ)(i:Nat):Ψ:=match as[i]? with|some a=>[a]|none=>[]
def KQ{b:Addr}(h:b∈ownL as i):as[i]?\b:=by
 unfold ownL at h;cases e:as[i]? with
 |none=>rw[e]at h;cases h
 |some a=>rw[e]at h;cases YR.mp h;rfl
def KF{b:Addr}(h:as[i]?\b):ownL as i=[b]:=by unfold ownL;rw[h]
def Ow.ownL(as:Ψ):Ow (L2.ownL as)=(· ∈ as):=funext λb=>propext #[λ#[i,z]=>aC (KQ z),λz=>by
 let⟨i,e⟩:=aV z;exact#[i,by rw[KF e];simp]]
def startO(n:Nat)(as:Ψ)(a:vj)(ts:xk):xo:=zipWith OT.la as a++start' (n-as.length) ts
def SR.startO{H:Hp}{as:Ψ}{f:vj}{g:Ζ}{ts:xk}(s:as.Nodup)(h:pa K as H f)(r:bY K (hd (· ∈ as) H) g ts)(N:Φ)(w:as.length+g.length<=N.length):SR K (ownL as) H (L2.start N (as.map V.ref++g)) (L2.startO N.length as f ts):=by
 have a:(zipWith OT.la as f).length=as.length:=%[TR,h.1,VQ|_]
 refine#[?_,λi x e=>?_,λi hi b t=>?_,λi j b k u=>MP s (KQ k) (KQ u)]
 .unfold L2.startO start' L2.start;have:=r.len;simp only[aA,ak,aN,a];lia
 .rw[Ow.ownL];unfold L2.startO at e;unfold L2.start;by_cases hi:i<as.length
  .rw[aF (by rwa[a]),List.getElem?_zipWith]at e;have d:=aj hi;have m:=aj (l:=f) (by rwa[h.1]);rw[d,m]at e;cases e;rw[KF d,aF (by simp;exact WV _ hi),aq,aF ↑hi,aq,d];let⟨I,q,n⟩:=h.2 i _ _ d m;exact#[I,rfl,rfl,q,n]
  .have p:ownL as i=[]:=by unfold ownL;rw[aM (Nat.not_lt.mp hi)]
   rw[p];rw[aD %[a|Nat.not_lt.mp hi],a]at e;unfold start' at e;by_cases c:i-as.length<ts.length
   .rw[aF ↑c,aq,aj c]at e;cases e;let⟨v,k,o⟩:=r.at_ (aj c);have:=r.len;rw[aF (by simp;lia),aq,aD ↑(Nat.not_lt.mp hi),ak,k];exact#[rfl,v,rfl,o]
   .rw[aD ↑c,ak,XG]at e;split at e
    .cases e;rfl
    .cases e
 .unfold L2.startO at hi;rw[aA,a]at hi;have:=(ao.mp (KQ t)).1;lia
theorem slot_of:∀{o:xo}{i:Nat}{x:OT},o[i]?\x->slot o i=x
 |[],_,_,e=>by cases e
 |_::_,0,_,e=>by cases e;rfl
 |_::l,i+1,x,e=>slot_of (o:=l) ↑e
variable{S:SO}{p1:Pos}
def Fun.okO{B:Str}{f:Addr}{N:Φ}(F:Fun K x B st f fd)(D:bL N ps (bH st))(i:∀d ts R,S d ts R->d.length+ts.length=ps.length)(hn:ps.length<=N.length)
 (br:∀(p:Value)(A:Around)(c:xC)(s:Shared)(H:Hp)(E:XK),dZ k (A.deeper (envOfC B (bH st) s.zs f p))->N.Nodup ->
   ∃r,eh (G_ bh P w K mg base N B (bH st) f p A c s H E).nox (fP st) r/\∀as d ts R,d.length=as.length->S d ts R->r { nx:=λo=>∃g,(∀j,slot o j=slot (zipWith OT.la as g) j\/as.length<=j)/\g.length=as.length/\R g,rt:=λ_=>False } (startO N.length as d ts)):fK P w K mg base bh (k+1) f fd ps (gj K S):=by
 refine F.ok D (λL H Q E h=>?_) λp A c s H L Q E V h=>?_
 .let⟨as,d,M,ts,R,rfl,_,l,r,m,_⟩:=h;rw[aA,ak,<- l.1,r.len];exact i _ _ _ m
 .let⟨as,d,M,ts,R,rfl,T,l,r,m,q⟩:=h;let⟨rd,Y,X⟩:=br p A c s H E V D.nd;have s0:=SR.startO T l r N (by rwa[<- l.1,r.len,i _ _ _ m]);refine#[_,Y,_,_,_,s0,X as d ts R l.1 m,#[λown W G o v E h=>?_,λ_ _ _ _ _ z=>z.elim,λ_ _ _ _ z=>z.elim,λ_ _ _ _ z=>z.elim,λ_ _ _ _ _ _ z=>z.elim]];let⟨g,Z,C,v⟩:=v;rw[Ow.ownL]at E;have J:∀(j:Nat)a t,as[j]?\a->g[j]?\t->slot o j=.la a t:=λj a t n y=>by
   rcases Z j with z|z
   .rw[z];exact slot_of %[List.getElem?_zipWith,n,y|_]
   .exact absurd (ao.mp n).1 (Nat.not_lt.mpr z)
  have sub:zT (hd (Ow own) W) (hd (· ∈ as) W):=jd (λb z=>.inl (by
   let⟨j,e⟩:=aV z;have U:j<g.length:=C ▸ (ao.mp e).1;let⟨u,_,I,_,e3,_⟩:=h.val (J j b _ e (aj U)) (by intro z;cases z);exact#[j,by rw[e3];simp])) λ_ _ z=>z
  refine q W g v (E.trans sub) #[C,λj a t n y=>?_];let⟨u,_,I,_,_,e4,O⟩:=h.val (J j a t n y) (by intro z;cases z);exact#[I,e4,O.same sub]
def FV(h:SR K own H G o)(l:∀a∈as,∃j,own j=[a]):nR H (λb=>Ow own b/\b∉as)/\∀W:Hp,hd (· ∈ as) (hd (λb=>Ow own b/\b∉as) W)=hd (Ow own) W:=by
 have c:∀{b x:Addr}{j:Nat},b∈own j->b∉as->x∈own j->x∉as:=λ{b x j}m n i z=>by
  let⟨k,g⟩:=l x z;have:=h.dis j k x i (by rw[g];simp);subst this;rw[g]at m i;cases YR.mp m;exact n z
 refine#[#[λb z=>h.sole z.1,λb C d f #[#[j,z],n] e=>#[#[j,(h.mate z).1 C d f e],c z n ((h.mate z).1 C d f e)],λb x #[#[j,z],n] e=>#[#[j,(h.mate z).2 x e],c z n ((h.mate z).2 x e)]],λW=>funext λb=>?_];by_cases z:b∈as
 .let⟨k,g⟩:=l b z;rw[rN z,rN #[k,by rw[g];simp]]
 .rw[cZ z];by_cases y:Ow own b
  .rw[rN (#[y,z] : Ow own b/\b∉as),rN y]
  .rw[cZ (λw=>y w.1),cZ y]
def Pf(i:Nat)(S:SO)(r:RA):RS:=λE o=>hJ (slot o i) λts c=>r o λas=>S [ts] as λa=>match a with|[t]=>E.nx (o.set i (c t))|_=>False
def W'(i:Nat){y:Str}(d:OkF X.prog X.w X.K X.mg X.base k x ps (gj X.K S))(v:QA X Z r)(g:dZ k X.A:=by exact dZ.mono (by assumption) vw)(hg:‹Gl X x›)(hN:‹(n_X X i y,0)›)(bS:‹(zz x,2)›)
 (C:‹starEach (.Name y p1::Z) X.env=(false,eval (.Name y p1) X.env)::starEach Z X.env›)(a8:‹zb X af Z›)(hs:‹swapsWith (.Call (.Name x p) (.Name y p1::Z) [] af) none O.line X.env=pure false›):QS X (.Expr (.Call (.Name x p) (.Name y p1::Z) [] af) O) (Pf i S r):=by
 let⟨f,fd,F,b,hm,kp⟩:=d;refine(pG (lK (sp:=hF (gj X.K S)) #[f,fd,F.hid,b,hm,kp] g hg (cD (pv i hN) v C) bS C a8) hs).imp λD G H hP=>?_;let⟨own,o,E,h,g,L⟩:=hP;let⟨ts,c,g,Z⟩:=IW g;let⟨l,I,Q,P,e3,r0,V⟩:=h.l1 Z;refine#[_,Q,tQA.mk h g λY U as q _ m r1=>?_];have J:=h.same m;let⟨hid,eg⟩:=FV J (as:=[l]) λa v=>#[i,by rwa[YR.mp v]];have nl:¬(Ow own l/\l∉[l]):=λz=>z.2 vc;refine#[_,hid,[l],[ts],U,as,_,rfl,by simp,#[rfl,λj a t M et=>?_],%[eg|r1],q,λd bu n T s R=>?_]
 .cases j with
  |zero=>cases M;cases et;exact#[I,(cZ nl).trans (m _ _ e3),%[eg|r0.same (bU m)]]
  |succ j=>cases M
 .match bu,n,s with
  |[t],n,s =>
   let⟨ys,ey,ry⟩:=s.2 0 l t rfl rfl;rw[eg]at T;have B:∀{b:Addr}{u:HO},d b\u->dv (λb=>Ow own b/\b∉[l]) Y d b\u:=λ{b u}e=>(jW λz=>by rw[R b z]at e;cases e).trans e;let⟨x,ex⟩:=Mv Z;let⟨h',S'⟩:=J.chg ex (y:=c t) (W:=dv (λb=>Ow own b/\b∉[l]) Y d) (λb u hb e=>by
    by_cases z:Ow own b
    .rw[xJ #[z,λy=>hb (by rwa[P])]];exact e
    .exact B (cW (T b u ((cZ z).trans e))).2) (by
    rw[Q,P];refine V _ ys t (B ey) (ry.same λb u e=>?_);let⟨n1,e⟩:=cW e;rw[cZ λz=>by rw[R b #[z,n1]]at e;cases e];exact B e)
   exact L.nx own _ G _ n ((bU m).trans S') h'
def OZ(i j:Nat)(S:SO)(r:RA):RS:=λE o=>hJ (slot o i) λts c=>hJ (slot o j) λa d=>r o λas=>S [ts,a] as λb=>match b with|[t,u]=>E.nx ((o.set i (c t)).set j (d u))|_=>False
def Oo(i j:Nat){y z:Str}(g:OkF X.prog X.w X.K X.mg X.base k x ps (gj X.K S))(v:dZ k X.A)(hg:Gl X x)(ha:QA X Z r)(kq:‹(i≠j,2)›)(hN:‹(n_X X i y,0)›)(hN2:‹(n_X X j z,0)›)(bS:‹(zz x,2)›)
 (he:‹starEach (.Name y p1::.Name z p2::Z) X.env=(false,eval (.Name y p1) X.env)::starEach (.Name z p2::Z) X.env›)(he2:‹starEach (.Name z p2::Z) X.env=(false,eval (.Name z p2) X.env)::starEach Z X.env›)(a8:‹(backTo af (starEach (.Name z p2::Z) X.env)).any (·.1)=false›)(hs:‹swapsWith (.Call (.Name x p) (.Name y p1::.Name z p2::Z) [] af) none O.line X.env=pure false›):QS X (.Expr (.Call (.Name x p) (.Name y p1::.Name z p2::Z) [] af) O) (OZ i j S r):=by
 let⟨f,fd,F,b,hm,kp⟩:=g;refine(pG (lK (sp:=hF (gj X.K S)) #[f,fd,F.hid,b,hm,kp] v hg (cD (pv i hN) (cD (pv j hN2) ha he2) he) bS he a8) hs).imp λD G H hP=>?_;let⟨own,o,E,h,v,L⟩:=hP;let⟨ts,c,v,Z⟩:=IW v;let⟨us,d,v,Q⟩:=IW v;let⟨l,I,e1,e2,e3,r0,sl⟩:=h.l1 Z;let⟨m,zs,f1,f2,f3,s0,V⟩:=h.l1 Q;have lm:l≠m:=λz=>kq (h.dis i j l (by rw[e2];simp) (by rw[f2,z];simp));refine#[_,e1,_,f1,tQA.mk h v λY vs as q _ C r1=>?_];have h1:=h.same C;let⟨hid,eg⟩:=FV h1 (as:=[l,m]) λa ha=>by
  rcases YU.mp ha with z|z
  .exact#[i,by rwa[z]]
  .exact#[j,by rwa[YR.mp z]]
 have nl:¬(Ow own l/\l∉[l,m]):=λz=>z.2 vc;have nm:¬(Ow own m/\m∉[l,m]):=λz=>z.2 vc;refine#[_,hid,[l,m],[ts,us],vs,as,_,rfl,by simp[lm],#[rfl,λj a t B P=>?_],%[eg|r1],q,λg bu rx EE U bj=>?_]
 .match j,B,P with
  |0,B,P=>cases B;cases P;exact#[I,(cZ nl).trans (C _ _ e3),%[eg|r0.same (bU C)]]
  |1,B,P=>cases B;cases P;exact#[zs,(cZ nm).trans (C _ _ f3),%[eg|s0.same (bU C)]]
  |j+2,B,_=>cases B
 .match bu,rx,U with
  |[t,u],rx,U =>
   let⟨ys,ey,ry⟩:=U.2 0 l t rfl rfl;let⟨ws,ew,oz⟩:=U.2 1 m u rfl rfl;rw[eg]at EE;have R:∀{b:Addr}{u:HO},g b\u->dv (λb=>Ow own b/\b∉[l,m]) Y g b\u:=λ{b u}e=>(jW λz=>by rw[bj b z]at e;cases e).trans e;generalize hM:dv (λb=>Ow own b/\b∉[l,m]) Y g=M at R;have J:∀b u,b≠l->b≠m->Y b\u->M b\u:=λb u T n2 e=>by
    by_cases z:Ow own b
    .rw[<- hM,xJ #[z,by simp[T,n2]]];exact e
    .exact R (cW (EE b u ((cZ z).trans e))).2
   have s:∀(M':Hp),(∀b,b≠m->M' b=M b)->zT (hd (· ∈ [l,m]) g) (hd (Ow own) M'):=λM' hM' b u e=>by
    let⟨T,e⟩:=cW e;rw[cZ (λz=>by rw[bj b #[z,T]]at e;cases e),hM' b λz=>T (by simp[z])];exact R e
   let⟨x,ex⟩:=Mv Z;let⟨x2,ex2⟩:=Mv Q;let⟨h2,S2⟩:=h1.chg ex (y:=c t) (W:=upd M m (.lst zs)) (λb u hb e=>by
    by_cases z:b=m
    .rw[z,cu];rw[z,C _ _ f3]at e;exact e
    .rw[b_ z];exact J b u (λy=>hb (by rw[e2,y];simp)) z e) (by
    rw[e1,e2];exact sl _ ys t ((b_ lm).trans (R ey)) (ry.same (s _ λb n=>b_ n)))
   let⟨h3,S3⟩:=h2.chg (show(o.set i (c t))[j]?\x2 by rwa[VV kq]) (y:=d u) (W:=M) (λb w hb e=>by rw[b_ λz=>hb (by rw[f2,z];simp)]at e;exact e) (by
    rw[f1,f2];exact V _ ws u (R ew) (oz.same (s _ λ_ _=>rfl)))
   exact L.nx own _ G _ rx ((bU C).trans (S2.trans S3)) h3
def O1(g:zn)(c:RT)(e:RE)(o:xo):xk->(vj->Prop)->Prop
 |[],q=>q []
 |t::ts,q=>∃(N:xk->Prop)(M:Prop),(∀y,N y->O1 g c e o ts λa=>q (y::a))/\(M->O1 g c e o ts q)/\g t o λd=>c d λb=>sw b (e d λy=>match y with|.l1 a=>N a|_=>False) M
def pW(b:RI)(n:Nat)(g:zn)(c:RT)(e:RE):RE:=λo q=>b o λI=>I.length<=sizeLine/\O1 g c e (replicate n .und++o) I λa=>q (.l2 a)
def adw{J:It}{I:xk}(h1:SR K own Y G o)(wk:h7 K J (hd (Ow own) Y) I)(lx:I.length<=sizeLine)(q:O1 g rc re (replicate n .und++o) I λC=>R (.l2 C))(nD:Y D=none)(k:∀W v x,R x->zT Y W->NR K (Ow own) Y W v x->Q v W) :
  ∃d:Nat->Nat->Ζ->Hp->Prop,(∃m,d 0 m [] (upd Y D (.lst [])))/\∀i m ys h,d i m ys h ->
   (J.stop i h/\Q (.ref D) h)\/(J.go i h/\∀x W,J.yld i h x W->∀l:L2.St,l.length=n->gS (gf K n g) x (l++G) W λA H2=>∃ck:L2.St,ck.length=n/\A=ck++G/\gL (tQT K rc) A H2 λb T =>
    match b with
    |true=>tM (tQ K re) A T λy H4=>ys.length<sizeLine/\H4 D=some (.lst ys)/\∃Z,Z<m/\d (i+1) Z (ys++[y]) (upd H4 D (.lst (ys++[y])))
    |false=>∃Z,Z<m/\d (i+1) Z ys T):=by
 generalize hO:replicate n OT.und++o=ob at q;refine#[λi m ys h=>∃(f:Ψ)(w:vj),ys=f.map V.ref/\h D=some (.lst ys)/\zT Y h/\(D::f).Nodup/\(∀b∈f,Y b=none)/\f.length=w.length/\(∀(i:Nat)b ts,f[i]?\b->w[i]?\ts->∃I,h b\(.lst I)/\bY K (hd (λb=>Ow own b\/b∈D::f) h) I ts)/\ys.length<=i/\i<=I.length/\m=I.length-i/\O1 g rc re ob (I.drop i) λC=>R (.l2 (w++C)),#[_,[],[],rfl,cu,zT.upd nD,by simp,λ_ z=>(nomatch z),rfl,(λi b ts e=>by cases e),aG _,aZ _,rfl,q],?_];rintro i m ys h ⟨f,w,rfl,eD,L,nd,nb,bl,X,il,ix,rfl,t⟩;have nA:∀a∈D::f,Y a=none:=λa F=>by
  rcases YU.mp F with z|z
  .rw[z];exact nD
  .exact nb a z
 have eA:∀a∈D::f,∃ys,h a\(.lst ys):=λa F=>by
  rcases YU.mp F with z|z
  .exact#[_,z ▸ eD]
  .let⟨j,e⟩:=aV z;have lj:=(ao.mp e).1;let⟨P,r,_⟩:=X j a _ e (aj (aR lj (WG bl)));exact#[P,r]
 have hn:∀b,Ow own b\/b∈D::f->h b≠none:=λb z=>z.elim (λz=>((h1.same L).sole z).ne) λe z=>by let⟨ys,ey⟩:=eA b e;rw[ey]at z;cases z
 have SD:zT (hd (Ow own) Y) (hd (λb=>Ow own b\/b∈D::f) h):=jd (λb z=>z.imp id (nA b)) L;let⟨w1,w2⟩:=wk (λb=>Ow own b\/b∈D::f) h i hn SD;by_cases hi:i<I.length
 .right;let⟨go,yl⟩:=w2 _ (aj hi);rw[QP hi]at t;let⟨N,M,hN,hM,t⟩:=t;refine#[go,λx H2 y l hp=>?_];let⟨O,rx⟩:=yl x H2 y;have eO:(λb=>Ow own b\/b∈D::f)=Ow (ownL2 n o.length own (D::f)):=funext λb=>propext Ow.ownL2.symm;have hb:SR K (ownL2 n o.length own (D::f)) H2 (l++G) ob:=by
   have:=h1.blockL (L.trans O) nA (λa F=>let⟨ys,e⟩:=eA a F;#[ys,O _ _ e]) l;rw[hp,hO]at this;exact this
  rw[eO]at rx X;refine#[_,#[ownL2 n o.length own (D::f),ob,_,_,hb,rx,t,λgv σ3 o3 q3 j' h3=>?_],λ_ _ z=>z];let⟨ck,eR,rfl⟩:=Xz hp j';have e3:gv=ownL2 n o.length own (D::f):=funext λj=>by
   rcases j'.1 j with e|⟨s,r⟩
   .exact e
   .rw[r];unfold ownL2;rw[ZY s]
  subst e3;refine#[ck,eR,rfl,_,tQT.mk h3 q3 λT b q4 U=>?_,λ_ _ z=>z];have q4:sw b (re o3 λy=>match y with|.l1 C=>N C|_=>False) M:=q4;cases b with
  |false=>exact#[I.length-(i+1),by lia,f,w,rfl,U _ _ (O _ _ eD),L.trans (O.trans U),nd,nb,bl,λj b ts s r=>by
    let⟨P,ez,rz⟩:=X j b ts s r;rw[eO];exact#[P,U _ _ (O _ _ ez),rz.same (bU (O.trans U))],by exact aL il (X1 _ _),by exact hi,rfl,hM q4]
  |true =>
   refine#[_,#[_,_,_,h3.same U,q4,λH4 v y q5 E4 r4=>?_],λ_ _ z=>z]
   match y,q5,r4 with
   |.l1 C,q5,r4 =>
    let⟨B,nB,p,P,ev,rfl,ep,rp⟩:=r4;cases ev;have np:T p=none:=nB p vc;have pn:∀{a:Addr}{u:HO},T a\u->a≠p:=λe z=>by rw[z,np]at e;cases e
    have E:zT h T:=O.trans U;have pD:D≠p:=pn (E _ _ eD);have pb:p∉f:=λz=>by
     let⟨ys,ey⟩:=eA p (aJ _ z);exact pn (E _ _ ey) rfl
    have cS:∀(H:Hp)(u:HO),hd (λb=>Ow own b\/b∈D::(f++[p])) (upd H D u)=hd (λb=>Ow own b\/b∈D::(f++[p])) H:=λH u=>Br (S:=λb=>Ow own b\/b∈D::(f++[p])) (.inr vc);refine#[by lia,E4 _ _ (E _ _ eD),I.length-(i+1),by lia,f++[p],w++[C],by rw[bf];rfl,cu,λb u e=>?_,?_,λb hb=>?_,by simp[bl],λj b ts s r=>?_,%[aA,length_singleton|succ_le_succ il],by exact hi,rfl,?_]
    .rw[b_ λz=>by rw[z,nD]at e;cases e];exact E4 _ _ (E _ _ (L _ _ e))
    .rw[<- cons_append];exact List.nodup_append.mpr #[nd,by simp,λa F c hc z=>by
      rw[YR.mp hc]at z;rcases YU.mp F with y|y
      .exact pD (y.symm.trans z)
      .exact pb (z ▸ y)]
    .rcases Y1.mp hb with z|z
     .exact nb b z
     .rw[YR.mp z];exact(L.trans E).free np
    .rw[cS];by_cases hj:j<f.length
     .rw[aF hj]at s;rw[aF (aR hj (WG bl))]at r;let⟨P,ez,rz⟩:=X j b ts s r;have bD:b≠D:=λz=>(List.nodup_cons.mp nd).1 (z ▸ aC s);refine#[P,%[b_ bD|E4 _ _ (E _ _ ez)],rz.same ?_];rw[<- eO];exact jd (λc z=>by
       rcases z with z|z
       .exact .inl (.inl z)
       .rw[<- cons_append]at z;rcases Y1.mp z with y|y
        .exact .inl (.inr y)
        .rw[YR.mp y];exact .inr (E.free np)) (E.trans E4)
     .rw[aD (VU hj)]at s;rw[aD vy]at r;have j0:j-f.length=0:=by
       have:=(ao.mp s).1;simp at this;omega
      rw[j0]at s;rw[show j-w.length=0 by lia]at r;cases s;cases r;refine#[_,%[b_ (Ne.symm pD)|ep],rp.same (jd (λc z=>.inl ?_) λ_ _ z=>z)];rcases z with z|z
      .exact .inl (Ow.ownL2.mpr (.inl z))
      .rw[<- cons_append]at z;rcases Y1.mp z with y|y
       .exact .inl (Ow.ownL2.mpr (.inr y))
       .exact .inr y
    .have:=hN _ q5;simp only[Wp,List.singleton_append];exact this
 .left;have:i=I.length:=by lia
  refine#[w1 this,?_];rw[Th (VU hi)]at t;have t:R (.l2 (w++[])):=t;rw[append_nil]at t;exact k h _ _ t L #[D::f,nA,D,f,rfl,rfl,nd,eD,bl,X]
def Kx(h:tQ K (pW ri n g rc re) G H Q):vO (jf K ri) n (gS (gf K n g)) (gL (tQT K rc)) (tM (tQ K re)) G H Q:=by
 let⟨own,o,R,h,e,k⟩:=h;exact#[own,o,_,h,e,λY J I q a b D d=>adw (h.same a) b q.1 q.2 d λW v x c E n=>k W v x c (a.trans E) (n.back a)]
def afv:=@zj X tg iter bg aS ri g rc re J O pW Kx
def __{a f:Pos}:=@zF X tg iter bg aS ri g rc re J O i0 y0 a f (λi r n g c e=>om i (pW r n g c e)) λ{_ i0 _ _ _ _ _ _ _ _}#[own,o,E,h,b,L]=>Kx #[own,o,_,h,b,λW v y q S n=>by
 let⟨j,d,k⟩:=h.putA S n i0;exact L.nx j W _ _ q k d]
theorem Q6{α:Type}(h:α->T)(f:α->xk){c:RT}{e:RE}{o:xo} : ∀(l:List α){q:vj->Prop},(∀a∈l,∀(N:xk->Prop)(M:Prop),N (f a)->g (h a) o λd=>c d λb=>sw b (e d λy=>match y with|.l1 i=>N i|_=>False) M)->q (l.map f)->O1 g c e o (l.map h) q
 |[],_,_,k=>k
 |a::l,q,st,k=>#[λy=>y=f a,False,λy z=>Q6 h f l (λa j=>st a (aJ _ j)) (z ▸ k),False.elim,st a (aO ..) (λy=>y=f a) False rfl]
def W9{e:RE}{q:vj->Prop}(f:Nat->xk)(n:Nat)(st:∀k,k<n->∀(N:xk->Prop)(M:Prop),N (f k)->g (.int (k:Nat)) o λd=>c d λb=>sw b (e d λy=>match y with|.l1 h=>N h|_=>False) M)(k:q ((range n).map f)):O1 g c e o (rng 0 n) q:=by
 refine Q6 (λk:Nat=>.int (0+k)) f (range n) (λa i N M j=>?_) k;have:=st a (List.mem_range.mp i) N M j;show g (.int (0+((a:Nat):Int))) o _;rw[show(0:Int)+((a:Nat):Int)=((a:Nat):Int)by exact Int.zero_add _];exact this
abbrev Nr(f:Β):PyData:=.tuple [.int f.1,.int f.2]
abbrev kS(f:Β):T:=.tup [.int f.1,.int f.2]
def ahG(K:Frag):V->Ζ->Hp->VK->Prop:=λx c H Q=>∃(l:Addr)(b:V)(I:Ζ)(a:Γ)(f:Β)(j:Nat),x=.ref l/\c=[b]/\H l=some (.lst I)/\I.length=a.length/\(∀(i:Nat)x g,I[i]?\x->a[i]?\g->iw K H x (Nr g))/\iw K H b (Nr f)/\I.length<=sizeLine/\a[j]?=some f/\(∀i g,i<j->a[i]?\g->g≠f)/\Q (.int (j:Nat)) H
open Classical in
def o2(h:Heap)(f:Β)(v:Value):Bool:=decide (∃as,Reads h v (Nr f) as)
open Classical in
def Wc{h:Heap}{v:Value}{g f:Β}(r:Reads h v (Nr g) as):o2 h f v=(decide (g.1=f.1)&&decide (g.2=f.2)):=by
 unfold o2;by_cases e:g=f
 .subst e;rw[Zs #[as,r],Zs rfl,Zs rfl];rfl
 .have i:¬∃as,Reads h v (Nr f) as:=λ#[j,z]=>e (by
   have:=SeqAt.Reads.unique _ _ _ _ _ rfl r z;injection this with this;injection this with b a;injection a with a;injection b with b;injection a with a;exact Prod.ext b a)
  rw[Zp i];by_cases d:g.1=f.1
  .by_cases c:g.2=f.2
   .exact absurd (Prod.ext d c) e
   .rw[Zp c,JS]
  .rw[Zp d,Bool.false_and]
def acO(hu:X.A.units+64<cLine):kL X "list.index" (ahG X.K):=by
 intro U s G H x vs v us Q a M N h;let⟨l,b,I,w,f,j,rfl,rfl,W,lf,Z,Y,S,J,O,q⟩:=h;cases M;let⟨u,rfl,p⟩:=N.one;let⟨bs,rb⟩:=a.readsK Y p;let⟨z,c,n,r,ko,e⟩:=a.lstM W;have lr:=r.length;have t:∀(i:Nat)(hi:i<c.toArray.size),∃g as,w[i]?\g/\Reads s.heap c.toArray[i] (Nr g) as:=λi hi=>by
  rw[aX]at hi;have E:I[i]?\(I[i]' vy):=aj _;have L:w[i]?\(w[i]' vy):=aj _;let⟨u,eu,p⟩:=r.get E;let⟨as,ra⟩:=a.readsK (Z i _ _ E L) p;refine#[_,as,L,?_];rwa[List.getElem_toArray,(ao.mp eu).2]
 have lj:=(ao.mp J).1;have B:j<c.toArray.size:=by rw[aX];lia
 rw[sizeLine_eq]at S;refine call_meets F.slot_list_index #[_,e,rfl] F.entry_list_index (F.args_list_index_2 _ _) (SeqAt.list_indexAt l c.toArray n _ _ _ (o2 s.heap f) j B vy ?_ λm V R=>?_) #[e,λy T=>?_,#[.int _,H,a.tok _,#[_,rfl],q]]
 .let⟨g,as,o,k⟩:=t j B;rw[J]at o;cases o;rw[Wc k,Zs rfl,Zs rfl];rfl
 .let⟨g,as,o,k⟩:=t m V;have P:=O m g R o;rw[Wc k];by_cases D:g.1=f.1
  .by_cases C:g.2=f.2
   .exact absurd (Prod.ext D C) P
   .rw[Zp C,JS]
  .rw[Zp D,Bool.false_and]
 .let⟨i,hi,ei⟩:=Array.getElem_of_mem T;let⟨g,as,o,k⟩:=t i hi;rw[<- ei,Wc k,<- pM];exact SeqAt.eqAt_reads _ _ _ _ _ _ _ _ k rb rfl rfl (by
   have d:(Nr g).depth<=3:=UT rfl;have m:=min_le_left (Nr g).depth (Nr f).depth;show X.A.units+1+min (Nr g).depth (Nr f).depth<cLine;lia)
def N9(a:RE)(r:RA):RE:=λo q=>a o λx=>match frz x with
 |.lst ts=>r o λc=>∃(b:Γ)(f:Β)(j:Nat),ts=b.map kS/\c=[kS f]/\b.length<=sizeLine/\b[j]?=some f/\(∀i g,i<j->b[i]?\g->g≠f)/\q (.fz (.int (j:Nat)))
 |_=>False
def Yf{o:Expr}(C:X.A.units+64<cLine)(K:QE X o ra)(O:QA X [e] r)(N:‹attributeBase o "index" X.env (eval o X.env)=eval o X.env›)
 (M:‹zg X af e›)
 (L:‹zC ah af›)(D:‹zw X e []›)(J:‹zb X af []›) :
  QE X (.Call (.Attribute o "index" ah) [e] [] af) (N9 ra r):=by
 refine(l3 PySem.F.plainAttrs_list PySem.F.slot_list_index PySem.F.type_list_index (acO C) K.mono O.mono N M L D J).imp λG H Q P=>?_;let⟨own,o,R,h,E,k⟩:=P;refine#[_,tQ.mk h E λY v x q s d=>?_,λ_ _ z=>z];cases a:frz x with
 |lst ts =>
  rw[a]at q d;let⟨p,I,rfl,e,b⟩:=d.lstI;refine#[.inl #[rfl,_,SqL.of (cI _ _ e)],_,tQA.mk (h.same s) q λn V W q2 _ c w=>?_,λ_ _ z=>z];let⟨l,f,j,rfl,rfl,lf,S,B,q3⟩:=q2;let⟨y,rfl,t⟩:=w.one;have U:zT (hd (Ow own) Y) n:=(bU c).trans cI;refine#[p,y,I,l,f,j,rfl,rfl,c _ _ (cI _ _ e),%[b.len,ak|_],λi x g a T=>?_,(t.shows _ rfl rfl).same cI,%[b.len,ak|lf],S,B,k n _ _ q3 (s.trans c) (NR.fz (.int _))];let⟨v,m,u⟩:=b.at_ (show(l.map kS)[i]?\(kS g)by rw[aq,T];rfl);rw[a]at m;cases m;exact(u.shows _ rfl rfl).same U
 |_=>rw[a]at q;exact q.elim
theorem bY.strs{K:Frag}{F:Hp} : ∀{I:Ζ}{ys:Φ},bY K F I (ys.map T.str)->I=ys.map V.str
 |_,[],h=>by cases h;rfl
 |_,y::ys,h=>by
  cases h with
  |cons a b =>
   cases a;rw[bY.strs b];rfl
def L3(a:RE)(r:RA):RE:=λo q=>a o λx=>match frz x with
 |.str s=>r o λb=>∃ys:Φ,b=[.lst (ys.map T.str)]/\(ys.map (·.length)).sum+ys.length*s.length<=16777216/\q (.fz (.str (Txt.join s ys)))
 |_=>False
def aiO{o:Expr}(n:QE X o ra)(z:QA X [e] r)(w:‹attributeBase o "join" X.env (eval o X.env)=eval o X.env›)
 (u:‹zg X af e›)
 (t:‹zC ah af›)(j:‹zw X e []›)(m:‹zb X af []›) :
  QE X (.Call (.Attribute o "join" ah) [e] [] af) (L3 ra r):=by
 refine(Po PySem.F.slot_str_join PySem.F.type_str_join ag4 n z w u t j m).imp λG H Q A=>?_;let⟨own,o,R,h,l,k⟩:=A;refine tQ.mk h l λY v x q c a=>?_;cases b:frz x with
 |str s =>
  rw[b]at q a;cases a;refine#[#[s,rfl],tQA.mk (h.same c) q λB D E q2 _ C g=>?_];let⟨ys,rfl,i,q3⟩:=q2;let⟨y,rfl,d⟩:=g.one;let⟨p,I,rfl,e,f⟩:=d.lstI;exact#[s,p,ys,rfl,rfl,f.strs ▸ (cW e).2,i,k B _ _ q3 (c.trans C) (NR.fz (.str _))]
 |_=>rw[b]at q;exact q.elim
def notStar:Expr->Bool
 |.Starred ..=>false
 |_=>true
def _0{env:Env}(h:notStar e):starEach (e::Z) env=(false,eval e env)::starEach Z env:=by
 cases e<;>first|rfl|cases h
structure eJ(X:Cx)(e:Expr)(r:RE):Prop where
 out:QE X e r
structure kI(X:Cx)(Z:xw)(r:RA):Prop where
 out:QA X Z r
def DQ{r:RE}(h:QE X e r):eJ X e r:=#[h]
def lO{i j O} : eJ X (.Constant (.int i) j O) (rC (.int i)):=#[bF]
def Sc(i:Nat)(b:‹(n_X X i x,0)›):eJ X (.Name x O) (gw i):=#[qv i b]
def ZP{op:Operator}{g:zi}(c:GO X (binaryOp op) g)(e:eJ X a ra)(d:eJ X b rb):eJ X (.BinOp a op b O) (fL g ra rb):=#[bM c e.out d.out]
def lQ:kI X [] ov:=#[bC]
def dG{a:RE}(d:eJ X e a)(b:kI X Z r)(c:‹notStar e›):kI X (e::Z) (EI a r):=#[bA d.out b.out (_0 c)]
def qL(h:kI X Z r)(a:‹(Z.length<=sizeLine,2)›):eJ X (.Tuple Z k O) (AM r):=#[d7 h.out a]
def Tz(h:kI X Z r)(a:‹(Z.length<=sizeLine,2)›):eJ X (.List Z O) (wt r):=#[dg h.out a]
def P7:zi
 |.int i,.int j,q=>aiE i j/\q (.fz (.int (i*j)))
 |_,_,_=>False
def _X:GO X (binaryOp .Mult) P7:=_6.imp λx y H Q d=>by
 let⟨S,t,u,R,_,c,b,a,k⟩:=d;cases c<;>try exact a.elim
 cases b<;>try exact a.elim
 exact#[_,_,rfl,rfl,a.1,k H _ _ a.2 (.refl _) (NR.fz (.int _))]
def OH(n:Nat)(gs:ze):zn
 |.lst ts,o,q=>ts.length=n/\gs ts o q
 |_,_,_=>False
def WA{m:Nat}(hc:X.calm)(h:kG X m Z gs)(c:‹(assignEach Z X.env).length=n›)(f:‹zD X Z›):QG X m (.Tuple Z k O) (OH n gs):=(ahg hc h c f).imp λv G H Q d=>by
 let⟨own,o,t,R,h,r,b,k⟩:=d;cases t<;>try exact b.elim
 let⟨a,I,rfl,e,r⟩:=r.lstI;exact#[a,I,rfl,SqL.of (cI _ _ e),r.len.trans b.1,own,o,_,R,h,r,b.2,k]
variable{x y a b c e f d:RS}
def sq(J:xo->Prop)(k:∀a,J a->y E a)(h:∀Y:xo->Prop,(∀a,J a->Y a)->jY x (λ_=>Y) E o):jY x y E o:=h (y E) k
def LS(J:xo->Prop)(k:∀b,J b->y E b)(h:∀Y:xo->Prop,(∀b,J b->Y b)->jY a (jY x (λ_=>Y)) E o):jY a (jY x y) E o:=h (y E) k
def so(J:xo->Prop)(k:∀d,J d->y E d)(h:∀Y:xo->Prop,(∀d,J d->Y d)->jY a (jY b (jY c (jY x (λ_=>Y)))) E o):jY a (jY b (jY c (jY x y))) E o:=h (y E) k
def sj(J:xo->Prop)(k:∀g,J g->y E g)(h:∀Y:xo->Prop,(∀g,J g->Y g)->jY a (jY b (jY c (jY d (jY e (jY f (jY x (λ_=>Y))))))) E o):jY a (jY b (jY c (jY d (jY e (jY f (jY x y)))))) E o:=h (y E) k
abbrev XC:=Addr->Φ->xk->Prop
abbrev SX:=xk->(OT->Prop)->XC->Prop
def jl(K:Frag)(S:SX):Sp:=λc H Q E=>∃ts R Z,bY K H c ts/\S ts R Z/\(∀W v x,R x->zT H W->NR K (λ_=>False) H W v x->Q v W) /\
 ∀W C d ks a b,Z C ks b->zT H W->W d\(.xd (ks.zip a))->bY K W a b->E (.ref C) (some d) W
abbrev oN(P:Program)(w:World)(K:Frag)(mg:Str->Ω)(base:Heap)(k:Nat)(x:Str)(ps:Φ)(S:SX):Prop:=nc P w K mg base k x ps (jl K S)
variable{x:Str}{f C1:Addr}{S:SX}{e a:Expr}{eW N1 ib:Φ}{s1:Scope}{ie:Shared}{ka:Ψ}{i8:Δ}
def Fun.okTX{t:Str}{N:Φ}(F:Fun K x t st f fd)(y:bL N ps (bH st))
 {r}(br:∀{i:Value}{A:Around}{b:xC}{s:Shared}{H:Hp}{E:XK},dZ k (A.deeper (envOfC t (bH st) s.zs f i))->N.Nodup ->eh (G_ (eL P w) P w K mg base N t (bH st) f i A b s H E) (fP st) r)(b2:∀ts R Z,S ts R Z->r { nx:=λ_=>R (.fz .non),rt:=R,xc:=Z } (start' N.length ts))(m:∀ts R Z,S ts R Z->ts.length=ps.length:=by intro _ _ _ h;repeat (first|exact(ZH List.length h.1).trans rfl|let⟨_,h⟩:=h)):fK P w K mg base (eL P w) (k+1) f fd ps (jl K S):=by
 refine F.okX y (λJ H Q E h=>?_) λi A b s H J Q E V h=>?_
 .let⟨ts,R,Z,r,n,_⟩:=h;exact r.len.trans (m ts R Z n)
 .let⟨ts,R,Z,r,n,q,T⟩:=h;have h1:=@br i A b s H E V y.nd;have h2:=b2;have p:=l7 (H:=H);have g:=lL q;refine#[_,h1,λ_=>[],_,_,SR.start r N,h2 ts R Z n,#[λown W G o l E h=>?_,λS' W v x B l E s Y=>g S' W v x B l (p ▸ E) s Y,λ_ _ _ _ z=>z.elim,λ_ _ _ _ z=>z.elim,λW C d ks L dQ z E e O=>?_]]
  .exact g (Ow own) W .non _ [] l (p ▸ E) #[rfl,_,rfl,.non] λ_ z=>(nomatch z)
  .have D:=T W C d ks L dQ z (p ▸ E) e O;exact#[λU G u j a M B I F2=>FH U G u j a _ W M B _ I F2 D,λU G u j a c ec I X ge eo=>HR U G u j a c _ I X ge %[eo,<- ec|D]]
def Fun.okUX{t:Str}{N:Φ}(F:Fun K x t st f fd)(y:bL N ps (bH st))
 (br:∀(i:Value)(A:Around)(b:xC)(s:Shared)(H:Hp)(E:XK),dZ k (A.deeper (envOfC t (bH st) s.zs f i))->N.Nodup ->
   ∃r,eh (G_ (eL P w) P w K mg base N t (bH st) f i A b s H E) (fP st) r/\∀ts R Z,S ts R Z->r { nx:=λ_=>R (.fz .non),rt:=R,xc:=Z } (start' N.length ts))(m:∀ts R Z,S ts R Z->ts.length=ps.length:=by intro _ _ _ h;repeat (first|exact(ZH List.length h.1).trans rfl|let⟨_,h⟩:=h)):fK P w K mg base (eL P w) (k+1) f fd ps (jl K S):=by
 refine F.okX y (λJ H Q E h=>?_) λi A b s H J Q E V h=>?_
 .let⟨ts,R,Z,r,n,_⟩:=h;exact r.len.trans (m ts R Z n)
 .let⟨ts,R,Z,r,n,q,T⟩:=h;let⟨rd,h1,h2⟩:=br i A b s H E V y.nd;have p:=l7 (H:=H);have g:=lL q;refine#[_,h1,λ_=>[],_,_,SR.start r N,h2 ts R Z n,#[λown W G o l E h=>?_,λS' W v x B l E s Y=>g S' W v x B l (p ▸ E) s Y,λ_ _ _ _ z=>z.elim,λ_ _ _ _ z=>z.elim,λW C d ks L dQ z E e O=>?_]]
  .exact g (Ow own) W .non _ [] l (p ▸ E) #[rfl,_,rfl,.non] λ_ z=>(nomatch z)
  .have D:=T W C d ks L dQ z (p ▸ E) e O;exact#[λU G u j a M B I F2=>FH U G u j a _ W M B _ I F2 D,λU G u j a c ec I X ge eo=>HR U G u j a c _ I X ge %[eo,<- ec|D]]
def GI:i4 X λC d _ W=>zx X C d W:=λU G H s a C W b B d I F z=>z.1 U G H s a b B I F
def adR:ZD X λC d _ W=>zx X C d W:=λU G H s a C d I e g z=>z.2 U G H s a C rfl I e g rfl
def EG(C:Addr)(c:Str):Sp:=λb H Q _=>∃a v,b=[.ref a,v]/\H a=some (XN a C none)/\∀d,H d=none->d≠a->Q .non (upd (upd H a (XN a C (some d))) d (.xd [(c,v)]))
def U'{a d:Addr}{o c x:HO}(n:H a=none)(e:d≠a):out (upd (upd (upd H a o) a c) d x) a=upd H d x:=by
 funext b
 by_cases z:b=a
 .subst z;rw[XH,b_ (Ne.symm e),n]
 .rw[yW z];by_cases y:b=d
  .subst y;rw[cu,cu]
  .rw[b_ y,b_ z,b_ z,b_ y]
def X'(C:Addr)(a:Str)(re:RE):RS:=λE o=>re o λx=>E.xc C [a] [frz x]
def agI{g:Str}{r:Pos}{C F n:Addr}(y:X.calm)(u:X.mg x\(.ref C))(q:V0 X.K C F n)(b:zS X bh k n ps (EG C g))(f:QE X e re)(c:dZ (k+1) X.A:=by exact dZ.mono (by assumption) vw)(w:‹Gl X x›)(z:‹(zz x,2)›)
 (m:‹zw X e []›)(B:‹zb X af []›) :
  QS X (.Raise (some (.Call (.Name x r) [e] [] af)) none O) (X' C g re) :=
 (acg y w u q b c adR (bA f bC m) z m B).imp λD G H #[own,o,E,h,c,L]=>tQA.mk h c λY j ts q s I l=>by
  obtain⟨t,rfl⟩ : ∃t,ts=[t]:=by
   match ts,s with
   |[t],_=>exact#[t,rfl]
  obtain⟨v,rfl⟩ : ∃v,j=[v]:=by
   match j,l.len with
   |[v],_=>exact#[v,rfl]
  refine#[(show 1<=sizeLine by decide),λa f=>#[a,v,rfl,cu,λd hd i=>#[rfl,some d,(b_ (Ne.symm i)).trans cu,?_]]];rw[U' f i];have p:Y d=none:=by rw[b_ i]at hd;exact hd
  exact L.xc _ C d [g] [v] _ q (cI.trans (I.trans (zT.upd p))) cu (l.same (cI.trans (zT.upd p)))
def rP(X:Cx)(t:TS):RS:=λE o=>∀own H G D,SR X.K own H G o->Lnk X.K (zx X) (hd (Ow own) H) E D->t D G H
def yq{t:TS}(h:PS X st t):QS X st (rP X t):=h.imp λD G H b=>by let⟨own,o,E,s,a,L⟩:=b;exact a own H G D s L
def Ta(C:Addr)(c:Φ)(S:SX)(a:RE)(r:RA):RS:=λE o=>a o λx=>match frz x with|.ins b ks ts=>(b=C/\ks=c)/\r o λas=>S (.ins b ks ts::as) (λ_=>E.nx o) E.xc|_=>False
def ad9{f:Str}{o:Expr}{s C:Addr}{KS:Φ}(P:QE X o ro)(c:Cls X.K C)(M:Meth X.K C f s)(b:zS X (eL X.prog X.w) k s ps (jl X.K S))(Q:QA X (e::Z) r)(m:dZ k X.A:=by exact dZ.mono (by assumption) vw)(N:f∉KS:=by decide +kernel)
 (U:‹zw X e Z›)(V:‹zb X O Z›)
 (F:eval (.Call (.Attribute o f ah) (e::Z) [] O) X.env=(do
   let p <- eval o X.env
   standAt ah.atName
   let(f,first) <- holding [p] (getMethod p f pl)
   callWith O f first (backTo O (starEach (e::Z) X.env)) (backToKw O (keywordEach [] X.env))):=by rfl)
 (J:‹swapsWith (.Call (.Attribute o f ah) (e::Z) [] O) none a9.line X.env=pure false›) :
  QS X (.Expr (.Call (.Attribute o f ah) (e::Z) [] O) a9) (Ta C KS S ro r):=(pG (acU (pl:=pl) P c M b m GI Q U V F) J).imp λD G H #[own,o,E,h,m,L]=>tQ.mk h m λY v x q j g=>by
 revert g q
 generalize frz x=t;intro q g;cases t<;>try exact q.elim
 let⟨a,R,I,rfl,e,d,l,r⟩:=g.insI;let⟨⟨rfl,rfl⟩,q⟩:=q;refine#[a,R,_,rfl,(cW e).2,Ky N,tQA.mk (h.same j) q λH2 vs as q _ i y=>?_];refine#[_,_,_,.cons ((g.same (bU i)).same cI) (y.same cI),q,λW v x q S n=>?_,λW C d ks u T z S e B=>L.xc W C d ks u T z (cI.trans (j.trans (i.trans S))) e B];exact L.nx own W G _ q (bU (j.trans (i.trans S))) (h.same (j.trans (i.trans S)))
def za{c:xD}(h:SeqAt.shaped (.list c)):PyData.canLayAll0 c/\PyData.depthAll c<=63:=by
 have a:=SeqAt.canLay_of_shaped h;have b:=SeqAt.depth_of_shaped h;unfold PyData.canLay0 at a;unfold PyData.depth at b;exact#[a,by exact Nat.le_of_succ_le_succ b]
def ahQ(K:Frag):V->Ζ->Hp->VK->Prop:=λx c H Q=>∃(l:Addr)(b:V)(I:Ζ)(a:xD)(d:PyData)(j:Nat),x=.ref l/\c=[b]/\H l=some (.lst I)/\eZ K H I a/\iw K H b d/\SeqAt.shaped (.list a)/\SeqAt.shaped d/\I.length<=sizeLine/\(∃e,a[j]?\e/\PyData.eqv e d)/\(∀(i:Nat)e,i<j->a[i]?\e->PyData.eqv e d=false)/\Q (.int (j:Nat)) H
theorem Ju{h:Heap} : ∀{c:xD}{b:Θ}{as:Ψ}{i:Nat}{v:Value},ReadsAll h b c as->b[i]?\v->∃d a,c[i]?\d/\Reads h v d a
 |_,_,_,i,v,.nil,e=>by cases e
 |_,_,_,0,v,.cons r _,e=>by cases e;exact#[_,_,rfl,r]
 |_,_,_,i+1,v,.cons _ r,e=>by
  let⟨d,a,g,f⟩:=Ju (i:=i) r ↑e;exact#[d,a,↑g,f]
theorem Ru:∀{a:xD}{i:Nat}{d:PyData},PyData.canLayAll0 a->a[i]?\d->d.canLay0=true
 |[],_,_,_,e=>by cases e
 |x::I,i,d,h,e=>by
  have hc:x.canLay0/\PyData.canLayAll0 I:=by simpa[PyData.canLayAll0]using h
  cases i with
  |zero=>cases e;exact hc.1
  |succ i=>exact Ru hc.2 ↑e
def acw(hu:X.A.units+64<cLine):kL X "list.index" (ahQ X.K):=by
 intro U s G H x vs v us Q c M N h;let⟨l,b,I,k,d,j,rfl,rfl,Z,C,hb,J,L,W,⟨e0,D,e1⟩,R,q⟩:=h;cases M;let⟨u,rfl,O⟩:=N.one;let⟨bs,rb⟩:=c.readsK hb O;let⟨z,f,n,r,ko,e⟩:=c.lstM Z;let⟨as,ra⟩:=c.readsAllK C r;let⟨B,l2⟩:=za J;have S:=r.length;have o:∀(i:Nat)(hi:i<f.toArray.size),∃g,k[i]?\g/\SeqAt.readOf s.heap f.toArray[i]=g:=λi hi=>by
  have ei:f[i]?\f.toArray[i]:=by rw[aX]at hi;rw[aj hi];simp
  let⟨g,cs,E,P⟩:=Ju ra ei;exact#[g,E,SeqAt.readOf_eq (Ru B E) P]
 have lj:=(ao.mp D).1;have dl:f.length=k.length:=by
  have:∀{I:Ζ}{k:xD},eZ X.K H I k->I.length=k.length:=λ{I k}h=>by
   induction I generalizing k with
   |nil=>cases h;rfl
   |cons x I V=>cases h with|cons a b=>rw[length_cons,length_cons,V b]
  rw[<- S,this C]
 have t:j<f.toArray.size:=by rwa[aX,dl]
 rw[sizeLine_eq]at W;refine call_meets F.slot_list_index #[_,e,rfl] F.entry_list_index (F.args_list_index_2 _ _) (SeqAt.list_indexAt l f.toArray n _ _ _ (λy=>PyData.eqv (SeqAt.readOf s.heap y) d) j t (by rw[aX]at t;lia) ?_ λm Y T=>?_) #[e,SeqAt.items_eqAt (A:=X.A) ↑ra rb B (SeqAt.canLay_of_shaped L) ?_,#[.int _,H,c.tok _,#[_,rfl],q]]
 .let⟨g,p,w⟩:=o j t;rw[D]at p;cases p;show PyData.eqv (SeqAt.readOf s.heap _) d=true;rw[w];exact e1
 .let⟨g,p,w⟩:=o m Y;show PyData.eqv (SeqAt.readOf s.heap _) d=false;rw[w];exact R m g T p
 .have:=min_le_left (PyData.depthAll k) d.depth;lia
def RY(a:RE)(r:RA):RE:=λo q=>a o λx=>match frz x with
 |.lst ts=>r o λc=>∃(b:xD)(d:PyData)(j:Nat),ts=Tt b/\c=[dc d]/\SeqAt.shaped (.list b)/\SeqAt.shaped d/\ts.length<=sizeLine/\(∃e,b[j]?\e/\PyData.eqv e d)/\(∀(i:Nat)e,i<j->b[i]?\e->PyData.eqv e d=false)/\q (.fz (.int (j:Nat)))
 |_=>False
def ag8{o:Expr}(w:X.A.units+64<cLine)(E:QE X o ra)(M:QA X [e] r)(L:‹attributeBase o "index" X.env (eval o X.env)=eval o X.env›)
 (K:‹zg X af e›)
 (J:‹zC ah af›)(B:‹zw X e []›)(D:‹zb X af []›) :
  QE X (.Call (.Attribute o "index" ah) [e] [] af) (RY ra r):=by
 refine(l3 PySem.F.plainAttrs_list PySem.F.slot_list_index PySem.F.type_list_index (acw w) E.mono M.mono L K J B D).imp λG H Q N=>?_;let⟨own,o,R,h,C,k⟩:=N;refine#[_,tQ.mk h C λY v x q n g=>?_,λ_ _ z=>z];cases i:frz x with
 |lst ts =>
  rw[i]at q g;let⟨p,I,rfl,e,f⟩:=g.lstI;refine#[.inl #[rfl,_,SqL.of (cI _ _ e)],_,tQA.mk (h.same n) q λm S T q2 _ a t=>?_,λ_ _ z=>z];let⟨l,d,j,rfl,rfl,b,c,lf,O,u,q3⟩:=q2;let⟨y,rfl,s⟩:=t.one;have P:zT (hd (Ow own) Y) m:=(bU a).trans cI;exact#[p,y,I,l,d,j,rfl,rfl,a _ _ (cI _ _ e),(f.shows l rfl (za b).1).same P,(s.shows d rfl (SeqAt.canLay_of_shaped c)).same cI,b,c,%[f.len|lf],O,u,k m _ _ q3 (n.trans a) (NR.fz (.int _))]
 |_=>rw[i]at q;exact q.elim
def FD{x:Option α}{b:α}{q:α->Prop}(e:x\b)(h:q b):oT x q:=by rwa[e]
def hT(a:Bool)(t u:T)(q:OT->Prop):Prop:=∃d b,t=dc d/\u=dc (.list b)/\SeqAt.shaped d/\SeqAt.shaped (.list b)/\q (.fz (.bl (xr a (b.any λy=>PyData.eqv y d))))
def HH{b:Bool}(p:∀{A:Around}{E:Ε}{s:Shared}{c x:Value}{I:xD}{d:PyData}{as i:Ψ}{Q:Ε},Reads s.heap c (.list I) as->Reads s.heap x d i->PyData.canLayAll0 I=true->d.canLay0=true->A.units+1+min (PyData.depthAll I) d.depth<cLine->Q (.bool (xr b (I.any λy=>PyData.eqv y d))) s->wpAny (model X.prog X.w) A (compareOp op x c) Q E s)(z:X.A.units+64<cLine):GO X (compareOp op) (hT b):=λU s G H x y v u Q a l j h=>by
 let⟨S,t,w,R,_,o,n,⟨d,g,rfl,rfl,f,e,q⟩,k⟩:=h;let⟨m,r⟩:=za e;let⟨as,ra⟩:=a.readsK ((o.shows d rfl (SeqAt.canLay_of_shaped f)).same cI) l;let⟨i,rb⟩:=a.readsK ((n.shows (.list g) rfl (SeqAt.canLay_of_shaped e)).same cI) j;have:=min_le_left (PyData.depthAll g) d.depth;exact p rb ra m (SeqAt.canLay_of_shaped f) vy #[.bl _,H,a,rfl,k H _ _ q (.refl _) (NR.fz (.bl _))]
def E8(e:X.A.units+64<cLine):GO X (compareOp .In) (hT false):=HH (λrc d a b c q=>SeqAt.in_list_reads rc d a b c q) e
def F5(e:X.A.units+64<cLine):GO X (compareOp .NotIn) (hT true):=HH (λrc d a b c q=>SeqAt.notIn_list_reads rc d a b c q) e
def Hm(mg:Str->Ω)(i:Nat)(a:Bool->Str)(S:Bool->ST)(r:RA):RE:=λo q=>match slot o i with|.fz (.val (.ref f))=>∃b,mg (a b)\(.ref f)/\r o λts=>S b ts q|_=>False
def Yj(i:Nat){nm:Bool->Str}{S:Bool->ST}(c:∀b,∃ps,rn X.prog X.w X.K X.mg X.base k (nm b) ps (S b))(W:dZ k X.A)(g:QA X (e::Z) r)(hN:‹(n_X X i x,0)›)
 (he:‹zw X e Z›)(a8:‹zb X O Z›)(g5:‹X.mg=mg›):QE X (.Call (.Name x p) (e::Z) [] O) (Hm mg i nm S r):=by
 subst g5;intro U s G H Q I ⟨own,o,R,h,d,T⟩;unfold Hm at d;cases j:slot o i with
 |fz t =>
  cases t with
  |val v =>
   cases v with
   |ref f =>
    rw[j]at d;let⟨b,hm,d⟩:=d;let⟨ps,f',fd,F,bd,y,P⟩:=c b;rw[hm]at y;cases y;let⟨u,eu,J⟩:=h.get (gQ j (by intro z;cases z));cases J;refine aev (sp:=hF (spT X.K (S b))) #[fd,F.hid,bd,P] W (pv i hN) g he a8 U s G H Q I #[_,eu,rfl,tQA.mk h d λY vs ts q _ m L=>?_];have h1:=h.same m;refine#[Ow own,h1.hid,ts,R,L,q,λc v x D E n l=>?_];have EH:zT Y (dv (Ow own) Y c):=λb u e=>by
     by_cases z:Ow own b
     .rw[xJ z];exact e
     .rw[jW z];exact E b u ((cZ z).trans e)
    have C:zT c (dv (Ow own) Y c):=λb u e=>%[jW λz=>by rw[l b z]at e;cases e|e]
    refine T _ v x D (m.trans EH) (NR.back (H:=Y) ?_ m);let⟨B,M,s⟩:=n;have out:∀a∈B,¬Ow own a:=λa g z=>(s.sole g).ne (l a z);refine#[B,λa g=>by have:=M a g;rwa[cZ (out a g)]at this,s.same (jd (λb z=>?_) C) C];rcases z with z|z
    .exact .inr (l b z)
    .exact .inl (.inr z)
   |_=>rw[j]at d;exact d.elim
  |_=>rw[j]at d;exact d.elim
 |_=>rw[j]at d;exact d.elim
def G2(b:Gl X x)(a:X.mg x\(.ref f))(hd:‹(zz x,2)›):QE X (.Name x O) (rC (.val (.ref f))):=Yo (v:=.ref f) (hg:=b) (hm:=#[_,a,rfl]) (r:=(λ_=>.val _)) (hd:=hd)
def Q':ST:=λts q=>match ts with|[.int a,.int b]=>q (.fz (.int (if b<a then b else a)))|_=>False
def ain(hc:X.calm):GC X (.builtin "min") Q':=(acG hc).imp λI H Q g=>by
 let⟨S,ts,R,_,c,d,k⟩:=g
 match ts,d with
 |[.int a,.int b],d =>
  cases c with
  |cons f c=>cases c with
   |cons e c =>
    cases c;cases f;cases e;exact#[a,b,rfl,k H _ _ d (.refl _) (NR.fz (.int _))]
def KZ(f:Scope)(N e I:Φ)(hi:QI (X.compG N0 sO eW C0 s0 H0 c9 c5) tg iter ri)(l:∀{C a b d c},QG ((X.compG N0 sO eW C0 s0 H0 c9 c5).compG e J I C a b d c) I.length tg g)(i:∀{C a b d c},f_ ((X.compG N0 sO eW C0 s0 H0 c9 c5).compG e J I C a b d c) aS rc)(m:∀{C a b d c},QE ((X.compG N0 sO eW C0 s0 H0 c9 c5).compG e J I C a b d c) bg re)
 (o:‹X.env.scope=f›)(p:‹eW++N0=N›)(n:‹X.calm›)(k:‹J.kind=.function›)(h:CK (g6 f sO) J N e I:=by decide +kernel)(j:∀z,foldedSetIterable iter (X.compG N0 sO eW C0 s0 H0 c9 c5).env z=pure z:=by intro _;rfl):QE (X.compG N0 sO eW C0 s0 H0 c9 c5) (.ListComp bg [#[tg,iter,aS,0]] J O) (WW ri I.length g rc re):=by
 subst o;exact cL (X:=X.compG N0 sO eW C0 s0 H0 c9 c5) (g6 X.env.scope sO) N e I hi l i m rfl p n k h j
def afc(f:Scope)(N e I:Φ)(hi:QI ((X.compG N0 sO eW C0 s0 H0 c9 c5).compG N1 s1 ib C1 ie Y ka i8) tg iter ri)(l:∀{C a b d c},QG (((X.compG N0 sO eW C0 s0 H0 c9 c5).compG N1 s1 ib C1 ie Y ka i8).compG e J I C a b d c) I.length tg g)(i:∀{C a b d c},f_ (((X.compG N0 sO eW C0 s0 H0 c9 c5).compG N1 s1 ib C1 ie Y ka i8).compG e J I C a b d c) aS rc)(m:∀{C a b d c},QE (((X.compG N0 sO eW C0 s0 H0 c9 c5).compG N1 s1 ib C1 ie Y ka i8).compG e J I C a b d c) bg re)
 (o:‹X.env.scope=f›)(p:‹ib++N1=N›)(n:‹X.calm›)(k:‹J.kind=.function›)(h:CK (g6 (g6 f sO) s1) J N e I:=by decide +kernel)(j:∀z,foldedSetIterable iter ((X.compG N0 sO eW C0 s0 H0 c9 c5).compG N1 s1 ib C1 ie Y ka i8).env z=pure z:=by intro _;rfl):QE ((X.compG N0 sO eW C0 s0 H0 c9 c5).compG N1 s1 ib C1 ie Y ka i8) (.ListComp bg [#[tg,iter,aS,0]] J O) (WW ri I.length g rc re):=by
 subst o;exact cL (X:=(X.compG N0 sO eW C0 s0 H0 c9 c5).compG N1 s1 ib C1 ie Y ka i8) (g6 (g6 X.env.scope sO) s1) N e I hi l i m rfl p n k h j
def R1(S:SX)(r:RA):RS:=λE o=>r o λts=>S ts (λ_=>False) E.xc
def ag9(i:Nat){c:Pos}{y:Str}(F:X.N.Nodup)(l:fc X.env.scope y)(a:oN X.prog X.w X.K X.mg X.base k x ps S)(b:dZ k X.A)(s:Gl X x)(B:QA X (e::Z) r)(hi:‹X.N[i]?\y›)(J:‹(zz x,2)›)
 (u:‹zw X e Z›)(M:‹zb X O Z›)
 (m:‹swapsWith (.Call (.Name x p) (e::Z) [] O) (some (.Name y a9)) c.line X.env=pure false›)(t:zd X y:=by first|exact .inl rfl|exact .inr rfl|assumption):QS X (.Assign [.Name y a9] (.Call (.Name x p) (e::Z) [] O) c) (R1 S r) :=
 (vH F hi l (Yc a b s GI B J u M) m t).imp λD G H #[own,o,E,h,b,L]=>tQA.mk h b λY Q ts q _ P g =>
  #[ts,_,_,g.same cI,q,λW v x q S n=>q.elim,λW C d ks f I z S e j=>L.xc W C d ks f I z (cI.trans (P.trans S)) e j]
def SR.pr{K:Frag}{own:Nat->Ψ}{H:Hp}{G:L2.St}{o:xo}(h:SR K own H G o){i:Nat}{ts us:xk}(e:slot o i=.pr ts us):∃p a b I ys,G[i]?\(some (.ref p))/\own i=[a,b]/\a≠b/\hd (Ow own) H p=some (.tup [.ref a,.ref b])/\H a=some (.lst I)/\H b=some (.lst ys)/\bY K (hd (Ow own) H) I ts/\bY K (hd (Ow own) H) ys us:=by
 let⟨u,d,p,a,b,I,ys,c,r⟩:=h.val e (by intro z;cases z);cases c;exact#[p,a,b,I,ys,d,r]
def RH(k:Bool)(ts a:xk)(t:T):OT:=match k with|false=>.pr (ts++[t]) a|true=>.pr ts (a++[t])
def EU(k:Bool)(i:Nat)(b:RE):RS:=λE o=>match slot o i with
 |.pr ts a=>(ts.length<sizeLine/\a.length<sizeLine)/\b o λy=>E.nx (o.set i (RH k ts a (frz y)))
 |_=>False
def IB(k:Bool)(i:Nat)(T:PE X a (tC (.int (if k then 1 else 0))))(he:QE X e re)(hN:‹(n_X X i x,0)›)(g4:o_ a:=by exact λ_ _=>rfl)
 (l:‹attributeBase (.Subscript (.Name x p) a p2) "append" X.env (eval (.Subscript (.Name x p) a p2) X.env)=eval (.Subscript (.Name x p) a p2) X.env›)
 (hf:‹zg X af e›)
 (hl:‹zC ah af›)(K:‹zw X e []›)(Y:‹zb X af []›)
 (V:‹swapsWith (.Call (.Attribute (.Subscript (.Name x p) a p2) "append" ah) [e] [] af) none O.line X.env=pure false›) :
  QS X (.Expr (.Call (.Attribute (.Subscript (.Name x p) a p2) "append" ah) [e] [] af) O) (EU k i re):=(pG (qs (uo Uj (pv i hN) T g4) (cD he iM K) l hf hl K Y) V).imp λD G H hP=>by
 let⟨own,o,E,h,g,L⟩:=hP;unfold EU at g;cases Z:slot o i with
 |pr ts J =>
  rw[Z]at g;let⟨⟨P,M⟩,g⟩:=g;let⟨n,c,d,I,ys,s,j,r,m,hc,B,v,t⟩:=h.pr Z;have R:Ow own c:=#[i,by rw[j];simp];have Q:Ow own d:=#[i,by rw[j];simp];cases k with
  |false =>
   refine#[_,s,n,_,0,.ref c,rfl,rfl,(cW m).2,rfl,c,I,rfl,hc,tQ.mk h g λF w y q f A=>#[w,I,rfl,f _ _ hc,%[v.len|P],?_]];let⟨C,S⟩:=(h.same f).chg (gQ Z (by intro z;cases z)) (y:=.pr (ts++[frz y]) J) (W:=upd F c (.lst (I++[w]))) (λb u l e=>(b_ λz=>l (by rw[j,z];simp)).trans e) (by
    rw[s,Br R];exact#[n,c,d,_,ys,rfl,j,r,bU f _ _ m,cu,(b_ λz=>r z.symm).trans (f _ _ B),(v.same (bU f)).app (.cons A .nil),t.same (bU f)])
   exact L.nx own _ G _ q ((bU f).trans S) C
  |true =>
   refine#[_,s,n,_,1,.ref d,rfl,rfl,(cW m).2,rfl,d,ys,rfl,B,tQ.mk h g λF w y q f A=>#[w,ys,rfl,f _ _ B,%[t.len|M],?_]];let⟨C,S⟩:=(h.same f).chg (gQ Z (by intro z;cases z)) (y:=.pr ts (J++[frz y])) (W:=upd F d (.lst (ys++[w]))) (λb u l e=>(b_ λz=>l (by rw[j,z];simp)).trans e) (by
    rw[s,Br Q];exact#[n,c,d,I,_,rfl,j,r,bU f _ _ m,(b_ r).trans (f _ _ hc),cu,v.same (bU f),(t.same (bU f)).app (.cons A .nil)])
   exact L.nx own _ G _ q ((bU f).trans S) C
 |_=>rw[Z]at g;exact g.elim
def y8(i:Nat):RE:=λo q=>match slot o i with|.pr _ a=>q (.l1 a)|_=>False
def XB(i:Nat){f:Pos}{b:Expr}(u:Gl X "list")(t:X.mg "list"=none)(v:PE X b (tC (.int 1)))(y:‹(n_X X i x,0)›)(s:o_ b:=by exact λ_ _=>rfl)
 (j:‹starEach [.Subscript (.Name x p1) b f] X.env=(false,eval (.Subscript (.Name x p1) b f) X.env)::starEach [] X.env›)(C:‹zb X O []›):QE X (.Call (.Name "list" p) [.Subscript (.Name x p1) b f] [] O) (y8 i) :=
 (QF Oa u t boot_list (cD (uo Uj (pv i y) v s) iM j) vw vw j C).imp λG H Q w=>by
  let⟨own,o,R,h,e,k⟩:=w;unfold y8 at e;cases Z:slot o i with
  |pr ts D =>
   rw[Z]at e;let⟨n,c,d,I,ys,z,J,F,l,hc,q,E,m⟩:=h.pr Z;exact#[_,z,n,_,1,.ref d,rfl,rfl,(cW l).2,rfl,d,ys,rfl,q,λa g=>k _ _ _ e (zT.upd g) (Aa m (zT.upd g) g cu)]
  |_=>rw[Z]at e;exact e.elim
end L2
namespace Ac
local macro_rules|`(#[$x,*])=>`(⟨$x,*⟩)
def lw(t b:Int):Int×Int:=(t/(Int.gcd t b:Nat),b/(Int.gcd t b:Nat))
def AL{t b:Int}(a:0<b):(0:Int)<(Int.gcd t b:Nat):=by
 have:=mx t (show b≠0 by exact WS a);lia
def JI{a b c:Int}(h:a ∣ b*c)(g:Int.gcd a b=1):a ∣ c:=by
 refine Int.natAbs_dvd_natAbs.mp ((show Coprime a.natAbs b.natAbs from g).dvd_of_dvd_mul_left ?_);rw[<- VT];exact Int.natAbs_dvd_natAbs.mpr h
def uniq{x y u v:Int}(a:0<y)(b:0<v)(g1:Int.gcd x y=1)(g:Int.gcd u v=1)(e:x*v=u*y):x=u/\y=v:=by
 have f:y ∣ v:=by
  have h:y ∣ x*v:=#[u,%[e,Int.mul_comm|_]];exact JI h %[Int.gcd_comm|g1]
 have d:v ∣ y:=by
  have h:v ∣ u*y:=#[x,%[<- e,Int.mul_comm|_]];exact JI h (by rwa[Int.gcd_comm])
 have c:y=v:=Int.dvd_antisymm (XY a) (XY b) f d;subst c;exact#[Int.eq_of_mul_eq_mul_right (WS a) e,rfl]
section
variable{κ:Type}[DecidableEq κ]
def look(a:List (κ×Int))(r:κ):Int:=((a.find? λg=>decide (g.1=r)).map (·.2)).getD 0
def put(a:List (κ×Int))(r:κ)(y:Int):List (κ×Int):=if(a.any λg=>decide (g.1=r))=true then a.map (λg=>if g.1=r then(g.1,y)else g)else a++[(r,y)]
def OQ(b:List (κ×Int)):List (κ×Int):=b.foldl (λa g=>put a g.1 (look a g.1+g.2)) []
def ways(a:List (κ×Int))(S:Int):List (κ×Int×Int):=((OQ a).filter λg=>decide (0<g.2)).map λg=>(g.1,lw g.2 S)
end
end Ac
namespace Rw
local macro_rules|`(#[$x,*])=>`(⟨$x,*⟩)
open Ac
def rep(r:List Int×Int):Γ:=r.1.map λt=>lw t r.2
def bb(a:xi)(b:Int):Int:=a.foldl (λc t=>((Int.gcd t c:Nat):Int)) b
theorem iT:∀{ts:xi}{b:Int},0<b->0<bb ts b
 |[],_,h=>h
 |t::ts,b,h=>iT (ts:=ts) (AL (t:=t) h)
theorem iQ:∀{ts:xi}{b:Int},bb ts b ∣ b/\∀t∈ts,bb ts b ∣ t
 |[],b=>#[Int.dvd_refl b,by simp]
 |t::ts,b=>by
  let⟨c,d⟩:=iQ (ts:=ts) (b:=((Int.gcd t b:Nat):Int));refine#[Int.dvd_trans c (JJ t b),λx a=>?_];rcases YU.mp a with rfl|a
  .exact Int.dvd_trans c (Int.gcd_dvd_left x b)
  .exact d x a
def vf{ts:xi}{b:Int}(h:0<b):bb ts b<=b:=Int.le_of_dvd h iQ.1
def jG(r:List Int×Int):List Int×Int:=(r.1.map λt=>t/bb r.1 r.2,r.2/bb r.1 r.2)
def lW(r:List Int×Int):(jG r).1.length=r.1.length:=by unfold jG;rw[ak]
def jo(r:List Int×Int)(c:Β):List Int×Int:=(r.1.map λt=>t*c.1,r.2*c.2)
def pK(r o:List Int×Int)(c:Β):List Int×Int :=
 (zipWith (λa b=>a*(o.2*c.2/((Int.gcd r.2 (o.2*c.2):Nat):Int))+b*(r.2/((Int.gcd r.2 (o.2*c.2):Nat):Int)*c.1)) r.1 o.1,r.2*(o.2*c.2/((Int.gcd r.2 (o.2*c.2):Nat):Int)))
structure Big(N:Nat)(r:List Int×Int):Prop where
 pos:0<r.2
 bot:r.2.natAbs<=N
 top:∀t∈r.1,t.natAbs<=N
variable{N:Nat}{R':Nat->Nat->Rat}
def Big.le{M:Nat}{r:List Int×Int}(h:Big N r)(a:N<=M):Big M r:=#[h.pos,aL h.bot a,λt b=>aL (h.top t b) a]
def Ye{d t g x:Int}(b:d ∣ t*x)(a:d ∣ g*x):d ∣ ((Int.gcd t g:Nat):Int)*x:=by
 have h:=Int.dvd_coe_gcd b a;rw[Int.gcd_mul_right]at h;rw[Qr]at h;rcases Int.natAbs_eq x with e|e
 .rw[e];exact h
 .rw[e,Int.mul_neg];exact Int.dvd_neg.mpr h
theorem Af{d x:Int} : ∀{ts:xi}{b:Int},d ∣ b*x->(∀t∈ts,d ∣ t*x)->d ∣ bb ts b*x
 |[],_,h,_=>h
 |t::ts,b,h,k=>Af (ts:=ts) (Ye (k t aO) h) λu a=>k u (aJ _ a)
def Alk(r s:List Int×Int):Prop:=r.1.length=s.1.length/\∀(k:Nat)(a b:Int),r.1[k]?\a->s.1[k]?\b->a*s.2=b*r.2
def nG{r:List Int×Int}(h:0<r.2):bb (jG r).1 (jG r).2=1:=by
 have d:=iT (ts:=r.1) h;let⟨g,k⟩:=iQ (ts:=r.1) (b:=r.2);have p:0<(jG r).2:=mz h (XY d) g;have l:=iT (ts:=(jG r).1) p;let⟨j,i⟩:=iQ (ts:=(jG r).1) (b:=(jG r).2);have f:bb (jG r).1 (jG r).2*bb r.1 r.2 ∣ bb r.1 r.2*1:=by
  refine Af ?_ λt e=>?_
  .let⟨u,c⟩:=j;have c:r.2/bb r.1 r.2=bb (jG r).1 (jG r).2*u:=c;refine#[u,?_];rw[Int.mul_one,Int.mul_right_comm,<- c,Int.ediv_mul_cancel g]
  .let⟨u,c⟩:=i (t/bb r.1 r.2) (YV.mpr #[t,e,rfl]);refine#[u,?_];rw[Int.mul_one,Int.mul_right_comm,<- c,Int.ediv_mul_cancel (k t e)]
 rw[Int.mul_one]at f;have:=Int.le_of_dvd d f;have:bb (jG r).1 (jG r).2<=1:=by
  refine Int.le_of_mul_le_mul_right (a:=bb r.1 r.2) ?_ d;lia
 lia
def least{r s:List Int×Int}(i:0<r.2)(g:bb r.1 r.2=1)(a:Alk r s)(h:Big N s):Big N r:=by
 have d:r.2 ∣ bb r.1 r.2*s.2:=Af #[s.2,rfl] λt f=>by
  let⟨k,l,rfl⟩:=List.mem_iff_getElem.mp f;have c:k<s.1.length:=by rwa[<- a.1]
  rw[a.2 k _ _ (aj l) (aj c)];exact#[_,Int.mul_comm _ _]
 rw[g,TZ]at d;let⟨m,j⟩:=d;have n:0<m:=Int.pos_of_mul_pos_right %[<- j|h.pos] i;refine#[i,?_,λt f=>?_]
 .have:=Int.le_of_dvd h.pos #[m,j];have:=h.bot;lia
 .let⟨k,l,rfl⟩:=List.mem_iff_getElem.mp f;have c:k<s.1.length:=by rwa[<- a.1]
  have e:=a.2 k _ _ (aj l) (aj c);rw[j,Int.mul_comm r.2 m,<- Int.mul_assoc]at e;have e:=Int.eq_of_mul_eq_mul_right (WS i) e;have b:=h.top _ (aU c);rw[<- e,VT]at b;exact aL (Nat.le_mul_of_pos_right _ (by omega)) b
def gr(N:Nat):Nat->Nat
 |0=>N
 |m+1=>2*(gr N m*gr N m)
def sg(f:Nat->Rat):Nat->Rat
 |0=>0
 |n+1=>sg f n+f n
def sz(f:Nat->Int):Nat->Int
 |0=>0
 |n+1=>sz f n+f n
theorem jK(f g:Nat->Rat):∀n,sg (λj=>f j+g j) n=sg f n+sg g n
 |0=>by unfold sg;grind
 |n+1=>by unfold sg;rw[jK f g n];grind
theorem jq(c:Rat)(f:Nat->Rat):∀n,sg (λj=>c*f j) n=c*sg f n
 |0=>by unfold sg;grind
 |n+1=>by unfold sg;rw[jq c f n];grind
theorem cC{f g:Nat->Rat} : ∀{n},(∀j,j<n->f j=g j)->sg f n=sg g n
 |0,_=>rfl
 |n+1,h=>by unfold sg;rw[cC λj a=>h j (WV _ a),h n (X0 _)]
theorem jZ:∀n,sg (λ_=>0) n=0
 |0=>rfl
 |n+1=>by unfold sg;rw[jZ n];grind
theorem kJ{v:Nat->Rat}{k:Nat} : ∀{n},sg (λj=>(if j=k then 1 else 0)*v j) n=if k<n then v k else 0
 |0=>by rw[ZZ (WZ _)];rfl
 |n+1=>by
  unfold sg;rw[kJ];by_cases h:k<n
  .rw[ZY h,ZZ (UZ h),ZY (WV _ h)];grind
  .by_cases e:n=k
   .subst e;rw[ZZ h,ZY rfl,ZY (X0 _)];grind
   .rw[ZZ h,ZZ e,ZZ vy];grind
theorem R8(f:Nat->Nat->Rat)(m:Nat):∀n,sg (λk=>sg (λl=>f k l) m) n=sg (λl=>sg (λk=>f k l) n) m
 |0=>by
  show(0:Rat)=sg (λ_=>0) m;rw[jZ]
 |n+1=>by
  show sg (λk=>sg (λl=>f k l) m) n+sg (λl=>f n l) m=sg (λl=>sg (λk=>f k l) n+f n l) m;rw[jK,R8 f m n]
theorem Va(f:Nat->Int):∀n,((sz f n:Int):Rat)=sg (λk=>(f k:Rat)) n
 |0=>Q4
 |n+1=>by unfold sz sg;rw[Rat.intCast_add,Va f n]
theorem OJ{f:Nat->Int}{B:Nat} : ∀{n},(∀k,k<n->(f k).natAbs<=B)->(sz f n).natAbs<=n*B
 |0,_=>by unfold sz;simp
 |n+1,h=>by
  unfold sz;have:=OJ (n:=n) λk a=>h k (WV _ a);have:=h n (X0 _);rw[Nat.add_mul,Nat.one_mul];omega
theorem HV(f g:Nat->Int):∀n,sz (λk=>f k-g k) n=sz f n-sz g n
 |0=>rfl
 |n+1=>by unfold sz;rw[HV f g n];lia
theorem X8{f g:Nat->Int} : ∀{n},(∀j,j<n->f j=g j)->sz f n=sz g n
 |0,_=>rfl
 |n+1,h=>by unfold sz;rw[X8 λj a=>h j (WV _ a),h n (X0 _)]
theorem Yh{a:Type}(q:a->Bool):∀L:List a,(L.filter q).length+(L.filter λx=>!q x).length=L.length
 |[]=>rfl
 |x::L=>by
  have:=Yh q L;rw[List.filter_cons,List.filter_cons];cases h:q x with
  |true=>rw[ZY rfl,ZZ vc,length_cons,length_cons];lia
  |false=>rw[ZZ vc,ZY vc,length_cons,length_cons];lia
theorem F6{d:Type}(f:d->Nat)(n:Nat):∀(W:Nat)(L:List d),(∀x∈L,f x<W)->W*n<L.length->∃v,n<(L.filter λx=>f x==v).length
 |0,L,h,c=>by
  cases L with
  |nil=>simp at c
  |cons x L=>exact absurd (h x aO) (WZ _)
 |W+1,L,h,c=>by
  by_cases e:n<(L.filter λx=>f x==W).length
  .exact#[W,e]
  .have j:=Yh (λx=>f x==W) L;rw[Nat.add_mul,Nat.one_mul]at c;let⟨v,i⟩:=F6 f n W (L.filter λx=>!(f x==W)) (λx g=>by
    let⟨a,b⟩:=List.mem_filter.mp g;have:=h x a;have k:f x≠W:=λz=>by rw[z]at b;simp at b
    lia) (by omega)
   exact#[v,aR i (List.Sublist.length_le (List.Sublist.filter _ List.filter_sublist))]
theorem digits_inj{W:Nat}(g:0<W):∀(n c d:Nat),c<W^n->d<W^n->(∀k,k<n->c/W^k%W=d/W^k%W)->c=d
 |0,c,d,a,hd,_=>by
  rw[pow_zero]at a hd;lia
 |n+1,c,d,a,hd,h=>by
  have b:=h 0 (TU _);rw[pow_zero,Nat.div_one,Nat.div_one]at b;have e:=digits_inj g n (c/W) (d/W) (Nat.div_lt_of_lt_mul (by rwa[Nat.mul_comm,<- pow_succ])) (Nat.div_lt_of_lt_mul %[Nat.mul_comm,<- pow_succ|hd]) λk f=>by
   have:=h (k+1) (Nat.succ_lt_succ f);rw[Nat.div_div_eq_div_mul,Nat.div_div_eq_div_mul,<- Nat.pow_succ'];exact this
  rw[<- Nat.div_add_mod c W,<- Nat.div_add_mod d W,e,b]
theorem adp{p:Nat}(b:1<=N):(2*((p+1)*((2*(p+1)*N)^p*N))+1)^p<((2*(p+1)*N)^p+1)^(p+1):=by
 have w:2*((p+1)*((2*(p+1)*N)^p*N))+1<=2*(p+1)*N*((2*(p+1)*N)^p+1):=by
  have e:2*((p+1)*((2*(p+1)*N)^p*N))=2*(p+1)*N*(2*(p+1)*N)^p:=by ac_rfl
  have a:1<=2*(p+1)*N:=VS (show 1<=2*(p+1)by lia) b;rw[e];generalize 2*(p+1)*N=X at *;rw[mul_add,Nat.mul_one];exact Nat.add_le_add_left a _
 refine Y3 (Nat.pow_le_pow_left w p) ?_;rw[Nat.mul_pow,pow_succ,Nat.mul_comm];exact Nat.mul_lt_mul_of_pos_left (X0 _) (Nat.pow_pos (TU _))
theorem Iy{p:Nat}{C:Nat->Nat->Int}(H:1<=N)(I:∀k l,k<=p->l<p->(C k l).natAbs<=N) :
  ∃s:Nat->Int,(∃k,k<=p/\s k≠0)/\(∀k,(s k).natAbs<=(2*(p+1)*N)^p)/\∀l,l<p->sz (λk=>s k*C k l) (p+1)=0:=by
 have P:=adp (p:=p) H;generalize Q:(2*(p+1)*N)^p=B at *;generalize G:(p+1)*(B*N)=O at *;have n:∀c k:Nat,c/(B+1)^k%(B+1)<=B:=λc k=>VX (mod_lt _ (TU _));have r:∀l c,l<p->(sz (λk=>((c/(B+1)^k%(B+1):Nat):Int)*C k l) (p+1)).natAbs<=O:=λl c b=>by
  rw[<- G];refine OJ λk o=>?_;rw[VT,XT];exact VS (n c k) (I k l (VX o) b)
 have all:∀q,q<=p->∃L:xy,L.Nodup/\(∀c∈L,c<(B+1)^(p+1))/\(∀l,l<q->∀c∈L,∀d∈L,sz (λk=>((c/(B+1)^k%(B+1):Nat):Int)*C k l) (p+1)=sz (λk=>((d/(B+1)^k%(B+1):Nat):Int)*C k l) (p+1))/\(2*O+1)^(p-q)<L.length:=by
  intro q
  induction q with
  |zero=>exact λ_=>#[range ((B+1)^(p+1)),List.nodup_range,λc i=>List.mem_range.mp i,λl b=>absurd b (WZ _),by rwa[WP,sub_zero]]
  |succ q E =>
   intro m;let⟨L,f,lt,j,a⟩:=E (aL (Xs _) m);have J:(2*O+1)^(p-q)=(2*O+1)*(2*O+1)^(p-(q+1)):=%[<- Nat.pow_succ',show(p-(q+1)).succ=p-q by lia|_]
   rw[J]at a;let⟨v,F⟩:=F6 (λc=>(sz (λk=>((c/(B+1)^k%(B+1):Nat):Int)*C k q) (p+1)+O).toNat) _ _ L (λc _=>by
    have:=r q c (aR (X0 _) m);omega) a
   refine#[_,List.Pairwise.sublist List.filter_sublist f,λc i=>lt c (List.mem_filter.mp i).1,λl b c i d hd=>?_,F];let⟨M,u⟩:=List.mem_filter.mp i;let⟨K,t⟩:=List.mem_filter.mp hd;by_cases e:l<q
   .exact j l e c M d K
   .have e:l=q:=by lia
    subst e;have u:=beq_iff_eq.mp u;have t:=beq_iff_eq.mp t;have:=r l c (aR b m);have:=r l d (aR b m);omega
 let⟨L,f,lt,j,a⟩:=all p (aG p);rw[Nat.sub_self,pow_zero]at a
 match L,f,lt,j,a with
 |c::d::L,f,lt,j,_ =>
  have w:c≠d:=λz=>by
   rw[z]at f;exact(List.nodup_cons.mp f).1 aO
  refine#[λk=>((c/(B+1)^k%(B+1):Nat):Int)-((d/(B+1)^k%(B+1):Nat):Int),?_,λk=>?_,λl b=>?_]
  .by_cases h:∀k,k<p+1->c/(B+1)^k%(B+1)=d/(B+1)^k%(B+1)
   .exact absurd (digits_inj (TU B) (p+1) c d (lt c aO) (lt d (aJ _ aO)) h) w
   .let⟨k,o⟩:=Classical.not_forall.mp h;let⟨D,A⟩:=Classical.not_imp.mp o;exact#[k,by exact VX D,λz=>A (by
     have z:((c/(B+1)^k%(B+1):Nat):Int)-((d/(B+1)^k%(B+1):Nat):Int)=0:=z;generalize c/(B+1)^k%(B+1)=x at *;generalize d/(B+1)^k%(B+1)=y at *;lia)]
  .have:=n c k;have:=n d k;show(((c/(B+1)^k%(B+1):Nat):Int)-((d/(B+1)^k%(B+1):Nat):Int)).natAbs<=B;omega
  .rw[X8 (g:=λk=>((c/(B+1)^k%(B+1):Nat):Int)*C k l-((d/(B+1)^k%(B+1):Nat):Int)*C k l) λk _=>Int.sub_mul _ _ _,HV,j l b c aO d (aJ _ aO)];exact Int.sub_self _
 |[_],_,_,_,a=>exact absurd a vc
 |[],_,_,_,a=>exact absurd a vc
structure gP(A:Nat->Nat->Int)(b:Nat->Int)(m wd:Nat)(R:Nat->Nat->Rat)(p:Nat)(pv s:Nat->Nat):Prop where
 pm:p<=m
 sm:∀i,i<m->s i<m
 pw:∀l,l<p->pv l<wd
 unit:∀i l,i<m->l<p->R i (pv l)=if i=l then 1 else 0
 dec:∀i j,i<m->j<wd->(A (s i) j:Rat)=(if i<p then 0 else(b (s i):Rat)*R i j)+sg (λl=>(A (s i) (pv l):Rat)*R l j) p
 ind:∀bi:Nat->Rat,(∀j,j<wd->sg (λk=>bi k*(A (s k) j:Rat)) p=0)->∀k,k<p->bi k=0
section
variable{A:Nat->Nat->Int}{b:Nat->Int}{m wd p:Nat}{R:Nat->Nat->Rat}{pv s:Nat->Nat}
def gP.comb(h:gP A b m wd R p pv s)(a:Nat->Rat){j:Nat}(d:j<wd):sg (λk=>a k*(A (s k) j:Rat)) p=sg (λl=>sg (λk=>a k*(A (s k) (pv l):Rat)) p*R l j) p:=by
 have pm:=h.pm;rw[cC (g:=λk=>sg (λl=>a k*(A (s k) (pv l):Rat)*R l j) p) λk c=>?_]
 .rw[R8];refine cC λl e=>?_;rw[cC (g:=λk=>R l j*(a k*(A (s k) (pv l):Rat))) λk _=>Rat.mul_comm _ _,jq,Rat.mul_comm]
 .rw[h.dec k j (aR c pm) d,ZY c,TK,<- jq];exact cC λl _=>(Rat.mul_assoc _ _ _).symm
def jt{x:Int}(h:x≠0):(x:Rat)≠0:=λz=>h (Rat.intCast_inj.mp (z.trans Rat.intCast_zero.symm))
def P6{m q:Nat}(b:1<=N)(a:q+1<=m):(2*(q+1)*N)^(q+1)<=(2*m*N)^m:=by
 have x:2*(q+1)*N<=2*m*N:=VS vy (aG N);have y:1<=2*m*N:=VS (show 1<=2*m by lia) b;exact aL (Nat.pow_le_pow_left x _) (XU y a)
def k4{m q:Nat}(b:1<=N)(a:q+1<=m):(q+1)*((2*(q+1)*N)^q*N)<=(2*m*N)^m:=by
 refine aL ?_ (P6 b a);have e:(2*(q+1)*N)^(q+1)=2*((q+1)*((2*(q+1)*N)^q*N)):=by
  rw[pow_succ];ac_rfl
 lia
def gP.bound(h:gP A b m wd R p pv s)(o:1<=N)(w:∀i j,i<m->j<wd->(A i j).natAbs<=N)(K:∀i,i<m->0<b i/\(b i).natAbs<=N){i:Nat}(G:i<m) :
    ∃(v:Nat->Int)(u:Int),u≠0/\u.natAbs<=(2*m*N)^m/\(∀j,j<wd->(v j).natAbs<=(2*m*N)^m)/\∀j,j<wd->R i j*(u:Rat)=(v j:Rat):=by
  have pm:=h.pm;by_cases E:i<p
  . obtain⟨q,rfl⟩ : ∃q,p=q+1:=#[p-1,by lia]
    let⟨a,⟨t,F,r⟩,B,D⟩:=Iy (p:=q) (C:=λk l=>A (s k) (if l<i then pv l else pv (l+1))) o λk l n f=>by
      refine w _ _ (h.sm k vy) ?_;by_cases e:l<i
      . rw[ZY e];exact h.pw l (WV _ f)
      . rw[ZZ e];exact h.pw (l+1) (Nat.succ_lt_succ f)
    have cast:∀j,((sz (λk=>a k*A (s k) j) (q+1):Int):Rat)=sg (λk=>(a k:Rat)*(A (s k) j:Rat)) (q+1):=λj=>by
      rw[Va];exact cC λk _=>XV _ _
    have H:∀l,l<q+1->l≠i->sz (λk=>a k*A (s k) (pv l)) (q+1)=0:=λl f M=>by
      by_cases e:l<i
      . have:=D l (aR e (VX E))
        rw[ZY e]at this;exact this
      . have:=D (l-1) (by omega)
        rw[ZZ vy,show l-1+1=l by lia]at this;exact this
    have x:∀j,j<wd->((sz (λk=>a k*A (s k) j) (q+1):Int):Rat)=((sz (λk=>a k*A (s k) (pv i)) (q+1):Int):Rat)*R i j:=λj d=>by
      rw[cast,h.comb (λk=>(a k:Rat)) d,cC (g:=λl=>(if l=i then 1 else 0)*(((sz (λk=>a k*A (s k) (pv i)) (q+1):Int):Rat)*R l j)) λl f=>?_,kJ,ZY E];rw[<- cast (pv l)];by_cases e:l=i
      . rw[ZY e,e,Rat.one_mul]
      . rw[ZZ e,H l f e,Q4];grind
    refine#[λj=>sz (λk=>a k*A (s k) j) (q+1),sz (λk=>a k*A (s k) (pv i)) (q+1),λz=>?_,?_,λj d=>?_,λj d=>?_]
    . have:=h.ind (λk=>(a k:Rat)) (λj d=>by
        rw[<- cast,x j d,z,Q4];grind) t (Y3 F (X0 _))
      exact jt r this
    . exact aL (OJ λk n=>%[VT|VS (B k) (w _ _ (h.sm k (aR n pm)) (h.pw i E))]) (k4 o (by omega))
    . exact aL (OJ λk n=>%[VT|VS (B k) (w _ _ (h.sm k (aR n pm)) d)]) (k4 o (by omega))
    . rw[x j d,Rat.mul_comm]
  . let⟨a,⟨t,F,r⟩,B,D⟩:=Iy (p:=p) (C:=λk l=>A (s (if k<p then k else i)) (pv l)) o λk l n f=>by
      refine w _ _ (h.sm _ ?_) (h.pw l f);by_cases e:k<p
      . rw[ZY e];exact aR e pm
      . rwa[ZZ e]
    have cast:∀j,((sz (λk=>a k*A (s (if k<p then k else i)) j) (p+1):Int):Rat)=sg (λk=>(a k:Rat)*(A (s k) j:Rat)) p+(a p:Rat)*(A (s i) j:Rat):=λj=>by
      rw[Va];show sg _ p+((a p*A (s (if p<p then p else i)) j:Int):Rat)=_;rw[ZZ (X2 _),XV,cC (g:=λk=>(a k:Rat)*(A (s k) j:Rat)) λk n=>%[ZY n,XV|_]]
    have x:∀j,j<wd->((sz (λk=>a k*A (s (if k<p then k else i)) j) (p+1):Int):Rat)=((a p*b (s i):Int):Rat)*R i j:=λj d=>by
      have O:sg (λl=>sg (λk=>(a k:Rat)*(A (s k) (pv l):Rat)) p*R l j) p+(a p:Rat)*sg (λl=>(A (s i) (pv l):Rat)*R l j) p=0:=by
        rw[<- jq,<- jK,cC (g:=λ_=>0) λl f=>?_,jZ];have:=cast (pv l);rw[D l f,Q4]at this
        calc _=(sg (λk=>(a k:Rat)*(A (s k) (pv l):Rat)) p+(a p:Rat)*(A (s i) (pv l):Rat))*R l j:=by grind
          _=0:=by rw[<- this];grind
      rw[cast,h.comb (λk=>(a k:Rat)) d,h.dec i j G d,ZZ E,XV]
      grind
    have L:=K _ (h.sm i G);have I:a p≠0:=λz=>by
      have J:t<p:=by
        by_cases e:t=p
        . rw[e,z]at r;exact absurd rfl r
        . exact XX F e
      have:=h.ind (λk=>(a k:Rat)) (λj d=>by
        have c:=cast j;rw[x j d,z,Int.zero_mul,Q4]at c
        grind) t J
      exact jt r this
    refine#[λj=>sz (λk=>a k*A (s (if k<p then k else i)) j) (p+1),a p*b (s i),λz=>?_,?_,λj d=>?_,λj d=>?_]
    . rcases Int.mul_eq_zero.mp z with y|y
      . exact I y
      . lia
    . rw[VT]
      refine aL (VS (B p) L.2) (aL ?_ (k4 o (show p+1<=m by lia)));exact mE _ (TU p)
    . exact aL (OJ λk n=>by
        rw[VT];refine VS (B k) (w _ _ (h.sm _ ?_) d);by_cases e:k<p
        . rw[ZY e];exact aR e pm
        . rwa[ZZ e]) (k4 o (show p+1<=m by lia))
    . rw[x j d,Rat.mul_comm]
def gP.congr(h:gP A b m wd R p pv s)(e:∀i j,i<m->R i j=R' i j):gP A b m wd R' p pv s:=by
 have pm:=h.pm;refine#[h.pm,h.sm,h.pw,λi l a c=>%[<- e i _ a|h.unit i l a c],λi j a d=>?_,h.ind];rw[h.dec i j a d,e i j a,cC λl c=>%[e l j (aR c pm)|_]]
def gP.zero(e:∀i,i<m->0<b i):gP A b m wd (λi j=>(A i j:Rat)/(b i:Rat)) 0 pv id:=by
 refine#[aZ _,λi c=>c,λl a=>absurd a (WZ _),λi l _ a=>absurd a (WZ _),λi j c f=>?_,λg _ k d=>absurd d (WZ _)];rw[ZZ (WZ _)];have:=jt (WS (e i c));show(A i j:Rat)=(b i:Rat)*((A i j:Rat)/(b i:Rat))+0
 grind
def sw(p q x:Nat):Nat:=if x=p then q else if x=q then p else x
def gP.swap(h:gP A b m wd R p pv s){q:Nat}(v:p<=q)(r:q<m)(n:∀i j,i<m->j<wd->R' i j=R (sw p q i) j):gP A b m wd R' p pv (λi=>s (sw p q i)):=by
 have pm:=h.pm;have f:∀l,l<p->sw p q l=l:=λl a=>by unfold sw;rw[ZZ (aQ a),ZZ vy]
 have sm:∀i,i<m->sw p q i<m:=λi c=>by
  unfold sw;split
  .exact r
  .split<;>omega
 have g:∀i,(sw p q i<p)↔i<p:=λi=>by
  unfold sw;split
  .lia
  .split<;>lia
 refine#[pm,λi c=>h.sm _ (sm i c),h.pw,λi l c a=>?_,λi j c d=>?_,λu o=>?_]
 .rw[n i _ c (h.pw l a),h.unit _ l (sm i c) a];by_cases e:i=l
  .rw[ZY e,e,ZY (f l a)]
  .rw[ZZ e,ZZ λz=>e ?_];have:i<p:=(g i).mp (Y3 (WG z) a);rw[<- z,f i this]
 .rw[h.dec _ j (sm i c) d,n i j c d]
  congr 1
  .by_cases e:i<p
   .rw[ZY e,ZY ((g i).mpr e)]
   .rw[ZZ e,ZZ λz=>e ((g i).mp z)]
  .exact cC λl a=>%[n l j (aR a pm) d,f l a|_]
 .exact h.ind u λj d=>by
   rw[<- o j d];exact cC λk t=>%[f k t|_]
def gP.pivot(h:gP A b m wd R p pv s)(u:p<m)(K:∀i,i<m->0<b i){c:Nat}(q:c<wd)(M:R p c≠0)(B:∀j,j<wd->R' p j*R p c=R p j)(x:∀i j,i<m->i≠p->j<wd->R' i j=R i j-R i c*R' p j) :
  gP A b m wd R' (p+1) (λl=>if l=p then c else pv l) s:=by
 have pm:=h.pm;have r:R' p c=1:=by
  have:=B c q
  grind
 have D:∀l,l<p->R' p (pv l)=0:=λl a=>by
  have:=B (pv l) (h.pw l a);rw[h.unit p l u a,ZZ (UZ a)]at this
  grind
 have y:∀l,l<p->(if l=p then c else pv l)=pv l:=λl a=>ZZ (aQ a);have t:∀i j,i<m->i≠p->j<wd->R i j=R' i j+R i c*R' p j:=λi j n I d=>by rw[x i j n I d];grind
 have dec:∀i j,i<m->j<wd->(A (s i) j:Rat)=(if i<p+1 then 0 else(b (s i):Rat)*R' i j)+sg (λl=>(A (s i) (if l=p then c else pv l):Rat)*R' l j) (p+1):=λi j n d=>by
  have C:=h.dec i j n d;have v:=h.dec i c n q;have L:sg (λl=>(A (s i) (pv l):Rat)*R l j) p=sg (λl=>(A (s i) (pv l):Rat)*R' l j) p+R' p j*sg (λl=>(A (s i) (pv l):Rat)*R l c) p:=by
   rw[<- jq,<- jK];exact cC λl a=>by rw[t l j (Tk a u) (aQ a) d];grind
  rw[L]at C;show _=_+(sg _ p+(A (s i) (if p=p then c else pv p):Rat)*R' p j);rw[ZY rfl,cC (g:=λl=>(A (s i) (pv l):Rat)*R' l j) λl a=>%[y l a|_]];by_cases e:i<p
  .rw[ZY (WV _ e)];rw[ZY e]at C v
   grind
  .rw[ZZ e]at C v;by_cases H:i=p
   .rw[ZY vy];subst H;have:=B j d
    grind
   .rw[ZZ vy];have:=t i j n H d
    grind
 refine#[u,h.sm,λl a=>?_,λi l n a=>?_,dec,λf F=>?_]
 .by_cases e:l=p
  .show(if l=p then c else pv l)<wd;rwa[ZY e]
  .show(if l=p then c else pv l)<wd;rw[ZZ e];exact h.pw l (XX (VX a) e)
 .show R' i (if l=p then c else pv l)=_;by_cases e:l=p
  .rw[ZY e,e];by_cases o:i=p
   .rw[ZY o,o];exact r
   .rw[ZZ o,x i c n o q,r];grind
  .rw[ZZ e];have w:l<p:=by exact XX (VX a) e
   by_cases o:i=p
   .rw[o,D l w,ZZ (Ne.symm e)]
   .rw[x i _ n o (h.pw l w),D l w,h.unit i l n w];grind
 .have E:f p=0:=by
   by_cases z:f p=0
   .exact z
   .exfalso

    have d:∀j,j<wd->sg (λk=>f k*(A (s k) j:Rat)) p=-(f p*(A (s p) j:Rat)):=λj d=>by
     have:sg (λk=>f k*(A (s k) j:Rat)) p+f p*(A (s p) j:Rat)=0:=F j d
     grind
    have G:=h.comb f q;rw[d c q,cC (g:=λl=>-(f p)*((A (s p) (pv l):Rat)*R l c)) λl a=>by rw[d _ (h.pw l a)];grind,jq]at G;have v:=h.dec p c u q;rw[ZZ (X2 p)]at v;have N:=jt (WS (K _ (h.sm p u)));have:f p*((b (s p):Rat)*R p c)=0:=by rw[v]at G;grind
    grind
  intro k J;by_cases e:k=p
  .rw[e];exact E
  .refine h.ind f (λj d=>?_) k (XX (VX J) e);have:sg (λk=>f k*(A (s k) j:Rat)) p+f p*(A (s p) j:Rat)=0:=F j d;rw[E]at this
   grind
end
def vr(r:List Int×Int)(j:Nat):Rat:=((r.1.getD j 0:Int):Rat)/(r.2:Rat)
def Rx{f:Int->Int}(b:f 0=0)(a:xi)(j:Nat):(a.map f).getD j 0=f (a.getD j 0):=by
 rw[au,au,aq];cases a[j]? with
 |none=>exact b.symm
 |some t=>rfl
theorem sZ{r:List Int×Int}(h:0<r.2)(j:Nat):vr (jG r) j=vr r j:=by
 have a:=iT (ts:=r.1) h;let⟨o,n⟩:=iQ (ts:=r.1) (b:=r.2);have l:(jG r).1.getD j 0=r.1.getD j 0/bb r.1 r.2:=Rx (f:=λt=>t/bb r.1 r.2) (Int.zero_ediv _) r.1 j;have m:bb r.1 r.2 ∣ r.1.getD j 0:=by
  rw[au];cases e:r.1[j]? with
  |none=>exact#[0,by rw[Int.mul_zero];rfl]
  |some t=>exact n t (aC e)
 have k:(jG r).2=r.2/bb r.1 r.2:=rfl;unfold vr;rw[l,k];generalize r.1.getD j 0=t at *;generalize bb r.1 r.2=g at *;let⟨u,i⟩:=m;let⟨v,c⟩:=o;rw[i,c,kr _ (WS a),kr _ (WS a),XV,XV];have d:v≠0:=λz=>by rw[c,z,Int.mul_zero]at h;lia
 have:=jt d;have:=jt (WS a)
 grind
def lD{r:List Int×Int}{c:Β}(h:0<r.2)(a:0<c.2)(j:Nat):vr (jo r c) j=vr r j*((c.1:Rat)/(c.2:Rat)):=by
 have d:(jo r c).1.getD j 0=r.1.getD j 0*c.1:=Rx (f:=λt=>t*c.1) (Int.zero_mul _) r.1 j;have b:(jo r c).2=r.2*c.2:=rfl;unfold vr;rw[d,b,XV,XV];have:=jt (WS h);have:=jt (WS a)
 grind
theorem oX{r p:List Int×Int}{c:Β}(D:0<r.2)(z:0<p.2)(A:0<c.2)(E:r.1.length=p.1.length)(j:Nat):vr (pK r p c) j=vr r j+((c.1:Rat)/(c.2:Rat))*vr p j:=by
 have F:=XZ z A;have a:=AL (t:=r.2) F;let⟨u,k⟩:=Int.gcd_dvd_left r.2 (p.2*c.2);let⟨v,f⟩:=JJ r.2 (p.2*c.2);have H:pK r p c=(zipWith (λx y=>x*v+y*(u*c.1)) r.1 p.1,r.2*v):=by
  unfold pK;generalize((Int.gcd r.2 (p.2*c.2):Nat):Int)=g at a k f ⊢;have q:p.2*c.2/g=v:=%[f,kr _ (WS a)|_]
  have o:r.2/g=u:=by
   conv=>lhs;rw[k]
   exact kr _ (WS a)
  rw[q,o]
 generalize((Int.gcd r.2 (p.2*c.2):Nat):Int)=g at a k f;have B:0<v:=Int.pos_of_mul_pos_right (by rwa[<- f]) a;have G:(zipWith (λx y=>x*v+y*(u*c.1)) r.1 p.1).getD j 0=r.1.getD j 0*v+p.1.getD j 0*(u*c.1):=by
  rw[au,au,au,List.getElem?_zipWith];by_cases e:j<r.1.length
  .rw[aj e,aj (aR e (WG E))];rfl
  .rw[aM (VU e),aM vy];show(0:Int)=0*v+0*(u*c.1);rw[Int.zero_mul,Int.zero_mul];rfl
 rw[H];unfold vr;show((zipWith (λx y=>x*v+y*(u*c.1)) r.1 p.1).getD j 0:Rat)/((r.2*v:Int):Rat)=_;rw[G];generalize r.1.getD j 0=x;generalize p.1.getD j 0=y;have n:(r.2:Rat)=(g:Rat)*(u:Rat):=%[<- XV,<- k|_]
 have C:(p.2:Rat)*(c.2:Rat)=(g:Rat)*(v:Rat):=%[<- XV,<- XV,f|_]
 have I:=jt (WS D);have K:=jt (WS z);have N:=jt (WS A);have J:=jt (WS B);have L:=jt (WS a);rw[Rat.intCast_add,XV,XV,XV,XV];generalize(r.2:Rat)=d at *;generalize(p.2:Rat)=m at *;generalize(c.2:Rat)=s at *;generalize(c.1:Rat)=l at *;generalize(g:Rat)=M at *;generalize(u:Rat)=i at *;generalize(v:Rat)=b at *;generalize(x:Rat)=w at *;generalize(y:Rat)=h at *;have q:(w*b+h*(i*l))/(d*b)=w/d+h*(i*l)/(d*b):=by grind
 have o:h*(i*l)/(d*b)=l/s*(h/m):=by
  have:i*(s*m)=d*b:=by rw[n,Rat.mul_comm s m,C];grind
  grind
 rw[q,o]
def oY{M c:Nat}{r:List Int×Int}(i:0<r.2)(g:bb r.1 r.2=1)(hw:r.1.length=c){v:Nat->Int}{u:Int}(n:u≠0)(x:u.natAbs<=M)(m:∀j,j<c->(v j).natAbs<=M)(e:∀j,j<c->vr r j*(u:Rat)=(v j:Rat)):Big M r:=by
 refine least (s:=((range c).map λj=>v j*u.sign,u.natAbs)) i g #[?_,λk a b l d=>?_] #[?_,?_,λt q=>?_]
 .show r.1.length=((range c).map λj=>v j*u.sign).length;rw[hw,ak,WP]
 .have h:k<c:=%[<- hw|(ao.mp l).1]
  have d:((range c).map λj=>v j*u.sign)[k]?\b:=d;rw[aq,VY h]at d;cases d;show a*((u.natAbs:Nat):Int)=v k*u.sign*r.2;have f:=e k h;unfold vr at f;rw[au,l]at f;have f:(a:Rat)/(r.2:Rat)*(u:Rat)=(v k:Rat):=f;have y:=jt (WS i);have o:a*u=v k*r.2:=by
   refine Rat.intCast_inj.mp ?_;rw[XV,XV]
   grind
  have p:((u.natAbs:Nat):Int)=u*u.sign:=(Int.mul_sign_self u).symm;rw[p,<- Int.mul_assoc,o];ac_rfl
 .show(0:Int)<(u.natAbs:Nat);lia
 .show(((u.natAbs:Nat):Int)).natAbs<=M;rwa[XT]
 .let⟨j,w,rfl⟩:=YV.mp q;rw[VT,Int.natAbs_sign_of_ne_zero n,Nat.mul_one];exact m j (List.mem_range.mp w)
end Rw
namespace K38
local macro_rules|`(#[$x,*])=>`(⟨$x,*⟩)
open PySem PyProof.Rows L2
abbrev Dz:=top 10
abbrev jB:Str:="is_whole"
def Xv:bL aaw gY (bH Dz):=ap
abbrev Ij:=top 11
abbrev mH:Str:="divisor"
def Y7:bL Ra dh (bH Ij):=ap
abbrev RW:=top 15
abbrev rW:Str:="ratio"
def adN:bL R4 nF (bH RW):=ap
abbrev DK:=top 16
abbrev pL:Str:="is_ratio"
def Yp:bL Dt ju (bH DK):=ap
abbrev Zc:=top 17
abbrev Ux:Str:="plus"
def ahk:bL V' GP (bH Zc):=ap
abbrev Vj:=top 18
abbrev Ay:Str:="minus"
def afC:bL ait tW (bH Vj):=ap
abbrev Ue:=top 19
abbrev Ls:Str:="times"
def agy:bL agY Ao (bH Ue):=ap
abbrev Zo:=top 20
abbrev Tn:Str:="over"
def ahY:bL _1 GJ (bH Zo):=ap
abbrev Ur:=top 21
abbrev yR:Str:="under"
def adF:bL ahw tL (bH Ur):=ap
abbrev Kq:=top 23
abbrev wg:Str:="level"
def adL:bL KG pQ (bH Kq):=ap
abbrev Vd:=top 24
abbrev Mz:Str:="total"
def aea:bL U4 Bo (bH Vd):=ap
abbrev SN:=top 25
abbrev jO:Str:="least"
def adA:bL RV rG (bH SN):=ap
abbrev qJ:=top 27
abbrev vC:Str:="first_plan"
def Qf:bL yh lH (bH qJ):=ap
abbrev Kj:=top 28
abbrev Wb:Str:="fits"
def aio:bL qM EY (bH Kj):=ap
abbrev xW:=top 29
abbrev vh:Str:="check_plan"
def PJ:bL wQ k_ (bH xW):=ap
abbrev lG:=top 30
abbrev rJ:Str:="behind_door"
def M6:bL lC jN (bH lG):=ap
abbrev Hl:=top 32
abbrev Cj:Str:="lowest"
def acI:bL XR rA (bH Hl):=ap
abbrev um:=top 33
abbrev xV:Str:="row_times"
def VG:bL yX m5 (bH um):=ap
abbrev yx:=top 34
abbrev Bf:Str:="row_plus"
def Jm:bL Ea pP (bH yx):=ap
abbrev BW:=top 35
abbrev w5:Str:="take_step"
def Vx:bL yV nU (bH BW):=ap
abbrev zW:=top 36
abbrev qG:Str:="number_at"
def Uu:bL yU j4 (bH zW):=ap
abbrev jD:=top 37
abbrev qu:Str:="fractions_of"
def Kh:bL jw jh (bH jD):=ap
abbrev wN:=top 38
abbrev uJ:Str:="first_from"
def Qo:bL FP lJ (bH wN):=ap
abbrev Uc:=top 39
abbrev Fd:Str:="go_on"
def agb:bL Vp vU (bH Uc):=ap
abbrev Ar:=top 40
abbrev xT:Str:="begin_row"
def RD:bL Jo nH (bH Ar):=ap
abbrev rD:=top 41
abbrev qz:Str:="clear_column"
def Ka:bL Aw je (bH rD):=ap
abbrev B_:=top 42
abbrev Dr:Str:="reduced"
def Nv:bL IV sJ (bH B_):=ap
abbrev Eh:=top 44
abbrev z9:Str:="width_of"
def Wr:bL aaq pU (bH Eh):=ap
abbrev pH:=top 45
abbrev rO:Str:="with_rights"
def Nm:bL uR jQ (bH pH):=ap
abbrev ud:=top 46
abbrev xM:Str:="begins_of"
def Hw:bL Bx n8 (bH ud):=ap
abbrev Ja:=top 47
abbrev Em:Str:="odd_row"
def Zz:bL Ik rH (bH Ja):=ap
abbrev yS:=top 48
abbrev yd:Str:="answer_of"
def TY:bL JD mZ (bH yS):=ap
abbrev lF:=top 49
abbrev tH:Str:="single_rows"
def Ng:bL lA jT (bH lF):=ap
abbrev vo:=top 50
abbrev sW:Str:="only_answer"
def Od:bL CZ jJ (bH vo):=ap
abbrev qH:=top 52
abbrev jk:Str:="goal_marks"
def Dd:bL xP gq (bH qH):=ap
abbrev tD:=top 53
abbrev Bl:Str:="leads_of"
def Xi:bL sX pI (bH tD):=ap
abbrev Kp:=top 54
abbrev zB:Str:="meets"
def agC:bL RK tZ (bH Kp):=ap
abbrev CG:=top 55
abbrev sy:Str:="by_some"
def YJ:bL IK oJ (bH CG):=ap
abbrev Cv:=top 56
abbrev tR:Str:="by_each"
def YK:bL Iw oK (bH Cv):=ap
abbrev oV:=top 57
abbrev ug:Str:="steps_to"
def BP:bL rE mV (bH oV):=ap
abbrev nY:=top 59
abbrev ql:Str:="chosen_doors"
def Ke:bL rQ iY (bH nY):=ap
abbrev zP:=top 60
abbrev xO:Str:="left_rows"
def Tf:bL Jt nJ (bH zP):=ap
abbrev j5:=top 62
abbrev vN:Str:="on_the_way"
def CT:bL iU kW (bH j5):=ap
abbrev nQ:=top 63
abbrev lR:Str:="plan_chances"
def yJ:bL sV gJ (bH nQ):=ap
abbrev wJ:=top 64
abbrev uI:Str:="chances_of"
def Qy:bL xR lg (bH wJ):=ap
abbrev uV:=top 65
abbrev tK:Str:="picked_door"
def Lw:bL vI jM (bH uV):=ap
abbrev pq:=top 66
abbrev tu:Str:="turned_plan"
def Lj:bL vq jz (bH pq):=ap
abbrev HN:=top 67
abbrev wU:Str:="settled"
def sG:bL QZ oG (bH HN):=ap
abbrev nM:=top 68
abbrev lU:Str:="keeping_plan"
def JG:bL sE gK (bH nM):=ap
abbrev lV:=top 69
abbrev iI:Str:="least_chances"
def jX:bL qd fB (bH lV):=ap
abbrev Cm:=top 72
abbrev tO:Str:="is_word"
def aah:bL Je mD (bH Cm):=ap
abbrev yC:=top 74
abbrev pF:Str:="check_head"
def Qa:bL wR jm (bH yC):=ap
abbrev m9:=top 75
abbrev iR:Str:="check_room_name"
def DN:bL GZ fu (bH m9):=ap
abbrev rM:=top 76
abbrev lM:Str:="check_chance"
def Kg:bL Ox gH (bH rM):=ap
abbrev oZ:=top 77
abbrev rT:Str:="check_pairs"
def M4:bL u5 jP (bH oZ):=ap
abbrev o7:=top 78
abbrev su:Str:="joined_ways"
def Mg:bL C_ jA (bH o7):=ap
abbrev vM:=top 85
abbrev rR:Str:="check_share"
def LR:bL Py jR (bH vM):=ap
abbrev xY:=top 86
abbrev vJ:Str:="numbers_of"
def Pb:bL xH kY (bH xY):=ap
abbrev qj:=top 87
abbrev oO:Str:="numbered_ways"
def Ia:bL yF iy (bH qj):=ap
abbrev BR:=top 88
abbrev xq:Str:="offers_of"
def Tw:bL Jl ou (bH BR):=ap
abbrev ZS:=top 91
abbrev Ko:Str:="_law_cell"
def _R:bL Zy Ci (bH ZS):=ap
abbrev Mh:=top 92
abbrev mO:Str:="_law_stream"
def acR:bL Xm gG (bH Mh):=ap
abbrev Hb:=top 93
abbrev UW:Str:="_law_gcd"
def GB:bL Fk Ie (bH Hb):=ap
abbrev Oi:=top 94
abbrev Cq:Str:="_law_ratio"
def ace:bL Wg qX (bH Oi):=ap
abbrev Cu:=top 95
abbrev Oj:Str:="_law_names"
def adO:bL xQ A_ (bH Cu):=ap
abbrev Ej:=top 96
abbrev U3:Str:="_law_door"
def Ui:bL wI Gn (bH Ej):=ap
abbrev KJ:=top 97
abbrev Oc:Str:="_law_doors"
def Yg:bL Ua zm (bH KJ):=ap
abbrev G9:=top 98
abbrev Ou:Str:="_law_built"
def Xc:bL Et zU (bH G9):=ap
abbrev U0:=top 99
abbrev Sy:Str:="_law_hall"
def ahv:bL YM GQ (bH U0):=ap
abbrev Ze:=top 100
abbrev VJ:Str:="_law_size"
def _T:bL qZ Hh (bH Ze):=ap
abbrev T9:=top 101
abbrev K1:Str:="_law_ways"
def ahc:bL GH Cr (bH T9):=ap
abbrev Ca:=top 102
abbrev Oe:Str:="_law_leads"
def aeR:bL wM Aj (bH Ca):=ap
abbrev KC:=top 103
abbrev La:Str:="_law_goals"
def afU:bL U6 Bm (bH KC):=ap
abbrev VB:=top 104
abbrev Ga:Str:="_law_whole"
def afY:bL Eo v8 (bH VB):=ap
abbrev uZ:=top 105
abbrev sH:Str:="_law_is_fraction"
def Mq:bL PL jE (bH uZ):=ap
abbrev uD:=top 106
abbrev yr:Str:="_law_fractions"
def Uv:bL zE nZ (bH uD):=ap
abbrev rK:=top 107
abbrev zK:Str:="_law_all_ways"
def X7:bL rY pJ (bH rK):=ap
abbrev Zd:=top 108
abbrev Ks:Str:="_law_mean"
def ahH:bL F9 Ce (bH Zd):=ap
abbrev RP:=top 109
abbrev NQ:Str:="_law_taken"
def agn:bL J9 z_ (bH RP):=ap
abbrev Nh:=top 110
abbrev Ug:Str:="_law_near"
def aiF:bL Wa Fi (bH Nh):=ap
abbrev Iu:=top 111
abbrev xU:Str:="_law_chances"
def Za:bL Q7 oM (bH Iu):=ap
abbrev Nb:=top 112
abbrev HB:Str:="_law_chosen"
def acF:bL Xb vR (bH Nb):=ap
abbrev YT:=top 113
abbrev VP:Str:="_law_plan"
def ahs:bL F7 Gj (bH YT):=ap
abbrev Z1:=top 114
abbrev Uo:Str:="_law_pair"
def ahT:bL FS Hv (bH Z1):=ap
abbrev K6:=top 115
abbrev M8:Str:="_law_stays"
def afn:bL T8 Ba (bH K6):=ap
abbrev U8:=top 116
abbrev Tr:Str:="_law_away"
def IZ:bL GG Ew (bH U8):=ap
abbrev V6:=top 117
abbrev Ny:Str:="_law_right"
def agq:bL Jb Ax (bH V6):=ap
abbrev Ji:=top 118
abbrev DG:Str:="_law_refused"
def wH:bL QK tG (bH Ji):=ap
abbrev H_:=top 119
abbrev ZG:Str:="_law_odd"
def WI:bL SB O7 (bH H_):=ap
abbrev I9:=top 120
abbrev Ds:Str:="_law_is_none"
def ZM:bL Rf sS (bH I9):=ap
abbrev QC:=top 121
abbrev YW:Str:="law"
def Ir:bL me R6 (bH QC):=ap
abbrev zQ:Stmt:=g_ 79 0
abbrev Es:Str:="__init__"
abbrev G6:Str:="Door.__init__"
def R7:bL Am j8 (bH zQ):=ap
abbrev zq:Stmt:=g_ 79 1
abbrev Gh:Str:="ways"
abbrev Gk:Str:="Door.ways"
def Vw:bL Wv m6 (bH zq):=ap
abbrev Aq:Stmt:=g_ 80 0
abbrev GF:Str:="__init__"
abbrev Gf:Str:="Sure.__init__"
def Sv:bL BZ nu (bH Aq):=ap
abbrev yE:Stmt:=g_ 81 0
abbrev Dq:Str:="__init__"
abbrev Dm:Str:="Mixed.__init__"
def Qs:bL xu g8 (bH yE):=ap
abbrev zA:Stmt:=g_ 82 0
abbrev Ht:Str:="__init__"
abbrev G7:Str:="Toss.__init__"
def Vl:bL Jz nq (bH zA):=ap
abbrev uz:Stmt:=g_ 83 0
abbrev Gz:Str:="__init__"
abbrev Hq:Str:="Even.__init__"
def S6:bL Bb m_ (bH uz):=ap
abbrev ux:Stmt:=g_ 89 0
abbrev Hu:Str:="__init__"
abbrev Fo:Str:="Hall.__init__"
def S7:bL zu n_ (bH ux):=ap
abbrev zL:Stmt:=g_ 89 1
abbrev Fg:Str:="size"
abbrev FN:Str:="Hall.size"
def Sg:bL Yz fD (bH zL):=ap
abbrev jr:Stmt:=g_ 89 4
abbrev mJ:Str:="check_room"
abbrev mC:Str:="Hall.check_room"
def tY:bL Fv dN (bH jr):=ap
abbrev pA:Stmt:=g_ 89 6
abbrev BL:Str:="offers"
abbrev Bj:Str:="Hall.offers"
def Nt:bL vD eN (bH pA):=ap
abbrev u_:Stmt:=g_ 7 0
abbrev zO:Str:="__init__"
abbrev Bh:Str:="NoRoom.__init__"
def Mf:bL Pq jy (bH u_):=ap
structure ba where
 HallError:Addr
 NoRoom:Addr
 Door:Addr
 Sure:Addr
 Mixed:Addr
 Toss:Addr
 Even:Addr
 Hall:Addr
 NOUGHT:Addr
 ONE:Addr
 Door_init:Addr
 Door_ways:Addr
 Sure_init:Addr
 Mixed_init:Addr
 Toss_init:Addr
 Even_init:Addr
 Hall_init:Addr
 Hall_size:Addr
 Hall_check_room:Addr
 Hall_offers:Addr
 NoRoom_init:Addr
structure Txt(K:Frag)(mg:Str->Ω)(D:ba):Prop where
 ae8:mg "Door"\(.ref D.Door)
 aly:mg "Even"\(.ref D.Even)
 ak1:mg "Hall"\(.ref D.Hall)
 XM:mg "HallError"\(.ref D.HallError)
 R9:mg "Mixed"\(.ref D.Mixed)
 lB:mg "NOUGHT"\(.ref D.NOUGHT)
 W0:mg "NoRoom"\(.ref D.NoRoom)
 CV:mg "ONE"\(.ref D.ONE)
 alB:mg "Sure"\(.ref D.Sure)
 akV:mg "Toss"\(.ref D.Toss)
 aeB:mroIn K D.NoRoom (.type "BaseException")\true
 afw:typeIn K (.ref D.NoRoom)\(.type "type")
 Ms:∃u,mg "LONGEST_WORD"\u/\zZ (.int 8) u
 ji:∀H,SqT K H D.NOUGHT [.int 0,.int 1]
 uP:∀H,SqT K H D.ONE [.int 1,.int 1]
 agO:Cls K D.Door
 Ub:Meth K D.Door "ways" D.Door_ways
 Qc:cA K D.Door "leads"
 SQ:cA K D.Door "name"
 JH:cA K D.Door "numbers"
 JR:cA K D.Door "offered"
 Wq:cA K D.Door "pay"
 Ph:cA K D.Door "share"
 ahC:Mk K D.Sure D.Sure_init
 ags:Cls K D.Sure
 R_:Meth K D.Sure "ways" D.Door_ways
 Pg:cA K D.Sure "leads"
 U9:cA K D.Sure "name"
 Kd:cA K D.Sure "numbers"
 JZ:cA K D.Sure "offered"
 WX:cA K D.Sure "pay"
 Qg:cA K D.Sure "share"
 agA:Mk K D.Mixed D.Mixed_init
 acM:Cls K D.Mixed
 Qp:Meth K D.Mixed "ways" D.Door_ways
 Mi:cA K D.Mixed "leads"
 Pn:cA K D.Mixed "name"
 Hz:cA K D.Mixed "numbers"
 Hy:cA K D.Mixed "offered"
 TV:cA K D.Mixed "pay"
 M9:cA K D.Mixed "share"
 ahr:Mk K D.Toss D.Toss_init
 agN:Cls K D.Toss
 T6:Meth K D.Toss "ways" D.Door_ways
 Qj:cA K D.Toss "leads"
 Ss:cA K D.Toss "name"
 JV:cA K D.Toss "numbers"
 J2:cA K D.Toss "offered"
 Ws:cA K D.Toss "pay"
 QB:cA K D.Toss "share"
 aiP:Mk K D.Even D.Even_init
 adS:Cls K D.Even
 Tp:Meth K D.Even "ways" D.Door_ways
 O9:cA K D.Even "leads"
 Vg:cA K D.Even "name"
 J1:cA K D.Even "numbers"
 JN:cA K D.Even "offered"
 WT:cA K D.Even "pay"
 O_:cA K D.Even "share"
 ai1:Mk K D.Hall D.Hall_init
 gB:Cls K D.Hall
 lZ:Meth K D.Hall "check_room" D.Hall_check_room
 jF:Meth K D.Hall "offers" D.Hall_offers
 j_:Meth K D.Hall "size" D.Hall_size
 P_:cA K D.Hall "leads"
 Vv:cA K D.Hall "name"
 JK:cA K D.Hall "numbers"
 J_:cA K D.Hall "offered"
 Xd:cA K D.Hall "pay"
 Qx:cA K D.Hall "share"
 xi_NoRoom:V0 K D.NoRoom D.HallError D.NoRoom_init
 xs_NoRoom:j7 K D.NoRoom
 xk_NoRoom:iL K D.NoRoom
 hd_NoRoom:hasDictIn K D.NoRoom
 sm_NoRoom:mroIn K D.NoRoom (.ref D.NoRoom)\true
 Ai:cA K D.NoRoom "room"
 ib_HallError:p5 K D.HallError
 Ft:Js K D.Door "__init__" D.Door_init
 Uy:CN K Es G6 zQ j8 D.Door_init
 V_:CN K Gh Gk zq m6 D.Door_ways
 RZ:CN K GF Gf Aq nu D.Sure_init
 Dc:Js K D.Mixed "__init__" D.Mixed_init
 Px:CN K Dq Dm yE g8 D.Mixed_init
 S8:CN K Ht G7 zA nq D.Toss_init
 Vm:CN K Gz Hq uz m_ D.Even_init
 Vh:CN K Hu Fo ux n_ D.Hall_init
 Sx:CN K Fg FN zL fD D.Hall_size
 rF:CN K mJ mC jr dN D.Hall_check_room
 L_:CN K BL Bj pA eN D.Hall_offers
 O4:CN K zO Bh u_ jy D.NoRoom_init
 Xu:mg "abs"=none
 aaI:mg "all"=none
 agH:mg "any"=none
 RG:mg "bool"=none
 gR:mg "enumerate"=none
 aec:mg "int"=none
 dO:mg "isinstance"=none
 dz:mg "len"=none
 wV:mg "list"=none
 aqL:mg "min"=none
 eG:mg "range"=none
 adZ:mg "sorted"=none
 ao0:mg "str"=none
 agf:mg "sum"=none
 RN:mg "tuple"=none
 OD:mg "zip"=none
 Y_:cF K mg jB Dz gY
 aci:cF K mg mH Ij dh
 aiv:cF K mg rW RW nF
 YQ:cF K mg pL DK ju
 akO:cF K mg Ux Zc GP
 ah0:cF K mg Ay Vj tW
 ahh:cF K mg Ls Ue Ao
 ajW:cF K mg Tn Zo GJ
 aib:cF K mg yR Ur tL
 aiw:cF K mg wg Kq pQ
 f_total:cF K mg Mz Vd Bo
 ag1:cF K mg jO SN rG
 Vt:cF K mg vC qJ lH
 alN:cF K mg Wb Kj EY
 Sd:cF K mg vh xW k_
 PN:cF K mg rJ lG jN
 ad0:cF K mg Cj Hl rA
 XD:cF K mg xV um m5
 ZR:cF K mg Bf yx pP
 Xw:cF K mg w5 BW nU
 Wm:cF K mg qG zW j4
 Nu:cF K mg qu jD jh
 V8:cF K mg uJ wN lJ
 aiK:cF K mg Fd Uc vU
 Wf:cF K mg xT Ar nH
 MN:cF K mg qz rD je
 adk:cF K mg Dr B_ sJ
 Zb:cF K mg z9 Eh pU
 Qk:cF K mg rO pH jQ
 Yx:cF K mg xM ud n8
 acp:cF K mg Em Ja rH
 W2:cF K mg yd yS mZ
 Pu:cF K mg tH lF jT
 Pk:cF K mg sW vo jJ
 GX:cF K mg jk qH gq
 Y4:cF K mg Bl tD pI
 agU:cF K mg zB Kp tZ
 acz:cF K mg sy CG oJ
 ab4:cF K mg tR Cv oK
 Z0:cF K mg ug oV mV
 K8:cF K mg ql nY iY
 Yi:cF K mg xO zP nJ
 RX:cF K mg vN j5 kW
 NT:cF K mg lR nQ gJ
 R3:cF K mg uI wJ lg
 Qd:cF K mg tK uV jM
 Qq:cF K mg tu pq jz
 adq:cF K mg wU HN oG
 K9:cF K mg lU nM gK
 yI:cF K mg iI lV fB
 acn:cF K mg tO Cm mD
 Uq:cF K mg pF yC jm
 Hj:cF K mg iR m9 fu
 Ot:cF K mg lM rM gH
 Qe:cF K mg rT oZ jP
 O8:cF K mg su o7 jA
 Qu:cF K mg rR vM jR
 Ut:cF K mg vJ xY kY
 JX:cF K mg oO qj iy
 Xf:cF K mg xq BR ou
 alj:cF K mg Ko ZS Ci
 aed:cF K mg mO Mh gG
 ao6:cF K mg UW Hb Ie
 adC:cF K mg Cq Oi qX
 ajb:cF K mg Oj Cu A_
 al5:cF K mg U3 Ej Gn
 agX:cF K mg Oc KJ zm
 ahU:cF K mg Ou G9 zU
 alW:cF K mg Sy U0 GQ
 alJ:cF K mg VJ Ze Hh
 ake:cF K mg K1 T9 Cr
 ahB:cF K mg Oe Ca Aj
 aiB:cF K mg La KC Bm
 aiL:cF K mg Ga VB v8
 Pz:cF K mg sH uZ jE
 WR:cF K mg yr uD nZ
 aav:cF K mg zK rK pJ
 akt:cF K mg Ks Zd Ce
 ai5:cF K mg NQ RP z_
 alv:cF K mg Ug Nh Fi
 acA:cF K mg xU Iu oM
 ae9:cF K mg HB Nb vR
 alZ:cF K mg VP YT Gj
 amd:cF K mg Uo Z1 Hv
 ajc:cF K mg M8 K6 Ba
 ajZ:cF K mg Tr U8 Ew
 aiN:cF K mg Ny V6 Ax
 acL:cF K mg DG Ji tG
 aoy:cF K mg ZG H_ O7
 ab8:cF K mg Ds I9 sS
def bp(D:ba)(C:Addr):Prop:=C=D.Door\/C=D.Sure\/C=D.Mixed\/C=D.Toss\/C=D.Even\/C=D.Hall
variable{D:ba}{c r s:Rat}{q i j m n k O N:Nat}{b:Nat->Rat}{a:Int}{x:Str}{u G:xz}{Q:Type}{o:xo}{J:vx}{ns U:Φ}{p v:zI}{d:xS}{l:wE}{S:Nat->Bool}{C cm:xy}{mk:xf}{E:xt}{X:Cx}
def Txt.cl{K:Frag}{a:Str->Ω}(T:Txt K a D):∀C,bp D C->Cls K C:=by
 rintro C (rfl|rfl|rfl|rfl|rfl|rfl)
 .exact T.agO
 .exact T.ags
 .exact T.acM
 .exact T.agN
 .exact T.adS
 .exact T.gB
def Txt.Gv{K:Frag}{a:Str->Ω}(T:Txt K a D):∀C,bp D C->cA K C "leads":=by
 rintro C (rfl|rfl|rfl|rfl|rfl|rfl)
 .exact T.Qc
 .exact T.Pg
 .exact T.Mi
 .exact T.Qj
 .exact T.O9
 .exact T.P_
def Txt.Kz{K:Frag}{a:Str->Ω}(T:Txt K a D):∀C,bp D C->cA K C "name":=by
 rintro C (rfl|rfl|rfl|rfl|rfl|rfl)
 .exact T.SQ
 .exact T.U9
 .exact T.Pn
 .exact T.Ss
 .exact T.Vg
 .exact T.Vv
def Txt.DX{K:Frag}{a:Str->Ω}(T:Txt K a D):∀C,bp D C->cA K C "numbers":=by
 rintro C (rfl|rfl|rfl|rfl|rfl|rfl)
 .exact T.JH
 .exact T.Kd
 .exact T.Hz
 .exact T.JV
 .exact T.J1
 .exact T.JK
def Txt.N7{K:Frag}{a:Str->Ω}(T:Txt K a D):∀C,bp D C->cA K C "offered":=by
 rintro C (rfl|rfl|rfl|rfl|rfl|rfl)
 .exact T.JR
 .exact T.JZ
 .exact T.Hy
 .exact T.J2
 .exact T.JN
 .exact T.J_
def Txt.aeP{K:Frag}{a:Str->Ω}(T:Txt K a D):∀C,bp D C->cA K C "pay":=by
 rintro C (rfl|rfl|rfl|rfl|rfl|rfl)
 .exact T.Wq
 .exact T.WX
 .exact T.TV
 .exact T.Ws
 .exact T.WT
 .exact T.Xd
def Txt.ae2{K:Frag}{a:Str->Ω}(T:Txt K a D):∀C,bp D C->cA K C "share":=by
 rintro C (rfl|rfl|rfl|rfl|rfl|rfl)
 .exact T.Ph
 .exact T.Qg
 .exact T.M9
 .exact T.QB
 .exact T.O_
 .exact T.Qx
def dW(D:ba)(C:Addr):Prop:=C=D.Door\/C=D.Sure\/C=D.Mixed\/C=D.Toss\/C=D.Even
def dW.fam{C:Addr}(h:dW D C):bp D C:=by
 unfold dW at h;unfold bp;rcases h with h|h|h|h|h<;>simp[h]
def Txt.Vr{K:Frag}{a:Str->Ω}(T:Txt K a D):∀C,dW D C->Meth K C "ways" D.Door_ways:=by
 rintro C (rfl|rfl|rfl|rfl|rfl)
 .exact T.Ub
 .exact T.R_
 .exact T.Qp
 .exact T.T6
 .exact T.Tp
class Bs where
 P:Program
 w:World
 K:Frag
 mg:Str->Ω
 base:Heap
section
open Bs (P w K mg base)
abbrev gT[Bs](k:Nat)(x:Str)(G:Φ)(S:ST):Prop:=rn P w K mg base k x G S
abbrev gI[Bs](k:Nat)(a:Addr)(G:Φ)(S:ST):Prop:=OkI P w K mg base bh k a G (spT K S)
abbrev FT[Bs](k:Nat)(f:Addr)(Y:FuncData)(G:Φ)(S:ST):Prop:=fK P w K mg base bh k f Y G (spT K S)
abbrev Fu[Bs](n:Str)(s:Stmt)(f:Addr)(Y:FuncData):Prop:=Fun K n n s f Y
abbrev Tx[Bs](D:ba):Prop:=Txt K mg D
variable[Bs]{D:ba}{f:Addr}{Y:FuncData}
def ya{k:Nat}{n:Str}{p:Stmt}{G:Φ}{a:Sp}(h:cF K mg n p G)(g:∀{f Y},Fun K n n p f Y->fK P w K mg base bh k f Y G a):OkF P w K mg base k n G a:=h.ok λ_ _=>g
def yB{k:Nat}{x:Str}{p:Stmt}{G N:Φ}{S:ST}(h:cF K mg x p G)(e:bL N G (bH p)) {r}(g:∀{f:Addr}{d:Value}{A:Around}{a:xC}{s:Shared}{H:Hp}{E:XK},dZ k (A.deeper (envOfC x (bH p) s.zs f d))->N.Nodup ->eh (G_ bh P w K mg base N x (bH p) f d A a s H E).nox (fP p) r)(i:∀b R,S b R->r { nx:=λ_=>R (.fz .non),rt:=R } (start' N.length b))(c:∀b R,S b R->b.length=G.length:=by intro _ _ h;repeat (first|exact(ZH List.length h.1).trans rfl|let⟨_,h⟩:=h)):OkF P w K mg base (k+1) x G (spT K S):=ya h λF=>F.okT e g i c
def yf{X:fv}{k:Nat}{n m:Str}{p:Stmt}{G:Φ}{f:Addr}{a:Sp}(h:CN K n m p G f)(g:∀{Y},Fun K n m p f Y->fK P w K mg base X k f Y G a):OkI P w K mg base X k f G a:=h.ok λ_=>g
def yi{k:Nat}{n:Str}{p:Stmt}{G:Φ}{a:Sp}(h:cF K mg n p G)(g:∀{f Y},Fun K n n p f Y->fK P w K mg base (eL P w) k f Y G a):nc P w K mg base k n G a:=h.okX λ_ _=>g
abbrev tT(f:Β):T:=.tup [.int f.1,.int f.2]
def tP:T->wr
 |.int _=>some true
 |.bl _=>some false
 |.non=>some false
 |.str _=>some false
 |.tup _=>some false
 |.lst _=>some false
 |_=>none
def mU:ST:=λa q=>∃t b,a=[t]/\tP t=some b/\q (.fz (.bl b))
def XJ(T:Tx D):gT 1 jB gY mU:=yB T.Y_ Xv (λ_ _=>bI (bR (vp (oW .int vt T.dO T.aec boot_int) (Bt (HC (oW .bool vt T.dO T.RG boot_bool))))))<|by
 rintro _ R ⟨t,b,rfl,h,q⟩;cases t<;>cases h<;>exact q
def oH:ST:=λc q=>∃a b,c=[.int a,.int b]/\q (.fz (.int (Int.gcd a b)))
def kn(T:Tx D):gT 1 mH dh oH:=yB T.aci Y7 (λc _=>bG (bT 2 (bQ Ol T.Xu boot_abs (bA vt bC)))
  (bG (bT 3 (bQ Ol T.Xu boot_abs (bA vn bC)))
  (bG (O5 (cg (mX c.units) vi bF)
  (bG (bT 4 (bM cM ve vi))
  (bG (bT 2 vi)
  (bI (bT 3 vF)))))
  (bI (bR ve)))))<|by
 rintro _ R ⟨a,b,rfl,q⟩;refine#[λm o=>∃(l r:Nat)(x:OT),o=[.fz (.int a),.fz (.int b),.fz (.int l),.fz (.int r),x]/\Nat.gcd l r=Int.gcd a b/\m=r,#[_,_,_,_,rfl,rfl,rfl],?_];rintro m _ ⟨l,r,x,rfl,d,e⟩;refine er (λh=>?_) λh=>?_
 .have c:r≠0:=by intro z;subst z;cases h
  refine#[λo=>∃x,o=[.fz (.int a),.fz (.int b),.fz (.int r),.fz (.int ((l%r:Nat):Int)),x],?_,?_]
  .rintro _ ⟨x,rfl⟩;exact#[l%r,by have:=mod_lt l (Nat.pos_of_ne_zero c);lia,r,l%r,x,rfl,(Nat.gcd_comm r (l%r)).trans ((Nat.gcd_rec r l).symm.trans ((Nat.gcd_comm r l).trans d)),rfl]
  .exact#[by lia,_,by rw[Int.natCast_emod];rfl]
 .have c:r=0:=by
   by_cases z:r=0
   .exact z
   .have:(decide ((r:Int)=0))=false:=Zp vy;rw[show xr true (decide ((r:Int)=0)) = !decide ((r:Int)=0)from rfl,this]at h;cases h
  subst c;rw[Nat.gcd_zero_right]at d;rw[<- d]at q;exact q
structure ng(t b x y:Int):Prop where
 pos:0<y
 gcd:Int.gcd x y=1
 eq:x*b=t*y
 lx:x.natAbs<=t.natAbs
 ly:y.natAbs<=b.natAbs
def Nz{c q:Int}(h:c≠0):fdiv (c*q) c=q:=by
 rw[Int.fdiv_eq_ediv_of_dvd (Int.dvd_mul_right c q),kr _ h]
def Lb{c q:Int}(h:c≠0):q.natAbs<=(c*q).natAbs:=by
 rw[VT];exact mE _ vy
def yZ{t b c:Int}(h:b≠0)(a:c≠0)(d:c.natAbs=Int.gcd t b)(I:0<c*b):ng t b (fdiv t c) (fdiv b c):=by
 have g:c ∣ t:=Int.natAbs_dvd.mp %[d|Int.gcd_dvd_left t b];have f:c ∣ b:=Int.natAbs_dvd.mp %[d|JJ t b];let⟨x,rfl⟩:=g;let⟨y,rfl⟩:=f;rw[Nz a,Nz a];refine#[?_,?_,?_,Lb a,Lb a]
 .rw[<- Int.mul_assoc]at I;have e:0<c*c:=by
   rcases Int.lt_or_lt_of_ne a with z|z
   .exact Int.mul_pos_of_neg_of_neg z z
   .exact XZ z z
  exact Int.pos_of_mul_pos_right I e
 .rw[Int.gcd_mul_left]at d;have e:0<c.natAbs:=by lia
  exact Nat.eq_of_mul_eq_mul_left e %[Nat.mul_one|d.symm]
 .rw[Int.mul_left_comm,Int.mul_assoc]
def o9{b:Int}(c:b≠0):(0:Int)<(Int.gcd a b:Nat):=by
 have:=mx a c;lia
def QD{i j:Int}(h:i.natAbs<=j.natAbs)(k:Bd j):Bd i:=Y3 h k
theorem HD{i:Int}(h:Bd i):Bd (-i):=by unfold Bd at *;rwa[Int.natAbs_neg]
def qT{b:Int}(c:b≠0)(h:Bd b):Bd ((Int.gcd a b:Nat):Int):=QD (by
 have:=UY vy (Int.gcd_dvd_natAbs_right a b);omega) h
def v7:ST:=λa q=>∃t b,a=[.int t,.int b]/\b≠0/\Bd b/\∀x y,ng t b x y->q (.fz (tT (x,y)))
def hD(T:Tx D):gT 2 rW nF v7:=yB T.aiv adN (λf _=>bG (cB (QW.qt (iJ (dJ (cJ (bJ (XJ T) (bA vt bC)))) (gD (dJ (cJ (bJ (XJ T) (bA vn bC)))))))
  (bI gO)
  bV)
  (bG (cB (cg (z4 f.units) vn bF)
  (bI gO)
  bV)
  (bG (bT 2 (bJ (kn T) (bA vt (bA vn bC))))
  (bG (cB (cg CQ vn bF)
  (bI (bT 2 (Vz ve)))
  bV)
  (bI (bR (d7 (bA (bM mq vt ve) (bA (bM mq vn ve) bC)))))))))<|by
 rintro _ R ⟨t,b,rfl,c,hd,q⟩;refine#[_,_,rfl,rfl,_,_,rfl,rfl,?_];have d:=o9 (a:=t) c;have g1:=qT (a:=t) c hd;refine cR (Zp c) #[_,_,rfl,eT (λe=>#[#[by omega,HD g1],#[by omega,HD g1],q _ _ (yZ c (by omega) vy (Int.mul_pos_of_neg_of_neg vy e))]) λe=>#[#[by exact WS d,g1],#[by exact WS d,g1],q _ _ (yZ c (WS d) vy (XZ d vy))]]
abbrev aa(r:Rat):T:=.tup [.int r.num,.int r.den]
def jV{t b x y:Int}(h:ng t b x y)(c:b≠0):tT (x,y)=aa (divInt t b):=by
 have a:=h.pos;have e:divInt t b=#[x,y.toNat,by lia,by have:=h.gcd;unfold Int.gcd at this;rw[show y.toNat=y.natAbs by lia];exact this]:=by
  rw[Rat.mk_eq_divInt,show((y.toNat:Nat):Int)=y by exact kt (XY a)];exact(QY c (WS a)).mpr h.eq.symm
 rw[e];show T.tup [.int x,.int y]=.tup [.int x,.int (y.toNat:Nat)];rw[show((y.toNat:Nat):Int)=y by exact kt (XY a)]
def rd(r:Rat):divInt r.num r.den=r:=Rat.num_divInt_den r
def pN(r:Rat):((r.den:Nat):Int)≠0:=by have:=r.den_pos;lia
def Bq(r:Rat):Prop:=Bd r.num/\Bd (r.den:Nat)
def abD:ST:=λc q=>∃a b:Rat,c=[aa a,aa b]/\Bq a/\Bq b/\Bd ((a.den:Int)*b.den)/\q (.fz (aa (a+b)))
def Gy:ST:=λc q=>∃a b:Rat,c=[aa a,aa b]/\Bq a/\Bq b/\Bd ((a.den:Int)*b.den)/\q (.fz (aa (a-b)))
def YG:ST:=λc q=>∃a b:Rat,c=[aa a,aa b]/\Bq a/\Bq b/\Bd ((a.den:Int)*b.den)/\q (.fz (aa (a*b)))
def aa8:ST:=λc q=>∃a b:Rat,c=[aa a,aa b]/\b≠0/\Bq a/\Bq b/\Bd ((a.den:Int)*b.num)/\q (.fz (aa (a/b)))
def En:ST:=λc q=>∃a b:Rat,c=[aa a,aa b]/\Bq a/\Bq b/\q (.fz (.bl (decide (a<b))))
def qy{b:Int}(d:a≠0)(c:b≠0):a*b≠0:=λz=>(Int.mul_eq_zero.mp z).elim d c
def ahP(T:Tx D):gT 3 Ux GP abD:=yB T.akO ahk (λ_ _=>bI (bR (bJ (hD T) (bA (bM dB (bM cN (bK vt bF) (bK vn bF)) (bM cN (bK vn bF) (bK vt bF))) (bA (bM cN (bK vt bF) (bK vn bF)) bC)))))<|by
 rintro _ R ⟨a,b,rfl,d,c,hd,q⟩;refine#[#[d.1,c.2],#[c.1,d.2],#[d.2,c.2],_,_,rfl,qy (pN a) (pN b),hd,λx y l=>?_];rwa[jV l (qy (pN a) (pN b)),<- QU _ _ (pN a) (pN b),rd,rd]
def p4(T:Tx D):gT 3 Ay tW Gy:=yB T.ah0 afC (λ_ _=>bI (bR (bJ (hD T) (bA (bM Vk (bM cN (bK vt bF) (bK vn bF)) (bM cN (bK vn bF) (bK vt bF))) (bA (bM cN (bK vt bF) (bK vn bF)) bC)))))<|by
 rintro _ R ⟨a,b,rfl,d,c,hd,q⟩;refine#[#[d.1,c.2],#[c.1,d.2],#[d.2,c.2],_,_,rfl,qy (pN a) (pN b),hd,λx y l=>?_];rwa[jV l (qy (pN a) (pN b)),<- Rat.divInt_sub_divInt _ _ (pN a) (pN b),rd,rd]
def aeQ(T:Tx D):gT 3 Ls Ao YG:=yB T.ahh agy (λ_ _=>bI (bR (bJ (hD T) (bA (bM cN (bK vt bF) (bK vn bF)) (bA (bM cN (bK vt bF) (bK vn bF)) bC)))))<|by
 rintro _ R ⟨a,b,rfl,d,c,hd,q⟩;refine#[#[d.1,c.1],#[d.2,c.2],_,_,rfl,qy (pN a) (pN b),hd,λx y l=>?_];rwa[jV l (qy (pN a) (pN b)),<- Rat.divInt_mul_divInt,rd,rd]
def ai2(T:Tx D):gT 3 Tn GJ aa8:=yB T.ajW ahY (λ_ _=>bI (bR (bJ (hD T) (bA (bM cN (bK vt bF) (bK vn bF)) (bA (bM cN (bK vt bF) (bK vn bF)) bC)))))<|by
 rintro _ R ⟨a,b,rfl,f,e,d,hd,q⟩;have c:b.num≠0:=λz=>f %[<- rd b,z|QR _];refine#[#[e.1,d.2],#[e.2,d.1],_,_,rfl,qy (pN a) c,hd,λx y l=>?_];rwa[jV l (qy (pN a) c),<- Rat.divInt_mul_divInt,rd,<- Rat.inv_def,<- Rat.div_def]
def kc(T:Tx D):gT 1 yR tL En:=yB T.aib adF (λ_ _=>bI (bR (kh CQ (bM cN (bK vt bF) (bK vn bF)) (bM cN (bK vn bF) (bK vt bF)))))<|by
 rintro _ R ⟨a,b,rfl,d,c,q⟩;refine#[#[d.1,c.2],#[c.1,d.2],?_];rw[show decide (a<b)=decide (a.num*(b.den:Int)<b.num*(a.den:Int))from decide_eq_decide.mpr (lt_iff a b)]at q;exact q
def uF:ST:=λa q=>∃r:Rat,a=[aa r]/\q (.fz (.bl true))
def XF(T:Tx D):gT 2 pL ju uF:=yB T.YQ Yp (λa _=>bG (cB (QW.qt (iJ (dJ (cJ (oW .tuple vt T.dO T.RN boot_tuple))) (gD (cg (mX a.units) (bQ cH T.dz WJ (bA vt bC)) bF))))
  (bI (bR fH))
  bV)
  (bG (bT 1 (bK vt bF))
  (bG (bT 2 (bK vt bF))
  (bG (cB (QW.qt (iJ (dJ (cJ (bJ (XJ T) (bA vn bC)))) (gD (dJ (cJ (bJ (XJ T) (bA ve bC)))))))
  (bI (bR fH))
  bV)
  (bI (bR (vp (kh p_ ve bF) (Bt (kh (z4 a.units) (bJ (kn T) (bA vn (bA ve bC))) bF)))))))))<|by
 rintro _ R ⟨r,rfl,q⟩;refine#[_,_,rfl,rfl,_,_,rfl,rfl,?_];have:=r.den_pos;refine dI (Zs vy) #[_,_,rfl,?_];rwa[show Int.gcd r.num r.den=1 from r.reduced]
def Na:xt->Nat
 |[]=>1
 |r::h=>Nat.lcm r.den (Na h)
def d9(n:Nat):xt->Nat
 |[]=>n
 |r::h=>d9 (Nat.lcm n r.den) h
theorem iZ:∀(h:xt){n:Nat},0<n->0<d9 n h
 |[],_,a=>a
 |r::h,_,a=>iZ h (Nat.lcm_pos a r.den_pos)
theorem oE:∀(h:xt){n:Nat},n ∣ d9 n h/\∀r∈h,r.den ∣ d9 n h
 |[],n=>#[Nat.dvd_refl n,λ_ z=>(nomatch z)]
 |r::h,n=>by
  let⟨a,b⟩:=oE h (n:=Nat.lcm n r.den);refine#[Nat.dvd_trans (Nat.dvd_lcm_left ..) a,λx c=>?_];rcases YU.mp c with rfl|z
  .exact Nat.dvd_trans (Nat.dvd_lcm_right ..) a
  .exact b x z
theorem xX:∀(h:xt){n m:Nat},n ∣ m->(∀r∈h,r.den ∣ m)->d9 n h ∣ m
 |[],_,_,a,_=>a
 |r::h,_,_,a,k=>xX h (Nat.lcm_dvd a (k r (aO ..))) λx b=>k x (aJ _ b)
theorem N5:∀(b a:xt)(n:Nat),d9 n (b++a)=d9 (d9 n b) a
 |[],_,_=>rfl
 |_::b,a,_=>N5 b a _
def tops(B:Nat)(h:xt):xi:=h.map λr=>r.num*((B/r.den:Nat):Int)
def Zt(h:Bd (n:Int))(l:m<=n):Bd (m:Int):=QD (by omega) h
def agD(n d:Nat):(fdiv (n:Int) ((Int.gcd n d:Nat):Int))*d=((Nat.lcm n d:Nat):Int):=by
 rw[show Int.gcd (n:Int) (d:Int)=Nat.gcd n d from rfl,Int.fdiv_eq_ediv_of_dvd (Int.natCast_dvd_natCast.mpr (Nat.gcd_dvd_left n d)),<- Int.natCast_ediv,<- Qr,Nat.lcm,Nat.div_mul_right_comm (Nat.gcd_dvd_left n d)]
def Ln(m n:Nat):fdiv (m:Int) (n:Int)=((m/n:Nat):Int):=by rw[mu _ (X9 _)];rfl
def Al:ST:=λa q=>∃h:xt,a=[.lst (h.map aa)]/\h.length<=1000/\(∀r∈h,Bd r.num)/\Bd (d9 1 h:Nat)/\q (.fz (.tup [.lst ((tops (d9 1 h) h).map T.int),.int (d9 1 h:Nat)]))
def lI(T:Tx D):gT 2 wg pQ Al:=yB T.aiw adL (λ_ _=>bG (bT 1 bF)
  (bG (cY (bZ vt) (bW (n:=99) 2)
  (bI (bT 1 (bM cN (bM mq vn (bJ (kn T) (bA vn (bA (bK ve bF) bC)))) (bK ve bF)))))
  (bI (bR (d7 (bA (cL (bH Kq) KG ["fractions","bottom","?one"] ["one"] (bZ vt) (dH (i:=0)) cj (bM cN (bK vt bF) (bM mq ve (bK vt bF)))) (bA vn bC)))))))<|by
 rintro _ R ⟨h,rfl,l,m,d,q⟩;refine eF aa h (λb o=>∃x,o=[.fz (.lst (h.map aa)),.fz (.int (d9 1 b:Nat)),x]) #[_,rfl] ?_ ?_
 .rintro b a g _ e ⟨x,rfl⟩;have s:=(oE (a::g) (n:=d9 1 b)).1;have k:d9 1 h=d9 (d9 1 b) (a::g):=%[e|N5 b (a::g) 1]
  have u:=iZ b UQ;have c:=iZ h UQ;have t:Bd (d9 1 b:Nat):=Zt d (k ▸ UY (k ▸ c) s);have f:Bd (a.den:Nat):=Zt d (UY c ((oE h).2 a (e ▸ by simp)));refine#[_,_,rfl,#[by have:=o9 (a:=(d9 1 b:Nat)) (pN a);exact WS this,qT (pN a) f],#[QD ?_ t,f],.fz (aa a),?_]
  .rw[show Int.gcd ((d9 1 b:Nat):Int) (a.den:Int)=Nat.gcd (d9 1 b) a.den from rfl,Ln];exact div_le_self ..
  .rw[agD,N5]
   rfl
 .rintro _ ⟨x,rfl⟩;refine#[aL ↑l vw,comp_map aa (λr=>.int (r.num*((d9 1 h/r.den:Nat):Int))) h (λr j N M p=>?_) ?_]
  .have f:Bd (r.den:Nat):=Zt d (UY (iZ h UQ) ((oE h).2 r j));refine#[#[pN r,f],#[m r j,QD ?_ d],?_]
   .rw[Ln];exact div_le_self ..
   .rw[Ln];exact p
  .have:(tops (d9 1 h) h).map L2.T.int=h.map (λr=>.int (r.num*((d9 1 h/r.den:Nat):Int))):=by unfold tops;rw[WU];rfl
   rw[this]at q;exact q
def lP(l:xy):Bool:=decide (1<=l.length)&&decide (l.length<=8)&&l.all λc=>decide (97<=c)&&decide (c<=122)
abbrev Wd(n:Str):Prop:=lP n.cps.toList=true
def Wd.len{n:Str}(h:Wd n):1<=n.length/\n.length<=8:=by
 unfold Wd lP at h;simp only[JY,decide_eq_true_eq,Array.length_toList]at h;exact h.1
def IE(c d:Nat):(!decide ((#[↥[d]] : Str).cps.toList<(#[↥[c]] : Str).cps.toList))=decide (c<=d):=by
 have:((#[↥[d]] : Str).cps.toList<(#[↥[c]] : Str).cps.toList)↔d<c:=by
  show[d]<[c]↔d<c;constructor
  .intro h;cases h with
   |rel h=>exact h
   |cons h=>cases h
  .exact λh=>.rel h
 rw[show decide ((#[↥[d]] : Str).cps.toList<(#[↥[c]] : Str).cps.toList)=decide (d<c)from decide_eq_decide.mpr this];by_cases h:c<=d
 .rw[Zs h,Zp (QQ h)];rfl
 .rw[Zp h,Zs (Nat.lt_of_not_le h)];rfl
def yD:ST:=λa q=>∃n:Str,a=[.str n]/\Wd n/\q (.fz (.bl true))
def ZC(T:Tx D):gT 1 tO mD yD:=yB T.acn aah (λ_ _=>bG (cB (QW.qt (iJ (dJ (cJ (oW .str vt T.dO T.ao0 boot_str))) (gD (dJ (MF Q_ Q_ bF (bQ ag3 T.dz WJ (bA vt bC)) (Yo T.Ms λ_=>.int _))))))
  (bI (bR fH))
  bV)
  (bI (bR (bQ (V9 rfl) T.aaI boot_all (bA (cL (bH Cm) Je Je ["sign"] (_g vt) (dH (i:=0)) cj (W6 GW GW vm vt vm)) bC)))))<|by
 rintro _ R ⟨n,rfl,a,q⟩;let⟨j,e⟩:=a.len;refine#[aL e vw,dI (Zs vy) (cR (by rw[Zs (show((n.length:Nat):Int)<=8 by lia)];rfl) #[%[ak|aL e vw],comp_map (λc=>.str #[↥[c]]) (λc=>.bl (decide (97<=c)&&decide (c<=122))) n.cps.toList (λc _ N M d=>?_) #[n.cps.toList.map λc=>decide (97<=c)&&decide (c<=122),by rw[WU];rfl,?_]])]
 .have f:(!decide ((#[↥[c]] : Str).cps.toList<("a":Str).cps.toList))=decide (97<=c):=%[show("a":Str)=#[↥[97]]from by decide +kernel|IE 97 c]
  have g:(!decide (("z":Str).cps.toList<(#[↥[c]] : Str).cps.toList))=decide (c<=122):=%[show("z":Str)=#[↥[122]]from by decide +kernel|IE c 122]
  refine er (λh=>?_) λh=>?_
  .rw[<- f,h,<- g]at d;exact d
  .rw[<- f,h]at d;exact d
 .have:((n.cps.toList.map λc=>decide (97<=c)&&decide (c<=122)).all λb=>b)=true:=by
   unfold Wd lP at a;rw[JY]at a;rw[all_map];exact a.2
  rw[<- this]at q;exact q
def vg:ST:=λa q=>∃(n:Str)(r:Rat),a=[.str n,aa r]/\Wd n/\q (.fz .non)
def Qh(T:Tx D):gT 3 pF jm vg:=yB T.Uq Qa (λ_ _=>bG (cB (dJ (cJ (bJ (ZC T) (bA vt bC))))
  (bI gO)
  bV)
  (bI (cB (dJ (cJ (bJ (XF T) (bA vn bC))))
  (bI gO)
  bV)))<|by
 rintro _ R ⟨n,r,rfl,a,q⟩;exact#[_,rfl,a,_,rfl,q]
def mK:ST:=λa q=>∃n:Str,a=[.str n]/\Wd n/\q (.fz .non)
def El(T:Tx D):gT 2 iR fu mK:=yB T.Hj DN (λ_ _=>bI (cB (dJ (cJ (bJ (ZC T) (bA vt bC))))
  (bI gO)
  bV))<|by
 rintro _ R ⟨n,rfl,a,q⟩;exact#[_,rfl,a,q]
def Ch(r:Rat):Prop:=0<=r/\r<=1/\Bd (r.den:Nat)
def Ch.bq(h:Ch r):Bq r:=by
 have b:=Rat.num_nonneg.mpr h.1;have a:=(le_iff r 1).mp h.2.1;exact#[QD (by have:r.num*((1:Rat).den:Int)<=(1:Rat).num*(r.den:Int):=a;simp at this;omega) h.2.2,h.2.2]
def kU:Bq 0:=#[Nat.two_pow_pos 8000,Nat.one_lt_two_pow vw]
def iA:Bq 1:=#[Nat.one_lt_two_pow vw,Nat.one_lt_two_pow vw]
def qg:ST:=λa q=>∃r:Rat,a=[aa r]/\Ch r/\q (.fz .non)
def JM(T:Tx D):gT 3 lM gH qg:=yB T.Ot Kg (λ_ _=>bI (cB (QW.qt (iJ (dJ (cJ (bJ (XF T) (bA vt bC)))) (iJ (cJ (bJ (kc T) (bA vt (bA (mW T.lB T.ji) bC)))) (gD (cJ (bJ (kc T) (bA (mW T.CV T.uP) (bA vt bC))))))))
  (bI gO)
  bV))<|by
 rintro _ R ⟨r,rfl,a,q⟩;refine#[_,rfl,r,0,rfl,a.bq,kU,?_];rw[Zp (Rat.not_lt.mpr a.1)];refine#[1,r,rfl,iA,a.bq,?_];rwa[Zp (Rat.not_lt.mpr a.2.1)]
def Ez(h:xt):Rat:=h.foldr (· + ·) 0
theorem Yl{B:Nat}(f:B≠0):∀{h:xt},(∀r∈h,r.den ∣ B)->divInt (tops B h).sum B=Ez h
 |[],_=>by show divInt 0 _=0;exact QR _
 |r::h,a=>by
  have d:=Yl f (h:=h) λx e=>a x (aJ _ e);have b:((B:Nat):Int)≠0:=by lia
  let⟨m,c⟩:=a r (aO ..);show divInt (r.num*((B/r.den:Nat):Int)+(tops B h).sum) B=r+Ez h;have g:r+Ez h=divInt (r.num*B+(tops B h).sum*r.den) (r.den*B):=%[<- QU _ _ (pN r) b,rd,d|_]
  rw[g];refine(QY b (qy (pN r) b)).mpr ?_;have:B/r.den=m:=%[c|Nat.mul_div_cancel_left _ r.den_pos]
  rw[this,c];simp only[Qr]
  grind
def Ym:ST:=λa q=>∃h:xt,a=[.lst (h.map aa)]/\h.length<=1000/\(∀r∈h,Bd r.num)/\Bd (d9 1 h:Nat)/\q (.fz (aa (Ez h)))
def aew(T:Tx D):gT 3 Mz Bo Ym:=yB T.f_total aea (λ_ _=>bG (bT 1 (bJ (lI T) (bA vt bC)))
  (bI (bR (bJ (hD T) (bA (bQ (qB rfl) T.agf boot_sum (bA (bK vn bF) bC)) (bA (bK vn bF) bC))))))<|by
 rintro _ R ⟨h,rfl,c,e,b,q⟩;have d:=iZ h UQ;have a:((d9 1 h:Nat):Int)≠0:=by lia
 refine#[h,rfl,c,e,b,_,rfl,_,_,rfl,a,b,λx y l=>?_];rwa[jV l a,Yl (UZ d) (oE h).2]
abbrev c4(p:Str×Rat):T:=.tup [.str p.1,aa p.2]
def BX:ST:=λa q=>∃G:xl,a=[.lst (G.map c4)]/\G.length<=1000/\(∀p∈G,Wd p.1/\Ch p.2)/\Bd (d9 1 (G.map (·.2)):Nat)/\Ez (G.map (·.2))=1/\q (.fz .non)
def Oh(T:Tx D):gT 4 rT jP BX:=yB T.Qe M4 (λb _=>bG (cY (bZ vt) (dY (n:=2) (bO (bW (n:=99) 1) (bO (bW (n:=99) 2) cT)))
  (bG (m7 (bJ (El T) (bA vn bC)))
  (bI (m7 (bJ (JM T) (bA ve bC))))))
  (bI (cB (cg (mX b.units) (bJ (aew T) (bA (cL (bH oZ) u5 u5 ["pair"] (bZ vt) (dH (i:=0)) cj (bK vt bF)) bC)) (mW T.CV T.uP))
  (bI gO)
  bV)))<|by
 rintro _ R ⟨G,rfl,v,c,f,I,q⟩;refine eF c4 G (λ_ o=>∃x y,o=[.fz (.lst (G.map c4)),x,y]) #[_,_,rfl] ?_ ?_
 .rintro l a k _ e ⟨x,y,rfl⟩;let⟨h,g⟩:=c a (e ▸ by simp);exact#[rfl,_,rfl,h,_,rfl,g,_,_,rfl]
 .rintro _ ⟨x,y,rfl⟩;refine#[aL ↑v vw,comp_map c4 (λp=>aa p.2) G (λp _ N M d=>d) #[G.map (·.2),by rw[WU];rfl,↑v,λr b=>?_,f,?_]]
  .let⟨p,j,rfl⟩:=YV.mp b;exact(c p j).2.bq.1
  .rw[I];exact q
def cz(u:xl)(p:Str×Rat):xl:=if(u.any λx=>decide (x.1=p.1))=true then u.map (λx=>if x.1=p.1 then(x.1,x.2+p.2)else x)else u++[p]
def lE(G:xl):xl:=G.foldl cz []
abbrev eP(u:xl):xI:=u.map λx=>.inr x.1
abbrev fA(u:xl):xk:=u.map λx=>aa x.2
def _x(u:xl)(n:Str):M_ (eP u) (.inr n)=u.any λx=>decide (x.1=n):=by
 unfold M_;rw[U1]
 congr 1
 funext x
 exact decide_eq_decide.mpr #[λz=>Sum.inr.inj z,λz=>ZH Sum.inr z]
theorem Zx(n:Str):∀u:xl,pO (eP u) (fA u) (.inr n)=(u.find? λx=>decide (x.1=n)).map λx=>aa x.2
 |[]=>rfl
 |x::u=>by
  show(if(Sum.inr x.1:bo)=.inr n then some (aa x.2)else pO (eP u) (fA u) (.inr n))=_;by_cases h:x.1=n
  .rw[ZY (ZH Sum.inr h),mL (p:=λx:Str×Rat=>decide (x.1=n)) (Zs h)];rfl
  .rw[ZZ λz=>h (Sum.inr.inj z),mR (p:=λx:Str×Rat=>decide (x.1=n)) (by show ¬decide (x.1=n)=true;rw[Zp h];decide),Zx n u]
def DP(u:xl)(n:Str):Rat:=((u.find? λx=>decide (x.1=n)).map (·.2)).getD 0
def ahl(u:xl)(n:Str):((pO (eP u) (fA u) (.inr n)).getD (aa 0))=aa (DP u n):=by
 rw[Zx];unfold DP;cases(u.find? λx=>decide (x.1=n))<;>rfl
def II{u:xl}{n:Str}(b:(u.map (·.1)).Nodup){x:Str×Rat}(a:x∈u)(e:x.1=n):(u.find? λy=>decide (y.1=n))\x:=by
 induction u with
 |nil=>cases a
 |cons y u f =>
  let⟨d,c⟩:=List.nodup_cons.mp b;rcases YU.mp a with rfl|z
  .exact mL (p:=λy:Str×Rat=>decide (y.1=n)) (Zs e)
  .rw[mR (p:=λy:Str×Rat=>decide (y.1=n)) (by show ¬decide (y.1=n)=true;rw[Zp λw=>d (YV.mpr #[x,z,e.trans w.symm])];decide)];exact f c z
def Sl(u:xl)(p:Str×Rat)(c:(u.map (·.1)).Nodup):eU (eP u) (.inr p.1)=eP (cz u p)/\d6 (eP u) (fA u) (.inr p.1) (aa (DP u p.1+p.2))=fA (cz u p):=by
 unfold eU d6 cz;rw[_x];by_cases h:(u.any λx=>decide (x.1=p.1))=true
 .rw[ZY h,ZY h,ZY h];refine#[by simp only[eP,WU];refine UP λx _=>?_;show(Sum.inr x.1:bo)=.inr (if x.1=p.1 then(x.1,x.2+p.2)else x).1;split<;>rfl,?_]
  clear h
  rw[show fA (u.map λx=>if x.1=p.1 then(x.1,x.2+p.2)else x)=u.map ((λx=>aa x.2) ∘ λx=>if x.1=p.1 then(x.1,x.2+p.2)else x)from WU]
  suffices H:∀(a:xl),(∀x∈a,x.1=p.1->x.2=DP u p.1)->zipWith (λ(k:bo)x=>if k=.inr p.1 then aa (DP u p.1+p.2)else x) (eP a) (fA a)=a.map ((λx=>aa x.2) ∘ λx=>if x.1=p.1 then(x.1,x.2+p.2)else x)from H u λx b e=>by
   unfold DP;rw[II c b e];rfl
  intro a
  induction a with
  |nil=>intro _;rfl
  |cons x a f =>
   intro H;show zipWith _ (Sum.inr x.1::eP a) (aa x.2::fA a)=_;rw[zipWith_cons_cons,f λy g=>H y (aJ _ g),map_cons]
   congr 1
   by_cases e:x.1=p.1
   .rw[ZY (ZH Sum.inr e)];show _=aa (if x.1=p.1 then(x.1,x.2+p.2)else x).2;rw[ZY e,H x (aO ..) e]
   .rw[ZZ λz=>e (Sum.inr.inj z)];show _=aa (if x.1=p.1 then(x.1,x.2+p.2)else x).2;rw[ZZ e]
 .rw[ZZ h,ZZ h,ZZ h];have d:DP u p.1=0:=by
   unfold DP;rw[List.find?_eq_none.mpr λx b z=>h (List.any_eq_true.mpr #[x,b,z])];rfl
  rw[d,TK];simp only[eP,fA,bf];exact#[rfl,rfl]
def IG{Q:Type}[DecidableEq Q]{u:List (Q×Rat)}{p:Q×Rat}(c:(u.map (·.1)).Nodup):((if(u.any λx=>decide (x.1=p.1))=true then u.map (λx=>if x.1=p.1 then(x.1,x.2+p.2)else x)else u++[p]).map (·.1)).Nodup:=by
 by_cases h:(u.any λx=>decide (x.1=p.1))=true
 .rw[ZY h,WU];rw[show u.map ((λx=>x.1) ∘ λx=>if x.1=p.1 then(x.1,x.2+p.2)else x)=u.map (·.1)from UP λx _=>by show(if x.1=p.1 then(x.1,x.2+p.2)else x).1=x.1;split<;>rfl];exact c
 .rw[ZZ h,bf];refine List.nodup_append.mpr #[c,by simp,λa f b d z=>h ?_];let⟨x,e,rfl⟩:=YV.mp f;rw[map_singleton,YR]at d;exact List.any_eq_true.mpr #[x,e,Zs (z.trans d)]
def aia{u:xl}{p:Str×Rat}(a:(u.map (·.1)).Nodup):((cz u p).map (·.1)).Nodup:=IG a
def acD(b a:xl):lE (b++a)=a.foldl cz (lE b):=foldl_append ..
def W5(G:xl):((lE G).map (·.1)).Nodup:=by
 suffices H:∀(G u:xl),(u.map (·.1)).Nodup->((G.foldl cz u).map (·.1)).Nodup from H G [] .nil
 intro G
 induction G with
 |nil=>exact λ_ h=>h
 |cons p G a=>exact λu h=>a _ (aia h)
def Rt(G:xl):(lE G).length<=G.length:=by
 suffices H:∀(G u:xl),(G.foldl cz u).length<=u.length+G.length from by simpa[lE]using H G []
 intro G
 induction G with
 |nil=>exact λ_=>aG _
 |cons p G a =>
  intro u;have b:(cz u p).length<=u.length+1:=by
   unfold cz;split
   .rw[ak];exact Xs _
   .rw[aA,length_singleton];exact aG _
  have:=a (cz u p);rw[foldl_cons,length_cons];lia
def Fh(G:xl):Prop:=∀b a c,G=b++a::c->Bq (DP (lE b) a.1)/\Bq a.2/\Bd (((DP (lE b) a.1).den:Int)*a.2.den)
def Fq(G:xl):xl:=(lE G).filter λp=>!decide (p.2=0)
def Bw:ST:=λa q=>∃G:xl,a=[.lst (G.map c4)]/\G.length<=1000/\Fh G/\q (.l1 ((Fq G).map c4))
def Lr(T:Tx D):gT 4 su jA Bw:=yB T.O8 Mg (λd _=>bG (gA 1 Km)
  (bG (cY (bZ vt) (dY (n:=2) (bO (bW (n:=99) 2) (bO (bW (n:=99) 3) cT)))
  (bI (KY 1 (yL d) (bJ (ahP T) (bA (IQ 1 (yL d) ve (mW T.lB T.ji)) (bA vi bC))) ve)))
  (bI (_Y 1 (bH o7) C_ ["pairs","chances","?room","chance"] ["room"] (dH (i:=0)) (FW (cg (mX d.units) (Ud (yL d) ve vt) (mW T.lB T.ji))) (d7 (bA vt (bA (Ud (yL d) ve vt) bC)))))))<|by
 rintro _ R ⟨G,rfl,v,r,q⟩;refine eF c4 G (λc o=>∃x y,o=[.fz (.lst (G.map c4)),.d1 (eP (lE c)) (fA (lE c)),x,y]) #[_,_,rfl] ?_ ?_
 .rintro c a C _ e ⟨x,y,rfl⟩;let⟨B,A,w⟩:=r c a C e;refine#[rfl,_,rfl,DP (lE c) a.1,a.2,ZH (λt=>[t,aa a.2]) (ahl (lE c) a.1),B,A,w,_,rfl,?_,.fz (.str a.1),.fz (aa a.2),?_]
  .have:=Rt c;have:c.length<=G.length:=by rw[e];simp
   rw[ak];exact Y3 (show _<=1000 by lia) vw
  .let⟨k,j⟩:=Sl (lE c) a (W5 c);rw[show lE (c++[a])=cz (lE c) a from by rw[acD];rfl,<- k,<- j]
   rfl
 .rintro _ ⟨x,y,rfl⟩;have l:=Rt G;refine#[%[ak|aL (show _<=1000 by exact aL l v) vw],?_];dsimp only;rw[show(eP (lE G)).map kT=(lE G).map λp=>.str p.1 from WU];refine jL (λp=>.str p.1) (λp=>!decide (p.2=0)) c4 (lE G) (λp m N M s u=>?_) ?_
  rotate_left
  .exact q
  have g:pO (eP (lE G)) (fA (lE G)) (.inr p.1)\(aa p.2):=by rw[Zx,II (W5 G) m rfl];rfl
  refine#[_,_,rfl,g,?_];have f:(decide (p.2.num=0)&&decide ((p.2.den:Int)=1))=decide (p.2=0):=by
   by_cases z:p.2=0
   .rw[z];decide
   .rw[Zp z,Zp λy=>z (Rat.num_eq_zero.mp y)];rfl
  refine er (λh=>#[_,_,rfl,g,s ?_]) λh=>u ?_
  .rw[<- h];exact ZH (λb=>!b) f.symm
  .rw[<- h];exact ZH (λb=>!b) f.symm
abbrev w6:Φ:=["name","pay","leads"]
abbrev gu(C:Addr)(n:Str)(p:Rat)(u:xl):T:=.ins C w6 [.str n,aa p,.lst (u.map c4)]
def Ul(D:ba):SI:=λC b a c R=>∃(n:Str)(p:Rat),b=[]/\a=[]/\bp D C/\c=[.str n,aa p]/\Wd n/\R w6 [.str n,aa p,.lst []]
def UG(T:Tx D):OkI P w K mg base bh 4 D.Door_init j8 (gk K (Ul D)):=yf T.Uy λF=>by
 refine F.okI R7 (λC j g m R f=>by let⟨n,p,_,_,_,e,_⟩:=f;exact e ▸ rfl) vw λo A b s H E k i=>?_;refine#[_,(bG (m7 (bJ (Qh T) (bA vn (bA ve bC))))
  (bG (uf (Fm:=bp D) 0 (λC h=>#[T.cl C h,T.Kz C h]) vn)
  (bG (uf (Fm:=bp D) 0 (λC h=>#[T.cl C h,T.aeP C h]) ve)
  (bI (uf (Fm:=bp D) 0 (λC h=>#[T.cl C h,T.Gv C h]) (dg bC)))))),?_]
 rintro a l C _ _ _ R ⟨n,p,rfl,rfl,c,rfl,d,q⟩;exact#[_,_,rfl,d,#[c,by decide],#[c,by decide],#[c,by decide],_,_,rfl,q]
def W8(D:ba):bp D D.Sure:=by simp[bp]
def acC(D:ba):bp D D.Mixed:=by simp[bp]
def ad5(D:ba):bp D D.Toss:=by simp[bp]
def afG(D:ba):bp D D.Even:=by simp[bp]
def NP(D:ba):bp D D.Hall:=by simp[bp]
def aaU(D:ba):SI:=λC b a c R=>∃(n m:Str)(p:Rat),b=[]/\a=[]/\bp D C/\c=[.str n,aa p,.str m]/\Wd n/\Wd m/\R w6 [.str n,aa p,.lst ([(m,1)].map c4)]
def Vb(T:Tx D):OkI P w K mg base bh 5 D.Sure_init nu (gk K (aaU D)):=yf T.RZ λF=>by
 refine F.okI Sv (λC k i r R g=>by let⟨n,p,_,_,_,_,e,_⟩:=g;exact e ▸ rfl) vw λt A b s H E l j=>?_;refine#[_,(bG (Kv 0 T.Ft (UG T) T.ae8 (bA vn (bA ve bC)))
  (bG (m7 (bJ (El T) (bA vi bC)))
  (bI (uf (Fm:=bp D) 0 (λC h=>#[T.cl C h,T.Gv C h]) (dg (bA (d7 (bA vi (bA (mW T.CV T.uP) bC))) bC)))))),?_]
 rintro a o C _ _ _ R ⟨n,m,p,rfl,rfl,c,rfl,d,f,q⟩;exact#[_,_,rfl,rfl,c,rfl,d,_,rfl,f,#[c,by decide],_,_,rfl,q]
structure m3(G:xl):Prop where
 few:G.length<=1000
 ok:∀p∈G,Wd p.1/\Ch p.2
 bd:Bd (d9 1 (G.map (·.2)):Nat)
 one:Ez (G.map (·.2))=1
 jb:Fh G
def Hs(D:ba):SI:=λC b a c R=>∃(n:Str)(p:Rat)(G:xl),b=[]/\a=[]/\bp D C/\c=[.str n,aa p,.lst (G.map c4)]/\Wd n/\m3 G/\R w6 [.str n,aa p,.lst ((Fq G).map c4)]
def Qm(T:Tx D):OkI P w K mg base bh 5 D.Mixed_init g8 (gk K (Hs D)):=yf T.Px λF=>by
 refine F.okI Qs (λC j g m R f=>by let⟨n,p,_,_,_,_,e,_⟩:=f;exact e ▸ rfl) vw λo A b s H E k i=>?_;refine#[_,(bG (Kv 0 T.Ft (UG T) T.ae8 (bA vn (bA ve bC)))
  (bG (m7 (bJ (Oh T) (bA vi bC)))
  (bI (uf (Fm:=bp D) 0 (λC h=>#[T.cl C h,T.Gv C h]) (bJ (Lr T) (bA vi bC)))))),?_]
 rintro a l C _ _ _ R ⟨n,p,G,rfl,rfl,c,rfl,d,h,q⟩;exact#[_,_,rfl,rfl,c,rfl,d,_,rfl,h.few,h.ok,h.bd,h.one,_,rfl,h.few,h.jb,#[c,by decide],_,_,rfl,q]
def abt(D:ba):SI:=λC b a d R=>∃(n x y:Str)(p c:Rat),b=[]/\a=[]/\bp D C/\d=[.str n,aa p,aa c,.str x,.str y]/\Wd n/\Ch c/\m3 [(x,c),(y,1-c)]/\R w6 [.str n,aa p,.lst ((Fq [(x,c),(y,1-c)]).map c4)]
def Vn(T:Tx D):OkI P w K mg base bh 6 D.Toss_init nq (gk K (abt D)):=yf T.S8 λF=>by
 refine F.okI Vl (λC l j r R g=>by let⟨n,_,_,p,_,_,_,_,e,_⟩:=g;exact e ▸ rfl) vw λt A b s H E m k=>?_;refine#[_,(bG (m7 (bJ (Qh T) (bA vn (bA ve bC))))
  (bG (m7 (bJ (JM T) (bA vi bC)))
  (bI (Kv 0 T.Dc (Qm T) T.R9 (bA vn (bA ve (bA (dg (bA (d7 (bA vF (bA vi bC))) (bA (d7 (bA vS (bA (bJ (p4 T) (bA (mW T.CV T.uP) (bA vi bC))) bC))) bC))) bC))))))),?_]
 rintro a o C _ _ _ R ⟨n,x,y,p,c,rfl,rfl,i,rfl,f,d,h,q⟩;refine#[_,_,rfl,f,_,rfl,d,1,c,rfl,iA,d.bq,?_,n,p,_,rfl,rfl,i,rfl,f,h,_,_,rfl,q];rw[show(((1:Rat).den:Nat):Int)*(c.den:Int)=(c.den:Int)from TZ _];exact d.2.2
def even(a:Φ):xl:=a.map λr=>(r,mkRat 1 a.length)
def Zk(h:0<n):aa (mkRat 1 n)=.tup [.int 1,.int (n:Nat)]:=by
 have:mkRat 1 n=#[1,n,by exact UZ h,by show Coprime 1 n;exact Nat.coprime_one_left n]:=by
  rw[Rat.mk_eq_divInt];rfl
 rw[this]
def abX(D:ba):SI:=λC c b d R=>∃(n:Str)(p:Rat)(a:Φ),c=[]/\b=[]/\bp D C/\d=[.str n,aa p,.lst (a.map T.str)]/\Wd n/\m3 (even a)/\R w6 [.str n,aa p,.lst ((Fq (even a)).map c4)]
def UJ(T:Tx D):OkI P w K mg base bh 6 D.Even_init m_ (gk K (abX D)):=yf T.Vm λ{Y}F=>by
 refine F.okI S6 (λC u o x R l=>by let⟨n,p,_,_,_,_,e,_⟩:=l;exact e ▸ rfl) vw λy A c s H E d t=>?_;refine#[_,(bI (Kv 0 T.Dc (Qm T) T.R9 (bA vn (bA ve (bA (cL (bH uz) Bb Bb ["room"] (bZ vi) (dH (i:=0)) cj (d7 (bA vt (bA (d7 (bA bF (bA (bQ cH T.dz WJ (bA vF bC)) bC))) bC)))) bC))))),?_];rintro a v C _ _ _ R ⟨n,p,b,rfl,rfl,m,rfl,j,h,q⟩;have k:b.length<=1000:=by have:=h.few;rwa[even,ak]at this
 refine#[%[ak|aL k vw],comp_map L2.T.str (λr=>c4 (r,mkRat 1 b.length)) b (λr d N M g=>?_) #[n,p,even b,rfl,rfl,m,?_,j,h,_,_,rfl,q]]
 .rw[show c4 (r,mkRat 1 b.length)=.tup [.str r,aa (mkRat 1 b.length)]from rfl,Zk (List.length_pos_of_mem d),<- ak (f:=L2.T.str)]at g;exact g
 .unfold even;rw[WU]
  rfl
def GK(D:ba):ST:=λa q=>∃(C:Addr)(n:Str)(p:Rat)(u:xl),a=[gu C n p u]/\bp D C/\q (.l1 (u.map c4))
def Vs(T:Tx D):gI 1 D.Door_ways m6 (GK D):=yf T.V_ λF=>by
 refine F.okT Vw (λ_ _=>bI (bR (qW FZ T.wV boot_list (bA (Dw (Fm:=bp D) (λC h=>#[T.cl C h,T.Gv C h]) vt) bC)))) ?_;rintro _ R ⟨C,n,p,u,rfl,a,q⟩;exact#[a,_,rfl,q]
structure bN where
 name:Str
 pay:Rat
 ways:xz
abbrev wp:=List bN
abbrev xN:=Option bN
abbrev xF:=List xN
abbrev xj:=List wp
abbrev cv(p:Nat×Rat):T:=.tup [.int (p.1:Nat),aa p.2]
abbrev dm(o:bN):T:=.tup [.str o.name,aa o.pay,.lst (o.ways.map cv)]
abbrev iu:Φ:=["share","numbers","offered"]
abbrev de(ns:Φ):xI:=ns.map Sum.inr
abbrev fg(ns:Φ):xk:=(range ns.length).map λk:Nat=>.int k
abbrev b7(D:ba)(s:Rat)(ns:Φ)(g:xj):T:=.ins D.Hall iu [aa s,.dct (de ns) (fg ns),.lst (g.map λl=>.lst (l.map dm))]
def Bk:ST:=λa q=>∃r:Rat,a=[aa r]/\0<=r/\r<1/\Bq r/\q (.fz .non)
def O2(T:Tx D):gT 3 rR jR Bk:=yB T.Qu LR (λ_ _=>bI (cB (QW.qt (iJ (dJ (cJ (bJ (XF T) (bA vt bC)))) (iJ (cJ (bJ (kc T) (bA vt (bA (mW T.lB T.ji) bC)))) (gD (dJ (cJ (bJ (kc T) (bA vt (bA (mW T.CV T.uP) bC)))))))))
  (bI gO)
  bV))<|by
 rintro _ R ⟨r,rfl,c,b,a,q⟩;refine#[_,rfl,r,0,rfl,a,kU,?_];rw[Zp (Rat.not_lt.mpr c)];refine#[r,1,rfl,a,iA,?_];rwa[Zs b]
def He(ns:Φ)(n:Str)(h:n∉ns):M_ (de ns) (.inr n)=false:=by
 unfold M_;rw[U1];exact List.any_eq_false.mpr λx a z=>h ((Sum.inr.inj (of_decide_eq_true z)) ▸ a)
theorem qA{Q:Type}(n:Str):∀(ns:Φ)(a:List Q),n∉ns->pO (de ns) a (.inr n)=none
 |[],_,_=>rfl
 |_::_,[],_=>rfl
 |m::ns,t::a,h=>by
  show(if(Sum.inr m:bo)=.inr n then some t else pO (de ns) a (.inr n))=none;rw[ZZ λz=>h %[Sum.inr.inj z|aO ..]];exact qA n ns a λz=>h (aJ _ z)
theorem Jh{Q:Type}{n:Str} : ∀{ns:Φ}{a:List Q}{k:Nat}{t:Q},ns.Nodup->ns[k]?\n->a[k]?\t->pO (de ns) a (.inr n)\t
 |[],_,_,_,_,e,_=>by cases e
 |m::ns,[],_,_,_,_,e=>by cases e
 |m::ns,u::a,k,t,f,d,c=>by
  let⟨h,g⟩:=List.nodup_cons.mp f;show(if(Sum.inr m:bo)=.inr n then some u else pO (de ns) a (.inr n))\t;cases k with
  |zero=>cases d;cases c;exact ZY rfl
  |succ k =>
   have b:ns[k]?\n:=↑d
   rw[ZZ λ(z:(Sum.inr m:bo)=.inr n)=>h %[Sum.inr.inj z|aC b]];exact Jh g b ↑c
def WN(ns:Φ)(n:Str)(h:n∉ns):eU (de ns) (.inr n)=de (ns++[n])/\d6 (de ns) (fg ns) (.inr n) (.int (ns.length:Nat))=fg (ns++[n]):=by
 unfold eU d6;rw[He ns n h];refine#[by rw[ZZ vw];simp[de],?_];rw[ZZ vw];simp only[fg,aA,length_singleton,range_succ,bf,map_singleton]
abbrev hH(p:Str×xk):T:=.tup [.str p.1,.lst p.2]
def CW:ST:=λb q=>∃a:List (Str×xk),b=[.lst (a.map hH)]/\a.length<=1000/\(∀p∈a,Wd p.1)/\(a.map (·.1)).Nodup/\q (.d1 (de (a.map (·.1))) (fg (a.map (·.1))))
def PK(T:Tx D):gT 2 vJ kY CW:=yB T.Ut Pb (λg _=>bG (gA 1 Km)
  (bG (cY (bZ vt) (bW (n:=99) 2)
  (bG (bT 3 (bK ve bF))
  (bG (cB (QW.qt (iJ (dJ (cJ (bJ (ZC T) (bA vi bC)))) (gD (Ih 1 (HP (yL g) vi vn)))))
  (bI gO)
  bV)
  (bI (KY 1 (yL g) (RQ 1 (bQ IS T.dz WJ (bA vn bC))) vi)))))
  (bI (gC 1))))<|by
 rintro _ R ⟨c,rfl,h,k,d,q⟩;refine eF hH c (λb o=>∃x y,o=[.fz (.lst (c.map hH)),.d1 (de (b.map (·.1))) (fg (b.map (·.1))),x,y]) #[_,_,rfl] ?_ ?_
 .rintro b a m _ e ⟨x,y,rfl⟩;have f:a.1∉b.map (·.1):=by
   rw[e,bf,map_cons]at d;exact λz=>(List.nodup_append.mp d).2.2 a.1 z a.1 (aO ..) rfl
  have l:b.length<=c.length:=by rw[e];simp
  refine#[_,rfl,k a (e ▸ by simp),_,rfl,?_];rw[qA a.1 _ _ f];refine#[trivial,_,rfl,%[ak,ak|Y3 (show _<=1000 by exact aL l h) vw],.fz (hH a),.fz (.str a.1),?_];let⟨j,i⟩:=WN (b.map (·.1)) a.1 f;rw[bf,map_singleton,<- j,<- i];simp only[ak]
  rfl
 .rintro _ ⟨x,y,rfl⟩;exact q
structure Lm(ns:Φ)(us:xz):Prop where
 few:us.length<=1000
 lt:∀p∈us,p.1<ns.length
abbrev WL(ns:Φ)(us:xz):xl:=us.map λp=>(ns.getD p.1 #[↥[]],p.2)
def vW(D:ba):ST:=λb q=>∃(C:Addr)(n:Str)(p:Rat)(ns:Φ)(a:xz),b=[gu C n p (WL ns a),.dct (de ns) (fg ns)]/\dW D C/\ns.Nodup/\Lm ns a/\q (.l1 (a.map cv))
def Jg(T:Tx D):gT 2 oO iy (vW D):=yB T.JX Ia (λh _=>bG (gA 2 (dg bC))
  (bG (cY (bZ (QE.any λC(c:dW D C)=>sU vt (T.cl C c.fam) (T.Vr C c) (Vs T) (KS:=w6))) (dY (n:=2) (bO (bW (n:=99) 3) (bO (bW (n:=99) 4) cT)))
  (bG (cB (acy (yL h) vi vn)
  (bI gO)
  bV)
  (bI (pZ 2 (d7 (bA (Ud (yL h) vn vi) (bA vF bC)))))))
  (bI (gC 2))))<|by
 rintro _ R ⟨C,n,p,ns,b,rfl,c,j,g,q⟩;refine#[C,c,#[rfl,rfl],C,n,p,_,rfl,c.fam,?_];show vV _ _ _ (List.map c4 (WL ns b)) _;rw[show(WL ns b).map c4=b.map λp=>c4 (ns.getD p.1 #[↥[]],p.2)from WU];refine eF (λp=>c4 (ns.getD p.1 #[↥[]],p.2)) b (λf o=>∃x y,o=[.fz (gu C n p (WL ns b)),.fz (.dct (de ns) (fg ns)),.l1 (f.map cv),x,y]) #[_,_,rfl] ?_ ?_
 .rintro f a m _ e ⟨x,y,rfl⟩;have lt:=g.lt a (e ▸ by simp);have l:f.length<b.length:=by rw[e];simp
  have d:=g.few;have k:ns[a.1]?\(ns.getD a.1 #[↥[]]):=by rw[au,aj lt];rfl
  have i:pO (de ns) (fg ns) (.inr (ns.getD a.1 #[↥[]]))\(.int (a.1:Nat)):=Jh j k (by rw[aq,VY lt];rfl);refine#[rfl,_,rfl,?_];rw[i];refine#[_,_,rfl,i,%[ak|Y3 (show _<=1000 by exact aL (Y2 l) d) vw],.fz (.str (ns.getD a.1 #[↥[]])),.fz (aa a.2),?_];rw[bf]
  rfl
 .rintro _ ⟨x,y,rfl⟩;exact q
structure Made where
 cls:Addr
 of:bN
abbrev wa:=List (List Made)
abbrev fh(ns:Φ)(m:Made):T:=gu m.cls m.of.name m.of.pay (WL ns m.of.ways)
structure Lo(D:ba)(ns:Φ)(l:List Made):Prop where
 few:l.length<=1000
 cls:∀m∈l,dW D m.cls
 ways:∀m∈l,Lm ns m.of.ways
 nd:(l.map λm=>m.of.name).Nodup
def ahp(ns:Φ)(n:Str)(h:n∉ns):eU (de ns) (.inr n)=de (ns++[n])/\d6 (de ns) (ns.map λ_=>L2.T.bl true) (.inr n) (.bl true)=(ns++[n]).map λ_=>L2.T.bl true:=by
 unfold eU d6;rw[He ns n h];refine#[by rw[ZZ vw];simp[de],?_];rw[ZZ vw];simp
def Er(D:ba):ST:=λa q=>∃(ns:Φ)(l:List Made),a=[.lst (l.map (fh ns)),.dct (de ns) (fg ns)]/\ns.Nodup/\Lo D ns l/\q (.l1 (l.map λm=>dm m.of))
def V2(T:Tx D):gT 3 xq ou (Er D):=yB T.Xf Tw (λj _=>bG (gA 2 Km)
  (bG (gA 3 (dg bC))
  (bG (cY (bZ vt) (bW (n:=99) 4)
  (bG (cB (Ih 2 (HP (yL j) (Dw (Fm:=bp D) (λC h=>#[T.cl C h,T.Kz C h]) vF) ve))
  (bI gO)
  bV)
  (bG (KY 2 (yL j) fH (Dw (Fm:=bp D) (λC h=>#[T.cl C h,T.Kz C h]) vF))
  (bI (pZ 3 (d7 (bA (Dw (Fm:=bp D) (λC h=>#[T.cl C h,T.Kz C h]) vF) (bA (Dw (Fm:=bp D) (λC h=>#[T.cl C h,T.aeP C h]) vF) (bA (bJ (Jg T) (bA vF (bA vn bC))) bC)))))))))
  (bI (gC 3)))))<|by
 rintro _ R ⟨ns,l,rfl,f,hd,q⟩;refine eF (fh ns) l (λb o=>∃x,o=[.fz (.lst (l.map (fh ns))),.fz (.dct (de ns) (fg ns)),.d1 (de (b.map λm=>m.of.name)) ((b.map λm=>m.of.name).map λ_=>.bl true),.l1 (b.map λm=>dm m.of),x]) #[_,rfl] ?_ ?_
 .rintro b a s _ e ⟨x,rfl⟩;have g:a.of.name∉b.map λm=>m.of.name:=by
   have f:=hd.nd;rw[e,bf,map_cons]at f;exact λz=>(List.nodup_append.mp f).2.2 _ z _ (aO ..) rfl
  have k:b.length<l.length:=by rw[e];simp
  have d:=hd.few;have i:a∈l:=e ▸ by simp
  have c:=hd.cls a i;refine#[c.fam,_,rfl,_,rfl,?_];rw[qA _ _ _ g];refine#[c.fam,_,rfl,_,rfl,%[ak,ak|Y3 (show _<=1000 by exact aL (Y2 k) d) vw],c.fam,_,rfl,c.fam,_,rfl,_,_,_,ns,a.of.ways,rfl,c,f,hd.ways a i,%[ak|Y3 (show _<=1000 by exact aL (Y2 k) d) vw],.fz (fh ns a),?_];let⟨r,p⟩:=ahp (b.map λm=>m.of.name) a.of.name g;rw[show(b++[a]).map (λm=>m.of.name)=b.map (λm=>m.of.name)++[a.of.name]from bf,<- r,<- p,bf]
  rfl
 .rintro _ ⟨x,rfl⟩;exact q
structure E5(D:ba)(ns:Φ)(ac:wa):Prop where
 len:ac.length=ns.length
 few:ns.length<=1000
 wd:∀n∈ns,Wd n
 nd:ns.Nodup
 mds:∀l∈ac,Lo D ns l
abbrev DR(ns:Φ)(ac:wa):xk:=(ns.zip ac).map λp=>hH (p.1,p.2.map (fh ns))
abbrev fR(ac:wa):xj:=ac.map λl=>l.map λm=>m.of
def aa6(D:ba):SI:=λC c b d R=>∃(s:Rat)(ns:Φ)(a:wa),C=D.Hall/\c=[]/\b=[]/\d=[aa s,.lst (DR ns a)]/\0<=s/\s<1/\Bq s/\E5 D ns a/\R iu [aa s,.dct (de ns) (fg ns),.lst ((fR a).map λl=>.lst (l.map dm))]
def Vu(T:Tx D):OkI P w K mg base bh 4 D.Hall_init n_ (gk K (aa6 D)):=yf T.Vh λF=>by
 refine F.okI S7 (λC I B O R y=>by let⟨n,p,_,_,_,_,e,_⟩:=y;exact e ▸ rfl) vw λQ A g s H E J G=>?_;refine#[_,(bG (m7 (bJ (O2 T) (bA vn bC)))
  (bG (uf (Fm:=bp D) 0 (λC h=>#[T.cl C h,T.ae2 C h]) vn)
  (bG (uf (Fm:=bp D) 0 (λC h=>#[T.cl C h,T.DX C h]) (bJ (PK T) (bA ve bC)))
  (bI (uf (Fm:=bp D) 0 (λC h=>#[T.cl C h,T.N7 C h]) (cL (bH ux) zu zu ["room"] (bZ ve) (dH (i:=0)) cj (bJ (V2 T) (bA (bK vt bF) (bA (ail (Fm:=bp D) 1 (λC h=>#[T.cl C h,T.DX C h])) bC))))))))),?_]
 rintro a L C _ _ _ R ⟨s,ns,b,rfl,rfl,rfl,rfl,u,t,r,h,q⟩;have f:(ns.zip b).map (·.1)=ns:=List.map_fst_zip (by have:=h.len;exact WG (Eq.symm this));have o:(ns.zip b).map (·.2)=b:=List.map_snd_zip (by have:=h.len;exact WG this);have k:(ns.zip b).length=ns.length:=%[VZ,h.len,VQ|_]
 have d:=NP D;have c:=h.few;refine#[_,rfl,u,t,r,#[d,by decide],(ns.zip b).map λp=>(p.1,p.2.map (fh ns)),by rw[WU];rfl,%[ak,k|c],λp j=>?_,?_,#[d,by decide],?_]
 .let⟨x,v,rfl⟩:=YV.mp j;exact h.wd x.1 (f ▸ YV.mpr #[x,v,rfl])
 .rw[WU];exact f.symm ▸ h.nd
 .rw[show((ns.zip b).map λp=>(p.1,p.2.map (fh ns))).map (·.1)=ns from List.map_map.trans f];refine#[%[ak,k|aL c vw],comp_map (λp=>hH (p.1,p.2.map (fh ns))) (λp=>.lst (p.2.map λm=>dm m.of)) (ns.zip b) (λp j N M z=>?_) #[#[d,by decide],_,_,rfl,?_]]
  .exact#[d,_,rfl,ns,p.2,rfl,h.nd,h.mds p.2 (o ▸ YV.mpr #[p,j,rfl]),z]
  .have:(ns.zip b).map (λp=>L2.T.lst (p.2.map λm=>dm m.of))=(fR b).map λl=>.lst (l.map dm):=by
    rw[show(fR b).map (λl=>L2.T.lst (l.map dm))=b.map λl=>.lst (l.map λm=>dm m.of)from by simp[fR,WU,Function.comp_def]]
    conv=>rhs;rw[<- o,WU]
    rfl
   rw[<- this]at q;exact q
structure Fz(ns:Φ)(g:xj):Prop where
 len:g.length=ns.length
 few:ns.length<=1000
 fews:∀l∈g,l.length<=1000
def iV(D:ba):ST:=λa q=>∃(s:Rat)(ns:Φ)(g:xj),a=[b7 D s ns g]/\q (.fz (.int (ns.length:Nat)))
def Uh(T:Tx D):gI 1 D.Hall_size fD (iV D):=yf T.Sx λ{Y}F=>by
 refine F.okT Sg (λ_ _=>bI (bR (bQ IS T.dz WJ (bA (Dw (Fm:=bp D) (λC h=>#[T.cl C h,T.DX C h]) vt) bC)))) ?_;rintro _ R ⟨s,ns,g,rfl,q⟩;refine#[NP D,_,rfl,?_];rw[<- ak (f:=(Sum.inr:Str->bo))]at q;exact q
def uU(D:ba):ST:=λa q=>∃(s:Rat)(ns:Φ)(g:xj)(k:Nat),a=[b7 D s ns g,.int k]/\k<ns.length/\q (.fz .non)
def P0(T:Tx D):gI 2 D.Hall_check_room dN (uU D):=yf T.rF λF=>by
 refine F.okT tY (λ_ _=>bI (cB (QW.qt (iJ (dJ (cJ (bJ (XJ T) (bA vn bC)))) (gD (dJ (MF Q_ CQ bF vn (sU vt T.gB T.j_ (Uh T) (KS:=iu)))))))
  (bI gO)
  bV)) ?_
 rintro _ R ⟨s,ns,g,k,rfl,a,q⟩;refine#[_,_,rfl,rfl,#[rfl,rfl],_,_,_,rfl,?_];show sw (!decide ((k:Int)<(ns.length:Nat))) _ _;rwa[Zs (show(k:Int)<(ns.length:Nat)by lia)]
def qY(D:ba):ST:=λa q=>∃(s:Rat)(ns:Φ)(g:xj)(k:Nat)(l:wp),a=[b7 D s ns g,.int k]/\Fz ns g/\g[k]?=some l/\q (.l1 (l.map dm))
def cQ{l:List Q}{h:Q->T}{a:Q}(e:l[k]?\a):c3 (l.map h) (k:Nat)\(h a):=by
 show ef (l.map h) k=_;rw[vB,aq,e];rfl
def kf(T:Tx D):gI 3 D.Hall_offers eN (qY D):=yf T.L_ λF=>by
 refine F.okT Nt (λ_ _=>bG (m7 (yj vt T.gB T.lZ (P0 T) (bA vn bC) (KS:=iu)))
  (bI (bR (cL (bH pA) vD vD ["name","pay","numbered"] (bZ (bK (Dw (Fm:=bp D) (λC h=>#[T.cl C h,T.N7 C h]) vt) vn)) (dY (n:=3) (bO (dH (i:=0)) (bO (dH (i:=1)) (bO (dH (i:=2)) cT)))) cj (d7 (bA vt (bA vn (bA (qW FZ T.wV boot_list (bA ve bC)) bC)))))))) ?_
 rintro _ R ⟨s,ns,g,k,l,rfl,h,e,q⟩;have a:k<ns.length:=%[<- h.len|(ao.mp e).1]
 refine#[#[rfl,rfl],s,ns,g,k,rfl,a,NP D,_,rfl,.lst (l.map dm),cQ (h:=λl=>L2.T.lst (l.map dm)) e,%[ak|aL (h.fews l (aC e)) vw],comp_map dm dm l (λo _ N M b=>#[rfl,b]) q]
def aeL(m:Nat):vj:=(range m).map λi=>(range m).map λj=>aa (if j=i then 1 else 0)
def Av:ST:=λa q=>∃m:Nat,a=[.int m]/\m<=100/\q (.l2 (aeL m))
def K_(T:Tx D):gT 1 tH jT Av:=yB T.Pu Ng (λc _=>bI (bR (afv (bH lF) lA lA "row" (c7 T.eG (bA vt bC)) EZ cj (IM (bH lF) ("row"::lA) ("row"::lA) ["column"] (c7 T.eG (bA vn bC)) (dH (i:=0)) cj (Ho (cg (z4 c.units) vt vn) (mW T.CV T.uP) (mW T.lB T.ji))))))<|by
 rintro _ R ⟨m,rfl,h,q⟩;have sz:(100:Nat)<=sizeLine:=by decide
 have b:(rng 0 m).length<=sizeLine:=%[rng,ak,WP|aL h sz]
 refine#[#[by lia,by lia],b,W9 (λi=>(range m).map λj=>aa (if j=i then 1 else 0)) m (λi f N M a=>#[#[by lia,by lia],b,Hg (λj=>aa (if j=i then 1 else 0)) m (λj d N M a=>?_) a]) q];by_cases e:j=i
 .rw[ZY e]at a;exact dI (Zs vy) a
 .rw[ZZ e]at a;exact cR (Zp vy) a
def dT:xS->T
 |none=>.non
 |some d=>.int d
def uq:xS->Nat->Bool
 |none,n=>decide (n=0)
 |some d,n=>decide (d<n)
structure PlT(g:xj)(v:zI):Prop where
 len:v.length=g.length
 ok:∀(k:Nat)(d:xS)(l:wp),v[k]?\d->g[k]?\l->uq d l.length=true
def abA:ST:=λa q=>∃(d:xS)(n:Nat),a=[dT d,.int n]/\q (.fz (.bl (uq d n)))
def _V(T:Tx D):gT 2 Wb EY abA:=yB T.alN aio (λa _=>bG (cB (cg (z4 a.units) vn bF)
  (bI (bR (kh yc vt fW)))
  bV)
  (bI (bR (vp (bJ (XJ T) (bA vt bC)) (Bt (W6 Q_ CQ bF vt vn))))))<|by
 rintro _ R ⟨d,n,rfl,q⟩;by_cases e:n=0
 .subst e;cases d with
  |none=>exact q
  |some d=>exact q
 .refine cR (Zp vy) ?_;cases d with
  |none =>
   rw[show uq none n=false from Zp e]at q;exact#[_,_,rfl,rfl,q]
  |some d =>
   rw[show uq (some d) n=decide ((d:Int)<(n:Int))from decide_eq_decide.mpr (by omega)]at q;exact#[_,_,rfl,rfl,q]
def Dp(D:ba):ST:=λa q=>∃(s:Rat)(ns:Φ)(g:xj)(v:zI),a=[b7 D s ns g,.lst (v.map dT)]/\Fz ns g/\PlT g v/\q (.fz (.bl true))
def Qt(T:Tx D):gT 4 vh k_ (Dp D):=yB T.Sd PJ (λf _=>bG (cB (QW.qt (iJ (dJ (cJ (oW .list vn T.dO T.wV boot_list))) (gD (cg (mX f.units) (bQ cH T.dz WJ (bA vn bC)) (sU vt T.gB T.j_ (Uh T) (KS:=iu))))))
  (bI gO)
  bV)
  (bG (cY (qO T.gR (bA vn bC)) (dY (n:=2) (bO (bW (n:=99) 2) (bO (bW (n:=99) 3) cT)))
  (bI (cB (dJ (cJ (bJ (_V T) (bA vi (bA (bQ cH T.dz WJ (bA (yj vt T.gB T.jF (kf T) (bA ve bC) (KS:=iu)) bC)) bC)))))
  (bI gO)
  bV)))
  (bI (bR fH))))<|by
 rintro _ R ⟨s,ns,g,v,rfl,h,a,q⟩;refine#[#[rfl,rfl],_,_,_,rfl,cR ?_ ?_]
 .show xr true (decide ((((v.map dT).length:Nat):Int)=(ns.length:Nat)))=false;rw[ak,a.len,h.len,Zs rfl]
  rfl
 .refine q_ dT v (λk o=>∃x y,o=[.fz (b7 D s ns g),.fz (.lst (v.map dT)),x,y]) #[_,_,rfl] ?_ ?_
  .rintro k d _ e ⟨x,y,rfl⟩;have c:k<g.length:=%[<- a.len|(ao.mp e).1]
   have b:=aj c;refine#[rfl,#[rfl,rfl],_,_,_,k,_,rfl,h,b,d,(g[k]).length,?_,?_]
   .show[dT d,L2.T.int ((((g[k]).map dm).length:Nat):Int)]=_;rw[ak]
   .rw[a.ok k d _ e b];exact#[_,_,rfl]
  .rintro _ ⟨x,y,rfl⟩;exact q
def bB(g:xj)(v:zI):xF:=v.zipIdx.map λp=>p.1.bind λd=>(g.getD p.2 [])[d]?
def dS:xN->T
 |none=>.non
 |some o=>dm o
def yO(D:ba):ST:=λa q=>∃(s:Rat)(ns:Φ)(g:xj)(v:zI),a=[b7 D s ns g,.lst (v.map dT)]/\Fz ns g/\PlT g v/\q (.l1 ((bB g v).map dS))
def JF(T:Tx D):gT 4 ql iY (yO D):=yB T.K8 Ke (λ_ _=>bI (bR (cL (bH nY) rQ rQ ["room","door"] (qO T.gR (bA vn bC)) (dY (n:=2) (bO (dH (i:=0)) (bO (dH (i:=1)) cT))) cj (Ho (cg yc vn fW) fW (bK (yj ve T.gB T.jF (kf T) (bA vt bC) (KS:=iu)) vn)))))<|by
 rintro _ R ⟨s,ns,g,v,rfl,h,f,q⟩;refine#[by unfold uh;rw[ak,Tu,ak,f.len,h.len];exact aL h.few vw,?_];rw[Nj];refine comp_map (λp=>.tup [.int (p.2:Nat),dT p.1]) (λp=>dS (p.1.bind λd=>(g.getD p.2 [])[d]?)) v.zipIdx (λp m N M c=>#[rfl,?a]) ?b
 case b =>
  unfold bB at q;rw[WU]at q;exact q
 case a =>
  let⟨d,k⟩:=p;have e:=List.mem_zipIdx_iff_getElem?.mp m;have l:k<g.length:=%[<- f.len|(ao.mp e).1]
  have j:=aj l;have r:g.getD k []=g[k]:=by rw[au,j];rfl
  have o:=f.ok k d _ e j;cases d with
  |none=>exact c
  |some d =>
   have H:d<(g[k]).length:=of_decide_eq_true o;have c:N (dS ((g.getD k [])[d]?)):=c;rw[r,aj H]at c;exact#[#[rfl,rfl],_,_,_,k,_,rfl,h,j,_,cQ (aj H),c]
open Rw (vr jG jo pK bb iT iQ vf nG Big sZ lD oX lW oY gP)
abbrev du:=List Int×Int
abbrev xa:=List du
abbrev cb(r:du):T:=.tup [.lst (r.1.map T.int),.int r.2]
def NN:Nat:=10^600
def oR{i:Int}(h:i.natAbs<=NN*NN*NN):Bd i:=Y3 h (by decide +kernel)
def dy{i:Int}(h:i.natAbs<=NN):Bd i:=oR (aL h (by decide +kernel))
def lv{i:Int}(h:i.natAbs<=NN*NN):Bd i:=oR (aL h (by decide +kernel))
def k6{b:Int}(d:a.natAbs<=m)(c:b.natAbs<=n):(a*b).natAbs<=m*n:=%[VT|VS d c]
def vQ{b:Int}(h:0<b):fdiv a b=a/b:=mu _ (XY h)
def Iv:ST:=λa q=>∃r:du,a=[.lst (r.1.map T.int),.int r.2]/\0<r.2/\Bd r.2/\r.1.length<=1000/\q (.fz (cb (jG r)))
def IA(T:Tx D):gT 2 Cj rA Iv:=yB T.ad0 acI (λ_ _=>bG (bT 2 vn)
  (bG (cY (bZ vt) (bW (n:=99) 3)
  (bI (bT 2 (bJ (kn T) (bA vi (bA ve bC))))))
  (bI (bR (d7 (bA (cL (bH Hl) XR ["tops","bottom","common","?top"] ["top"] (bZ vt) (dH (i:=0)) cj (bM mq vt vi)) (bA (bM mq vn ve) bC)))))))<|by
 rintro _ R ⟨⟨tops,b⟩,rfl,c,g,h,q⟩;have c:0<b:=c;have g:Bd b:=g;refine eF L2.T.int tops (λf o=>∃x,o=[.fz (.lst (tops.map L2.T.int)),.fz (.int b),.fz (.int (bb f b)),x]) #[_,rfl] ?_ ?_
 .rintro f a l _ e ⟨x,rfl⟩;refine#[_,_,rfl,.fz (.int a),?_];rw[show bb (f++[a]) b=((Int.gcd a (bb f b):Nat):Int)from by unfold bb;rw[foldl_append];rfl]
  rfl
 .rintro _ ⟨x,rfl⟩;have d:=iT (ts:=tops) c;have g1:Bd (bb tops b):=QD (by have:=vf (ts:=tops) c;omega) g;refine#[%[ak|aL h vw],comp_map L2.T.int (λt=>.int (t/bb tops b)) tops (λt k N M j=>#[#[by exact WS d,g1],?_]) #[#[by exact WS d,g1],?_]]
  .rw[vQ d];exact j
  .rw[vQ d];have:(jG (tops,b)).1.map L2.T.int=tops.map λt=>.int (t/bb tops b):=WU;rwa[<- this]
structure Fn(c:Rat):Prop where
 n:c.num.natAbs<=NN
 d:c.den<=NN
abbrev pr(c:Rat):Int×Int:=(c.num,c.den)
def Ep:ST:=λa q=>∃(r:du)(c:Rat),a=[cb r,aa c]/\Big NN r/\r.1.length<=1000/\Fn c/\q (.fz (cb (jG (jo r (pr c)))))
def T_(T:Tx D):gT 3 xV m5 Ep:=yB T.XD VG (λ_ _=>bI (bR (bJ (IA T) (bA (cL (bH um) yX yX ["top"] (bZ (bK vt bF)) (dH (i:=0)) cj (bM cN vt (bK ve bF))) (bA (bM cN (bK vt bF) (bK vn bF)) bC)))))<|by
 rintro _ R ⟨r,c,rfl,a,b,e,q⟩;have:=c.den_pos;have f:((c.den:Nat):Int).natAbs<=NN:=e.d;refine#[%[ak|aL b vw],comp_map L2.T.int (λt=>.int (t*c.num)) r.1 (λt g N M h=>#[#[dy (a.top t g),dy e.n],h]) #[#[dy a.bot,dy f],jo r (pr c),?_,XZ a.pos (show(0:Int)<(c.den:Nat)by lia),lv (k6 a.bot f),by show(r.1.map _).length<=1000;rw[ak];exact b,q]];show _=[L2.T.lst ((r.1.map λt=>t*c.num).map L2.T.int),.int (r.2*c.den)];rw[WU]
 rfl
def Jp:ST:=λa q=>∃(r o:du)(c:Rat),a=[cb r,cb o,aa c]/\Big NN r/\Big NN o/\r.1.length<=1000/\o.1.length=r.1.length/\Fn c/\q (.fz (cb (jG (pK r o (pr c)))))
def X_(T:Tx D):gT 3 Bf pP Jp:=yB T.ZR Jm (λ_ _=>bG (bT 3 (bM cN (bK vn bF) (bK ve bF)))
  (bG (bT 4 (bJ (kn T) (bA (bK vt bF) (bA vi bC))))
  (bG (bT 5 (bM mq vi vF))
  (bG (bT 6 (bM cN (bM mq (bK vt bF) vF) (bK ve bF)))
  (bG (oA (bH yx) Ea Ea ["one","another"] (Im T.OD (bA (bK vt bF) (bA (bK vn bF) bC))) (dY (n:=2) (bO (dH (i:=0)) (bO (dH (i:=1)) cT))) cj (bM dB (bM cN vt (qv 7)) (bM cN vn (qv 8))) (gU (i:=7) Jm.nd rfl (Or.inl rfl)))
  (bI (bR (bJ (IA T) (bA (qv 7) (bA (bM cN (bK vt bF) vS) bC))))))))))<|by
 rintro _ R ⟨r,o,c,rfl,b,f,u,j,g,q⟩;have:=c.den_pos;have t:((c.den:Nat):Int).natAbs<=NN:=g.d;have l:0<o.2*(c.den:Int):=XZ f.pos vy;have w:=k6 f.bot t;have e:=o9 (a:=r.2) (WS l);have gr:((Int.gcd r.2 (o.2*(c.den:Int)):Nat):Int)≠0:=by exact WS e
 have x:Int.gcd r.2 (o.2*(c.den:Int))<=r.2.natAbs:=UY (by have:=b.pos;omega) (Int.gcd_dvd_natAbs_left ..);have m:Bd ((Int.gcd r.2 (o.2*(c.den:Int)):Nat):Int):=dy (by have:=b.bot;lia);have h:(o.2*(c.den:Int)/((Int.gcd r.2 (o.2*(c.den:Int)):Nat):Int)).natAbs<=NN*NN:=aL (Int.natAbs_ediv_le_natAbs _ _) w;have s:(r.2/((Int.gcd r.2 (o.2*(c.den:Int)):Nat):Int)).natAbs<=NN:=aL (Int.natAbs_ediv_le_natAbs _ _) b.bot;refine#[#[dy f.bot,dy t],_,_,rfl,#[gr,m],#[gr,m],#[%[vQ e|dy s],dy g.n],?_];rw[vQ e,vQ e];refine#[by unfold G3;rw[ak,VZ,ak,ak,j,VQ];exact aL u vw,?_];rw[zip_map];refine comp_map (λp=>.tup [.int p.1,.int p.2]) (λp=>.int (p.1*(o.2*(c.den:Int)/((Int.gcd r.2 (o.2*(c.den:Int)):Nat):Int))+p.2*(r.2/((Int.gcd r.2 (o.2*(c.den:Int)):Nat):Int)*c.num))) (r.1.zip o.1) (λp k N M v=>#[rfl,#[dy (b.top _ (UX k).1),lv h],#[dy (f.top _ (UX k).2),lv (k6 s g.n)],v]) #[#[dy b.bot,lv h],pK r o (pr c),?_,?_,oR ?_,?_,q]
 .show _=[L2.T.lst ((zipWith _ r.1 o.1).map L2.T.int),_];rw[map_zipWith,List.zip,map_zipWith]
  rfl
 .exact XZ b.pos (mz l (XY e) (JJ ..))
 .rw[Nat.mul_assoc];exact k6 b.bot h
 .show(zipWith _ r.1 o.1).length<=1000;rwa[TR,j,VQ]
open Rw (vr jG jo pK bb iT iQ vf nG Big sZ lD oX lW oY gP)
inductive i5 where
 |swap (i j:Nat)|times (i:Nat) (c:Rat)|add (i j:Nat) (c:Rat)
def hE:i5->T
 |.swap i j=>.tup [.str "swap",.int i,.int j]
 |.times i c=>.tup [.str "times",.int i,aa c]
 |.add i j c=>.tup [.str "add",.int i,.int j,aa c]
def ae(h:xa)(i:Nat):du:=h.getD i ([],1)
def zM(h:xa):i5->xa
 |.swap i j=>(h.set i (ae h j)).set j (ae h i)
 |.times i c=>h.set i (jG (jo (ae h i) (pr c)))
 |.add i j c=>h.set i (jG (pK (ae h i) (ae h j) (pr c)))
def DM(n:Nat):i5->Prop
 |.swap i j=>i<n/\j<n
 |.times i c=>i<n/\Fn c
 |.add i j c=>i<n/\j<n/\Fn c
def Cw{h:xa}(a:i<h.length):h[i]?\(ae h i):=by
 unfold ae;rw[au,aj a];rfl
def fX{h:xa}(a:i<h.length):ae h i∈h:=aC (Cw a)
def vL(h:i<n):dj n ((i:Nat):Int)\i:=by
 unfold dj;rw[ZY (X9 _),ZY vy];rfl
def wY{h:xa}(a:i<h.length):c3 (h.map cb) ((i:Nat):Int)\(cb (ae h i)):=cQ (Cw a)
structure Rws(h:xa)(O:Nat):Prop where
 big:∀r∈h,Big NN r
 wds:∀r∈h,r.1.length=O
 few:h.length<=100
 wde:O<=1000
def Gq:SO:=λb a R=>∃(h:xa)(p:i5)(O:Nat),b=[h.map cb]/\a=[hE p]/\Rws h O/\DM h.length p/\R [(zM h p).map cb]
def Um(T:Tx D):OkF P w K mg base 4 w5 nU (gj K Gq):=ya T.Xw λF=>by
 refine F.okO Vx (λv o R #[h,p,O,u,t,_]=>by rw[u,t];rfl) vw λB A f s H E k z=>?_;refine#[_,(bG (bT 2 (uN 0 (bK vn bF)))
  (bI (cB (cg (z4 k.units) (bK vn bF) vm)
  (bG (pY 0 (uN 0 (bK vn bF)) (bK vn bF))
  (bI (pY 0 ve (bK vn bF))))
  (bI (cB (cg (z4 k.units) (bK vn bF) vm)
  (bI (pY 0 (bJ (T_ T) (bA ve (bA (bK vn bF) bC))) (bK vn bF)))
  (bI (pY 0 (bJ (X_ T) (bA ve (bA (uN 0 (bK vn bF)) (bA (bK vn bF) bC)))) (bK vn bF)))))))),?_]
 rintro l v o R r ⟨h,p,O,rfl,rfl,b,I,q⟩;obtain⟨a,rfl⟩ : ∃a,l=[a]:=by
  match l,r with
  |[a],_=>exact#[a,rfl]
 have d:∀(L:List L2.T)(x y:OT),R [L]->∃g,(∀j,slot [.la a L,x,y] j=slot (zipWith OT.la [a] g) j\/[a].length<=j)/\g.length=[a].length/\R g:=λL x y q=>#[[L],λj=>by
  cases j with
  |zero=>exact .inl rfl
  |succ j=>exact .inr vc,rfl,q]
 have e:(h.map cb).length=h.length:=ak _
 match p,I,q with
 |.swap i j,I,q =>
  refine#[_,wY I.1,_,wY I.2,i,vL (e ▸ I.1),j,vL %[WH,e|I.2],d _ _ _ ?_];rw[zM,UH,UH]at q;exact q
 |.times i c,I,q =>
  have m:=fX I.1;refine#[_,wY I.1,ae h i,c,rfl,b.big _ m,%[b.wds _ m|b.wde],I.2,i,vL (e ▸ I.1),d _ _ _ ?_];rw[zM,UH]at q;exact q
 |.add i j c,I,q =>
  have m:=fX I.1;have n:=fX I.2.1;refine#[_,wY I.1,_,wY I.2.1,ae h i,ae h j,c,rfl,b.big _ m,b.big _ n,%[b.wds _ m|b.wde],%[b.wds _ m,b.wds _ n|_],I.2.2,i,vL (e ▸ I.1),d _ _ _ ?_];rw[zM,UH]at q;exact q
open Rw (vr jG jo pK bb iT iQ vf nG Big sZ lD oX lW oY gP)
def xZ:ST:=λa q=>∃(r:du)(k:Nat),a=[cb r,.int k]/\k<r.1.length/\Big NN r/\q (.fz (aa (vr r k)))
def Vf(T:Tx D):gT 3 qG j4 xZ:=yB T.Wm Uu (λ_ _=>bI (bR (bJ (hD T) (bA (bK (bK vt bF) vn) (bA (bK vt bF) bC)))))<|by
 rintro _ R ⟨r,k,rfl,b,a,q⟩;have c:=a.pos;refine#[_,cQ (aj b),_,_,rfl,by exact WS c,dy a.bot,λx y l=>?_];rw[jV l (WS c),TW];unfold vr at q;rw[au,aj b]at q;exact q
def yG:ST:=λa q=>∃(h:xa)(O:Nat),a=[.lst (h.map cb)]/\Rws h O/\q (.l1 (h.map λr=>.lst ((range O).map λk=>aa (vr r k))))
def Kl(T:Tx D):gT 3 qu jh yG:=yB T.Nu Kh (λ_ _=>bI (bR (ahS (bH jD) jw jw "row" (bZ vt) EZ cj (IM (bH jD) ("row"::jw) ("row"::jw) ["top"] (bZ (bK vt bF)) (dH (i:=0)) cj (bJ (hD T) (bA vt (bA (bK vn bF) bC)))))))<|by
 rintro _ R ⟨h,O,rfl,a,q⟩;refine#[%[ak|aL a.few vw],comp_map cb (λr=>.lst ((range O).map λk=>aa (vr r k))) h (λr b N M g=>#[%[ak,a.wds r b|aL a.wde vw],?_]) q];have c:=a.big r b;have f:=c.pos;refine comp_map L2.T.int (λt=>aa ((t:Rat)/(r.2:Rat))) r.1 (λt j N M g=>#[_,_,rfl,by exact WS f,dy c.bot,λx y l=>by rwa[jV l (WS f),TW]]) ?_;have e:(r.1.map λt:Int=>aa ((t:Rat)/(r.2:Rat)))=(range O).map λk=>aa (vr r k):=by
  refine UU %[ak,ak,WP,a.wds r b|_] λn d m=>?_;rw[ak]at d;rw[VW,VW,Ts];unfold vr;rw[au,aj d]
  rfl
 rwa[e]
def FK{lo:Nat}{t:T}(e:(rng (lo:Nat) n)[i]?\t):i<n/\t=.int ((lo+i:Nat):Int):=by
 unfold rng at e;rw[aq]at e;by_cases a:i<n
 .rw[VY a]at e;cases e;exact#[a,rfl]
 .rw[aM ↑a]at e;cases e
def FU{r:du}(h:0<r.2)(a:k<r.1.length):vr r k=0↔r.1[k]=0:=by
 have e:vr r k=(r.1[k] : Rat)/(r.2:Rat):=by unfold vr;rw[au,aj a];rfl
 have n:(r.2:Rat)≠0:=λz=>by have:=Rat.intCast_eq_zero_iff.mp z;lia
 rw[e];constructor
 .intro z;have:(r.1[k] : Rat)=0:=by grind
  exact Rat.intCast_eq_zero_iff.mp this
 .intro z;rw[z];grind
def Df:ST:=λa R=>∃(h:xa)(O p k:Nat),a=[.lst (h.map cb),.int p,.int k]/\Rws h O/\p<=h.length/\k<O/\(∀q,p<=q->q<h.length->vr (ae h q) k≠0->R (.fz (.int q)))/\((∀i,p<=i->i<h.length->vr (ae h i) k=0)->R (.fz .non))
def PB(T:Tx D):gT 1 uJ lJ Df:=yB T.V8 Qo (λu _=>bG (cY (Q8 T.eG (bA vn (bA (bQ cH T.dz WJ (bA vt bC)) bC))) (bW (n:=99) 3)
  (bI (cB (cg (mX u.units) (bK (bK (bK vt vi) bF) ve) bF)
  (bI (bR vi))
  bV)))
  (bI (bR fW)))<|by
 rintro _ R ⟨h,O,p,k,rfl,a,A,B,q,s⟩;have b:∀i,i<h.length->k<(ae h i).1.length:=λi l=>by rwa[a.wds _ (fX l)]
 have w:=a.few;have r:(h.map cb).length=h.length:=ak _;refine#[#[by lia,by lia,by lia,by lia],FQ (λi o=>∃x,o=[.fz (.lst (h.map cb)),.fz (.int p),.fz (.int k),x]/\∀j,p<=j->j<p+i->vr (ae h j) k=0) _ 0 #[_,rfl,λj _ _=>by lia] (λi t o e z=>?_) λo z=>?_]
 .let⟨l,rfl⟩:=FK e;rw[r]at l;have d:p+i<h.length:=by omega
  let⟨x,rfl,f⟩:=z;have m:=FU (a.big _ (fX d)).pos (b _ d);refine#[_,wY d,_,cQ (aj (b _ d)),?_];by_cases c:(ae h (p+i)).1[k]'(b _ d)=0
  .refine cR (by show xr true (decide (_=_))=false;rw[Zs c];rfl) #[_,rfl,λj g v=>?_];by_cases y:j=p+i
   .rw[y];exact m.mpr c
   .exact f j g vy
  .exact dI (by show xr true (decide (_=_))=true;rw[Zp c];rfl) (q _ (X1 _ _) d λz=>c (m.mp z))
 .let⟨x,rfl,f⟩:=z;refine s λj g v=>f j g ?_;unfold rng;rw[ak,WP,r];lia
def Lx:SO:=λc b R=>∃(h:xa)(a:xk)(p:i5)(O:Nat),c=[h.map cb,a]/\b=[hE p]/\Rws h O/\DM h.length p/\a.length<sizeLine/\R [(zM h p).map cb,a++[hE p]]
def py(T:Tx D):OkF P w K mg base 5 Fd vU (gj K Lx):=ya T.aiK λF=>by
 refine F.okO agb (λn g R #[h,e,p,O,m,l,_]=>by rw[m,l];rfl) vw λt A d s H E r o=>?_;refine#[_,(bG (W' 0 (Um T) (bA ve bC))
  (bI (pZ 1 ve))),?_]
 rintro f n g R i ⟨h,e,p,O,rfl,rfl,c,I,k,q⟩;obtain⟨a,b,rfl⟩ : ∃a b,f=[a,b]:=by
  match f,i with
  |[a,b],_=>exact#[a,b,rfl]
 refine#[h,p,O,rfl,rfl,c,I,k,[(zM h p).map cb,e++[hE p]],λj=>?_,rfl,q]
 match j with
 |0=>exact .inl rfl
 |1=>exact .inl rfl
 |j+2=>exact .inr vc
open Rw (vr jG jo pK bb iT iQ vf nG Big sZ lD oX lW oY gP)
def Kw{h:xa}{r:du}(a:i<h.length)(j:Nat):ae (h.set i r) j=if j=i then r else ae h j:=by
 unfold ae;rw[au,au,List.getElem?_set];by_cases e:i=j
 .subst e;rw[ZY rfl,ZY rfl,ZY a];rfl
 .rw[ZZ e,ZZ (Ne.symm e)]
def Fn.of{b:Int}(d:b≠0)(i:a.natAbs<=NN)(k:b.natAbs<=NN):Fn (divInt a b):=by
 have j:=mx a d;have f:∃x y,ng a b x y:=by
  rcases Int.lt_or_lt_of_ne d with z|z
  .exact#[_,_,yZ (c:=-((Int.gcd a b:Nat):Int)) d vy vy (Int.mul_pos_of_neg_of_neg vy z)]
  .exact#[_,_,yZ (c:=((Int.gcd a b:Nat):Int)) d vy vy (XZ vy z)]
 let⟨x,y,l⟩:=f;have e:=jV l d;injection e with e;injection e with g e;injection e with h e;injection g with g;injection h with h;exact#[%[<- g|aL l.lx i],by have:=l.ly;lia]
def F1{r:du}(a:k<r.1.length):vr r k=divInt r.1[k] r.2:=by
 unfold vr;rw[au,aj a,TW];rfl
def Fn.vr{r:du}{k:Nat}(h:Big NN r)(a:k<r.1.length):Fn (vr r k):=by
 have:=h.pos;rw[F1 a];exact Fn.of (WS this) (h.top _ (aU _)) h.bot
def Fn.inv(h:Fn c)(b:c≠0):Fn (1/c):=by
 have a:c.num≠0:=λz=>b %[<- rd c,z|QR _];rw[Rat.div_def,Rat.one_mul,Rat.inv_def];exact Fn.of a h.d h.n
def Fn.neg(h:Fn c):Fn (0-c):=by
 rw[Rat.sub_eq_add_neg,TK];exact#[by show(-c.num).natAbs<=NN;rw[Int.natAbs_neg];exact h.n,h.d]
def Fn.bq(h:Fn c):Bq c:=#[dy h.n,dy h.d]
def Rws.fn{h:xa}(a:Rws h O)(b:i<h.length)(c:k<O):Fn (Rw.vr (ae h i) k):=Fn.vr (a.big _ (fX b)) (by rwa[a.wds _ (fX b)])
def Rws.of{h c:xa}(a:Rws h O)(f:c.length=h.length)(g:∀i,i<h.length->Big NN (ae c i)/\(ae c i).1.length=O):Rws c O:=by
 have:∀r∈c,Big NN r/\r.1.length=O:=λr b=>by
  let⟨i,d,j⟩:=List.getElem_of_mem b;have e:=Cw d;rw[aj d,j]at e;injection e with e;rw[e];exact g i (f ▸ d)
 exact#[λr b=>(this r b).1,λr b=>(this r b).2,f ▸ a.few,a.wde]
def Mj(h:xa)(p:i5):(zM h p).length=h.length:=by cases p<;>simp[zM]
def f5(r:du)(k:Nat):du:=if vr r k=1 then r else jG (jo r (pr (1/vr r k)))
def kX(h:xa)(p q k i:Nat):du:=if i=p then f5 (ae h q) k else ae h (Rw.sw p q i)
def e7(h:xa)(p q:Nat):xa:=if q=p then h else zM h (.swap p q)
def ahZ(h:xa)(p q:Nat):(e7 h p q).length=h.length:=by
 unfold e7;split
 .rfl
 .exact Mj _ _
def _f{h:xa}{p:Nat}(a:p<h.length)(b:q<h.length)(i:Nat):ae (e7 h p q) i=ae h (Rw.sw p q i):=by
 unfold e7 Rw.sw;by_cases e:q=p
 .subst e;rw[ZY rfl];by_cases c:i=q
  .rw[ZY c,c]
  .rw[ZZ c,ZZ c]
 .rw[ZZ e];show ae ((h.set p (ae h q)).set q (ae h p)) i=_;rw[Kw (by rwa[WH]),Kw a];by_cases c:i=q
  .subst c;rw[ZY rfl,ZZ e,ZY rfl]
  .rw[ZZ c];by_cases d:i=p
   .rw[ZY d,ZY d]
   .rw[ZZ d,ZZ d,ZZ c]
def Fy:SO:=λe d R=>∃(h:xa)(a:xk)(O p q k:Nat),e=[h.map cb,a]/\d=[.int p,.int q,.int k]/\Rws h O/\p<h.length/\q<h.length/\k<O/\vr (ae h q) k≠0/\a.length+2<sizeLine /\
 ∀b c,b.length=h.length->(∀i,i<h.length->ae b i=kX h p q k i)->c.length<=a.length+2->R [b.map cb,c]
def WB{x y:RS}{E:DT}(J:xo->Prop)(k:∀a,J a->y E a)(h:(∀a,J a->y E a)->jY x y E o):jY x y E o:=h k
def tU(v u:Rat):(decide (v.num=u.num)&&decide (((v.den:Nat):Int)=u.den))=decide (v=u):=by
 rw[<- decide_and];refine decide_eq_decide.mpr #[λ#[a,b]=>Rat.ext a vy,λz=>%[z|#[rfl,rfl]]]
def hW{R:vj->Prop}{a b:Addr}(L M:xk)(q:R [L,M]):∃c,(∀j,slot (.la a L::.la b M::o) j=slot (zipWith OT.la [a,b] c) j\/[a,b].length<=j)/\c.length=[a,b].length/\R c:=#[[L,M],λj=>by
 match j with
 |0=>exact .inl rfl
 |1=>exact .inl rfl
 |j+2=>exact .inr vc,rfl,q]
def F8{d:Type}{c:List Q}{x y:d}(e : [x,y].length=c.length):∃a b,c=[a,b]:=by
 match c,e with
 |[a,b],_=>exact#[a,b,rfl]
def UL(T:Tx D):OkF P w K mg base 6 xT nH (gj K Fy):=ya T.Wf λF=>by
 refine F.okO RD (λX Q R #[h,f,O,p,q,k,W,V,_]=>by rw[W,V];rfl) vw λai A y s H E r Y=>?_;refine#[_,(bG (cB (cg (mX r.units) vi ve)
  (bI (Oo 0 1 (py T) r.md (by rfl) (bA (d7 (bA vm (bA ve (bA vi bC)))) bC)))
  bV)
  (bG (bT 5 (bJ (Vf T) (bA (uN 0 ve) (bA vF bC))))
  (bI (cB (cg (mX r.units) vS (mW T.CV T.uP))
  (bI (Oo 0 1 (py T) r.md (by rfl) (bA (d7 (bA vm (bA ve (bA (bJ (ai2 T) (bA (mW T.CV T.uP) (bA vS bC))) bC)))) bC)))
  bV)))),?_]
 rintro as X Q R S ⟨h,f,O,p,q,k,rfl,rfl,d,L,B,U,M,Z,I⟩;let⟨a,b,rfl⟩:=F8 S;have G:=ahZ h p q;have l:=_f L B;have z:Rw.sw p q p=q:=ZY rfl;have j:∀i,i<h.length->Rw.sw p q i<h.length:=λi m=>by
  unfold Rw.sw;split
  .exact B
  .split<;>omega
 have t:Rws (e7 h p q) O:=d.of G λi m=>%[l|#[d.big _ (fX (j i m)),d.wds _ (fX (j i m))]]
 refine WB (λo=>∃x,o=[.la a ((e7 h p q).map cb),.la b x,.fz (.int p),.fz (.int q),.fz (.int k),.und]/\x.length<=f.length+1) ?_ λN=>?_
 .rintro _ ⟨x,rfl,J⟩;have g:p<(e7 h p q).length:=by lia
  have C:k<(ae (e7 h p q) p).1.length:=by rwa[t.wds _ (fX g)]
  have u:=t.fn g U;refine#[_,wY g,_,k,rfl,C,t.big _ (fX g),?_];have v:vr (ae (e7 h p q) p) k=vr (ae h q) k:=%[l,z|_]
  rw[v];rw[v]at u;by_cases e:vr (ae h q) k=1
  .refine cR (by show xr true (_&&_)=false;rw[show(decide ((vr (ae h q) k).num=1)&&decide (((vr (ae h q) k).den:Int)=1))=_ from tU _ 1,Zs e];rfl) (hW _ _ (I _ _ G (λi m=>?_) (aL J (Xs _))));rw[l];unfold kX f5;split
   .rename_i c;rw[c,z]
   .rfl
  .refine dI (by show xr true (_&&_)=true;rw[show(decide ((vr (ae h q) k).num=1)&&decide (((vr (ae h q) k).den:Int)=1))=_ from tU _ 1,Zp e];rfl) #[1,_,rfl,M,iA,u.bq,by show Bd (1*_);rw[TZ];exact dy u.n,e7 h p q,x,.times p (1/vr (ae h q) k),O,rfl,rfl,t,#[g,u.inv M],by lia,hW _ _ (I _ _ (by rwa[Mj]) (λi m=>?_) (by rw[aA];show _+1<=_;exact succ_le_succ J))];show ae ((e7 h p q).set p _) i=_;rw[Kw g,l,l,z];unfold kX f5;split
   .rfl
   .rfl
 .by_cases e:q=p
  .refine cR (by show xr true (decide (_=_))=false;rw[Zs vy];rfl) (N [.la a (h.map cb),.la b f,.fz (.int p),.fz (.int q),.fz (.int k),.und] #[f,?_,by exact Xs _]);unfold e7;rw[ZY e]
  .refine dI (by show xr true (decide (_=_))=true;rw[Zp vy];rfl) #[h,f,.swap p q,O,rfl,rfl,d,#[L,B],by lia,N [.la a ((zM h (.swap p q)).map cb),.la b (f++[hE (.swap p q)]),.fz (.int p),.fz (.int q),.fz (.int k),.und] #[f++[hE (.swap p q)],?_,by simp]];unfold e7;rw[ZZ e]
open Rw (vr jG jo pK bb iT iQ vf nG Big sZ lD oX lW oY gP)
def b9(h:xa)(p k i:Nat):du:=if i=p\/vr (ae h i) k=0 then ae h i else jG (pK (ae h i) (ae h p) (pr (0-vr (ae h i) k)))
def yM:SO:=λe d R=>∃(h:xa)(a:xk)(O p k:Nat),e=[h.map cb,a]/\d=[.int p,.int k]/\Rws h O/\p<h.length/\k<O/\a.length+h.length<sizeLine/\(∀i,i<h.length->Big NN (b9 h p k i)) /\
 ∀b c,b.length=h.length->(∀i,i<h.length->ae b i=b9 h p k i)->c.length<=a.length+h.length->R [b.map cb,c]
def ah1{h:xa}{p:Nat}(a:Rws h O)(c:p<h.length)(b:i<h.length):(b9 h p k i).1.length=O:=by
 unfold b9;split
 .exact a.wds _ (fX b)
 .rw[lW];show(zipWith _ (ae h i).1 (ae h p).1).length=O;rw[TR,a.wds _ (fX b),a.wds _ (fX c),VQ]
def JQ(T:Tx D):OkF P w K mg base 6 qz je (gj K yM):=ya T.MN λF=>by
 refine F.okO Ka (λax U R #[h,v,O,p,k,e1,e2,_]=>by rw[e1,e2];rfl) vw λai A C s H E G nd=>?_;refine#[_,(bI (cY (c7 T.eG (bA (RQ 0 (bQ cH T.dz WJ (bA vt bC))) bC)) (bW (n:=99) 4)
  (bI (cB (QW.qt (xK (cg (mX G.units) vF ve) (qF (cg (mX G.units) (bK (bK (uN 0 vF) bF) vi) bF))))
  (bG (bT 5 (bJ (p4 T) (bA (mW T.lB T.ji) (bA (bJ (Vf T) (bA (uN 0 vF) (bA vi bC))) bC))))
  (bI (Oo 0 1 (py T) G.md (by rfl) (bA (d7 (bA vm (bA vF (bA ve (bA vS bC))))) bC))))
  bV)))),?_]
 rintro as ax U R V ⟨h,v,O,p,k,rfl,rfl,f,S,Y,hl,Z,X⟩;let⟨a,b,rfl⟩:=F8 V;have Q:(h.map cb).length=h.length:=ak _;have few:=f.few;refine#[trivial,#[by lia,by lia],jg (λn o=>∃g m x y,o=[.la a (g.map cb),.la b m,.fz (.int p),.fz (.int k),x,y]/\g.length=h.length/\(∀i,i<h.length->ae g i=if i<n then b9 h p k i else ae h i)/\m.length<=v.length+n) #[h,v,_,_,rfl,rfl,λi _=>%[ZZ (WZ _)|_],aG _] ?_ ?_]
 .rintro n _ I ⟨g,m,x,y,rfl,t,q,N⟩;have I:n<h.length:=by rw[Q]at I;lia
  have B:ae g n=ae h n:=%[q n I,ZZ (X2 _)|_]
  have W:ae g p=ae h p:=by
   rw[q p S];split
   .unfold b9;rw[ZY (.inl rfl)]
   .rfl
  have u:Rws g O:=f.of t λi j=>by
   rw[q i j];split
   .exact#[Z i j,ah1 f S j]
   .exact#[f.big _ (fX j),f.wds _ (fX j)]
  have stay:b9 h p k n=ae h n->∀i,i<h.length->ae g i=if i<n+1 then b9 h p k i else ae h i:=λe i j=>by
   rw[q i j];by_cases c:i=n
   .subst c;rw[ZZ (X2 _),ZY (X0 _),e]
   .by_cases d:i<n
    .rw[ZY d,ZY (WV _ d)]
    .rw[ZZ d,ZZ vy]
  by_cases e:n=p
  .exact cR (by show xr true (decide (_=_))=false;rw[Zs vy];rfl) #[g,m,_,_,rfl,t,stay (ZY (.inl e)),by lia]
  .have r:n<g.length:=by lia
   have l:k<(ae g n).1.length:=by rwa[u.wds _ (fX r)]
   have M:=FU (u.big _ (fX r)).pos l;refine dI (by show xr true (decide (_=_))=true;rw[Zp vy];rfl) #[_,wY r,_,cQ (aj l),?_];by_cases c:(ae g n).1[k]'l=0
   .exact cR (by show xr true (decide (_=_))=false;rw[Zs c];rfl) #[g,m,_,_,rfl,t,stay (ZY (.inr %[<- B|M.mpr c])),by lia]
   .have J:=u.fn r Y;refine dI (by show xr true (decide (_=_))=true;rw[Zp c];rfl) #[_,wY r,_,k,rfl,l,u.big _ (fX r),0,_,rfl,kU,J.bq,by show Bd (1*_);rw[TZ];exact dy J.d,g,m,.add n p (0-vr (ae g n) k),O,rfl,rfl,u,#[r,by lia,J.neg],by lia,zM g (.add n p (0-vr (ae g n) k)),m++[hE (.add n p (0-vr (ae g n) k))],_,_,rfl,%[Mj|t],λi j=>?_,by rw[aA];show _+1<=_;lia];show ae (g.set n _) i=_;rw[Kw r,B,W];by_cases d:i=n
    .rw[ZY d,d,ZY (X0 _)];unfold b9;rw[ZZ λz=>z.elim e λz=>c (M.mp %[B|z])]
    .rw[ZZ d,q i j];by_cases L:i<n
     .rw[ZY L,ZY (WV _ L)]
     .rw[ZZ L,ZZ vy]
 .rintro _ ⟨g,m,x,y,rfl,t,q,N⟩;rw[Q]at q N;exact hW _ _ (X g m t (λi j=>%[q i j,ZY vy|_]) vy)
open Rw (vr jG jo pK bb iT iQ vf nG Big sZ lD oX lW oY gP sg jK jq cC jZ kJ)
def GE(c:Rat):(((pr c).1:Int):Rat)/(((pr c).2:Int):Rat)=c:=%[<- TW|rd c]
def U_(c:Rat):0<(pr c).2:=by have:=c.den_pos;show(0:Int)<(c.den:Nat);lia
def IR{r:du}(h:0<r.2):0<(jG r).2:=mz h (XY (iT h)) iQ.1
def _a{r:du}(h:0<r.2)(b:vr r k≠0):0<(f5 r k).2/\(f5 r k).1.length=r.1.length/\(bb (f5 r k).1 (f5 r k).2=1\/f5 r k=r)/\∀j,vr (f5 r k) j*vr r k=vr r j:=by
 unfold f5;by_cases e:vr r k=1
 .rw[ZY e];exact#[h,rfl,.inr rfl,λj=>%[e,Rat.mul_one|_]]
 .rw[ZZ e];have a:0<(jo r (pr (1/vr r k))).2:=XZ h (U_ _);refine#[IR a,by rw[lW];unfold jo;rw[ak],.inl (nG a),λj=>?_];rw[sZ a,lD h (U_ _),GE]
  grind
def Ya{h:xa}{p:Nat}(a:0<(ae h i).2)(c:0<(ae h p).2)(f:(ae h i).1.length=(ae h p).1.length):0<(b9 h p k i).2/\(bb (b9 h p k i).1 (b9 h p k i).2=1\/b9 h p k i=ae h i)/\∀j,vr (b9 h p k i) j=if i=p then vr (ae h p) j else vr (ae h i) j-vr (ae h i) k*vr (ae h p) j:=by
 unfold b9;by_cases e:i=p
 .rw[ZY (.inl e)];exact#[a,.inr rfl,λj=>%[ZY e,e|_]]
 .by_cases z:vr (ae h i) k=0
  .rw[ZY (.inr z)];exact#[a,.inr rfl,λj=>by rw[ZZ e,z];grind]
  .rw[ZZ λy=>y.elim e z];have b:0<(pK (ae h i) (ae h p) (pr (0-vr (ae h i) k))).2:=by
    have d:=XZ c (U_ (0-vr (ae h i) k));exact XZ a (mz d (XY (o9 (WS d))) (JJ _ _))
   refine#[IR b,.inl (nG b),λj=>?_];rw[sZ b,oX a c (U_ _) f,GE,ZZ e]
   grind
structure FnB(M:Nat)(c:Rat):Prop where
 n:c.num.natAbs<=M
 d:c.den<=M
def FnB.vr{M:Nat}{r:du}{k:Nat}(h:Big M r)(f:k<r.1.length):FnB M (Rw.vr r k):=by
 have a:=h.pos;have g:=mx r.1[k] (WS a);have l:=yZ (t:=r.1[k]) (c:=((Int.gcd r.1[k] r.2:Nat):Int)) (WS a) vy vy (XZ vy a);have e:=jV l (WS a);rw[F1 f];injection e with e;injection e with b e;injection e with d e;injection b with b;injection d with d;exact#[%[<- b|aL l.lx (h.top _ (aU _))],by have:=l.ly;have:=h.bot;omega]
structure B0(A:xa)(O N:Nat):Prop where
 big:∀i,i<A.length->Big N (ae A i)/\(ae A i).1.length=O
 one:1<=N
 mb:(2*A.length*N)^A.length<=NN
 nn:N<=NN
abbrev aT(A:xa)(i j:Nat):Int:=(ae A i).1.getD j 0
abbrev aB(A:xa)(i:Nat):Int:=(ae A i).2
structure Gs(A:xa)(O N c:Nat)(h:xa):Prop where
 len:h.length=A.length
 row:∀i,i<A.length->0<(ae h i).2/\(ae h i).1.length=O/\(bb (ae h i).1 (ae h i).2=1\/Big N (ae h i))
 st:∃pv s,gP (aT A) (aB A) A.length O (λi j=>vr (ae h i) j) c pv s
 unit:∀i l,i<A.length->l<c->vr (ae h i) l=if i=l then 1 else 0
 ker:∀x:Nat->Rat,(∀i,i<A.length->sg (λj=>vr (ae h i) j*x j) O=0)->∀i,i<A.length->sg (λj=>vr (ae A i) j*x j) O=0
section
variable{A h:xa}{O N c q:Nat}
def B0.zero(h:B0 A O N):Gs A O N 0 A:=#[rfl,λi a=>#[(h.big i a).1.pos,(h.big i a).2,.inr (h.big i a).1],#[λ_=>0,id,gP.zero λi a=>(h.big i a).1.pos],λ_ _ _ z=>absurd z (WZ _),λ_ z=>z]
def NH{N:Nat}(a:1<=m)(b:1<=N):N<=(2*m*N)^m:=by
  have x:N<=2*m*N:=mE _ vy;have y:1<=2*m*N:=VS (show 1<=2*m by lia) b
  calc N<=(2*m*N)^1:=by rwa[Nat.pow_one]
    _<=_:=XU y a
def B0.sbigM(h:B0 A O N){R:Nat->Nat->Rat}{a:Nat}(p:∃pv s,gP (aT A) (aB A) A.length O R a pv s)(c:i<A.length){r:du}(n:0<r.2)(m:r.1.length=O)(g:bb r.1 r.2=1\/Big N r)(e:∀j,j<O->vr r j=R i j):Big ((2*A.length*N)^A.length) r:=by
 rcases g with g|g
 .let⟨pv,s,p⟩:=p;let⟨v,u,l,k,f,o⟩:=p.bound h.one (λi j c d=>by
   have b:=h.big i c;show((ae A i).1.getD j 0).natAbs<=N;rw[au,aj (by rwa[b.2])];exact b.1.top _ (aU _)) (λi c=>#[(h.big i c).1.pos,(h.big i c).1.bot]) c
  exact oY n g m l k f λj d=>%[e j d|o j d]
 .exact g.le (NH vy h.one)
def B0.sbig(h:B0 A O N){R:Nat->Nat->Rat}{a:Nat}(p:∃pv s,gP (aT A) (aB A) A.length O R a pv s)(d:i<A.length){r:du}(c:0<r.2)(b:r.1.length=O)(g:bb r.1 r.2=1\/Big N r)(e:∀j,j<O->vr r j=R i j):Big NN r:=(h.sbigM p d c b g e).le h.mb
def Gs.bigM(g:Gs A O N c h)(a:B0 A O N)(b:i<A.length):Big ((2*A.length*N)^A.length) (ae h i):=a.sbigM g.st b (g.row i b).1 (g.row i b).2.1 (g.row i b).2.2 λ_ _=>rfl
def Gs.big(g:Gs A O N c h)(a:B0 A O N)(b:i<A.length):Big NN (ae h i):=a.sbig g.st b (g.row i b).1 (g.row i b).2.1 (g.row i b).2.2 λ_ _=>rfl
def l_{p q:Nat}(b:p<m)(a:q<m)(c:i<m):Rw.sw p q i<m:=by
 unfold Rw.sw;split
 .exact a
 .split<;>omega
def ES(p q i:Nat):Rw.sw p q (Rw.sw p q i)=i:=by
 unfold Rw.sw;by_cases a:i=p
 .subst a;rw[ZY rfl];by_cases b:q=i
  .rw[ZY b,b]
  .rw[ZZ b,ZY rfl]
 .by_cases b:i=q
  .subst b;rw[ZZ a,ZY rfl,ZY rfl]
  .rw[ZZ a,ZZ b,ZZ a,ZZ b]
def Gs.next(g:Gs A O N c h)(a:B0 A O N)(d:c<A.length)(U:c<O)(S:c<=q)(m:q<A.length)(T:vr (ae h q) c≠0){rs2:xa}(M:∀i,i<A.length->ae rs2 i=kX h c q c i) :
  (∀i,i<A.length->Big NN (ae rs2 i)/\(ae rs2 i).1.length=O)/\(∀i,i<A.length->Big NN (b9 rs2 c c i))/\∀w:xa,w.length=A.length->(∀i,i<A.length->ae w i=b9 rs2 c c i)->Gs A O N (c+1) w:=by
 have C:Rw.sw c q c=q:=ZY rfl;let⟨Y,X,W,V⟩:=_a (g.row q m).1 T;have L:ae rs2 c=f5 (ae h q) c:=%[M c d|ZY rfl]
 have D:∀i,i<A.length->i≠c->ae rs2 i=ae h (Rw.sw c q i):=λi b n=>%[M i b|ZZ n]
 have f:∀i,i<A.length->0<(ae rs2 i).2/\(ae rs2 i).1.length=O/\(bb (ae rs2 i).1 (ae rs2 i).2=1\/Big N (ae rs2 i)):=λi b=>by
  by_cases e:i=c
  .rw[e,L];refine#[Y,%[X|(g.row q m).2.1],W.elim .inl λz=>?_];rw[z];exact(g.row q m).2.2
  .rw[D i b e];exact g.row _ (l_ d m b)
 have o:=λi(b:i<A.length)=>Ya (h:=rs2) (p:=c) (k:=c) (i:=i) (f i b).1 (f c d).1 %[(f i b).2.1,(f c d).2.1|_];have u:∀i,i<A.length->(b9 rs2 c c i).1.length=O:=λi b=>by
  unfold b9;split
  .exact(f i b).2.1
  .rw[lW];show(zipWith _ (ae rs2 i).1 (ae rs2 c).1).length=O;rw[TR,(f i b).2.1,(f c d).2.1,VQ]
 have v:∀i,i<A.length->bb (b9 rs2 c c i).1 (b9 rs2 c c i).2=1\/Big N (b9 rs2 c c i):=λi b=>(o i b).2.1.elim .inl λz=>%[z|(f i b).2.2]
 have y:∀j,vr (b9 rs2 c c c) j*vr (ae h q) c=vr (ae h q) j:=λj=>by
  rw[(o c d).2.2 j,ZY rfl,L];exact V j
 have F:∀i,i<A.length->i≠c->∀j,vr (b9 rs2 c c i) j=vr (ae h (Rw.sw c q i)) j-vr (ae h (Rw.sw c q i)) c*vr (b9 rs2 c c c) j:=λi b n j=>by
  rw[(o i b).2.2 j,(o c d).2.2 j,ZZ n,ZY rfl,D i b n]
 have E:∃pv s,gP (aT A) (aB A) A.length O (λi j=>vr (b9 rs2 c c i) j) (c+1) pv s:=by
  let⟨pv,s,p⟩:=g.st;have Q:=p.swap S m (R':=λi j=>vr (ae h (Rw.sw c q i)) j) λi j _ _=>rfl;exact#[_,_,Q.pivot d (λi b=>(a.big i b).1.pos) U (by show vr (ae h (Rw.sw c q c)) c≠0;rwa[C]) (R':=λi j=>vr (b9 rs2 c c i) j) (λj _=>by show vr (b9 rs2 c c c) j*vr (ae h (Rw.sw c q c)) c=vr (ae h (Rw.sw c q c)) j;rw[C];exact y j) λi j b n _=>F i b n j]
 have P:∀i,i<A.length->Big NN (b9 rs2 c c i):=λi b=>a.sbig E b (o i b).1 (u i b) (v i b) λ_ _=>rfl;refine#[λi b=>#[?_,(f i b).2.1],P,λw R t=>#[R,λi b=>%[t i b|#[(o i b).1,u i b,v i b]],?_,λi l b K=>?_,λx J=>g.ker x λi b=>?_]]
 .by_cases e:i=c
  .rw[e];refine a.sbig E d (f c d).1 (f c d).2.1 (f c d).2.2 λj _=>?_;show _=vr (b9 rs2 c c c) j;rw[(o c d).2.2 j,ZY rfl]
  .rw[D i b e];exact g.big a (l_ d m b)
 .let⟨pv,s,p⟩:=E;exact#[pv,s,p.congr λi j b=>%[t i b|_]]
 .rw[t i b];have H:l<c->vr (b9 rs2 c c c) l=0:=λK=>by
   have:=y l;rw[g.unit q l m K,ZZ vy]at this
   grind
  have G:vr (b9 rs2 c c c) c=1:=by
   have:=y c
   grind
  by_cases e:i=c
  .subst e;by_cases z:l<i
   .rw[H z,ZZ (UZ z)]
   .rw[show l=i by lia,G,ZY rfl]
  .rw[F i b e l];by_cases z:l<c
   .rw[H z,g.unit _ l (l_ d m b) z];have:(Rw.sw c q i=l)=(i=l):=by
     unfold Rw.sw;rw[ZZ e];split
     .exact propext #[λ_=>by lia,λ_=>by lia]
     .rfl
    simp only[this]
    grind
   .rw[show l=c by lia,G,ZZ e]
    grind
 .have B:=J c d;rw[t c d]at B;by_cases e:i=q
  .rw[e,cC (g:=λj=>vr (ae h q) c*(vr (b9 rs2 c c c) j*x j)) λj _=>by rw[<- y j];grind,jq,B]
   grind
  .have I:=l_ d m b;have n:Rw.sw c q i≠c:=λz=>by
    have:=ES c q i;rw[z,C]at this;exact e this.symm
   have r:=J _ I;rw[t _ I]at r;rw[cC (g:=λj=>vr (b9 rs2 c c (Rw.sw c q i)) j*x j+vr (ae h i) c*(vr (b9 rs2 c c c) j*x j)) λj _=>by rw[F _ I n,ES];grind,jK,jq,B,r]
   grind
def Gs.found(g:Gs A O N c h)(n:c<A.length)(k:c<O)(d:∀x:Nat->Rat,(∀j,A.length<=j->x j=0)->(∀i,i<A.length->sg (λj=>vr (ae A i) j*x j) O=0)->∀j,j<A.length->x j=0):¬∀i,c<=i->i<A.length->vr (ae h i) c=0:=λl=>by
 have:=d (λj=>if j<c then -(vr (ae h j) c)else if j=c then 1 else 0) (λj m=>%[ZZ vy,ZZ vy|_]) (g.ker _ λi f=>?_) c n
 .rw[ZZ (X2 _),ZY rfl]at this;exact absurd this vw
 .rw[cC (g:=λj=>(if j=i then 1 else 0)*(if j<c then -(vr (ae h j) c)else 0)+(if j=c then 1 else 0)*vr (ae h i) c) λj m=>?_,jK,kJ (v:=λj=>if j<c then -(vr (ae h j) c)else 0),kJ (v:=λ_=>vr (ae h i) c),ZY k]
  .by_cases e:i<c
   .rw[ZY (Tk e k),ZY e]
    grind
   .rw[l i (VU e) f];rw[ZZ e]
    grind
  .by_cases a:j<c
   .rw[ZY a,ZY a,g.unit i j f a,ZZ (show j≠c by exact aQ a)];by_cases b:i=j
    .rw[ZY b,ZY b.symm];grind
    .rw[ZZ b,ZZ (Ne.symm b)];grind
   .rw[ZZ a,ZZ a];by_cases b:j=c
    .rw[ZY b,b];grind
    .rw[ZZ b];grind
def Gs.answer(g:Gs A (A.length+1) N A.length h)(b:i<A.length):sg (λj=>vr (ae A i) j*vr (ae h j) A.length) A.length=vr (ae A i) A.length:=by
 have:=g.ker (λj=>if j<A.length then vr (ae h j) A.length else -1) (λi b=>?_) i b
 .show _=_;rw[show sg (λj=>vr (ae A i) j*(if j<A.length then vr (ae h j) A.length else -1)) (A.length+1)=sg (λj=>vr (ae A i) j*(if j<A.length then vr (ae h j) A.length else -1)) A.length+vr (ae A i) A.length*(if A.length<A.length then vr (ae h A.length) A.length else -1)from rfl,ZZ (X2 _),cC (g:=λj=>vr (ae A i) j*vr (ae h j) A.length) λj a=>%[ZY a|_]]at this
  grind
 .rw[show sg (λj=>vr (ae h i) j*(if j<A.length then vr (ae h j) A.length else -1)) (A.length+1)=sg (λj=>vr (ae h i) j*(if j<A.length then vr (ae h j) A.length else -1)) A.length+vr (ae h i) A.length*(if A.length<A.length then vr (ae h A.length) A.length else -1)from rfl,ZZ (X2 _),cC (g:=λj=>(if j=i then 1 else 0)*vr (ae h j) A.length) λj a=>by rw[ZY a,g.unit i j b a];simp only[eq_comm],kJ (v:=λj=>vr (ae h j) A.length),ZY b]
  grind
end
open Rw (vr jG jo pK bb iT iQ vf nG Big sZ lD oX lW oY gP sg jK jq cC jZ kJ)
abbrev oU(r:xt):du:=(tops (d9 1 r) r,((d9 1 r:Nat):Int))
abbrev Le(r:xt):T:=.lst (r.map aa)
def aha(r:xt):(oU r).1.length=r.length:=ak _
def VL(r:xt)(j:Nat):vr (oU r) j=r.getD j 0:=by
 unfold vr;have b:=iZ r UQ;show(((tops (d9 1 r) r).getD j 0:Int):Rat)/(((d9 1 r:Nat):Int):Rat)=_;unfold tops;rw[au,au,aq];by_cases h:j<r.length
 .rw[aj h];show((r[j].num*((d9 1 r/r[j].den:Nat):Int):Int):Rat)/_=r[j];let⟨k,a⟩:=(oE r (n:=1)).2 r[j] (aU h);have hd:=r[j].den_pos;rw[show d9 1 r/r[j].den=k by rw[a];exact Nat.mul_div_cancel_left _ hd];have c:k≠0:=λz=>by rw[z]at a;lia
  rw[<- TW,a,Qr,Rat.divInt_mul_right vy];exact rd _
 .rw[aM (Nat.not_lt.mp h)];show((0:Int):Rat)/_=0
  grind
structure Sys(J:vx)(N:Nat):Prop where
 wid:∀r∈J,r.length=J.length+1
 few:J.length<=100
 lev:∀r∈J,Big N (oU r)
 num:∀r∈J,∀c∈r,Bd c.num
 one:1<=N
 mb:(2*J.length*N)^J.length<=NN
 nn:N<=NN
 inj:∀x:Nat->Rat,(∀j,J.length<=j->x j=0)->(∀r∈J,sg (λj=>r.getD j 0*x j) (J.length+1)=0)->∀j,j<J.length->x j=0
def Sq(a:i<J.length):ae (J.map oU) i=oU J[i]:=by
 have:=Cw (h:=J.map oU) (i:=i) (by rwa[ak]);rw[aq,aj a]at this;injection this with this;exact this.symm
def Sys.b0(h:Sys J N):B0 (J.map oU) (J.length+1) N:=#[λi a=>by
 rw[ak]at a;rw[Sq a];exact#[h.lev _ (aU a),%[aha|h.wid _ (aU a)]],h.one,%[ak|h.mb],h.nn]
def Rws.mk'{h:xa}(c:∀i,i<h.length->Big NN (ae h i)/\(ae h i).1.length=O)(f:h.length<=100)(d:O<=1000):Rws h O:=by
 have:∀r∈h,Big NN r/\r.1.length=O:=λr a=>by
  let⟨i,b,g⟩:=List.getElem_of_mem a;have e:=Cw b;rw[aj b,g]at e;injection e with e;rw[e];exact c i b
 exact#[λr a=>(this r a).1,λr a=>(this r a).2,f,d]
def Sys.rws{c:Nat}{h:xa}(a:Sys J N)(g:Gs (J.map oU) (J.length+1) N c h):Rws h (J.length+1):=by
 have l:=g.len;have few:=a.few;rw[ak]at l;refine Rws.mk' (λi b=>?_) (aL (WG l) few) vy;have d:i<(J.map oU).length:=by rw[g.len]at b;exact b
 exact#[g.big a.b0 d,(g.row i d).2.1]
def ZB(a:i<J.length)(x:Nat->Rat):sg (λj=>vr (ae (J.map oU) i) j*x j) n=sg (λj=>J[i].getD j 0*x j) n:=cC λj _=>%[Sq a,VL|_]
def Sys.inj'(h:Sys J N):∀x:Nat->Rat,(∀j,(J.map oU).length<=j->x j=0)->(∀i,i<(J.map oU).length->sg (λj=>vr (ae (J.map oU) i) j*x j) (J.length+1)=0)->∀j,j<(J.map oU).length->x j=0:=by
 rw[ak];intro x d c;refine h.inj x d λr b=>?_;let⟨i,a,rfl⟩:=List.getElem_of_mem b;rw[<- ZB a];exact c i a
def Qn(m:Nat)(y:Nat->Rat):xk:=(range m).map λi=>.lst ((range (m+1)).map λj=>aa (if j<m then if i=j then 1 else 0 else y i))
def _e{h:xa}(a:Sys J N)(g:Gs (J.map oU) (J.length+1) N J.length h):(h.map λr=>T.lst ((range (J.length+1)).map λk=>aa (vr r k)))=Qn J.length λi=>vr (ae h i) J.length:=by
 have l:=g.len;rw[ak]at l;unfold Qn;refine UU %[ak,ak,WP,l|_] λi b f=>?_;rw[ak]at b;rw[VW,VW,Ts];have e:=Cw b;rw[aj b]at e;injection e with e;rw[e]
 congr 1
 refine UP λj d=>?_;have d:=List.mem_range.mp d;by_cases c:j<J.length
 .rw[ZY c,g.unit i j %[ak|aR b (WG l)] c]
 .rw[ZZ c,show j=J.length by lia]
def _8{h:xa}(g:Gs (J.map oU) (J.length+1) N J.length h):∀r∈J,sg (λj=>r.getD j 0*vr (ae h j) J.length) J.length=r.getD J.length 0:=λr a=>by
 let⟨i,b,rfl⟩:=List.getElem_of_mem a;have l:(J.map oU).length=J.length:=ak _;have:=Gs.answer (A:=J.map oU) (N:=N) (h:=h) (by rwa[l]) (i:=i) (by rwa[l]);rw[l,Sq b,VL]at this;rw[<- this];exact cC λj _=>%[VL|_]
def LK:ST:=λa R=>∃(J:vx)(N:Nat),a=[.lst (J.map Le),.int J.length]/\Sys J N/\∀(b:xk)(y:Nat->Rat),(∀r∈J,sg (λj=>r.getD j 0*y j) J.length=r.getD J.length 0)->(∀i,i<J.length->FnB ((2*J.length*N)^J.length) (y i))->R (.fz (.tup [.lst b,.lst (Qn J.length y)]))
def aaC(T:Tx D):gT 7 Dr sJ LK:=yB T.adk Nv (λj _=>bG (FY (bH B_) IV IV ["row"] (bZ vt) (dH (i:=0)) cj (bJ (lI T) (bA vt bC)) (gU (i:=2) Nv.nd rfl (Or.inl rfl)))
  (bG (gA 3 (dg bC))
  (bG (bT 4 bF)
  (bG (cY (c7 T.eG (bA vn bC)) (bW (n:=99) 5)
  (bG (bT 6 (RQ 2 (bJ (PB T) (bA ve (bA vF (bA vS bC))))))
  (bI (cB (cg Fx (qv 6) fW)
  (bG (Oo 2 3 (UL T) j.md (by rfl) (bA vF (bA (qv 6) (bA vS bC))))
  (bG (Oo 2 3 (JQ T) j.md (by rfl) (bA vF (bA vS bC)))
  (bI (GY 4 G1 bF))))
  bV))))
  (bI (VR 3 (VR 2 (bR (d7 (bA vi (bA (bJ (Kl T) (bA ve bC)) bC)))))))))))<|by
 rintro _ R ⟨J,N,rfl,d,H⟩;have O:(J.map Le).length=J.length:=ak _;have P:(J.map oU).length=J.length:=ak _;have v:=d.few;have w:=d.b0;have V:(J.map λr=>cb (oU r))=(J.map oU).map cb:=by rw[WU];rfl
 refine#[%[O|aL v vw],comp_map Le (λr=>cb (oU r)) J (λr j N' M Q=>#[r,rfl,by rw[d.wid r j];lia,d.num r j,dy (aL (d.lev r j).bot d.nn),Q]) ?_];rw[V];refine#[#[by lia,by lia],jg (λc o=>∃h f x y,o=[.fz (.lst (J.map Le)),.fz (.int J.length),.l1 (h.map cb),.l1 f,.fz (.int (c:Nat)),x,y]/\Gs (J.map oU) (J.length+1) N c h/\f.length<=102*c) #[_,[],_,_,rfl,w.zero,aG _] ?_ ?_]
 .rintro c _ k ⟨h,f,x,y,rfl,g,G⟩;have k:c<J.length:=by lia
  have F:c<(J.map oU).length:=by lia
  have l:=g.len;have p:=d.rws g;have W:(20000:Nat)<sizeLine:=by decide
  refine#[h,_,c,c,rfl,p,by lia,by exact WV _ k,λq C u B=>#[trivial,h,f,_,c,q,c,rfl,rfl,p,by exact Y3 C u,u,by exact WV _ k,B,by lia,λe t l2 U Y=>?_],λz=>(g.found F (WV _ k) d.inj' λi a b=>z i a vy).elim];let⟨L,K,I⟩:=g.next w F (WV _ k) C (aR u (WG l)) B (rs2:=e) λi m=>U i vy;exact#[e,t,_,c,c,rfl,rfl,Rws.mk' (λi m=>L i vy) vy vy,by lia,by exact WV _ k,by lia,λi m=>K i vy,λA s Z S X=>#[A,s,.fz (.int c),.fz (.int q),rfl,I A vy λi m=>S i vy,by lia]]
 .rintro _ ⟨h,f,x,y,rfl,g,G⟩;have g:Gs (J.map oU) (J.length+1) N J.length h:=g;have p:=d.rws g;have l:=g.len;refine#[h,_,rfl,p,?_];have:=H f _ (_8 g) λi m=>by
   have E:i<(J.map oU).length:=by lia
   have b:=g.bigM w E;rw[P]at b;exact FnB.vr b %[(g.row i E).2.1|X0 _]
  rw[<- _e d g]at this;exact this
open Rw (vr jG jo pK bb iT iQ vf nG Big sZ lD oX lW oY gP sg jK jq cC jZ kJ)
def Jv:ST:=λa q=>∃(J:vx)(n:Nat),a=[.lst (J.map Le)]/\(∀r∈J,r.length=n)/\(J=[]->n=0)/\q (.fz (.int n))
def Yq(T:Tx D):gT 1 z9 pU Jv:=yB T.Zb Wr (λb _=>bG (cB (cg (z4 b.units) (bQ cH T.dz WJ (bA vt bC)) bF)
  (bI (bR bF))
  bV)
  (bI (bR (bQ cH T.dz WJ (bA (bK vt bF) bC)))))<|by
 rintro _ R ⟨J,n,rfl,h,a,q⟩
 match J,h,a with
 |[],h,a=>rw[a rfl]at q;exact q
 |r::J,h,a =>
  have e:(r.map aa).length=n:=%[ak|h r (aO ..)]
  rw[<- e]at q;exact#[_,rfl,q]
theorem WM(i:Nat):∀m,(range m).filter (λj=>decide (j=i))=if i<m then[i]else[]
 |0=>by rw[ZZ (WZ _)];rfl
 |m+1=>by
  rw[range_succ,List.filter_append,WM i m];by_cases e:m=i
  .subst e;rw[ZZ (X2 _),ZY (X0 _)];simp
  .rw[List.filter_cons_of_neg ↑e];by_cases c:i<m
   .rw[ZY c,ZY (WV _ c)];rfl
   .rw[ZZ c,ZZ vy];rfl
def zH:ST:=λb q=>∃(J:vx)(a:xt),b=[.lst (J.map Le),.lst (a.map aa)]/\J.length<=100/\(∀r∈J,r.length<=100)/\q (.l1 ((zipWith (λr c=>r++[c]) J a).map Le))
def Np(T:Tx D):gT 1 rO jQ zH:=yB T.Qk Nm (λ_ _=>bI (bR (cL (bH pH) uR uR ["row","right"] (Im T.OD (bA vt (bA vn bC))) (dY (n:=2) (bO (dH (i:=0)) (bO (dH (i:=1)) cT))) cj (bM dB vt (dg (bA vn bC))))))<|by
 rintro _ R ⟨J,d,rfl,h,g,q⟩;have j:(J.zip d).length<=J.length:=%[VZ|min_le_left ..]
 refine#[by unfold G3;rw[ak,VZ,ak,ak];exact aL (aL (min_le_left ..) h) vw,?_];rw[zip_map];refine comp_map (λp=>.tup [Le p.1,aa p.2]) (λp=>Le (p.1++[p.2])) (J.zip d) (λp e N M f=>#[rfl,?a,?b]) ?c
 case a =>
  have:=g _ (UX e).1;show(p.1.map aa).length+1<=sizeLine;rw[ak];exact aL (show _<=101 by exact succ_le_succ this) vw
 case b =>
  show N (.lst (p.1.map aa++[aa p.2]));rw[show(p.1.map aa++[aa p.2])=(p.1++[p.2]).map aa by rw[bf];rfl];exact f
 case c =>
  rw[map_zipWith]at q;rwa[List.zip,map_zipWith]
def Hr:ST:=λa q=>∃(m:Nat)(y:Nat->Rat),a=[.lst (Qn m y),.int m]/\m<=100/\q (.l1 ((range m).map λi:Nat=>.int i))
def U7(T:Tx D):gT 1 xM n8 Hr:=yB T.Yx Hw (λf _=>bG (gA 2 (dg bC))
  (bG (cY (bZ vt) (bW (n:=99) 3)
  (bG (oA (bH ud) Bx Bx ["column"] (c7 T.eG (bA vn bC)) (dH (i:=0)) (FW (cg (mX f.units) (bK vF vt) (mW T.lB T.ji))) vt (gU (i:=4) Hw.nd rfl (Or.inl rfl)))
  (bI (cB (cg Fj (bQ cH T.dz WJ (bA vF bC)) bF)
  (bI (pZ 2 (bK vF bF)))
  bV))))
  (bI (gC 2))))<|by
 rintro _ R ⟨m,y,rfl,h,q⟩;have sz:(1000:Nat)<=sizeLine:=by decide
 refine eF _ (range m) (λb o=>∃x z,o=[.fz (.lst (Qn m y)),.fz (.int m),.l1 (b.map λi:Nat=>.int i),x,z]) #[_,_,rfl] ?_ ?_
 .rintro b i r _ e ⟨x,z,rfl⟩;have g:i<m:=List.mem_range.mp (e ▸ by simp);have p:b.length<m:=by have:=ZH List.length e;rw[WP,aA,length_cons]at this;lia
  refine#[#[by lia,by lia],%[rng,ak,WP|aL (show _<=1000 by lia) sz],jL (λk:Nat=>.int (0+k)) (λj=>decide (j=i)) (λj=>.int (0+(j:Nat))) (range m) (λj a N M d l=>?_) ?_]
  .have a:=List.mem_range.mp a;show hName 0 (L2.T.int (0+((j:Nat):Int))) _ _;rw[show(0:Int)+((j:Nat):Int)=((j:Nat):Int)by lia]at d ⊢;refine#[_,cQ (VY (WV _ a)),?_];by_cases c:j=i
   .refine dI ?_ (d (Zs c));show xr true (_&&_)=true;rw[ZY a,ZY c.symm]
    rfl
   .refine cR ?_ (l (Zp c));show xr true (_&&_)=false;rw[ZY a,ZZ (Ne.symm c)]
    rfl
  .rw[WM,ZY g];refine#[_,rfl,by rw[ak];lia,.fz (.lst ((range (m+1)).map λj=>aa (if j<m then if i=j then 1 else 0 else y i))),.fz (.lst [.int (0+(i:Nat))]),?_];rw[bf];show[_,_,OT.l1 (b.map _++[L2.T.int (0+(i:Nat))]),_,OT.fz (.lst [L2.T.int (0+(i:Nat))])]=[_,_,OT.l1 (b.map _++[L2.T.int (i:Nat)]),_,_];rw[show(0:Int)+((i:Nat):Int)=((i:Nat):Int)by exact Int.zero_add _]
 .rintro _ ⟨x,z,rfl⟩;exact q
def NZ:ST:=λa q=>∃(m:Nat)(y:Nat->Rat),a=[.lst (Qn m y),.lst ((range m).map λi:Nat=>.int i),.int m]/\m<=100/\q (.fz .non)
def Zv(T:Tx D):gT 1 Em rH NZ:=yB T.acp Zz (λa _=>bG (cY (Q8 T.eG (bA (bQ cH T.dz WJ (bA vn bC)) (bA (bQ cH T.dz WJ (bA vt bC)) bC))) (bW (n:=99) 3)
  (bI (cB (cg (mX a.units) (bK (bK vt vi) ve) (mW T.lB T.ji))
  (bI (bR vi))
  bV)))
  (bI (bR fW)))<|by
 rintro _ R ⟨m,y,rfl,h,q⟩;have c:((range m).map λi:Nat=>L2.T.int i).length=m:=%[ak,WP|_]
 have b:(Qn m y).length=m:=by unfold Qn;rw[ak,WP]
 refine#[#[by lia,by lia,by lia,by lia],FQ (λ_ _=>True) _ 0 trivial (λi t o e z=>?_) λo _=>q];have:=(FK e).1;lia
def Gb:ST:=λa q=>∃(m:Nat)(y:Nat->Rat),a=[.lst (Qn m y),.lst ((range m).map λi:Nat=>.int i),.int m]/\m<=100/\q (.l1 ((range m).map λi=>aa (y i)))
def TX(T:Tx D):gT 1 yd mZ Gb:=yB T.W2 TY (λ_ _=>bG (gA 3 (bM cN (dg (bA (mW T.lB T.ji) bC)) ve))
  (bG (cY (qO T.gR (bA vn bC)) (dY (n:=2) (bO (bW (n:=99) 4) (bO (bW (n:=99) 5) cT)))
  (bI (pY 3 (bK (bK vt vF) ve) vS)))
  (bI (gC 3))))<|by
 rintro _ R ⟨m,y,rfl,h,q⟩;refine#[#[by lia,by lia,by show 1*_<=_;exact aL (show _<=100 by lia) vw],λz a=>?_];have a:z=(range m).map λi=>if i<0 then aa (y i)else aa 0:=by
  rw[a,q7];refine UU (by rw[aN,ak,WP];rfl) λn j g=>?_;rw[List.getElem_replicate,VW,ZZ (WZ _)]
  rfl
 subst a;refine q_ (λi:Nat=>.int i) (range m) (λk o=>∃x z,o=[.fz (.lst (Qn m y)),.fz (.lst ((range m).map λi:Nat=>.int i)),.fz (.int m),.l1 ((range m).map λi=>if i<k then aa (y i)else aa 0),x,z]) #[_,_,rfl] ?_ ?_
 .rintro k i _ e ⟨x,z,rfl⟩;have b:k<m:=by have:=(ao.mp e).1;rwa[WP]at this
  rw[VY b]at e;cases e;refine#[rfl,_,cQ (VY b),_,cQ (VY (X0 m)),k,vL (by rwa[ak,WP]),.fz (.int k),.fz (.int k),?_];have:((range m).map λi=>if i<k then aa (y i)else aa 0).set k (aa (if m<m then if k=m then 1 else 0 else y k))=(range m).map λi=>if i<k+1 then aa (y i)else aa 0:=by
   rw[ZZ (X2 _)];refine UU %[WH,ak,ak|_] λn j g=>?_;rw[getElem_set,VW,VW,Ts];by_cases c:k=n
   .rw[ZY c,ZY vy,c]
   .rw[ZZ c];by_cases d:n<k
    .rw[ZY d,ZY (WV _ d)]
    .rw[ZZ d,ZZ vy]
  rw[<- this]
  rfl
 .rintro _ ⟨x,z,rfl⟩;have:((range m).map λi=>if i<(range m).length then aa (y i)else aa 0)=(range m).map λi=>aa (y i):=UP λi f=>%[WP,ZY (List.mem_range.mp f)|_]
  rw[<- this]at q;exact q
open Rw (vr jG jo pK bb iT iQ vf nG Big sZ lD oX lW oY gP sg jK jq cC jZ kJ)
abbrev adu(J:vx)(aI:xt):vx:=zipWith (λr c=>r++[c]) J aI
def zJ:ST:=λb R=>∃(J:vx)(a:xt)(N:Nat),b=[.lst (J.map Le),.lst (a.map aa)]/\a.length=J.length/\(∀r∈J,r.length=J.length)/\Sys (adu J a) N/\∀y:Nat->Rat,(∀r∈adu J a,sg (λj=>r.getD j 0*y j) J.length=r.getD J.length 0)->(∀i,i<J.length->FnB ((2*J.length*N)^J.length) (y i))->R (.l1 ((range J.length).map λi=>aa (y i)))
def Lh(T:Tx D):gT 8 sW jJ zJ:=yB T.Pk Od (λ_ _=>bG (bT 2 (bJ (Yq T) (bA vt bC)))
  (bG (bT 3 (bK (bJ (aaC T) (bA (bJ (Np T) (bA vt (bA vn bC))) (bA ve bC))) bF))
  (bG (bT 4 (bJ (U7 T) (bA vi (bA ve bC))))
  (bG (cB (QW.qt (iJ (cg CQ (bQ cH T.dz WJ (bA vF bC)) ve) (gD (cg Fx (bJ (Zv T) (bA vi (bA vF (bA ve bC)))) fW))))
  (bI (bR fW))
  bV)
  (bI (bR (bJ (TX T) (bA vi (bA vF (bA ve bC))))))))))<|by
 rintro _ R ⟨J,c,N,rfl,k,d,h,g⟩;have b:(adu J c).length=J.length:=%[TR,k,VQ|_]
 have a:=h.few;rw[b]at a;refine#[J,J.length,rfl,d,λz=>by rw[z];rfl,J,c,rfl,a,λr j=>%[d r j|a],adu J c,N,?_,h,λl y f e=>?_]
 .rw[b];rfl
 .rw[b]at f e ⊢;have m:((range J.length).map λi:Nat=>L2.T.int i).length=J.length:=%[ak,WP|_]
  exact#[J.length,y,rfl,a,cR (Zp (by show ¬((((range J.length).map λi:Nat=>L2.T.int i).length:Nat):Int)<_;lia)) #[J.length,y,rfl,a,J.length,y,rfl,a,g y f e]]
open Rw (sg)
def z3(f:Nat->Nat->Rat)(m:Nat):vj:=(range m).map λi=>(range m).map λj=>aa (f i j)
def vX:xz->Nat->Rat
 |[],_=>0
 |w::u,j=>(if w.1=j then w.2 else 0)+vX u j
def vY:xN->xz
 |none=>[]
 |some o=>o.ways
structure WyB(s:Rat)(m:Nat)(u:xz):Prop where
 nd:(u.map (·.1)).Nodup
 few:u.length<=1000
 lt:∀w∈u,w.1<m
 bq:∀w∈u,Bq w.2/\Bd ((s.den:Int)*w.2.den)/\Bq (s*w.2)
def iD(s:Rat)(a:xF)(i j:Nat):Rat:=(if j=i then 1 else 0)-s*vX (vY (a.getD i none)) j
def G4:ST:=λb q=>∃(s:Rat)(a:xF),b=[aa s,.lst (a.map dS)]/\a.length<=100/\Bq s/\(∀o∈a,WyB s a.length (vY o))/\q (.l2 (z3 (iD s a) a.length))
def afl(f:Nat->Nat->Rat)(m:Nat):(z3 f m).length=m:=by unfold z3;rw[ak,WP]
def KP{f:Nat->Nat->Rat}(h:i<m):(z3 f m)[i]?\((range m).map λj=>aa (f i j)):=by
 unfold z3;rw[aq,VY h];rfl
def yt{f g:Nat->Nat->Rat}(h:∀i j,i<m->j<m->f i j=g i j):z3 f m=z3 g m:=UP λi b=>UP λj a=>%[h i j (List.mem_range.mp b) (List.mem_range.mp a)|_]
def afk{f g:Nat->Nat->Rat}{v:Rat}(h:∀a b,a<m->b<m->g a b=if a=i/\b=k then v else f a b):(z3 f m).set i (((range m).map λj=>aa (f i j)).set k (aa v))=z3 g m:=by
 unfold z3;refine UU %[WH,ak,ak|_] λa q o=>?_;have l:a<m:=by rw[ak,WP]at o;exact o
 rw[getElem_set];by_cases e:i=a
 .rw[ZY e,VW,Ts];refine UU %[WH,ak,ak|_] λb p n=>?_;have d:b<m:=by rw[ak,WP]at n;exact n
  rw[getElem_set,VW,VW,Ts,h a b l d];by_cases c:k=b
  .rw[ZY c,ZY #[e.symm,c.symm]]
  .rw[ZZ c,ZZ λz=>c z.2.symm,e]
 .rw[ZZ e,VW,VW,Ts];refine UP λb d=>?_;rw[h a b l (List.mem_range.mp d),ZZ λz=>e z.1.symm]
def ai3{f:Nat->Nat->Rat}(h:i<m):c3 (z3 f m) ((i:Nat):Int)\((range m).map λj=>aa (f i j)):=by
 show ef (z3 f m) i=_;rw[vB,KP h]
def afm(b:xz)(w:Nat×Rat)(j:Nat):vX (b++[w]) j=vX b j+if w.1=j then w.2 else 0:=by
 induction b with
 |nil=>show(_+(0:Rat))=0+_;grind
 |cons a b c=>show _+vX (b++[w]) j=(_+vX b j)+_;rw[c];grind
def acq(h:j∉u.map (·.1)):vX u j=0:=by
 induction u with
 |nil=>rfl
 |cons a c b =>
  show(if a.1=j then a.2 else 0)+vX c j=0;rw[b λz=>h (aJ _ z),ZZ λz=>h %[<- z|aO ..]]
  grind
def wL(s:Rat)(a:xF)(n:Nat)(b:xz)(i j:Nat):Rat:=if i<n then iD s a i j else if i=n then(if j=i then 1 else 0)-s*vX b j else if j=i then 1 else 0
def aii(s:Rat)(a:xF)(n i j:Nat):wL s a n [] i j=if i<n then iD s a i j else if j=i then 1 else 0:=by
 unfold wL;split
 .rfl
 .split
  .show _-s*0=_;grind
  .rfl
def _'{c:xF}(i j:Nat):wL s c n (vY (c.getD n none)) i j=if i<n+1 then iD s c i j else if j=i then 1 else 0:=by
 unfold wL;by_cases a:i<n
 .rw[ZY a,ZY (show i<n+1 by exact WV _ a)]
 .by_cases b:i=n
  .subst b;rw[ZZ a,ZY rfl,ZY (show i<i+1 by exact X0 _)]
   rfl
  .rw[ZZ a,ZZ b,ZZ (show ¬i<n+1 by lia)]
def Y0(s:Rat)(b:xF)(n:Nat)(a:xz)(j:Nat):wL s b n a n j=(if j=n then 1 else 0)-s*vX a j:=by unfold wL;rw[ZZ (X2 _),ZY rfl]
def TD{a:xF}(c b:xz)(j:Nat)(h:i≠n):wL s a n c i j=wL s a n b i j:=by unfold wL;rw[ZZ h,ZZ h]
def VF(T:Tx D):gT 4 xO nJ G4:=ya T.Yi λ{f Y}F=>by
 refine F.okT Tf (λ_ _=>bG (gA 2 (bJ (K_ T) (bA (bQ cH T.dz WJ (bA vn bC)) bC)))
  (bG (cY (qO T.gR (bA vn bC)) (dY (n:=2) (bO (bW (n:=99) 3) (bO (bW (n:=99) 4) cT)))
  (bI (cB (cg Fx vF fW)
  (bI (cY (bZ (bK vF bF)) (dY (n:=2) (bO (bW (n:=99) 5) (bO (bW (n:=99) 6) cT)))
  (bI (_U 2 (bJ (p4 T) (bA (ahj 2 vi vS) (bA (bJ (aeQ T) (bA vt (bA (qv 6) bC))) bC))) vi vS))))
  bV)))
  (bI (gC 2)))) ?_
 rintro _ R ⟨s,d,rfl,L,I,K,q⟩;refine#[d.length,?_,L,?_]
 .show[L2.T.int (((d.map dS).length:Nat):Int)]=_;rw[ak]
 .have S:∀x:Nat,((d.map dS).length:Nat)=d.length:=λ_=>ak _;refine q_ dS d (λn o=>∃x y z u,o=[.fz (aa s),.fz (.lst (d.map dS)),.l2 (z3 (λi j=>if i<n then iD s d i j else if j=i then 1 else 0) d.length),x,y,z,u]) #[.und,.und,.und,.und,?_] ?_ ?_
  .show[_,_,OT.l2 (z3 (λi j=>if j=i then 1 else 0) d.length),_,_,_,_]=_;rw[yt (f:=λi j=>if j=i then 1 else 0) (g:=λi j=>if i<0 then iD s d i j else if j=i then 1 else 0) λi j _ _=>%[ZZ (WZ _)|_]]
  .rintro n p _ e ⟨x,y,z,u,rfl⟩;have E:n<d.length:=(ao.mp e).1;have O:d.getD n none=p:=by rw[au,e];rfl
   have l:=K p (aC e);rw[show z3 (λi j=>if i<n then iD s d i j else if j=i then 1 else 0) d.length=z3 (wL s d n []) d.length from yt λi j _ _=>(aii s d n i j).symm];rw[show z3 (λi j=>if i<n+1 then iD s d i j else if j=i then 1 else 0) d.length=z3 (wL s d n (vY p)) d.length from yt λi j _ _=>by rw[<- O];exact(_' i j).symm];refine#[rfl,?_]
   match p,l with
   |none,l=>exact#[_,_,_,_,rfl]
   |some o,l =>
    refine eF cv o.ways (λh H=>∃z u,H=[.fz (aa s),.fz (.lst (d.map dS)),.l2 (z3 (wL s d n h) d.length),.fz (.int n),.fz (dm o),z,u]) #[_,_,rfl] ?_ ?_
    .rintro h ⟨k,c⟩ U _ G ⟨z,u,rfl⟩;have B:(k,c)∈o.ways:=G ▸ by simp
     have M:=l.lt _ B;let⟨Q,P,r⟩:=l.bq _ B;have J:k∉h.map (·.1):=λz=>by
      have C:=l.nd;rw[show vY (some o)=o.ways from rfl,G,bf]at C;exact(List.nodup_append.mp C).2.2 k z k vc rfl
     have m:wL s d n h n k=if k=n then 1 else 0:=by
      unfold wL;rw[ZZ (X2 _),ZY rfl,acq J]
      grind
     have A:Bq (wL s d n h n k)/\Bd (((wL s d n h n k).den:Int)*(s*c).den):=by
      rw[m];split
      .exact#[iA,by show Bd (1*_);rw[TZ];exact r.2]
      .exact#[kU,by show Bd (1*_);rw[TZ];exact r.2]
     refine#[rfl,_,(ai3 E),_,cQ (VY M),s,c,rfl,I,Q,P,_,_,rfl,A.1,r,A.2,n,_,vL (by rwa[afl]),KP E,k,vL (by rwa[ak,WP]),.fz (.int k),.fz (aa c),?_];rw[<- afk (f:=wL s d n h) (g:=wL s d n (h++[(k,c)])) (i:=n) (k:=k) (v:=wL s d n h n k-s*c) λa b _ _=>?_]
     .rfl
     .by_cases w:a=n
      .subst w;rw[Y0,afm];by_cases t:b=k
       .subst t;rw[ZY (show a=a/\b=b from#[rfl,rfl]),Y0,ZY (show(b,c).1=b from rfl)]
        grind
       .rw[ZZ (show ¬(a=a/\b=k)from λz=>t z.2),Y0,ZZ (show ¬(k,c).1=b from λz=>t z.symm)]
        grind
      .rw[ZZ (show ¬(a=n/\b=k)from λz=>w z.1)];exact TD _ _ _ w
    .rintro _ ⟨z,u,rfl⟩;exact#[_,_,_,_,rfl]
  .rintro _ ⟨x,y,z,u,rfl⟩;rw[show z3 (iD s d) d.length=z3 (λi j=>if i<d.length then iD s d i j else if j=i then 1 else 0) d.length from yt λi j N _=>by rw[ZY N]]at q;exact q
def eX{i:Int}(h:i.natAbs<18446744073709551616):Bd i:=aR h (aL (by decide:18446744073709551616<=2^64) (XU vw vw))
abbrev im(ns:xi):T:=.scr (ns.map T.int)
def Td:ST:=λa q=>∃(ns:xi)(k:Nat),a=[im ns,.int (k:Nat)]/\ns.length<=100/\q (.fz (.int (ns.getD k 0)))
def pB{b:Type}(h:Q->b)(l:List Q)(lo a:xn):fG (l.map h) lo a=(fG l lo a).map h:=by unfold fG;rw[ak,map_take,List.map_drop]
def aiJ(l:List Q)(k:Nat):fG l (some (k:Int)) (some ((k:Int)+1))=(l.drop k).take 1:=by
 unfold fG HT.sIx;show List.take ((if(k:Int)+1<0 then _ else min ((k:Int)+1).toNat l.length)-(if(k:Int)<0 then _ else min (k:Int).toNat l.length)) (List.drop (if(k:Int)<0 then _ else min (k:Int).toNat l.length) l)=_;rw[ZZ vy,ZZ (Int.not_lt_of_ge (X9 _))];by_cases h:k<l.length
 .rw[show min ((k:Int)+1).toNat l.length=k+1 by lia,show min (k:Int).toNat l.length=k by lia,show k+1-k=1 by exact JU _ _]
 .rw[show min (k:Int).toNat l.length=l.length by lia,List.drop_length,Th (VU h),take_nil,take_nil]
def hB(T:Tx D):gT 1 Ko Ci Td:=yB T.alj _R (λ_ _=>bI (bR (bK (bM dB (i_ vt (fZ vn) (fZ (bM dB vn bF))) (dg (bA bF bC))) bF)))<|by
 rintro _ R ⟨ns,k,rfl,a,q⟩;have e:fG (ns.map L2.T.int) (some (k:Int)) (some ((k:Int)+1))=((ns.drop k).take 1).map L2.T.int:=%[pB,aiJ|_]
 refine#[?_,.int (ns.getD k 0),?_,q]
 .show(fG (ns.map L2.T.int) (some (k:Int)) (some ((k:Int)+1))).length+1<=sizeLine;rw[e,ak,aY];exact aL (show _<=2 by lia) vw
 .show c3 (fG (ns.map L2.T.int) (some (k:Int)) (some ((k:Int)+1))++[L2.T.int 0]) 0=_;rw[e];by_cases h:k<ns.length
  .rw[QP h,List.take_succ_cons,au,aj h]
   rfl
  .rw[Th (VU h),au,aM (VU h)]
   rfl
def strN(c:Int):Nat->Int×Int
 |0=>((c%1999999973+31)*765432101%1999999973,if c<0\/10^18<=c then(c.natAbs:Int)else 0)
 |k+1=>(((strN c k).1*((strN c k).1%65521+40487)+7*(k:Int)+5)%1999999973,(strN c k).2.fdiv 1000000)
def z1(c:Int)(k:Nat):Int:=if 0<(strN c k).2 then(strN c k).2%1000000 else(strN c (k+1)).1
def ID(c:Int):∀k,0<=(strN c k).1/\(strN c k).1<1999999973
 |0=>#[Z3 _ vw,YY _ vw]
 |_+1=>#[Z3 _ vw,YY _ vw]
def ur(c:Int)(k:Nat):0<=z1 c k/\z1 c k<2000000000:=by
 unfold z1;have:=ID c (k+1);split<;>lia
abbrev jc(c:Int)(n:Nat):xi:=(range n).map (z1 c)
def oF:ST:=λa q=>∃(c:Int)(n:Nat),a=[.int c,.int (n:Nat)]/\n<=1000/\q (.l1 ((jc c n).map T.int))
def h5(T:Tx D):gT 1 mO gG oF:=yB T.aed acR (λ_ _=>bG (gA 2 (dg bC))
  (bG (bT 3 (bM cM (bM cN (bM dB (bM cM vt bF) bF) bF) bF))
  (bG (bT 4 bF)
  (bG (cB (QW.qt (iJ (cg CQ vt bF) (gD (cg p_ vt (bM VH bF bF)))))
  (bI (bT 4 (bQ Ol T.Xu boot_abs (bA vt bC))))
  bV)
  (bG (cY (c7 T.eG (bA vn bC)) (bW (n:=99) 5)
  (bG (bT 3 (bM cM (bM dB (bM dB (bM cN vi (bM dB (bM cM vi bF) bF)) (bM cN bF vS)) bF) bF))
  (bG (pZ 2 (bK (dg (bA vi (bA (bM cM vF bF) bC))) (qW TM T.aec boot_int (bA (kh Fj vF bF) bC))))
  (bI (bT 4 (bM mq vF bF))))))
  (bI (gC 2)))))))<|by
 rintro _ R ⟨c,n,rfl,e,q⟩;refine so (λo=>o=[.fz (.int c),.fz (.int (n:Nat)),.l1 [],.fz (.int (strN c 0).1),.fz (.int (strN c 0).2),.und]) ?_ λY d=>?_
 .rintro _ rfl;refine#[#[by lia,by lia],?_];refine jg (λk o=>∃x,o=[.fz (.int c),.fz (.int (n:Nat)),.l1 ((jc c k).map L2.T.int),.fz (.int (strN c k).1),.fz (.int (strN c k).2),x]) #[_,rfl] ?_ ?_
  .rintro k _ f ⟨x,rfl⟩;have b:=ID c k;refine#[by decide,#[eX vy,eX vy],#[eX vw,eX vy],by decide,by decide,.int (z1 c k),?_,?_,#[by decide,eX vw],.fz (.int k),?_]
   .by_cases h:0<(strN c k).2
    .rw[Zs h];unfold z1;rw[ZY h]
     rfl
    .rw[Zp h];unfold z1;rw[ZZ h]
     rfl
   .rw[ak,ak,WP];exact aR (show k<1001 by lia) vw
   .rw[show jc c (k+1)=jc c k++[z1 c k]by simp[jc,range_succ],bf]
    rfl
  .rintro _ ⟨x,rfl⟩;exact q
 .refine#[by decide,#[eX vy,eX vw],by decide,?_];refine eT (λh=>d _ ?_) λh=>#[#[by decide,by decide,by decide],eT (λa=>d _ ?_) λa=>d _ ?_]
  .show _=[_,_,_,_,OT.fz (L2.T.int (if c<0\/10^18<=c then(c.natAbs:Int)else 0)),_];rw[ZY (.inl h)]
   rfl
  .show _=[_,_,_,_,OT.fz (L2.T.int (if c<0\/10^18<=c then(c.natAbs:Int)else 0)),_];rw[ZY (.inr a)]
   rfl
  .show _=[_,_,_,_,OT.fz (L2.T.int (if c<0\/10^18<=c then(c.natAbs:Int)else 0)),_];rw[ZZ (λz=>z.elim h a)]
   rfl
def YH:ST:=λc q=>∃a b:Int,c=[.int a,.int b]/\q (.fz (.int (Int.gcd a b)))
def EF(T:Tx D):gT 1 UW Ie YH:=yB T.ao6 GB (λ_ _=>bG (Uk (bQ acZ T.adZ boot_sorted (bA (dg (bA (bQ Ol T.Xu boot_abs (bA vt bC)) (bA (bQ Ol T.Xu boot_abs (bA vn bC)) bC))) bC)) (WA (n:=2) rfl (bO (bW (n:=99) 2) (bO (bW (n:=99) 3) cT))))
  (bG (O5 (cg Fj ve bF)
  (bI (_k 2 3 rfl GB.nd vw (bA (bM cM vi ve) (bA ve bC)))))
  (bI (bR vi))))<|by
 rintro _ R ⟨a,b,rfl,q⟩;refine#[[(a.natAbs:Int),(b.natAbs:Int)],rfl,by simp,λe d j=>?_];obtain⟨l,h,rfl,c⟩ : ∃l h:Nat,e=[(l:Int),(h:Int)]/\Nat.gcd l h=Int.gcd a b:=by
  have g:=d.length_eq
  match e,g with
  |[x,y],_ =>
   have i:x=(a.natAbs:Int)\/x=(b.natAbs:Int):=↑(d.subset (aO ..))
   rcases i with rfl|rfl
   .have:=(List.perm_cons _).mp d;have:=List.perm_singleton.mp this;cases this;exact#[_,_,rfl,rfl]
   .have:=(List.perm_cons _).mp (d.trans (List.Perm.swap _ _ _));have:=List.perm_singleton.mp this;cases this;exact#[_,_,rfl,Nat.gcd_comm _ _]
 refine#[rfl,λm o=>∃(l h:Nat),o=[.fz (.int a),.fz (.int b),.fz (.int l),.fz (.int h)]/\Nat.gcd l h=Int.gcd a b/\m=l,#[_,_,_,rfl,c,rfl],?_];rintro m _ ⟨l,h,rfl,c,rfl⟩;refine eT (λf=>?_) λf=>?_
 .refine#[λo=>o=[.fz (.int a),.fz (.int b),.fz (.int ((h%m:Nat):Int)),.fz (.int m)],?_,?_]
  .rintro _ rfl;exact#[h%m,mod_lt _ vy,h%m,m,rfl,(Nat.gcd_rec m h).symm.trans c,rfl]
  .exact#[f,by rw[Int.natCast_emod];rfl]
 .have:m=0:=by lia
  subst this;rw[Nat.gcd_zero_left]at c;rw[<- c]at q;exact q
def HW:ST:=λc q=>∃a b:Int,c=[.int a,.int b]/\0<b/\Bd b/\q (.fz (aa (divInt a b)))
def l8(T:Tx D):gT 2 Cq qX HW:=yB T.adC ace (λ_ _=>bG (bT 2 (bJ (EF T) (bA vt (bA vn bC))))
  (bI (bR (d7 (bA (bM mq vt ve) (bA (bM mq vn ve) bC))))))<|by
 rintro _ R ⟨a,b,rfl,f,hd,q⟩;have d:b≠0:=by exact WS f
 have e:=o9 (a:=a) d;have g1:=qT (a:=a) d hd;refine#[_,_,rfl,#[by exact WS e,g1],#[by exact WS e,g1],?_];have l:=yZ (t:=a) d (c:=(Int.gcd a b:Nat)) (WS e) vy (XZ e f);rw[<- jV l d]at q;exact q
def iH(c:Nat):Bool:=decide (97<=c)&&decide (c<=122)
def tI:xy:=(Str.ofString "abcdefghijklmnopqrstuvwxyz").cps.toList
def YI:∀i:Fin 26,ef tI i.val\(97+i.val):=by decide +kernel
def pf{i:Int}(a:0<=i)(b:i<26):c3 tI i\(97+i.toNat):=by
 let⟨k,rfl⟩:=mS a;exact YI #[k,by lia]
def ZX(h:n<26):iH (97+n):=by
 unfold iH;rw[Zs (show 97<=97+n by exact X1 _ _),Zs (show 97+n<=122 by lia)];rfl
def qK(x:Str):x.cps.toList.length=x.length:=Array.length_toList
def JO(x y:Str):(x++y).cps.toList=x.cps.toList++y.cps.toList:=by
 show(x.cps++y.cps).toList=_;rw[Array.toList_append]
def aiT(x y:Str):(x++y).length=x.length+y.length:=by
 show(x.cps++y.cps).size=_;rw[Array.size_append];rfl
def Hd : (JT x none (some (n:Int))).cps.toList=x.cps.toList.take n:=by
 unfold JT;have a:x.cps.toList.length=x.length:=Array.length_toList;show((x.cps.toList.drop 0).take (HT.sIx x.length x.length (some (n:Int))-0))=_;rw[HT.Cd,drop_zero,sub_zero,<- a];rw[List.take_eq_take_iff];lia
def X5 : (JT x (some (n:Int)) none).cps.toList=x.cps.toList.drop n:=by
 unfold JT;have a:x.cps.toList.length=x.length:=Array.length_toList;show((x.cps.toList.drop (HT.sIx x.length 0 (some (n:Int)))).take (x.length-HT.sIx x.length 0 (some (n:Int))))=_;rw[HT.Cd,<- a];by_cases h:n<=x.cps.toList.length
 .rw[min_eq_left h];exact Q1 %[UR|aG _]
 .rw[Th (by lia:x.cps.toList.length<=n),Th vy,take_nil]
def IF{ys:List Q}{a b:Nat}(c:a<=b)(h:b<=ys.length):fG ys (some (a:Int)) (some (b:Int))=(ys.drop a).take (b-a):=by
 unfold fG;rw[HT.Cd,HT.Cd,min_eq_left h,min_eq_left (aL c h)]
def EO(h:x.cps.toList.all iH)(lo:1<=x.length)(a:x.length<=8):Wd x:=by
 unfold Wd lP;rwa[qK,Zs lo,Zs a]
structure i7(ns:Φ)(n:Nat):Prop where
 len:ns.length=n
 nd:ns.Nodup
 wd:∀x∈ns,Wd x
def Jn{R:Nat->Str->Prop}(h:∀(i:Nat)x,ns[i]?\x->R i x)(l:ns.length=n)(u:∀i j x,i<j->j<n->R i x->R j x->False):ns.Nodup:=by
 unfold Nodup;rw[List.pairwise_iff_getElem];intro i j c a b e;exact u i j ns[i] b (l ▸ a) (h i _ (aj c)) %[e|h j _ (aj a)]
def QL{g:HG}{c:RT}{e:RE}{q:xk->Prop}(R:Nat->Str->Prop)(n:Nat)(p:∀k,k<n->∀(N:T->Prop)(M:Prop),(∀x,R k x->N (.str x))->g (.int (k:Nat)) o λA=>c A λb=>sw b (e A λy=>N (frz y)) M)(k:∀ns:Φ,ns.length=n->(∀(i:Nat)x,ns[i]?\x->R i x)->q (ns.map T.str)):iG g c e o (rng 0 n) q:=by
 have G:∀(m j:Nat),j+m=n->∀(a:Φ),a.length=j->(∀(i:Nat)x,a[i]?\x->R i x)->∀{q:xk->Prop},(∀ns:Φ,ns.length=n->(∀(i:Nat)x,ns[i]?\x->R i x)->(∃d,ns=a++d/\q (d.map T.str))\/¬∃d,ns=a++d)->iG g c e o ((range' j m).map λk:Nat=>.int ((0:Int)+k)) q:=by
  intro m
  induction m with
  |zero =>
   intro j H a h r q s;rcases s a vy r with⟨d,e,z⟩|z
   .have:d=[]:=↑e
    rw[this]at z;exact z
   .exact absurd #[[],(append_nil a).symm] z
  |succ m C =>
   intro j H a h r q s;rw[List.range'_succ,map_cons];refine ac4 ?_;rw[Int.zero_add];refine p j vy (λt=>iG g c e o ((range' (j+1) m).map λk:Nat=>.int ((0:Int)+k)) λa=>q (t::a)) (iG g c e o ((range' (j+1) m).map λk:Nat=>.int ((0:Int)+k)) q) λx D=>?_;refine C (j+1) vy (a++[x]) (by simp[h]) (λi y f=>?_) λns l v=>?_
   .by_cases F:i<a.length
    .rw[aF F]at f;exact r i y f
    .have E:=(ao.mp f).1;rw[aA,length_singleton]at E;have:i=a.length:=by lia
     subst this;rw[aD (aG _),Nat.sub_self]at f;cases f;exact h ▸ D
   .by_cases z:∃d,ns=a++[x]++d
    .let⟨d,e⟩:=z;refine .inl #[d,e,?_];rcases s ns l v with⟨u,B,w⟩|z
     .rw[e,Wp]at B;have:=List.append_cancel_left B;rw[<- this]at w;exact w
     .exact absurd #[x::d,by rw[e,Wp];rfl] z
    .exact .inr z
 have:=G n 0 (U2 _) [] rfl (λi x z=>by cases z) (q:=q) λns l v=>.inl #[ns,rfl,k ns l v];rw[<- List.range_eq_range']at this;exact this
def tw(c:Nat)(i:Nat)(x:Str):Prop:=x.cps.toList=replicate (i+1) c
def jU(b:xy)(a:Nat)(c p:Int)(i:Nat)(x:Str):Prop:=x.cps.toList=b.take a++(97+((c+p*i)%26).toNat)::b.drop a
def agW{b:xy}{a:Nat}{c p:Int}(I:p=1\/p=3\/p=5\/p=7\/p=9\/p=11)(g:i<j)(h:j<26)(f:jU b a c p i x)(d:jU b a c p j x):False:=by
 have e:=f.symm.trans d;have e:=List.append_cancel_left e;injection e with e _;rcases I with rfl|rfl|rfl|rfl|rfl|rfl<;>omega
def _A{c:Nat}(b:iH c)(a:i<8)(h:tw c i x):Wd x:=by
 have l:=qK x;rw[h,aN]at l;refine EO ?_ vy vy;rw[h,all_eq_true];intro d hd;rwa[(List.mem_replicate.mp hd).2]
def VI{b:xy}{c:Nat}{e p:Int}(a:b.all iH)(f:b.length<=7)(h:jU b c e p i x):Wd x:=by
 have l:=qK x;rw[h,aA,length_cons,aY,UR]at l;refine EO ?_ vy (by omega);rw[h,all_eq_true];rw[all_eq_true]at a;intro d hd;rcases Y1.mp hd with hd|hd
 .exact a d (mem_of_mem_take hd)
 .rcases YU.mp hd with rfl|hd
  .exact ZX vy
  .exact a d (List.mem_of_mem_drop hd)
theorem Rh:∀(b:Φ)(a:Array Nat),(b.foldl (λa p=>a++(Str.ofString "").cps++p.cps) a).toList=a.toList++(b.map λy=>y.cps.toList).flatten
 |[],a=>by simp
 |y::b,a=>by
  have c:(Str.ofString "").cps = ↥[]:=by decide +kernel
  rw[foldl_cons,Rh b,c,Array.append_empty,Array.toList_append,map_cons,flatten_cons,Wp]
def oh(a:Φ):(Txt.join (Str.ofString "") a).cps.toList=(a.map λy=>y.cps.toList).flatten:=by
 show((a.drop 1).foldl (λb p=>b++(Str.ofString "").cps++p.cps) (a.headD Str.empty).cps).toList=_;rw[Rh];cases a with
 |nil=>rfl
 |cons y a=>rfl
def _h{c d:RT}{x y z:RS}{E:DT}(b:Bool)(h:∀q:Bool->Prop,q b->oy c d o q)(e:sw b (x { E with nx:=z E } o) (y { E with nx:=z E } o)):jY (B8 (oy c d) x y) z E o:=h (λk=>sw k (x { E with nx:=z E } o) (y { E with nx:=z E } o)) e
def WQ:ST:=λa q=>∃(c:Int)(n:Nat),a=[.int c,.int (n:Nat)]/\n<=26/\∀ns:Φ,i7 ns n->q (.l1 (ns.map T.str))
def iB{c:Int}(h:‹(k<n,2)›):c3 ((jc c n).map T.int) (k:Nat)\(.int (z1 c k)):=by
 show ef ((jc c n).map T.int) k=_;rw[vB,aq,aq,VY h];rfl
def F0(T:Tx D):gT 2 Oj A_ WQ:=yB T.ajb adO (λW _=>bG (bT 2 vm)
  (bG (bT 3 (bJ (h5 T) (bA vt (bA bF bC))))
  (bG (cB (QW.qt (xK (cg (z4 W.units) (bM cM (bK vi bF) bF) bF) (qF (cg Q_ vn bF))))
  (bI (bR (cL (bH Cu) xQ xQ ["_law_k"] (c7 T.eG (bA vn bC)) (dH (i:=0)) cj (bM cN (bK vi (bM cM (bK vF bF) bF)) (bM dB vt bF)))))
  bV)
  (bG (bT 4 (aiO vm (bA (cL (bH Cu) xQ xQ ["_law_x"] (bZ (i_ vi (fZ bF) (fZ (bM dB bF (bM cM (bK vi bF) bF))))) (dH (i:=0)) cj (bK vi (bM cM vt bF))) bC)))
  (bG (bT 5 (bM cM (bK vi bF) bF))
  (bG (bT 6 (bK (dg (bA bF (bA bF (bA bF (bA bF (bA bF (bA bF bC))))))) (bM cM (bK vi bF) bF)))
  (bI (bR (cL (bH Cu) xQ xQ ["_law_k"] (c7 T.eG (bA vn bC)) (dH (i:=0)) cj (bM dB (bM dB (i_ vS Gu (fZ (qv 6))) (bK vi (bM cM (bM dB (bK vF bF) (bM cN (qv 7) vt)) bF))) (i_ vS (fZ (qv 6)) Gu)))))))))))<|by
 rintro _ R ⟨c,n,rfl,O,q⟩;refine#[c,11,rfl,by decide,?_];have s0:=ur c 0;have s1:=ur c 1;have A:(Str.ofString "abcdefghijklmnopqrstuvwxyz").length<=sizeLine:=aL (show _<=1000 by decide +kernel) vw;have J:(rng 0 n).length<=sizeLine:=%[rng,ak,WP|aL O vw]
 dsimp only;refine _h (decide (z1 c 0%3=1)&&decide ((n:Int)<=8)) (λq v=>?_) ?_
 .refine#[_,iB (k:=0),by decide,?_];refine eT (λh=>?_) λh=>?_
  .rw[Zs h,Bool.true_and]at v;exact v
  .rw[Zp h,Bool.false_and]at v;exact v
 .refine er (λS=>?_) λS=>?_
  .simp only[JY,decide_eq_true_eq]at S;refine#[#[by lia,by lia],J,QL (tw (97+(z1 c 1%26).toNat)) n (λk X N M r=>?_) λns o s=>q ns #[o,Jn s o λi j x K Q C B=>?_,λx g=>?_]]
   .refine#[_,iB (k:=1),by decide,A,_,pf (Z3 _ vw) (YY _ vw),_,rfl,by lia,by lia,λz L=>r z ?_];rw[show((k:Int)+1).toNat=k+1 by lia]at L;exact L
   .have:=ZH List.length (C.symm.trans B);rw[aN,aN]at this;lia
   .let⟨i,w⟩:=aV g;have li:=(ao.mp w).1;exact _A (ZX vy) vy (s i x w)
  .obtain⟨m,Z,P⟩ : ∃m:Nat,z1 c 1%8=m/\m<=7:=#[(z1 c 1%8).toNat,by lia,by lia];have U:fG ((jc c 11).map L2.T.int) (some 2) (some (2+z1 c 1%8))=(((jc c 11).drop 2).take m).map L2.T.int:=by
    rw[Z,pB];have:=IF (ys:=jc c 11) (a:=2) (b:=2+m) (X1 _ _) (by rw[ak,WP];lia);rw[show 2+m-2=m by exact JU _ _]at this;exact ZH (List.map L2.T.int) this
   have u:(((jc c 11).drop 2).take m).length=m:=by rw[aY,UR,ak,WP];lia
   refine#[_,iB (k:=1),by decide,?_];dsimp only[frz];show(fG ((jc c 11).map L2.T.int) (some 2) (some (2+z1 c 1%8))).length<=sizeLine/\_;rw[U];have t:∀x∈((jc c 11).drop 2).take m,0<=x:=λx g=>by
    let⟨k,_,rfl⟩:=YV.mp (List.mem_of_mem_drop (mem_of_mem_take g));exact(ur c k).1
   generalize((jc c 11).drop 2).take m=f at u t ⊢;have e0:(Str.ofString "").length=0:=by decide +kernel
   refine#[%[ak,u|aL P vw],comp_map L2.T.int (λx=>.str #[↥[97+(x%26).toNat]]) f (λx g N M r=>#[by decide,A,_,pf (Z3 _ vw) (YY _ vw),r]) #[f.map λx=>#[↥[97+(x%26).toNat]],by rw[WU];rfl,?_,?_]]
   .rw[e0,Nat.mul_zero,Nat.add_zero,WU,show((λx:Str=>x.length) ∘ λx:Int=>(#[↥[97+(x%26).toNat]] : Str))=λ_=>1 from rfl,map_const',List.sum_replicate_nat];lia
   have F:(Txt.join (Str.ofString "") (f.map λx=>(#[↥[97+(x%26).toNat]] : Str))).cps.toList=f.map λx=>97+(x%26).toNat:=by
    rw[oh,WU]
    clear u t U
    induction f with
    |nil=>rfl
    |cons x f V=>rw[map_cons,flatten_cons,V];rfl
   have y:(Txt.join (Str.ofString "") (f.map λx=>(#[↥[97+(x%26).toNat]] : Str))).length<=7:=%[<- qK,F,ak|aL (WG u) P]
   have G:(f.map λx=>97+(x%26).toNat).all iH=true:=by
    rw[all_eq_true];intro d hd;let⟨x,g,rfl⟩:=YV.mp hd;exact ZX vy
   rw[<- F]at G;generalize Txt.join (Str.ofString "") (f.map λx=>(#[↥[97+(x%26).toNat]] : Str))=p at y G ⊢
   clear F
   have s9:=ur c 9;have kl:=ur c 10;obtain⟨l,E,rV⟩ : ∃l:Nat,z1 c 9%8=l/\l<=7:=#[(z1 c 9%8).toNat,by lia,by lia];obtain⟨sv,Y,I⟩ : ∃sv:Int,c3 [L2.T.int 1,L2.T.int 3,L2.T.int 5,L2.T.int 7,L2.T.int 9,L2.T.int 11] (z1 c 10%6)\(.int sv)/\(sv=1\/sv=3\/sv=5\/sv=7\/sv=9\/sv=11):=by
    obtain e|e|e|e|e|e:z1 c 10%6=0\/z1 c 10%6=1\/z1 c 10%6=2\/z1 c 10%6=3\/z1 c 10%6=4\/z1 c 10%6=5:=by lia
    .exact#[1,by rw[e];rfl,by decide]
    .exact#[3,by rw[e];rfl,by decide]
    .exact#[5,by rw[e];rfl,by decide]
    .exact#[7,by rw[e];rfl,by decide]
    .exact#[9,by rw[e];rfl,by decide]
    .exact#[11,by rw[e];rfl,by decide]
   have z7:(16:Nat)<=sizeLine:=by decide
   refine#[_,iB (k:=9),by decide,?_];dsimp only[frz];rw[E];refine#[_,iB (k:=10),by decide,_,Y,#[by lia,by lia],J,QL (jU p.cps.toList l (z1 c 0) sv) n (λk X N M r=>?_) λns o s=>q ns #[o,Jn s o λi j x K Q C B=>agW I K (aR Q O) C B,λx g=>?_]]
   .have t1:(JT p none (some (l:Int))).length<=7:=by rw[<- qK,Hd,aY,qK];lia
    have t2:(JT p (some (l:Int)) none).length<=7:=%[<- qK,X5,UR,qK|aL (sub_le _ _) y]
    have H:∀d:Nat,({ cps:=↥[d] } : Str).length=1:=λ_=>rfl;refine#[by exact aL y vw,_,iB (k:=0),#[eX vy,eX vy],by decide,A,_,pf (Z3 _ vw) (YY _ vw),by rw[H];lia,by exact aL y vw,by rw[aiT,H];lia,r _ ?_];unfold jU;rw[JO,JO,Hd,X5,Wp];rfl
   .let⟨i,w⟩:=aV g;exact VI G (by rwa[qK]) (s i x w)
def Ed(u:xz)(a:xi):Rat:=(u.map λw=>w.2*((a.getD w.1 0:Int):Rat)).sum
structure LB(u:xz)(tp:xi):Prop where
 few:u.length<=1000
 lt:∀w∈u,w.1<tp.length
 num:∀w∈u,Bd w.2.num
 lcm:Bd (d9 1 (u.map (·.2)):Nat)
 part:∀t∈tops (d9 1 (u.map (·.2))) (u.map (·.2)),Bd t
 top:∀t∈tp,Bd t
def zV:ST:=λb q=>∃(o:bN)(a:xi),b=[dm o,.lst (a.map T.int)]/\LB o.ways a/\q (.fz (aa (Ed o.ways a)))
theorem T3{B:Nat}(f:0<B)(a:xi):∀u:xz,(∀w∈u,w.2.den ∣ B)->divInt ((u.map λw=>w.2.num*((B/w.2.den:Nat):Int)*a.getD w.1 0).sum) B=Ed u a
 |[],_=>by
  show divInt 0 B=0;exact QR _
 |w::u,h=>by
  have c:=T3 f a u λx d=>h x (aJ _ d);show divInt (w.2.num*((B/w.2.den:Nat):Int)*a.getD w.1 0+(u.map λw=>w.2.num*((B/w.2.den:Nat):Int)*a.getD w.1 0).sum) B=w.2*((a.getD w.1 0:Int):Rat)+Ed u a;rw[<- c,TW,TW,Rat.intCast_add,XV];have e:((w.2.num*((B/w.2.den:Nat):Int):Int):Rat)/((B:Int):Rat)=w.2:=by
   let⟨k,b⟩:=h w (aO ..);have hd:=w.2.den_pos;rw[show B/w.2.den=k by rw[b];exact Nat.mul_div_cancel_left _ hd];have i:k≠0:=λz=>by rw[z]at b;lia
   rw[<- TW,b,Qr,Rat.divInt_mul_right vy];exact rd _
  have g:((B:Int):Rat)≠0:=λz=>by have:=Rat.intCast_eq_zero_iff.mp z;lia
  grind
def agL(u:List Q)(g h:Q->Int):((u.map g).zip u).map (λp=>p.1*h p.2)=u.map λw=>g w*h w:=by
 induction u with
 |nil=>rfl
 |cons w u a=>exact ZH (List.cons _) a
def Ma(T:Tx D):gT 3 rJ jN zV:=yB T.PN M6 (λ_ _=>bG (bT 2 (bJ (lI T) (bA (cL (bH lG) lC lC ["room","chance"] (bZ (bK vt bF)) (dY (n:=2) (bO (dH (i:=0)) (bO (dH (i:=1)) cT))) cj vn) bC)))
  (bI (bR (bJ (hD T) (bA (bQ (qB rfl) T.agf boot_sum (bA (cL (bH lG) lC lC ["part","way"] (Im T.OD (bA (bK ve bF) (bA (bK vt bF) bC))) (dY (n:=2) (bO (dH (i:=0)) (bO (dH (i:=1)) cT))) cj (bM cN vt (bK vi (bK vn bF)))) bC)) (bA (bK ve bF) bC))))))<|by
 rintro _ R ⟨o,d,rfl,h,q⟩;refine#[%[ak|aL h.few vw],comp_map cv (λw=>aa w.2) o.ways (λw hw N M c=>#[rfl,c]) ?_];have j:=iZ (o.ways.map (·.2)) UQ;refine#[o.ways.map (·.2),by rw[WU];rfl,%[ak|h.few],λr g=>?_,h.lcm,?_]
 .let⟨w,hw,rfl⟩:=YV.mp g;exact h.num w hw
 .refine#[by unfold G3;rw[ak,VZ,ak,ak];exact aL (aL (Nat.min_le_right ..) h.few) vw,?_];rw[zip_map];refine comp_map (λp:Int×(Nat×Rat)=>.tup [.int p.1,cv p.2]) (λp=>.int (p.1*d.getD p.2.1 0)) _ (λp e N M c=>?a) ?b
  case a =>
   have f:=(UX e).2;have lt:=h.lt _ f;have c:N (.int (p.1*d.getD p.2.1 0)):=c;rw[au,aj lt]at c;exact#[rfl,_,cQ (aj lt),#[h.part _ (UX e).1,h.top _ (aU lt)],c]
  case b =>
   refine#[((tops (d9 1 (o.ways.map (·.2))) (o.ways.map (·.2))).zip o.ways).map λp=>p.1*d.getD p.2.1 0,by rw[WU];rfl,_,_,rfl,by lia,h.lcm,λx y l=>?_];rw[jV l vy];unfold tops;rw[WU,agL o.ways _ λw=>d.getD w.1 0];have:=T3 j d o.ways λw hw=>(oE (o.ways.map (·.2))).2 w.2 (YV.mpr #[w,hw,rfl]);rw[<- this]at q;exact q
open Rw (sg jK jq cC jZ kJ Big)
def dw(u:xz)(x:Nat->Rat):Rat:=(u.map λw=>w.2*x w.1).sum
def Sw(u:xz):Rat:=(u.map (·.2)).sum
theorem dU(w:Nat×Rat)(u:xz)(x:Nat->Rat):dw (w::u) x=w.2*x w.1+dw u x:=rfl
theorem Cy(w:Nat×Rat)(u:xz):Sw (w::u)=w.2+Sw u:=rfl
theorem p3{M:Rat}{x:Nat->Rat} : ∀{u:xz},(∀w∈u,0<=w.2/\x w.1<=M)->dw u x<=Sw u*M
 |[],_=>by show(0:Rat)<=0*M;rw[Rat.zero_mul];exact W1
 |w::u,h=>by
  rw[dU,Cy];have:=p3 (u:=u) λv c=>h v (aJ _ c);let⟨a,b⟩:=h w (aO ..);have:=Rat.mul_le_mul_of_nonneg_left b a
  grind
theorem Fp{m:Nat}{x:Nat->Rat} : ∀{u:xz},(∀w∈u,w.1<m)->sg (λj=>vX u j*x j) m=dw u x
 |[],_=>by
  show sg (λj=>0*x j) m=0;rw[cC (g:=λ_=>0) λj _=>Rat.zero_mul _,jZ]
 |w::u,h=>by
  rw[dU,<- Fp (m:=m) (u:=u) λv a=>h v (aJ _ a)];rw[cC (g:=λj=>(if j=w.1 then 1 else 0)*(w.2*x j)+vX u j*x j) λj _=>?_,jK,kJ (v:=λj=>w.2*x j),ZY (h w (aO ..))];show((if w.1=j then w.2 else 0)+vX u j)*x j=_;by_cases e:w.1=j
  .rw[ZY e,ZY e.symm];grind
  .rw[ZZ e,ZZ (Ne.symm e)];grind
theorem V5(x:Nat->Rat):∀{m:Nat},0<m->∃i,i<m/\∀j,j<m->x j<=x i
 |0,h=>absurd h (WZ _)
 |1,_=>#[0,UQ,λj a=>%[show j=0 by exact Nat.eq_zero_of_le_zero (VX a)|W1]]
 |m+2,_=>by
  let⟨i,b,h⟩:=V5 x (m:=m+1) (TU _);by_cases c:x i<=x (m+1)
  .refine#[m+1,by exact X0 _,λj a=>?_];by_cases e:j=m+1
   .rw[e];exact W1
   .exact Rat.le_trans (h j (XX (VX a) e)) c
  .refine#[i,by exact Tk b (X0 _),λj a=>?_];by_cases e:j=m+1
   .rw[e];exact UK (Rat.not_le.mp c)
   .exact h j (XX (VX a) e)
def Ic{a:xF}{x:Nat->Rat}(b:i<a.length)(h:∀w∈vY (a.getD i none),w.1<a.length):sg (λj=>iD s a i j*x j) a.length=x i-s*dw (vY (a.getD i none)) x:=by
 rw[<- Fp h,cC (g:=λj=>(if j=i then 1 else 0)*x j+(-s)*(vX (vY (a.getD i none)) j*x j)) λj _=>by unfold iD;grind,jK,jq,kJ (v:=x),ZY b]
 grind
theorem Lq(x:Nat->Rat):∀u:xz,dw u (λj=>-(x j))=-(dw u x)
 |[]=>by show(0:Rat)=-0;grind
 |w::u=>by rw[dU,dU,Lq x u];grind
def acs(a:xt)(k:Nat):(((tops (d9 1 a) a).getD k 0:Int):Rat)=a.getD k 0*((d9 1 a:Nat):Rat):=by
 have h:=VL a k;unfold Rw.vr at h;have b:=iZ a UQ;have n:((((d9 1 a:Nat):Int)):Rat)≠0:=λz=>by have:=Rat.intCast_eq_zero_iff.mp z;lia
 have e:((((d9 1 a:Nat):Int)):Rat)=((d9 1 a:Nat):Rat):=rfl;rw[<- e,<- h];show _=(((tops (d9 1 a) a).getD k 0:Int):Rat)/_*_
 grind
theorem Cp(a:xt):∀u:xz,Ed u (tops (d9 1 a) a)=dw u (λk=>a.getD k 0)*((d9 1 a:Nat):Rat)
 |[]=>by show(0:Rat)=0*_;rw[Rat.zero_mul]
 |w::u=>by
  show w.2*(((tops (d9 1 a) a).getD w.1 0:Int):Rat)+Ed u _=_;rw[Cp a u,dU,acs]
  grind
theorem X6{x z:Nat->Rat} : ∀{u:xz},(∀w∈u,x w.1=z w.1)->dw u x=dw u z
 |[],_=>rfl
 |w::u,h=>%[dU,dU,h w (aO ..),X6 λv a=>h v (aJ _ a)|_]
theorem R0{x z:Nat->Rat} : ∀{u:xz},(∀w∈u,0<=w.2/\x w.1<=z w.1)->dw u x<=dw u z
 |[],_=>W1
 |w::u,h=>by
  rw[dU,dU];have:=R0 (u:=u) λv c=>h v (aJ _ c);let⟨a,b⟩:=h w (aO ..);have:=Rat.mul_le_mul_of_nonneg_left b a
  grind
theorem Jf(x z:Nat->Rat):∀u:xz,dw u (λj=>x j-z j)=dw u x-dw u z
 |[]=>by show(0:Rat)=0-0;grind
 |w::u=>by rw[dU,dU,dU,Jf x z u];grind
def FC{g:xj}(e:v[i]?\d):(bB g v).getD i none=d.bind λd=>(g.getD i [])[d]?:=by
 unfold bB;rw[au,aq,List.getElem?_zipIdx,e];simp
def k8(s:Rat)(a:xF):vx:=(range a.length).map λi=>(range a.length).map λj=>iD s a i j
def Nc(s:Rat)(a:xF):(z3 (iD s a) a.length).map T.lst=(k8 s a).map Le:=by
 unfold z3 k8;rw[WU,WU];refine UP λi _=>?_;show T.lst _=T.lst (List.map aa _);rw[WU]
 rfl
def _2{g:xj}(h:PlT g v):(bB g v).length=g.length:=by unfold bB;rw[ak,Tu,h.len]
def ah4{A Q:Nat}{r:xt}(e:1<=A)(d:0<Q)(h:∀c∈r,c.den ∣ Q/\c.num.natAbs<=A*c.den):Big (A*Q) (oU r):=by
 have f:=iZ r UQ;have hd:d9 1 r ∣ Q:=xX r (TH _) λc a=>(h c a).1;have le:=UY d hd;refine#[by show(0:Int)<(d9 1 r:Nat);lia,?_,λt b=>?_]
 .show((d9 1 r:Nat):Int).natAbs<=A*Q;rw[XT];exact aL le (mE _ e)
 .let⟨c,a,rfl⟩:=YV.mp b;rw[VT,XT];refine aL (Nat.mul_le_mul_right _ (h c a).2) ?_;rw[Nat.mul_assoc,Nat.mul_div_cancel' ((oE r).2 c a)];exact ku _ le
def cp(S:Nat->Bool)(d:xy):Bool:=d.any S
def jn:Bool->wE->(Nat->Bool)->Bool
 |false,l,S=>l.any (cp S)
 |true,l,S=>decide (0<l.length)&&l.all (cp S)
def Gr : jn false l S=true↔∃d∈l,∃r∈d,S r:=by simp[jn,cp,List.any_eq_true]
def Gx : jn true l S=true↔0<l.length/\∀d∈l,∃r∈d,S r:=by simp[jn,cp]
structure Lfp(e:Bool)(m:Nat)(mk:Nat->Bool)(ld:Nat->wE)(S:Nat->Bool):Prop where
 base:∀k,k<m->mk k=true->S k=true
 step:∀k,k<m->jn e (ld k) S=true->S k=true
 least:∀A:Nat->Bool,(∀k,k<m->mk k=true->A k=true)->(∀k,k<m->jn e (ld k) A=true->A k=true)->∀k,k<m->S k=true->A k=true
structure WyO(m:Nat)(o:bN):Prop where
 lt:∀w∈o.ways,w.1<m
 pos:∀w∈o.ways,0<w.2
 one:Sw o.ways=1
theorem FB{M:Rat}{x:Nat->Rat} : ∀{u:xz},(∀w∈u,0<w.2/\x w.1<=M)->(∃w∈u,x w.1<M)->dw u x<Sw u*M
 |[],_,e=>by let⟨_,z,_⟩:=e;cases z
 |w::u,h,e=>by
  rw[dU,Cy];let⟨p,l⟩:=h w (aO ..);have I:∀v∈u,0<v.2/\x v.1<=M:=λv b=>h v (aJ _ b);have a:=p3 (u:=u) (M:=M) (x:=x) λv b=>#[UK (I v b).1,(I v b).2];by_cases c:x w.1<M
  .have:=Rat.mul_lt_mul_of_pos_left c p
   grind
  .let⟨v,b,d⟩:=e;rcases YU.mp b with rfl|b
   .exact absurd d c
   .have:=FB I #[v,b,d];have:=Rat.mul_le_mul_of_nonneg_left l (UK p)
    grind
section
variable{m:Nat}{o:bN}{x:Nat->Rat}{M:Rat}
def WyO.le(h:WyO m o)(b:∀w∈o.ways,x w.1<=M):dw o.ways x<=M:=by
 have:=p3 (u:=o.ways) (M:=M) (x:=x) λv a=>#[UK (h.pos v a),b v a];rw[h.one]at this
 grind
def WyO.lt_(h:WyO m o)(b:∀w∈o.ways,x w.1<=M)(e:∃w∈o.ways,x w.1<M):dw o.ways x<M:=by
 have:=FB (u:=o.ways) (M:=M) (x:=x) (λv a=>#[h.pos v a,b v a]) e;rw[h.one]at this
 grind
def WyO.ge(h:WyO m o)(a:∀w∈o.ways,M<=x w.1):M<=dw o.ways x:=by
 have:=h.le (x:=λk=>-(x k)) (M:=-M) λw b=>by have:=a w b;grind
 rw[Lq]at this
 grind
def WyO.gt(h:WyO m o)(b:∀w∈o.ways,M<=x w.1)(e:∃w∈o.ways,M<x w.1):M<dw o.ways x:=by
 let⟨w,a,l⟩:=e;have:=h.lt_ (x:=λk=>-(x k)) (M:=-M) (λw a=>by have:=b w a;grind) #[w,a,by grind];rw[Lq]at this
 grind
end
def Tb(x:Nat->Rat)(h:0<m):∃i,i<m/\∀j,j<m->x i<=x j:=by
 let⟨i,b,k⟩:=V5 (λj=>-(x j)) h;exact#[i,b,λj a=>by have:=k j a;grind]
def _l(x:Nat->Rat)(L:Nat->Bool)(c:k<m)(g:L k):∃i,i<m/\L i/\∀j,j<m->L j=true->x i<=x j:=by
 let⟨b,o,f⟩:=V5 x (m:=m) vy;let⟨i,n,h⟩:=Tb (λj=>if L j then x j else x b+1) (m:=m) vy;have d:L i:=by
  cases e:L i with
  |true=>rfl
  |false =>
   have:=h k c;rw[e,g]at this;have:=f k c
   grind
 refine#[i,n,d,λj l a=>?_];have:=h j l;rw[d,a]at this;exact this
def d2:xN->wE
 |none=>[]
 |some o=>[o.ways.map (·.1)]
def Vq{c:xN}(h:jn false (d2 c) S):∃o,c\o/\∃w∈o.ways,S w.1:=by
 let⟨d,hd,r,a,I⟩:=Gr.mp h;cases c with
 |none=>cases hd
 |some o =>
  cases YR.mp hd;let⟨w,hw,rfl⟩:=YV.mp a;exact#[o,rfl,w,hw,I]
def Ku{o:bN}{w:Nat×Rat}(a:w∈o.ways)(h:S w.1):jn false (d2 (some o)) S:=Gr.mpr #[_,YR.mpr rfl,w.1,YV.mpr #[w,a,rfl],h]
section
variable{m:Nat}{mk S:Nat->Bool}{c:Nat->xN}
def mp(lf:Lfp false m mk (λk=>d2 (c k)) S)(hw:∀k,k<m->∀o,c k\o->WyO m o){d:Nat->Rat}(I:∀k,k<m->mk k=false->S k=true->d k<=dw (vY (c k)) d)(j:∀k,k<m->mk k=true->d k<=0)(f:∀k,k<m->S k=false->d k<=0):∀k,k<m->d k<=0:=by
 intro r u;let⟨i,h,b⟩:=V5 d (m:=m) vy;refine Rat.le_trans (b r u) (Rat.not_lt.mp λq=>?_);have y:=lf.least (λk=>decide (d k≠d i)) (λk a e=>Zs (λz=>by have:=j k a e;grind)) (λk a e=>Zs λz=>?_)
 .cases s:S i with
  |true=>exact of_decide_eq_true (y i h s) rfl
  |false=>have:=f i h s;grind
 .let⟨o,n,w,p,l⟩:=Vq e;have l:d w.1≠d i:=of_decide_eq_true l;have W:=hw k a o n;cases g:mk k with
  |true=>have:=j k a g;grind
  |false =>
   cases s:S k with
   |true =>
    have le:=I k a g s;rw[n]at le;have le:d k<=dw o.ways d:=le;have lt:=W.lt_ (M:=d i) (x:=d) (λv t=>b _ (W.lt v t)) #[w,p,by have:=b _ (W.lt w p);grind]
    grind
   |false=>have:=f k a s;grind
structure gW(m:Nat)(mk:Nat->Bool)(c:Nat->xN)(S:Nat->Bool)(x:Nat->Rat):Prop where
 lf:Lfp false m mk (λk=>d2 (c k)) S
 goal:∀k,k<m->mk k=true->x k=1
 mean:∀k,k<m->mk k=false->S k=true->x k=dw (vY (c k)) x
 no:∀k,k<m->S k=false->x k=0
variable{x:Nat->Rat}
def gW.nn(h:gW m mk c S x)(b:∀k,k<m->∀o,c k\o->WyO m o):∀k,k<m->0<=x k:=λk a=>by
 have:=mp h.lf b (d:=λk=>-(x k)) (λk a g s=>%[Lq,<- h.mean k a g s|W1]) (λk a g=>by rw[h.goal k a g];decide) (λk a s=>%[h.no k a s|W1]) k a
 grind
theorem G8:∀u:xz,Sw u=dw u λ_=>1
 |[]=>rfl
 |w::u=>%[Cy,dU,G8 u,Rat.mul_one|_]
def gW.le1(h:gW m mk c S x)(hw:∀k,k<m->∀o,c k\o->WyO m o):∀k,k<m->x k<=1:=λk a=>by
 have:=mp h.lf hw (d:=λk=>x k-1) (λk a g s=>by
  rw[Jf,<- G8];have e:=h.mean k a g s;cases b:c k with
  |none =>
   rw[b]at e;have e:x k=0:=e;show x k-1<=0-0;rw[e];grind
  |some o =>
   have W:=hw k a o b;rw[b]at e;show x k-1<=dw o.ways x-Sw o.ways;rw[W.one,e];exact W1) (λk a g=>by rw[h.goal k a g];grind) (λk a s=>by rw[h.no k a s];grind) k a
 grind
def gW.pos(h:gW m mk c S x)(hw:∀k,k<m->∀o,c k\o->WyO m o):∀k,k<m->S k=true->0<x k:=λk a s=>by
 have nn:=h.nn hw;refine of_decide_eq_true (h.lf.least (λk=>decide (0<x k)) (λk a g=>Zs (by rw[h.goal k a g];decide)) (λk a e=>Zs ?_) k a s);let⟨o,d,w,f,b⟩:=Vq e;have b:0<x w.1:=of_decide_eq_true b;have W:=hw k a o d;have u:S w.1:=by
  cases z:S w.1 with
  |true=>rfl
  |false=>have:=h.no _ (W.lt w f) z;grind
 cases g:mk k with
 |true=>rw[h.goal k a g];decide
 |false =>
  rw[h.mean k a g (h.lf.step k a %[d|Ku f u]),d];exact W.gt (M:=0) (x:=x) (λv i=>nn _ (W.lt v i)) #[w,f,b]
def gW.val(h:gW m mk c S x)(hw:∀k,k<m->∀o,c k\o->WyO m o)(e:k<m)(g:mk k=false){o:bN}(f:c k\o):x k=dw o.ways x:=by
 cases s:S k with
 |true=>rw[h.mean k e g s,f];rfl
 |false =>
  have W:=hw k e o f;have z:∀w∈o.ways,x w.1=0:=λw d=>h.no _ (W.lt w d) (by
   cases t:S w.1 with
   |false=>rfl
   |true =>
    have:=h.lf.step k e %[f|Ku d t];rw[s]at this;cases this)
  rw[h.no k e s];have a:=W.le (M:=0) (x:=x) λw d=>%[z w d|W1]
  have b:=W.ge (M:=0) (x:=x) λw d=>%[z w d|W1]
  grind
def TN(lf:Lfp false m mk (λk=>d2 (c k)) S)(h:∀k,k<m->∀o,c k\o->WyO m o)(f:∀k,k<m->x k=if mk k=false/\S k=true then dw (vY (c k)) x else 0):∀k,k<m->x k=0:=λk e=>by
 have a:=mp lf h (d:=x) (λk e g s=>%[f k e,ZY #[g,s]|W1]) (λk e g=>%[f k e,ZZ %[g|λz=>Bool.noConfusion z.1]|W1]) (λk e s=>%[f k e,ZZ %[s|λz=>Bool.noConfusion z.2]|W1]) k e;have b:=mp lf h (d:=λk=>-(x k)) (λk e g s=>%[Lq,f k e,ZY #[g,s]|W1]) (λk e g=>%[f k e,ZZ %[g|λz=>Bool.noConfusion z.1]|W1]) (λk e s=>%[f k e,ZZ %[s|λz=>Bool.noConfusion z.2]|W1]) k e
 grind
end
def b':Bool->Rat->Rat->Prop
 |false,a,b=>a<b
 |true,a,b=>b<a
structure Turn(e:Bool)(m:Nat)(mk:Nat->Bool)(x:Nat->Rat)(c c':Nat->xN):Prop where
 goal:∀k,k<m->mk k=true->c' k=c k
 none:∀k,k<m->c k=none->c' k=none
 turn:∀k,k<m->mk k=false->∀o,c k\o->∃p,c' k\p/\(c' k=c k\/b' e (dw o.ways x) (dw p.ways x))
section
variable{m:Nat}{mk S Z:Nat->Bool}{c c':Nat->xN}{g:Nat->wp}{x x':Nat->Rat}
def Turn.le(t:Turn false m mk x c c')(h:gW m mk c S x)(hw:∀k,k<m->∀o,c k\o->WyO m o)(d:k<m)(g:mk k=false){p:bN}(a:c' k\p):x k<=dw p.ways x:=by
 cases b:c k with
 |none=>rw[t.none k d b]at a;cases a
 |some o =>
  let⟨q,e,z⟩:=t.turn k d g o b;rw[a]at e;cases e;rw[h.val hw d g b];rcases z with z|z
  .rw[a,b]at z;cases z;exact W1
  .exact UK z
def Turn.nought(t:Turn false m mk x c c')(h:gW m mk c S x)(hw:∀k,k<m->∀o,c k\o->WyO m o)(N:∀k,k<m->∀o,c' k\o->WyO m o)(lf:Lfp false m mk (λk=>d2 (c' k)) Z):∀k,k<m->Z k=false->x k=0:=λE y D=>by
 let⟨i,F,u,n⟩:=_l (λj=>-(x j)) (λj=>!(Z j)) y (by rw[D];rfl);have u:Z i=false:=↑u
 have n:∀j,j<m->Z j=false->x j<=x i:=λj L H=>by have:=n j L (by rw[H];rfl);grind
 have K:=h.nn hw;have a:=n E y D;have b:=K E y;refine Classical.byContradiction λO=>?_;have J:0<x i:=by grind
 have I:S i:=by
  cases z:S i with
  |true=>rfl
  |false=>have:=h.no i F z;grind
 have G:=h.lf.least (λk=>Z k || decide (x k≠x i)) (λk f g=>by rw[lf.base k f g];rfl) (λk f e=>?_) i F I
 .rw[u]at G;exact of_decide_eq_true (show decide (x i≠x i)=true from G) rfl
 .let⟨o,B,w,d,A⟩:=Vq e;cases s:Z k with
  |true=>rfl
  |false =>
   refine Zs λz=>?_;have g:mk k=false:=by
    cases g:mk k with
    |false=>rfl
    |true=>rw[lf.base k f g]at s;cases s
   let⟨p,q,l⟩:=t.turn k f g o B;have W:=N k f p q;have out:∀w∈p.ways,Z w.1=false:=λw d=>by
    cases r:Z w.1 with
    |false=>rfl
    |true =>
     have:=lf.step k f %[q|Ku d r];rw[s]at this;cases this
   have le:=t.le h hw f g q;have up:=W.le (M:=x i) (x:=x) λw d=>n _ (W.lt w d) (out w d);have v:=h.val hw f g B;rcases l with l|l
   .rw[q,B]at l;cases l;have C:=out w d;rw[C]at A;have A:x w.1≠x i:=of_decide_eq_true ↑A;have lt:=W.lt_ (M:=x i) (x:=x) (λw d=>n _ (W.lt w d) (out w d)) #[w,d,by have:=n _ (W.lt w d) C;grind]
    grind
   .have l:dw o.ways x<dw p.ways x:=l
    grind
def Turn.up(t:Turn false m mk x c c')(h:gW m mk c S x)(b:gW m mk c' Z x')(hw:∀k,k<m->∀o,c k\o->WyO m o)(i:∀k,k<m->∀o,c' k\o->WyO m o):(∀k,k<m->x k<=x' k)/\∀k,k<m->c' k≠c k->x k<x' k:=by
 have z:=t.nought h hw i b.lf;have le:∀k,k<m->x k<=x' k:=λk a=>by
  have:=mp b.lf i (d:=λk=>x k-x' k) (λk a g s=>by
   rw[Jf,<- b.mean k a g s];cases f:c' k with
   |none =>
    have e:=b.mean k a g s;have p:=b.pos i k a s;rw[f]at e;have e:x' k=0:=e
    grind
   |some p =>
    have:=t.le h hw a g f;show x k-x' k<=dw p.ways x-x' k
    grind) (λk a g=>by rw[h.goal k a g,b.goal k a g];grind) (λk a s=>by rw[z k a s,b.no k a s];grind) k a
  grind
 refine#[le,λk a l=>?_];have g:mk k=false:=by
  cases g:mk k with
  |false=>rfl
  |true=>exact absurd (t.goal k a g) l
 cases j:c k with
 |none=>exact absurd ((t.none k a j).trans j.symm) l
 |some o =>
  let⟨p,f,n⟩:=t.turn k a g o j;have n:dw o.ways x<dw p.ways x:=n.resolve_left l;have W:=i k a p f;rw[h.val hw a g j,b.val i a g f];have:=R0 (u:=p.ways) (x:=x) (z:=x') λw q=>#[UK (W.pos w q),le _ (W.lt w q)]
  grind
def Turn.down(t:Turn true m mk x c c')(h:gW m mk c S x)(i:gW m mk c' Z x')(hw:∀k,k<m->∀o,c k\o->WyO m o)(j:∀k,k<m->∀o,c' k\o->WyO m o):(∀k,k<m->x' k<=x k)/\∀k,k<m->c' k≠c k->x' k<x k:=by
 have y:=h.nn hw;have A:∀k,k<m->mk k=false->∀p,c' k\p->dw p.ways x<=x k:=λk a g p b=>by
  cases f:c k with
  |none=>rw[t.none k a f]at b;cases b
  |some o =>
   let⟨q,r,z⟩:=t.turn k a g o f;rw[b]at r;cases r;rw[h.val hw a g f];rcases z with z|z
   .rw[b,f]at z;cases z;exact W1
   .exact UK z
 have le:∀k,k<m->x' k<=x k:=λk a=>by
  have:=mp i.lf j (d:=λk=>x' k-x k) (λk a g s=>by
   rw[Jf,<- i.mean k a g s];cases b:c' k with
   |none =>
    have e:=i.mean k a g s;have p:=i.pos j k a s;rw[b]at e;have e:x' k=0:=e
    grind
   |some p =>
    have:=A k a g p b;show x' k-x k<=x' k-dw p.ways x
    grind) (λk a g=>by rw[h.goal k a g,i.goal k a g];grind) (λk a s=>by rw[i.no k a s];have:=y k a;grind) k a
  grind
 refine#[le,λk a l=>?_];have g:mk k=false:=by
  cases g:mk k with
  |false=>rfl
  |true=>exact absurd (t.goal k a g) l
 cases f:c k with
 |none=>exact absurd ((t.none k a f).trans f.symm) l
 |some o =>
  let⟨p,b,n⟩:=t.turn k a g o f;have n:dw p.ways x<dw o.ways x:=n.resolve_left l;have W:=j k a p b;rw[h.val hw a g f,i.val j a g b];have:=R0 (u:=p.ways) (x:=x') (z:=x) λw v=>#[UK (W.pos w v),le _ (W.lt w v)]
  grind
structure gx(e:Bool)(m:Nat)(mk:Nat->Bool)(g:Nat->wp)(x:Nat->Rat):Prop where
 ok:∀k,k<m->mk k=false->∀o∈g k,¬b' e (x k) (dw o.ways x)
def c6(mk:Nat->Bool)(g:Nat->wp)(k:Nat):wE:=if mk k then[]else(g k).map λo=>o.ways.map (·.1)
def adY{S:Nat->Bool}(h:jn true (c6 mk g k) S):mk k=false/\g k≠[]/\∀o∈g k,∃w∈o.ways,S w.1:=by
 let⟨b,h⟩:=Gx.mp h;unfold c6 at b h;cases a:mk k with
 |true=>rw[a,ZY rfl]at b;cases b
 |false =>
  rw[a,ZZ vw]at b h;refine#[rfl,(λz=>by rw[z]at b;cases b),λo d=>?_];let⟨r,c,I⟩:=h _ (YV.mpr #[o,d,rfl]);let⟨w,e,rfl⟩:=YV.mp c;exact#[w,e,I]
end
section
variable{m:Nat}{mk S Z F L R:Nat->Bool}{c c':Nat->xN}{g:Nat->wp}{x y:Nat->Rat}
structure K2(m:Nat)(g:Nat->wp)(c:Nat->xN):Prop where
 mem:∀k,k<m->∀o,c k\o->o∈g k
 non:∀k,k<m->g k≠[]->∃o,c k\o
def stay(H:Nat->wE)(L:Nat->Bool)(k:Nat):wE:=(H k).filter λd=>d.all L
end
abbrev c2(l:xf):L2.T:=.lst (l.map L2.T.bl)
abbrev a_(k:Nat):L2.T:=.int (k:Nat)
abbrev az(l:xy):L2.T:=.lst (l.map a_)
abbrev jH(l:wE):L2.T:=.lst (l.map az)
def a'(C:xy)(k:Nat):Bool:=decide (k∈C)
def bP(m:Nat)(C:xy):xf:=(range m).map (a' C)
def vP(m:Nat)(C:xy):(bP m C).length=m:=by unfold bP;rw[ak,WP]
def IY{g:Nat} : (bP m C).set g true=bP m (C++[g]):=by
 unfold bP a';refine UU %[WH,ak,ak|_] λk b a=>?_;rw[getElem_set,VW,Ts,VW,Ts];by_cases e:g=k
 .rw[ZY e,e];exact(Zs vc).symm
 .rw[ZZ e];exact decide_eq_decide.mpr (by simp;intro z;exact absurd z.symm e)
def uK(D:ba):ST:=λb q=>∃(s:Rat)(ns:Φ)(g:xj)(C:xy),b=[b7 D s ns g,az C]/\Fz ns g/\(∀a∈C,a<ns.length)/\q (.l1 ((bP ns.length C).map L2.T.bl))
def Pj(T:Tx D):gT 3 jk gq (uK D):=yB T.GX Dd (λ_ _=>bG (gA 2 (bM cN (dg (bA fH bC)) (sU vt T.gB T.j_ (Uh T) (KS:=iu))))
  (bG (cY (bZ vn) (bW (n:=99) 3)
  (bG (m7 (yj vt T.gB T.lZ (P0 T) (bA vi bC) (KS:=iu)))
  (bI (pY 2 fH vi))))
  (bI (gC 2))))<|by
 rintro _ R ⟨s,ns,g,C,rfl,h,d,q⟩;have f:=h.few;refine#[#[rfl,rfl],s,ns,g,rfl,#[by lia,by lia,by show 1*_<=_;exact aL (show _<=1000 by lia) vw],λz b=>?_];have b:z=(bP ns.length []).map L2.T.bl:=by
  rw[b,show((replicate (((ns.length:Nat):Int)).toNat [frz (OT.fz (L2.T.bl false))]).flatten)=replicate ns.length (L2.T.bl false)from q7];unfold bP;rw[WU];refine UU %[aN,ak,WP|_] λk j i=>?_;rw[List.getElem_replicate,VW]
  rfl
 rw[b];refine eF a_ C (λc o=>∃x,o=[.fz (b7 D s ns g),.fz (az C),.l1 ((bP ns.length c).map L2.T.bl),x]) #[_,rfl] ?_ ?_
 .rintro c a l _ e ⟨x,rfl⟩;have lt:a<ns.length:=d a (by rw[e];simp);refine#[#[rfl,rfl],s,ns,g,a,rfl,lt,a,?_,.fz (a_ a),?_]
  .unfold dj;rw[ak,vP,ZY (X9 _),ZY vy]
   rfl
  .rw[<- IY,UH]
   rfl
 .rintro _ ⟨x,rfl⟩;exact q
abbrev mkG(mk:xf)(k:Nat):Bool:=mk.getD k false
abbrev uc(g:xj)(k:Nat):wp:=g.getD k []
def dV(mk:xf)(g:xj):vk:=(range mk.length).map (c6 (mkG mk) (uc g))
def Jx(D:ba):ST:=λa q=>∃(s:Rat)(ns:Φ)(g:xj)(mk:xf),a=[b7 D s ns g,c2 mk]/\Fz ns g/\mk.length=ns.length/\(∀l∈g,∀o∈l,o.ways.length<=1000)/\q (.l1 ((dV mk g).map jH))
def Xk(T:Tx D):gT 4 Bl pI (Jx D):=ya T.Y4 λ{f Y}F=>by
 refine F.okT Xi (λ_ _=>bG (gA 2 (dg bC))
  (bG (cY (qO T.gR (bA vn bC)) (dY (n:=2) (bO (bW (n:=99) 3) (bO (bW (n:=99) 4) cT)))
  (bG (bT 5 (Ho (cJ vF) (dg bC) (yj vt T.gB T.jF (kf T) (bA vi bC) (KS:=iu))))
  (bI (pZ 2 (cL (bH tD) sX sX ["offer"] (bZ vS) (dH (i:=0)) cj (KZ (bH tD) ("offer"::sX) ("offer"::sX) ["behind","chance"] (bZ (bK vt bF)) (dY (n:=2) (bO (dH (i:=0)) (bO (dH (i:=1)) cT))) cj vt))))))
  (bI (gC 2)))) ?_
 rintro _ R ⟨s,ns,g,mk,rfl,h,C,u,q⟩;have v:=h.few;refine q_ L2.T.bl mk (λk o=>∃x y z,o=[.fz (b7 D s ns g),.fz (c2 mk),.l1 ((range k).map λj=>jH (c6 (mkG mk) (uc g) j)),x,y,z]) #[.und,.und,.und,rfl] ?_ ?_
 .rintro k b _ e ⟨x,y,z,rfl⟩;have E:k<mk.length:=(ao.mp e).1;have l:k<g.length:=by have:=h.len;lia
  have p:=aj l;have B:mkG mk k=b:=by show mk.getD k false=b;rw[au,e];rfl
  have A:uc g k=g[k]:=by show g.getD k []=_;rw[au,p];rfl
  have Y:=h.fews _ (aU l);have t:((range k).map λj=>jH (c6 (mkG mk) (uc g) j)).length<sizeLine:=%[ak,WP|aR (show _<1001 by lia) vw]
  refine#[rfl,?_];dsimp only[EM,hName,AG];refine sq (λo=>o=[.fz (b7 D s ns g),.fz (c2 mk),.l1 ((range k).map λj=>jH (c6 (mkG mk) (uc g) j)),.fz (a_ k),.fz (.bl b),.fz (.lst ((if b then[]else g[k]).map dm))]) ?_ λa m=>?_
  .rintro _ rfl;have r:∀o∈(if b then[]else g[k]),o∈g[k]:=λo c=>by
    cases b with
    |true=>cases c
    |false=>exact c
   refine#[by rw[ak];refine aL (show _<=1000 from ?_) vw;cases b;exact Y;exact aZ _,comp_map dm (λo=>az (o.ways.map (·.1))) _ (λo c N M d=>?_) #[t,.fz (a_ k),.fz (.bl b),.fz (.lst ((if b then[]else g[k]).map dm)),?_]]
   .refine#[%[ak|aL (u _ (aU l) o (r o c)) vw],comp_map cv (λw=>a_ w.1) o.ways (λw hw N M d=>#[rfl,d]) ?_];rw[show az (o.ways.map (·.1))=.lst (o.ways.map λw=>a_ w.1)by unfold az;rw[WU];rfl]at d;exact d
   .rw[range_succ,bf];show _=[_,_,OT.l1 (_++[jH (c6 (mkG mk) (uc g) k)]),_,_,_];unfold c6;rw[B,A];cases b with
    |true=>rfl
    |false =>
     show _=[_,_,OT.l1 (_++[L2.T.lst ((g[k].map λo=>o.ways.map (·.1)).map az)]),_,_,_];rw[WU]
     rfl
  .cases b with
   |true=>exact m _ rfl
   |false=>exact#[#[rfl,rfl],s,ns,g,k,_,rfl,h,p,m _ rfl]
 .rintro _ ⟨x,y,z,rfl⟩;unfold dV at q;rw[WU]at q;exact q
def d_(p:zI)(k:Nat):Bool:=(p.getD k none).isSome
def E_:ST:=λa q=>∃(d:xy)(p:zI),a=[az d,.lst (p.map dT)]/\d.length<=1000/\(∀r∈d,r<p.length)/\q (.fz (.bl (cp (d_ p) d)))
def qk(T:Tx D):gT 1 zB tZ E_:=yB T.agU agC (λ_ _=>bI (bR (bQ (Zg rfl) T.agH boot_any (bA (cL (bH Kp) RK RK ["room"] (bZ vt) (dH (i:=0)) cj (kh Fx (bK ve vt) fW)) bC))))<|by
 rintro _ R ⟨d,p,rfl,c,hd,q⟩;refine#[%[ak|aL c vw],comp_map a_ (λr=>.bl (d_ p r)) d (λr h N M a=>?_) #[d.map (d_ p),by rw[WU];rfl,?_]]
 .have g:=hd r h;have f:=aj g;refine#[_,cQ f,?_];have a:N (.bl ((p.getD r none).isSome)):=a;rw[au,f]at a;cases e:p[r]with
  |none=>rw[e]at a;exact a
  |some n=>rw[e]at a;exact a
 .show R (.fz (.bl ((d.map (d_ p)).any λb=>b)));rwa[U1]
def n7:Bool->Str
 |false=>sy
 |true=>tR
def pR(e:Bool):ST:=λa q=>∃(l:wE)(p:zI),a=[jH l,.lst (p.map dT)]/\l.length<=1000/\(∀d∈l,d.length<=1000/\∀r∈d,r<p.length)/\q (.fz (.bl (jn e l (d_ p))))
def Y8(T:Tx D):gT 2 sy oJ (pR false):=yB T.acz YJ (λ_ _=>bI (bR (bQ (Zg rfl) T.agH boot_any (bA (cL (bH CG) IK IK ["door"] (bZ vt) (dH (i:=0)) cj (bJ (qk T) (bA vt (bA ve bC)))) bC))))<|by
 rintro _ R ⟨l,p,rfl,a,hd,q⟩;refine#[%[ak|aL a vw],comp_map az (λd=>.bl (cp (d_ p) d)) l (λd c N M e=>#[d,p,rfl,(hd d c).1,(hd d c).2,e]) #[l.map (cp (d_ p)),by rw[WU];rfl,?_]];show R (.fz (.bl ((l.map (cp (d_ p))).any λb=>b)));rwa[U1]
def Zr(T:Tx D):gT 2 tR oK (pR true):=yB T.ab4 YK (λ_ _=>bI (bR (vp (kh Fj (bQ cH T.dz WJ (bA vt bC)) bF) (Bt (bQ (V9 rfl) T.aaI boot_all (bA (cL (bH Cv) Iw Iw ["door"] (bZ vt) (dH (i:=0)) cj (bJ (qk T) (bA vt (bA ve bC)))) bC))))))<|by
 rintro _ R ⟨l,p,rfl,a,hd,q⟩;have q:R (.fz (.bl (decide (0<l.length)&&l.all (cp (d_ p))))):=q;by_cases c:0<l.length
 .rw[Zs c]at q;refine dI (Zs (by rw[ak];lia)) #[%[ak|aL a vw],comp_map az (λd=>.bl (cp (d_ p) d)) l (λd e N M f=>#[d,p,rfl,(hd d e).1,(hd d e).2,f]) #[l.map (cp (d_ p)),by rw[WU];rfl,?_]];show R (.fz (.bl ((l.map (cp (d_ p))).all λb=>b)));rwa[all_map]
 .rw[Zp c]at q;exact cR (Zp (by rw[ak];lia)) q
abbrev g9(H:vk)(k:Nat):wE:=H.getD k []
structure Steps(e:Bool)(mk:xf)(H:vk)(p:zI):Prop where
 len:p.length=mk.length
 zero:∀k,k<mk.length->(p.getD k none\0↔mkG mk k=true)
 lf:Lfp e mk.length (mkG mk) (g9 H) (d_ p)
structure ih(m:Nat)(H:vk):Prop where
 len:H.length=m
 few:∀l∈H,l.length<=1000
 ok:∀l∈H,∀d∈l,d.length<=1000/\∀r∈d,r<m
def zX(b:Str->Ω):ST:=λa q=>∃(e:Bool)(v:Addr)(mk:xf)(H:vk),a=[c2 mk,.lst (H.map jH),.val (.ref v)]/\b (n7 e)=some (.ref v)/\mk.length<=100/\ih mk.length H/\∀p:zI,Steps e mk H p->q (.l1 (p.map dT))
def c_(S:Nat->Bool):Nat->Nat
 |0=>0
 |n+1=>c_ S n+if S n then 0 else 1
theorem ZV{S Z:Nat->Bool} : ∀{n:Nat},(∀k,k<n->S k=true->Z k=true)->c_ Z n<=c_ S n
 |0,_=>aG _
 |n+1,h=>by
  have a:=ZV (n:=n) λk c=>h k (WV _ c);have b:=h n (X0 _);show c_ Z n+(if Z n then 0 else 1)<=c_ S n+if S n then 0 else 1;cases e:S n with
  |true=>rwa[b e]
  |false=>refine Nat.add_le_add a ?_;split<;>simp
theorem TJ{S Z:Nat->Bool}{k:Nat}(s:S k=false)(g:Z k):∀{n:Nat},k<n->(∀k,k<n->S k=true->Z k=true)->c_ Z n<c_ S n
 |0,d,_=>absurd d (WZ _)
 |n+1,d,h=>by
  show c_ Z n+(if Z n then 0 else 1)<c_ S n+if S n then 0 else 1;by_cases c:k=n
  .subst c;have a:=ZV (n:=k) λj f=>h j (Tk f d);rw[s,g];show c_ Z k+0<c_ S k+1;lia
  .have a:=TJ s g (n:=n) (XX (VX d) c) λj f=>h j (WV _ f);have b:=h n (X0 _);cases e:S n with
   |true=>rwa[b e]
   |false=>exact aR (Nat.add_lt_add_right a _) (Nat.add_le_add_left (by split<;>simp) _)
def d3(p:zI)(cm:xy)(n:Nat):zI:=p.zipIdx.map λa=>if a.2∈cm then some n else a.1
def qI : (d3 p cm n).length=p.length:=by unfold d3;rw[ak,Tu]
def Ve(a:k<p.length):(d3 p cm n).getD k none=if k∈cm then some n else p.getD k none:=by
 unfold d3;rw[au,aq,aj (show k<p.zipIdx.length by rwa[Tu]),Q2,au,aj a];show(if 0+k∈cm then some n else p[k])=_;rw[U2]
 rfl
def KW : d3 p [] n=p:=by
 refine UU %[qI|_] λk b a=>?_;have:=Ve (cm:=[]) (n:=n) a;rw[au,aj b,au,aj a,ZZ vc]at this;exact this
def ad1{r:Nat} : (d3 p cm n).set r (some n)=d3 p (cm++[r]) n:=by
 refine UU %[WH,qI,qI|_] λk g f=>?_;have d:k<p.length:=by rw[qI]at f;exact f
 have a:=Ve (cm:=cm) (n:=n) d;have b:=Ve (cm:=cm++[r]) (n:=n) d;rw[au,aj (by rwa[qI])]at a b;rw[getElem_set];have a:(d3 p cm n)[k]'(by rwa[qI])=_:=a;have b:(d3 p (cm++[r]) n)[k]'(by rwa[qI])=_:=b;rw[a,b];by_cases e:r=k
 .rw[ZY e,ZY (by simp[e])]
 .rw[ZZ e];by_cases c:k∈cm
  .rw[ZY c,ZY (US _ c)]
  .rw[ZZ c,ZZ (by simp[c];exact λz=>e z.symm)]
structure SI(e:Bool)(mk:xf)(H:vk)(p:zI)(cm:xy):Prop where
 len:p.length=mk.length
 zero:∀k,k<mk.length->(p.getD k none\0↔mkG mk k=true)
 low:∀A:Nat->Bool,(∀k,k<mk.length->mkG mk k=true->A k=true)->(∀k,k<mk.length->jn e (g9 H k) A=true->A k=true)->∀k,k<mk.length->d_ p k=true->A k=true
 fin:cm=[]->∀k,k<mk.length->jn e (g9 H k) (d_ p)=true->d_ p k=true
def KN{e:Bool}{A:Nat->Bool}(h:∀d∈l,∀r∈d,S r->A r=true)(f:jn e l S):jn e l A:=by
 cases e with
 |false =>
  let⟨d,hd,r,c,I⟩:=Gr.mp f;exact Gr.mpr #[d,hd,r,c,h d hd r c I]
 |true =>
  let⟨a,b⟩:=Gx.mp f;exact Gx.mpr #[a,λd hd=>let⟨r,c,I⟩:=b d hd;#[r,c,h d hd r c I]]
def Qb{e:Bool} : jn e l (λ_=>false)=false:=by
 cases h:jn e l (λ_=>false)with
 |false=>rfl
 |true =>
  cases e with
  |false=>let⟨d,hd,r,c,I⟩:=Gr.mp h;cases I
  |true =>
   let⟨a,b⟩:=Gx.mp h;cases l with
   |nil=>cases a
   |cons d l=>let⟨r,c,I⟩:=b d (aO ..);cases I
def HI{H:vk}(h:ih m H){d:xy}(hd:d∈g9 H k):d.length<=1000/\∀r∈d,r<m:=by
 have hd:d∈H.getD k []:=hd;rw[au]at hd;cases e:H[k]? with
 |none=>rw[e]at hd;cases hd
 |some l=>rw[e]at hd;exact h.ok l (aC e) d hd
def da(e:Bool)(H:vk)(p:zI):xy:=(H.zipIdx.filter λa=>(p.getD a.2 none).isNone&&jn e a.1 (d_ p)).map (·.2)
def Gm{e:Bool}{H:vk}(i:ih m H) : k∈da e H p↔k<m/\d_ p k=false/\jn e (g9 H k) (d_ p):=by
 unfold da;constructor
 .intro h;let⟨c,f,rfl⟩:=YV.mp h;let⟨f,o⟩:=List.mem_filter.mp f;let⟨r,d,q⟩:=List.mem_zipIdx f;rw[U2]at d;have g:c.1=H[c.2]'d:=by rw[q];congr 1
  let⟨a,b⟩:=Bool.and_eq_true_iff.mp o;refine#[%[<- i.len|d],?_,?_]
  .unfold d_;cases z:p.getD c.2 none with
   |none=>rfl
   |some n=>rw[z]at a;cases a
  .show jn e (H.getD c.2 []) _=_;rwa[au,aj d,<- g]
 .rintro⟨j,a,b⟩;have j:k<H.length:=by rwa[i.len]
  refine YV.mpr #[(H[k],k),List.mem_filter.mpr #[?_,?_],rfl]
  .have:=aU (l:=H.zipIdx) (n:=k) (by rwa[Tu]);rw[Q2,U2]at this;exact this
  .have b:jn e (H.getD k []) (d_ p):=b;rw[au,aj j]at b;unfold d_ at a;refine Bool.and_eq_true_iff.mpr #[?_,b];cases z:p.getD k none with
   |none=>rfl
   |some n=>rw[z]at a;cases a
def SI.next{e:Bool}{H:vk}(h:SI e mk H p cm)(i:ih mk.length H):SI e mk H (d3 p (da e H p) (n+1)) (da e H p)/\(da e H p≠[]->c_ (d_ (d3 p (da e H p) (n+1))) mk.length<c_ (d_ p) mk.length)/\c_ (d_ (d3 p (da e H p) (n+1))) mk.length<=c_ (d_ p) mk.length:=by
 have m:∀k,k<mk.length->(d3 p (da e H p) (n+1)).getD k none=if k∈da e H p then some (n+1)else p.getD k none:=λk f=>Ve (by rwa[h.len]);have o:∀k,k<mk.length->d_ (d3 p (da e H p) (n+1)) k=(decide (k∈da e H p) || d_ p k):=λk f=>by
  unfold d_;rw[m k f];by_cases c:k∈da e H p
  .rw[ZY c,Zs c];rfl
  .rw[ZZ c,Zp c];rfl
 have q:∀k,k<mk.length->d_ p k=true->d_ (d3 p (da e H p) (n+1)) k=true:=λk f s=>%[o k f,s,Bool.or_true|_]
 refine#[#[%[qI,h.len|_],λk f=>?_,λA a b k f s=>?_,λz k f u=>?_],λw=>?_,ZV q]
 .rw[m k f];by_cases c:k∈da e H p
  .rw[ZY c];let⟨_,s,_⟩:=(Gm i).mp c;refine#[λz=>(nomatch z),λg=>?_];have:=(h.zero k f).mpr g;unfold d_ at s;rw[this]at s;cases s
  .rw[ZZ c];exact h.zero k f
 .rw[o k f]at s;rcases Bool.or_eq_true_iff.mp s with s|s
  .let⟨_,_,j⟩:=(Gm i).mp (of_decide_eq_true s);exact b k f (KN (λd hd r x v=>h.low A a b r ((HI i hd).2 r x) v) j)
  .exact h.low A a b k f s
 .rw[z,KW]at u ⊢;cases s:d_ p k with
  |true=>rfl
  |false =>
   have:=(Gm (e:=e) (p:=p) i).mpr #[f,s,u];rw[z]at this;cases this
 .obtain⟨k,f⟩ : ∃k,k∈da e H p:=by
   cases c:da e H p with
   |nil=>exact absurd c w
   |cons k l=>exact#[k,aO ..]
  let⟨t,s,_⟩:=(Gm i).mp f;exact TJ s (by rw[o k t,Zs f];rfl) t q
def Xn(T:Tx D):gT 3 ug mV (zX mg):=ya T.Z0 λF=>by
 refine F.okU BP λai A L s j E w nd=>?_;have GV:∀b,∃G,gT 2 (n7 b) G (pR b):=λb=>by
  cases b
  .exact#[_,(Y8 T)]
  .exact#[_,(Zr T)]
 refine#[_,(bG (gA 3 (cL (bH oV) rE rE ["mark"] (bZ vt) (dH (i:=0)) cj (Ho (cJ vt) bF fW)))
  (bG (oA (bH oV) rE ["marks","leads","joins","steps","coming","many","?room"] ["room","mark"] (qO T.gR (bA vt bC)) (dY (n:=2) (bO (dH (i:=0)) (bO (dH (i:=1)) cT))) (FW (cJ vn)) vt (gU (i:=4) BP.nd rfl (Or.inl rfl)))
  (bG (bT 5 bF)
  (bG (O5 (cg Fj (bQ cH T.dz WJ (bA vF bC)) bF)
  (bG (GY 5 G1 bF)
  (bG (oA (bH oV) rE ["marks","leads","joins","steps","coming","many","?room"] ["room","doors"] (qO T.gR (bA vn bC)) (dY (n:=2) (bO (dH (i:=0)) (bO (dH (i:=1)) cT))) (FW (QW.qt (xK (cg yc (uN 5 vt) fW) (qF (Ih 5 (cJ (RQ 5 (Yj (mg:=mg) (k:=2) (nm:=n7) (S:=pR) 4 GV w.md (bA vn (bA vS bC)))))))))) vt (gU (i:=4) BP.nd rfl (Or.inl rfl)))
  (bI (cY (bZ vF) (bW (n:=99) 6)
  (bI (pY 3 vS (qv 6))))))))
  (bI (gC 3)))))),?_]
 rintro _ R ⟨e,v,mk,H,rfl,hv,m1,u,q⟩;have B:∀{Q:Type}{l:List Q},l.length<=mk.length->l.length<=sizeLine:=λ{Q l}h=>aL h (aL m1 vw);have Z:∀k,k<mk.length->(mk.map λb=>if b then some 0 else none).getD k none=if mkG mk k then some 0 else none:=λk m=>by
  show _=if mk.getD k false then some 0 else none;rw[au,aq,au,aj m]
  rfl
 have W:∀k,k<mk.length->d_ (mk.map λb=>if b then some 0 else none) k=mkG mk k:=λk m=>by
  unfold d_;rw[Z k m];cases mkG mk k<;>rfl
 have O:SI e mk H (mk.map λb=>if b then some 0 else none) ((mk.zipIdx.filter (·.1)).map (·.2)):=by
  refine#[ak ..,λk m=>?_,λA a b k m s=>a k m %[<- W k m|s],λz k m hj=>?_]
  .rw[Z k m];cases mkG mk k with
   |true=>exact#[λ_=>rfl,λ_=>rfl]
   |false=>exact#[λz=>(nomatch z),λz=>(nomatch z)]
  .have no:∀r,r<mk.length->mkG mk r=false:=λr w=>by
    cases g:mkG mk r with
    |false=>rfl
    |true =>
     have g:mk.getD r false:=g;rw[au,aj w]at g;have:r∈(mk.zipIdx.filter (·.1)).map (·.2):=YV.mpr #[(mk[r],r),List.mem_filter.mpr #[by
      have:=aU (l:=mk.zipIdx) (n:=r) (by rwa[Tu]);rw[Q2,U2]at this;exact this,g],rfl]
     rw[z]at this;cases this
   have:=KN (A:=λ_=>false) (λd hd r w V=>by
    have X:=(HI u hd).2 r w;rw[W r X,no r X]at V;cases V) hj
   rw[Qb]at this;cases this
 refine#[B %[ak|aG _],comp_map L2.T.bl (λb=>dT (if b then some 0 else none)) mk (λb _ N M hN=>by cases b<;>exact hN) ?_];rw[show(mk.map λb=>dT (if b then some 0 else none))=(mk.map λb=>if b then some 0 else none).map dT by rw[WU];rfl];show(uh (mk.map L2.T.bl)).length<=sizeLine/\iG _ _ _ _ (uh (mk.map L2.T.bl)) _;rw[Nj];refine#[B %[ak,Tu|aG _],jL (λf:Bool×Nat=>.tup [.int (f.2:Nat),.bl f.1]) (·.1) (λf=>a_ f.2) mk.zipIdx (λf _ N M I y=>#[rfl,er I y]) ?_];generalize mk.map (λb=>if b then some 0 else none)=J at O ⊢;rw[show((mk.zipIdx.filter (·.1)).map λf=>a_ f.2)=((mk.zipIdx.filter (·.1)).map (·.2)).map a_ by rw[WU];rfl];generalize(mk.zipIdx.filter (·.1)).map (·.2)=P at O ⊢;refine#[λn o=>∃(p:zI)(cm:xy)(C:Nat)(x:OT),o=[.fz (c2 mk),.fz (.lst (H.map jH)),.fz (.val (.ref v)),.l1 (p.map dT),.fz (az cm),.fz (a_ C),x]/\SI e mk H p cm/\n=c_ (d_ p) mk.length+if cm=[]then 0 else 1,#[_,J,P,0,.und,rfl,O,rfl],?_];rintro n _ ⟨p,cm,C,x,rfl,t,rfl⟩;refine eT (λhc=>?_) λhc=>?_
 .have ne:cm≠[]:=λz=>by rw[z]at hc;exact absurd hc vw
  let⟨i1,i2,i3⟩:=t.next (n:=C) u;refine#[λo=>∃x,o=[.fz (c2 mk),.fz (.lst (H.map jH)),.fz (.val (.ref v)),.l1 ((d3 p (da e H p) (C+1)).map dT),.fz (az (da e H p)),.fz (a_ (C+1)),x],?_,?_]
  .rintro _ ⟨x,rfl⟩;refine#[_,?_,_,_,_,x,rfl,i1,rfl];rw[ZZ ne];by_cases c:da e H p=[]
   .rw[ZY c];lia
   .rw[ZZ c];have:=i2 c;exact Nat.succ_lt_succ this
  .show(uh (H.map jH)).length<=sizeLine/\iG _ _ _ _ (uh (H.map jH)) _;rw[Nj];refine#[B %[ak,Tu,u.len|aG _],jL (λf:List xy×Nat=>.tup [.int (f.2:Nat),jH f.1]) (λf=>(p.getD f.2 none).isNone&&jn e f.1 (d_ p)) (λf=>a_ f.2) H.zipIdx (λf hp N M I y=>#[rfl,?_]) ?_]
   .let⟨_,lp,ep⟩:=List.mem_zipIdx hp;rw[U2]at lp;have ls:f.2<p.length:=by rwa[t.len,<- u.len]
    have Y:=aj ls;have K:f.1∈H:=%[ep|aU _]
    refine#[_,cQ Y,?_];rw[au,Y]at I y;cases z:p[f.2]with
    |some k=>rw[z]at y;exact y rfl
    |none =>
     rw[z]at I y;refine#[e,hv,f.1,p,rfl,u.few _ K,λd hd=>#[(u.ok _ K d hd).1,λr w=>%[t.len|(u.ok _ K d hd).2 r w]],?_];exact#[trivial,er (λz=>I (by rw[z];rfl)) λz=>y (by rw[z];rfl)]
   .rw[show((H.zipIdx.filter λf=>(p.getD f.2 none).isNone&&jn e f.1 (d_ p)).map λf=>a_ f.2)=(da e H p).map a_ by unfold da;rw[WU];rfl];refine eF a_ (da e H p) (λas o=>∃x,o=[.fz (c2 mk),.fz (.lst (H.map jH)),.fz (.val (.ref v)),.l1 ((d3 p as (C+1)).map dT),.fz (az (da e H p)),.fz (a_ (C+1)),x]) #[x,by rw[KW];rfl] ?_ ?_
    .rintro as r bs _ ea ⟨x,rfl⟩;let⟨rm,_,_⟩:=(Gm u).mp (show r∈da e H p by rw[ea];simp);refine#[r,?_,.fz (a_ r),?_]
     .unfold dj;rw[ak,qI,t.len,ZY (X9 _),ZY vy]
      rfl
     .rw[<- ad1,UH]
      rfl
    .rintro _ ⟨x,rfl⟩;exact#[x,rfl]
 .have ce:cm=[]:=by
   cases cm with
   |nil=>rfl
   |cons a l=>exact absurd (show(0:Int)<((((a::l).map a_).length:Nat):Int)by rw[ak,length_cons];lia) hc
  refine q p #[t.len,t.zero,#[λk m g=>?_,t.fin ce,t.low]];have:=(t.zero k m).mpr g;unfold d_;rw[this]
  rfl
theorem jC{Q:Type}{g:Q->PyData}(h:∀x,PyData.canLay0 (g x)):∀E:List Q,PyData.canLayAll0 (E.map g)
 |[]=>rfl
 |x::E=>by rw[map_cons];unfold PyData.canLayAll0;rw[jC h E,h x];rfl
theorem mF{Q:Type}{g:Q->PyData}{n:Nat}(h:∀x,PyData.depth (g x)<=n):∀E:List Q,PyData.depthAll (E.map g)<=n
 |[]=>aZ _
 |x::E=>by
  rw[map_cons];unfold PyData.depthAll;have:=mF h E;have:=h x;lia
theorem kZ{Q:Type}{g:Q->PyData}{h:Q->T}(e:∀x,h x=dc (g x)):∀E:List Q,E.map h=Tt (E.map g)
 |[]=>rfl
 |x::E=>by rw[map_cons,map_cons,kZ e E,e x];rfl
theorem Ni{Q:Type}[DecidableEq Q]{g:Q->PyData}(h:∀x y,PyData.eqv (g x) (g y)=decide (x=y)):∀E a:List Q,PyData.eqvAll (E.map g) (a.map g)=decide (E=a)
 |[],[]=>rfl
 |[],_::_=>rfl
 |_::_,[]=>rfl
 |x::E,y::a=>by
  rw[map_cons,map_cons];unfold PyData.eqvAll;rw[h,Ni h E a,<- decide_and];exact decide_eq_decide.mpr #[λz=>%[z.1,z.2|_],λz=>List.cons.inj z]
structure EqD{Q:Type}[DecidableEq Q](h:Q->T)(g:Q->PyData):Prop where
 of:∀x,h x=dc (g x)
 lay:∀x,PyData.canLay0 (g x)
 dep:∀x,PyData.depth (g x)<=60
 eqv:∀x y,PyData.eqv (g x) (g y)=decide (x=y)
def EqD.lst{Q:Type}[DecidableEq Q]{h:Q->T}{g:Q->PyData}(a:EqD h g)(E:List Q):SeqAt.shaped (.list (E.map g)):=by
 have c:PyData.canLay0 (.list (E.map g)):=by unfold PyData.canLay0;exact jC a.lay E
 have b:PyData.depth (.list (E.map g))<=64:=by unfold PyData.depth;have:=mF a.dep E;lia
 unfold SeqAt.shaped;rw[c,Zs b];rfl
def dD:xS->PyData
 |none=>.none
 |some d=>.int (d:Nat)
def Mu:EqD dT dD:=#[λx=>by cases x<;>rfl,λx=>by cases x<;>rfl,λx=>by cases x<;>exact aZ _,λx y=>by
 cases x<;>cases y
 .rfl
 .rfl
 .rfl
 .rename_i a b
  show decide ((a:Int)=(b:Int))=_;exact decide_eq_decide.mpr #[λz=>%[Int.ofNat.inj z|_],λz=>%[Option.some.inj z|_]]]
def _m{g:xj}(i:mk.length=m)(q:g.length=m)(Y:∀l∈g,l.length<=1000)(j:∀l∈g,∀o∈l,o.ways.length<=1000)(hw:∀l∈g,∀o∈l,WyO m o):ih mk.length (dV mk g):=by
 have f:∀k,k<mk.length->(c6 (mkG mk) (uc g) k).length<=1000/\∀d∈c6 (mkG mk) (uc g) k,d.length<=1000/\∀r∈d,r<m:=λk b=>by
  have a:k<g.length:=by lia
  have n:uc g k=g[k]:=by show g.getD k []=_;rw[au,aj a];rfl
  unfold c6;rw[n];cases mkG mk k with
  |true=>exact#[aZ _,λ_ z=>(nomatch z)]
  |false =>
   refine#[%[ZZ vw,ak|Y _ (aU a)],λd hd=>?_];let⟨o,e,rfl⟩:=YV.mp hd;refine#[%[ak|j _ (aU a) o e],λr h=>?_];let⟨w,p,rfl⟩:=YV.mp h;exact(hw _ (aU a) o e).lt w p
 refine#[by unfold dV;rw[ak,WP],λl c=>?_,λl c=>?_]
 .let⟨k,b,rfl⟩:=YV.mp c;exact(f k (List.mem_range.mp b)).1
 .let⟨k,b,rfl⟩:=YV.mp c;rw[i];exact(f k (List.mem_range.mp b)).2
def qR{g:xj}(a:k<mk.length):g9 (dV mk g) k=c6 (mkG mk) (uc g) k:=by
 show(dV mk g).getD k []=_;unfold dV;rw[au,aq,VY a]
 rfl
def Lfp.ld{e:Bool}{m:Nat}{mk:Nat->Bool}{H d:Nat->wE}{S:Nat->Bool}(h:Lfp e m mk H S)(f:∀k,k<m->H k=d k):Lfp e m mk d S:=#[h.base,λk c j=>h.step k c (by rwa[f k c]),λA a b=>h.least A a λk c j=>b k c (by rwa[<- f k c])]
def Lfp.marks{e:Bool}{mk c:Nat->Bool}{H:Nat->wE}(h:Lfp e m mk H S)(f:∀k,k<m->mk k=c k):Lfp e m c H S:=#[λk d g=>h.base k d (by rwa[f k d]),h.step,λA a b=>h.least A (λk d g=>a k d (by rwa[<- f k d])) b]
structure HlW(ns:Φ)(g:xj):Prop where
 h:Fz ns g
 few:ns.length<=100
 fw:∀l∈g,∀o∈l,o.ways.length<=1000
 wy:∀l∈g,∀o∈l,WyO ns.length o
abbrev iS(ns:Φ)(C:xy):Prop:=∀g∈C,g<ns.length
def HS(a:k<m):mkG (bP m C) k=a' C k:=by
 show(bP m C).getD k false=_;unfold bP;rw[au,aq,VY a]
 rfl
def HlW.ld{g:xj}(h:HlW ns g)(C:xy):ih (bP ns.length C).length (dV (bP ns.length C) g):=_m (vP _ _) h.h.len h.h.fews h.fw h.wy
def acB{mk a:Nat->Bool}{g:Nat->wp}(h:mk k=a k):c6 mk g k=c6 a g k:=by unfold c6;rw[h]
def Steps.hall{e:Bool}{g:xj}(h:Steps e (bP m C) (dV (bP m C) g) p):Lfp e m (a' C) (c6 (a' C) (uc g)) (d_ p):=by
 have:=h.lf;rw[vP]at this;exact(this.ld λk a=>(qR (by rwa[vP])).trans (acB (HS a))).marks λk a=>HS a
def j3(e:Bool)(h:xt)(m:Rat):Prop:=m∈h/\∀x∈h,¬b' e m x
def Cg(e:Bool):ST:=λa q=>∃h:xt,a=[.lst (h.map aa)]/\(∀x∈h,Bq x)/\(h=[]->q (.fz .non))/\∀m,j3 e h m->q (.fz (aa m))
theorem agh{e:Bool}{d:xt}{m a:Rat}(h:j3 e d m):(b' e m a->j3 e (d++[a]) a)/\(¬b' e m a->j3 e (d++[a]) m):=by
 let⟨g,f⟩:=h;refine#[λb=>#[by simp,λx c=>?_],λb=>#[US _ g,λx c=>?_]]
 .rcases Y1.mp c with z|z
  .have:=f x z;cases e<;>simp only[b']at *<;>grind
  .rw[YR.mp z];cases e<;>simp only[b']<;>grind
 .rcases Y1.mp c with z|z
  .exact f x z
  .rw[YR.mp z];exact b
def pz(T:Tx D):gT 2 jO rG (Cg true):=yB T.ag1 adA (λ_ _=>bG (bT 1 fW)
  (bG (cY (bZ vt) (bW (n:=99) 2)
  (bI (cB (QW.qt (iJ (cg yc vn fW) (gD (cJ (bJ (kc T) (bA ve (bA vn bC)))))))
  (bI (bT 1 ve))
  bV)))
  (bI (bR vn))))<|by
 rintro _ R ⟨h,rfl,b,j,q⟩;refine eF aa h (λf o=>(f=[]/\∃x,o=[.fz (.lst (h.map aa)),.fz .non,x])\/∃m x,o=[.fz (.lst (h.map aa)),.fz (aa m),x]/\j3 true f m) (.inl #[rfl,_,rfl]) ?_ ?_
 .rintro f a r _ e (⟨rfl,x,rfl⟩|⟨m,x,rfl,c⟩)
  .exact .inr #[a,_,rfl,by simp,λx k=>by rw[show x=a by simpa using k];simp only[b'];grind]
  .have p:Bq a:=b a (e ▸ by simp);have l:Bq m:=b m (e ▸ US _ c.1);let⟨i,g⟩:=agh (a:=a) c;exact#[a,m,rfl,p,l,eT (λlt=>.inr #[a,_,rfl,i lt]) λd=>.inr #[m,_,rfl,g d]]
 .rintro _ (⟨z,x,rfl⟩|⟨m,x,rfl,c⟩)
  .exact j z
  .exact q m c
def V4(e:Bool)(h:xt)(j b:Nat):Prop:=(b=j/\∀x∈h,¬b' e (h.getD j 0) x)\/(b<h.length/\b' e (h.getD j 0) (h.getD b 0)/\∀x∈h,¬b' e (h.getD b 0) x)
theorem XA{e:Bool}{a b:Rat}(h:¬b' e b a)(n:a≠b):b' e a b:=by
 cases e<;>simp only[b']at *<;>grind
def _C{a b:Rat}(h:(a.num,((a.den:Nat):Int))=(b.num,((b.den:Nat):Int))):a=b:=by
 injection h with c d;exact Rat.ext c vy
def aee{h:xt}{m:Rat}(a:m∈h):∃j:Nat,h[j]?\m/\∀(i:Nat)g,i<j->h[i]?\g->g≠m:=by
 induction h with
 |nil=>cases a
 |cons r h c =>
  by_cases e:r=m
  .exact#[0,by rw[e];rfl,λi _ z=>absurd z (WZ _)]
  .let⟨j,k,f⟩:=c ((YU.mp a).resolve_left λz=>e z.symm);refine#[j+1,k,λi g d b=>?_];cases i with
   |zero=>cases b;exact e
   |succ i=>exact f i g (Nat.lt_of_succ_lt_succ d) b
def zG(c:Str->Ω):ST:=λa q=>∃(e:Bool)(v:Addr)(h:xt)(d:xS),a=[.lst (h.map aa),dT d,.val (.ref v)]/\e/\c jO=some (.ref v)/\h.length<=1000/\(∀x∈h,Bq x)/\(h=[]->q (.fz (dT d)))/\(h≠[]->∃j:Nat,d\j/\j<h.length/\∀b:Nat,V4 e h j b->q (.fz (.int (b:Nat))))
def Oz(T:Tx D):gT 3 tK jM (zG mg):=ya T.Qd λF=>by
 refine F.okU Lw λQ A l s H E n P=>?_;have O:∀b:Bool,∃G,gT 2 jO G (Cg true):=λ_=>#[_,(pz T)];refine#[_,(bG (bT 3 (Yj (mg:=mg) (k:=2) (nm:=λ_=>jO) (S:=λ_=>Cg true) 2 O n.md (bA vt bC)))
  (bG (cB (QW.qt (iJ (cg yc vi fW) (gD (cg (z4 n.units) (bK vt vn) vi))))
  (bI (bR vn))
  bV)
  (bI (bR (Yf n.units vt (bA vi bC)))))),?_]
 rintro _ R ⟨e,v,h,d,rfl,M,L,o,N,I,q⟩;subst M;refine#[true,L,h,rfl,N,λz=>?_,λm f=>?_]
 .exact I z
 .let⟨j,rfl,t,q⟩:=q λz=>by rw[z]at f;cases f.1
  have B:=aj t;have x:h.getD j 0=h[j]:=by rw[au,B];rfl
  refine#[_,cQ B,er (λc=>q j (.inl #[rfl,?_])) λc=>?_]
  .let⟨a,b⟩:=Bool.and_eq_true_iff.mp c;rw[x,show h[j]=m from Rat.ext (of_decide_eq_true a) (by have:=of_decide_eq_true b;lia)];exact f.2
  .have J:h[j]≠m:=λz=>by
    rw[z,Zs rfl,Zs rfl]at c;cases c
   let⟨b,p,K⟩:=aee f.1;have u:=(ao.mp p).1;have y:h.getD b 0=m:=by rw[au,p];rfl
   refine#[h.map λr=>(r.num,((r.den:Nat):Int)),(m.num,((m.den:Nat):Int)),b,by rw[WU];rfl,rfl,%[ak|aL o vw],by rw[aq,p];rfl,λi g w C=>?_,q b (.inr #[u,%[x,y|XA (f.2 _ (aU t)) J],%[y|f.2]])];rw[aq,aj (show i<h.length by exact Tk w u)]at C;cases C;exact λz=>K i _ w (aj _) (_C z)
theorem Fb{Q b:Type}(f:Q->T)(g:b->T):∀(E:List Q)(a:List b),G3 (E.map f) (a.map g)=(E.zip a).map λp=>.tup [f p.1,g p.2]
 |[],a=>by cases a<;>rfl
 |_::_,[]=>rfl
 |x::E,y::a=>by
  rw[zip_cons_cons,map_cons,map_cons,map_cons,<- Fb f g E a]
  rfl
open Rw (sg jK jq cC jZ kJ Big)
def ci(mk:xf)(a:xF)(S:Nat->Bool):xF:=(range mk.length).map λk=>if mkG mk k=false/\S k=true then a.getD k none else none
def Dg(c:Str->Ω):ST:=λb q=>∃(mk:xf)(a:xF),b=[c2 mk,.lst (a.map dS)]/\mk.length<=100/\a.length=mk.length/\(∀o,some o∈a->o.ways.length<=1000/\∀w∈o.ways,w.1<mk.length)/\∀S:Nat->Bool,Lfp false mk.length (mkG mk) (λk=>d2 (a.getD k none)) S->q (.l1 ((ci mk a S).map dS))
def Pa(T:Tx D):gT 4 vN kW (Dg mg):=ya T.RX λF=>by
 refine F.okU CT λW A v s H E x S=>?_;let⟨L,J,_⟩:=OkF.val (Y8 T);refine#[_,(bG (oA (bH j5) iU iU ["offer"] (bZ vn) (dH (i:=0)) cj (Ho (cg yc vt fW) (dg bC) (dg (bA (KZ (bH j5) ("offer"::iU) ("offer"::iU) ["room","chance"] (bZ (bK vt bF)) (dY (n:=2) (bO (dH (i:=0)) (bO (dH (i:=1)) cT))) cj vt) bC))) (gU (i:=2) CT.nd rfl (Or.inl rfl)))
  (bG (bT 3 (bJ (Xn T) (bA vt (bA ve (bA (G2 (by rfl) J) bC)))))
  (bI (bR (cL (bH j5) iU iU ["step","offer"] (Im T.OD (bA vi (bA vn bC))) (dY (n:=2) (bO (dH (i:=0)) (bO (dH (i:=1)) cT))) cj (Ho (QW.qt (iJ (cg yc vt fW) (gD (cg (z4 x.units) vt bF)))) fW vn)))))),?_]
 rintro _ R ⟨mk,j,rfl,C,K,hc,q⟩;have t:∀{Q:Type}{f:List Q},f.length<=mk.length->f.length<=sizeLine:=λ{Q f}h=>aL h (aL C vw);refine#[t %[ak,K|aG _],comp_map dS (λc=>jH (d2 c)) j (λc u N M m=>?_) ?_]
 .cases c with
  |none=>exact m
  |some o =>
   refine#[%[ak|aL (hc o u).1 vw],comp_map cv (λw=>a_ w.1) o.ways (λw hw N M m=>#[rfl,m]) ?_];rw[show jH (d2 (some o))=.lst [.lst (o.ways.map λw=>a_ w.1)]by show L2.T.lst [L2.T.lst ((o.ways.map (·.1)).map a_)]=_;rw[WU];rfl]at m;exact m
 .rw[show(j.map λc=>jH (d2 c))=(j.map d2).map jH by rw[WU];rfl];have O:∀k,g9 (j.map d2) k=d2 (j.getD k none):=λk=>by
   show(j.map d2).getD k []=_;rw[au,aq,au];cases j[k]?<;>rfl
  refine#[false,L,mk,j.map d2,rfl,J,C,#[%[ak,K|_],λl B=>?_,λl B d hd=>?_],λp I=>?_]
  .let⟨c,_,rfl⟩:=YV.mp B;cases c with
   |none=>exact aZ _
   |some o=>exact UT rfl
  .let⟨c,u,rfl⟩:=YV.mp B;cases c with
   |none=>cases hd
   |some o =>
    cases YR.mp hd;refine#[%[ak|(hc o u).1],λr x=>?_];let⟨w,hw,rfl⟩:=YV.mp x;exact(hc o u).2 w hw
  .have q:=q (d_ p) (I.lf.ld λk _=>O k);have P:=I.len;show(G3 (p.map dT) (j.map dS)).length<=sizeLine/\iG _ _ _ _ (G3 (p.map dT) (j.map dS)) _;rw[Fb];refine#[t (by rw[ak,VZ];lia),comp_map (λb:Option Nat×xN=>.tup [dT b.1,dS b.2]) (λb=>dS (if b.1=none\/b.1=some 0 then none else b.2)) (p.zip j) (λb U N M m=>?_) ?_]
   .refine#[rfl,?_];let⟨a,c⟩:=b;cases a with
    |none=>rw[ZY (.inl rfl)]at m;exact m
    |some n =>
     by_cases e:n=0
     .rw[ZY (.inr %[e|_])]at m;exact dI (Zs vy) m
     .rw[ZZ (by simp[e])]at m;exact cR (Zp vy) m
   .have:((p.zip j).map λb=>dS (if b.1=none\/b.1=some 0 then none else b.2))=(ci mk j (d_ p)).map dS:=by
     unfold ci;rw[WU];refine UU (by rw[ak,ak,VZ,WP];lia) λk V G=>?_;rw[ak,WP]at G;rw[VW,VW,Ts,JP];dsimp only[Function.comp];have z:=I.zero k G;rw[au,aj (show k<p.length by lia)]at z;have z:p[k]\0↔mkG mk k=true:=z;have g:d_ p k=p[k].isSome:=by unfold d_;rw[au,aj (show k<p.length by lia)];rfl
     rw[au,aj (show k<j.length by lia),g]
     congr 1
     cases e:p[k]with
     |none=>rw[ZY (.inl rfl),ZZ (λz=>by cases z.2)]
     |some n =>
      rw[e]at z;by_cases c:n=0
      .rw[ZY (.inr %[c|_]),ZZ (λy=>by rw[z.mp %[c|_]]at y;cases y.1)]
      .rw[ZZ (by simp[c]),ZY #[by
        cases g:mkG mk k with
        |false=>rfl
        |true=>exact absurd (Option.some.inj (z.mpr g)) c,rfl]]
       rfl
    rwa[this]
def VA(l:List Q)(h:Q->T){i:Int}(c:0<=i)(d:i<l.length):∃a∈l,c3 (l.map h) i\(h a):=by
 let⟨k,rfl⟩:=mS c;have b:k<l.length:=by lia
 refine#[l[k],aU b,?_];show ef (l.map h) k=_;rw[vB,aq,aj b];rfl
def div_pos{b:Int}(f:0<b):(divInt a b).den<=b.toNat/\(divInt a b).num.natAbs<=a.natAbs:=by
 have l:=yZ (t:=a) (b:=b) (c:=(Int.gcd a b:Nat)) (WS f) (by have:=o9 (a:=a) (b:=b) (WS f);exact WS this) vy (XZ (o9 (WS f)) f);have e:=jV l (WS f);injection e with e;injection e with g d;injection d with d _;injection g with g;injection d with d;have j:=l.lx;have i:=l.ly;have h:=l.pos;have g:a.fdiv ((Int.gcd a b:Nat):Int)=(divInt a b).num:=g;have d:b.fdiv ((Int.gcd a b:Nat):Int)=((divInt a b).den:Nat):=d;rw[g]at j;rw[d]at i h;omega
structure K0(s:Rat):Prop where
 lo:0<=s
 hi:s<1
 den:s.den<=100
structure i6(p:Rat):Prop where
 num:p.num.natAbs<=10^30
 den:p.den<=1000
def gi:ST:=λa q=>∃c:Int,a=[.int c]/\∀n:Nat,n<=8->q (.fz (.int (n:Nat)))
def ahm(T:Tx D):gT 2 VJ Hh gi:=yB T.alJ _T (λa _=>bG (bT 1 (bJ (h5 T) (bA vt (bA bF bC))))
  (bG (cB (cg (z4 a.units) (bM cM (bK vn bF) bF) bF)
  (bI (bR bF))
  bV)
  (bG (cB (cg (z4 a.units) (bM cM (bK vn bF) bF) bF)
  (bI (bR (bM dB bF (bM cM (bK vn bF) bF))))
  bV)
  (bI (bR (bM dB bF (bM cM (bK vn bF) bF)))))))<|by
 rintro _ R ⟨c,rfl,q⟩;have b:=ur c 1;have d:0<=z1 c 1:=b.1;refine#[c,2,rfl,by decide,_,iB (k:=0),by decide,eT (λh=>q 0 vw) λh=>#[_,iB (k:=0),by decide,eT (λh=>#[_,iB (k:=1),by decide,?_]) λh=>#[_,iB (k:=1),by decide,?_]]]
 .have:=q (6+z1 c 1%3).toNat vy;rw[show(((6+z1 c 1%3).toNat:Nat):Int)=6+z1 c 1%3 by lia]at this;exact this
 .have:=q (1+z1 c 1%5).toNat vy;rw[show(((1+z1 c 1%5).toNat:Nat):Int)=1+z1 c 1%5 by lia]at this;exact this
structure LD where
 sort:Nat
 pay:Rat
 prs:xz
abbrev we:=List LD
abbrev xp:=List we
abbrev bw(d:LD):T:=.tup [.int (d.sort:Nat),aa d.pay,.lst (d.prs.map cv)]
structure LDk(m:Nat)(d:LD):Prop where
 sort:d.sort<5
 pay:i6 d.pay
 few:d.prs.length<=4
 lt:∀p∈d.prs,p.1<m
 nn:∀p∈d.prs,0<=p.2
 one:Ez (d.prs.map (·.2))=1
 dn:∃q:Nat,0<q/\q<=4000/\∀p∈d.prs,p.2.den ∣ q
 s0:d.sort=0\/d.sort=4->∃a,d.prs=[(a,1)]
 s1:d.sort=1->∃a b x,d.prs=[(a,x),(b,1-x)]
 s2:d.sort=2->∃h:xy,d.prs=h.map λr=>(r,mkRat 1 h.length)
def IC(l:List Q) : fG l none (some (n:Int))=l.take n:=by
 unfold fG;show(l.drop 0).take (HT.sIx l.length l.length (some (n:Int))-0)=_;rw[HT.Cd,drop_zero,sub_zero];rw[List.take_eq_take_iff];lia
def T5{b:Int}(g:0<b):(divInt a b).den ∣ b.toNat:=by
 have l:=yZ (t:=a) (b:=b) (c:=(Int.gcd a b:Nat)) (WS g) (by have:=o9 (a:=a) (b:=b) (WS g);exact WS this) vy (XZ (o9 (WS g)) g);have e:=jV l (WS g);injection e with e;injection e with _ f;injection f with f _;injection f with f;have f:b.fdiv ((Int.gcd a b:Nat):Int)=((divInt a b).den:Nat):=f;have d:((Int.gcd a b:Nat):Int) ∣ b:=JJ a b;rw[Int.fdiv_eq_ediv_of_dvd d]at f;let⟨x,h⟩:=d;have i:=o9 (a:=a) (b:=b) (WS g);rw[Int.ediv_eq_of_eq_mul_right (WS i) h]at f;exact Int.natCast_dvd_natCast.mp #[(Int.gcd a b:Nat),by rwa[<- f,kt (XY g),Int.mul_comm]]
theorem Kn{S:Int}(a:S≠0):∀u:xi,Ez (u.map λw=>divInt w S)=divInt u.sum S
 |[]=>by show(0:Rat)=divInt 0 S;rw[QR]
 |w::u=>by
  show divInt w S+Ez (u.map λw=>divInt w S)=divInt (w+u.sum) S;rw[Kn a u,QU _ _ a a];refine(QY (qy a a) a).mpr ?_
  grind
theorem Wy{n:Nat}(h:0<n):∀k:Nat,Ez (replicate k (mkRat 1 n))=mkRat k n
 |0=>by show(0:Rat)=mkRat 0 n;rw[Rat.zero_mkRat]
 |k+1=>by
  rw[replicate_succ];show mkRat 1 n+Ez (replicate k (mkRat 1 n))=_;rw[Wy h k,Rat.mkRat_add_mkRat _ _ (UZ h) (UZ h),Rat.mkRat_eq_iff (Nat.mul_ne_zero (UZ h) (UZ h)) (UZ h)]
  push_cast
  grind
def ais(h:0<n):mkRat n n=1:=by
 rw[show(1:Rat)=mkRat 1 1 from rfl,Rat.mkRat_eq_iff (UZ h) (Nat.succ_ne_zero _)];lia
def one_sub{b:Int}(c:b≠0):1-divInt a b=divInt (b-a) b:=by
 rw[show(1:Rat)=divInt 1 1 from rfl,Rat.divInt_sub_divInt _ _ vw c,TZ,Int.mul_one]
def Xe(x:Rat):1-x=#[(x.den:Int)-x.num,x.den,x.den_nz,by
  have:=x.reduced;show Coprime ((x.den:Int)-x.num).natAbs x.den;have h:Int.gcd ((x.den:Int)-x.num) (x.den:Int)=1:=by
   rw[Int.gcd_self_sub_left];exact this
  exact h]:=by
 rw[Rat.mk_eq_divInt,<- one_sub (pN x),rd]
def aer(x:Rat):aa (1-x)=.tup [.int ((x.den:Int)-x.num),.int x.den]:=%[Xe|_]
def adz(x:Rat):(1-x).den=x.den:=%[Xe|_]
def LDk.sure{a b:Nat}{p:Rat}(c:b=0\/b=4)(e:a<m)(d:i6 p):LDk m #[b,p,[(a,1)]] :=
 #[by show b<5;lia,d,UT rfl,by simp[e],by simp;decide,by simp[Ez];exact Rat.add_zero 1,#[1,by decide,by decide,by simp],λ_=>#[_,rfl],(λz=>by have z:b=1:=z;lia),(λz=>by have z:b=2:=z;lia)]
def LDk.toss{a b:Nat}{p x:Rat}(i:a<m)(h:b<m)(g:i6 p)(d:0<=x)(c:0<=1-x)(f:0<q)(e:q<=4000)(hd:x.den ∣ q):LDk m #[1,p,[(a,x),(b,1-x)]] :=
 #[UT rfl,g,UT rfl,by simp[i,h],by simp[d,c],by simp[Ez];grind,#[q,f,e,by simp[hd,adz]],(λz=>by rcases z with z|z<;>cases z),λ_=>#[_,_,_,rfl],(λz=>by cases z)]
def _p(h:0<n):(mkRat 1 n).den=n:=by
 have e:=Zk h;injection e with e;injection e with _ e;injection e with e _;injection e with e;lia
def LDk.even{p:Rat}{h:xy}(c:0<h.length)(d:h.length<=4)(e:∀r∈h,r<m)(f:i6 p):LDk m #[2,p,h.map λr=>(r,mkRat 1 h.length)]:=by
 have nn:(0:Rat)<=mkRat 1 h.length:=%[<- Rat.divInt_ofNat|divInt_nonneg vw (X9 _)]
 refine#[UT rfl,f,%[ak|d],λx b=>?_,λx b=>?_,?_,#[h.length,c,by exact aL d vw,λx b=>?_],(λz=>by rcases z with z|z<;>cases z),(λz=>by cases z),λ_=>#[h,rfl]]
 .let⟨r,a,rfl⟩:=YV.mp b;exact e r a
 .let⟨r,a,rfl⟩:=YV.mp b;exact nn
 .rw[WU,show((λx:Nat×Rat=>x.2) ∘ λr=>(r,mkRat 1 h.length))=λ_=>mkRat 1 h.length from rfl,map_const',Wy c,ais c]
 .let⟨r,a,rfl⟩:=YV.mp b;rw[_p c];exact Nat.dvd_refl _
def LDk.mix{p:Rat}{h:xy}{u:xi}(j:u.length<=4)(g:∀r∈h,r<m)(hw:∀w∈u,0<=w)(le:u.length<=h.length)(s0:0<u.sum)(s1:u.sum<=4000)(i:i6 p):LDk m #[3,p,(h.zip u).map λx=>(x.1,divInt x.2 u.sum)]:=by
 have f:(h.zip u).map (λx=>x.2)=u:=List.map_snd_zip le;refine#[UT rfl,i,by rw[ak,VZ];lia,λx d=>?_,λx d=>?_,?_,#[u.sum.toNat,by lia,by lia,λx d=>?_],(λz=>by rcases z with z|z<;>cases z),(λz=>by cases z),(λz=>by cases z)]
 .let⟨r,c,rfl⟩:=YV.mp d;exact g _ (UX c).1
 .let⟨r,c,rfl⟩:=YV.mp d;exact divInt_nonneg (hw _ (UX c).2) (XY s0)
 .rw[WU,show((λx:Nat×Rat=>x.2) ∘ λx:Nat×Int=>(x.1,divInt x.2 u.sum))=(λw=>divInt w u.sum) ∘ λx:Nat×Int=>x.2 from rfl,<- WU,f,Kn (WS s0)];have e:=one_sub (a:=u.sum) (b:=u.sum) (WS s0);rw[Int.sub_self,QR]at e
  grind
 .let⟨r,c,rfl⟩:=YV.mp d;exact T5 s0
theorem G0:∀{u:xi},(∀w∈u,0<=w)->0<=u.sum
 |[],_=>by decide
 |w::u,h=>by
  have:=h w (aO ..);have:=G0 (u:=u) λx a=>h x (aJ _ a);rw[sum_cons];lia
theorem Hn{b:Int} : ∀{u:xi},(∀w∈u,w<=b)->u.sum<=b*u.length
 |[],_=>by simp
 |w::u,h=>by
  have:=h w (aO ..);have:=Hn (u:=u) λx a=>h x (aJ _ a);rw[sum_cons,length_cons];have:b*((u.length+1:Nat):Int)=b*u.length+b:=by grind
  lia
def aaS:ST:=λa q=>∃(c:Int)(m:Nat),a=[.int c,.int (m:Nat)]/\0<m/\m<=1000/\∀d:LD,LDk m d->q (.fz (bw d))
def ahN(T:Tx D):gT 4 U3 Gn aaS:=ya T.al5 λ{f Y}F=>by
 refine F.okT Ui (λJ _=>bG (bT 2 (bJ (h5 T) (bA vt (bA bF bC))))
  (bG (bT 3 (cL (bH Ej) wI wI ["_law_x"] (bZ (i_ ve (fZ bF) (fZ bF))) (dH (i:=0)) cj (bM cM vt ve)))
  (bG (bT 4 (bJ (l8 T) (bA (bM Vk (bM cM (bK ve bF) bF) bF) (bA (bM dB bF (bM cM (bK ve bF) bF)) bC))))
  (bG (bT 5 (eJ.out (Tz (dG (qL (dG (DQ (bK vi bF)) (dG (qL (dG lO (dG lO lQ))) lQ))) lQ))))
  (bG (cB (cg (z4 J.units) (bM cM (bK ve bF) bF) bF)
  (bG (bT 6 (bM dB bF (bM cM (bK ve bF) bF)))
  (bG (bT 7 (bJ (l8 T) (bA (bM cM (bK ve bF) (bM dB (qv 6) bF)) (bA (qv 6) bC))))
  (bI (bT 5 (eJ.out (Tz (dG (qL (dG (DQ (bK vi bF)) (dG (Sc 7) lQ))) (dG (qL (dG (DQ (bK vi bF)) (dG (qL (dG (ZP Vk (DQ (bK (qv 7) bF)) (DQ (bK (qv 7) bF))) (dG (DQ (bK (qv 7) bF)) lQ))) lQ))) lQ))))))))
  bV)
  (bG (cB (cg (z4 J.units) (bM cM (bK ve bF) bF) bF)
  (bG (bT 3 (i_ vi Gu (fZ (bM dB bF (bM cM (bK ve bF) bF)))))
  (bI (oA (bH Ej) wI wI ["_law_room"] (bZ vi) (dH (i:=0)) cj (d7 (bA vt (bA (d7 (bA bF (bA (bQ cH T.dz WJ (bA vF bC)) bC))) bC))) (gU (i:=5) Ui.nd rfl (Or.inl rfl)))))
  bV)
  (bG (cB (cg (z4 J.units) (bM cM (bK ve bF) bF) bF)
  (bG (gA 8 (cL (bH Ej) wI wI ["_law_x"] (bZ (i_ ve (fZ bF) (fZ (bM dB bF (bM cM (bK ve bF) bF))))) (dH (i:=0)) cj (bM cM vt (bK (dg (bA bF (bA bF (bA bF (bA bF bC))))) (bM cM (bK vi bF) bF)))))
  (bG (pY 8 (bM dB (uN 8 (Vz bF)) bF) (Vz bF))
  (bI (VR 8 (oA (bH Ej) wI wI ["_law_k"] (c7 T.eG (bA (bQ cH T.dz WJ (bA (qv 8) bC)) bC)) (dH (i:=0)) cj (d7 (bA (bK vF vt) (bA (bJ (l8 T) (bA (bK (qv 9) vt) (bA (bQ (qB rfl) T.agf boot_sum (bA (qv 9) bC)) bC))) bC))) (gU (i:=5) Ui.nd rfl (Or.inl rfl)))))))
  bV)
  (bI (bR (d7 (bA (bQ (ain rfl) T.aqL boot_min (bA (bM cM (bK ve bF) bF) (bA bF bC))) (bA vF (bA vS bC))))))))))))) ?_
 rintro _ R ⟨c,m,rfl,m0,m1,q⟩;have Z:(0:Int)<(m:Nat):=by lia
 have H:∀k,0<=z1 c k/\z1 c k<2000000000:=ur c;obtain⟨s,U,rme⟩ : ∃s:Nat->Nat,(∀k,s k<m)/\∀k,z1 c k%(m:Nat)=(s k:Nat):=#[λk=>(z1 c k%(m:Nat)).toNat,λk=>by
  have:=YY (z1 c k) Z;have:=Z3 (z1 c k) (show((m:Nat):Int)≠0 by exact WS Z);show(z1 c k%(m:Nat)).toNat<m;lia,λk=>by
  have:=Z3 (z1 c k) (show((m:Nat):Int)≠0 by exact WS Z);show _=((z1 c k%(m:Nat)).toNat:Int);lia]
 obtain⟨B,e6,h6⟩ : ∃B:Nat,z1 c 6%6=(B:Nat)/\B<6:=#[(z1 c 6%6).toNat,by have:=H 6;lia,by have:=H 6;lia];have E:=iB (c:=c) (n:=13) (k:=6);refine sj (λo=>∃(x3 E X x8:OT)(p:Rat)(C:xz),o=[.fz (.int c),.fz (.int (m:Nat)),.fz (.lst ((jc c 13).map L2.T.int)),x3,.fz (aa p),.fz (.lst (C.map cv)),E,X,x8]/\LDk m #[min B 4,p,C]) ?_ λl go=>?_
 .rintro _ ⟨x3,x6',X,x8,p,C,rfl,G⟩;refine#[_,E,by decide,?_];have:=q #[min B 4,p,C] G;rw[show bw #[min B 4,p,C]=.tup [.int (if(4:Int)<z1 c 6%6 then 4 else z1 c 6%6),aa p,.lst (C.map cv)]by
   show L2.T.tup [.int ((min B 4:Nat):Int),_,_]=_;rw[e6,show((min B 4:Nat):Int)=(if(4:Int)<((B:Nat):Int)then(4:Int)else((B:Nat):Int))by split<;>lia]]at this
  exact this
 .refine#[c,13,rfl,by decide,?_];have ec:fG ((jc c 13).map L2.T.int) (some 2) (some 6)=[2,3,4,5].map (λk=>L2.T.int (z1 c k)):=rfl;show(fG ((jc c 13).map L2.T.int) (some 2) (some 6)).length<=sizeLine/\iG _ _ _ _ (fG ((jc c 13).map L2.T.int) (some 2) (some 6)) _;rw[ec];refine#[show 4<=sizeLine by decide,comp_map (λk=>L2.T.int (z1 c k)) (λk=>.int (s k:Nat)) [2,3,4,5] (λk _ N M K=>#[Z,by rwa[rme]]) ?_];have y0:=H 0;have y1:=H 1;refine#[_,iB (k:=0),by decide,_,iB (k:=1),by decide,_,_,rfl,by lia,eX vy,?_];have V:i6 (divInt (z1 c 0%61-30) (1+z1 c 1%12)):=by
   let⟨x,y⟩:=div_pos (a:=z1 c 0%61-30) (b:=1+z1 c 1%12) vy;exact#[aL y vy,by lia]
  generalize divInt (z1 c 0%61-30) (1+z1 c 1%12)=p at V ⊢;refine#[_,rfl,_,E,by decide,?_];have I:∀{n:Nat}{d:Int},((B:Nat):Int)≠d->decide (z1 c 6%6=d)=false:=λg=>Zp (by rwa[e6]);have ye:∀{d:Int},((B:Nat):Int)=d->decide (z1 c 6%6=d)=true:=λg=>Zs (by rwa[e6]);obtain h0|rfl|rfl|rfl:(B=0\/B=4\/B=5)\/B=1\/B=2\/B=3:=by lia
  .refine cR (I (n:=0) vy) #[_,E,by decide,cR (I (n:=0) vy) #[_,E,by decide,cR (I (n:=0) vy) (go _ #[_,_,_,_,p,[(s 2,1)],rfl,.sure vy (U 2) V])]]
  .have x8:=H 8;have x9:=H 9;refine dI (ye rfl) ?_;refine#[_,iB (k:=8),by decide,_,iB (k:=9),by lia,_,_,rfl,by lia,eX vy,_,rfl,_,rfl,?_];obtain⟨b,eb,W,b1⟩ : ∃b:Int,1+z1 c 8%6=b/\0<b/\b<=6:=#[_,rfl,by lia,by lia];rw[eb];have a0:=Z3 (z1 c 9) (show b+1≠0 by lia);have a1:=YY (z1 c 9) (show 0<b+1 by exact Int.lt_trans W (Int.lt_succ _));generalize z1 c 9%(b+1)=a at a0 a1 ⊢;have nn:0<=divInt a b:=divInt_nonneg a0 (XY W);have l1:0<=1-divInt a b:=%[one_sub (WS W)|divInt_nonneg vy (XY W)]
   have dd:=T5 (a:=a) W;generalize divInt a b=x at nn l1 dd ⊢;refine#[_,E,by decide,cR (I (n:=0) vw) #[_,E,by decide,cR (I (n:=0) vw) (go _ #[.fz (.lst ([2,3,4,5].map λk=>L2.T.int (s k:Nat))),.fz (.int b),.fz (aa x),.und,p,[(s 2,x),(s 3,1-x)],?_,LDk.toss (U 2) (U 3) V nn l1 (show 0<b.toNat by lia) vy dd])]];rw[show[(s 2,x),(s 3,1-x)].map cv=[.tup [.int (s 2:Nat),aa x],.tup [.int (s 3:Nat),aa (1-x)]]from rfl,aer]
   rfl
  .have X:=H 7;obtain⟨n,en,n0,O⟩ : ∃n:Nat,1+z1 c 7%4=(n:Nat)/\0<n/\n<=4:=#[(1+z1 c 7%4).toNat,by lia,by lia,by lia];refine cR (I (n:=0) vw) #[_,E,by decide,dI (ye rfl) ?_];refine#[_,iB (k:=7),by decide,?_];show(fG ([2,3,4,5].map λk=>L2.T.int (s k:Nat)) none (some (1+z1 c 7%4))).length<=sizeLine/\iG _ _ _ _ (fG ([2,3,4,5].map λk=>L2.T.int (s k:Nat)) none (some (1+z1 c 7%4))) _;have ec2:fG ([2,3,4,5].map λk=>L2.T.int (s k:Nat)) none (some (1+z1 c 7%4))=(([2,3,4,5].map s).take n).map λr:Nat=>L2.T.int (r:Nat):=by
    rw[en,IC,map_take,WU]
    rfl
   have rl:(([2,3,4,5].map s).take n).length=n:=by rw[aY];show min n 4=n;lia
   have S:∀r∈([2,3,4,5].map s).take n,r<m:=λr J=>by
    let⟨k,_,rfl⟩:=YV.mp (mem_of_mem_take J);exact U k
   rw[ec2];generalize([2,3,4,5].map s).take n=h at rl S ⊢;have r0:0<h.length:=by lia
   have e2:(h.map λr=>(r,mkRat 1 h.length)).map cv=h.map λr=>cv (r,mkRat 1 h.length):=by rw[WU];rfl
   refine#[%[ak|aL (show _<=4 by exact aL (WG rl) O) vw],comp_map (λr:Nat=>L2.T.int (r:Nat)) (λr=>cv (r,mkRat 1 h.length)) h (λr J N M K=>?_) #[_,E,by decide,cR (I (n:=0) vw) (go _ #[.fz (.lst (h.map λr:Nat=>L2.T.int (r:Nat))),.und,.und,.und,p,h.map λr=>(r,mkRat 1 h.length),by rw[e2];rfl,LDk.even r0 (aL (WG rl) O) S V])]];rw[show cv (r,mkRat 1 h.length)=.tup [.int (r:Nat),aa (mkRat 1 h.length)]from rfl,Zk r0,<- ak (f:=λr:Nat=>L2.T.int (r:Nat))]at K;exact K
  .have X:=H 7;have x12:=H 12;obtain⟨n,en,n0,O⟩ : ∃n:Nat,9+z1 c 7%4=((8+n:Nat):Int)/\0<n/\n<=4:=#[(1+z1 c 7%4).toNat,by lia,by lia,by lia];refine cR (I (n:=0) vw) #[_,E,by decide,cR (I (n:=0) vw) #[_,E,by decide,dI (ye rfl) ?_]];refine#[_,iB (k:=7),by decide,?_];show(fG ((jc c 13).map L2.T.int) (some 8) (some (9+z1 c 7%4))).length<=sizeLine/\iG _ _ _ _ (fG ((jc c 13).map L2.T.int) (some 8) (some (9+z1 c 7%4))) _;have ec3:fG ((jc c 13).map L2.T.int) (some 8) (some (9+z1 c 7%4))=(((jc c 13).drop 8).take n).map L2.T.int:=by
    rw[en,pB];have:=IF (ys:=jc c 13) (a:=8) (b:=8+n) (X1 _ _) (by rw[ak,WP];lia);rw[show 8+n-8=n by exact JU _ _]at this;exact ZH (List.map L2.T.int) this
   have ul:(((jc c 13).drop 8).take n).length=n:=by rw[aY,UR,ak,WP];lia
   rw[ec3];generalize((jc c 13).drop 8).take n=t at ul ⊢;let⟨d,hd,ed⟩:=VA [3,3,3,1000] L2.T.int (i:=z1 c 12%4) (Z3 _ vw) (by show z1 c 12%4<4;exact YY _ vw);have d0:0<d/\d<=1000:=by simp at hd;lia
   refine#[%[ak|aL (show _<=4 by exact aL (WG ul) O) vw],comp_map L2.T.int (λx=>L2.T.int (x%d)) t (λx hx N M K=>#[_,iB (k:=12),by decide,_,ed,d0.1,K]) ?_];have em:t.map (λx=>L2.T.int (x%d))=(t.map (· % d)).map L2.T.int:=by rw[WU];rfl
   rw[em];have wl:(t.map (· % d)).length=n:=by rwa[ak]
   have P:∀w∈t.map (· % d),0<=w/\w<1000:=λw hw=>by
    let⟨x,_,rfl⟩:=YV.mp hw;have:=Z3 x (show d≠0 by lia);have:=YY x d0.1;lia
   generalize t.map (· % d)=u at wl P ⊢;obtain⟨A,v,rfl⟩ : ∃A v,u=A++[v]:=by
    rcases List.eq_nil_or_concat u with rfl|⟨A,v,e⟩
    .cases wl;cases n0
    .exact#[A,v,%[e,List.concat_eq_append|_]]
   rw[aA,length_singleton]at wl;have ixl:c3 ((A++[v]).map L2.T.int) (-1)\(.int v):=by
    show ef ((A++[v]).map L2.T.int).reverse 0=_;rw[bf,List.reverse_append]
    rfl
   have ixn:dj ((A++[v]).map L2.T.int).length (-1)\A.length:=by
    unfold dj;rw[ak,aA,length_singleton];rw[ZZ vw,ZY vy]
    congr 1
    lia
   refine#[_,ixl,_,ixn,?_];have es:((A++[v]).map L2.T.int).set A.length (.int (v+1))=(A++[v+1]).map L2.T.int:=by
    rw[bf,bf,List.set_append_right _ _ %[ak|aG _],ak,Nat.sub_self]
    rfl
   dsimp only[frz];rw[es];have nV:(A++[v+1]).length=n:=by rwa[aA,length_singleton]
   have nS:∀w∈A++[v+1],0<=w/\w<=1000:=λw hw=>by
    rcases Y1.mp hw with z|z
    .have:=P w (US _ z);lia
    .have:=P v (aP _ (YR.mpr rfl));rw[YR.mp z];lia
   have s0:0<(A++[v+1]).sum:=by
    have:0<=A.sum:=G0 λw hw=>(P w (US _ hw)).1;have:=(P v (aP _ (YR.mpr rfl))).1;rw[List.sum_append];show 0<A.sum+(v+1+0);lia
   have s1:(A++[v+1]).sum<=1000*(A++[v+1]).length:=Hn λw hw=>(nS w hw).2;generalize A++[v+1]=t at nV nS s0 s1 ⊢;have Q:(t.map L2.T.int).length=t.length:=ak ..;have r4:∀k,k<4->([2,3,4,5].map s)[k]?\(s (k+2)):=λk G=>by
    obtain rfl|rfl|rfl|rfl:k=0\/k=1\/k=2\/k=3:=by lia
    all_goals rfl
   have z:∀k(G:k<t.length),((([2,3,4,5].map s).zip t).map λx=>(x.1,divInt x.2 t.sum))[k]?\(s (k+2),divInt (t.getD k 0) t.sum):=λk G=>by
    rw[aq,List.getElem?_zip_eq_some (z:=(s (k+2),t.getD k 0)) |>.mpr #[r4 k vy,by rw[au,aj G];rfl]]
    rfl
   have ep:(range (t.map L2.T.int).length).map (λk=>cv (s (k+2),divInt (t.getD k 0) t.sum))=((([2,3,4,5].map s).zip t).map λx=>(x.1,divInt x.2 t.sum)).map cv:=by
    refine Q3 λk=>?_;rw[Q];by_cases G:k<t.length
    .rw[aq,VY G,aq,z k G]
     rfl
    .rw[aM %[ak,WP|VU G],aM (by rw[ak,ak,VZ];omega)]
   refine#[#[by lia,by lia],%[rng,ak,WP|aL (show _<=4 by lia) vw],Hg (λk=>cv (s (k+2),divInt (t.getD k 0) t.sum)) (t.map L2.T.int).length (λk G N M K=>?_) (go _ #[.fz (.lst ([2,3,4,5].map λk=>L2.T.int (s k:Nat))),.und,.und,.fz (.lst (t.map L2.T.int)),p,(([2,3,4,5].map s).zip t).map λx=>(x.1,divInt x.2 t.sum),by rw[ep];rfl,LDk.mix (h:=[2,3,4,5].map s) (aL (WG nV) O) (λr J=>?_) (λw hw=>(nS w hw).1) (show t.length<=4 by exact aL (WG nV) O) s0 vy V])]
   .rw[Q]at G;have ek:t[k]?\(t.getD k 0):=by rw[au,aj G];rfl
    have L:=r4 k vy;rw[aq]at L;refine#[.int (s (k+2):Nat),?_,_,cQ ek,t,rfl,_,_,rfl,s0,eX vy,K];show ef _ k=_;rw[vB,aq];cases z2:([2,3,4,5] : xy)[k]? with
    |none=>rw[z2]at L;cases L
    |some j=>rw[z2]at L;injection L with L;show some (L2.T.int (s j:Nat))=_;rw[show s j=s (k+2)from L]
   .let⟨k,_,rfl⟩:=YV.mp J;exact U k
structure DSk(m mo:Nat)(ac:xp):Prop where
 len:ac.length=m
 few:∀l∈ac,l.length<=mo
 ok:∀l∈ac,∀d∈l,LDk m d
abbrev gd(ac:xp):vj:=ac.map λl=>l.map bw
abbrev DW(ac:xp):T:=.lst (ac.map λl=>.lst (l.map bw))
def ah5(a:xp):frz (.l2 (gd a))=DW a:=by
 show L2.T.lst ((a.map λl=>l.map bw).map L2.T.lst)=_;rw[WU]
 rfl
def DSk.add{a:Nat}{c:xp}(h:DSk m a c){l:we}{d:LD}(e:c[k]?\l)(lt:l.length<a)(hd:LDk m d):DSk m a (c.set k (l++[d])):=by
 refine#[%[WH,h.len|_],λx b=>?_,λx b y f=>?_]
 .rcases List.mem_or_eq_of_mem_set b with z|rfl
  .exact h.few x z
  .rw[aA,length_singleton];exact lt
 .rcases List.mem_or_eq_of_mem_set b with z|rfl
  .exact h.ok x z y f
  .rcases Y1.mp f with z|z
   .exact h.ok l (aC e) y z
   .rw[YR.mp z];exact hd
def T1{a:xp}{r:Nat}{l:we}(e:a[r]?\l):c3 ((gd a).map L2.T.lst) (r:Nat)\(.lst (l.map bw)):=by
 show ef ((gd a).map L2.T.lst) r=_;rw[vB,aq,aq,e];rfl
def Yu:ST:=λd q=>∃(ns:xi)(a m b:Nat),d=[im ns,.int (a:Nat),.int (m:Nat),.int (b:Nat)]/\ns.length<=100/\m<=300/\b<=1000/\∀c:xp,DSk m b c->q (.l2 (gd c))
def agi(T:Tx D):gT 5 Oc zm Yu:=yB T.agX Yg (λ_ _=>bG (__ (bH KJ) Ua Ua ["_law_k"] (c7 T.eG (bA ve bC)) (dH (i:=0)) cj (dg bC) (gU (i:=4) Yg.nd rfl (Or.inl rfl)))
  (bG (cB (cg Fj ve bF)
  (bG (bT 5 (bM cM (bJ (hB T) (bA vt (bA vn bC))) bF))
  (bG (bT 6 (bJ (h5 T) (bA vS (bA (bM cM (bM cM (bM _X vS bF) bF) (bM dB (bM cN bF ve) bF)) bC))))
  (bI (cY (bZ (bM dB (qv 6) (i_ vt (fZ (bM dB vn bF)) (fZ (bM dB vn bF))))) (bW (n:=99) 7)
  (bG (bT 8 (bM cM (bK (bJ (h5 T) (bA (qv 7) (bA bF bC))) bF) ve))
  (bI (cB (Ih 4 (cg CQ (bQ cH T.dz WJ (bA (bK vF (qv 8)) bC)) vi))
  (bI (_S 4 (qv 8) (bJ (ahN T) (bA (qv 7) (bA ve bC)))))
  bV)))))))
  bV)
  (bI (gC 4))))<|by
 rintro _ R ⟨ns,a,m,g,rfl,F,u,G,q⟩;have L:(range m).map (λ_=>([] : List L2.T))=gd (replicate m []):=by
  unfold gd;rw[List.map_replicate,map_const',WP]
  rfl
 have z:DSk m g (replicate m []):=#[aN,λx p=>%[(List.mem_replicate.mp p).2|aZ _],λx p y v=>by rw[(List.mem_replicate.mp p).2]at v;cases v];refine#[#[by lia,by lia],%[rng,ak,WP|aL u vw],W9 (λ_=>[]) m (λk Q N M J=>J) ?_];rw[L];refine eT (λw=>?_) λw=>q _ z;refine#[ns,a,rfl,F,by decide,?_];dsimp only[frz];generalize ns.getD a 0%2147483647=e;have f:(0:Int)<2*(m:Nat)+1:=by lia
 obtain⟨n,K,P⟩ : ∃n:Nat,e*48271%104729%(2*(m:Nat)+1)=(n:Nat)/\n<=2*m:=#[(e*48271%104729%(2*(m:Nat)+1)).toNat,by
  have:=Z3 (e*48271%104729) (show(2*(m:Nat)+1:Int)≠0 by exact WS f);lia,by
  have:=YY (e*48271%104729) f;have:=Z3 (e*48271%104729) (show(2*(m:Nat)+1:Int)≠0 by exact WS f);lia]
 refine#[.inr (by constructor<;>decide),by decide,#[eX vw,eX vy],f,e,n,by rw[K];rfl,by lia,?_];have A:(jc e n).map L2.T.int++fG (ns.map L2.T.int) (some ((a:Nat)+1)) (some ((a:Nat)+13))=(jc e n++fG ns (some ((a:Nat)+1)) (some ((a:Nat)+13))).map L2.T.int:=%[pB,bf|_]
 have V:(fG ns (some ((a:Nat)+1)) (some ((a:Nat)+13))).length<=100:=by
  unfold fG;rw[aY,UR];lia
 show((jc e n).map L2.T.int).length+(fG (ns.map L2.T.int) (some ((a:Nat)+1)) (some ((a:Nat)+13))).length<=sizeLine/\_;refine#[?_,?_]
 .rw[pB,ak,ak,ak,WP];exact aL (show _<=1100 by lia) vw
 dsimp only[frz];rw[A];have E:(jc e n++fG ns (some ((a:Nat)+1)) (some ((a:Nat)+13))).length<=1100:=by rw[aA,ak,WP];lia
 generalize jc e n++fG ns (some ((a:Nat)+1)) (some ((a:Nat)+13))=O at E ⊢;generalize jc e n=C at A ⊢;refine eF L2.T.int O (λ_ o=>∃(b:xp)(l j:OT),o=[.fz (im ns),.fz (.int (a:Nat)),.fz (.int (m:Nat)),.fz (.int (g:Nat)),.l2 (gd b),.fz (.int e),.fz (.lst (C.map L2.T.int)),l,j]/\DSk m g b) #[_,_,_,rfl,z] ?_ ?_
 .rintro B c rest _ _ ⟨b,l,j,rfl,h⟩;dsimp only[hName];have mp:(0:Int)<(m:Nat):=by omega
  obtain⟨r,s,H⟩ : ∃r:Nat,z1 c 13%(m:Nat)=(r:Nat)/\r<m:=by
   have U:=Z3 (z1 c 13) (show((m:Nat):Int)≠0 by exact WS w);have S:=YY (z1 c 13) mp;exact#[(z1 c 13%(m:Nat)).toNat,by lia,by lia]
  refine#[c,14,rfl,by decide,_,iB (k:=13),mp,?_];dsimp only[frz];rw[s];have I:r<b.length:=by rwa[h.len]
  have t:=aj I;refine#[_,T1 t,eT (λlt=>?_) λ_=>#[b,.fz (.int c),.fz (.int (r:Nat)),rfl,h]];have lt:((b[r].map bw).length:Int)<(g:Nat):=lt;rw[ak]at lt;refine#[r,b[r].map bw,?_,by rw[aq,t];rfl,%[ak|aR (show _<1001 by lia) vw],c,m,rfl,by lia,by exact aL u vw,λd hd=>#[b.set r (b[r]++[d]),.fz (.int c),.fz (.int (r:Nat)),?_,h.add t vy hd]]
  .unfold dj;rw[ak,ZY (X9 _),ZY vy]
   rfl
  .rw[show gd (b.set r (b[r]++[d]))=(gd b).set r (b[r].map bw++[bw d])by
    unfold gd;rw[UH,bf]
    rfl]
   rfl
 .rintro _ ⟨b,l,j,rfl,h⟩;exact q b h
def p8(u:xz)(p:Nat×Rat):xz:=if(u.any λx=>decide (x.1=p.1))=true then u.map (λx=>if x.1=p.1 then(x.1,x.2+p.2)else x)else u++[p]
def f9(G:xz):xz:=G.foldl p8 []
def h_(G:xz):xz:=(f9 G).filter λp=>!decide (p.2=0)
abbrev bc(ns:Φ)(p:Nat×Rat):Str×Rat:=(ns.getD p.1 #[↥[]],p.2)
def Us(c:ns.Nodup)(b:i<ns.length)(a:j<ns.length):(ns.getD i #[↥[]]=ns.getD j #[↥[]])↔i=j:=by
 constructor
 .intro h;rw[au,au,aj b,aj a]at h;rcases Nat.lt_trichotomy i j with l|l|l
  .exact absurd h ((List.pairwise_iff_getElem.mp c) i j b a l)
  .exact l
  .exact absurd h.symm ((List.pairwise_iff_getElem.mp c) j i a b l)
 .intro h;rw[h]
def VO(b:ns.Nodup){p:Nat×Rat}(c:∀w∈u,w.1<ns.length)(d:p.1<ns.length):cz (u.map (bc ns)) (bc ns p)=(p8 u p).map (bc ns):=by
 have f:((u.map (bc ns)).any λx=>decide (x.1=(bc ns p).1))=u.any λx=>decide (x.1=p.1):=by
  rw[U1];refine Bool.eq_iff_iff.mpr #[λh=>?_,λh=>?_]
  .let⟨x,a,e⟩:=List.any_eq_true.mp h;exact List.any_eq_true.mpr #[x,a,Zs ((Us b (c x a) d).mp (of_decide_eq_true e))]
  .let⟨x,a,e⟩:=List.any_eq_true.mp h;exact List.any_eq_true.mpr #[x,a,Zs ((Us b (c x a) d).mpr (of_decide_eq_true e))]
 unfold cz p8;rw[f];split
 .rw[WU,WU];refine UP λx a=>?_;show(if(bc ns x).1=(bc ns p).1 then _ else _)=bc ns (if x.1=p.1 then _ else _);by_cases e:x.1=p.1
  .rw[ZY e,ZY ((Us b (c x a) d).mpr e)]
  .rw[ZZ e,ZZ λz=>e ((Us b (c x a) d).mp z)]
 .rw[bf];rfl
def KD{p w:Nat×Rat}(h:w∈p8 u p):(w∈u/\w.1≠p.1)\/w=p\/∃x∈u,x.1=p.1/\w=(x.1,x.2+p.2):=by
 unfold p8 at h;split at h
 .let⟨x,a,rfl⟩:=YV.mp h;by_cases e:x.1=p.1
  .rw[ZY e];exact .inr (.inr #[x,a,e,rfl])
  .rw[ZZ e];exact .inl #[a,e]
 .rename_i n
  rcases Y1.mp h with z|z
  .exact .inl #[z,λe=>n (List.any_eq_true.mpr #[w,z,Zs e])]
  .exact .inr (.inl (YR.mp z))
def KM(c:ns.Nodup)(h:∀p∈G,p.1<ns.length):lE (G.map (bc ns))=(f9 G).map (bc ns):=by
 suffices H:∀(G u:xz),(∀p∈G,p.1<ns.length)->(∀w∈u,w.1<ns.length)->(G.map (bc ns)).foldl cz (u.map (bc ns))=(G.foldl p8 u).map (bc ns)from H G [] h λ_ z=>(nomatch z)
 intro G
 induction G with
 |nil=>exact λ_ _ _=>rfl
 |cons p G d =>
  intro u b a;rw[map_cons,foldl_cons,foldl_cons,VO c a (b p (aO ..))];refine d _ (λq f=>b q (aJ _ f)) λw g=>?_;rcases KD g with⟨z,_⟩|rfl|⟨x,e,_,rfl⟩
  .exact a w z
  .exact b w (aO ..)
  .exact a x e
def ahb(a:ns.Nodup)(h:∀p∈G,p.1<ns.length):Fq (G.map (bc ns))=(h_ G).map (bc ns):=by
 unfold Fq h_;rw[KM a h,List.filter_map]
 rfl
def V3(c:0<q):r.den ∣ q↔∃x:Int,r=divInt x q:=by
 constructor
 .rintro⟨k,rfl⟩;refine#[r.num*k,?_];have d:((k:Nat):Int)≠0:=λz=>by rw[show k=0 by lia]at c;lia
  conv=>lhs;rw[<- rd r]
  refine(QY (pN r) (by push_cast;exact qy (pN r) d)).mpr ?_
  push_cast
  grind
 .rintro⟨x,rfl⟩;have:=T5 (a:=x) (b:=(q:Nat)) vy;exact this
def Oq{a b:Rat}(d:0<q)(f:a.den ∣ q)(e:b.den ∣ q):(a+b).den ∣ q:=by
 let⟨x,rfl⟩:=(V3 d).mp f;let⟨y,rfl⟩:=(V3 d).mp e;have c:((q:Nat):Int)≠0:=by lia
 refine(V3 d).mpr #[x+y,?_];rw[QU _ _ c c];refine(QY (qy c c) c).mpr ?_
 grind
structure i9(m q:Nat)(as u:xz):Prop where
 nd:(u.map (·.1)).Nodup
 lt:∀w∈u,w.1<m
 nn:∀w∈u,0<=w.2
 dn:∀w∈u,w.2.den ∣ q
 sum:∀y:Nat->Rat,dw u y=dw as y
 few:u.length<=as.length
def Mx(b c:xz)(y:Nat->Rat):dw (b++c) y=dw b y+dw c y:=by
 induction b with
 |nil=>show dw c y=0+_;rw[TK]
 |cons a b d=>rw[cons_append,dU,dU,d,Rat.add_assoc]
def qN(p:Nat×Rat)(y:Nat->Rat):dw [p] y=p.2*y p.1:=by rw[dU];show _+0=_;rw[Rat.add_zero]
def _3{p:Nat×Rat}(a:(u.map (·.1)).Nodup)(y:Nat->Rat):dw (p8 u p) y=dw u y+p.2*y p.1:=by
 unfold p8;split
 .rename_i h
  induction u with
  |nil=>cases h
  |cons x u d =>
   let⟨c,b⟩:=List.nodup_cons.mp a;rw[map_cons,dU,dU];by_cases e:x.1=p.1
   .rw[ZY e];have rest:u.map (λx=>if x.1=p.1 then(x.1,x.2+p.2)else x)=u:=by
     conv=>rhs;rw[<- List.map_id u]
     refine UP λz f=>?_;rw[ZZ λw=>c (YV.mpr #[z,f,w.trans e.symm])]
     rfl
    rw[rest,<- e];show(x.2+p.2)*y x.1+dw u y=_
    grind
   .rw[ZZ e,d b (by
     rw[any_cons,Zp e,Bool.false_or]at h;exact h)]
    grind
 .rw[Mx,qN]
def FI{p:Nat×Rat}(a:(u.map (·.1)).Nodup):((p8 u p).map (·.1)).Nodup:=IG a
def aif(e:0<q){d:xz}{p:Nat×Rat}(c:p.1<m/\0<=p.2/\p.2.den ∣ q)(h:i9 m q d u):i9 m q (d++[p]) (p8 u p):=by
 refine#[FI h.nd,λw b=>?_,λw b=>?_,λw b=>?_,λy=>%[_3 h.nd,h.sum,Mx,qN|_],?_]
 .rcases KD b with⟨z,_⟩|rfl|⟨x,a,_,rfl⟩
  .exact h.lt w z
  .exact c.1
  .exact h.lt x a
 .rcases KD b with⟨z,_⟩|rfl|⟨x,a,_,rfl⟩
  .exact h.nn w z
  .exact c.2.1
  .have:=h.nn x a;have:=c.2.1;show 0<=x.2+p.2
   grind
 .rcases KD b with⟨z,_⟩|rfl|⟨x,a,_,rfl⟩
  .exact h.dn w z
  .exact c.2.2
  .exact Oq e (h.dn x a) c.2.2
 .have:=h.few;unfold p8;split
  .rw[ak,aA];exact aL this (X1 _ _)
  .rw[aA,aA];simp;omega
def Il(e:0<q):∀{G:xz},(∀p∈G,p.1<m/\0<=p.2/\p.2.den ∣ q)->i9 m q G (f9 G):=by
 intro G h
 suffices H:∀(G a u:xz),(∀p∈G,p.1<m/\0<=p.2/\p.2.den ∣ q)->i9 m q a u->i9 m q (a++G) (G.foldl p8 u)from H G [] [] h #[.nil,λ_ z=>(nomatch z),λ_ z=>(nomatch z),λ_ z=>(nomatch z),λ_=>rfl,aG _]
 intro G
 induction G with
 |nil=>intro a u _ h;rwa[append_nil]
 |cons p G c =>
  intro a u b h;have:=c (a++[p]) (p8 u p) (λx d=>b x (aJ _ d)) (aif e (b p (aO ..)) h);rw[Wp]at this;exact this
theorem Ib(y:Nat->Rat):∀u:xz,dw (u.filter λp=>!decide (p.2=0)) y=dw u y
 |[]=>rfl
 |w::u=>by
  by_cases e:w.2=0
  .rw[List.filter_cons_of_neg (by rw[Zs e];decide),Ib y u,dU,e,Rat.zero_mul,TK]
  .rw[List.filter_cons_of_pos (by rw[Zp e];rfl),dU,dU,Ib y u]
def GR(b:0<q)(h:∀p∈G,p.1<m/\0<=p.2/\p.2.den ∣ q):i9 m q G (h_ G):=by
 have j:=Il b h;have sub:∀w∈h_ G,w∈f9 G:=λw a=>(List.mem_filter.mp a).1;refine#[(List.filter_sublist.map _).nodup j.nd,λw a=>j.lt w (sub w a),λw a=>j.nn w (sub w a),λw a=>j.dn w (sub w a),λy=>?_,aL (List.length_filter_le ..) j.few];unfold h_;rw[Ib,j.sum]
theorem mY{w:Nat×Rat} : ∀{u:xz},(∀w∈u,0<=w.2)->w∈u->w.2<=dw u λ_=>1
 |[],_,h=>by cases h
 |x::u,a,h=>by
  rw[dU];have b:∀u:xz,(∀w∈u,0<=w.2)->0<=dw u λ_=>1:=λu=>by
   induction u with
   |nil=>intro _;exact W1
   |cons y u c =>
    intro h;rw[dU];have:=h y (aO ..);have:=c λw hw=>h w (aJ _ hw)
    grind
  rcases YU.mp h with rfl|z
  .have:=b u λw hw=>a w (aJ _ hw)
   grind
  .have:=mY (u:=u) (λw hw=>a w (aJ _ hw)) z;have:=a x (aO ..)
   grind
theorem CJ:∀G:xz,(dw G λ_=>1)=Ez (G.map (·.2))
 |[]=>rfl
 |p::G=>by
  rw[dU,CJ G,Rat.mul_one]
  rfl
def LDk.all{d:LD}(h:LDk m d):∃q:Nat,0<q/\q<=4000/\∀p∈d.prs,p.1<m/\0<=p.2/\p.2.den ∣ q:=by
 let⟨q,c,b,e⟩:=h.dn;exact#[q,c,b,λp a=>#[h.lt p a,h.nn p a,e p a]]
def qf(a:0<q)(d:q<=4000)(c:0<=r)(b:r<=1)(hd:r.den ∣ q):Ch r:=#[c,b,eX (by have:=UY a hd;lia)]
def LDk.prsOk{d:LD}(h:LDk m d)(v:i7 ns m):m3 (d.prs.map (bc ns)):=by
 let⟨q,f,i,o⟩:=h.all;have k:∀p∈d.prs,p.2<=1:=λp b=>by
  rw[<- h.one,<- CJ];exact mY h.nn b
 have few:=h.few;have C:(d.prs.map (bc ns)).map (·.2)=d.prs.map (·.2):=by rw[WU];rfl
 refine#[%[ak|aL few vw],λp b=>?_,?_,%[C|h.one],λT a S e=>?_]
 .let⟨x,t,rfl⟩:=YV.mp b;let⟨Q,H,F⟩:=o x t;have D:x.1<ns.length:=by rwa[v.len]
  refine#[v.wd _ ?_,qf f i H (k x t) F];show ns.getD x.1 #[↥[]]∈ns;rw[au,aj D];exact aU D
 .rw[C];have:=xX (d.prs.map (·.2)) (n:=1) (m:=q) (TH _) λr M=>by
   let⟨x,t,rfl⟩:=YV.mp M;exact(o x t).2.2
  have:=UY f this;exact eX vy
 .let⟨g,P,s,rfl,N⟩:=List.map_eq_append_iff.mp e;let⟨c,B,rfl,rfl,rfl⟩:=List.map_eq_cons_iff.mp N;have sub:∀p∈g,p∈d.prs:=λp b=>s ▸ US _ b;have z:=o c (s ▸ aP _ (aO ..));have O:Ch c.2:=qf f i z.2.1 (k c (s ▸ aP _ (aO ..))) z.2.2;have j:=Il f (G:=g) (m:=m) λp b=>o p (sub p b);rw[KM v.nd λp b=>%[v.len|(o p (sub p b)).1]];have E:Ch (DP ((f9 g).map (bc ns)) (bc ns c).1):=by
   unfold DP;cases A:((f9 g).map (bc ns)).find? λx=>decide (x.1=(bc ns c).1)with
   |none=>exact#[W1,by show(0:Rat)<=1;decide,eX vw]
   |some x =>
    let⟨y,l,rfl⟩:=YV.mp (List.mem_of_find?_eq_some A);refine qf f i (j.nn y l) ?_ (j.dn y l);have K:=mY j.nn l;rw[j.sum]at K;have J:=h.one;rw[<- CJ,s,Mx]at J;have R:0<=dw (c::B) λ_=>1:=by
     have:∀u:xz,(∀w∈u,0<=w.2)->0<=dw u λ_=>1:=λu=>by
      induction u with
      |nil=>intro _;exact W1
      |cons y u L =>
       intro h;rw[dU];have:=h y (aO ..);have:=L λw hw=>h w (aJ _ hw)
       grind
     exact this _ λw hw=>h.nn w (s ▸ aP _ hw)
    show y.2<=1
    grind
  refine#[E.bq,O.bq,?_];have:=E.2.2;have:=UY f z.2.2;have I:(DP ((f9 g).map (bc ns)) (bc ns c).1).den<=4000:=by
   unfold DP;cases A:((f9 g).map (bc ns)).find? λx=>decide (x.1=(bc ns c).1)with
   |none=>exact UT rfl
   |some x =>
    let⟨y,l,rfl⟩:=YV.mp (List.mem_of_find?_eq_some A);have:=UY f (j.dn y l);exact aL this i
  refine eX ?_;rw[VT,XT,XT];exact Y3 (VS I (show c.2.den<=4000 by exact aL this i)) vw
def dk(D:ba):Nat->Addr
 |1=>D.Toss
 |2=>D.Even
 |3=>D.Mixed
 |_=>D.Sure
abbrev k7(t:Str)(d:LD):bN:=#[t,d.pay,h_ d.prs]
abbrev z6(D:ba)(t:Str)(d:LD):Made:=#[dk D d.sort,k7 t d]
def ae6(D:ba):∀k,dW D (dk D k)
 |0=>by unfold dW dk;simp
 |1=>by unfold dW dk;simp
 |2=>by unfold dW dk;simp
 |3=>by unfold dW dk;simp
 |_+4=>by unfold dW dk;simp
def Yb(D:ba):ST:=λa q=>∃(t:Str)(d:LD)(ns:Φ)(m:Nat),a=[.str t,bw d,.lst (ns.map T.str)]/\Wd t/\i7 ns m/\LDk m d/\q (.fz (fh ns (z6 D t d)))
theorem agB(T:Tx D):gT 8 Ou zU (Yb D):=yB T.ahU Xc (λv _=>bG (Uk vn (dY (n:=3) (bO (bW (n:=99) 4) (bO (bW (n:=99) 5) (bO (bW (n:=99) 6) cT)))))
  (bG (oA (bH G9) Et Et ["_law_room","_law_chance"] (bZ (qv 6)) (dY (n:=2) (bO (dH (i:=0)) (bO (dH (i:=1)) cT))) cj (d7 (bA (bK vF vt) (bA vn bC))) (gU (i:=3) Xc.nd rfl (Or.inl rfl)))
  (bG (cB (cg (z4 v.units) vF bF)
  (bI (bR (Gg T.ahr (Vn T) T.akV (bA vt (bA vS (bA (bK (bK vi bF) bF) (bA (bK (bK vi bF) bF) (bA (bK (bK vi bF) bF) bC))))))))
  bV)
  (bG (cB (cg (z4 v.units) vF bF)
  (bI (bR (Gg T.aiP (UJ T) T.aly (bA vt (bA vS (bA (cL (bH G9) Et Et ["_law_room","_law_chance"] (bZ vi) (dY (n:=2) (bO (dH (i:=0)) (bO (dH (i:=1)) cT))) cj vt) bC))))))
  bV)
  (bG (cB (cg (z4 v.units) vF bF)
  (bI (bR (Gg T.agA (Qm T) T.R9 (bA vt (bA vS (bA vi bC))))))
  bV)
  (bI (bR (Gg T.ahC (Vb T) T.alB (bA vt (bA vS (bA (bK (bK vi bF) bF) bC)))))))))))<|by
 rintro _ R ⟨t,d,ns,m,rfl,k,s,hd,q⟩;have o:=hd.few;have F:∀p∈d.prs,c3 (ns.map L2.T.str) (p.1:Nat)\(.str (bc ns p).1):=λp j=>by
  have A:p.1<ns.length:=%[s.len|hd.lt p j]
  exact cQ (by rw[aj A];show _\(ns.getD p.1 #[↥[]]);rw[au,aj A];rfl)
 have H:(d.prs.map (bc ns)).map c4=d.prs.map λp=>c4 (bc ns p):=by rw[WU];rfl
 have g:=hd.prsOk s;have u:=ahb s.nd (G:=d.prs) λp j=>%[s.len|hd.lt p j]
 refine#[rfl,%[ak|aL o vw],comp_map cv (λp=>c4 (bc ns p)) d.prs (λp j N M w=>#[rfl,_,F p j,w]) ?_];rw[<- H];let⟨f,c,l⟩:=d;have J:f<5:=hd.sort;have z:=hd.s0;have E:=hd.s1;have C:=hd.s2;dsimp only at *;obtain rfl|rfl|rfl|rfl|rfl:f=0\/f=4\/f=1\/f=2\/f=3:=by lia
 .let⟨a,rfl⟩:=z (.inl rfl);have y:h_ [(a,1)]=[(a,1)]:=by simp[h_,f9,p8]
  have e:R (.fz (gu D.Sure t c ([(a,1)].map (bc ns)))):=by rwa[<- y]
  exact#[_,rfl,t,_,c,rfl,rfl,W8 D,rfl,k,(g.ok (bc ns (a,1)) (YR.mpr rfl)).1,e]
 .let⟨a,rfl⟩:=z (.inr rfl);have y:h_ [(a,1)]=[(a,1)]:=by simp[h_,f9,p8]
  have e:R (.fz (gu D.Sure t c ([(a,1)].map (bc ns)))):=by rwa[<- y]
  exact#[_,rfl,t,_,c,rfl,rfl,W8 D,rfl,k,(g.ok (bc ns (a,1)) (YR.mpr rfl)).1,e]
 .let⟨a,b,x,rfl⟩:=E rfl;have e:R (.fz (gu D.Toss t c (Fq ([(a,x),(b,1-x)].map (bc ns))))):=by rwa[u]
  exact#[_,rfl,_,rfl,_,rfl,t,_,_,c,x,rfl,rfl,ad5 D,rfl,k,(g.ok (bc ns (a,x)) (aO ..)).2,g,e]
 .let⟨h,rfl⟩:=C rfl;have e:R (.fz (gu D.Even t c (Fq ((h.map λr=>(r,mkRat 1 h.length)).map (bc ns))))):=by rwa[u]
  have B:even (((h.map λr=>(r,mkRat 1 h.length)).map (bc ns)).map (·.1))=(h.map λr=>(r,mkRat 1 h.length)).map (bc ns):=by
   have I:(((h.map λr=>(r,mkRat 1 h.length)).map (bc ns)).map (·.1)).length=h.length:=by simp
   unfold even;rw[I];simp[Function.comp_def]
  refine#[%[ak,ak|aL o vw],comp_map c4 (λp=>.str p.1) ((h.map λr=>(r,mkRat 1 h.length)).map (bc ns)) (λp j N M w=>#[rfl,w]) #[t,c,((h.map λr=>(r,mkRat 1 h.length)).map (bc ns)).map (·.1),rfl,rfl,afG D,?_,k,%[B|g],?_]]
  .rw[show(((h.map λr=>(r,mkRat 1 h.length)).map (bc ns)).map (·.1)).map L2.T.str=((h.map λr=>(r,mkRat 1 h.length)).map (bc ns)).map λp=>L2.T.str p.1 from WU]
   rfl
  .rw[B];exact e
 .have e:R (.fz (gu D.Mixed t c (Fq (l.map (bc ns))))):=by rwa[u]
  exact#[t,c,l.map (bc ns),rfl,rfl,acC D,rfl,k,g,e]
structure JC(ac:xp)(g:xj):Prop where
 len:g.length=ac.length
 at_:∀(k:Nat)l os,ac[k]?\l->g[k]?\os->∃tl:Φ,tl.length=l.length/\os=(tl.zip l).map λp=>k7 p.1 p.2
theorem Wh{Q c:Type} : ∀{E:List Q}{ys:List c}{x:Q}(y:c),E[ys.length]?\x->E.zip (ys++[y])=E.zip ys++[(x,y)]
 |[],ys,_,_,e=>by cases e
 |a::E,[],x,y,e=>by cases e;simp
 |a::E,b::ys,x,y,e=>by
  rw[cons_append,zip_cons_cons,zip_cons_cons,Wh (E:=E) (ys:=ys) y ↑e]
  rfl
def aby(D:ba):ST:=λd q=>∃(c:Int)(s:Rat)(m b:Nat)(a:xp),d=[.int c,aa s,DW a]/\K0 s/\DSk m b a/\m<=26/\b<=26/\∀ns g,i7 ns m->Fz ns g->JC a g->q (.fz (b7 D s ns g))
def aiW(T:Tx D):gT 9 Sy GQ (aby D):=ya T.alW λ{f Y}F=>by
 refine F.okT ahv (λ_ _=>bG (bT 3 (bJ (F0 T) (bA vt (bA (bQ cH T.dz WJ (bA ve bC)) bC))))
  (bG (gA 4 (dg bC))
  (bG (cY (c7 T.eG (bA (bQ cH T.dz WJ (bA ve bC)) bC)) (bW (n:=99) 5)
  (bG (bT 6 (bJ (F0 T) (bA (bM dB vt vS) (bA (bQ cH T.dz WJ (bA (bK ve vS) bC)) bC))))
  (bI (pZ 4 (d7 (bA (bK vi vS) (bA (cL (bH U0) YM YM ["_law_title","_law_door_here"] (Im T.OD (bA (qv 6) (bA (bK ve vS) bC))) (dY (n:=2) (bO (dH (i:=0)) (bO (dH (i:=1)) cT))) cj (bJ (agB T) (bA vt (bA vn (bA vS bC))))) bC)))))))
  (bI (VR 4 (bR (Gg T.ai1 (Vu T) T.ak1 (bA vn (bA vF bC))))))))) ?_
 rintro _ R ⟨c,s,m,mo,b,rfl,I,hd,m1,O,q⟩;have dl:(b.map λl=>L2.T.lst (l.map bw)).length=m:=%[ak,hd.len|_]
 refine#[c,m,by rw[<- dl];rfl,m1,λns v=>?_];have L:=v.len;have e0:DR ns []=[]:=by simp[DR]
 refine#[#[by rw[dl];lia,by rw[dl];lia],jg (λk o=>∃(d:wa)(J G:OT),o=[.fz (.int c),.fz (aa s),.fz (DW b),.fz (.lst (ns.map L2.T.str)),.l1 (DR ns d),J,G]/\d.length=k/\∀(i:Nat)l x,b[i]?\l->d[i]?\x->∃a,i7 a l.length/\x=(a.zip l).map λp=>z6 D p.1 p.2) #[[],.und,.und,by rw[e0];rfl,rfl,λi l x _ z=>by cases z] ?_ ?_]
 .rintro k _ X ⟨d,J,G,rfl,g,C⟩;have X:k<m:=by rw[dl]at X;lia
  have t:k<b.length:=by rwa[hd.len]
  have Z:=aj t;have r:=aU t;have fk:=hd.few _ r;have W:c3 (b.map λl=>L2.T.lst (l.map bw)) (k:Nat)\(.lst (b[k].map bw)):=cQ Z;have nk:ns[k]?\(ns.getD k #[↥[]]):=by rw[au,aj vy];rfl
  refine#[_,W,c+k,b[k].length,by rw[<- ak (as:=b[k]) (f:=bw)];rfl,by exact aL fk O,λa h=>?_];refine#[_,cQ nk,_,W,?_];have zl:(a.zip b[k]).length<=26:=by rw[VZ];lia
  show(G3 (a.map L2.T.str) (b[k].map bw)).length<=sizeLine/\iG _ _ _ _ (G3 (a.map L2.T.str) (b[k].map bw)) _;rw[Fb];refine#[%[ak|aL zl vw],comp_map (λp=>.tup [.str p.1,bw p.2]) (λp=>fh ns (z6 D p.1 p.2)) (a.zip b[k]) (λp B N M hN=>#[rfl,p.1,p.2,ns,m,rfl,h.wd _ (UX B).1,v,hd.ok _ r _ (UX B).2,hN]) #[?_,d++[(a.zip b[k]).map λp=>z6 D p.1 p.2],.fz (.int (k:Nat)),.fz (.lst (a.map L2.T.str)),?_,by rw[aA,g];rfl,λi l x A e=>?_]]
  .rw[ak,VZ];exact aR (show _<1000 by lia) vw
  .rw[show DR ns (d++[(a.zip b[k]).map λp=>z6 D p.1 p.2])=DR ns d++[.tup [.str (ns.getD k #[↥[]]),.lst ((a.zip b[k]).map λp=>fh ns (z6 D p.1 p.2))]]by
    unfold DR;rw[Wh (x:=ns.getD k #[↥[]]) _ (by rwa[g]),bf,map_singleton]
    congr 2
    show hH (_,((a.zip b[k]).map λp=>z6 D p.1 p.2).map (fh ns))=_;rw[WU]
    rfl]
   rfl
  .by_cases E:i<d.length
   .rw[aF E]at e;exact C i l x A e
   .have P:=(ao.mp e).1;rw[aA,length_singleton]at P;have:i=k:=by lia
    subst this;rw[aD (WG g),show i-d.length=0 by lia]at e;cases e;rw[Z]at A;cases A;exact#[a,h,rfl]
 .rintro _ ⟨d,J,G,rfl,g,C⟩;have g:d.length=m:=by rwa[g]
  have all:∀x∈d,∃l∈b,∃a,i7 a l.length/\x=(a.zip l).map λp=>z6 D p.1 p.2:=λx u=>by
   let⟨i,E⟩:=aV u;have P:=(ao.mp E).1;have H:i<b.length:=%[hd.len|aR P (WG g)]
   exact#[_,aU H,C i _ x (aj H) E]
  have V:E5 D ns d:=by
   refine#[%[g,L|_],by lia,v.wd,v.nd,λx u=>?_];let⟨l,dL,a,h,rfl⟩:=all x u;have Y:=hd.few l dL;have K:=h.len;refine#[by rw[ak,VZ];lia,λy Q=>?_,λy Q=>?_,?_]
   .let⟨p,_,rfl⟩:=YV.mp Q;exact ae6 D _
   .let⟨p,B,rfl⟩:=YV.mp Q;have t:=hd.ok l dL p.2 (UX B).2;let⟨qq,q0,q1,hq⟩:=t.all;have j:=GR q0 hq;have:=j.few;have:=t.few;exact#[by show(h_ p.2.prs).length<=1000;lia,λw hw=>%[L|j.lt w hw]]
   .rw[WU];show((a.zip l).map λp=>p.1).Nodup;rw[List.map_fst_zip (WG K)];exact h.nd
  have bs:Bq s:=#[eX (by
   have h0:=Rat.num_nonneg.mpr I.lo;have S:=(lt_iff s 1).mp I.hi;have S:s.num*((1:Rat).den:Int)<(1:Rat).num*(s.den:Int):=S;have:=I.den;simp at S;lia),eX (by have:=I.den;lia)]
  refine#[s,ns,d,rfl,rfl,rfl,rfl,I.lo,I.hi,bs,V,q ns (fR d) v #[?_,by lia,λos pT=>?_] #[?_,λk l os A e=>?_]]
  .rw[ak,g,L]
  .let⟨x,u,rfl⟩:=YV.mp pT;rw[ak];exact(V.mds x u).few
  .rw[ak,g,hd.len]
  .rw[aq]at e;cases U:d[k]? with
   |none=>rw[U]at e;cases e
   |some x =>
    rw[U]at e;cases e;let⟨a,h,rfl⟩:=C k l x A U;exact#[a,h.len,WU]
open Rw (sg jK jq cC jZ kJ Big)
def vG{i:Int}(h:i.natAbs<=10^n)(a:n<=2400):Bd i:=Y3 (aL h (XU vw a)) (by decide +kernel)
def HX{A:Nat}(e:r<=(A:Rat))(d : -(A:Rat)<=r):r.num.natAbs<=A*r.den:=by
 have a:=(le_iff r (A:Rat)).mp e;have b:=(le_iff (-(A:Rat)) r).mp d;have a:r.num*((1:Nat):Int)<=(A:Int)*(r.den:Int):=a;have b : -(A:Int)*(r.den:Int)<=r.num*((1:Nat):Int):=b;have c:((A*r.den:Nat):Int)=(A:Int)*r.den:=Qr ..;rw[Int.neg_mul]at b;omega
open Rw (sg jK jq cC jZ kJ R8 Big)
def YF(f:Nat->Nat->Rat)(m:Nat):vx:=(range m).map λi=>(range m).map λj=>f i j
def G5(f:Nat->Nat->Rat)(m:Nat):(YF f m).length=m:=by unfold YF;rw[ak,WP]
def af3{f:Nat->Nat->Rat} : ∀r∈YF f m,r.length=m:=λr a=>by
 let⟨i,_,rfl⟩:=YV.mp a;rw[ak,WP]
abbrev Z5(f:Nat->Nat->Rat)(b:Nat->Rat)(m:Nat):vx:=adu (YF f m) ((range m).map b)
def Ak(f:Nat->Nat->Rat)(b:Nat->Rat)(m:Nat):(Z5 f b m).length=m:=%[TR,G5,ak,WP,VQ|_]
def Tg{f:Nat->Nat->Rat}(h:i<m):(Z5 f b m)[i]?\(((range m).map λj=>f i j)++[b i]):=by
 unfold Z5 YF;rw[List.getElem?_zipWith,aq,VY h,aq,VY h]
 rfl
def Ob{f:Nat->Nat->Rat}{r:xt}(c:r∈Z5 f b m):∃i,i<m/\r=((range m).map λj=>f i j)++[b i]:=by
 let⟨i,e⟩:=aV c;have a:i<m:=by have:=(ao.mp e).1;rw[Ak]at this;exact this
 rw[Tg a]at e;exact#[i,a,(Option.some.inj e).symm]
def RB{f:Nat->Nat->Rat}(y:Nat->Rat):sg (λj=>(((range m).map λj=>f i j)++[b i]).getD j 0*y j) m=sg (λj=>f i j*y j) m/\(((range m).map λj=>f i j)++[b i]).getD m 0=b i:=by
 have l:((range m).map λj=>f i j).length=m:=%[ak,WP|_]
 refine#[cC λj a=>?_,?_]
 .rw[au,aF (by rwa[l]),aq,VY a];rfl
 .rw[au,aD %[l|aG _],l,Nat.sub_self];rfl
def T'{f:Nat->Nat->Rat}{y:Nat->Rat}(h:∀r∈Z5 f b m,sg (λj=>r.getD j 0*y j) m=r.getD m 0):∀i,i<m->sg (λj=>f i j*y j) m=b i:=λi a=>by
 have:=h _ (aC (Tg a));rw[(RB y).1,(RB y).2]at this;exact this
def P5{f:Nat->Nat->Rat}{A Q:Nat}{q:Nat->Nat}(l:m<=100)(o:1<=A)(h:∀i,i<m->0<q i/\q i<=Q)(v:∀i j,i<m->j<m->(f i j).den ∣ q i/\(f i j).num.natAbs<=A*(f i j).den)(w:∀i,i<m->(b i).den ∣ q i/\(b i).num.natAbs<=A*(b i).den)(y:1<=Q)(p:(2*m*(A*Q))^m<=NN)(n:A*Q<=NN)(k:∀x:Nat->Rat,(∀i,i<m->sg (λj=>f i j*x j) m=0)->∀j,j<m->x j=0):Sys (Z5 f b m) (A*Q):=by
 have all:∀i,i<m->∀c∈((range m).map λj=>f i j)++[b i],c.den ∣ q i/\c.num.natAbs<=A*c.den:=λi d c C=>by
  rcases Y1.mp C with z|z
  .let⟨j,u,rfl⟩:=YV.mp z;exact v i j d (List.mem_range.mp u)
  .rw[YR.mp z];exact w i d
 refine#[λr g=>?_,%[Ak|l],λr g=>?_,λr g c t=>?_,Nat.mul_pos o y,%[Ak|p],n,?_]
 .let⟨i,d,rfl⟩:=Ob g;rw[Ak,aA,ak,WP];rfl
 .let⟨i,d,rfl⟩:=Ob g;exact(ah4 o (h i d).1 (all i d)).le (ku _ (h i d).2)
 .let⟨i,d,rfl⟩:=Ob g;let⟨a,c⟩:=all i d c t;exact dy (aL c (aL (ku _ (aL (UY (h i d).1 a) (h i d).2)) n))
 .rw[Ak];intro x B s;refine k x λi d=>?_;have:=s _ (aC (Tg d));have e:sg (λj=>(((range m).map λj=>f i j)++[b i]).getD j 0*x j) (m+1)=sg (λj=>(((range m).map λj=>f i j)++[b i]).getD j 0*x j) m+_*x m:=rfl;rw[e,B _ (aG _),Rat.mul_zero,Rat.add_zero,(RB x).1]at this;exact this
open Rw (sg jK jq cC jZ kJ Big)
structure kv(m:Nat)(o:bN):Prop where
 wy:WyO m o
 nd:(o.ways.map (·.1)).Nodup
 few:o.ways.length<=1000
 cq:∃q:Nat,0<q/\q<=4000/\∀w∈o.ways,w.2.den ∣ q
structure HlZ(ns:Φ)(g:xj):Prop where
 h:Fz ns g
 few:ns.length<=8
 z:∀l∈g,∀o∈l,kv ns.length o
def HlZ.toW{g:xj}(h:HlZ ns g):HlW ns g:=#[h.h,by have:=h.few;exact aL this vw,λl hd o a=>(h.z l hd o a).few,λl hd o a=>(h.z l hd o a).wy]
abbrev cG(g:xj)(v:zI)(k:Nat):xN:=(bB g v).getD k none
def Ig{g:xj}{o:bN}(h:cG g v k\o):∃l,g[k]?\l/\o∈l:=by
 have h:(bB g v).getD k none\o:=h;cases e:v[k]? with
 |none =>
  have:(bB g v)[k]?=none:=aM (by unfold bB;rw[ak,Tu];exact List.getElem?_eq_none_iff.mp e);rw[au,this]at h;cases h
 |some d =>
  rw[FC e]at h;cases d with
  |none=>cases h
  |some d =>
   have h:(g.getD k [])[d]?\o:=h;rw[au]at h;cases a:g[k]? with
   |none=>rw[a]at h;cases h
   |some l=>rw[a]at h;exact#[l,rfl,aC h]
def HlZ.cw{g:xj}(h:HlZ ns g)(v:zI):∀k,k<ns.length->∀o,cG g v k\o->WyO ns.length o:=λk _ o e=>by
 let⟨l,b,a⟩:=Ig e;exact(h.z l (aC b) o a).wy
theorem GS{m q:Nat}(f:0<q)(j:Nat):∀{u:xz},(∀w∈u,0<w.2/\w.2.den ∣ q)->(vX u j).den ∣ q/\0<=vX u j/\vX u j<=Sw u
 |[],_=>#[TH _,W1,W1]
 |w::u,h=>by
  let⟨a,b,c⟩:=GS (m:=m) f j (u:=u) λx g=>h x (aJ _ g);let⟨p,d⟩:=h w (aO ..);have e:vX (w::u) j=(if w.1=j then w.2 else 0)+vX u j:=rfl;rw[e,Cy];split
  .refine#[Oq f d a,by grind,by grind]
  .rw[TK];exact#[a,b,by grind]
abbrev rr:Nat:=1*4000
def qh(h:m<=8):(2*m*rr)^m<=10^39:=by
 obtain rfl|rfl|rfl|rfl|rfl|rfl|rfl|rfl|rfl:m=0\/m=1\/m=2\/m=3\/m=4\/m=5\/m=6\/m=7\/m=8:=by lia
 all_goals decide +kernel
def fF(mk:xf)(k:Nat):Rat:=if mkG mk k then 1 else 0
def F4{a:xF}(b:k<mk.length):(ci mk a S).getD k none=if mkG mk k=false/\S k=true then a.getD k none else none:=by
 unfold ci;rw[au,aq,VY b]
 rfl
def IN{a:xF} : (ci mk a S).length=mk.length:=by unfold ci;rw[ak,WP]
def I0{a:xF}{o:bN}(h:some o∈ci mk a S):∃k,k<mk.length/\a.getD k none=some o:=by
 let⟨k,b,e⟩:=YV.mp h;split at e
 .exact#[k,List.mem_range.mp b,e]
 .cases e
def P4{g:xj}(h:HlZ ns g)(E:mk.length=ns.length)(lf:Lfp false ns.length (mkG mk) (λk=>d2 (cG g v k)) S):Sys (Z5 (iD 1 (ci mk (bB g v) S)) (fF mk) ns.length) rr:=by
 have F:=h.few;have N:∀o,some o∈ci mk (bB g v) S->kv ns.length o:=λo K=>by
  let⟨k,_,e⟩:=I0 K;let⟨l,M,I⟩:=Ig e;exact h.z l (aC M) o I
 have B:∀i,∀o,(ci mk (bB g v) S).getD i none\o->kv ns.length o:=λi o e=>N o (by
  rw[au]at e;cases y:(ci mk (bB g v) S)[i]? with
  |none=>rw[y]at e;cases e
  |some c =>
   rw[y]at e;have e:c\o:=e;rw[<- e];exact aC y)
 have f:∀i:Nat,∃q,0<q/\q<=4000/\(∀j,(iD 1 (ci mk (bB g v) S) i j).den ∣ q/\(iD 1 (ci mk (bB g v) S) i j).num.natAbs<=1*(iD 1 (ci mk (bB g v) S) i j).den):=λi=>by
  have s:∀{q:Nat}(r:Rat),0<q->r.den ∣ q->0<=r->r<=1->∀b:Bool,((if b=true then(1:Rat)else 0)-1*r).den ∣ q/\((if b=true then(1:Rat)else 0)-1*r).num.natAbs<=1*((if b=true then(1:Rat)else 0)-1*r).den:=λ{q}r p d P O b=>by
   have e:(if b=true then(1:Rat)else 0)-1*r=(if b=true then 1 else 0) + -r:=by grind
   rw[e];refine#[Oq p (by cases b<;>exact TH _) d,HX (A:=1) ?_ ?_]
   .show _<=((1:Nat):Rat);rw[show((1:Nat):Rat)=1 from rfl];cases b<;>simp<;>grind
   .show -((1:Nat):Rat)<=_;rw[show((1:Nat):Rat)=1 from rfl];cases b<;>simp<;>grind
  have D:∀j,iD 1 (ci mk (bB g v) S) i j=(if(decide (j=i))=true then(1:Rat)else 0)-1*vX (vY ((ci mk (bB g v) S).getD i none)) j:=λj=>by
   unfold iD;by_cases c:j=i
   .rw[ZY c,ZY (Zs c)]
   .rw[ZZ c,ZZ (by rw[Zp c];decide)]
  cases e:(ci mk (bB g v) S).getD i none with
  |none=>exact#[1,by decide,by decide,λj=>%[D,e|s 0 vw (Nat.dvd_refl 1) W1 vw _]]
  |some o =>
   let⟨C,_,_,q,p,H,n⟩:=B i o e;refine#[q,p,H,λj=>?_];let⟨a,b,c⟩:=GS (m:=0) p j (u:=o.ways) λw hw=>#[C.pos w hw,n w hw];rw[C.one]at c;rw[D,e];exact s _ p a b c _
 have n:∃q:Nat->Nat,∀i,0<q i/\q i<=4000/\(∀j,(iD 1 (ci mk (bB g v) S) i j).den ∣ q i/\(iD 1 (ci mk (bB g v) S) i j).num.natAbs<=1*(iD 1 (ci mk (bB g v) S) i j).den):=#[λi=>Classical.choose (f i),λi=>Classical.choose_spec (f i)];let⟨q,n⟩:=n;have G:10^39<=NN:=XU vw vw;refine P5 (q:=q) (A:=1) (Q:=4000) (aL F vw) vw (λi _=>#[(n i).1,(n i).2.1]) (λi j _ _=>(n i).2.2 j) (λi _=>?_) vw (aL (qh F) G) (aL vw G) λx J=>?_
 .unfold fF;split
  .exact#[TH _,aG _]
  .exact#[TH _,aZ _]
 .refine TN lf (h.cw v) λk L=>?_;have t:(ci mk (bB g v) S).length=ns.length:=%[IN,E|_]
  have:=J k L;rw[<- t,Ic (by rwa[t]) λw hw=>by
   rw[t];cases e:(ci mk (bB g v) S).getD k none with
   |none=>rw[e]at hw;cases hw
   |some o=>rw[e]at hw;exact(B k o e).wy.lt w hw,F4 (by rwa[E])]at this
  by_cases c:mkG mk k=false/\S k
  .rw[ZY c]at this ⊢;have this:x k-1*dw (vY (cG g v k)) x=0:=this
   grind
  .rw[ZZ c]at this ⊢;have this:x k-1*(0:Rat)=0:=this
   grind
def _H(mk:xf):(mk.map λb=>aa (if b then 1 else 0))=((range mk.length).map (fF mk)).map aa:=by
 rw[WU];refine UU %[ak,ak,WP|_] λk a c=>?_;rw[ak]at a;rw[VW,VW,Ts];show aa _=aa (if mk.getD k false then 1 else 0);rw[au,aj a]
 rfl
def lN(D:ba):ST:=λa q=>∃(s:Rat)(ns:Φ)(g:xj)(mk:xf)(v:zI),a=[b7 D s ns g,c2 mk,.lst (v.map dT)]/\HlZ ns g/\mk.length=ns.length/\PlT g v/\∀(S:Nat->Bool)(x:Nat->Rat),gW ns.length (mkG mk) (cG g v) S x->(∀i,i<ns.length->FnB (10^39) (x i))->q (.l1 ((range ns.length).map λi=>aa (x i)))
def Kf(T:Tx D):gT 9 lR gJ (lN D):=ya T.NT λ{f Y}F=>by
 refine F.okT yJ (λ_ _=>bG (oA (bH nQ) sV sV ["mark"] (bZ vn) (dH (i:=0)) cj (Ho (cJ vt) (mW T.CV T.uP) (mW T.lB T.ji)) (gU (i:=3) yJ.nd rfl (Or.inl rfl)))
  (bI (bR (bJ (Lh T) (bA (bJ (VF T) (bA (mW T.CV T.uP) (bA (bJ (Pa T) (bA vn (bA (bJ (JF T) (bA vt (bA ve bC))) bC))) bC))) (bA vi bC)))))) ?_
 rintro _ R ⟨s,ns,g,mk,v,rfl,h,p,H,q⟩;have E:=h.few;have cl:(bB g v).length=ns.length:=%[_2 H,h.h.len|_]
 refine#[%[ak,p|aL E vw],comp_map L2.T.bl (λb=>aa (if b then 1 else 0)) mk (λb _ N M V=>by cases b<;>exact V) ?_];refine#[s,ns,g,v,rfl,h.h,H,mk,bB g v,rfl,by lia,%[cl,p|_],λo U=>?_,λS lf=>?_]
 .let⟨k,Z⟩:=aV U;let⟨l,G,C⟩:=Ig (k:=k) (show(bB g v).getD k none\o by rw[au,Z];rfl);have z:=h.z l (aC G) o C;exact#[z.few,%[p|z.wy.lt]]
 have lf:Lfp false ns.length (mkG mk) (λk=>d2 (cG g v k)) S:=by rw[p]at lf;exact lf
 have x:(ci mk (bB g v) S).length=ns.length:=%[IN,p|_]
 have K:∀c∈ci mk (bB g v) S,∀o,c\o->kv ns.length o:=λc hc o e=>by
  subst e;let⟨k,_,e⟩:=I0 hc;let⟨l,G,C⟩:=Ig e;exact h.z l (aC G) o C
 have b1:Bq (1:Rat):=iA;have B:=P4 h p lf;refine#[1,ci mk (bB g v) S,rfl,by lia,b1,λc hc=>?_,YF (iD 1 (ci mk (bB g v) S)) ns.length,(range mk.length).map (fF mk),rr,?_,%[ak,WP,G5,p|_],%[G5|af3],?_,?_]
 .rw[x];cases c with
  |none=>exact#[.nil,aZ _,λ_ z=>(nomatch z),λ_ z=>(nomatch z)]
  |some o =>
   have z:=K _ hc o rfl;let⟨q,P,q1,Q⟩:=z.cq;refine#[z.nd,z.few,z.wy.lt,λw hw=>?_];have d:=UY P (Q w hw);have O:w.2<=1:=by
    have:=mY (λw hw=>UK (z.wy.pos w hw)) hw;rw[<- G8,z.wy.one]at this;exact this
   have n:=HX (r:=w.2) (A:=1) O (by have:=z.wy.pos w hw;rw[show((1:Nat):Rat)=1 from rfl];grind);have L:Bq w.2:=#[eX vy,eX vy];refine#[L,?_,by rwa[Rat.one_mul]];show Bd (((1:Nat):Int)*_);rw[show((1:Nat):Int)=1 from rfl,TZ];exact L.2
 .show[L2.T.lst ((z3 (iD 1 (ci mk (bB g v) S)) (ci mk (bB g v) S).length).map L2.T.lst),L2.T.lst (mk.map λb=>aa (if b then 1 else 0))]=_;rw[Nc,_H,show k8 1 (ci mk (bB g v) S)=YF (iD 1 (ci mk (bB g v) S)) ns.length by unfold k8 YF;rw[x]]
 .rw[p];exact B
 .rw[G5,p];intro y W J;have X:=T' (f:=iD 1 (ci mk (bB g v) S)) (b:=fF mk) (m:=ns.length) W;have u:∀k,k<ns.length->y k=fF mk k+if mkG mk k=false/\S k=true then dw (vY (cG g v k)) y else 0:=λk t=>by
   have:=X k t;rw[<- x,Ic (by rwa[x]) λw hw=>by
    rw[x];cases e:(ci mk (bB g v) S).getD k none with
    |none=>rw[e]at hw;cases hw
    |some o =>
     rw[e]at hw;rw[au,aj (by rwa[x])]at e;exact(K _ (aU _) o e).wy.lt w hw,F4 (by rwa[p])]at this
   by_cases c:mkG mk k=false/\S k
   .rw[ZY c]at this ⊢;have this:y k-1*dw (vY (cG g v k)) y=fF mk k:=this
    grind
   .rw[ZZ c]at this ⊢;have this:y k-1*(0:Rat)=fF mk k:=this
    grind
  refine q S y #[lf,λk t j=>?_,λk t j s=>?_,λk t s=>?_] λi I=>#[aL (J i I).n (qh E),aL (J i I).d (qh E)]
  .rw[u k t,ZZ %[j|λz=>Bool.noConfusion z.1]];unfold fF;rw[j];show(1:Rat)+0=1
   grind
  .have a:=u k t;rw[ZY #[j,s]]at a;unfold fF at a;rw[j]at a;have a:y k=0+_:=a
   grind
  .have j:mkG mk k=false:=by
    cases j:mkG mk k with
    |false=>rfl
    |true=>rw[lf.base k t j]at s;cases s
   have a:=u k t;rw[ZZ %[s|λz=>Bool.noConfusion z.2]]at a;unfold fF at a;rw[j]at a;have a:y k=0+0:=a
   grind
def BK:xj->List zI
 |[]=>[[]]
 |l::g=>((if l=[]then[none]else(range l.length).map some).map λd=>(BK g).map λv=>d::v).flatten
theorem J':∀{g:xj}{v:zI},PlT g v->v∈BK g
 |[],v,h=>by
  have:=h.len;rw[List.length_eq_zero_iff.mp this];exact YR.mpr rfl
 |l::g,[],h=>by have:=h.len;cases this
 |l::g,d::v,h=>by
  have b:=J' (g:=g) (v:=v) #[Nat.succ.inj h.len,λk d l e c=>h.ok (k+1) d l e c];have a:=h.ok 0 d l rfl rfl;refine List.mem_flatten.mpr #[_,YV.mpr #[d,?_,rfl],YV.mpr #[v,b,rfl]];cases d with
  |none =>
   have:l.length=0:=of_decide_eq_true a;rw[ZY (List.length_eq_zero_iff.mp this)];exact YR.mpr rfl
  |some d =>
   have:d<l.length:=of_decide_eq_true a;rw[ZZ λz=>by rw[z]at this;cases this];exact YV.mpr #[d,List.mem_range.mpr this,rfl]
theorem Rq{Q:Type} : ∀{l l':List Q},l.Nodup->(∀a∈l,a∈l')->l.length<=l'.length
 |[],_,_,_=>aZ _
 |a::l,l',e,h=>by
  let⟨s,t,rfl⟩:=List.append_of_mem (h a (aO ..));have c:=List.nodup_cons.mp e;have:=Rq (l:=l) (l':=s++t) c.2 λb d=>by
   have m:=h b (aJ _ d);rcases Y1.mp m with z|z
   .exact US _ z
   .rcases YU.mp z with y|y
    .exact absurd (y ▸ d) c.1
    .exact aP _ y
  rw[length_cons,aA,length_cons];rw[aA]at this;lia
abbrev el:=List xS×xt
abbrev wo:=Option el
abbrev eB(p:el):T:=.tup [.lst (p.1.map dT),.lst (p.2.map aa)]
abbrev xG(E:xt)(k:Nat):Rat:=E.getD k 0
def aaE(h:xt)(n M:Nat)(e:0<M):(∀r∈h,r.den<=M)->d9 n h<=n*M^h.length:=by
 induction h generalizing n with
 |nil=>intro _;show n<=n*1;lia
 |cons r h c =>
  intro a;have b:Nat.lcm n r.den<=n*M:=aL (by unfold Nat.lcm;exact div_le_self _ _) (ku _ (a r (aO ..)));refine aL (c (Nat.lcm n r.den) λx d=>a x (aJ _ d)) ?_;rw[length_cons,pow_succ,Nat.mul_comm (M^h.length),<- Nat.mul_assoc];exact Nat.mul_le_mul_right _ b
structure qe(e:Bool)(g:xj)(mk:xf)(E:xt)(v bX:zI):Prop where
 len:bX.length=v.length
 keep:∀(k:Nat)l,g[k]?\l->mkG mk k=true\/l=[]->bX[k]?=v[k]?
 turn:∀(k d:Nat)l,mkG mk k=false->v[k]?\(some d)->g[k]?\l->∃b,bX[k]?\(some b)/\V4 e (l.map λo=>Ed o.ways (tops (d9 1 E) E)) d b
structure XsB(m:Nat)(E:xt):Prop where
 len:E.length=m
 fn:∀x∈E,FnB (10^39) x
 nn:∀x∈E,0<=x
 le:∀x∈E,x<=1
def XsB.get{m:Nat}{E:xt}(h:XsB m E)(k:Nat):0<=xG E k/\xG E k<=1:=by
 show 0<=E.getD k 0/\E.getD k 0<=1;rw[au];cases e:E[k]? with
 |none=>exact#[W1,by show(0:Rat)<=1;decide]
 |some x=>exact#[h.nn x (aC e),h.le x (aC e)]
def XsB.lcm(h:XsB m E)(b:m<=8):d9 1 E<=10^312:=by
 have:=aaE E 1 (10^39) (Nat.pow_pos vw) λr a=>(h.fn r a).d;rw[Nat.one_mul,h.len,<- Nat.pow_mul]at this;exact aL this (XU vw vy)
def Pi{o:bN}(z:kv ns.length o)(u:ns.length<=8)(h:XsB ns.length E):LB o.ways (tops (d9 1 E) E)/\Bq (Ed o.ways (tops (d9 1 E) E)):=by
 let⟨q,i,s,j⟩:=z.cq;have m:=h.lcm u;have v:d9 1 (o.ways.map (·.2))<=4000:=aL (UY i (xX _ (TH _) λr f=>by
  let⟨w,c,rfl⟩:=YV.mp f;exact j w c)) s
 have y:=iZ (o.ways.map (·.2)) UQ;have g:∀w∈o.ways,w.2.num.natAbs<=4000:=λw c=>by
  have p:w.2<=1:=by
   have:=mY (λw c=>UK (z.wy.pos w c)) c;rw[<- G8,z.wy.one]at this;exact this
  have n:=HX (r:=w.2) (A:=1) p (by have:=z.wy.pos w c;rw[show((1:Nat):Rat)=1 from rfl];grind);have:=UY i (j w c);lia
 refine#[#[z.few,λw c=>by unfold tops;rw[ak,h.len];exact z.wy.lt w c,λw c=>eX (by have:=g w c;exact Y3 this vw),eX (by omega),λt d=>?_,λt d=>?_],?_]
 .unfold tops at d;rw[WU]at d;let⟨w,c,rfl⟩:=YV.mp d;refine vG (n:=8) ?_ vw;show(w.2.num*((d9 1 (o.ways.map (·.2))/w.2.den:Nat):Int)).natAbs<=_;rw[VT,XT];exact aL (VS (g w c) (aL (div_le_self _ _) v)) vw
 .let⟨r,f,rfl⟩:=YV.mp d;refine vG (n:=39+312) ?_ vw;rw[VT,XT,pow_add];exact VS (h.fn r f).n (aL (div_le_self _ _) m)
 .have B:(Ed o.ways (tops (d9 1 E) E)).den<=4000:=by
   rw[<- T3 y _ o.ways λw c=>(oE _).2 _ (YV.mpr #[w,c,rfl])];have:=(div_pos (a:=(o.ways.map λw=>w.2.num*((d9 1 (o.ways.map (·.2))/w.2.den:Nat):Int)*(tops (d9 1 E) E).getD w.1 0).sum) (b:=((d9 1 (o.ways.map (·.2)):Nat):Int)) vy).1;lia
  have e:=Cp E o.ways;have a:=z.wy.le (M:=1) (x:=λk=>E.getD k 0) λw _=>(h.get w.1).2;have b:=z.wy.ge (M:=0) (x:=λk=>E.getD k 0) λw _=>(h.get w.1).1;have l:(0:Rat)<=((d9 1 E:Nat):Rat):=by exact_mod_cast aZ _
  have n:=HX (r:=Ed o.ways (tops (d9 1 E) E)) (A:=d9 1 E) (by rw[e];have:=Rat.mul_le_mul_of_nonneg_right a l;grind) (by rw[e];have:=Rat.mul_nonneg b l;grind);refine#[vG (n:=312+4) ?_ vw,eX (by omega)];rw[pow_add];exact aL n (VS m (aL B vw))
structure Rb(e:Bool)(g:xj)(mk:xf)(tp:xi)(v:zI)(k:Nat)(bX:zI):Prop where
 len:bX.length=k
 keep:∀(i:Nat)l,i<k->g[i]?\l->mkG mk i=true\/l=[]->bX[i]?=v[i]?
 turn:∀(i d:Nat)l,i<k->mkG mk i=false->v[i]?\(some d)->g[i]?\l->∃b,bX[i]?\(some b)/\V4 e (l.map λo=>Ed o.ways tp) d b
def Rb.next{e:Bool}{g:xj}{r:xi}{q:zI}(j:Rb e g mk r v k q){a:xS}{l:wp}(x:v[k]?\d)(w:g[k]?\l)(B:mkG mk k\/l=[]->a=d)(A:∀p,mkG mk k=false->d\p->∃b,a\b/\V4 e (l.map λo=>Ed o.ways r) p b):Rb e g mk r v (k+1) (q++[a]):=by
 have n:∀{i:Nat},i<k->(q++[a])[i]?=q[i]?:=λh=>aF (by have:=j.len;lia);have u:(q++[a])[k]?\a:=by rw[aD (by have:=j.len;exact WG this),j.len,Nat.sub_self];rfl
 refine#[by rw[aA,j.len];rfl,λi s h f c=>?_,λi p s h m f t=>?_]
 .by_cases z:i=k
  .subst z;rw[w]at f;cases f;rw[u,x,B c]
  .rw[n (XX (VX h) z)];exact j.keep i s (XX (VX h) z) f c
 .by_cases z:i=k
  .subst z;rw[w]at t;cases t;rw[x]at f;cases f;let⟨b,rfl,y⟩:=A p m rfl;exact#[b,u,y]
  .rw[n (XX (VX h) z)];exact j.turn i p s (XX (VX h) z) m f t
def rZ(D:ba)(c:Str->Ω):ST:=λb q=>∃(e:Bool)(v:Addr)(s:Rat)(ns:Φ)(g:xj)(mk:xf)(p:el),b=[b7 D s ns g,c2 mk,eB p,.val (.ref v)]/\e/\c jO=some (.ref v)/\HlZ ns g/\mk.length=ns.length/\PlT g p.1/\XsB ns.length p.2/\∀a:zI,qe e g mk p.2 p.1 a->q (.l1 (a.map dT))
def Lz(T:Tx D):gT 4 tu jz (rZ D mg):=ya T.Qq λ{f Y}F=>by
 refine F.okT Lj (λ_ _=>bG (bT 4 (bK (bJ (lI T) (bA (bK ve bF) bC)) bF))
  (bG (gA 5 (dg bC))
  (bG (cY (qO T.gR (bA (bK ve bF) bC)) (dY (n:=2) (bO (bW (n:=99) 6) (bO (bW (n:=99) 7) cT)))
  (bG (bT 8 (Ho (cJ (bK vn (qv 6))) (dg bC) (yj vt T.gB T.jF (kf T) (bA (qv 6) bC) (KS:=iu))))
  (bI (pZ 5 (bJ (Oz T) (bA (cL (bH pq) vq vq ["offer"] (bZ (qv 8)) (dH (i:=0)) cj (bJ (Ma T) (bA vt (bA vS bC)))) (bA (qv 7) (bA vi bC))))))))
  (bI (gC 5))))) ?_
 rintro _ R ⟨e,a,s,ns,g,mk,p,rfl,W,V,h,ml,J,A,q⟩;have O:=h.few;let⟨v,E⟩:=p;dsimp only at J A q;have B1:=A.lcm O;refine#[E,rfl,%[A.len|aL O vw],λr hr=>vG (n:=39) (A.fn r hr).n vw,vG (n:=312) (by rwa[XT]) vw,?_];have S:∀l∈g,∀o∈l,_:=λl dL o B=>Pi (h.z l dL o B) O A;generalize et:tops (d9 1 E) E=w at S ⊢;refine q_ dT v (λk o=>∃u x y z,o=[.fz (b7 D s ns g),.fz (c2 mk),.fz (eB (v,E)),.fz (.val (.ref a)),.fz (.lst (w.map L2.T.int)),.l1 (u.map dT),x,y,z]/\Rb e g mk w v k u) #[[],.und,.und,.und,rfl,rfl,λi _ z=>absurd z (WZ _),λi _ _ z=>absurd z (WZ _)] ?_ ?_
 .rintro k d _ t ⟨u,x,y,z,rfl,j⟩;have lk:=(ao.mp t).1;have B:k<g.length:=by rwa[<- J.len]
  have C:=aj B;have hl:=h.h.len;have lm:k<mk.length:=by lia
  have Z:=aj lm;have X:mkG mk k=mk[k]:=by unfold mkG;rw[au,Z];rfl
  have P:(u.map dT).length<sizeLine:=%[ak,j.len|aR (show _<1001 by lia) vw]
  have ma:∀a:xS,u.map dT++[dT a]=(u++[a]).map dT:=λa=>by rw[bf];rfl
  have I:∀(L:xS)(G:OT),Rb e g mk w v (k+1) (u++[L])->∃U x y z,[OT.fz (b7 D s ns g),.fz (c2 mk),.fz (eB (v,E)),.fz (.val (.ref a)),.fz (.lst (w.map L2.T.int)),.l1 (u.map dT++[dT L]),.fz (.int k),.fz (dT d),G]=[.fz (b7 D s ns g),.fz (c2 mk),.fz (eB (v,E)),.fz (.val (.ref a)),.fz (.lst (w.map L2.T.int)),.l1 (U.map dT),x,y,z]/\Rb e g mk w v (k+1) U:=λL G h=>#[u++[L],_,_,G,%[<- ma|_],h];refine#[rfl,_,cQ Z,?_];cases cm:mk[k]with
  |true =>
   have mt:mkG mk k:=%[X,cm|_]
   refine#[by decide,e,a,[],d,rfl,W,V,by decide,λx A=>(nomatch A),λ_=>#[P,I d _ (j.next t C (λ_=>rfl) λQ z=>by rw[mt]at z;cases z)],λz=>absurd rfl z]
  |false =>
   have mf:mkG mk k=false:=%[X,cm|_]
   have H:=aU B;have Y:=h.h.fews _ H;refine#[#[rfl,rfl],_,_,_,k,_,rfl,h.h,C,%[ak|aL Y vw],comp_map dm (λo=>aa (Ed o.ways w)) g[k] (λo B N M hN=>#[o,w,rfl,(S _ H o B).1,hN]) #[e,a,g[k].map λo=>Ed o.ways w,d,by rw[WU];rfl,W,V,%[ak|Y],λx A=>?_,λz=>#[P,I d _ (j.next t C (λ_=>rfl) λQ _ G=>?_)],λz=>?_]]
   .let⟨o,B,rfl⟩:=YV.mp A;exact(S _ H o B).2
   .have K:=J.ok k d _ t C;rw[G,List.map_eq_nil_iff.mp z]at K;exact absurd (of_decide_eq_true (show decide (Q<0)=true from K)) (WZ _)
   .have K:=J.ok k d _ t C;cases d with
    |none =>
     have:g[k].length=0:=of_decide_eq_true K;exact absurd (by rw[List.length_eq_zero_iff.mp this];rfl) z
    |some d =>
     refine#[d,rfl,%[ak|of_decide_eq_true K],λb hb=>#[P,I (some b) _ (j.next t C (λc=>?_) λQ _ G=>?_)]]
     .rcases c with c|c
      .rw[mf]at c;cases c
      .exact absurd (by rw[c];rfl) z
     .cases G;exact#[b,rfl,hb]
 .rintro _ ⟨u,x,y,z,rfl,j⟩;refine q u #[j.len,λk l t c=>j.keep k l %[J.len|(ao.mp t).1] t c,λk d l m t C=>?_];rw[et];exact j.turn k d l (ao.mp t).1 m t C
def Sh{b:Bool}{mk:Nat->Bool}{H:Nat->wE}{Z:Nat->Bool}(h:Lfp b m mk H S)(c:Lfp b m mk H Z)(d:k<m):S k=Z k:=by
 have a:=h.least Z c.base c.step k d;have b:=c.least S h.base h.step k d;cases e:S k with
 |true=>rw[a e]
 |false =>
  cases f:Z k with
  |true=>rw[b f]at e;exact e.symm
  |false=>rfl
section
variable{m:Nat}{mk S Z:Nat->Bool}{c:Nat->xN}{x x' x'':Nat->Rat}{e:Bool}
def gW.le_of(h:gW m mk c S x)(b:gW m mk c Z x')(e:∀k,k<m->∀o,c k\o->WyO m o)(a:k<m):x k<=x' k:=by
 have:=mp h.lf e (d:=λk=>x k-x' k) (λk a g s=>%[Jf,<- h.mean k a g s,<- b.mean k a g %[<- Sh h.lf b.lf a|s]|W1]) (λk a g=>by rw[h.goal k a g,b.goal k a g];grind) (λk a s=>by rw[h.no k a s,b.no k a %[<- Sh h.lf b.lf a|s]];grind) k a
 grind
def gW.uniq(h:gW m mk c S x)(d:gW m mk c Z x')(a:∀k,k<m->∀o,c k\o->WyO m o)(b:k<m):x k=x' k:=Rat.le_antisymm (h.le_of d a b) (d.le_of h a b)
def UpX(e:Bool)(m:Nat)(x x':Nat->Rat):Prop:=(∀k,k<m->¬b' e (x' k) (x k))/\∃k,k<m/\b' e (x k) (x' k)
theorem HL{a b c:Rat}(h:¬b' e b a)(k:¬b' e c b):¬b' e c a:=by
 cases e<;>simp only[b']at *<;>grind
theorem _L{a b c:Rat}(h:b' e a b)(k:¬b' e c b):b' e a c:=by
 cases e<;>simp only[b']at *<;>grind
def K3{a:Rat} : ¬b' e a a:=by
 cases e<;>simp only[b']<;>grind
def KO{a b B:Rat}(h:0<B):b' e (a*B) (b*B)↔b' e a b:=by
 cases e<;>simp only[b']
 .exact#[λl=>Rat.not_le.mp λz=>Rat.not_le.mpr l (Rat.mul_le_mul_of_nonneg_right z (UK h)),λl=>Rat.mul_lt_mul_of_pos_right l h]
 .exact#[λl=>Rat.not_le.mp λz=>Rat.not_le.mpr l (Rat.mul_le_mul_of_nonneg_right z (UK h)),λl=>Rat.mul_lt_mul_of_pos_right l h]
def UpX.trans(h:UpX e m x x')(k:UpX e m x' x''):UpX e m x x'' :=
 #[λi a=>HL (h.1 i a) (k.1 i a),by let⟨i,a,z⟩:=h.2;exact#[i,a,_L z (k.1 i a)]]
def SK{f:Nat->xN}(t:Turn e m mk x c f)(h:gW m mk c S x)(j:gW m mk f Z x')(hw:∀k,k<m->∀o,c k\o->WyO m o)(l:∀k,k<m->∀o,f k\o->WyO m o):(∀k,k<m->¬b' e (x' k) (x k))/\((∃k,k<m/\f k≠c k)->UpX e m x x'):=by
 cases e with
 |false =>
  let⟨a,b⟩:=t.up h j hw l;have n:∀k,k<m->¬b' false (x' k) (x k):=λk d z=>Rat.not_lt.mpr (a k d) z;exact#[n,λi=>by let⟨k,d,g⟩:=i;exact#[n,k,d,b k d g]]
 |true =>
  let⟨a,b⟩:=t.down h j hw l;have n:∀k,k<m->¬b' true (x' k) (x k):=λk d z=>Rat.not_lt.mpr (a k d) z;exact#[n,λi=>by let⟨k,d,g⟩:=i;exact#[n,k,d,b k d g]]
end
section
variable{e:Bool}{ns:Φ}{g:xj}{mk:xf}{E:xt}{v bX:zI}
def uw{l:wp}(e:v[k]?\d)(a:g[k]?\l):cG g v k=d.bind λd=>l[d]?:=by
 show(bB g v).getD k none=_;rw[FC e,au,a]
 rfl
def Ag(h:uq d n)(a:n≠0):∃j,d\j/\j<n:=by
 cases d with
 |none=>exact absurd (of_decide_eq_true (show decide (n=0)=true from h)) a
 |some j=>exact#[j,rfl,of_decide_eq_true h]
def GD{l:wp}{a:xi}{o:bN}(e:l[j]?\o):(l.map λo=>Ed o.ways a).getD j 0=Ed o.ways a:=by
 rw[au,aq,e]
 rfl
def PlT.room(b:PlT g v){l:wp}(c:g[k]?\l):∃d,v[k]?\d/\uq d l.length:=by
 have a:k<v.length:=%[b.len|(ao.mp c).1]
 exact#[_,aj a,b.ok k _ l (aj a) c]
def qe.plan(t:qe e g mk E v bX)(h:PlT g v):PlT g bX:=by
 refine#[t.len.trans h.len,λk d l a f=>?_];let⟨s,m,i⟩:=h.room f;by_cases c:mkG mk k\/l=[]
 .rw[t.keep k l f c,m]at a;cases a;exact i
 .have r:mkG mk k=false:=by
   cases z:mkG mk k with
   |true=>exact absurd (.inl z) c
   |false=>rfl
  have q:l.length≠0:=λz=>c (.inr (List.length_eq_zero_iff.mp z));let⟨j,rfl,o⟩:=Ag i q;let⟨b,p,n⟩:=t.turn k j l r m f;rw[p]at a;cases a;refine Zs (?_:b<l.length);rcases n with⟨z,_⟩|⟨z,_⟩
  .rw[z];exact o
  .rw[ak]at z;exact z
def qe.turned(t:qe e g mk E v bX)(p:PlT g v)(q:ns.length=g.length):Turn e ns.length (mkG mk) (xG E) (cG g v) (cG g bX):=by
 have B0:(0:Rat)<((d9 1 E:Nat):Rat):=by exact_mod_cast iZ E UQ
 have s:∀k,k<ns.length->∀l,g[k]?\l->mkG mk k=true\/l=[]->cG g bX k=cG g v k:=λk h l f c=>by
  let⟨d,i,_⟩:=p.room f;rw[uw i f,uw (by rwa[t.keep k l f c]) f]
 refine#[λk h a=>?_,λk h a=>?_,λk h a o m=>?_]
 .exact s k h _ (aj (aR h (WG q))) (.inl a)
 .have f:=aj (show k<g.length by exact aR h (WG q));let⟨d,i,Y⟩:=p.room f;rw[s k h _ f (.inr ?_),a];by_cases c:g[k].length=0
  .exact List.length_eq_zero_iff.mp c
  .let⟨j,rfl,w⟩:=Ag Y c;rw[uw i f]at a;have a:g[k][j]?=none:=a;rw[aj w]at a;cases a
 .have f:=aj (show k<g.length by exact aR h (WG q));let⟨d,i,Y⟩:=p.room f;rw[uw i f]at m;cases d with
  |none=>cases m
  |some j =>
   have m:g[k][j]?\o:=m;let⟨b,r,u⟩:=t.turn k j _ a i f;rcases u with⟨z,_⟩|⟨z,y,_⟩
   .subst z;refine#[o,?_,.inl ?_]
    .rw[uw r f];exact m
    .rw[uw r f,uw i f]
   .rw[ak]at z;have n:=aj z;refine#[g[k][b],%[uw r f|n],.inr ?_];rw[GD m,GD n,Cp,Cp]at y;exact(KO B0).mp y
def qe.moved(t:qe e g mk E v bX)(f:PlT g v)(s:ns.length=g.length)(n:bX≠v):∃k,k<ns.length/\cG g bX k≠cG g v k:=by
 refine Classical.byContradiction λp=>n (Q3 λk=>?_);by_cases h:k<g.length
 .have a:=aj h;let⟨d,i,Y⟩:=f.room a;by_cases c:mkG mk k\/g[k]=[]
  .exact t.keep k _ a c
  .have r:mkG mk k=false:=by
    cases z:mkG mk k with
    |true=>exact absurd (.inl z) c
    |false=>rfl
   let⟨j,rfl,l⟩:=Ag Y λz=>c (.inr (List.length_eq_zero_iff.mp z));let⟨b,m,o⟩:=t.turn k j _ r i a;rcases o with⟨z,_⟩|⟨z,y,_⟩
   .rw[m,i,z]
   .rw[ak]at z;refine absurd (Classical.byContradiction λq=>p #[k,by lia,q] : cG g bX k=cG g v k) λw=>?_;rw[uw m a,uw i a]at w;have w:g[k][b]?=g[k][j]?:=w;rw[aj l]at w;rw[GD w,GD (aj l)]at y;exact K3 y
 .rw[aM %[t.len,f.len|VU h],aM %[f.len|VU h]]
def qe.best(t:qe e g mk E v v)(p:PlT g v)(h:HlZ ns g)(s:gW ns.length (mkG mk) (cG g v) S (xG E)):gx e ns.length (mkG mk) (λk=>g.getD k []) (xG E):=by
 have u:=h.h.len;have B0:(0:Rat)<((d9 1 E:Nat):Rat):=by exact_mod_cast iZ E UQ
 refine#[λk q a o c=>?_];have f:=aj (show k<g.length by lia);have c:o∈g[k]:=by
  have c:o∈g.getD k []:=c;rw[au,f]at c;exact c
 let⟨d,i,Y⟩:=p.room f;let⟨j,rfl,n⟩:=Ag Y λz=>by rw[List.length_eq_zero_iff.mp z]at c;cases c
 have r:=aj n;let⟨b,l,m⟩:=t.turn k j _ a i f;rw[i]at l;cases l;rw[s.val (h.cw v) q a (by rwa[uw i f])];rcases m with⟨_,z⟩|⟨_,z,_⟩
 .have:=z _ (YV.mpr #[o,c,rfl]);rw[GD r,Cp,Cp,KO B0]at this;exact this
 .exact absurd z K3
end
def gW.congr{mk:Nat->Bool}{c:Nat->xN}{x f:Nat->Rat}(h:gW m mk c S x)(hw:∀k,k<m->∀o,c k\o->WyO m o)(e:∀k,k<m->x k=f k):gW m mk c S f:=by
 refine#[h.lf,λk a g=>%[<- e k a|h.goal k a g],λk a g s=>?_,λk a s=>%[<- e k a|h.no k a s]];rw[<- e k a,h.mean k a g s];refine X6 λw b=>?_;cases d:c k with
 |none=>rw[d]at b;cases b
 |some o =>
  rw[d]at b;exact e w.1 ((hw k a o d).lt w b)
structure X4(e:Bool)(m:Nat)(g:xj)(mk:xf)(I:xh):Prop where
 ok:∀p∈I,PlT g p.1/\∃S,gW m (mkG mk) (cG g p.1) S p.2
 up:I.Pairwise λa b=>UpX e m b.2 a.2
section
variable{e:Bool}{ns:Φ}{g:xj}{mk:xf}{I:xh}
def X4.len(h:X4 e ns.length g mk I)(z:HlZ ns g):I.length<=(BK g).length:=by
 have f:(I.map (·.1)).Nodup:=by
  unfold Nodup;rw[List.pairwise_map];refine h.up.imp_of_mem λ{a b}c l u m=>?_;let⟨_,S,d⟩:=h.ok a c;let⟨_,Z,n⟩:=h.ok b l;let⟨k,j,w⟩:=u.2;rw[m]at d;rw[d.uniq n (z.cw _) j]at w;exact K3 w
 have:=Rq f (l':=BK g) λa c=>by
  let⟨p,i,rfl⟩:=YV.mp c;exact J' (h.ok p i).1
 rw[ak]at this;exact this
def X4.cons{p:List xS×(Nat->Rat)}(h:X4 e ns.length g mk I)(f:PlT g p.1){S:Nat->Bool}(hc:gW ns.length (mkG mk) (cG g p.1) S p.2)(d:∀l,I.head?\l->UpX e ns.length l.2 p.2):X4 e ns.length g mk (p::I):=by
 refine#[λq c=>?_,List.pairwise_cons.mpr #[λb a=>?_,h.up]]
 .rcases YU.mp c with rfl|c
  .exact#[f,S,hc]
  .exact h.ok q c
 .cases I with
  |nil=>cases a
  |cons l i =>
   have u:=d l rfl;rcases YU.mp a with rfl|a
   .exact u
   .exact((List.pairwise_cons.mp h.up).1 b a).trans u
end
structure Fin(e:Bool)(ns:Φ)(g:xj)(mk:xf)(cf:zI)(p:el):Prop where
 pl:PlT g p.1
 xs:XsB ns.length p.2
 ch:∃S,gW ns.length (mkG mk) (cG g p.1) S (xG p.2)
 best:gx e ns.length (mkG mk) (λk=>g.getD k []) (xG p.2)
 lo:∃S x0,gW ns.length (mkG mk) (cG g cf) S x0/\∀k,k<ns.length->¬b' e (xG p.2 k) (x0 k)
structure Stl(e:Bool)(ns:Φ)(g:xj)(mk:xf)(cf:zI)(p:el)(cl:zI):Prop where
 pl:PlT g p.1
 xs:XsB ns.length p.2
 ch:∃S,gW ns.length (mkG mk) (cG g p.1) S (xG p.2)
 turn:qe e g mk p.2 p.1 cl
 lo:∃S x0,gW ns.length (mkG mk) (cG g cf) S x0/\∀k,k<ns.length->¬b' e (xG p.2 k) (x0 k)
def toT:wo->T
 |none=>.non
 |some p=>eB p
def ab9(e:Bool)(ns:Φ)(g:xj)(mk:xf)(b:zI)(I:xh)(a:zI):wo->Prop
 |none=>I=[]/\a=b
 |some p=>I.head?\(p.1,xG p.2)/\Stl e ns g mk b p a
def ab9.plan{e:Bool}{ns:Φ}{g:xj}{mk:xf}{c b:zI}{I:xh}{a:wo}(d:PlT g c)(h:ab9 e ns g mk c I b a):PlT g b:=by
 cases a with
 |none=>rwa[h.2]
 |some p=>exact h.2.turn.plan h.2.pl
def ab9.next{e:Bool}{g:xj}{f b r:zI}{I:xh}{d:wo}(z:HlZ ns g)(x:PlT g f)(q:X4 e ns.length g mk I)(h:ab9 e ns g mk f I b d)(t:d.map (·.1)≠some b)(i:XsB ns.length E)(hc:gW ns.length (mkG mk) (cG g b) S (xG E))(j:qe e g mk E b r):X4 e ns.length g mk ((b,xG E)::I)/\ab9 e ns g mk f ((b,xG E)::I) r (some (b,E)):=by
 have c:=h.plan x;have m:=z.h.len;cases d with
 |none =>
  let⟨rfl,rfl⟩:=h;exact#[q.cons c hc λl e=>(nomatch e),rfl,c,i,#[S,hc],j,S,xG E,hc,λ_ _=>K3]
 |some a =>
  let⟨y,p⟩:=h;let⟨Z,A⟩:=p.ch;have n:b≠a.1:=λw=>t (by rw[w];rfl);have u:=SK (p.turn.turned p.pl (ns:=ns) m.symm) A hc (z.cw _) (z.cw _);refine#[q.cons c hc λl e=>?_,rfl,c,i,#[S,hc],j,by let⟨Z,s,B,v⟩:=p.lo;exact#[Z,s,B,λk o=>HL (v k o) (u.1 k o)]];rw[y]at e;cases e;exact u.2 (p.turn.moved p.pl (ns:=ns) m.symm n)
def Q5(g:xj):zI:=g.map λl=>if 0<l.length then some 0 else none
def afM(g:xj):PlT g (Q5 g):=by
 refine#[ak ..,λk d l a b=>?_];unfold Q5 at a;rw[aq,b]at a;cases a;show uq (if 0<l.length then some 0 else none) l.length=true;split
 .rename_i h;exact Zs h
 .rename_i h;exact Zs vy
def Dk(D:ba):ST:=λa q=>∃(s:Rat)(ns:Φ)(g:xj),a=[b7 D s ns g]/\Fz ns g/\q (.l1 ((Q5 g).map dT))
def PX(T:Tx D):gT 4 vC lH (Dk D):=yB T.Vt Qf (λ_ _=>bI (bR (cL (bH qJ) yh yh ["room"] (c7 T.eG (bA (sU vt T.gB T.j_ (Uh T) (KS:=iu)) bC)) (dH (i:=0)) cj (Ho (cg Fj (bQ cH T.dz WJ (bA (yj vn T.gB T.jF (kf T) (bA vt bC) (KS:=iu)) bC)) bF) bF fW))))<|by
 rintro _ R ⟨s,ns,g,rfl,h,q⟩;have e:=h.few;have j:=h.len;have f:(range ns.length).map (λk=>dT (if 0<(g.getD k []).length then some 0 else none))=(Q5 g).map dT:=by
  refine Q3 λk=>?_;unfold Q5;rw[aq,aq,aq];by_cases b:k<ns.length
  .rw[VY b,aj (show k<g.length by lia)];show some (dT (if 0<(g.getD k []).length then some 0 else none))\(dT (if 0<g[k].length then some 0 else none));rw[show g.getD k []=g[k]by rw[au,aj (show k<g.length by lia)];rfl]
  .rw[aM %[WP|VU b],aM (show g.length<=k by lia)]
   rfl
 refine#[#[rfl,rfl],s,ns,g,rfl,#[by lia,by lia],%[rng,ak,WP|aL (show _<=1000 by lia) vw],Hg (λk=>dT (if 0<(g.getD k []).length then some 0 else none)) ns.length (λk b N M a=>?_) ?_]
 .have d:=aj (show k<g.length by lia);rw[au,d]at a;have a:N (dT (if 0<g[k].length then some 0 else none)):=a;refine#[#[rfl,rfl],s,ns,g,k,_,rfl,h,d,?_];by_cases c:0<g[k].length
  .rw[ZY c]at a;exact dI (Zs (by rw[ak];lia)) a
  .rw[ZZ c]at a;exact cR (Zp (by rw[ak];lia)) a
 .rw[f];exact q
def Yr:EqD L2.T.bl PyData.bool:=#[λ_=>rfl,λ_=>rfl,λ_=>aZ _,λx y=>by cases x<;>cases y<;>rfl]
structure CP(g:xj)(mk:xf)(p:zI)(k:Nat)(v:zI):Prop where
 fit:PlT g v
 ok:∀(i:Nat)l,i<k->g[i]?\l->d_ p i=false->l≠[]->∃j o,v[i]?\(some j)/\l[j]?=some o/\cp (d_ p) (o.ways.map (·.1))=false
def ac3{g:xj}(h:HlZ ns g)(B:mk.length=ns.length)(I:Steps true mk (dV mk g) p)(n:CP g mk p ns.length v){x:Nat->Rat}(hc:gW ns.length (mkG mk) (cG g v) S x):∀k,k<ns.length->d_ p k=false->x k=0:=λe q m=>by
 have C:=h.h.len;have t:∀k,k<ns.length->S k=true->d_ p k=true:=hc.lf.least (d_ p) (λk n b=>I.lf.base k vy b) λk u j=>by
  let⟨o,c,w,hw,sw⟩:=Vq j;refine Classical.byContradiction λd=>?_;have d:d_ p k=false:=by cases z:d_ p k with|true=>exact absurd z d|false=>rfl
  have f:=aj (show k<g.length by lia);let⟨l,s,r⟩:=Ig c;rw[f]at s;cases s;let⟨i,a,A,y,mt⟩:=n.ok k _ u f d λz=>by rw[z]at r;cases r
  rw[uw A f]at c;have c:g[k][i]?\o:=c;rw[y]at c;cases c;have:cp (d_ p) (o.ways.map (·.1)):=List.any_eq_true.mpr #[w.1,YV.mpr #[w,hw,rfl],sw];rw[mt]at this;cases this
 refine hc.no e q ?_;cases z:S e with
 |true=>rw[t e q z]at m;cases m
 |false=>rfl
theorem Yk:∀{bs:xf},bs.all (λb=>b)=false->∃j:Nat,bs[j]?\false/\∀i:Nat,i<j->bs[i]?\true
 |[],h=>by cases h
 |false::bs,_=>#[0,rfl,λi z=>absurd z (WZ _)]
 |true::bs,h=>by
  let⟨j,e,n⟩:=Yk (bs:=bs) h;refine#[j+1,e,λi a=>?_];cases i with
  |zero=>rfl
  |succ i=>exact n i (Nat.lt_of_succ_lt_succ a)
def CP.skip{g:xj}(h:CP g mk p k v)(n:∀l,g[k]?\l->d_ p k=true\/l=[]):CP g mk p (k+1) v:=#[h.fit,λi l d b s a=>by
 by_cases c:i=k
 .subst c;rcases n l b with z|z
  .rw[z]at s;cases s
  .exact absurd z a
 .exact h.ok i l (XX (VX d) c) b s a]
def CP.put{g:xj}{l:wp}{o:bN}(h:CP g mk p k v)(n:g[k]?\l)(q:l[j]?\o)(m:cp (d_ p) (o.ways.map (·.1))=false):CP g mk p (k+1) (v.set k (some j)):=by
 have t:k<v.length:=%[h.fit.len|(ao.mp n).1]
 have b:(v.set k (some j))[k]?\(some j):=%[Up t|_]
 refine#[#[%[WH|h.fit.len],λi d f e a=>?_],λi f u a s r=>?_]
 .by_cases c:i=k
  .subst c;rw[b]at e;rw[n]at a;cases e;cases a;exact Zs (ao.mp q).1
  .rw[VV (λz=>c z.symm)]at e;exact h.fit.ok i d f e a
 .by_cases c:i=k
  .subst c;rw[n]at a;cases a;exact#[j,o,b,q,m]
  .rw[VV (λz=>c z.symm)];exact h.ok i f (XX (VX u) c) a s r
def p7(D:ba):ST:=λa q=>∃(s:Rat)(ns:Φ)(g:xj)(C:xy),a=[b7 D s ns g,c2 (bP ns.length C)]/\HlZ ns g/\∀p v:zI,Steps true (bP ns.length C) (dV (bP ns.length C) g) p->CP g (bP ns.length C) p ns.length v->q (.l1 (v.map dT))
theorem J3(T:Tx D):gT 5 lU gK (p7 D):=ya T.K9 λF=>by
 refine F.okU JG λai A J s H E hr nd=>?_;let⟨vs,Z,_⟩:=OkF.val (Zr T);refine#[_,(bG (bT 2 (bJ (Xk T) (bA vt (bA vn bC))))
  (bG (bT 3 (bJ (Xn T) (bA vn (bA ve (bA (G2 (by rfl) Z) bC)))))
  (bG (gA 4 (bJ (PX T) (bA vt bC)))
  (bG (cY (qO T.gR (bA ve bC)) (dY (n:=2) (bO (bW (n:=99) 5) (bO (bW (n:=99) 6) cT)))
  (bI (cB (QW.qt (xK (cg yc (bK vi vS) fW) (qF (cg Fj (bQ cH T.dz WJ (bA (qv 6) bC)) bF))))
  (bI (pY 4 (ag8 hr.units (cL (bH nM) sE sE ["door"] (bZ (qv 6)) (dH (i:=0)) cj (bJ (qk T) (bA vt (bA vF bC)))) (bA fH bC)) vS))
  bV)))
  (bI (gC 4)))))),?_]
 rintro _ R ⟨s,ns,g,C,rfl,h,q⟩;have hw:=h.toW;have K:=vP ns.length C;generalize B:bP ns.length C=mk at *;refine#[s,ns,g,mk,rfl,h.h,K,hw.fw,true,vs,mk,dV mk g,rfl,Z,%[K|hw.few],B ▸ hw.ld C,λp I=>#[s,ns,g,rfl,h.h,?_]];have hl:=h.h.len;have u:ih mk.length (dV mk g):=B ▸ hw.ld C;refine q_ jH (dV mk g) (λk o=>∃v x y,o=[.fz (b7 D s ns g),.fz (c2 mk),.fz (.lst ((dV mk g).map jH)),.fz (.lst (p.map dT)),.l1 (v.map dT),x,y]/\CP g mk p k v) #[Q5 g,.und,.und,rfl,afM g,λi _ z=>absurd z (WZ _)] ?_ ?_
 .rintro k f _ e ⟨v,x,y,rfl,m⟩;have t:=(ao.mp e).1;rw[u.len]at t;have Y:c6 (mkG mk) (uc g) k=f:=by
   rw[<- qR t];show(dV mk g).getD k []=f;rw[au,e]
   rfl
  have V:=aj (show k<p.length by rwa[I.len]);have O:=aj (show k<g.length by lia);have r:d_ p k=(p[k]'(by rwa[I.len])).isSome:=by unfold d_;rw[au,V];rfl
  refine#[rfl,_,cQ V,?_];cases c:p[k]'(by rwa[I.len])with
  |some n =>
   rw[c]at r;exact#[v,_,_,rfl,m.skip λ_ _=>.inl r]
  |none =>
   rw[c]at r;have m0:mkG mk k=false:=by
    cases z:mkG mk k with
    |false=>rfl
    |true=>rw[I.lf.base k t z]at r;cases r
   have P:f=g[k].map λo=>o.ways.map (·.1):=by
    rw[<- Y];unfold c6;rw[m0];show(g.getD k []).map _=_;rw[au,O]
    rfl
   refine eT (λz=>?_) λz=>#[v,_,_,rfl,m.skip λl W=>.inr ?_]
   .have z:0<f.length:=by rw[ak]at z;lia
    have U:(f.map (cp (d_ p))).all (λb=>b)=false:=by
     cases w:(f.map (cp (d_ p))).all (λb=>b)with
     |false=>rfl
     |true =>
      have:=I.lf.step k t (by
       show jn true (g9 (dV mk g) k) (d_ p)=true;rw[qR t,Y];show(decide (0<f.length)&&f.all (cp (d_ p)))=true;rw[all_map]at w;rwa[Zs z])
      rw[r]at this;cases this
    let⟨j,G,nj⟩:=Yk U;have Q:j<g[k].length:=by have:=(ao.mp G).1;rw[ak,P,ak]at this;exact this
    have mj:cp (d_ p) (g[k][j].ways.map (·.1))=false:=by
     rw[P,WU,aq,aj Q]at G;exact Option.some.inj G
    have L:=aC e;have S:=u.few _ L;refine#[%[ak|aL S vw],comp_map az (λd=>.bl (cp (d_ p) d)) f (λd hd N M hN=>#[d,p,rfl,(u.ok _ L d hd).1,%[I.len|(u.ok _ L d hd).2],hN]) #[(f.map (cp (d_ p))).map PyData.bool,.bool false,j,?_,rfl,Yr.lst _,rfl,%[ak|aL S vw],#[_,by rw[aq,G];rfl,rfl],λi a hi X=>?_,k,vL (by rw[ak,m.fit.len];lia),v.set k (some j),.fz (.int (k:Nat)),.fz (jH f),?_,m.put O (aj Q) mj]]
    .rw[<- kZ Yr.of,WU]
     rfl
    .rw[aq,nj i hi]at X;cases X
     rfl
    .rw[UH]
     rfl
   .rw[O]at W;cases W;rw[P,ak,ak]at z;exact List.length_eq_zero_iff.mp vy
 .rintro _ ⟨v,x,y,rfl,m⟩;rw[u.len,K]at m;exact q p v I m
structure ij(e:Bool)(ns:Φ)(g:xj)(C:xy)(p:el):Prop where
 pl:PlT g p.1
 xs:XsB ns.length p.2
 ch:∃S,gW ns.length (a' C) (cG g p.1) S (xG p.2)
 best:gx e ns.length (a' C) (uc g) (xG p.2)
 no:e->∀S,Lfp true ns.length (a' C) (c6 (a' C) (uc g)) S->∀k,k<ns.length->S k=false->xG p.2 k=0
def gW.marks{m:Nat}{mk a S:Nat->Bool}{c:Nat->xN}{x:Nat->Rat}(h:gW m mk c S x)(e:∀k,k<m->mk k=a k):gW m a c S x:=#[h.lf.marks e,λk b g=>h.goal k b (by rwa[e k b]),λk b g=>h.mean k b (by rwa[e k b]),h.no]
def Fin.chp{e:Bool}{g:xj}{f:zI}{p:el}(h:Fin e ns g (bP ns.length C) f p)(z:e->∀S,Lfp true ns.length (a' C) (c6 (a' C) (uc g)) S->∀k,k<ns.length->S k=false->xG p.2 k=0):ij e ns g C p:=by
 have d:∀k,k<ns.length->mkG (bP ns.length C) k=a' C k:=λk b=>HS b;let⟨S,c⟩:=h.ch;exact#[h.pl,h.xs,#[S,c.marks d],#[λk b a=>h.best.ok k b (by rwa[d k b])],z]
def Ml:ST:=λa q=>∃i:Int,a=[.int i]/\q (.fz (.bl true))
def p'(T:Tx D):gT 1 Ga v8 Ml:=yB T.aiL afY (λ_ _=>bI (bR (vp (oW .int vt T.dO T.aec boot_int) (Bt (HC (oW .bool vt T.dO T.RG boot_bool))))))<|by
 rintro _ R ⟨i,rfl,q⟩;exact q
def BJ:ST:=λa q=>∃r:Rat,a=[aa r]/\q (.fz (.bl true))
def LQ(T:Tx D):gT 2 sH jE BJ:=yB T.Pz Mq (λa _=>bG (cB (QW.qt (iJ (dJ (cJ (oW .tuple vt T.dO T.RN boot_tuple))) (gD (cg (mX a.units) (bQ cH T.dz WJ (bA vt bC)) bF))))
  (bI (bR fH))
  bV)
  (bG (cB (QW.qt (iJ (dJ (cJ (bJ (p' T) (bA (bK vt bF) bC)))) (gD (dJ (cJ (bJ (p' T) (bA (bK vt bF) bC)))))))
  (bI (bR fH))
  bV)
  (bI (bR (vp (kh Fj (bK vt bF) bF) (Bt (kh (z4 a.units) (bJ (EF T) (bA (bK vt bF) (bA (bK vt bF) bC))) bF)))))))<|by
 rintro _ R ⟨r,rfl,q⟩;have:=r.den_pos;refine#[_,rfl,_,rfl,dI (Zs vy) #[_,_,rfl,?_]];rwa[show Int.gcd r.num r.den=1 from r.reduced]
def FJ:ST:=λa q=>∃(h:xt)(m:Nat),a=[.lst (h.map aa),.int (m:Nat)]/\h.length=m/\m<=1000/\q (.fz (.bl true))
def Tv(T:Tx D):gT 3 yr nZ FJ:=yB T.WR Uv (λc _=>bG (cB (QW.qt (iJ (dJ (cJ (oW .list vt T.dO T.wV boot_list))) (gD (cg (mX c.units) (bQ cH T.dz WJ (bA vt bC)) vn))))
  (bI (bR fH))
  bV)
  (bI (bR (bQ (V9 rfl) T.aaI boot_all (bA (cL (bH uD) zE zE ["_law_one"] (bZ vt) (dH (i:=0)) cj (bJ (LQ T) (bA vt bC))) bC)))))<|by
 rintro _ R ⟨h,m,rfl,a,d,q⟩;refine cR (by rw[ak,a,Zs rfl];rfl) #[%[ak,a|aL d vw],comp_map aa (λ_=>.bl true) h (λr _ N M f=>#[r,rfl,f]) #[h.map λ_=>true,by rw[WU];rfl,?_]];have e:((h.map λ_=>true).all λb=>b)=true:=by simp
 rw[<- e]at q;exact q
def Xg:ST:=λa q=>∃(c:Int)(m:Nat),a=[.int c,.int (m:Nat)]/\m<=8/\∀C:xy,C.length<=9->(∀g∈C,g<m)->q (.l1 (C.map a_))
def Ha(T:Tx D):gT 2 La Bm Xg:=yB T.aiB afU (λf _=>bG (cB (cg (z4 f.units) vn bF)
  (bI (bR (dg bC)))
  bV)
  (bG (bT 2 (bJ (h5 T) (bA vt (bA bF bC))))
  (bI (bR (cL (bH KC) U6 U6 ["_law_x"] (bZ (i_ ve (fZ bF) (fZ (bM dB bF (bM cM (bK ve bF) (bK (dg (bA bF (bA bF (bA bF (bA bF bC))))) (bM cM (bK ve bF) bF))))))) (dH (i:=0)) cj (bM cM vt ve))))))<|by
 rintro _ R ⟨c,m,rfl,k,q⟩;refine eT (λz=>q [] vw λg a=>(nomatch a)) λz=>?_;refine#[c,9,rfl,by decide,?_];obtain⟨d,j,hd⟩ : ∃d:Int,c3 [L2.T.int 4,L2.T.int 4,L2.T.int 4,L2.T.int 8] (z1 c 8%4)\(.int d)/\0<d:=by
  rcases(show z1 c 8%4=0\/z1 c 8%4=1\/z1 c 8%4=2\/z1 c 8%4=3 by lia)with z|z|z|z<;>rw[z]
  .exact#[4,rfl,by decide]
  .exact#[4,rfl,by decide]
  .exact#[4,rfl,by decide]
  .exact#[8,rfl,by decide]
 refine#[_,rfl,_,rfl,by decide,_,j,hd,?_];show(fG ((jc c 9).map L2.T.int) (some 1) (some (1+z1 c 0%d))).length<=sizeLine/\iG _ _ _ _ (fG ((jc c 9).map L2.T.int) (some 1) (some (1+z1 c 0%d))) _;generalize 1+z1 c 0%d=u;rw[pB];have b:(fG (jc c 9) (some 1) (some u)).length<=9:=by
  unfold fG;rw[aY,UR];have:(jc c 9).length=9:=rfl;lia
 refine#[%[ak|aL b vw],comp_map L2.T.int (λx:Int=>.int (x%((m:Nat):Int))) _ (λx _ N M h=>#[by lia,h]) ?_];have e:(fG (jc c 9) (some 1) (some u)).map (λx:Int=>L2.T.int (x%((m:Nat):Int)))=((fG (jc c 9) (some 1) (some u)).map λx:Int=>(x%((m:Nat):Int)).toNat).map a_:=by
  rw[WU];refine UP λx _=>?_;show L2.T.int _=L2.T.int _;rw[kt (Z3 _ (by omega))]
 rw[e];refine q _ (by rwa[ak]) λg a=>?_;let⟨x,_,rfl⟩:=YV.mp a;have:=YY x (show(0:Int)<(m:Nat)by lia);have:=Z3 x (show((m:Nat):Int)≠0 by omega);lia
def Y'{t:Nat}{c:xp}{g:xj}(f:ns.length=m)(u:m<=8)(h:Fz ns g)(hd:DSk m t c)(e:JC c g):HlZ ns g:=by
 refine#[h,by exact aL (WG f) u,λos n o b=>?_];let⟨k,i⟩:=aV n;have a:k<c.length:=%[<- e.len|(ao.mp i).1]
 let⟨y,_,rfl⟩:=e.at_ k _ os (aj a) i;let⟨p,x,rfl⟩:=YV.mp b;have a:=hd.ok _ (aU a) p.2 (UX x).2;let⟨q,d,l,v⟩:=a.all;have j:=GR d v;have B:=j.few;have A:=a.few;refine#[#[λw hw=>%[f|j.lt w hw],λw hw=>?_,?_],j.nd,by show(h_ p.2.prs).length<=1000;lia,q,d,l,j.dn]
 .have r:=j.nn w hw;have s:w.2≠0:=λz=>by
   have:=(List.mem_filter.mp (show w∈(f9 p.2.prs).filter λp=>!decide (p.2=0)from hw)).2;rw[Zs z]at this;cases this
  exact Rat.not_le.mp λz=>s (Rat.le_antisymm z r)
 .show Sw (h_ p.2.prs)=1;rw[G8,j.sum,CJ,a.one]
def Nf(T:Tx D):OkI P w K mg base bh 1 D.NoRoom_init jy (EG D.NoRoom "room"):=yf T.O4 λF=>by
 refine F.okB Mf ?_ ?_
 .rintro _ _ _ _ ⟨a,v,rfl,_⟩;rfl
 .rintro e A b s H _ Q E d ⟨a,v,rfl,c,q⟩;refine#[_,(ab1 (m4.mk (pG (aeS T.ib_HallError T.xi_NoRoom (by rfl) T.XM (cD (pv 0) (cD F_ iM)))))
   (agQ (m4.mk (ag6 (pv 0) (pv 1) rfl)))),?_]
  exact#[_,rfl,a,[_],rfl,c,by decide,_,rfl,_,rfl,a,D.NoRoom,rfl,c,T.xs_NoRoom,T.Ai,q]
inductive kB(n:Nat):L2.T->Prop
 |kind {t:L2.T} : tP t\false->kB n t
 |far {k:Int} : ¬(0<=k/\k<n)->kB n (.int k)
def Ah(D:ba):SX:=λa R z=>∃(s:Rat)(ns:Φ)(g:xj)(t:L2.T),a=[b7 D s ns g,t]/\((∃k:Nat,t=.int k/\k<ns.length/\R (.fz .non))\/(kB ns.length t/\z D.NoRoom ["room"] [t]))
def N_(T:Tx D):OkI P w K mg base (eL P w) 3 D.Hall_check_room dN (jl K (Ah D)):=yf T.rF λF=>by
 refine F.okTX tY (λ_ _=>bI (cB (QW.qt (iJ (dJ (cJ (bJ (XJ T) (bA vn bC)))) (gD (dJ (MF Q_ CQ bF vn (sU vt T.gB T.j_ (Uh T) (KS:=iu)))))))
  (bI (agI rfl T.W0 T.xi_NoRoom (Nf T) vn))
  bV)) ?_
 rintro _ R Z ⟨s,ns,g,t,rfl,h⟩;rcases h with⟨k,rfl,b,q⟩|⟨h,q⟩
 .refine#[_,_,rfl,rfl,#[rfl,rfl],_,_,_,rfl,?_];show sw (!decide ((k:Int)<(ns.length:Nat))) _ _;rwa[Zs (show(k:Int)<(ns.length:Nat)by lia)]
 .cases h with
  |kind e=>exact#[_,_,rfl,e,q]
  |@far k e =>
   refine#[_,_,rfl,rfl,?_];refine eT (λa=>#[#[rfl,rfl],_,_,_,rfl,?_]) λa=>q;refine dI ?_ q;rw[Zp (λz=>e #[a,z])];rfl
def pd(ns:Φ)(b t:L2.T):Prop:=∃(a:xy)(c:List L2.T),b=.lst (a.map a_++t::c)/\iS ns a/\kB ns.length t
def Ab(D:ba):SX:=λb _ z=>∃(s:Rat)(ns:Φ)(g:xj)(a t:L2.T),b=[b7 D s ns g,a]/\Fz ns g/\pd ns a t/\z D.NoRoom ["room"] [t]
def Mw(T:Tx D):oN P w K mg base 4 jk gq (Ab D):=yi T.GX λF=>by
 refine F.okTX Dd (λ_ _=>bG (gA 2 (bM cN (dg (bA fH bC)) (sU vt T.gB T.j_ (Uh T) (KS:=iu))))
  (bG (cY (bZ vn) (bW (n:=99) 3)
  (bG (ad9 vt T.gB T.lZ (N_ T) (bA vi bC) (KS:=iu))
  (bI (pY 2 fH vi))))
  (bI (gC 2)))) ?_
 rintro _ R Z ⟨s,ns,g,y,t,rfl,h,⟨c,f,rfl,j,m⟩,q⟩;have p:=h.few;refine#[#[rfl,rfl],s,ns,g,rfl,#[by lia,by lia,by show 1*_<=_;exact aL (show _<=1000 by lia) vw],λz i=>?_];have i:z=(bP ns.length []).map L2.T.bl:=by
  rw[i,show((replicate (((ns.length:Nat):Int)).toNat [frz (OT.fz (L2.T.bl false))]).flatten)=replicate ns.length (L2.T.bl false)from q7];unfold bP;rw[WU];refine UU %[aN,ak,WP|_] λk v u=>?_;rw[List.getElem_replicate,VW]
  rfl
 rw[i];show vV _ _ _ (c.map a_++t::f) _;rw[show c.map a_++t::f=(c.map a_++t::f).map λt=>t from(List.map_id' _).symm];refine eF (λt=>t) (c.map a_++t::f) (λr o=>∃(l d:xy)(x:OT),c=l++d/\r=l.map a_/\o=[.fz (b7 D s ns g),.fz (.lst ((c.map a_++t::f).map λt=>t)),.l1 ((bP ns.length l).map L2.T.bl),x]) #[[],c,_,rfl,rfl,rfl] ?_ ?_
 .rintro _ a A _ e ⟨l,d,x,rfl,rfl,rfl⟩;rw[bf,Wp]at e;have e:=List.append_cancel_left e;cases d with
  |nil =>
   cases e;exact#[#[rfl,rfl],s,ns,g,t,rfl,.inr #[m,q]]
  |cons b d =>
   cases e;have lt:b<ns.length:=j b vc;refine#[#[rfl,rfl],s,ns,g,a_ b,rfl,.inl #[b,rfl,lt,b,?_,l++[b],d,.fz (a_ b),by simp,by simp,?_]]
   .unfold dj;rw[ak,vP,ZY (X9 _),ZY vy]
    rfl
   .rw[<- IY,UH]
    rfl
 .rintro _ ⟨l,d,x,rfl,e,rfl⟩;have:=ZH List.length e;rw[aA,ak,aA,length_cons,ak]at this;lia
def Dy{t u:TS}{D:Ends}{a:L2.St}{H:Hp}(h:t { D with nx:=u D } a H):j6 t u D a H:=h
theorem Cz{K:Frag}{F c:Hp} : ∀{E:Ζ}{v:zI},bY K F E (v.map dT)->bY K c E (v.map dT)
 |_,[],.nil=>.nil
 |_,none::_,.cons a b=>by cases a;exact .cons .non (Cz b)
 |_,some _::_,.cons a b=>by cases a;exact .cons (.int _) (Cz b)
theorem Eu{K:Frag}{F H:Hp} : ∀{E:Ζ}{v:zI},bY K F E (v.map dT)->fQ H E (v.map dD)
 |_,[],.nil=>.nil
 |_,none::_,.cons a b=>by cases a;exact .cons .non (Eu b)
 |_,some _::_,.cons a b=>by cases a;exact .cons (.int _) (Eu b)
def ToH(K:Frag)(H d:Hp)(c h:Addr)(f:V):wo->Prop
 |none=>f=.non/\h=c
 |some g=>∃p a b E e,f=.ref p/\d p=some (.tup [.ref a,.ref b])/\(a=c\/H a=none)/\H b=none/\a≠b/\d a=some (.lst E)/\d b=some (.lst e)/\bY K d E (g.1.map dT)/\bY K (L2.hd (λz=>z=a\/z=b) d) e (g.2.map aa)
structure h8(K:Frag)(H H':Hp)(ns:Φ)(g:xj)(mk:xf)(cf:zI)(c cc:Addr)(tv:V)(to:wo)(cl:zI)(I:xh):Prop where
 S:zT H H'
 co:∃zs,H' cc\(.lst zs)/\bY K H' zs (cl.map dT)
 nw:cc=c\/H cc=none
 hh:X4 true ns.length g mk I
 si:ab9 true ns g mk cf I cl to
 to:ToH K H H' c cc tv to
def _M{K:Frag}{F G:Hp}{a:Addr}{E:Ζ}(h:SqT K F a E)(e:∀b u,(∀l,u≠HO.lst l)->F b\u->G b\u):SqT K G a E:=by
 rcases h with h|h
 .exact .inl (h.imp (e _ _ λ_ z=>(nomatch z)) λc=>by let⟨o,r⟩:=c;exact#[o,e _ _ (λ_ z=>(nomatch z)) r])
 .exact .inr h
theorem KB{K:Frag}{F G:Hp}(e:∀b u,(∀l,u≠HO.lst l)->F b\u->G b\u):∀{d:Ζ}{h:xt},bY K F d (h.map aa)->bY K G d (h.map aa)
 |_,[],.nil=>.nil
 |_,r::_,.cons x y=>by
  let⟨q,f,rfl,s,c⟩:=x.tupI;cases c with
  |cons a c=>cases c with
   |cons b c =>
    cases c;cases a;cases b;exact .cons (.tup (_M s e) (.cons (.int _) (.cons (.int _) .nil))) (KB e y)
def WD{H H':Hp}{g:xj}{Y d:zI}{c l v:Addr}{tv o J C:V}{to:wo}{I:xh}{n:Rat}(e:h8 K H H' ns g mk Y c l tv to d I)(hn:to.map (·.1)≠some d)(ro:Rep K H o (b7 D n ns g))(rm:Rep K H J (c2 mk))(rk:Rep K H C (L2.T.val (V.ref v)))(hv:mg jO\(.ref v))(h:HlZ ns g)(ml:mk.length=ns.length)(hp:PlT g Y){a:Ends}(hN:∀iX t j kH gh gX,h8 K H gX ns g mk Y c t iX (some kH) j gh->gh.length=I.length+1->a.nx [some o,some J,some (.ref c),some C,some iX,some (.ref t)] gX) :
  j6 (iO (DA (Di (Lg 5) (Di (Lp (L2.spT K (lN D)) (Di (Lg 0) (Di (Lg 1) (Di (Lg 5) iN)))) iN))) (yH 4)) (iO (Lp (L2.spT K (rZ D mg)) (Di (Lg 0) (Di (Lg 1) (Di (Lg 4) (Di (Lg 3) iN))))) (yH 5)) a [some o,some J,some (.ref c),some C,some tv,some (.ref l)] H':=by
 let⟨zs,m,L⟩:=e.co;have hc:=e.si.plan hp;refine Dy #[_,rfl,_,rfl,_,rfl,_,rfl,[b7 D n ns g,c2 mk,.lst (d.map dT)],λx=>∃E:xt,x=.l1 (E.map aa)/\XsB ns.length E/\∃S,gW ns.length (mkG mk) (cG g d) S (xG E),.cons (ro.same e.S) (.cons (rm.same e.S) (.cons (.lst m L) .nil)),#[n,ns,g,mk,d,rfl,h,ml,hc,λS x X fb=>?_],?_]
 .have xm:((range ns.length).map x).map aa=(range ns.length).map λi=>aa (x i):=by rw[WU];rfl
  have xg:∀k,k<ns.length->((range ns.length).map x).getD k 0=x k:=λk P=>by rw[au,aq,VY P];rfl
  rw[<- xm];refine#[_,rfl,#[%[ak,WP|_],λr N=>?_,λr N=>?_,λr N=>?_],S,X.congr (h.cw _) λk P=>(xg k P).symm]<;>let⟨i,Q,rfl⟩:=YV.mp N
  .exact fb i (List.mem_range.mp Q)
  .exact X.nn (h.cw _) i (List.mem_range.mp Q)
  .exact X.le1 (h.cw _) i (List.mem_range.mp Q)
 rintro Z _ _ ⟨E,rfl,xb,S,cx⟩ S2 ⟨B,nb,b,ys,eb,rfl,R,ry⟩;cases eb;refine#[(show 2<=sizeLine by decide),λp O=>?_];have bn:H' b=none:=nb b vc;have y:zT Z (upd Z p (.tup [.ref l,.ref b])):=zT.upd O;have f:=S2.trans y;have ne:l≠b:=λz=>by rw[z,bn]at m;cases m
 have s:∀{G:Hp},zT (upd Z p (.tup [.ref l,.ref b])) G->bY K (L2.hd (λz=>z=l\/z=b) G) ys (E.map aa):=λ{G}SG=>KB (λq u nl eq=>by
  let⟨_,W⟩:=cW eq;have U:=SG _ _ (y _ _ W);rw[cZ λz=>?_]
  .exact U
  .rcases z with rfl|rfl
   .rw[SG _ _ (f _ _ m)]at U;cases U;exact nl _ rfl
   .rw[R]at W;cases W;exact nl _ rfl) ry
 refine#[_,rfl,_,rfl,_,rfl,_,rfl,[b7 D n ns g,c2 mk,eB (d,E),.val (.ref v)],λx=>∃j,x=.l1 (j.map dT)/\qe true g mk E d j,.cons (ro.same (e.S.trans f)) (.cons (rm.same (e.S.trans f)) (.cons (.tup (.inl (.of cu)) (.cons (.lst (f _ _ m) (Cz L)) (.cons (.lst (y _ _ R) ((s (.refl _)).same cI)) .nil))) (.cons (rk.same (e.S.trans f)) .nil))),#[true,v,n,ns,g,mk,(d,E),rfl,rfl,hv,h,ml,hc,xb,λj M=>#[j,rfl,M]],?_];rintro H4 _ _ ⟨j,rfl,M⟩ w ⟨B',F,t,A,sC,rfl,rq,kF⟩;cases sC;let⟨n1,n2⟩:=e.si.next h hp e.hh hn xb cx M;have SA:=(e.S.trans f).trans w;exact hN (.ref p) t j (d,E) ((d,xG E)::I) H4 #[SA,#[A,rq,Cz kF],.inr ((e.S.trans f).free (F t vc)),n1,n2,#[p,l,b,zs,ys,rfl,w _ _ cu,e.nw,e.S.free bn,ne,w _ _ (f _ _ m),w _ _ (y _ _ R),Cz L,s w]] rfl
def ZA(D:ba)(K:Frag)(j:Str->Ω):Sp:=λi H Q _=>∃(v:Addr)(s:Rat)(ns:Φ)(g:xj)(mk:xf)(f:zI)(c:Addr),bY K H i [b7 D s ns g,c2 mk,.lst (f.map dT),.val (.ref v)]/\i[2]?=some (.ref c)/\j jO=some (.ref v)/\HlZ ns g/\mk.length=ns.length/\PlT g f/\∀(d:Hp)(p a b:Addr)(E h:Ζ)(e:el),Fin true ns g mk f e->zT H d->d p\(.tup [.ref a,.ref b])->(a=c\/H a=none)->H b=none->a≠b->d a\(.lst E)->d b\(.lst h)->bY K (L2.hd (λz=>z=a\/z=b) d) E (e.1.map dT)->bY K (L2.hd (λz=>z=a\/z=b) d) h (e.2.map aa)->Q (.ref p) d
def Wj(T:Tx D):OkF P w K mg base 10 wU oG (ZA D K mg):=ya T.adq λF=>by
 refine F.ok sG (λU H Q d h=>?_) (λai A W s H U Q d Y h=>?_)
 .let⟨v,s,ns,g,mk,L,c,r,_⟩:=h;exact r.len
 .let⟨v,s',ns,g,mk,L,c,r,ec,hv,h,ml,hp,q⟩:=h;refine#[_,(nW (vH (i:=4) sG.nd rfl (Or.inl rfl) Zu)
   (nW (vH (i:=5) sG.nd rfl (Or.inl rfl) (pv 2))
   (nW (YC PassesOwn.never (PW.pt (pw_or (Kr HU (pv 4) Zu (MJ _)) (pw_or1 (Kr (UN Y.units) (pv 5) (uo Uj (pv 4) uG (λ_ _=>rfl)) (MJ _)))))
    (nW (vH (i:=4) sG.nd rfl (Or.inl rfl) (HK (cD (pv 5) (cD (lK (Kf T) Y.md (by rfl) (cD (pv 0) (cD (pv 1) (cD (pv 5) iM)))) iM))))
    (pC (vH (i:=5) sG.nd rfl (Or.inl rfl) (lK (Lz T) Y.md (by rfl) (cD (pv 0) (cD (pv 1) (cD (pv 4) (cD (pv 3) iM)))))))))
   (pC (z8 (pv 4)))))),?_]
  obtain⟨o,u,t,rfl⟩ : ∃o u t,U=[o,u,.ref c,t]:=by
   match U,r.len,ec with
   |[o,u,x,t],_,ec=>exact#[o,u,t,%[Option.some.inj ec|_]]
  cases r with
  |cons ro r=>cases r with
  |cons rm r=>cases r with
  |cons rp r=>cases r with
  |cons rk r =>
  let⟨c',zs,sC,hc,rz⟩:=rp.lstI;cases sC;refine Dy ?_;refine Dy #[_,rfl,?_];refine Dy #[λm σ H'=>∃(n:wo)(f:zI)(I:xh)(j:V)(C:Addr),σ=[some o,some u,some (.ref c),some t,some j,some (.ref C)]/\h8 K H H' ns g mk L c C j n f I/\m+I.length=(BK g).length,#[(BK g).length,none,L,[],.non,c,rfl,#[.refl _,#[zs,hc,rz],.inl rfl,#[λ_ z=>(nomatch z),List.Pairwise.nil],#[rfl,rfl],#[rfl,rfl]],rfl],?_];rintro m _ H' ⟨n,f,I,j,C,rfl,e,em⟩;have hb:I.length<=(BK g).length:=e.hh.len h;have nx:∀N k Z X M J,h8 K H J ns g mk L c k N (some X) Z M->M.length=I.length+1->∃B,B<m/\∃(n:wo)(f:zI)(I:xh)(j:V)(C:Addr),[some o,some u,some (V.ref c),some t,some N,some (V.ref k)]=[some o,some u,some (.ref c),some t,some j,some (.ref C)]/\h8 K H J ns g mk L c C j n f I/\B+I.length=(BK g).length:=λN k Z X M J e' l=>by
   have:=e'.hh.len h;exact#[(BK g).length-M.length,by lia,some X,Z,M,N,k,rfl,e',by exact Nat.sub_add_cancel this]
  cases n with
  |none =>
   let⟨rfl,rfl⟩:=e.to;refine#[_,rfl,rfl,true,rfl,?_];exact#[λG J=>∃B,B<m/\∃(n:wo)(f:zI)(I:xh)(j:V)(k:Addr),G=[some o,some u,some (.ref C),some t,some j,some (.ref k)]/\h8 K H J ns g mk L C k j n f I/\B+I.length=(BK g).length,λ_ _ z=>z,WD e (λz=>by cases z) ro rm rk hv h ml hp nx]
  |some y =>
   let⟨p,a,b,E,ys,rfl,tp,an,bn,ne,ha,di,rx,ry⟩:=e.to;let⟨zs',f7,kD⟩:=e.co;refine#[_,rfl,rfl,false,rfl,?_];refine#[_,rfl,_,rfl,p,_,0,.ref a,rfl,rfl,tp,rfl,.list (f.map dD),.list (y.1.map dD),.lst f7 (Eu kD),.lst ha (Eu rx),Mu.lst f,Mu.lst y.1,_,rfl,?_];have R:(!PyData.eqv (.list (f.map dD)) (.list (y.1.map dD))) = !decide (f=y.1):=by
    unfold PyData.eqv;rw[Ni Mu.eqv]
   by_cases O:f=y.1
   .rw[Zs O]at R;show if(!PyData.eqv (.list (f.map dD)) (.list (y.1.map dD)))=true then _ else _;rw[ZZ (by rw[R];decide)];subst O;let⟨S,c'⟩:=e.si.2.ch;exact#[_,rfl,q H' p a b E ys y #[e.si.2.pl,e.si.2.xs,#[S,c'],e.si.2.turn.best e.si.2.pl h c',e.si.2.lo] e.S tp an bn ne ha di (Cz rx) ry]
   .rw[Zp O]at R;show if(!PyData.eqv (.list (f.map dD)) (.list (y.1.map dD)))=true then _ else _;rw[ZY (by rw[R];decide)];exact#[λG J=>∃B,B<m/\∃(n:wo)(f:zI)(I:xh)(j:V)(k:Addr),G=[some o,some u,some (.ref c),some t,some j,some (.ref k)]/\h8 K H J ns g mk L c k j n f I/\B+I.length=(BK g).length,λ_ _ z=>z,WD e (λz=>O (Option.some.inj z).symm) ro rm rk hv h ml hp nx]
def uy(D:ba):SX:=λb _ z=>∃(s:Rat)(ns:Φ)(g:xj)(a t:L2.T),b=[b7 D s ns g,a]/\Fz ns g/\pd ns a t/\z D.NoRoom ["room"] [t]
def Fw(T:Tx D):oN P w K mg base 11 iI fB (uy D):=yi T.yI λF=>by
 refine F.okUX jX λj A a s H E b i=>?_;let⟨f,d,_⟩:=OkF.val (pz T);refine#[_,bG (ag9 2 jX.nd (Or.inl rfl) (Mw T) b.md (by rfl) (bA vt (bA vn bC))) (bI (yq (z8 (lK (Wj T) b.md (by rfl) (cD (pv 0) (cD (pv 2) (cD (lK (J3 T) b.md (by rfl) (cD (pv 0) (cD (pv 2) iM))) (cD (NK (by rfl) d) iM)))))))),?_];rintro _ R Z ⟨s,ns,g,e,t,rfl,h,c,q⟩;exact#[s,ns,g,e,t,rfl,h,c,q]
def M5(D:ba):ST:=λb q=>∃(s:Rat)(ns:Φ)(g:xj)(a t:L2.T),b=[b7 D s ns g,a]/\Fz ns g/\pd ns a t/\q (.l1 [t])
def Zw(T:Tx D):gT 12 DG tG (M5 D):=ya T.acL λF=>by
 refine F.ok wH (λl H Q E c=>?_) (λai A n s H l Q E W c=>?_)
 .let⟨O,R,r,⟨_,_,_,_,_,rfl,_⟩,_⟩:=c;exact r.len
 .let⟨O,R,r,⟨P,ns,g,N,t,rfl,Y,X,q⟩,k⟩:=c;obtain⟨o,v,rfl⟩ : ∃o v,l=[o,v]:=by
   match l,r.len with
   |[o,v],_=>exact#[o,v,rfl]
  refine#[_,(nW (vH (i:=2) wH.nd rfl (Or.inl rfl) (KA iM))
   (nW (afA (i:=3) wH.nd rfl rfl (by rfl) T.W0 T.aeB T.afw rfl rfl rfl (λ_ _ _ HF=>(pC (pG (Yc (Fw T) W.md (by rfl) HF (cD (pv 0) (cD (pv 1) iM))))))
    (λ_ _=>(pC (vH (i:=2) wH.nd rfl (Or.inl rfl) (KA (cD (afu (K':=K) rfl (pv 3) rfl) iM))))))
   (pC (z8 (pv 2))))),?_]
  refine Dy #[(show 0<=sizeLine by decide),λU H1 J f1 h1=>?_];refine Dy #[λC d M e=>M=[some o,some v,some (.ref U),none]/\∃(G:Addr)(x:V),C=.ref D.NoRoom/\d=some G/\zT H e/\e G=some (.xd [("room",x)])/\Rep K e x t,?_,?_]
  .refine#[_,rfl,_,rfl,_,λ_=>False,λC w m=>C=D.NoRoom/\w=(["room"] : Φ)/\m=[t],r.same J,#[P,ns,g,N,t,rfl,Y,X,rfl,rfl,rfl],(λ_ _ _ z=>z.elim),?_];rintro e C d w m dQ ⟨rfl,rfl,rfl⟩ S p f
   match m,f with
   |[x],.cons f .nil=>exact#[rfl,d,x,rfl,rfl,J.trans S,p,f]
  .rintro _ _ L e ⟨rfl,d,x,rfl,rfl,S,p,f⟩;refine#[D.NoRoom,rfl,T.sm_NoRoom,λa j=>?_];refine#[_,rfl,a,D.NoRoom,d,_,x,rfl,cu,zT.upd j _ _ p,T.xk_NoRoom,T.hd_NoRoom,T.Ai,rfl,(show 1<=sizeLine by decide),λu H5 I B Z=>#[_,rfl,?_]];have h:bY K (L2.hd (λ_=>False) (upd e a (XO a D.NoRoom (some d)))) [x] [t]:=%[TQ|.cons (f.same (zT.upd j)) .nil]
   exact k H5 (.ref u) _ q ((S.trans (zT.upd j)).trans I) (NR.l1 ((S.trans (zT.upd j)).free B) Z (h.same (jd (λb z=>z.imp id λ(y:b=u)=>y ▸ B) I)))
def _W(l:List Q)(c:Int)(f:l.length=m)(g:0<m):∃t,t∈l/\c3 l (c%(m:Nat))=some t:=by
 have a:=Z3 c (show((m:Nat):Int)≠0 by lia);have b:=YY c (show(0:Int)<(m:Nat)by lia);let⟨k,e⟩:=mS a;have d:k<l.length:=by lia
 refine#[l[k],aU d,?_];rw[e];show ef l k=_;rw[vB,aj d]
def V1{s:Str}{d:PyData}(I:PyData.canLay0 (.str s))(h:PyData.canLay0 d)(n:PyData.depth d<=60):SeqAt.shaped (.list [.str s,d]):=by
 have b:PyData.canLay0 (.list [.str s,d]):=by
  unfold PyData.canLay0 PyData.canLayAll0 PyData.canLayAll0 PyData.canLayAll0;rw[I,h];rfl
 have a:PyData.depth (.list [.str s,d])<=64:=by
  simp only[PyData.depth,PyData.depthAll];lia
 unfold SeqAt.shaped;rw[b,Zs a];rfl
structure NM(m:Nat)(d:PyData):Prop where
 bad:kB m (dc d)
 eqv:PyData.eqv d d
 sh:SeqAt.shaped (.list [.str "room",d])
 kd:∃b,oa .bool (dc d)\b
 es:iz (dc d) (dc d)\true
def afz:ST:=λa q=>∃(c:Int)(m:Nat),a=[.int c,.int (m:Nat)]/\0<=c/\∀d,NM m d->q (.fz (dc d))
def SZ(T:Tx D):gT 1 ZG O7 afz:=yB T.aoy WI (λ_ _=>bI (bR (bK (dg (bA vn (bA (bM dB (bM dB vn bF) (bM mq vt bF)) (bA (bM Vk (Vz bF) (bM cM (bM mq vt bF) bF)) (bA fH (bA fH (bA fW (bA vm (bA (d7 (bA bF (bA bF bC))) bC))))))))) (bM cM vt bF))))<|by
 rintro _ R ⟨c,m,rfl,f,q⟩;refine#[#[by decide,eX vw],#[by decide,eX vw],by decide,by decide,?_];let⟨t,b,e⟩:=_W [L2.T.int (m:Nat),.int ((m:Nat)+1+c.fdiv 8),.int (-1-c.fdiv 8%9),.bl true,.bl false,.non,.str "a",.tup [.int 0,.int 1]] c (m:=8) rfl vw;refine#[t,e,?_];have d:c.fdiv 8=c/8:=mu _ vw;have a:∀i:Int,¬(0<=i/\i<(m:Nat))->R (.fz (.int i)):=λi h=>q (.int i) #[.far h,by show decide (i=i)=true;exact Zs rfl,V1 (by decide +kernel) rfl (aZ _),#[false,rfl],by show some (decide (i=i))=_;rw[Zs rfl]]
 revert t
 simp only[YU,UV,or_false];rintro t (rfl|rfl|rfl|rfl|rfl|rfl|rfl|rfl) _
 .exact a _ vy
 .exact a _ vy
 .exact a _ (by omega)
 .exact q (.bool true) #[.kind rfl,rfl,V1 (by decide +kernel) rfl (aZ _),#[true,rfl],rfl]
 .exact q (.bool false) #[.kind rfl,rfl,V1 (by decide +kernel) rfl (aZ _),#[true,rfl],rfl]
 .exact q .none #[.kind rfl,rfl,V1 (by decide +kernel) rfl (aZ _),#[false,rfl],rfl]
 .exact q (.str "a") #[.kind rfl,by decide +kernel,by decide +kernel,#[false,rfl],by decide +kernel]
 .exact q (.tuple [.int 0,.int 1]) #[.kind rfl,by decide +kernel,by decide +kernel,#[false,rfl],by decide +kernel]
def aeK(l:List Q) : fG l (some (n:Int)) none=l.drop n:=by
 unfold fG;rw[HT.Cd];show(l.drop (min n l.length)).take (l.length-min n l.length)=_;by_cases h:n<=l.length
 .rw[min_eq_left h];exact Q1 %[UR|aG _]
 .rw[Th (by lia:l.length<=n),Th vy,take_nil]
def _o{a:Bool}{t u:L2.T}{b:Bool}{q:OT->Prop}(e:iz t u\b)(h:q (.fz (.bl (xr a b)))):hU a t u q:=by unfold hU;rwa[e]
def M7(D:ba):ST:=λa q=>∃(s:Rat)(ns:Φ)(g:xj)(C:xy)(c:Int),a=[b7 D s ns g,az C,.int c,.int (ns.length:Nat)]/\Fz ns g/\iS ns C/\C.length<=9/\q (.fz (.bl true))
def YS(T:Tx D):gT 13 Ds sS (M7 D):=yB T.ab8 ZM (λj _=>bG (bT 4 (bJ (SZ T) (bA (bM cM ve bF) (bA vi bC))))
  (bG (bT 5 (bM cM (bM mq (bM cM ve bF) bF) (bM dB (bQ cH T.dz WJ (bA vn bC)) bF)))
  (bG (bT 6 (bJ (Zw T) (bA vt (bA (bM dB (bM dB (bM dB (i_ vn Gu (fZ vS)) (dg (bA vF bC))) (i_ vn (fZ vS) Gu)) (dg (bA (bM dB vi bF) bC))) bC))))
  (bI (bR (vp (kh (z4 j.units) (bQ cH T.dz WJ (bA (qv 6) bC)) bF) (vp (kh (z4 j.units) (bK (qv 6) bF) vF) (Bt (kh (z4 j.units) (oW .bool (bK (qv 6) bF) T.dO T.RG boot_bool) (oW .bool vF T.dO T.RG boot_bool))))))))))<|by
 rintro _ R ⟨s,ns,g,C,c,rfl,h,t,u,q⟩;have p:0<=c%1000003:=Z3 _ vw;generalize hc:c%1000003=m at p;refine#[by decide,?_];dsimp only[frz];rw[hc];refine#[m,ns.length,rfl,p,λd hd=>#[by decide,?_]];dsimp only[frz];rw[hc];refine#[#[by decide,eX vw],by exact Int.lt_add_one_of_le (X9 _),?_];obtain⟨a,v⟩ : ∃a:Nat,m.fdiv 8%(((C.map a_).length:Int)+1)=(a:Nat):=by
  have:=Z3 (m.fdiv 8) (show((C.map a_).length:Int)+1≠0 by lia);exact#[_,(kt this).symm]
 dsimp only[frz];rw[v];have f:fG (C.map a_) none (some (a:Int))=(C.take a).map a_:=%[pB,IC|_]
 have k:fG (C.map a_) (some (a:Int)) none=(C.drop a).map a_:=%[pB,aeK|_]
 have i:∀{n:Nat},n<=20->n<=sizeLine:=λh=>aL h vw;have y:(C.take a).length<=9:=by rw[aY];lia
 have w:(C.drop a).length<=9:=%[UR|aL (sub_le _ _) u]
 let⟨b,o⟩:=hd.kd;refine#[?_,?_,?_,s,ns,g,_,dc d,rfl,h,#[C.take a,(C.drop a).map a_++[.int ((ns.length:Nat)+2)],?_,λe r=>t e (mem_of_mem_take r),hd.bad],?_]
 .rw[f];exact i (by rw[ak];show(C.take a).length+1<=20;lia)
 .rw[f,k];exact i (by rw[aA,ak,ak];show(C.take a).length+1+(C.drop a).length<=20;lia)
 .rw[f,k];exact i (by rw[aA,aA,ak,ak];show(C.take a).length+1+(C.drop a).length+1<=20;lia)
 .show L2.T.lst (((fG (C.map a_) none (some (a:Int))++[dc d])++fG (C.map a_) (some (a:Int)) none)++[_])=_;rw[f,k,Wp,Wp]
  rfl
 .refine#[_,rfl,?_];show hU false (dc d) (dc d) λx=>match frz x with|.bl l=>sw l _ _|_=>False
  refine _o hd.es ?_;refine dI rfl #[_,rfl,?_];refine FD o ?_;refine FD o ?_;cases b<;>exact q
def JB(D:ba):ST:=λa q=>∃(s:Rat)(ns:Φ)(g:xj)(C:xy),a=[b7 D s ns g,az C]/\HlZ ns g/\iS ns C/\∀p:el,ij true ns g C p->q (.pr (p.1.map dT) (p.2.map aa))
def Gw(T:Tx D):gT 11 iI fB (JB D):=ya T.yI λF=>by
 refine F.ok jX (λvs H Q j h=>?_) (λai A K s H vs Q j M h=>?_)
 .let⟨ts,R,r,⟨_,_,_,_,rfl,_⟩,_⟩:=h;exact r.len
 .let⟨ts,R,r,⟨t,ns,g,C,rfl,h,hg,q⟩,k⟩:=h;let⟨va,w,_⟩:=OkF.val (pz T);refine#[_,(nW (vH (i:=2) jX.nd rfl (Or.inl rfl) (lK (Pj T) M.md (by rfl) (cD (pv 0) (cD (pv 1) iM))))
   (pC (z8 (lK (Wj T) M.md (by rfl) (cD (pv 0) (cD (pv 2) (cD (lK (J3 T) M.md (by rfl) (cD (pv 0) (cD (pv 2) iM))) (cD (NK (by rfl) w) iM)))))))),?_]
  let⟨o,f,rfl,X,rg⟩:=r.two;refine Dy #[_,rfl,_,rfl,[b7 D t ns g,az C],λx=>x=.l1 ((bP ns.length C).map L2.T.bl),r,#[t,ns,g,C,rfl,h.h,hg,rfl],?_];rintro H1 _ _ rfl V ⟨B,nb,m,ms,em,rfl,Y,fS⟩;cases em;refine#[_,rfl,_,rfl,_,rfl,_,rfl,[b7 D t ns g,c2 (bP ns.length C)],λx=>∃p v,x=.l1 (v.map dT)/\Steps true (bP ns.length C) (dV (bP ns.length C) g) p/\CP g (bP ns.length C) p ns.length v,.cons (X.same V) (.cons (.lst Y (fS.same cI)) .nil),#[t,ns,g,C,rfl,h,λp v I G=>#[p,v,rfl,I,G]],?_];rintro H2 _ _ ⟨p,v,rfl,I,G⟩ U ⟨B2,L,c,zs,ec,rfl,hc,rz⟩;cases ec;have l:=V.trans U;refine#[va,t,ns,g,bP ns.length C,v,c,.cons (X.same l) (.cons (.lst (U _ _ Y) ((fS.same cI).same U)) (.cons (.lst hc (rz.same cI)) (.cons (.val _) .nil))),rfl,w,h,vP _ _,G.fit,λW d a b E ys J n S y P bn ne O Z rx ry=>?_];have le:zT (L2.hd (λz=>z=a\/z=b) W) (L2.hd (λz=>(λ_=>False) z\/z∈[a,b]) W):=jd (λz u=>.inl ↑u) λ_ _ e=>e;have zero:true->∀S,Lfp true ns.length (a' C) (c6 (a' C) (uc g)) S->∀k,k<ns.length->S k=false->xG J.2 k=0:=λ_ S lf k N sk=>by
   let⟨S0,x0,c0,l0⟩:=n.lo;have z0:=ac3 h (vP _ _) I G c0 k N (by rwa[Sh I.hall lf N]);have a:¬x0 k<xG J.2 k:=l0 k N;have b:=(n.xs.get k).1;rw[z0]at a;exact Rat.le_antisymm (Rat.not_lt.mp a) b
  refine k W (.ref d) _ (q J (n.chp zero)) (l.trans S) #[[a,b],λz u=>?_,d,a,b,E,ys,rfl,rfl,ne,?_,O,Z,rx.same le,ry.same le]
  .rcases YU.mp u with rfl|u
   .rcases P with rfl|P
    .exact V.free (L _ vc)
    .exact l.free P
   .rw[YR.mp u];exact l.free bn
  .rw[cZ λz=>?_]
   .exact y
   .rcases z with z|z
    .exact z
    .rcases YU.mp z with rfl|z
     .rw[y]at O;cases O
     .rw[YR.mp z,Z]at y;cases y
structure PlD(ac:xp)(v:zI):Prop where
 len:v.length=ac.length
 ok:∀(k:Nat)(d:xS)(l:we),v[k]?\d->ac[k]?\l->uq d l.length=true
def PlD.snoc{g:xp}(h:∀(i:Nat)(d:xS)(l:we),i<k->v[i]?\d->g[i]?\l->uq d l.length=true)(a:v.length=k){l:we}(j:g[k]?\l)(hd:uq d l.length):∀(i:Nat)(c:xS)(b:we),i<k+1->(v++[d])[i]?\c->g[i]?\b->uq c b.length=true:=λi c b m e f=>by
 by_cases z:i<k
 .rw[aF vy]at e;exact h i c b z e f
 .have:i=k:=by lia
  subst this;rw[aD (WG a),show i-v.length=0 by lia]at e;cases e;rw[j]at f;cases f;exact hd
def Rk:ST:=λb q=>∃(c:Int)(a:xp),b=[.int c,DW a]/\a.length<=100/\∀v:zI,PlD a v->q (.l1 (v.map dT))
def ac7(T:Tx D):gT 2 HB vR Rk:=yB T.ae9 acF (λu _=>bG (bT 2 (bJ (h5 T) (bA vt (bA (bQ cH T.dz WJ (bA vn bC)) bC))))
  (bG (gA 3 (dg bC))
  (bG (cY (c7 T.eG (bA (bQ cH T.dz WJ (bA vn bC)) bC)) (bW (n:=99) 4)
  (bI (cB (cg (z4 u.units) (bQ cH T.dz WJ (bA (bK vn vF) bC)) bF)
  (bI (pZ 3 fW))
  (bI (pZ 3 (bM cM (bK ve vF) (bQ cH T.dz WJ (bA (bK vn vF) bC))))))))
  (bI (gC 3)))))<|by
 rintro _ R ⟨c,b,rfl,j,q⟩;have dl:(b.map λl=>L2.T.lst (l.map bw)).length=b.length:=ak ..;refine#[c,b.length,by rw[<- dl];rfl,by exact aL j vw,#[by rw[dl];lia,by rw[dl];lia],?_];refine jg (λk o=>∃(v:zI)(x:OT),o=[.fz (.int c),.fz (DW b),.fz (.lst ((jc c b.length).map L2.T.int)),.l1 (v.map dT),x]/\v.length=k/\∀(i:Nat)(d:xS)(l:we),i<k->v[i]?\d->b[i]?\l->uq d l.length=true) #[[],.und,rfl,rfl,λi d l z=>absurd z (WZ _)] ?_ ?_
 .rintro k _ f ⟨v,x,rfl,a,h⟩;have f:k<b.length:=by rw[dl]at f;lia
  have m:=aj f;have p:c3 (b.map λl=>L2.T.lst (l.map bw)) (k:Nat)\(.lst (b[k].map bw)):=cQ m;have r:(v.map dT).length<sizeLine:=%[ak|aR (show _<1000 by lia) vw]
  have B:=ur c k;refine#[_,p,?_];by_cases e:b[k].length=0
  .refine dI (Zs (by rw[ak];lia)) #[r,v++[none],.fz (.int (k:Nat)),by rw[bf];rfl,by simp[a],PlD.snoc h a m (Zs e)]
  .have g:(0:Int)<(b[k].map bw).length:=by rw[ak];lia
   refine cR (Zp (by rw[ak];lia)) #[_,iB (k:=k) f,_,p,g,r,?_];have A:=Z3 (z1 c k) (show((b[k].map bw).length:Int)≠0 by exact WS g);have y:=YY (z1 c k) g;let⟨n,s⟩:=mS A;refine#[v++[some n],.fz (.int (k:Nat)),?_,by simp[a],PlD.snoc h a m (Zs ?_)]
   .rw[bf];show _=[_,_,_,OT.l1 (v.map dT++[L2.T.int (n:Nat)]),_];rw[<- s]
    rfl
   .rw[ak]at y s;lia
 .rintro _ ⟨v,x,rfl,a,h⟩;have a:v.length=b.length:=by rwa[a]
  exact q v #[a,λk d l t w=>h k d l (by rw[dl];have:=(ao.mp t).1;lia) t w]
def Dl(D:ba):ST:=λa q=>∃(s:Rat)(ns:Φ)(g:xj)(C:xy)(v:zI),a=[b7 D s ns g,az C,.lst (v.map dT)]/\HlZ ns g/\iS ns C/\PlT g v/\∀E:xt,XsB ns.length E->(∃S,gW ns.length (a' C) (cG g v) S (xG E))->q (.l1 (E.map aa))
def Qz(T:Tx D):gT 10 uI lg (Dl D):=yB T.R3 Qy (λ_ _=>bG (bT 3 (bJ (Pj T) (bA vt (bA vn bC))))
  (bG (m7 (bJ (Qt T) (bA vt (bA ve bC))))
  (bI (bR (bJ (Kf T) (bA vt (bA vi (bA ve bC))))))))<|by
 rintro _ R ⟨s,ns,g,C,v,rfl,h,l,e,q⟩;refine#[s,ns,g,C,rfl,h.h,l,s,ns,g,v,rfl,h.h,e,s,ns,g,bP ns.length C,v,rfl,h,vP _ _,e,λS x d m=>?_];have f:((range ns.length).map x).map aa=(range ns.length).map λi=>aa (x i):=by rw[WU];rfl
 have j:∀k,k<ns.length->((range ns.length).map x).getD k 0=x k:=λk a=>by rw[au,aq,VY a];rfl
 rw[<- f];refine q _ #[%[ak,WP|_],λr b=>?_,λr b=>?_,λr b=>?_] #[S,(d.congr (h.cw _) λk a=>(j k a).symm).marks λk a=>HS a]<;>let⟨i,c,rfl⟩:=YV.mp b
 .exact m i (List.mem_range.mp c)
 .exact d.nn (h.cw _) i (List.mem_range.mp c)
 .exact d.le1 (h.cw _) i (List.mem_range.mp c)
def SY{L:xf}(a:k<L.length)(i:Nat):mkG (L.set k true) i=(decide (i=k) || mkG L i):=by
 show(L.set k true).getD i false=(_ || L.getD i false);rw[au,au];by_cases e:i=k
 .rw[e,Up a,Zs rfl];rfl
 .rw[VV (λz=>e z.symm),Zp e];rfl
def PD{Z:Nat->Bool}{d:xy}(h:∀i,S i->Z i=true)(e:cp S d):cp Z d:=by
 let⟨r,a,s⟩:=List.any_eq_true.mp e;exact List.any_eq_true.mpr #[r,a,h r s]
structure Ll(m:Nat)(C:xy)(W:Nat->xy)(L:xf):Prop where
 len:L.length=m
 base:∀k,k<m->a' C k=true->mkG L k=true
 least:∀A:Nat->Bool,(∀k,k<m->a' C k=true->A k=true)->(∀k,k<m->cp A (W k)=true->A k=true)->∀k,k<m->mkG L k=true->A k=true
def rS(m:Nat)(W:Nat->xy)(L:xf):Prop:=∀k,k<m->cp (mkG L) (W k)=true->mkG L k=true
def NrT(m:Nat)(C:xy)(W:Nat->xy)(t:Nat)(L:xf):Prop:=Ll m C W L/\(rS m W L\/c_ (mkG L) m+t<=m)
structure NrJ(m:Nat)(C:xy)(W:Nat->xy)(L0:xf)(k:Nat)(L:xf):Prop where
 i:Ll m C W L
 up:∀i,mkG L0 i->mkG L i=true
 done:∀i,i<k->cp (mkG L0) (W i)=true->mkG L i=true
section
variable{m k t:Nat}{C:xy}{W:Nat->xy}{L L0:xf}
def NrJ.no(h:NrJ m C W L0 k L)(n:cp (mkG L) (W k)=false):NrJ m C W L0 (k+1) L:=#[h.i,h.up,λi a e=>by
 by_cases c:i=k
 .subst c;rw[PD h.up e]at n;cases n
 .exact h.done i (XX (VX a) c) e]
def NrJ.yes(h:NrJ m C W L0 k L)(n:k<m)(l:∀r∈W k,r<m)(y:cp (mkG L) (W k)):NrJ m C W L0 (k+1) (L.set k true):=by
 have f:=SY (L:=L) (k:=k) (by rwa[h.i.len]);have u:∀i,mkG L i->mkG (L.set k true) i=true:=λi e=>%[f,e,Bool.or_true|_]
 refine#[#[%[WH,h.i.len|_],λi d g=>u i (h.i.base i d g),λA a b i d e=>?_],λi e=>u i (h.up i e),λi d e=>?_]
 .rw[f]at e;by_cases c:i=k
  .subst c;let⟨r,j,s⟩:=List.any_eq_true.mp y;exact b i d (List.any_eq_true.mpr #[r,j,h.i.least A a b r (l r j) s])
  .rw[Zp c,Bool.false_or]at e;exact h.i.least A a b i d e
 .by_cases c:i=k
  .rw[f,Zs c];rfl
  .exact u i (h.done i (XX (VX d) c) e)
def NrJ.turn(f:∀k,k<m->∀r∈W k,r<m)(j:NrJ m C W L0 m L)(h:NrT m C W t L0):NrT m C W (t+1) L:=by
 refine#[j.i,?_];by_cases c:rS m W L0
 .refine .inl λk a s=>?_;let⟨r,b,s⟩:=List.any_eq_true.mp s;exact j.up k (c k a (List.any_eq_true.mpr #[r,b,j.i.least (mkG L0) h.1.base c r (f k a r b) s]))
 .right;have d:c_ (mkG L0) m+t<=m:=h.2.resolve_left c;obtain⟨k,a,s,n⟩ : ∃k,k<m/\cp (mkG L0) (W k)/\mkG L0 k=false:=by
   refine Classical.byContradiction λz=>c λk a s=>?_;cases e:mkG L0 k with
   |true=>rfl
   |false=>exact absurd #[k,a,s,e] z
  have:=TJ n (j.done k a s) a λi _ e=>j.up i e;lia
theorem VD(S:Nat->Bool):∀n,c_ S n<=n
 |0=>aG _
 |n+1=>by
  have:=VD S n;show c_ S n+(if S n then 0 else 1)<=n+1;split<;>lia
theorem Y5{S:Nat->Bool} : ∀{n:Nat},c_ S n=0->∀k,k<n->S k=true
 |n+1,h,k,a=>by
  have h:c_ S n+(if S n then 0 else 1)=0:=h;cases e:S n with
  |true =>
   rw[e]at h;by_cases c:k=n
   .rw[c,e]
   .exact Y5 (n:=n) h k (XX (VX a) c)
  |false=>rw[e]at h;simp at h
def NrT.fin(h:NrT m C W m L):Lfp false m (a' C) (λk=>[W k]) (mkG L):=by
 have c:rS m W L:=h.2.elim id λz k d _=>Y5 (show c_ (mkG L) m=0 by lia) k d;have j:∀{k:Nat}{A:Nat->Bool},jn false [W k] A=true↔cp A (W k)=true:=λ{k A}=>by
  show(([W k] : wE).any (cp A))=true↔_;simp
 exact#[h.1.base,λk d e=>c k d (j.mp e),λA a b=>h.1.least A a λk d e=>b k d (j.mpr e)]
def NrT.start:NrT m C W 0 (bP m C):=#[#[vP _ _,λk b g=>%[HS b|g],λA a _ k b e=>a k b %[<- HS b|e]],.inr (VD _ _)]
end
abbrev ca(u:xz):L2.T:=.lst (u.map cv)
abbrev jp(tk:List xz)(k:Nat):xy:=(tk.getD k []).map (·.1)
def cS(k:Nat):PyData:=.int (k:Nat)
def ig:EqD a_ cS:=#[λ_=>rfl,λ_=>rfl,λ_=>aZ _,λx y=>by
 show decide ((x:Int)=(y:Int))=_;exact decide_eq_decide.mpr #[λz=>Int.ofNat.inj z,λz=>%[z|_]]]
def ZQ : ((C.map cS).any λy=>PyData.eqv y (cS k))=a' C k:=by
 rw[U1];unfold a';refine Bool.eq_iff_iff.mpr #[λz=>?_,λz=>?_]
 .let⟨y,a,e⟩:=List.any_eq_true.mp z;have e:PyData.eqv (cS y) (cS k):=e;rw[ig.eqv]at e;exact Zs (of_decide_eq_true e ▸ a)
 .exact List.any_eq_true.mpr #[k,of_decide_eq_true z,by show PyData.eqv (cS k) (cS k)=true;rw[ig.eqv];exact Zs rfl]
def lu(C:xy):az C=dc (.list (C.map cS)):=ZH L2.T.lst (kZ ig.of C)
def IH{neg:Bool}{q:OT->Prop}(h:q (.fz (.bl (xr neg (a' C k))))):hT neg (a_ k) (az C) q:=#[cS k,C.map cS,rfl,lu C,rfl,ig.lst C,by rwa[ZQ]]
def aa2:ST:=λb q=>∃(a:List xz)(C:xy),b=[.lst (a.map ca),az C]/\a.length<=100/\(∀u∈a,u.length<=1000/\∀w∈u,w.1<a.length)/\∀L:xf,L.length=a.length->Lfp false a.length (a' C) (λk=>[jp a k]) (mkG L)->q (.l1 (L.map L2.T.bl))
def air(T:Tx D):gT 1 Ug Fi aa2:=ya T.alv λ{f Y}F=>by
 refine F.okT aiF (λm _=>bG (gA 2 (cL (bH Nh) Wa ["_law_taken_here","_law_goals_here","_law_found","_law_turn","?_law_k"] ["_law_k"] (c7 T.eG (bA (bQ cH T.dz WJ (bA vt bC)) bC)) (dH (i:=0)) cj (kh (E8 m.units) vt ve (hm:=by rfl))))
  (bG (cY (c7 T.eG (bA (bQ cH T.dz WJ (bA vt bC)) bC)) (bW (n:=99) 3)
  (bI (cY (c7 T.eG (bA (bQ cH T.dz WJ (bA vt bC)) bC)) (bW (n:=99) 4)
  (bI (cB (cJ (bQ (Zg rfl) T.agH boot_any (bA (cL (bH Nh) Wa Wa ["_law_room","_law_chance"] (bZ (bK vt vF)) (dY (n:=2) (bO (dH (i:=0)) (bO (dH (i:=1)) cT))) cj (uN 4 vt)) bC)))
  (bI (pY 2 fH vF))
  bV)))))
  (bI (gC 2)))) ?_
 rintro _ R ⟨a,C,rfl,E,p,q⟩;have g:(a.map ca).length=a.length:=ak ..;have u:∀k,k<(a.map ca).length->∀r∈jp a k,r<(a.map ca).length:=λk c r m=>by
  rw[g]at c ⊢;let⟨w,l,rfl⟩:=YV.mp m;rw[au,aj c]at l;exact(p _ (aU c)).2 w l
 refine#[#[by lia,by lia],%[rng,ak,WP|aL (show _<=100 by lia) vw],Hg (λk=>.bl (a' C k)) (a.map ca).length (λk c N M d=>show hT false (a_ k) (az C) λy=>N (frz y)from IH d) ?_];have I:(range (a.map ca).length).map (λk=>L2.T.bl (a' C k))=(bP (a.map ca).length C).map L2.T.bl:=by unfold bP;rw[WU];rfl
 rw[I];refine#[#[by lia,by lia],jg (n:=(a.map ca).length) (λt o=>∃L x y,o=[.fz (.lst (a.map ca)),.fz (az C),.l1 (L.map L2.T.bl),x,y]/\NrT (a.map ca).length C (jp a) t L) #[_,_,_,rfl,NrT.start] ?_ ?_]
 .rintro t _ O ⟨J,x,y,rfl,h⟩;refine#[#[by lia,by lia],jg (n:=(a.map ca).length) (λk o=>∃L x y,o=[.fz (.lst (a.map ca)),.fz (az C),.l1 (L.map L2.T.bl),x,y]/\NrJ (a.map ca).length C (jp a) J k L) #[_,_,_,rfl,h.1,λ_ z=>z,λi B=>absurd B (WZ _)] ?_ ?_]
  .rintro k _ c ⟨L,x,y,rfl,j⟩;have s:k<a.length:=by exact aR c (WG g)
   have A:a[k]?\a[k]:=aj s;let⟨H,G⟩:=p _ (aU s);have K:=j.i.len;refine#[_,cQ A,%[ak|aL H vw],comp_map cv (λw=>.bl (mkG L w.1)) a[k] (λw l N M d=>#[rfl,?_]) #[a[k].map λw=>mkG L w.1,by rw[WU];rfl,?_]]
   .have v:=aj (show w.1<L.length by have:=G w l;lia);refine#[_,cQ v,?_];have d:N (.bl (L.getD w.1 false)):=d;rw[au,v]at d;exact d
   .have e:((a[k].map λw=>mkG L w.1).any λb=>b)=cp (mkG L) (jp a k):=by
     show _=(((a.getD k []).map (·.1)).any (mkG L));rw[au,A,U1,U1]
     rfl
    show sw ((a[k].map λw=>mkG L w.1).any λb=>b) _ _;rw[e];refine er (λy=>#[k,?_,L.set k true,x,.fz (.int (k:Nat)),?_,j.yes c (u k c) y]) λn=>#[_,_,_,rfl,j.no n]
    .rw[ak];exact vL vy
    .rw[UH];rfl
  .rintro _ ⟨L,x,y,rfl,j⟩;exact#[_,_,_,rfl,j.turn u h]
 .rintro _ ⟨L,x,y,rfl,h⟩;have f:=h.fin;rw[g]at f;exact q L (h.1.len.trans g) f
abbrev e9(u:xz):xI:=u.map λx=>.inl (x.1:Nat)
abbrev fY(u:xz):xk:=u.map λx=>aa x.2
def Mr{a b:Nat} : (Sum.inl (a:Int):bo)=.inl (b:Int)↔a=b:=#[λz=>Int.ofNat.inj (Sum.inl.inj z),λz=>%[z|_]]
def XI(u:xz)(n:Nat):M_ (e9 u) (.inl (n:Nat))=u.any λx=>decide (x.1=n):=by
 unfold M_;rw[U1]
 congr 1
 funext x
 exact decide_eq_decide.mpr Mr
theorem Hx(n:Nat):∀u:xz,pO (e9 u) (fY u) (.inl (n:Nat))=(u.find? λx=>decide (x.1=n)).map λx=>aa x.2
 |[]=>rfl
 |x::u=>by
  show(if(Sum.inl (x.1:Nat):bo)=.inl (n:Nat)then some (aa x.2)else pO (e9 u) (fY u) (.inl (n:Nat)))=_;by_cases h:x.1=n
  .rw[ZY (Mr.mpr h),mL (p:=λx:Nat×Rat=>decide (x.1=n)) (Zs h)];rfl
  .rw[ZZ λz=>h (Mr.mp z),mR (p:=λx:Nat×Rat=>decide (x.1=n)) (by show ¬decide (x.1=n)=true;rw[Zp h];decide),Hx n u]
def Ge(u:xz)(n:Nat):Rat:=((u.find? λx=>decide (x.1=n)).map (·.2)).getD 0
def aeT(u:xz)(n:Nat):((pO (e9 u) (fY u) (.inl (n:Nat))).getD (aa 0))=aa (Ge u n):=by
 rw[Hx];unfold Ge;cases(u.find? λx=>decide (x.1=n))<;>rfl
def aeh(b:(u.map (·.1)).Nodup){x:Nat×Rat}(a:x∈u)(e:x.1=n):(u.find? λy=>decide (y.1=n))\x:=by
 induction u with
 |nil=>cases a
 |cons y u f =>
  let⟨d,c⟩:=List.nodup_cons.mp b;rcases YU.mp a with rfl|z
  .exact mL (p:=λy:Nat×Rat=>decide (y.1=n)) (Zs e)
  .rw[mR (p:=λy:Nat×Rat=>decide (y.1=n)) (by show ¬decide (y.1=n)=true;rw[Zp λw=>d (YV.mpr #[x,z,e.trans w.symm])];decide)];exact f c z
def _y(u:xz)(p:Nat×Rat)(c:(u.map (·.1)).Nodup):eU (e9 u) (.inl (p.1:Nat))=e9 (p8 u p)/\d6 (e9 u) (fY u) (.inl (p.1:Nat)) (aa (Ge u p.1+p.2))=fY (p8 u p):=by
 unfold eU d6 p8;rw[XI];by_cases h:(u.any λx=>decide (x.1=p.1))=true
 .rw[ZY h,ZY h,ZY h];refine#[by simp only[e9,WU];refine UP λx _=>?_;show(Sum.inl (x.1:Nat):bo)=.inl ((if x.1=p.1 then(x.1,x.2+p.2)else x).1:Nat);split<;>rfl,?_]
  clear h
  rw[show fY (u.map λx=>if x.1=p.1 then(x.1,x.2+p.2)else x)=u.map ((λx=>aa x.2) ∘ λx=>if x.1=p.1 then(x.1,x.2+p.2)else x)from WU]
  suffices H:∀(a:xz),(∀x∈a,x.1=p.1->x.2=Ge u p.1)->zipWith (λ(k:bo)x=>if k=.inl (p.1:Nat)then aa (Ge u p.1+p.2)else x) (e9 a) (fY a)=a.map ((λx=>aa x.2) ∘ λx=>if x.1=p.1 then(x.1,x.2+p.2)else x)from H u λx b e=>by
   unfold Ge;rw[aeh c b e];rfl
  intro a
  induction a with
  |nil=>intro _;rfl
  |cons x a f =>
   intro H;show zipWith _ ((Sum.inl ((x.1:Nat):Int):bo)::e9 a) (aa x.2::fY a)=_;rw[zipWith_cons_cons,f λy g=>H y (aJ _ g),map_cons]
   congr 1
   by_cases e:x.1=p.1
   .rw[ZY (Mr.mpr e)];show _=aa (if x.1=p.1 then(x.1,x.2+p.2)else x).2;rw[ZY e,H x (aO ..) e]
   .rw[ZZ λz=>e (Mr.mp z)];show _=aa (if x.1=p.1 then(x.1,x.2+p.2)else x).2;rw[ZZ e]
 .rw[ZZ h,ZZ h,ZZ h];have d:Ge u p.1=0:=by
   unfold Ge;rw[List.find?_eq_none.mpr λx b z=>h (List.any_eq_true.mpr #[x,b,z])];rfl
  rw[d,TK];simp only[e9,fY,bf];exact#[rfl,rfl]
def adh(b a:xz):f9 (b++a)=a.foldl p8 (f9 b):=foldl_append ..
def ad4(G:xz):((f9 G).map (·.1)).Nodup:=by
 suffices H:∀(G u:xz),(u.map (·.1)).Nodup->((G.foldl p8 u).map (·.1)).Nodup from H G [] .nil
 intro G
 induction G with
 |nil=>exact λ_ h=>h
 |cons p G a=>exact λu h=>a _ (FI h)
def Rp(G:xz):(f9 G).length<=G.length:=by
 suffices H:∀(G u:xz),(G.foldl p8 u).length<=u.length+G.length from by simpa[f9]using H G []
 intro G
 induction G with
 |nil=>exact λ_=>aG _
 |cons p G a =>
  intro u;have b:(p8 u p).length<=u.length+1:=by
   unfold p8;split
   .rw[ak];exact Xs _
   .rw[aA,length_singleton];exact aG _
  have:=a (p8 u p);rw[foldl_cons,length_cons];lia
def RC{d:LD}(h:LDk m d){b g:xz}{a:Nat×Rat}(e:d.prs=b++a::g):((Ge (f9 b) a.1).den<=4000/\(Ge (f9 b) a.1).num.natAbs<=4000)/\a.2.den<=4000/\a.2.num.natAbs<=4000:=by
 let⟨q,n,F,k⟩:=h.all;have l:∀{r:Rat},0<=r->r<=1->r.den ∣ q->r.den<=4000/\r.num.natAbs<=4000:=λ{r}E D C=>by
  have:=UY n C;have:r.num.natAbs<=1*r.den:=HX (A:=1) (by show r<=((1:Nat):Rat);rwa[show((1:Nat):Rat)=1 from rfl]) (by show -((1:Nat):Rat)<=r;rw[show((1:Nat):Rat)=1 from rfl];grind);lia
 have s:=h.one;rw[<- CJ,e,Mx]at s;have c:∀u:xz,(∀w∈u,0<=w.2)->0<=dw u λ_=>1:=λu=>by
  induction u with
  |nil=>intro _;exact W1
  |cons y u v =>
   intro h;rw[dU];have:=h y (aO ..);have:=v λw hw=>h w (aJ _ hw)
   grind
 have f:=h.nn;rw[e]at f k;have I:=c b λw hw=>f w (US _ hw);have H:=c (a::g) λw hw=>f w (aP _ hw);have o:a∈b++a::g:=aP _ (aO ..);have J:=mY (u:=a::g) (λw hw=>f w (aP _ hw)) (aO ..);refine#[?_,l (f a o) (by grind) (k a o).2.2];have j:=Il n (G:=b) λp z=>k p (US _ z);unfold Ge;cases B:(f9 b).find? λx=>decide (x.1=a.1)with
 |none=>exact#[UT rfl,aZ _]
 |some y =>
  have i:=List.mem_of_find?_eq_some B;have t:=mY j.nn i;rw[j.sum]at t;exact l (j.nn y i) (by show y.2<=1;grind) (j.dn y i)
def SM:ST:=λa q=>∃(d:LD)(m:Nat),a=[bw d]/\LDk m d/\q (.l1 ((h_ d.prs).map cv))
def FG(T:Tx D):gT 3 K1 Cr SM:=yB T.ake ahc (λf _=>bG (gA 1 Km)
  (bG (cY (bZ (bK vt bF)) (dY (n:=2) (bO (bW (n:=99) 2) (bO (bW (n:=99) 3) cT)))
  (bG (Uk (IQ 1 (yL f) ve (d7 (bA bF (bA bF bC)))) (dY (n:=2) (bO (bW (n:=99) 4) (bO (bW (n:=99) 5) cT))))
  (bI (KY 1 (yL f) (bJ (l8 T) (bA (bM dB (bM cN vF (bK vi bF)) (bM cN (bK vi bF) vS)) (bA (bM cN vS (bK vi bF)) bC))) ve))))
  (bI (aiS 1 (bH T9) GH ["_law_door_here","_law_found","?_law_room","?_law_chance","_law_top","_law_bottom"] ["_law_room","_law_chance"] (dY (n:=2) (bO (dH (i:=0)) (bO (dH (i:=1)) cT))) (FW (cg (mX f.units) (bK vn bF) bF)) (d7 (bA vt (bA vn bC)))))))<|by
 rintro _ R ⟨d,m,rfl,h,q⟩;have A:=h.few;refine eF cv d.prs (λc o=>∃x y u v,o=[.fz (bw d),.d1 (e9 (f9 c)) (fY (f9 c)),x,y,u,v]) #[_,_,_,_,rfl] ?_ ?_
 .rintro c a L _ e ⟨x,y,u,v,rfl⟩;let⟨⟨j,g⟩,w,t⟩:=RC h e;have s:=(Ge (f9 c) a.1).den_pos;have ad:=a.2.den_pos;refine#[rfl,_,rfl,?_];dsimp only[frz];have I:=aeT (f9 c) a.1;rw[show L2.T.tup [L2.T.int 0,L2.T.int 1]=aa 0 from rfl,I];generalize J:Ge (f9 c) a.1=r at j g s;have l:(0:Int)<((r.den:Nat):Int)*((a.2.den:Nat):Int):=XZ vy vy;refine#[rfl,#[eX (Y3 g vw),eX (by omega)],#[eX (Y3 t vw),eX (by omega)],#[eX (by omega),eX (by omega)],_,_,rfl,l,eX ?_,_,rfl,?_,.fz (.int (a.1:Nat)),.fz (aa a.2),.fz (.int r.num),.fz (.int (r.den:Nat)),?_]
  .rw[VT,XT,XT];exact Y3 (VS j w) vw
  .have:=Rp c;have:c.length<=d.prs.length:=by rw[e];simp
   rw[ak];exact Y3 (show _<=4 by lia) vw
  .let⟨C,B⟩:=_y (f9 c) a (ad4 c);have H:divInt (r.num*((a.2.den:Nat):Int)+a.2.num*((r.den:Nat):Int)) (((r.den:Nat):Int)*((a.2.den:Nat):Int))=Ge (f9 c) a.1+a.2:=by
    rw[J]
    conv=>rhs;rw[<- rd r,<- rd a.2]
    rw[QU _ _ vy vy]
   rw[show f9 (c++[a])=p8 (f9 c) a from by rw[adh];rfl,<- C,<- B,<- H]
   rfl
 .rintro _ ⟨x,y,u,v,rfl⟩;have E:=Rp d.prs;refine#[%[ak|aL (show _<=4 by exact aL E A) vw],?_];have e:((e9 (f9 d.prs)).zip (fY (f9 d.prs))).map (λp=>L2.T.tup [kT p.1,p.2])=(f9 d.prs).map cv:=by
   rw[List.zip_map',WU];rfl
  dsimp only;rw[e];refine jL cv (λp=>!decide (p.2=0)) cv (f9 d.prs) (λp K N M F G=>#[rfl,?_]) q;have k:decide (p.2.num=0)=decide (p.2=0):=decide_eq_decide.mpr #[λz=>Rat.num_eq_zero.mp z,λz=>by rw[z];rfl];refine er (λh=>F ?_) λh=>G ?_
  .rw[<- h];exact ZH (λb=>!b) k.symm
  .rw[<- h];exact ZH (λb=>!b) k.symm
def cr(a:xp):vz:=a.map λl=>l.map λd=>h_ d.prs
abbrev fe(W:vz):L2.T:=.lst (W.map λl=>.lst (l.map ca))
def Jy:ST:=λc q=>∃(m b:Nat)(a:xp),c=[DW a]/\DSk m b a/\m<=100/\b<=100/\q (.l1 ((cr a).map λl=>.lst (l.map ca)))
def Xq(T:Tx D):gT 4 zK pJ Jy:=yB T.aav X7 (λ_ _=>bI (bR (cL (bH rK) rY rY ["_law_doors_here"] (bZ vt) (dH (i:=0)) cj (KZ (bH rK) ("_law_doors_here"::rY) ("_law_doors_here"::rY) ["_law_door_here"] (bZ vt) (dH (i:=0)) cj (bJ (FG T) (bA vt bC))))))<|by
 rintro _ R ⟨m,j,g,rfl,h,f,e,q⟩;have dl:=h.len;refine#[%[ak|aL (show _<=100 by exact aL (WG dl) f) vw],comp_map (λl=>.lst (l.map bw)) (λl=>.lst ((l.map λd=>h_ d.prs).map ca)) g (λl b N M a=>#[%[ak|aL (show _<=100 by have:=h.few l b;exact aL this e) vw],comp_map bw (λd=>ca (h_ d.prs)) l (λd hd k n c=>#[d,m,rfl,h.ok l b d hd,c]) (by rw[WU]at a;exact a)]) ?_];unfold cr at q;rw[WU]at q;exact q
def e_(a:xp):vk:=a.map λl=>l.map λd=>(h_ d.prs).map (·.1)
def QJ:ST:=λc q=>∃(m b:Nat)(a:xp),c=[DW a]/\DSk m b a/\m<=100/\b<=100/\q (.l1 ((e_ a).map jH))
def Gc{d:LD}(h:LDk m d):(h_ d.prs).length<=4:=by
 let⟨q,a,f,b⟩:=h.all;have j:=GR a b;have e:=j.few;have c:=h.few;exact aL e c
def aez(T:Tx D):gT 4 Oe Aj QJ:=yB T.ahB aeR (λ_ _=>bI (bR (cL (bH Ca) wM wM ["_law_doors_here"] (bZ vt) (dH (i:=0)) cj (KZ (bH Ca) ("_law_doors_here"::wM) ("_law_doors_here"::wM) ["_law_door_here"] (bZ vt) (dH (i:=0)) cj (afc (bH Ca) ("_law_door_here"::"_law_doors_here"::wM) ("_law_door_here"::"_law_doors_here"::wM) ["_law_room","_law_chance"] (bZ (bJ (FG T) (bA vt bC))) (dY (n:=2) (bO (dH (i:=0)) (bO (dH (i:=1)) cT))) cj vt)))))<|by
 rintro _ R ⟨m,j,g,rfl,h,f,e,q⟩;have dl:=h.len;refine#[%[ak|aL (show _<=100 by exact aL (WG dl) f) vw],comp_map (λl=>.lst (l.map bw)) (λl=>jH (l.map λd=>(h_ d.prs).map (·.1))) g (λl b N M a=>#[%[ak|aL (show _<=100 by have:=h.few l b;exact aL this e) vw],comp_map bw (λd=>az ((h_ d.prs).map (·.1))) l (λd hd o p c=>#[d,m,rfl,h.ok l b d hd,#[%[ak|aL (Gc (h.ok l b d hd)) vw],comp_map cv (λw=>a_ w.1) (h_ d.prs) (λw k N M a=>#[rfl,a]) (by rw[show az ((h_ d.prs).map (·.1))=.lst ((h_ d.prs).map λw=>a_ w.1)by unfold az;rw[WU];rfl]at c;exact c)]]) (by rw[show jH (l.map λd=>(h_ d.prs).map (·.1))=.lst (l.map λd=>az ((h_ d.prs).map (·.1)))by unfold jH;rw[WU];rfl]at a;exact a)]) ?_];unfold e_ at q;rw[WU]at q;exact q
def mQ(l:wE)(A:Nat->Bool):Bool:=decide (l.length=0) || l.any λd=>d.all A
def aiu{A B:Nat->Bool}(u:∀i,A i->B i=true)(h:mQ l A):mQ l B:=by
 unfold mQ at h ⊢;rcases Bool.or_eq_true_iff.mp h with h|h
 .rw[h];rfl
 .let⟨d,hd,a⟩:=List.any_eq_true.mp h;exact Bool.or_eq_true_iff.mpr (.inr (List.any_eq_true.mpr #[d,hd,List.all_eq_true.mpr λr b=>u r (List.all_eq_true.mp a r b)]))
def hA(l:wE):PyData:=.list (l.map λd=>.list (d.map cS))
def MO(l:wE):jH l=dc (hA l):=ZH L2.T.lst (kZ (h:=az) (λd=>lu d) l)
def RJ(l:wE):SeqAt.shaped (hA l):=by
 have a:∀d:xy,PyData.canLay0 (.list (d.map cS)):=λd=>by unfold PyData.canLay0;exact jC ig.lay d
 have b:∀d:xy,PyData.depth (.list (d.map cS))<=61:=λd=>by unfold PyData.depth;have:=mF ig.dep d;exact succ_le_succ this
 have c:∀d:xy,PyData.depth (.list (d.map cS))<=60:=λd=>by
  unfold PyData.depth;have:∀E:xy,PyData.depthAll (E.map cS)<=1:=λE=>by
   induction E with
   |nil=>decide
   |cons x E e=>show max _ _<=1;exact Nat.max_le.mpr #[aZ _,e]
  have:=this d;lia
 have g:PyData.canLay0 (hA l):=by unfold hA PyData.canLay0;exact jC a l
 have f:PyData.depth (hA l)<=64:=by unfold hA PyData.depth;have:=mF c l;lia
 unfold SeqAt.shaped;rw[g,Zs f];rfl
def TB(l:wE):PyData.eqv (hA l) (.list [])=decide (l.length=0):=by cases l<;>rfl
def Wi:ST:=λa q=>∃(l:wE)(L:xf),a=[jH l,c2 L]/\(∀d∈l,d.length<=1000/\∀r∈d,r<L.length)/\q (.fz (.bl (mQ l (mkG L))))
def agF(T:Tx D):gT 1 M8 Ba Wi:=yB T.ajc afn (λg _=>bG (cB (cg (z4 g.units) vt (dg bC))
  (bI (bR fH))
  bV)
  (bG (cY (bZ vt) (bW (n:=99) 2)
  (bI (cB (cJ (bQ (V9 rfl) T.aaI boot_all (bA (cL (bH K6) T8 T8 ["_law_room"] (bZ ve) (dH (i:=0)) cj (bK ve vt)) bC)))
  (bI (bR fH))
  bV)))
  (bI (bR fH))))<|by
 rintro _ R ⟨l,L,rfl,k,q⟩;refine#[hA l,.list [],MO l,rfl,RJ l,rfl,?_];rw[TB];refine er (λz=>?_) λz=>?_
 .rw[show mQ l (mkG L)=true by unfold mQ;rw[show decide (l.length=0)=true from z];rfl]at q;exact q
 refine eF az l (λj o=>∃x,o=[.fz (jH l),.fz (c2 L),x]/\∀d∈j,d.all (mkG L)=false) #[_,rfl,λd hd=>by cases hd] ?_ ?_
 .rintro j d t _ e ⟨x,rfl,f⟩;have hd:d∈l:=%[e|aP _ (aO ..)]
  let⟨p,m⟩:=k d hd;refine#[%[ak|aL p vw],comp_map a_ (λr=>.bl (mkG L r)) d (λr g N M a=>?_) #[d.map (mkG L),by rw[WU];rfl,?_]]
  .have h:=aj (m r g);refine#[_,cQ h,?_];have a:N (.bl (L.getD r false)):=a;rw[au,h]at a;exact a
  .have s:((d.map (mkG L)).all λb=>b)=d.all (mkG L):=by rw[all_map];rfl
   show sw ((d.map (mkG L)).all λb=>b) _ _;rw[s];refine er (λy=>?_) λn=>#[_,rfl,λc hc=>?_]
   .rw[show mQ l (mkG L)=true from Bool.or_eq_true_iff.mpr (.inr (List.any_eq_true.mpr #[d,hd,y]))]at q;exact q
   .rcases Y1.mp hc with hc|hc
    .exact f c hc
    .rw[YR.mp hc];exact n
 .rintro _ ⟨x,rfl,f⟩;rw[show mQ l (mkG L)=false by
   unfold mQ;rw[show decide (l.length=0)=false from z,Bool.false_or];exact List.any_eq_false.mpr λd hd=>by rw[f d hd];decide]at q
  exact q
def lc(m:Nat)(H:Nat->wE)(L:xf):Prop:=∀k,k<m->mkG L k=true->mQ (H k) (mkG L)=true
structure nT(m:Nat)(C:xy)(H:Nat->wE)(L:xf):Prop where
 len:L.length=m
 base:∀k,k<m->a' C k=true->mkG L k=false
 clo:lc m H L
abbrev eH(L:xf)(k:Nat):Bool:=!(mkG L k)
structure AwT(m:Nat)(C:xy)(H:Nat->wE)(t:Nat)(L:xf):Prop where
 len:L.length=m
 base:∀k,k<m->a' C k=true->mkG L k=false
 go:lc m H L\/c_ (eH L) m+t<=m
structure AwJ(m:Nat)(C:xy)(H:Nat->wE)(L0:xf)(k:Nat)(L:xf):Prop where
 len:L.length=m
 base:∀k,k<m->a' C k=true->mkG L k=false
 up:∀i,mkG L i->mkG L0 i=true
 done:∀i,i<k->mkG L0 i=true->mQ (H i) (mkG L0)=false->mkG L i=false
 same:lc m H L0->L=L0
section
variable{m k t:Nat}{C:xy}{H:Nat->wE}{L L0:xf}
def Vi(a:k<L.length)(i:Nat):mkG (L.set k false) i=(!decide (i=k)&&mkG L i):=by
 show(L.set k false).getD i false=(_&&L.getD i false);rw[au,au];by_cases e:i=k
 .rw[e,Up a,Zs rfl];rfl
 .rw[VV (λz=>e z.symm),Zp e];rfl
def AwJ.no(h:AwJ m C H L0 k L)(n:mkG L k=false\/mQ (H k) (mkG L)):AwJ m C H L0 (k+1) L:=#[h.len,h.base,h.up,λi d a b=>by
 by_cases c:i=k
 .subst c;rcases n with n|n
  .exact n
  .rw[aiu h.up n]at b;cases b
 .exact h.done i (XX (VX d) c) a b,h.same]
def AwJ.yes(h:AwJ m C H L0 k L)(j:k<m)(y:mkG L k)(n:mQ (H k) (mkG L)=false):AwJ m C H L0 (k+1) (L.set k false):=by
 have d:=Vi (L:=L) (k:=k) (by rwa[h.len]);refine#[%[WH,h.len|_],λi f g=>%[d,h.base i f g,JS|_],λi e=>?_,λi f a b=>?_,λc=>?_]
 .rw[d]at e;exact h.up i (Bool.and_eq_true_iff.mp e).2
 .rw[d];by_cases c:i=k
  .rw[Zs c];rfl
  .rw[h.done i (XX (VX f) c) a b,JS]
 .have e:=h.same c;rw[e]at y n;rw[c k j y]at n;cases n
def AwJ.turn(j:AwJ m C H L0 m L)(h:AwT m C H t L0):AwT m C H (t+1) L:=by
 refine#[j.len,j.base,?_];by_cases c:lc m H L0
 .rw[j.same c];exact .inl c
 .right;have d:=h.go.resolve_left c;obtain⟨k,a,s,n⟩ : ∃k,k<m/\mkG L0 k/\mQ (H k) (mkG L0)=false:=by
   refine Classical.byContradiction λz=>c λk a s=>?_;cases e:mQ (H k) (mkG L0)with
   |true=>rfl
   |false=>exact absurd #[k,a,s,e] z
  have:=TJ (S:=eH L0) (Z:=eH L) (show eH L0 k=false by unfold eH;rw[s];rfl) (show eH L k=true by unfold eH;rw[j.done k a s n];rfl) a λi _ e=>by
   unfold eH at e ⊢;cases z:mkG L i with
   |false=>rfl
   |true=>rw[j.up i z]at e;exact e
  lia
def AwT.fin(h:AwT m C H m L):nT m C H L:=#[h.len,h.base,h.go.elim id λz k a y=>by
 have:=Y5 (show c_ (eH L) m=0 by lia) k a;unfold eH at this;rw[y]at this;cases this]
def AwT.start:AwT m C H 0 ((range m).map λk=>!(a' C k)):=#[%[ak,WP|_],λk a g=>by
 show((range m).map λk=>!(a' C k)).getD k false=false;rw[au,aq,VY a];show(!(a' C k))=false;rw[g];rfl,.inr (VD _ _)]
end
def ahM{q:OT->Prop}(h:q (.fz (.bl (!(a' C k))))):hT true (a_ k) (az C) q:=IH (neg:=true) h
def aa5:ST:=λa q=>∃(H:vk)(C:xy),a=[.lst (H.map jH),az C]/\H.length<=100/\(∀l∈H,∀d∈l,d.length<=1000/\∀r∈d,r<H.length)/\∀L:xf,nT H.length C (λk=>H.getD k []) L->q (.l1 (L.map L2.T.bl))
def aiY(T:Tx D):gT 2 Tr Ew aa5:=yB T.ajZ IZ (λv _=>bG (FY (bH U8) GG ["_law_leads_here","_law_goals_here","_law_lot","_law_turn","?_law_k"] ["_law_k"] (c7 T.eG (bA (bQ cH T.dz WJ (bA vt bC)) bC)) (dH (i:=0)) cj (kh (F5 v.units) vt ve (hm:=by rfl)) (gU (i:=2) IZ.nd rfl (Or.inl rfl)))
  (bG (cY (c7 T.eG (bA (bQ cH T.dz WJ (bA vt bC)) bC)) (bW (n:=99) 3)
  (bI (cY (c7 T.eG (bA (bQ cH T.dz WJ (bA vt bC)) bC)) (bW (n:=99) 4)
  (bI (cB (QW.qt (xK (cJ (uN 2 vF)) (qF (dJ (Ih 2 (cJ (bJ (agF T) (bA (bK vt vF) (bA ve bC)))))))))
  (bI (pY 2 fH vF))
  bV)))))
  (bI (gC 2))))<|by
 rintro _ R ⟨H,C,rfl,B,r,q⟩;have a:(H.map jH).length=H.length:=ak ..;refine#[#[by lia,by lia],%[rng,ak,WP|aL (show _<=100 by lia) vw],Hg (λk=>.bl (!(a' C k))) (H.map jH).length (λk e N M A=>show hT true (a_ k) (az C) λy=>N (frz y)from ahM A) ?_];have E:(range (H.map jH).length).map (λk=>L2.T.bl (!(a' C k)))=((range H.length).map λk=>!(a' C k)).map L2.T.bl:=by rw[WU,a];rfl
 rw[E];refine#[#[by lia,by lia],jg (n:=(H.map jH).length) (λt o=>∃L x y,o=[.fz (.lst (H.map jH)),.fz (az C),.l1 (L.map L2.T.bl),x,y]/\AwT H.length C (λk=>H.getD k []) t L) #[_,_,_,rfl,AwT.start] ?_ ?_]
 .rintro t _ G ⟨F,x,y,rfl,h⟩;refine#[#[by lia,by lia],jg (n:=(H.map jH).length) (λk o=>∃L x y,o=[.fz (.lst (H.map jH)),.fz (az C),.l1 (L.map L2.T.bl),x,y]/\AwJ H.length C (λk=>H.getD k []) F k L) #[_,_,_,rfl,h.len,h.base,λ_ z=>z,λi w=>absurd w (WZ _),λ_=>rfl] ?_ ?_]
  .rintro k _ e ⟨L,x,y,rfl,j⟩;have b:k<H.length:=by exact aR e (WG a)
   have l:H[k]?\H[k]:=aj b;have f:H.getD k []=H[k]:=by rw[au,l];rfl
   have u:=j.len;have m:=aj (show k<L.length by lia);have g:mkG L k=L[k]' vy:=by show L.getD k false=_;rw[au,m];rfl
   refine#[_,cQ m,er (λp=>#[_,cQ l,H[k],L,rfl,λd hd=>?_,?_]) λs=>#[_,_,_,rfl,j.no (.inl (g.trans s))]]
   .rw[u];exact r _ (aU b) d hd
   .refine er (λn=>#[k,?_,L.set k false,x,.fz (.int (k:Nat)),?_,j.yes b (g.trans p) ?_]) λc=>#[_,_,_,rfl,j.no (.inr ?_)]
    .rw[ak];exact vL vy
    .rw[UH];rfl
    .show mQ (H.getD k []) (mkG L)=false;rw[f];cases z:mQ H[k] (mkG L)with
     |false=>rfl
     |true=>rw[z]at n;cases n
    .show mQ (H.getD k []) (mkG L)=true;rw[f];cases z:mQ H[k] (mkG L)with
     |true=>rfl
     |false=>rw[z]at c;cases c
  .rintro _ ⟨L,x,y,rfl,j⟩;rw[a]at j;exact#[_,_,_,rfl,j.turn h]
 .rintro _ ⟨L,x,y,rfl,h⟩;rw[a]at h;exact q L h.fin
structure Tq(m:Nat)(u:xz):Prop where
 few:u.length<=4
 lt:∀w∈u,w.1<m
 b:∀w∈u,w.2.den<=4000/\w.2.num.natAbs<=4000
def _n{b n d x y:Int}(l:a.natAbs<=10^(44*k))(g:b.natAbs<=10^(44*k))(j:n.natAbs<=4000)(hd:d.natAbs<=4000)(i:x.natAbs<=10^39)(h:y.natAbs<=10^39):(d*y).natAbs<=10^43/\(n*x).natAbs<=10^43/\(a*(d*y)+n*x*b).natAbs<=10^(44*(k+1))/\(b*(d*y)).natAbs<=10^(44*(k+1)):=by
 have c:(d*y).natAbs<=4000*10^39:=%[VT|VS hd h]
 have f:(n*x).natAbs<=4000*10^39:=%[VT|VS j i]
 have e:10^(44*(k+1))=10^(44*k)*10^44:=%[mul_add,pow_add|_]
 refine#[aL c vw,aL f vw,?_,?_]<;>rw[e]
 .refine aL (Int.natAbs_add_le ..) ?_;rw[VT a,VT (n*x)];have p:=VS l c;have o:=VS f g;rw[Nat.mul_comm (4000*10^39)]at o;have m:10^(44*k)*(4000*10^39+4000*10^39)<=10^(44*k)*10^44:=ku _ vw;rw[mul_add]at m;lia
 .rw[VT b];exact VS g (aL c vw)
def Vy:ST:=λc q=>∃(u:xz)(E:xt),c=[ca u,.lst (E.map aa)]/\Tq E.length u/\(∀x∈E,FnB (10^39) x)/\∀a b:Int,0<b->a.natAbs<=10^176->b.natAbs<=10^176->divInt a b=dw u (xG E)->q (.fz (.tup [.int a,.int b]))
def EX(T:Tx D):gT 1 Ks Ce Vy:=yB T.akt ahH (λ_ _=>bG (bT 2 bF)
  (bG (bT 3 bF)
  (bG (cY (bZ vt) (dY (n:=2) (bO (bW (n:=99) 4) (bO (bW (n:=99) 5) cT)))
  (bG (bT 6 (bM cN (bK vS bF) (bK (bK vn vF) bF)))
  (bG (bT 2 (bM dB (bM cN ve (qv 6)) (bM cN (bM cN (bK vS bF) (bK (bK vn vF) bF)) vi)))
  (bI (bT 3 (bM cN vi (qv 6)))))))
  (bI (bR (d7 (bA ve (bA vi bC))))))))<|by
 rintro _ R ⟨u,E,rfl,h,C,q⟩;refine eF cv u (λf o=>∃(a b:Int)(x y z:OT),o=[.fz (ca u),.fz (.lst (E.map aa)),.fz (.int a),.fz (.int b),x,y,z]/\0<b/\a.natAbs<=10^(44*f.length)/\b.natAbs<=10^(44*f.length)/\divInt a b=dw f (xG E)) #[0,1,_,_,_,rfl,by decide,by decide,by decide,rfl] ?_ ?_
 .rintro f v M _ e ⟨a,b,x,y,z,rfl,p,l,g,t⟩;have k:v∈u:=%[e|aP _ (aO ..)]
  have L:f.length+1<=4:=by have:=h.few;rw[e,aA,length_cons]at this;lia
  have j:=aj (h.lt v k);have gr:xG E v.1=E[v.1]'(h.lt v k):=by show E.getD v.1 0=_;rw[au,j];rfl
  generalize E[v.1]'(h.lt v k)=r at j gr;have m:=C r (aC j);let⟨I,w⟩:=h.b v k;let⟨B,H,G,F⟩:=_n (n:=v.2.num) (d:=((v.2.den:Nat):Int)) (x:=r.num) (y:=((r.den:Nat):Int)) l g w (by rwa[XT]) m.n %[XT|m.d];have J:=v.2.den_pos;have K:=r.den_pos;have c:∀{i:Int},i.natAbs<=10^(44*f.length)->Bd i:=λs=>vG (n:=132) (aL s (XU vw vy)) vw;have A:(0:Int)<((v.2.den:Nat):Int)*((r.den:Nat):Int):=XZ vy vy;refine#[rfl,_,cQ j,#[eX vy,vG (n:=39) %[XT|m.d] vw],#[c l,vG (n:=43) B vw],_,cQ j,#[eX (Y3 w vw),vG (n:=39) m.n vw],#[vG (n:=43) H vw,c g],#[c g,vG (n:=43) B vw],_,_,_,_,_,rfl,XZ p A,?_,?_,?_]
  .rw[aA];exact G
  .rw[aA];exact F
  .rw[Mx,qN,<- t,gr]
   conv=>rhs;rw[<- rd v.2,<- rd r]
   rw[Rat.divInt_mul_divInt,QU _ _ (WS p) (WS A)]
 .rintro _ ⟨a,b,x,y,z,rfl,p,l,g,t⟩;have c:∀{i:Int},i.natAbs<=10^(44*u.length)->i.natAbs<=10^176:=λs=>aL s (XU vw (by have:=h.few;lia));exact q a b p (c l) (c g) t
def Dv(W:vz)(v:zI)(k:Nat):xz:=match v.getD k none with
 |none=>[]
 |some d=>(W.getD k []).getD d []
def d8(W:vz)(v:zI)(n:Nat):List xz:=(range n).map (Dv W v)
structure i'(W:vz)(v:zI):Prop where
 few:W.length<=100
 len:v.length=W.length
 at_:∀k d,v[k]?\(some d)->d<(W.getD k []).length
def Wz:ST:=λa q=>∃(W:vz)(v:zI),a=[fe W,.lst (v.map dT)]/\i' W v/\q (.l1 ((d8 W v W.length).map ca))
def agP(T:Tx D):gT 1 NQ z_ Wz:=yB T.ai5 agn (λ_ _=>bG (gA 2 (dg bC))
  (bG (cY (c7 T.eG (bA (bQ cH T.dz WJ (bA vt bC)) bC)) (bW (n:=99) 3)
  (bI (cB (cg yc (bK vn vi) fW)
  (bI (pZ 2 (dg bC)))
  (bI (pZ 2 (bK (bK vt vi) (bK vn vi)))))))
  (bI (gC 2))))<|by
 rintro _ R ⟨W,v,rfl,h,q⟩;have s:=h.few;have r:=h.len;have b:(W.map λl=>L2.T.lst (l.map ca)).length=W.length:=ak ..;refine#[#[by lia,by lia],jg (n:=(W.map λl=>L2.T.lst (l.map ca)).length) (λk o=>∃x,o=[.fz (fe W),.fz (.lst (v.map dT)),.l1 ((d8 W v k).map ca),x]) #[_,rfl] ?_ ?_]
 .rintro k _ c ⟨x,rfl⟩;have a:=aj (show k<v.length by lia);have m:=aj (show k<W.length by exact aR c (WG b));have f:∀u,Dv W v k=u->(d8 W v (k+1)).map ca=(d8 W v k).map ca++[ca u]:=λu e=>by
   unfold d8;rw[range_succ,bf,bf,<- e];rfl
  have g:((d8 W v k).map ca).length<sizeLine:=by
   unfold d8;rw[ak,ak,WP];exact Y3 (show _<=100 by lia) vw
  generalize hd:v[k]' vy=d at a;have j:v.getD k none=d:=by rw[au,a];rfl
  cases d with
  |none =>
   refine#[_,cQ a,g,.fz (.int (k:Nat)),?_];rw[f [] (by unfold Dv;rw[j])]
   rfl
  |some d =>
   have H:=h.at_ k d a;have i:W.getD k []=W[k]'(aR c (WG b)):=by rw[au,m];rfl
   rw[i]at H;have p:=aj H;refine#[_,cQ a,_,cQ m,_,cQ a,_,cQ p,g,.fz (.int (k:Nat)),?_];rw[f ((W[k]'(aR c (WG b)))[d]) (by unfold Dv;rw[j,i];show(W[k]'_).getD d []=_;rw[au,p];rfl)]
   rfl
 .rintro _ ⟨x,rfl⟩;rwa[b]
structure kP(m:Nat)(C:xy)(tk:Nat->xz)(x:Nat->Rat):Prop where
 goal:∀k,k<m->a' C k=true->x k=1
 rest:∀S,Lfp false m (a' C) (λk=>[(tk k).map (·.1)]) S->∀k,k<m->a' C k=false->x k=if S k=true then dw (tk k) x else 0
def G'{b:Int}{x:Rat}(c:0<b)(e:divInt a b=x):x.num*b=a*((x.den:Nat):Int):=by
 have d:=x.den_pos;have e:divInt a b=divInt x.num ((x.den:Nat):Int):=%[e,rd|_]
 have:=(QY (WS c) vy).mp e
 grind
def aiC(W:vz)(v:zI)(n:Nat):(d8 W v n).length=n:=by unfold d8;rw[ak,WP]
def GM{W:vz}(h:k<n):(d8 W v n)[k]?\(Dv W v k):=by unfold d8;rw[aq,VY h];rfl
def aes{W:vz}(b:∀l∈W,∀w∈l,Tq m w)(k:Nat):Tq m (Dv W v k):=by
 have nil:Tq m []:=#[aZ _,λ_ z=>(nomatch z),λ_ z=>(nomatch z)];unfold Dv;split
 .exact nil
 .rename_i d _
  rw[au (l:=W.getD k [])];cases e:(W.getD k [])[d]? with
  |none=>exact nil
  |some w =>
   rw[au]at e;cases a:W[k]? with
   |none=>rw[a]at e;cases e
   |some l=>rw[a]at e;exact b l (aC a) w (aC e)
def zY:ST:=λa q=>∃(E:xt)(W:vz)(C:xy)(v:zI),a=[.lst (E.map aa),fe W,az C,.lst (v.map dT)]/\E.length=W.length/\(∀x∈E,FnB (10^39) x)/\i' W v/\(∀l∈W,∀w∈l,Tq W.length w)/\kP W.length C (Dv W v) (xG E)/\q (.fz (.bl true))
def Kk(T:Tx D):gT 4 xU oM zY:=yB T.acA Za (λF _=>bG (cB (dJ (cJ (bJ (Tv T) (bA vt (bA (bQ cH T.dz WJ (bA vn bC)) bC)))))
  (bI (bR fH))
  bV)
  (bG (bT 4 (bJ (agP T) (bA vn (bA vi bC))))
  (bG (bT 5 (bJ (air T) (bA vF (bA ve bC))))
  (bG (cY (c7 T.eG (bA (bQ cH T.dz WJ (bA vn bC)) bC)) (bW (n:=99) 6)
  (bG (bT 7 (d7 (bA bF (bA bF bC))))
  (bG (cB (cg (E8 F.units) (qv 6) ve (hm:=by rfl))
  (bI (bT 7 (d7 (bA bF (bA bF bC)))))
  (bI (cB (cJ (bK vS (qv 6)))
  (bI (bT 7 (bJ (EX T) (bA (bK vF (qv 6)) (bA vt bC)))))
  bV)))
  (bI (cB (cg (mX F.units) (bM cN (bK (bK vt (qv 6)) bF) (bK (qv 7) bF)) (bM cN (bK (qv 7) bF) (bK (bK vt (qv 6)) bF)))
  (bI (bR fH))
  bV)))))
  (bI (bR fH))))))<|by
 rintro _ R ⟨E,W,C,v,rfl,A,B,I,N,M,q⟩;have i:=I.few;have O:((W.map λl=>L2.T.lst (l.map ca)).length:Int)=(W.length:Nat):=%[ak|_]
 have t:=aiC W v W.length;have s:=λk=>aes (v:=v) N k;refine#[E,W.length,ZH (λz=>[L2.T.lst (E.map aa),L2.T.int z]) O,A,by exact aL i vw,W,v,rfl,I,d8 W v W.length,C,rfl,by exact aL (WG t) i,λu G=>?_,λL P lf=>?_]
 .let⟨k,U,rfl⟩:=YV.mp G;rw[t];exact#[aL (s k).few vw,(s k).lt]
 rw[t]at P lf;have lf:Lfp false W.length (a' C) (λk=>[(Dv W v k).map (·.1)]) (mkG L):=lf.ld λk c=>by
  show[((d8 W v W.length).getD k []).map (·.1)]=_;rw[au,GM c];rfl
 refine#[#[by lia,by lia],jg (n:=(W.map λl=>L2.T.lst (l.map ca)).length) (λ_ o=>∃x y,o=[.fz (.lst (E.map aa)),.fz (fe W),.fz (az C),.fz (.lst (v.map dT)),.fz (.lst ((d8 W v W.length).map ca)),.fz (c2 L),x,y]) #[_,_,rfl] ?_ ?_]
 .rintro k _ c ⟨x,y,rfl⟩;have c:k<W.length:=by lia
  have j:=aj (show k<E.length by lia);have gr:xG E k=E[k]' vy:=by show E.getD k 0=_;rw[au,j];rfl
  generalize E[k]' vy=r at j gr;have J:=B r (aC j);refine LS (λo=>∃a b:Int,0<b/\a.natAbs<=10^176/\b.natAbs<=10^176/\divInt a b=r/\o=[.fz (.lst (E.map aa)),.fz (fe W),.fz (az C),.fz (.lst (v.map dT)),.fz (.lst ((d8 W v W.length).map ca)),.fz (c2 L),.fz (.int (k:Nat)),.fz (.tup [.int a,.int b])]) ?_ λY Q=>?_
  .rintro _ ⟨a,b,m,h,g,e,rfl⟩;refine#[_,cQ j,#[vG (n:=39) J.n vw,vG (n:=176) g vw],_,cQ j,#[vG (n:=176) h vw,vG (n:=39) %[XT|J.d] vw],cR ?_ #[_,_,rfl]];rw[G' m e,Zs rfl];rfl
  .have w:∀a b:Int,0<b->a.natAbs<=10^176->b.natAbs<=10^176->divInt a b=r->Y [.fz (.lst (E.map aa)),.fz (fe W),.fz (az C),.fz (.lst (v.map dT)),.fz (.lst ((d8 W v W.length).map ca)),.fz (c2 L),.fz (.int (k:Nat)),.fz (.tup [.int a,.int b])]:=λa b m h g e=>Q _ #[a,b,m,h,g,e,rfl];refine#[cS k,C.map cS,rfl,lu C,rfl,ig.lst C,?_];rw[ZQ];have f:=M.rest _ lf k c;rw[gr]at f;have p:=aj (show k<L.length by lia);have H:mkG L k=L[k]' vy:=by show L.getD k false=_;rw[au,p];rfl
   generalize L[k]' vy=S at p H;rw[H]at f;cases K:a' C k with
   |true=>exact w 1 1 vw vw vw (by have:=M.goal k c K;rw[gr]at this;rw[this];rfl)
   |false =>
    have f:=f K;cases S with
    |true=>exact#[_,cQ p,_,cQ (GM c),Dv W v k,E,rfl,%[A|s k],B,λa b m h g e=>w a b m h g (by rw[e,f];rfl)]
    |false=>exact#[_,cQ p,w 0 1 vw vw vw (by rw[f];rfl)]
 .rintro _ ⟨x,y,rfl⟩;exact q
structure ia(ac:xp)(v:zI):Prop where
 len:v.length=ac.length
 ok:∀(k:Nat)d l,v[k]?\d->ac[k]?\l->uq d l.length=true
def frD(r:Rat):PyData:=.tuple [.int r.num,.int (r.den:Nat)]
def iq(p:Nat×Rat):PyData:=.tuple [.int (p.1:Nat),frD p.2]
def fi(d:LD):PyData:=.tuple [.int (d.sort:Nat),frD d.pay,.list (d.prs.map iq)]
def P9(d:LD):bw d=dc (fi d):=by
 show L2.T.tup [_,_,.lst (d.prs.map cv)]=L2.T.tup [_,_,.lst (Tt (d.prs.map iq))];rw[<- kZ (h:=cv) (g:=iq) (λ_=>rfl)]
 rfl
def VN(d:LD):PyData.canLay0 (fi d):=by
 have:=jC (g:=iq) (λ_=>rfl) d.prs;show(true&&(true&&(PyData.canLayAll0 (d.prs.map iq)&&true)))=true;rw[this];rfl
def Ti(d:LD):PyData.depth (fi d)<=60:=by
 have:=mF (g:=iq) (n:=5) (λ_=>UT rfl) d.prs;simp only[fi,frD,PyData.depth,PyData.depthAll];lia
def px(l:we):L2.T.lst (l.map bw)=dc (.list (l.map fi)):=ZH L2.T.lst (kZ P9 l)
def qQ(l:we):SeqAt.shaped (.list (l.map fi)):=by
 have b:PyData.canLay0 (.list (l.map fi)):=by unfold PyData.canLay0;exact jC VN l
 have a:PyData.depth (.list (l.map fi))<=64:=by unfold PyData.depth;have:=mF Ti l;lia
 unfold SeqAt.shaped;rw[b,Zs a];rfl
def Tc(l:we):PyData.eqv (.list (l.map fi)) (.list [])=decide (l.length=0):=by cases l<;>rfl
def W_:ST:=λb q=>∃(v:zI)(a:xp),b=[.lst (v.map dT),DW a]/\ia a v/\q (.fz (.bl true))
def ah7(T:Tx D):gT 2 VP Gj W_:=yB T.alZ ahs (λb _=>bG (cB (QW.qt (iJ (dJ (cJ (oW .list vt T.dO T.wV boot_list))) (gD (cg (mX b.units) (bQ cH T.dz WJ (bA vt bC)) (bQ cH T.dz WJ (bA vn bC))))))
  (bI (bR fH))
  bV)
  (bG (cY (Im T.OD (bA vt (bA vn bC))) (dY (n:=2) (bO (bW (n:=99) 2) (bO (bW (n:=99) 3) cT)))
  (bG (cB (QW.qt (xK (cg (z4 b.units) vi (dg bC)) (qF (cg Fx ve fW))))
  (bI (bR fH))
  bV)
  (bI (cB (QW.qt (xK (cg (mX b.units) vi (dg bC)) (qF (QW.qt (iJ (dJ (cJ (bJ (p' T) (bA ve bC)))) (iJ (cg CQ ve bF) (gD (cg p_ ve (bQ cH T.dz WJ (bA vi bC))))))))))
  (bI (bR fH))
  bV))))
  (bI (bR fH))))<|by
 rintro _ R ⟨v,a,rfl,h,q⟩;have i:((v.map dT).length:Int)=((a.map λl=>L2.T.lst (l.map bw)).length:Nat):=%[ak,ak,h.len|_]
 refine cR (by rw[i,Zs rfl];rfl) ?_;show vV _ _ _ (G3 (v.map dT) (a.map λl=>L2.T.lst (l.map bw))) _;rw[Fb];refine eF (λp:Option Nat×we=>L2.T.tup [dT p.1,.lst (p.2.map bw)]) (v.zip a) (λ_ o=>∃x y,o=[.fz (.lst (v.map dT)),.fz (DW a),x,y]) #[_,_,rfl] ?_ ?_
 .rintro k ⟨d,l⟩ m _ e ⟨x,y,rfl⟩;have g:uq d l.length:=by
   have f:(v.zip a)[k.length]?\(d,l):=by rw[e,aD (aG _),Nat.sub_self];rfl
   rw[List.getElem?_zip_eq_some]at f;exact h.ok _ d l f.1 f.2
  refine#[rfl,.list (l.map fi),.list [],px l,rfl,qQ l,rfl,?_];rw[Tc];cases d with
  |none =>
   have c:l.length=0:=of_decide_eq_true g;rw[Zs c];refine#[.list (l.map fi),.list [],px l,rfl,qQ l,rfl,?_];rw[Tc,Zs c];exact#[_,_,rfl]
  |some j =>
   have c:j<l.length:=of_decide_eq_true g;rw[Zp (show ¬l.length=0 by lia)];refine#[.list (l.map fi),.list [],px l,rfl,qQ l,rfl,?_];rw[Tc,Zp (show ¬l.length=0 by lia)];exact#[_,rfl,cR (Zp (show ¬(((l.map bw).length:Int)<=(j:Int))by rw[ak];lia)) #[_,_,rfl]]
 .rintro _ ⟨x,y,rfl⟩;exact q
def abU:ST:=λb q=>∃(p:el)(a:xp)(W:vz)(C:xy),b=[eB p,DW a,fe W,az C]/\ia a p.1/\p.2.length=W.length/\(∀x∈p.2,FnB (10^39) x)/\i' W p.1/\(∀l∈W,∀w∈l,Tq W.length w)/\kP W.length C (Dv W p.1) (xG p.2)/\q (.fz (.bl true))
def aiZ(T:Tx D):gT 5 Uo Hv abU:=yB T.amd ahT (λa _=>bG (cB (QW.qt (iJ (dJ (cJ (oW .tuple vt T.dO T.RN boot_tuple))) (iJ (cg (mX a.units) (bQ cH T.dz WJ (bA vt bC)) bF) (gD (dJ (cJ (bJ (ah7 T) (bA (bK vt bF) (bA vn bC)))))))))
  (bI (bR fH))
  bV)
  (bI (bR (bJ (Kk T) (bA (bK vt bF) (bA ve (bA vi (bA (bK vt bF) bC))))))))<|by
 rintro _ R ⟨p,h,W,C,rfl,g,f,e,d,c,b,q⟩;exact#[p.1,h,rfl,g,p.2,W,C,p.1,rfl,f,e,d,c,b,q]
structure DJ(m mo:Nat)(ac:xp)(W:vz)(C:xy)(p:el):Prop where
 pl:ia ac p.1
 len:p.2.length=W.length
 fn:∀x∈p.2,FnB (10^39) x
 ft:i' W p.1
 wb:∀l∈W,∀w∈l,Tq W.length w
 ch:kP W.length C (Dv W p.1) (xG p.2)
 ld:ac.length=W.length
 hd:DSk m mo ac
 m1:m<=100
 mo1:mo<=100
 lo:∀k,k<W.length->a' C k=false->∀w∈W.getD k [],xG p.2 k<=dw w (xG p.2)
 aw:∀L,nT W.length C (λk=>(e_ ac).getD k []) L->∀k,k<W.length->mkG L k=true->xG p.2 k=0
def _j{b:Int}{y:Rat}(c:0<b)(e:divInt a b=y)(h:r<=y):r.num*b<=a*((r.den:Nat):Int):=by
 have e:=G' c e;have h:=(le_iff _ _).mp h;have d:=y.den_pos;refine Int.le_of_mul_le_mul_right (a:=((y.den:Nat):Int)) ?_ vy;have g:=Int.mul_le_mul_of_nonneg_right h (XY c);have f:a*((r.den:Nat):Int)*((y.den:Nat):Int)=y.num*((r.den:Nat):Int)*b:=by
  rw[show a*((r.den:Nat):Int)*((y.den:Nat):Int)=(a*((y.den:Nat):Int))*((r.den:Nat):Int)by grind,<- e];grind
 rw[f]
 grind
def S5{e:Nat}{a:xp}(h:DSk m e a):∀l∈e_ a,∀d∈l,d.length<=1000/\∀r∈d,r<(e_ a).length:=λl o d hd=>by
 let⟨n,k,rfl⟩:=YV.mp o;let⟨x,f,rfl⟩:=YV.mp hd;have b:=h.ok n k x f;refine#[by rw[ak];have:=Gc b;exact aL this vw,λr i=>?_];let⟨w,g,rfl⟩:=YV.mp i;let⟨q,c,p,j⟩:=b.all;have:=(GR c j).lt w g;unfold e_;rw[ak,h.len];exact this
def Xj:ST:=λb q=>∃(m c:Nat)(p:el)(a:xp)(W:vz)(C:xy),b=[eB p,DW a,fe W,az C]/\DJ m c a W C p/\q (.fz (.bl true))
def pX(T:Tx D):gT 6 Ny Ax Xj:=yB T.aiN agq (λA _=>bG (cB (dJ (cJ (bJ (aiZ T) (bA vt (bA vn (bA ve (bA vi bC)))))))
  (bI (bR fH))
  bV)
  (bG (bT 4 (bK vt bF))
  (bG (bT 5 (bJ (aiY T) (bA (bJ (aez T) (bA vn bC)) (bA vi bC))))
  (bG (cY (c7 T.eG (bA (bQ cH T.dz WJ (bA vn bC)) bC)) (bW (n:=99) 6)
  (bG (cB (QW.qt (xK (cJ (bK vS (qv 6))) (qF (cg (mX A.units) (bK vF (qv 6)) (d7 (bA bF (bA bF bC)))))))
  (bI (bR fH))
  bV)
  (bI (cY (bZ (bK ve (qv 6))) (bW (n:=99) 7)
  (bG (Uk (bJ (EX T) (bA (qv 7) (bA vF bC))) (dY (n:=2) (bO (bW (n:=99) 8) (bO (bW (n:=99) 9) cT))))
  (bI (cB (QW.qt (xK (cg (F5 A.units) (qv 6) vi (hm:=by rfl)) (qF (cg CQ (bM cN (qv 8) (bK (bK vF (qv 6)) bF)) (bM cN (bK (bK vF (qv 6)) bF) (qv 9))))))
  (bI (bR fH))
  bV)))))))
  (bI (bR fH))))))<|by
 rintro _ R ⟨m,J,p,c,W,C,rfl,h,q⟩;have s:=h.ft.few;have K:(c.map λl=>L2.T.lst (l.map bw)).length=W.length:=%[ak,h.ld|_]
 have t:(e_ c).length=W.length:=by unfold e_;rw[ak,h.ld]
 refine#[p,c,W,C,rfl,h.pl,h.len,h.fn,h.ft,h.wb,h.ch,m,J,c,rfl,h.hd,h.m1,h.mo1,e_ c,C,rfl,by exact aL (WG t) s,S5 h.hd,λL j=>?_];rw[t]at j;have i:=h.aw L j;refine#[#[by lia,by lia],jg (n:=(c.map λl=>L2.T.lst (l.map bw)).length) (λ_ o=>∃x y z u,o=[.fz (eB p),.fz (DW c),.fz (fe W),.fz (az C),.fz (.lst (p.2.map aa)),.fz (c2 L),x,y,z,u]) #[_,_,_,_,rfl] ?_ ?_]
 .rintro k _ f ⟨x,y,z,u,rfl⟩;have f:k<W.length:=by exact aR f (WG K)
  have F:=aj f;have g:=aj (show k<p.2.length by rwa[h.len]);have G:=aj (show k<L.length by rwa[j.len]);have O:mkG L k=L[k]'(by rwa[j.len]):=by show L.getD k false=_;rw[au,G];rfl
  have gr:xG p.2 k=p.2[k]'(by rwa[h.len]):=by show p.2.getD k 0=_;rw[au,g];rfl
  have lo:=h.lo k f;have i:=i k f;rw[gr]at i;rw[gr,au,F]at lo;have I:=h.wb _ (aU f);generalize p.2[k]'(by rwa[h.len])=r at g gr lo i;have E:=h.fn r (aC g);dsimp only[hName];refine sq (λo=>o=[.fz (eB p),.fz (DW c),.fz (fe W),.fz (az C),.fz (.lst (p.2.map aa)),.fz (c2 L),.fz (.int (k:Nat)),y,z,u]) ?_ λY B=>?_
  rotate_left
  .refine#[_,cQ G,er (λH=>#[_,cQ g,?_]) λU=>B _ rfl];rw[i (O.trans H)];exact B _ rfl
  rintro _ rfl;refine#[_,cQ F,eF ca W[k] (λ_ o=>∃y z u,o=[.fz (eB p),.fz (DW c),.fz (fe W),.fz (az C),.fz (.lst (p.2.map aa)),.fz (c2 L),.fz (.int (k:Nat)),y,z,u]) #[_,_,_,rfl] ?_ ?_]
  .rintro X v V _ e ⟨y,z,u,rfl⟩;have w:v∈W[k]:=%[e|aP _ (aO ..)]
   refine#[v,p.2,rfl,%[h.len|I v w],h.fn,λa b S N M P=>#[rfl,cS k,C.map cS,rfl,lu C,rfl,ig.lst C,?_]];rw[ZQ];cases Q:a' C k with
   |true=>exact#[_,_,_,rfl]
   |false =>
    refine#[_,cQ g,#[vG (n:=176) N vw,vG (n:=39) %[XT|E.d] vw],_,cQ g,#[vG (n:=39) E.n vw,vG (n:=176) M vw],cR (Zp ?_) #[_,_,_,rfl]];have:=_j S P (lo Q v w);exact Int.not_lt_of_ge this
  .rintro _ ⟨y,z,u,rfl⟩;exact#[_,_,_,_,rfl]
 .rintro _ ⟨x,y,z,u,rfl⟩;exact q
def KR{a:xp}{g:xj}(b:JC a g)(k d:Nat):∃t:Str,(g.getD k [])[d]?=((a.getD k [])[d]?).map (k7 t):=by
 by_cases h:k<a.length
 .have e:=aj h;have c:=aj (show k<g.length by rwa[b.len]);let⟨f,l,i⟩:=b.at_ k _ _ e c;rw[au,au,e,c];show ∃t,(g[k]'(by rwa[b.len]))[d]?=(a[k][d]?).map (k7 t);rw[i,aq];by_cases hd:d<a[k].length
  .refine#[f[d]' vy,?_];rw[aj (show d<(f.zip a[k]).length by rw[VZ];lia),aj hd,JP]
   rfl
  .exact#[#[↥[]],by rw[aM (show(f.zip a[k]).length<=d by rw[VZ];lia),aM (show a[k].length<=d by exact VU hd)];rfl]
 .have e:a[k]?=none:=aM (VU h);have c:g[k]?=none:=aM %[b.len|VU h];exact#[#[↥[]],by rw[au,au,e,c];rfl]
def FX(e:Bool)(m:Nat)(mk:Nat->Bool)(H:Nat->wE):∃S,Lfp e m mk H S:=by
 obtain⟨F,c⟩ : ∃F:Nat->Bool,∀k,F k=true↔∀A:Nat->Bool,(∀k,k<m->mk k=true->A k=true)->(∀k,k<m->jn e (H k) A=true->A k=true)->A k=true:=#[λk=>@decide (∀A:Nat->Bool,(∀k,k<m->mk k=true->A k=true)->(∀k,k<m->jn e (H k) A=true->A k=true)->A k=true) (Classical.propDecidable _),λk=>by simp only[decide_eq_true_eq]];exact#[F,λk d g=>(c k).mpr λA a _=>a k d g,λk d j=>(c k).mpr λA a b=>b k d (KN (λ_ _ r _ s=>(c r).mp s A a b) j),λA a b k _ s=>(c k).mp s A a b]
def Lfp.jn_{e:Bool}{mk:Nat->Bool}{H d:Nat->wE}(h:Lfp e m mk H S)(f:∀k,k<m->∀A,jn e (H k) A=jn e (d k) A):Lfp e m mk d S:=#[h.base,λk c j=>h.step k c (by rwa[f k c]),λA a b=>h.least A a λk c j=>b k c (by rwa[<- f k c])]
def P2(c:xN)(A:Nat->Bool):jn false (d2 c) A=jn false [(vY c).map (·.1)] A:=by cases c<;>rfl
def HZ{c:Nat->xN}{x:Nat->Rat}(h:gW m (a' C) c S x){b:Nat->xz}(e:∀k,k<m->b k=vY (c k)):kP m C b x:=#[h.goal,λZ l k a g=>by
 have l:Lfp false m (a' C) (λk=>[(vY (c k)).map (·.1)]) Z:=l.ld λk a=>%[e k a|_]
 have d:=Sh (h.lf.jn_ λk a A=>P2 (c k) A) l a;rw[<- d,e k a];cases s:S k with
 |true=>rw[ZY rfl];exact h.mean k a g s
 |false=>rw[ZZ vw];exact h.no k a s]
def Ro{mk:Nat->Bool}{g:Nat->wp}{c:Nat->xN}{x y:Nat->Rat}(B:gx true m mk g y)(l:K2 m g c)(E:∀k,k<m->∀o∈g k,WyO m o)(h:gW m mk c S x)(z:∀F,Lfp true m mk (c6 mk g) F->∀k,k<m->F k=false->y k=0)(A:∀k,k<m->mk k=true->y k=1):∀k,k<m->y k<=x k:=λk i=>by
 have hw:∀k,k<m->∀o,c k\o->WyO m o:=λk i o e=>E k i o (l.mem k i o e);let⟨F,f⟩:=FX true m mk (c6 mk g);have sub:∀k,k<m->F k=true->S k=true:=f.least S h.lf.base λk i j=>by
  let⟨_,C,G⟩:=adY j;let⟨o,q⟩:=l.non k i C;let⟨v,D,s⟩:=G o (l.mem k i o q);exact h.lf.step k i %[q|Ku D s]
 have:=mp h.lf hw (d:=λk=>y k-x k) (λk i a s=>by
  rw[Jf,<- h.mean k i a s];cases t:c k with
  |none =>
   have:=h.mean k i a s;obtain⟨o,q,_⟩ : ∃o,c k\o/\True:=by
    refine Classical.byContradiction λn=>?_;have lt:=h.lf.least (λj=>if j=k then false else S j) (λj u w=>by
     by_cases e:j=k
     .rw[e,a]at w;cases w
     .rw[ZZ e];exact h.lf.base j u w) (λj u p=>by
     by_cases e:j=k
     .rw[e]at p;rw[t]at p;cases p
     .rw[ZZ e];exact h.lf.step j u (KN (λ_ _ r _ s=>by
       by_cases e:r=k
       .rw[ZY e]at s;cases s
       .rw[ZZ e]at s;exact s) p)) k i s
    rw[ZY rfl]at lt;cases lt
   rw[q]at t;cases t
  |some o =>
   have b:=B.ok k i a o (l.mem k i o t);have b:y k<=dw o.ways y:=Rat.not_lt.mp b;show y k-x k<=dw o.ways y-x k
   grind) (λk i a=>by rw[h.goal k i a,A k i a];grind) (λk i s=>by
  rw[h.no k i s,z F f k i (by
   cases e:F k with
   |false=>rfl
   |true=>rw[sub k i e]at s;cases s)]
  grind) k i
 grind
def pu(a:xp)(k:Nat):(cr a).getD k []=(a.getD k []).map λd=>h_ d.prs:=by
 unfold cr;rw[au,au,aq];cases a[k]?<;>rfl
def Xx{a:xp}{g:xj}(h:JC a g)(f:PlT g v)(i:k<g.length):Dv (cr a) v k=vY (cG g v k):=by
 have b:=aj i;let⟨d,e,Y⟩:=f.room b;rw[uw e b];unfold Dv;rw[show v.getD k none=d by rw[au,e];rfl];cases d with
 |none=>rfl
 |some j =>
  let⟨t,c⟩:=KR h k j;show((cr a).getD k []).getD j []=vY (g[k][j]?);rw[show g.getD k []=g[k]by rw[au,b];rfl]at c;rw[c,pu,au,aq];cases(a.getD k [])[j]?<;>rfl
def Ki{b:xp}{g:xj}(c:JC b g){l:we}{os:wp}(e:b[k]?\l)(d:g[k]?\os):os.length=l.length:=by
 let⟨f,a,rfl⟩:=c.at_ k l os e d;rw[ak,VZ,a,VQ]
def _I{f:xp}{g:xj}(a:JC f g)(b:PlT g v):ia f v:=#[b.len.trans a.len,λk d l h e=>by
 have c:=aj (show k<g.length by rw[a.len];exact(ao.mp e).1);have:=b.ok k d _ h c;rwa[Ki a e c]at this]
def qx{b:xp}{g:xj}(a:JC b g)(c:ia b v):PlT g v:=#[c.len.trans a.len.symm,λk d os h e=>by
 have f:=aj (show k<b.length by rw[<- a.len];exact(ao.mp e).1);rw[Ki a f e];exact c.ok k d _ h f]
def GT{f:Nat}{a:xp}(hd:DSk m f a)(g:m<=100)(b:ia a v):i' (cr a) v:=by
 have lw:(cr a).length=a.length:=by unfold cr;rw[ak]
 refine#[%[lw,hd.len|g],b.len.trans lw.symm,λk d c=>?_];have h:k<a.length:=%[<- b.len|(ao.mp c).1]
 have e:=aj h;have:=b.ok k _ _ c e;rw[pu,ak,au,e];exact of_decide_eq_true this
def Fa{g:Nat}{b:xp}(hd:DSk m g b):∀l∈cr b,∀w∈l,Tq (cr b).length w:=λl t w h=>by
 let⟨s,n,rfl⟩:=YV.mp t;let⟨d,k,rfl⟩:=YV.mp h;have lw:(cr b).length=m:=by unfold cr;rw[ak,hd.len]
 have c:=hd.ok s n d k;let⟨q,e,u,i⟩:=c.all;have j:=GR e i;have r:=j.few;have o:=c.few;refine#[by exact aL r o,λp a=>%[lw|j.lt p a],λp a=>?_];have dl:=UY e (j.dn p a);have f:=mY j.nn a;rw[j.sum,CJ,c.one]at f;have v:=j.nn p a;have:p.2.num.natAbs<=1*p.2.den:=HX (A:=1) (by show p.2<=((1:Nat):Rat);rw[show((1:Nat):Rat)=1 from rfl];exact f) (by show -((1:Nat):Rat)<=p.2;rw[show((1:Nat):Rat)=1 from rfl];grind);lia
def Nk:EqD aa frD:=#[λ_=>rfl,λ_=>rfl,λ_=>UT rfl,λx y=>by
 unfold frD;rw[pM,<- decide_and];exact decide_eq_decide.mpr #[λz=>Rat.ext z.1 (by have:=z.2;lia),λz=>%[z|#[rfl,rfl]]]]
def ai7{f:Type}{R:Q->L2.T->Prop}{g:f->L2.T}{c:Q->f->Prop}(p:∀a t,R a t->∃b,t=g b/\c a b){l:List Q}{i:List L2.T}(h:ke R l i):∃d:List f,i=d.map g/\d.length=l.length/\∀(j:Nat)a b,l[j]?\a->d[j]?\b->c a b:=by
 induction h with
 |nil=>exact#[[],rfl,rfl,λj a b e=>by cases e]
 |cons r _ o =>
  let⟨d,e,l,q⟩:=o;let⟨b,rfl,n⟩:=p _ _ r;refine#[b::d,by rw[e];rfl,%[length_cons,length_cons,l|_],λj a s m k=>?_];cases j with
  |zero=>cases m;cases k;exact n
  |succ j=>exact q j a s ↑m ↑k
def mi{a:xp}(h:PlD a v):ia a v:=#[h.len,h.ok]
structure ll(m:Nat)(ac:xp)(U:Φ)(g:xj):Prop where
 m8:m<=8
 hd:DSk m 3 ac
 ho:JC ac g
 ln:U.length=m
 z:HlZ U g
def Zh(a:xp)(k:Nat):(e_ a).getD k []=(a.getD k []).map λd=>(h_ d.prs).map (·.1):=by
 unfold e_;rw[au,au,aq];cases a[k]?<;>rfl
def acu{q:xp}{g:xj}(d:ll m q U g){b:el}(G:ij true U g C b){L:xf}(h:nT U.length C (λk=>(e_ q).getD k []) L)(A:k<U.length)(y:mkG L k):xG b.2 k=0:=by
 let⟨S,s⟩:=FX true U.length (a' C) (c6 (a' C) (uc g));refine G.no rfl S s k A ?_;cases z:S k with
 |false=>rfl
 |true =>
  have:=s.least (eH L) (λj u f=>by unfold eH;rw[h.base j u f];rfl) (λj u t=>?_) k A z
  .unfold eH at this;rw[y]at this;cases this
  .unfold eH;cases c:mkG L j with
   |false=>rfl
   |true =>
    exfalso;let⟨w,B⟩:=Gx.mp t;have p:=h.clo j u c;have p:mQ ((e_ q).getD j []) (mkG L):=p;rw[Zh]at p;have D:a' C j=false:=by
     cases f:a' C j with
     |false=>rfl
     |true=>rw[h.base j u f]at c;cases c
    have J:c6 (a' C) (uc g) j=(uc g j).map λo=>o.ways.map (·.1):=by unfold c6;rw[D];rfl
    rw[J]at w B;rcases Bool.or_eq_true_iff.mp p with p|p
    .have K:(q.getD j []).length=0:=by have:=of_decide_eq_true p;rwa[ak]at this
     let⟨o,H⟩:=List.exists_mem_of_length_pos (show 0<(uc g j).length by rwa[ak]at w);let⟨i,v⟩:=aV H;let⟨t,l⟩:=KR d.ho j i;rw[aM (show(q.getD j []).length<=i by lia)]at l;rw[show(g.getD j [])[i]?\o from v]at l;cases l
    .let⟨e,I,a⟩:=List.any_eq_true.mp p;let⟨x,E,rfl⟩:=YV.mp I;let⟨i,v⟩:=aV E;let⟨t,l⟩:=KR d.ho j i;rw[v]at l;let⟨r,F,n⟩:=B _ (YV.mpr #[_,aC l,rfl]);have:=List.all_eq_true.mp a r F;unfold eH at n;rw[this]at n;cases n
def pj{f:xp}{g:xj}(d:ll m f U g){p:el}(b:ij true U g C p):DJ m 3 f (cr f) C p:=by
 have lw:(cr f).length=U.length:=by unfold cr;rw[ak,d.hd.len,d.ln]
 have u:=d.z.h.len;have l:=d.m8;have i:=_I d.ho b.pl;let⟨S,c⟩:=b.ch;refine#[i,b.xs.len.trans lw.symm,b.xs.fn,GT d.hd (aL l vw) i,Fa d.hd,?_,%[lw,d.hd.len,d.ln|_],d.hd,by exact aL l vw,by decide,λk e a w n=>?_,λL q k e y=>?_]
 .rw[lw];exact HZ c λk e=>Xx d.ho b.pl vy
 .rw[lw]at e;rw[pu]at n;let⟨x,r,rfl⟩:=YV.mp n;let⟨j,s⟩:=aV r;let⟨t,o⟩:=KR d.ho k j;rw[s]at o;exact Rat.not_lt.mp (b.best.ok k e a _ (aC o))
 .rw[lw]at q e;exact acu d b q e y
structure m2(X:Cx)(p:Stmt)(r:RS):Prop where
 out:QS X p r
structure lq(X:Cx)(ss:wq)(r:RS):Prop where
 out:eh X ss r
def kE{p:Stmt}{r:RS}(h:QS X p r):m2 X p r:=#[h]
def ae0{p:Stmt}{a:RS}(h:m2 X p a):lq X [p] a:=#[bI h.out]
def eV{p:Stmt}{c:wq}{a b:RS}(e:m2 X p a)(d:lq X c b):lq X (p::c) (jY a b):=#[bG e.out d.out]
def aic{e:Expr}{b:RE}{a:Pos}(i:Nat){j:Pos}(h:X.N.Nodup)(c:fc X.env.scope x)(g:eJ X e b)(d:‹X.N[i]?\x›)(I:‹swapsWith e (some (.Name x j)) a.line X.env=pure false›)(f:zd X x:=by first|exact .inl rfl|exact .inr rfl|assumption):m2 X (.Assign [.Name x j] e a) (pc i b):=#[bT (i:=i) (hN:=h) (hx:=c) (he:=g.out) (hi:=d) (hs:=I) (hf:=f)]
def S4{a b:Expr}{e d:RE}{c:Pos}(g:eJ X a e)(f:eJ X b d)(I:o_ b:=by exact λ_ _=>rfl):eJ X (.Subscript a b c) (fL oj e d):=#[bK g.out f.out I]
def GL{g:xj}(h:HlZ ns g)(f:PlT g v):K2 ns.length (uc g) (cG g v):=by
 have p:=h.h.len;refine#[λk i o e=>?_,λk i a=>?_]
 .let⟨l,b,n⟩:=Ig e;show o∈g.getD k [];rwa[au,b]
 .have b:=aj (show k<g.length by lia);let⟨d,m,Y⟩:=f.room b;have a:g[k]≠[]:=by
   have a:g.getD k []≠[]:=a;rw[au,b]at a;exact a
  let⟨j,rfl,c⟩:=Ag Y λz=>a (List.length_eq_zero_iff.mp z);exact#[g[k][j],%[uw m b|aj c]]
def Xp{K:Frag}{F:Hp}{x:V}{b:Int}(h:Rep K F x (.tup [.int a,.int b])):∃q,x=.ref q/\SqT K F q [.int a,.int b]:=by
 let⟨q,E,rfl,s,r⟩:=h.tupI;refine#[q,rfl,?_];cases r with
 |cons a r=>cases r with
  |cons b r =>
   cases r;cases a;cases b;exact s
def _b(c:Int):∃s:Rat,K0 s/\c3 [L2.T.tup [.int 1,.int 2],.tup [.int 0,.int 1],.tup [.int 2,.int 3],.tup [.int 99,.int 100]] (c%4)=some (aa s):=by
 rcases(show c%4=0\/c%4=1\/c%4=2\/c%4=3 by lia)with z|z|z|z<;>rw[z]
 .exact#[mkRat 1 2,#[by decide,by decide,by decide],rfl]
 .exact#[0,#[by decide,by decide,by decide],rfl]
 .exact#[mkRat 2 3,#[by decide,by decide,by decide],rfl]
 .exact#[mkRat 99 100,#[by decide,by decide,by decide],rfl]
def Ly{Q:Type}[DecidableEq Q]{h:Q->L2.T}{g:Q->PyData}(a:EqD h g)(E:List Q):PyData.eqv (.list (E.map g)) (.list (E.map g)):=by
 unfold PyData.eqv;rw[Ni a.eqv,Zs rfl]
abbrev r2(E:xt):L2.T:=.lst (E.map aa)
abbrev jv(p:zI):L2.T:=.lst (p.map dT)
def jS(D:ba)(ns:xi)(s:Rat)(b:xp)(U:Φ)(g:xj)(a g1:xy)(G:List zI)(c d v i j h e f:OT):xo:=[.fz (im ns),.fz (DW b),.fz (fe (cr b)),.fz (aa s),.fz (b7 D s U g),.fz (.lst [az a,az g1]),.fz (.lst (G.map jv)),.fz (.lst [az a,az g1]),c,d,v,i,j,h,e,f]
structure P1(m:Nat)(ac:xp)(U:Φ)(g:xj)(g0 g1:xy)(G:List zI):Prop where
 d:ll m ac U g
 l0:g0.length<=9
 hg0:iS U g0
 hg1:iS U g1
 lp:G.length<=64
 hp:∀p∈G,PlD ac p
def Su{a:xp}{g:xj}(d:ll m a U g)(e:PlD a v)(b:XsB U.length E)(i:∃S,gW U.length (a' C) (cG g v) S (xG E)):E.length=(cr a).length/\(∀x∈E,FnB (10^39) x)/\i' (cr a) v/\(∀l∈cr a,∀w∈l,Tq (cr a).length w)/\kP (cr a).length C (Dv (cr a) v) (xG E):=by
 have lw:(cr a).length=U.length:=by unfold cr;rw[ak,d.hd.len,d.ln]
 let⟨S,c⟩:=i;have f:=d.m8;refine#[b.len.trans lw.symm,b.fn,GT d.hd (aL f vw) (mi e),Fa d.hd,?_];rw[lw];exact HZ c λk j=>Xx d.ho (qx d.ho (mi e)) (by have:=d.z.h.len;lia)
def B4{g:xj}(z:HlZ U g):∀k,k<U.length->∀o∈uc g k,WyO U.length o:=λk d o a=>by
 have c:=z.h.len;have b:=aj (show k<g.length by lia);have a:o∈g.getD k []:=a;rw[au,b]at a;exact(z.z _ (aU _) o a).wy
def Q0(h:k<E.length):E[k]?\(xG E k):=by
 show _\(E.getD k 0);rw[au,aj h];rfl
def ZI(a g1:xy):∃b:PyData,L2.T.lst [az a,az g1]=dc b/\PyData.eqv b b/\SeqAt.shaped b:=by
 refine#[.list [.list (a.map cS),.list (g1.map cS)],?_,?_,?_]
 .show _=L2.T.lst [.lst (Tt (a.map cS)),.lst (Tt (g1.map cS))];rw[<- kZ ig.of,<- kZ ig.of]
 .have d:=Ly ig a;have c:=Ly ig g1;show PyData.eqv (.list _) (.list _)=true;unfold PyData.eqv PyData.eqvAll PyData.eqvAll PyData.eqvAll;rw[d,c];rfl
 .have l:∀{Q:Type}{g:Q->PyData}(E:List Q),(∀x,PyData.canLay0 (g x))->PyData.canLay0 (.list (E.map g))=true:=λE h=>by unfold PyData.canLay0;exact jC h E
  have p:∀{Q:Type}{g:Q->PyData}(E:List Q),(∀x,PyData.depth (g x)<=60)->PyData.depth (.list (E.map g))<=61:=λE h=>by unfold PyData.depth;have:=mF h E;exact succ_le_succ this
  have f:=l a ig.lay;have e:=l g1 ig.lay;have j:=p a ig.dep;have i:=p g1 ig.dep;have d:PyData.canLay0 (.list [.list (a.map cS),.list (g1.map cS)]):=by
   unfold PyData.canLay0 PyData.canLayAll0 PyData.canLayAll0 PyData.canLayAll0;rw[f,e];rfl
  have c:PyData.depth (.list [.list (a.map cS),.list (g1.map cS)])<=64:=by
   unfold PyData.depth PyData.depthAll PyData.depthAll PyData.depthAll;lia
  unfold SeqAt.shaped;rw[d,Zs c];rfl
def HM:ST:=λa q=>∃ns:xi,a=[im ns]/\ns.length<=63/\q (.fz (.bl true))
def _O(T:Tx D)(F:Fu YW QC f Y):FT 14 f Y R6 HM:=by
 refine F.okU Ir λai A outer s H B hr nd=>?_;refine#[_,(lq.out (eV (kE (bT 1 (bJ (agi T) (bA vt (bA bF (bA (bJ (ahm T) (bA (bJ (hB T) (bA vt (bA bF bC))) bC)) (bA bF bC)))))))
  (eV (kE (bT 2 (bJ (Xq T) (bA vn bC))))
  (eV (aic 3 Ir.nd (Or.inl rfl) (S4 (Tz (dG (qL (dG lO (dG lO lQ))) (dG (qL (dG lO (dG lO lQ))) (dG (qL (dG lO (dG lO lQ))) (dG (qL (dG lO (dG lO lQ))) lQ))))) (ZP cM (ZP mq (DQ (bJ (hB T) (bA vt (bA bF bC)))) lO) lO)))
  (eV (kE (bT 4 (bJ (aiW T) (bA (bJ (hB T) (bA vt (bA bF bC))) (bA vi (bA vn bC))))))
  (eV (kE (bT 5 (dg (bA (bJ (Ha T) (bA (bJ (hB T) (bA vt (bA bF bC))) (bA (bQ cH T.dz WJ (bA vn bC)) bC))) (bA (bJ (Ha T) (bA (bJ (hB T) (bA vt (bA bF bC))) (bA (bQ cH T.dz WJ (bA vn bC)) bC))) bC)))))
  (eV (kE (oA (bH QC) me me ["_law_cell_here"] (bZ (bM dB (dg (bA (bJ (hB T) (bA vt (bA bF bC))) bC)) (i_ vt (fZ bF) (fZ bF)))) (dH (i:=0)) cj (bJ (ac7 T) (bA vt (bA ve bC))) (gU (i:=6) Ir.nd rfl (Or.inl rfl))))
  (eV (kE (oA (bH QC) me ["_law_script","_law_rooms","_law_ways_here","_law_share","_law_hall_here","_law_goals_here","_law_plans","_law_handed","?_law_some","_law_others","_law_plan_here","_law_kept","_law_again","_law_mine","_law_one","_law_other"] ["_law_some"] (bZ vS) (dH (i:=0)) cj (qW FZ T.wV boot_list (bA vt bC)) (gU (i:=7) Ir.nd rfl (Or.inl rfl))))
  (eV (kE (gA 8 (bJ (Gw T) (bA vF (bA (bK (qv 7) bF) bC)))))
  (eV (kE (bT 9 (bJ (Gw T) (bA vF (bA (bK (qv 7) bF) bC)))))
  (eV (kE (cB (QW.qt (iJ (dJ (Ih 8 (cJ (bJ (pX T) (bA (qv 8) (bA vn (bA ve (bA (bK vS bF) bC)))))))) (gD (dJ (cJ (bJ (pX T) (bA (qv 9) (bA vn (bA ve (bA (bK vS bF) bC))))))))))
  (bI (bR fH))
  bV))
  (eV (kE (cY (bZ (qv 6)) (bW (n:=99) 10)
  (bG (bT 13 (bJ (Qz T) (bA vF (bA (qW FZ T.wV boot_list (bA (bK vS bF) bC)) (bA (qW FZ T.wV boot_list (bA (qv 10) bC)) bC)))))
  (bG (cB (dJ (cJ (bJ (Kk T) (bA (qv 13) (bA ve (bA (bK vS bF) (bA (qv 10) bC)))))))
  (bI (bR fH))
  bV)
  (bI (yq (FO PassesOwn.never rfl (GA (by rfl) T.OD (cD (pv 13) (cD (uo Ei (pv 8) uG (λ_ _=>rfl)) iM)).mono) (ag0 (n:=2) rfl (N8 (gU (i:=14) Ir.nd rfl (Or.inl rfl)) (N8 (gU (i:=15) Ir.nd rfl (Or.inl rfl)) I')))
     (pC (EJ (Kr Fs (p0 Tj (uo Ei (pv 14) uG (λ_ _=>rfl)) (uo Ei (pv 15) uG (λ_ _=>rfl))) (p0 Tj (uo Ei (pv 15) uG (λ_ _=>rfl)) (uo Ei (pv 14) uG (λ_ _=>rfl))) (MJ _))
      (pC (z8 E3))
      IU)))))))))
  (eV (kE (bT 11 (XB 8 (by rfl) T.wV uG)))
  (eV (kE (IB false 8 uG bF))
  (eV (kE (IB true 8 uG (d7 (bA bF (bA bF bC)))))
  (eV (kE (cB (dJ (cJ (bJ (YS T) (bA vF (bA (bK vS bF) (bA (bJ (hB T) (bA vt (bA bF bC))) (bA (bQ cH T.dz WJ (bA vn bC)) bC)))))))
  (bI (bR fH))
  bV))
  (eV (kE (bT 12 (bJ (Gw T) (bA vF (bA (bK (qv 7) bF) bC)))))
  (ae0 (kE (bR (vp (bJ (pX T) (bA (qv 12) (bA vn (bA ve (bA (bK vS bF) bC))))) (vp (kh (z4 hr.units) (bK (qv 12) bF) (qv 11)) (Bt (kh (z4 hr.units) (qv 7) vS)))))))))))))))))))))))),?_]
 rintro _ R ⟨ns,rfl,Q,q⟩;refine sj (λo=>∃s m C U g J g1 G,P1 m C U g J g1 G/\o=jS D ns s C U g J g1 G .und .und .und .und .und .und .und .und) ?_ λw hY=>?_
 rotate_left
 .refine#[ns,0,rfl,by exact aL Q vw,_,rfl,λm W=>#[ns,5,m,3,rfl,by exact aL Q vw,by exact aL W vw,by decide,λC hd=>?_]];dsimp only;rw[ah5];let⟨s,I,es⟩:=_b (fdiv (ns.getD 1 0) 7);have ml:((C.map λl=>L2.T.lst (l.map bw)).length:Int)=(m:Nat):=%[ak,hd.len|_]
  have two:∀c:Int,[L2.T.int c,L2.T.int ((C.map λl=>L2.T.lst (l.map bw)).length:Int)]=[L2.T.int c,L2.T.int (m:Nat)]:=λc=>ZH (λz=>[L2.T.int c,L2.T.int z]) ml;refine#[m,3,C,rfl,hd,by exact aL W vw,by decide,ns,1,rfl,by exact aL Q vw,#[by decide,eX vw],by decide,_,es,ns,1,rfl,by exact aL Q vw,_,s,m,3,C,rfl,I,hd,by exact aL W vw,by decide,λU g hn hok ho=>#[ns,2,rfl,by exact aL Q vw,_,m,two _,by omega,λJ l0 h0=>#[ns,3,rfl,by exact aL Q vw,_,m,two _,by omega,λg1 l1 h1=>#[ns,4,rfl,by exact aL Q vw,?_]]]];have ec:L2.T.int (ns.getD 4 0)::fG (ns.map L2.T.int) (some 19) (some 22)=(ns.getD 4 0::fG ns (some 19) (some 22)).map L2.T.int:=by rw[pB];rfl
  have cl:(fG ns (some 19) (some 22)).length<=63:=by
   unfold fG;rw[aY,UR];lia
  show 1+(fG (ns.map L2.T.int) (some 19) (some 22)).length<=sizeLine/\_;refine#[%[pB,ak|aL (show _<=64 by lia) vw],?_];dsimp only[frz];show(L2.T.int (ns.getD 4 0)::fG (ns.map L2.T.int) (some 19) (some 22)).length<=sizeLine/\iG _ _ _ _ (L2.T.int (ns.getD 4 0)::fG (ns.map L2.T.int) (some 19) (some 22)) _;rw[ec];refine#[%[ak|aL (show _<=64 by rw[length_cons];exact succ_le_succ cl) vw],Yd L2.T.int (λ_ t=>∃p,t=jv p/\PlD C p) _ (λc hc N M hN=>#[_,C,rfl,%[hd.len|aL W vw],λp K=>hN _ #[p,rfl,K]]) λts al=>?_];let⟨G,rfl,h1',h2'⟩:=ai7 (λ_ _ h=>h) al;refine#[(show 2<=sizeLine by decide),comp_map az az [J,g1] (λr hg N M hN=>hN) ?_];refine hY _ #[s,m,C,U,g,J,g1,G,#[#[W,hd,ho,hn.len,Y' hn.len W hok hd ho],l0,λr hg=>%[hn.len|h0 r hg],λr hg=>%[hn.len|h1 r hg],%[h1',length_cons|succ_le_succ cl],λp K=>?_],rfl];let⟨j,ej⟩:=aV K;have lj:j<(ns.getD 4 0::fG ns (some 19) (some 22)).length:=%[<- h1'|(ao.mp ej).1]
  exact h2' j _ _ (aj lj) ej
 rintro _ ⟨s,m,C,U,g,J,g1,G,dr,rfl⟩;have d:=dr.d;have W:=d.m8;have ln:=d.ln;have dl:=d.hd.len;have lw:(cr C).length=U.length:=by unfold cr;rw[ak,dl,ln]
 refine so (λo=>∃(p P:el)(a b:OT),ij true U g J p/\o=jS D ns s C U g J g1 G (.pr (p.1.map dT) (p.2.map aa)) (.fz (eB P)) a .und .und b .und .und) ?_ λw hY=>?_
 rotate_left
 .refine#[_,rfl,s,U,g,J,rfl,d.z,dr.hg0,λp K=>#[_,rfl,s,U,g,g1,rfl,d.z,dr.hg1,λP eR=>?_]];refine#[_,rfl,m,3,p,C,cr C,J,rfl,pj d K,_,rfl,m,3,P,C,cr C,g1,rfl,pj d eR,?_];show vV _ _ _ (G.map jv) (jS D ns s C U g J g1 G (.pr (p.1.map dT) (p.2.map aa)) (.fz (eB P)) .und .und .und .und .und .und);refine eF jv G (λ_ o=>∃a b,o=jS D ns s C U g J g1 G (.pr (p.1.map dT) (p.2.map aa)) (.fz (eB P)) a .und .und b .und .und) #[_,_,rfl] ?_ λo hP=>by let⟨a,b,z⟩:=hP;exact hY o #[p,P,a,b,K,z]
  rintro as v bs _ e ⟨a,b,rfl⟩;have a8:=dr.hp v %[e|aP _ (aO ..)];refine#[_,rfl,s,U,g,J,v,rfl,d.z,dr.hg0,qx d.ho (mi a8),λE xb xc=>?_];let⟨a1,a2,a3,a4,a5⟩:=Su d a8 xb xc;refine#[_,rfl,E,cr C,J,v,rfl,a1,a2,a3,a4,a5,?_];have up:∀k,k<U.length->xG p.2 k<=xG E k:=by
   let⟨S,c⟩:=xc;let⟨Z,c'⟩:=K.ch;exact Ro K.best (GL d.z (qx d.ho (mi a8))) (B4 d.z) c (K.no rfl) c'.goal
  show rP _ _ _ (jS D ns s C U g J g1 G (.pr (p.1.map dT) (p.2.map aa)) (.fz (eB P)) (.fz (jv v)) .und .und (.fz (r2 E)) .und .und);intro own H1 σ Dn h L;let⟨u13,e13,r13⟩:=h.get (i:=13) (t:=r2 E) rfl;let⟨q0,c0,c1,vs,u,e8,o8,ne,tp,hc,hd1,rx,ry⟩:=h.pr (i:=8) (ts:=p.1.map dT) (us:=p.2.map aa) rfl;let⟨a13,zs,rfl,h13,rz⟩:=r13.lstI;have l16:σ.length=16:=h.len.symm;have zl:zs.length=U.length:=%[rz.len,ak,xb.len|_]
  have wl:u.length=U.length:=%[ry.len,ak,K.xs.len|_]
  refine ado #[_,e13,_,e8,q0,_,1,_,rfl,rfl,.inl (.of (cW tp).2),rfl,a13,c1,zs,u,rfl,(cW h13).2,hd1,%[zl,wl|_],λ_ O H'=>O.length=σ.length/\(∀i,i∉[14,15]->O[i]?=σ[i]?)/\zT H1 H',#[rfl,λ_ _=>rfl,.refl _],?_,?_]
  .rintro k x y O H' t ex ey ⟨sl,se,sm⟩ h9 di ht;have km:k<U.length:=%[<- zl|(ao.mp ex).1]
   let⟨x',sx,rxk⟩:=rz.at_ (i:=k) (t:=aa (xG E k)) (by rw[aq,Q0 (by rwa[xb.len])];rfl);let⟨y',mB,ryk⟩:=ry.at_ (i:=k) (t:=aa (xG p.2 k)) (by rw[aq,Q0 (by rwa[K.xs.len])];rfl);rw[ex]at sx;rw[ey]at mB;cases sx;cases mB;let⟨q1,rfl,s1⟩:=Xp rxk;let⟨q2,rfl,s2⟩:=Xp ryk;have S3:zT (L2.hd (Ow own) H1) (upd H' t (.tup [.ref q1,.ref q2])):=cI.trans (sm.trans (zT.upd ht));have s1:=S3.tup s1;have s2:=S3.tup s2;have g14:((O.set 14 (some (V.ref q1))).set 15 (some (.ref q2)))[14]?\(some (.ref q1)):=%[VV vw,Up vy|_]
   have g15:((O.set 14 (some (V.ref q1))).set 15 (some (.ref q2)))[15]?\(some (.ref q2)):=%[Up (by rw[WH];lia)|_]
   have fx:=xb.fn _ (aC (Q0 (E:=E) (k:=k) (by rwa[xb.len])));have fy:=K.xs.fn _ (aC (Q0 (E:=p.2) (k:=k) (by rwa[K.xs.len])));have bn:∀{z:Rat},FnB (10^39) z->Bd z.num:=λf=>vG (n:=39) f.n vw;have bd:∀{z:Rat},FnB (10^39) z->Bd ((z.den:Nat):Int):=λf=>vG (n:=39) %[XT|f.d] vw;refine#[t,_,rfl,cu,rfl,_,_,rfl,_,_,rfl,rfl,_,g14,q1,_,0,_,rfl,rfl,s1,rfl,_,g15,q2,_,1,_,rfl,rfl,s2,rfl,_,_,rfl,rfl,#[bn fx,bd fy],_,g15,q2,_,0,_,rfl,rfl,s2,rfl,_,g14,q1,_,1,_,rfl,rfl,s1,rfl,_,_,rfl,rfl,#[bn fy,bd fx],_,_,rfl,rfl,?_];have no:decide ((xG E k).num*(((xG p.2 k).den:Nat):Int)<(xG p.2 k).num*(((xG E k).den:Nat):Int))=false:=Zp λz=>Rat.not_lt.mpr (up k km) ((lt_iff _ _).mpr z);refine#[_,rfl,?_];show if decide ((xG E k).num*(((xG p.2 k).den:Nat):Int)<(xG p.2 k).num*(((xG E k).den:Nat):Int))=true then _ else _;rw[ZZ (by rw[no];decide)];refine#[(b_ (λz=>by rw[z,ht]at h9;cases h9)).trans h9,(b_ (λz=>by rw[z,ht]at di;cases di)).trans di,%[WH,WH,sl|_],λi hi=>?_,sm.trans (zT.upd ht)];rw[VV (λz=>hi (by rw[<- z];decide)),VV (λz=>hi (by rw[<- z];decide)),se i hi]
  .rintro O H' ⟨sl,se,sm⟩ _ _;have X:=h.same sm;refine L.nx own H' O _ #[_,_,rfl] (bU sm) #[X.len.trans sl.symm,λi x e=>?_,X.out,X.dis];by_cases c:i∈[14,15]
   .have:x=.und:=by
     rcases YU.mp c with rfl|c
     .exact(Option.some.inj e).symm
     .cases YR.mp c;exact(Option.some.inj e).symm
    subst this;exact X.sl i _ e
   .rw[se i c];exact X.sl i _ e
 rintro _ ⟨p,P,a,b,K,rfl⟩;have oS:∀{n:Nat},n<=8->n<sizeLine:=λh=>Y3 h vw;have l1:(p.1.map dT).length<=8:=by rw[ak,K.pl.len];have:=d.z.h.len;lia
 have l2:(p.2.map aa).length<=8:=%[ak,K.xs.len|aL (WG ln) W]
 have k1:(p.1.map dT++[L2.T.int 0]).length<sizeLine:=%[aA,length_singleton|Y3 (show _<=9 by exact succ_le_succ l1) vw]
 have ml:((C.map λl=>L2.T.lst (l.map bw)).length:Int)=(U.length:Nat):=%[ak,dl,ln|_]
 refine#[#[oS l1,oS l2],#[k1,oS l2],_,rfl,ns,18,rfl,by exact aL Q vw,s,U,g,J,ns.getD 18 0,ZH (λz=>[b7 D s U g,az J,L2.T.int (ns.getD 18 0),L2.T.int z]) ml,d.z.h,dr.hg0,dr.l0,?_];refine#[_,rfl,s,U,g,J,rfl,d.z,dr.hg0,λp2 k9=>#[_,rfl,m,3,p2,C,cr C,J,rfl,pj d k9,?_]];have same:p2.2=p.2:=by
  have up:∀{p P:el},ij true U g J p->ij true U g J P->∀k,k<U.length->xG p.2 k<=xG P.2 k:=λ{p P}h X=>by
   let⟨S,c⟩:=X.ch;let⟨Z,c'⟩:=h.ch;exact Ro h.best (GL d.z X.pl) (B4 d.z) c (h.no rfl) c'.goal
  refine Q3 λk=>?_;by_cases hk:k<U.length
  .rw[Q0 (by rwa[k9.xs.len]),Q0 (by rwa[K.xs.len]),Rat.le_antisymm (up k9 K k hk) (up K k9 k hk)]
  .rw[aM %[k9.xs.len|VU hk],aM %[K.xs.len|VU hk]]
 refine#[.list (p2.2.map frD),.list (p.2.map frD),ZH L2.T.lst (kZ Nk.of _),ZH L2.T.lst (kZ Nk.of _),Nk.lst _,Nk.lst _,?_];rw[same,Ly Nk p.2];let⟨dt,et,ed,sh⟩:=ZI J g1;refine#[dt,dt,et,et,sh,sh,?_];rwa[ed]
end
def _7{K:Frag}{b:Ζ}{H:Hp}{Q:VK}{E:XK}(h:lY K b H Q E):spT K HM b H Q E:=by
 let⟨a,ns,rfl,I,c,_,d⟩:=h;refine#[[im ns],λx=>x=.fz (.bl true),.cons (.scr I (Jd ns)) .nil,#[ns,rfl,c,rfl],?_];rintro f v _ rfl _ ⟨B,_,_,u,e,r⟩;cases e;cases r;exact d f
def law_fn{l:PySem.W.OpenLaw}{w:World}{K:Frag}{a:Str->Ω}(T0:∃D,Txt K a D)(base:Heap)(f:Addr)(Y:FuncData)(F:Fun K YW YW QC f Y) :
  fK l.prog w K a base bh 14 f Y R6 (lY K):=by
 let⟨D,T⟩:=T0
 letI:Bs:=#[l.prog,w,K,a,base]
 exact(_O T F).imp λ_ _ _ _ h=>_7 h
end K38
end
open PySem PySem.W PyProof.Rows L2
set_option maxRecDepth 100000 in
set_option maxHeartbeats 0 in
theorem PySem.Challenge.cw_chancehall_k38_whole_least_chances_holds : PySem.Challenge.rw_chancehall_k38_whole_least_chances.Holds := by
 w_on
 refine holds_law H38.wsd λa=>?_;refine holds_open (q:=H38.qv) (loose:=[]) (XP:=XL H38.qv []) (YP:=InK H38.KH) H38.left (InK.of H38.asK) InK.keeps H38.hX XL.keeps (by rfl) (by rfl) (by rfl) H38.hR (by rfl) a (by decide +kernel) ⟨rfl,rfl,rfl,rfl,rfl,by decide +kernel⟩ ?hw ?hc
 (case hw=>w_witness2)
 k_fill
 refine L2.ao9 (l:=PySem.Challenge.rw_chancehall_k38_whole_least_chances) (k:=14) (x := "_law_script") rfl rfl ⟨rfl,by decide,by decide⟩ (λw h Y=>(show(H38.KH w.params).In h from Y)) ?F
 case F =>
  intro w c e h g G d;refine⟨K38.QC,?_,λbase f b F=>K38.law_fn ?T base f b F⟩
  .exact ar
  case T =>
   refine⟨⟨31,99,497,518,537,556,573,658,135,136,480,487,515,534,553,570,615,622,643,655,96⟩,⟨gb,gb,gb,gb,gb,gb,gb,gb,gb,gb,by k_is,by k_is,L6,sr,sr,ip,g7,bE,bE,bE,bE,bE,bE,js,ip,g7,bE,bE,bE,bE,bE,bE,js,ip,g7,bE,bE,bE,bE,bE,bE,js,ip,g7,bE,bE,bE,bE,bE,bE,js,ip,g7,bE,bE,bE,bE,bE,bE,js,ip,g7,g7,g7,bE,bE,bE,bE,bE,bE,L9,L8,L',by k_is,by k_is,bE,L7,sA,fM,fM,fM,sA,fM,fM,fM,fM,fM,fM,fM,fM,ee,ee,ee,ee,ee,ee,ee,ee,ee,ee,ee,ee,ee,ee,ee,ee,ar,ar,ar,ar,ar,ar,ar,ar,ar,ar,ar,ar,ar,ar,ar,ar,ar,ar,ar,ar,ar,ar,ar,ar,ar,ar,ar,ar,ar,ar,ar,ar,ar,ar,ar,ar,ar,ar,ar,ar,ar,ar,ar,ar,ar,ar,ar,ar,ar,ar,ar,ar,ar,ar,ar,ar,ar,ar,ar,ar,ar,ar,ar,ar,ar,ar,ar,ar,ar,ar,ar,ar,ar,ar,ar,ar,ar,ar,ar,ar,ar,ar,ar,ar,ar,ar,ar,ar,ar,ar⟩⟩
#print axioms PySem.Challenge.cw_chancehall_k38_whole_least_chances_holds
