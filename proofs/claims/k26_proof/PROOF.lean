import PyProof.Rows.All
import Wide.All
import OpenK.AllK
import Wide.FinOn
import Lean
import PyProof.EqAt
import PyProof.EqKinds
import PyProof.TupleCall
import PyProof.EqLayable
import KE.KIntText
import PyProof.EnumMake
import PyProof.EnumStmt
import PyProof.EnumFor
import PyProof.Rows.EnumRows
import PyProof.ExcInit
import PyProof.ExcClass2
import PyProof.InstStoreFacts
import KE.KRevIter
import PySem.Challenge.RW_chancehall_k26_mendings
set_option compiler.extract_closed false
set_option tactic.hygienic false
set_option genSizeOf false
def aj := @List.getElem?_eq_getElem
def ak := @List.length_map
def ao := @List.getElem?_eq_some_iff
def aq := @List.getElem?_map
def au := @List.getD_eq_getElem?_getD
def aA := @List.length_append
def aC := @List.mem_of_getElem?
def aD := @List.getElem?_append_right
def aF := @List.getElem?_append_left
def aG := @Nat.le_refl
def aH := @PySem.Heap.get?_push_of_some
def aJ := @List.mem_cons_of_mem
def aK := @PySem.Heap.lt_size
def aL := @Nat.le_trans
def aM := @List.getElem?_eq_none
def aN := @List.length_replicate
def aO := @List.mem_cons_self
def aP := @List.mem_append_right
def aQ := @Nat.ne_of_lt
def aR := @Nat.lt_of_lt_of_le
def aU := @List.getElem_mem
def aV := @List.getElem?_of_mem
def aW := @PySem.Heap.get?_push_size
def aX := @List.size_toArray
def aY := @List.length_take
def aZ := @Nat.zero_le
def bf := @List.map_append
def bw := @Bool.false_ne_true
open PySem.W (Frag instObj methodObj hideAll hideAll_get of_hideAll lookIn plainGet hasDictIn findIn handedIn plainGet_of findObj_own isFn plainOver takerIn set_plain looks_clsIn makesIn typeIn emptyDict looks_findIn keepIn specialIn mroIn kitOne kia_one kitx_list kitx_tuple callWith_K methodCall_KW codeIn nsIn mg_of excIn isNs_of_in clsIn looks_mroIn readsIn findCls method_cls cls_value notCls nsOkIn)
section
open PySem PySem.Spec PyProof.Rows
abbrev Γ:=List (Int×Int)
abbrev Δ:=List (Addr×Obj)
abbrev Θ:=List Value
abbrev Φ:=List Str
abbrev Ψ:=List Addr
abbrev Ω:=Option Value
abbrev Ξ:=Option Addr
abbrev Β:=Int×Int
abbrev Ε:=Value->Shared->Prop
def Zs:=@decide_eq_true
def Zp:=@decide_eq_false
def ZZ:=@if_neg
def ZY:=@if_pos
def ZU:=@wpAny_bind
def ZT:=@wpAny_pure
def ZH:=@congrArg
def Z3:=@Int.emod_nonneg
def YY:=@Int.emod_lt_of_pos
def YV:=@List.mem_map
def YU:=@List.mem_cons
def YR:=@List.mem_singleton
def Y1:=@List.mem_append
def Y2:=@Nat.le_of_lt
def Y3:=@Nat.lt_of_le_of_lt
def Xs:=@Nat.le_succ
def XZ:=@Int.mul_pos
def XY:=@Int.le_of_lt
def XX:=@Nat.lt_of_le_of_ne
def XW:=@Bool.false_eq_true
def XV:=@List.mem_replicate
def XU:=@Rat.intCast_mul
def XT:=@Rat.mul_comm
def XG:=@Nat.pow_le_pow_right
def X0:=@Int.natAbs_natCast
def X1:=@List.getElem?_replicate
def X2:=@Nat.lt_succ_self
def X9:=@Nat.le_add_right
def Wp:=@Nat.lt_irrefl
def WZ:=@Int.natCast_nonneg
def WV:=@List.append_assoc
def WU:=@Nat.not_lt_zero
def WS:=@Nat.lt_add_right
def WP:=@Int.ne_of_gt
def WJ:=@PySem.boot_len
def WG:=@List.map_map
def WH:=@Nat.le_of_eq
def W1:=@List.length_range
def VZ:=@List.length_set
def VY:=@Nat.mul_le_mul
def VX:=@Nat.le_of_not_lt
def VW:=@Int.natAbs_mul
def VU:=@List.length_zip
def VT:=@List.getElem?_set_ne
def VS:=@Nat.pow_add
def VQ:=@List.not_mem_nil
def Up:=@Nat.le_of_lt_succ
def UZ:=@List.getElem?_set_self
def UY:=@Nat.ne_of_gt
def UX:=@Rat.le_refl
def UV:=@List.getElem?_range
def UU:=@List.getElem_map
def UT:=@List.of_mem_zip
def US:=@Nat.min_self
def UR:=@Nat.le_of_dvd
def UQ:=@Nat.one_pos
def UP:=@List.mem_append_left
def UK:=@Nat.lt_trans
def UH:=@Rat.divInt_eq_div
def U1:=@Nat.le_of_ble_eq_true
def U2:=@List.length_drop
def Tu:=@List.map_congr_left
def Ts:=@Rat.le_trans
def Tk:=@Int.natCast_mul
def Th:=@Nat.mul_le_mul_left
def TZ:=@Nat.succ_pos
def TW:=@Rat.mul_le_mul_of_nonneg_left
def TU:=@List.getLast?_eq_getElem?
def TR:=@Nat.not_lt_of_le
def TK:=@List.drop_eq_nil_of_le
def TH:=@List.ext_getElem?
def T2:=@List.length_zipWith
def JY:=@Int.one_mul
def JU:=@Rat.divInt_add_divInt
def JS:=@Rat.zero_divInt
def JP:=@List.ext_getElem
def JJ:=@Rat.le_of_lt
def Qr:=@Nat.one_dvd
def QY:=@Nat.mul_pos
def QU:=@Int.lt_of_not_ge
def QR:=@Bool.and_eq_true
def QQ:=@Nat.add_sub_cancel_left
def QP:=@Int.gcd_dvd_right
def Q1:=@Rat.divInt_eq_divInt_iff
def Q2:=@Rat.divInt_mul_divInt
def Q3:=@List.getElem_range
def jk:=@List.drop_eq_getElem_cons
def jl:=@Int.mul_ediv_cancel_left
def jn:=@Rat.mul_le_mul_of_nonneg_right
def jp:=@Nat.mul_le_mul_right
def js:=@Rat.divInt_nonneg
def lA:=@List.take_of_length_le
def lI:=@Int.fdiv_eq_ediv_of_nonneg
def lL:=@List.set_eq_of_length_le
def lM:=@Int.gcd_pos_of_ne_zero_right
def lN:=@Int.ediv_pos_of_pos_of_dvd
def lP:=@Nat.le_mul_of_pos_left
def lQ:=@Int.eq_ofNat_of_zero_le
end
set_option Elab.async false
set_option linter.all false
set_option maxRecDepth 100000
set_option maxHeartbeats 4000000
namespace L2.Once
noncomputable section
open PySem PySem.W
def z:Pos:=⟨0,0,0,0⟩
def tE:Obj:=⟨.type "tuple",none,.seq ⟨[]⟩ 0,⟨[]⟩⟩
def fE:Obj:=⟨.none,none,.fields ⟨[]⟩,⟨[]⟩⟩
def tN(t:Nat)(l:Φ):Obj:=⟨.type "tuple",none,.seq ⟨(l.zipIdx t).map λx=>.str x.1 x.2⟩ 0,⟨[]⟩⟩
def cO(n q:Str)(t:Nat)(l a f:Int)(r u:Nat):Obj:=⟨.type "code",none,.fields ⟨[.str n t,.str q (t+1),.str "/claim/cut.py" (t+2),.int l 0,.int a 0,.int 0 0,.int 0 0,.int f 0,.ref r,.bool true,.int 181 0,.ref (r+1),.none,.ref (r+2),.ref (r+3),.ref (r+4),.int u 0,.int l 0,.str "/claim/cut.py" (u+1)]⟩,⟨[]⟩⟩
def mM:Obj:={ cls:=.type "tuple",data:=.seq #[] }
def sW:Obj:={ cls:=.none,data:=.fields #[] }
def mI:Obj:={ cls:=.type "code",data:=.fields #[.str "<module>" 182,.str "<module>" 183,.str "/claim/cut.py" 184,.int 1 0,.int 0 0,.int 0 0,.int 0 0,.int 0 0,.ref 11,.bool false,.int 181 0,.ref 12,.none,.none,.none,.none,.int 185 0,.int 1 0,.str "/claim/cut.py" 186] }
def mE:Obj:={ cls:=.type "frame",slots:=#[some (.ref 13),some (.ref 3),some (.ref 3),none,some (.str "__main__" 164),none,some (.ref 0)] }
def cP(n q:Str)(t:Nat)(l a f:Int)(r u:Nat):Obj:=⟨.type "code",none,.fields ⟨[.str n t,.str q (t+1),.str "/claim/cut.py" (t+2),.int l 0,.int a 0,.int 0 0,.int 0 0,.int f 0,.ref r,.bool true,.int 181 0,.ref (r+1),.none,.none,.none,.ref (r+2),.int u 0,.int l 0,.str "/claim/cut.py" (u+1)]⟩,⟨[]⟩⟩
def dE(P:Params)(x:Str)(t:Nat)(v:Value):DictEntry:=⟨PyData.keyHash P x,.str x t,v⟩
abbrev lf(o:Obj):BT:=.node o .nil .nil
def tr(P:Params):BT:=.node (boot_o_0 P)
 (.node (boot_o_1 P) (.node (boot_o_3 P) (lf (boot_o_7 P)) (lf mM)) (.node (boot_o_5 P) (lf (boot_o_9 P)) (lf mI)))
 (.node (boot_o_2 P) (.node (boot_o_4 P) (lf (boot_o_8 P)) (lf sW)) (.node (boot_o_6 P) (lf (boot_o_10 P)) (lf mE)))
def S0(w:World)(os:OsState):Shared:=⟨boot_heap w.params,Array.mk [],boot_drawn,boot_toks,os⟩
def Sa(w:World)(os:OsState):Shared:=⟨⟨Array.mk [boot_o_0 w.params,boot_o_1 w.params,boot_o_2 w.params,boot_o_3 w.params,boot_o_4 w.params,boot_o_5 w.params,boot_o_6 w.params,boot_o_7 w.params,boot_o_8 w.params,boot_o_9 w.params,boot_o_10 w.params,mM,sW,mI,mE],{}⟩,Array.mk [],{},187,os⟩
def Sb(w:World)(os:OsState):SharedT:=⟨tr w.params,15,{},⟨[]⟩,{},187,os⟩
def env(p:Program):Env:={ scope:=p.main.scope,locals:=mainNs,globals:=mainNs,cells:=[],code:=.ref 13,frame:=some 14 }
def cE(p:Program):Code:=.body (behindTheImports p) (env p)
abbrev ej:Ω:=some (.ref 6)
abbrev B:List Frame:=[topFrame z]
def size(w:World):((boot_heap w.params).isNs mainGlobals&&(Array.mk [] : Array GenState).size==0,(boot_heap w.params).objs.size,(boot_heap w.params).nsMap mainGlobals "__annotations__")=(true,11,ej):=by
 rw[Fast.te8920871248978507458];kernel_rfl
def pA(p:Program)(w:World)(M:Nat)(S:SharedT)(l:List Stmt)(q:Pos)(G:Shared->Prop):Prop:=∃s,topRun treeTable p w 11 ej M S.abs (restOf l (env p) (cE p) q B)=some s/\G s
def pA.cut{p:Program}{w:World}{n M:Nat}{S f:SharedT}{e d:List Stmt}{q c:Pos}{G:Shared->Prop}(h:segRunT treeTable p w 11 ej 1 n S (piecesOf e (env p) (cE p) q B)=some (.next,f,cE p,c))(k:pA p w M f d c G):pA p w (n+M) S (e++d) q G :=
 let⟨s,a,b⟩:=k
 ⟨s,piece_app (segRun_of h) a,b⟩
def pA.cutAt{p:Program}{w:World}{n m M:Nat}{S b:SharedT}{l:List Stmt}{q a:Pos}{G:Shared->Prop}(h:segRunT treeTable p w 11 ej 1 n S (piecesOf (l.take m) (env p) (cE p) q B)=some (.next,b,cE p,a))(k:pA p w M b (l.drop m) a G):pA p w (n+M) S l q G:=by
 have:=pA.cut h k;rwa[List.take_append_drop]at this
def Good{b:Type}(p q:Program)(a:Φ)(f:Shared->Bool)(d:Shared->b)(e:World->b)(c:Bool)(w:World)(s:Shared):Prop :=
 (staticsOk (importedModules p.main.body) (boot_heap w.params) s.heap&&namesBound p s.heap&&gensDone s&&laidKept (boot_heap w.params) s.heap,openSeen q a (importedModules p.main.body) f c s,d s)=(true,openGood q a,e w)
def pA.last{p q:Program}{a:Φ}{o:Shared->Bool}{d:Type}{j:Shared->d}{m:World->d}{i:Bool}{w:World}{n k:Nat}{S:SharedT}{l:List Stmt}{h e:Pos}
 (b:(segRunT treeTable p w 11 ej 1 n S (piecesOf l (env p) (cE p) h B)).map (λr =>
    (r.1,r.2.2.1,r.2.2.2,(topRun treeTable p w 11 ej k r.2.1.abs ⟨doneF .next,cE p,e,B⟩).map λs =>
     (staticsOk (importedModules p.main.body) (boot_heap w.params) s.heap&&namesBound p s.heap&&gensDone s&&laidKept (boot_heap w.params) s.heap,openSeen q a (importedModules p.main.body) o i s,j s))) =
   some (.next,cE p,e,some (true,openGood q a,m w))):pA p w (n+k) S l h (Good p q a o j m i w):=by
 obtain⟨⟨f,A,c,z⟩,y,x⟩:=Option.map_eq_some_iff.mp b;obtain⟨rfl,rfl,rfl,v⟩ : f=.next/\c=cE p/\z=e/\_:=by simpa only[Prod.mk.injEq]using x
 obtain⟨s,u,t⟩:=Option.map_eq_some_iff.mp v;have g:=piece_app (rest:=[]) (segRun_of y) (piece_nil u);rw[List.append_nil]at g;exact⟨s,g,t⟩
def ac1{p q:Program}{c:Φ}{l:Shared->Bool}{g:Type}{j:Shared->g}{k:World->g}{N:Nat}{i:Bool}{a b M:Nat}
 (C:∀w:World,(fencedOpening treeTable p w N).map (λs=>(s.heap,s.gens,s.drawn,s.toks))=some (boot_heap w.params,Array.mk [],boot_drawn,boot_toks))
 (f:∀w:World,(λos=>topGo treeTable p w 11 ej a (S0 w os) (topStub p))=λos=>some (Sa w os,⟨denote treeTable (cE p),cE p,z,B⟩))
 (e:∀w:World,(λos=>segRun treeTable p w 11 ej 1 b (Sa w os) (blockOf (behindTheImports p) (env p) (cE p) z B))=λos=>some (.next,(Sb w os).abs,cE p,z))
 (D:∀(w:World)(os:OsState),pA p w M (Sb w os) (behindTheImports p) z (Good p q c l j k i w))
 (le:Nat.ble (a+(b+M)) N=true):LeftO p q c l j k N i:=λw=>by
 obtain⟨⟨h,E,d,A,os⟩,G,F⟩:=Option.map_eq_some_iff.mp (C w);obtain⟨rfl,rfl,rfl,rfl⟩ : h=boot_heap w.params/\E=Array.mk []/\d=boot_drawn/\A=boot_toks:=by simpa using F
 obtain⟨o,n,m⟩ : _/\_/\_:=by simpa only[Prod.mk.injEq]using size w
 obtain⟨s,u,r⟩:=D w os;obtain⟨y,x,v⟩ : _/\_/\_:=by simpa only[Good,Prod.mk.injEq]using r
 have q2:=go_top (congrFun (f w) os) (piece_block (congrFun (e w) os) u);have q3:=topRun_mono (N-(a+(b+M))) _ _ _ _ q2;rw[show a+(b+M)+(N-(a+(b+M)))=N by have:=U1 le;omega]at q3;have t:topFrom treeTable p w N ⟨boot_heap w.params,Array.mk [],boot_drawn,boot_toks,os⟩=some s:=by
  unfold topFrom;dsimp only;rw[o,n,m,show topRun treeTable p w 11 ej N ⟨boot_heap w.params,Array.mk [],boot_drawn,boot_toks,os⟩ (topStub p)=some s from q3];show(match staticsOk (importedModules p.main.body) (boot_heap w.params) s.heap&&namesBound p s.heap&&gensDone s&&laidKept (boot_heap w.params) s.heap with|true=>_|false=>_)=_;rw[y]
 unfold openEnds;rw[G];show(topFrom treeTable p w N _).map _=_;rw[t];exact ZH some (Prod.ext x v)
end
end L2.Once
namespace L2
open PySem
def jV(s:Stmt):Arguments:=match s with
 |.FunctionDef _ a _ _ _ _ _ _ _ _=>a
 |_=>{ posonlyargs:=[],args:=[],vararg:=none,kwonlyargs:=[],kw_defaults:=[],kwarg:=none,defaults:=[] }
def fP(s:Stmt):List Stmt:=match s with
 |.FunctionDef _ _ b _ _ _ _ _ _ _=>b
 |_=>[]
def bH(s:Stmt):Scope:=match s with
 |.FunctionDef _ _ _ _ _ _ a _ _ _=>a
 |_=>{ kind:=.function,names:=[],isGenerator:=false,isCoroutine:=false }
end L2
namespace K26
open PySem L2
def top(i:Nat):Stmt:=PySem.Challenge.pw_chancehall_k26_mendings.main.body.getD i (.Pass ⟨0,0,0,0⟩)
def gW(i j:Nat):Stmt:=match top i with|.ClassDef _ _ _ b _ _ _ _ _ _ _=>b.getD j (.Pass ⟨0,0,0,0⟩)|_=>.Pass ⟨0,0,0,0⟩
abbrev gQ:Φ:=["thing"]
abbrev Yw:Φ:=gQ
abbrev dB:Φ:=["one","other"]
abbrev QD:Φ:=dB.append ["left","right","rest"]
abbrev mU:Φ:=["top","bottom"]
abbrev Vy:Φ:=mU.append ["common"]
abbrev jJ:Φ:=["thing"]
abbrev CJ:Φ:=jJ.append ["top","bottom"]
abbrev Ay:Φ:=["one","other"]
abbrev Uf:Φ:=Ay
abbrev qG:Φ:=["one","other"]
abbrev ahA:Φ:=qG
abbrev uQ:Φ:=["one","other"]
abbrev _o:Φ:=uQ
abbrev FQ:Φ:=["one","other"]
abbrev Zu:Φ:=FQ
abbrev oJ:Φ:=["one","other"]
abbrev _6:Φ:=oJ
abbrev oF:Φ:=["fractions"]
abbrev HH:Φ:=oF.append ["bottom","one"]
abbrev yt:Φ:=["fractions"]
abbrev Te:Φ:=yt.append ["leveled"]
abbrev oR:Φ:=["fractions"]
abbrev Dd:Φ:=oR.append ["found","one"]
abbrev kY:Φ:=["hall"]
abbrev vL:Φ:=kY
abbrev vo:Φ:=["thing","many"]
abbrev YG:Φ:=vo
abbrev fJ:Φ:=["hall","plan"]
abbrev vU:Φ:=fJ.append ["room","thing"]
abbrev jr:Φ:=["offer","tops"]
abbrev j4:Φ:=jr.append ["leveled"]
abbrev jC:Φ:=["hall","offer","leveled"]
abbrev BW:Φ:=jC.append ["behind"]
abbrev pQ:Φ:=["tops","bottom"]
abbrev V8:Φ:=pQ.append ["common","top"]
abbrev mO:Φ:=["row","often"]
abbrev xV:Φ:=mO
abbrev oM:Φ:=["row","other","often"]
abbrev Du:Φ:=oM.append ["bottom","common","own","added","tops"]
abbrev mL:Φ:=["leveled","step"]
abbrev Ao:Φ:=mL.append ["row"]
abbrev jP:Φ:=["row","column"]
abbrev yw:Φ:=jP
abbrev i_:Φ:=["leveled"]
abbrev jG:Φ:=i_
abbrev kE:Φ:=["leveled","place","column"]
abbrev Dz:Φ:=kE.append ["row"]
abbrev uz:Φ:=["leveled","steps","step"]
abbrev Rx:Φ:=uz
abbrev mZ:Φ:=["leveled","steps","place","found","column"]
abbrev Il:Φ:=mZ.append ["first"]
abbrev iZ:Φ:=["leveled","steps","place","column"]
abbrev Ak:Φ:=iZ.append ["row","often"]
abbrev qy:Φ:=["rows","wide"]
abbrev HD:Φ:=qy.append ["leveled","steps","place","column","found"]
abbrev oV:Φ:=["rows"]
abbrev Z4:Φ:=oV
abbrev jE:Φ:=["rows","rights"]
abbrev tY:Φ:=jE
abbrev mF:Φ:=["end","wide"]
abbrev xR:Φ:=mF.append ["begins","row","columns"]
abbrev qJ:Φ:=["end","begins","wide"]
abbrev GR:Φ:=qJ.append ["row"]
abbrev mY:Φ:=["end","begins","wide"]
abbrev IK:Φ:=mY.append ["answer","row","column"]
abbrev jy:Φ:=["many"]
abbrev kW:Φ:=jy
abbrev jH:Φ:=["rows","rights"]
abbrev B_:Φ:=jH.append ["wide","end","begins"]
abbrev jd:Φ:=["hall","plan"]
abbrev qg:Φ:=jd
abbrev lV:Φ:=["share","chosen"]
abbrev Iv:Φ:=lV.append ["rows","room","offer","behind","chance"]
abbrev jT:Φ:=["hall","plan"]
abbrev zB:Φ:=jT.append ["chosen","pays"]
abbrev jw:Φ:=["seen","door"]
abbrev tR:Φ:=jw.append ["most"]
abbrev pU:Φ:=["hall","plan","worths"]
abbrev Ld:Φ:=pU.append ["leveled","told","room","door","seen"]
abbrev iG:Φ:=["hall","plan"]
abbrev CG:Φ:=iG.append ["told","coming"]
abbrev qF:Φ:=["hall"]
abbrev ab8:Φ:=qF
abbrev lE:Φ:=["thing"]
abbrev Ii:Φ:=lE
abbrev jf:Φ:=["name","pay"]
abbrev wj:Φ:=jf
abbrev fD:Φ:=["room"]
abbrev Gp:Φ:=fD
abbrev gG:Φ:=["chance"]
abbrev Mx:Φ:=gG
abbrev jq:Φ:=["pairs"]
abbrev tD:Φ:=jq.append ["room","chance"]
abbrev jK:Φ:=["pairs"]
abbrev BX:Φ:=jK.append ["chances","room","chance"]
abbrev jA:Φ:=["share"]
abbrev O2:Φ:=jA
abbrev kh:Φ:=["rooms"]
abbrev vf:Φ:=kh.append ["numbers","room","name"]
abbrev iB:Φ:=["door","numbers"]
abbrev wU:Φ:=iB.append ["numbered","name","chance"]
abbrev mV:Φ:=["doors","numbers"]
abbrev Ja:Φ:=mV.append ["taken","told","door"]
abbrev sJ:Φ:=["_law_script","_law_k"]
abbrev Zm:Φ:=sJ
abbrev eV:Φ:=["_law_cell_here","_law_many"]
abbrev W8:Φ:=eV.append ["_law_found","_law_number","_law_digits","_law_k"]
abbrev ug:Φ:=["_law_one","_law_other"]
abbrev Fa:Φ:=ug.append ["_law_low","_law_high"]
abbrev nQ:Φ:=["_law_top","_law_bottom"]
abbrev XJ:Φ:=nQ.append ["_law_common"]
abbrev mK:Φ:=["_law_found"]
abbrev zR:Φ:=mK.append ["_law_number"]
abbrev kJ:Φ:=["_law_found","_law_many"]
abbrev uY:Φ:=kJ
abbrev Dw:Φ:=["_law_one","_law_other"]
abbrev TN:Φ:=Dw
abbrev zF:Φ:=["_law_cell_here","_law_many"]
abbrev v8:Φ:=zF.append ["_law_letters","_law_xs","_law_base","_law_at","_law_step_here"]
abbrev yR:Φ:=["_law_cell_here"]
abbrev Iy:Φ:=yR.append ["_law_xs","_law_bottom"]
abbrev Nv:Φ:=["_law_cell_here","_law_x","_law_y"]
abbrev EZ:Φ:=Nv
abbrev DP:Φ:=["_law_cell_here","_law_many"]
abbrev uZ:Φ:=DP.append ["_law_xs","_law_rooms_here","_law_sort","_law_pairs","_law_bottom","_law_part","_law_weights"]
abbrev zj:Φ:=["_law_script","_law_at","_law_many","_law_most"]
abbrev IX:Φ:=zj.append ["_law_rooms_here","_law_first","_law_cells","_law_k","_law_cell_here","_law_room","_law_door_here"]
abbrev z9:Φ:=["_law_title","_law_door_here","_law_names_here"]
abbrev Eb:Φ:=z9.append ["_law_told","_law_sort","_law_pay_here","_law_pairs"]
abbrev Gy:Φ:=["_law_cell_here","_law_share_here","_law_rooms_here"]
abbrev ZX:Φ:=Gy.append ["_law_names_here","_law_found","_law_k","_law_titles"]
abbrev pR:Φ:=["_law_cell_here","_law_rooms_here"]
abbrev Xo:Φ:=pR.append ["_law_xs","_law_found","_law_k"]
abbrev Aq:Φ:=["_law_share_here","_law_door_here","_law_worths"]
abbrev FV:Φ:=Aq.append ["_law_top","_law_bottom","_law_room","_law_chance","_law_part"]
abbrev zP:Φ:=["_law_one","_law_other"]
abbrev ag9:Φ:=zP
abbrev zy:Φ:=["_law_some","_law_own","_law_door_here"]
abbrev Er:Φ:=zy
abbrev GF:Φ:=["_law_share_here","_law_rooms_here","_law_plan","_law_worths","_law_found"]
abbrev YQ:Φ:=GF.append ["_law_k"]
abbrev uG:Φ:=["_law_found","_law_share_here","_law_rooms_here","_law_plan"]
abbrev Ic:Φ:=uG.append ["_law_k","_law_due"]
abbrev nH:Φ:=["_law_found","_law_due"]
abbrev Qd:Φ:=nH.append ["_law_k"]
abbrev Eo:Φ:=["_law_cell_here"]
abbrev Y7:Φ:=Eo.append ["_law_xs"]
abbrev oO:Φ:=["_law_cell_here","_law_many"]
abbrev M_:Φ:=oO.append ["_law_pay_here","_law_found","_law_k"]
abbrev xM:Φ:=["_law_script"]
abbrev Q8:Φ:=xM.append ["_law_xs"]
abbrev yW:Φ:=["_law_script","_law_rooms_here"]
abbrev RQ:Φ:=yW
abbrev Am:Φ:=["_law_found","_law_share_here","_law_rooms_here","_law_plan"]
abbrev agK:Φ:=Am.append ["_law_pair","_law_k","_law_last","_law_worths","_law_own","_law_later","_law_again"]
abbrev Kr:Φ:=["_law_cell_here","_law_many"]
abbrev Pe:Φ:=Kr
abbrev uD:Φ:=["_law_cell_here","_law_plan","_law_rooms_here"]
abbrev adR:Φ:=uD.append ["_law_xs","_law_at","_law_later","_law_found","_law_some"]
abbrev qU:Φ:=["_law_hall_here","_law_plan"]
abbrev Qo:Φ:=qU.append ["e"]
abbrev lW:Φ:=["_law_hall_here","_law_cell_here","_law_plan","_law_rooms_here"]
abbrev I9:Φ:=lW.append ["_law_at","_law_spoilt_here","_law_word","_law_room"]
abbrev Ft:Φ:=["_law_best_here","_law_share_here","_law_rooms_here","_law_last"]
abbrev FD:Φ:=Ft
abbrev qH:Φ:=["_law_found","_law_size_here"]
abbrev QK:Φ:=qH.append ["_law_own","_law_worths"]
abbrev Sx:Φ:=["_law_script"]
abbrev Ws:Φ:=Sx.append ["_law_share_here","_law_rooms_here","_law_hall_here","_law_plans","_law_handed","_law_held","_law_best_here","_law_cell_here","_law_plan","_law_last","_law_found"]
abbrev jR:Φ:=["self","name","pay"]
abbrev z8:Φ:=jR
abbrev lX:Φ:=["self"]
abbrev Xy:Φ:=lX
abbrev Ek:Φ:=["self","room"]
abbrev eF:Φ:=Ek
abbrev lZ:Φ:=["self","name","pay","room"]
abbrev xO:Φ:=lZ
abbrev gY:Φ:=["self","name","pay","pairs"]
abbrev wg:Φ:=gY
abbrev mC:Φ:=["self","name","pay","chance","room","other"]
abbrev Jc:Φ:=mC
abbrev m6:Φ:=["self","name","pay","rooms"]
abbrev yK:Φ:=m6
abbrev mj:Φ:=["self","share","rooms"]
abbrev zN:Φ:=mj
abbrev gR:Φ:=["self"]
abbrev Xz:Φ:=gR
abbrev Oq:Φ:=["self","name"]
abbrev Fb:Φ:=Oq
abbrev gC:Φ:=["self","room"]
abbrev Ej:Φ:=gC
abbrev Jw:Φ:=["self","room","name"]
abbrev yH:Φ:=Jw
abbrev eU:Φ:=["self","room"]
abbrev uq:Φ:=eU
abbrev jM:Φ:=["self","room"]
abbrev Py:Φ:=jM
end K26
namespace H26
open PySem PySem.W L2 L2.Once K26
abbrev p:Program:=PySem.Challenge.pw_chancehall_k26_mendings
noncomputable section
noncomputable def dR(P:Params)(x:Str)(t m:Nat):DictEntry:=dE P x t (.ref m)
noncomputable def wD(l:List DictEntry)(n:Nat):Obj:=⟨.type "dict",none,.dict ⟨l⟩ n,⟨[]⟩⟩
noncomputable def i3(a b:Nat)(c:Nat)(l:Θ):Θ:=.int a 0::.int b 0::.ref c::l
noncomputable def nd(o:Obj)(l r:BT):BT:=.node o l r
noncomputable def n1(o x:Obj):BT:=.node o (lf x) .nil
noncomputable def n2(o x y:Obj):BT:=.node o (lf x) (lf y)
def wA:Obj:=⟨.type "builtin_function_or_method",none,.fields ⟨[.builtin "type.__prepare__",.type "type"]⟩,⟨[]⟩⟩
def wB(n:Nat):Obj:=⟨.type "builtin_function_or_method",none,.fields ⟨[.builtin "object.__init_subclass__",.ref n]⟩,⟨[]⟩⟩
def wC(n:Str)(t l r u:Nat):Obj:=⟨.type "code",none,.fields ⟨[.str n t,.str n (t+1),.str "/claim/cut.py" (t+2),.int l 0,.int 0 0,.int 0 0,.int 0 0,.int 0 0,.ref r,.bool false,.int 181 0,.ref (r+1),.none,.none,.none,.none,.int u 0,.int l 0,.str "/claim/cut.py" (u+1)]⟩,⟨[]⟩⟩
def wF(c d:Nat)(n:Str)(t:Nat):Obj:=⟨.type "frame",none,.plain,⟨[some (.ref c),some (.ref 3),some (.ref d),none,some (.str n t),none,some (.ref 0)]⟩⟩
def wG(t n:Nat):Obj:=⟨.type "getset_descriptor",none,.fields ⟨[.str "__weakref__" t,.ref n,.builtin "ExceptionGroup.__weakref__",.none]⟩,⟨[]⟩⟩
def wK(n:Str)(b m:Θ)(d:Nat)(s:Θ)(o:Ω)(t u:Nat)(x:String):Obj:=⟨.type "type",none,.cls ⟨n,b,m,d,n,true,[],s,false,none,false⟩,⟨[o,none,some (.str n t),some (.str n u),some (.builtin x),some (.bool true)]⟩⟩
def wS(n:Nat):Obj:=⟨.type "super",none,.fields ⟨[.ref n,.ref n,.ref n]⟩,⟨[]⟩⟩
def wT(n:Nat):Obj:=⟨.type "tuple",none,.seq ⟨[.ref n]⟩ 0,⟨[]⟩⟩
def fO(n q:Str)(s:Stmt)(m:Value)(c:Nat):Obj:=⟨.type "function",none,.func (fnOf n q (jV s) (fP s) (bH s) .none .none .none m none (.ref c) .none),⟨[]⟩⟩
def fT(n q:Str)(s:Stmt):Obj:=⟨.none,none,.func { fnOf n q (jV s) (fP s) (bH s) .none .none .none .none none .none .none with globals:=0,builtins:=0 },⟨[]⟩⟩
def fV(n:Str)(k:Nat)(m:Value)(c:Nat):Obj:=fO n n (top k) m c
def fU(n:Str)(k:Nat):Obj:=fT n n (top k)
def cU(n:Str)(t:Nat)(l a f:Int)(r u:Nat):Obj:=cO n n t l a f r u
def cV(n:Str)(t:Nat)(l a f:Int)(r u:Nat):Obj:=cP n n t l a f r u
def dM(P:Params)(l:List (String×Nat×Nat)):List DictEntry:=l.map λx=>dR P (Str.ofString x.1) x.2.1 x.2.2
def dC(P:Params)(a:Nat)(m:Value)(n:Str)(l:Int)(r:List DictEntry):List DictEntry:=dE P "__module__" a m::dE P "__qualname__" (a+2) (.str n (a+1))::dE P "__firstlineno__" (a+4) (.int l (a+3))::r
def dF(P:Params)(a:Nat)(m:Value)(l:Int)(r:List DictEntry):List DictEntry:=dE P "__module__" a m::dE P "__firstlineno__" (a+4) (.int l (a+3))::r
def wX(n:Str)(c d o t u:Nat):Obj:=wK n [.ref 31] [.ref c,.ref 31,.type "ValueError",.type "Exception",.type "BaseException",.type "object"] d [] (some (.ref o)) t u "ValueError.__new__"
def LV:Value:=.str "__main__" 164
def dN:Value:=.str "chancehall.errors" 194
def ti:Value:=.str "chancehall.wholes" 328
def hG:Value:=.str "chancehall.ratios" 348
def mS:Value:=.str "chancehall.levels" 414
def i2:Value:=.str "chancehall.plans" 439
def fA:Value:=.str "chancehall.papers" 481
def hF:Value:=.str "chancehall.solving" 573
def mQ:Value:=.str "chancehall.worths" 633
def kf:Value:=.str "chancehall.mending" 660
def OG:Value:=.str "chancehall.words" 694
def rN:Value:=.str "chancehall.doors" 704
def Hj:Value:=.str "chancehall.halls" 891
def jz:Value:=.str "law_chancehall_k26_mendings" 1006
noncomputable def zM(P:Params)(l:List (String×Nat×Nat))(n:Nat):Obj:=wD (dE P "__name__" 165 jz::dE P "__doc__" 166 .none::dE P "__package__" 167 .none::dE P "__loader__" 168 (.builtin "__main__.__loader__#opaque")::dE P "__spec__" 169 .none::dR P "__annotations__" 170 6::dR P "__builtins__" 171 4::dE P "__file__" 173 (.str "/claim/cut.py" 172)::dE P "__cached__" 174 .none::dM P [("_wall",193,21),("HallError",213,31),("NoNumber",229,44),("NoName",245,56),("NoChance",261,68),("NoShare",277,80),("NoRoom",302,99),("NoPlan",327,118),("is_whole",336,127),("divisor",347,134),("NOUGHT",352,135),("ONE",355,136),("ratio",364,143),("is_ratio",373,150),("plus",381,157),("minus",389,164),("times",397,171),("over",405,178),("under",413,185),("level",421,190),("total",429,197),("greatest",438,204),("first_plan",446,209),("fits",454,216),("check_plan",464,223),("behind_door",470,228),("raised_look",480,235),("lowest",488,240),("row_times",494,245),("row_plus",500,250),("take_step",509,257),("number_at",517,264),("fractions_of",523,269),("first_from",533,276),("go_on",542,283),("begin_row",554,290),("clear_column",566,297),("reduced",572,302),("width_of",581,309),("with_rights",587,314),("begins_of",593,319),("odd_row",603,326),("answer_of",615,333),("single_rows",621,338),("only_answer",632,345),("chosen_doors",640,350),("left_rows",653,357),("worths_of",659,362),("better_door",670,369),("mended",676,374),("mendings",686,381),("best_of",693,388)]++dE P "LONGEST_WORD" 697 (.int 8 696)::dM P ([("is_word",703,393),("check_head",713,400),("check_room_name",720,407),("check_chance",727,414),("check_pairs",733,419),("joined_ways",739,424),("Door",786,455),("Sure",813,476),("Mixed",840,495),("Toss",868,514),("Even",890,531),("check_share",899,540),("numbers_of",909,547),("numbered_ways",920,554),("offers_of",931,561),("Hall",1005,616),("_law_cell",1015,627),("_law_stream",1027,634),("_law_gcd",1037,641),("_law_ratio",1046,648),("_law_is_ratio",1054,655),("_law_are_ratios",1060,660),("_law_same",1068,667),("_law_names",1074,672),("_law_share",1083,679),("_law_pay",1092,686),("_law_door",1098,691),("_law_doors",1104,696),("_law_built",1110,701),("_law_hall",1116,706),("_law_chosen",1127,713),("_law_look",1141,720),("_law_below",1149,727),("_law_taken",1155,732),("_law_step",1161,737),("_law_right",1173,744),("_law_is_plan",1182,751),("_law_size",1190,758),("_law_corridor",1201,765),("_law_rooms",1209,772),("_law_start",1215,777),("_law_chain",1232,784),("_law_odd",1240,791),("_law_spoilt",1254,798),("_law_refused",1263,805),("_law_plan_told",1277,812),("_law_best",1287,819)]++l)++[]) n
def NA(P:Params):Obj:=zM P [] 109
def sT:Obj:=fV "_wall" 0 LV 20
def sO:Obj:=⟨.type "tuple",none,.seq ⟨.type "ValueError"::[]⟩ 0,⟨[]⟩⟩
def LU(P:Params):Obj:=wD (dC P 203 dN "HallError" 5 <|dR P "__static_attributes__" 208 29::[]) 4
def sN(P:Params):Obj:=wD (dF P 203 dN 5 <|dR P "__static_attributes__" 208 29::dR P "__weakref__" 210 32::dE P "__doc__" 211 .none::[]) 3
def sM:Obj:=wK "HallError" [.type "ValueError"] [.ref 31,.type "ValueError",.type "Exception",.type "BaseException",.type "object"] 30 [.ref 44,.ref 56,.ref 68,.ref 80,.ref 99,.ref 118] (some (.ref 22)) 196 204 "ValueError.__new__"
def LS(P:Params):Obj:=wD (dC P 221 dN "NoNumber" 7 <|dR P "__static_attributes__" 226 42::[]) 4
def sF(P:Params):Obj:=wD (dF P 221 dN 7 <|dR P "__static_attributes__" 226 42::dE P "__doc__" 227 .none::[]) 2
def sB:Obj:=wX "NoNumber" 44 43 35 214 222
def LP(P:Params):Obj:=wD (dC P 237 dN "NoName" 9 <|dR P "__static_attributes__" 242 54::[]) 4
def sA(P:Params):Obj:=wD (dF P 237 dN 9 <|dR P "__static_attributes__" 242 54::dE P "__doc__" 243 .none::[]) 2
def sy:Obj:=wX "NoName" 56 55 47 230 238
def LO(P:Params):Obj:=wD (dC P 253 dN "NoChance" 11 <|dR P "__static_attributes__" 258 66::[]) 4
def ss(P:Params):Obj:=wD (dF P 253 dN 11 <|dR P "__static_attributes__" 258 66::dE P "__doc__" 259 .none::[]) 2
def so:Obj:=wX "NoChance" 68 67 59 246 254
def LN(P:Params):Obj:=wD (dC P 269 dN "NoShare" 13 <|dR P "__static_attributes__" 274 78::[]) 4
def sk(P:Params):Obj:=wD (dF P 269 dN 13 <|dR P "__static_attributes__" 274 78::dE P "__doc__" 275 .none::[]) 2
def sj:Obj:=wX "NoShare" 80 79 71 262 270
def LM(P:Params):Obj:=wD (dC P 285 dN "NoRoom" 15 <|dR P "__init__" 297 96::dR P "__static_attributes__" 299 97::[]) 5
def sf:Obj:=cO "__init__" "NoRoom.__init__" 290 17 2 3 90 295
def r_:Obj:=fO "__init__" "NoRoom.__init__" (gW 7 0) dN 95
def r9(P:Params):Obj:=wD (dF P 285 dN 15 <|dR P "__init__" 297 96::dR P "__static_attributes__" 299 97::dE P "__doc__" 300 .none::[]) 2
def r3:Obj:=wX "NoRoom" 99 98 83 278 286
def M3(P:Params):Obj:=wD (dC P 310 dN "NoPlan" 20 <|dR P "__init__" 322 115::dR P "__static_attributes__" 324 116::[]) 5
def va:Obj:=cO "__init__" "NoPlan.__init__" 315 22 2 3 109 320
def wt:Obj:=fO "__init__" "NoPlan.__init__" (gW 8 0) dN 114
def AI(P:Params):Obj:=wD (dF P 310 dN 20 <|dR P "__init__" 322 115::dR P "__static_attributes__" 324 116::dE P "__doc__" 325 .none::[]) 2
def B4:Obj:=wX "NoPlan" 118 117 102 303 311
def DU:Obj:=fV "is_whole" 10 ti 126
def y9:Obj:=tN 340 QD
def A9:Obj:=fV "divisor" 11 ti 133
def BB:Obj:=⟨.type "tuple",none,.seq ⟨.int 0 350::.int 1 351::[]⟩ 0,⟨[]⟩⟩
def zv:Obj:=⟨.type "tuple",none,.seq ⟨.int 1 353::.int 1 354::[]⟩ 0,⟨[]⟩⟩
def vj:Obj:=fV "ratio" 15 hG 142
def As:Obj:=fV "is_ratio" 16 hG 149
def DV:Obj:=fV "plus" 17 hG 156
def AO:Obj:=fV "minus" 18 hG 163
def AH:Obj:=fV "times" 19 hG 170
def AD:Obj:=fV "over" 20 hG 177
def uu:Obj:=fV "under" 21 hG 184
def yg:Obj:=fV "level" 23 mS 189
def C1:Obj:=fV "total" 24 mS 196
def Dj:Obj:=fV "greatest" 25 mS 203
def yS:Obj:=cV "first_plan" 441 82 1 3 205 444
def CU:Obj:=fV "first_plan" 27 i2 208
def C5:Obj:=fV "fits" 28 i2 215
def Cn:Obj:=cU "check_plan" 455 88 2 3 217 462
def yM:Obj:=fV "check_plan" 29 i2 222
def x5:Obj:=cV "behind_door" 465 95 2 3 224 468
def CQ:Obj:=fV "behind_door" 30 i2 227
def tS:Obj:=tN 474 BW
def vE:Obj:=cU "raised_look" 471 98 3 3 229 478
def BF:Obj:=fV "raised_look" 31 i2 234
def t3:Obj:=fV "lowest" 33 fA 239
def vi:Obj:=cV "row_times" 489 107 2 3 241 492
def BY:Obj:=fV "row_times" 34 fA 244
def A':Obj:=cV "row_plus" 495 109 3 3 246 498
def uk:Obj:=fV "row_plus" 35 fA 249
def zp:Obj:=cU "take_step" 501 116 2 3 251 507
def D1:Obj:=fV "take_step" 36 fA 256
def CF:Obj:=cU "number_at" 510 125 2 3 258 515
def DH:Obj:=fV "number_at" 37 fA 263
def AL:Obj:=cV "fractions_of" 518 127 1 3 265 521
def v5:Obj:=fV "fractions_of" 38 fA 268
def Dl:Obj:=tN 527 Dz
def Db:Obj:=cU "first_from" 524 129 3 3 270 531
def AG:Obj:=fV "first_from" 39 fA 275
def uS:Obj:=fV "go_on" 40 fA 282
def A5:Obj:=tN 546 Il
def AZ:Obj:=cU "begin_row" 543 137 5 3 284 552
def w8:Obj:=fV "begin_row" 41 fA 289
def AC:Obj:=tN 558 Ak
def vS:Obj:=cU "clear_column" 555 143 4 3 291 564
def BA:Obj:=fV "clear_column" 42 fA 296
def yV:Obj:=fV "reduced" 43 fA 301
def CL:Obj:=cU "width_of" 575 160 1 3 303 579
def y_:Obj:=fV "width_of" 45 hF 308
def u3:Obj:=cV "with_rights" 582 164 2 3 310 585
def vF:Obj:=fV "with_rights" 46 hF 313
def v2:Obj:=cV "begins_of" 588 166 2 3 315 591
def Cs:Obj:=fV "begins_of" 47 hF 318
def vl:Obj:=fV "odd_row" 48 hF 325
def ub:Obj:=tN 607 IK
def AU:Obj:=cU "answer_of" 604 178 3 3 327 613
def v':Obj:=fV "answer_of" 49 hF 332
def B5:Obj:=cV "single_rows" 616 183 1 3 334 619
def CO:Obj:=fV "single_rows" 50 hF 337
def wh:Obj:=tN 625 B_
def A4:Obj:=cU "only_answer" 622 185 2 3 339 630
def yk:Obj:=fV "only_answer" 51 hF 344
def DJ:Obj:=cV "chosen_doors" 635 193 2 3 346 638
def y7:Obj:=fV "chosen_doors" 53 mQ 349
def vT:Obj:=tN 644 Iv
def Ap:Obj:=cU "left_rows" 641 195 2 3 351 651
def uj:Obj:=fV "left_rows" 54 mQ 356
def A8:Obj:=cV "worths_of" 654 202 2 3 358 657
def Ck:Obj:=fV "worths_of" 55 mQ 361
def AW:Obj:=cU "better_door" 662 208 2 3 363 668
def Bc:Obj:=fV "better_door" 57 kf 368
def AE:Obj:=fV "mended" 58 kf 373
def CY:Obj:=cU "mendings" 677 221 2 3 375 684
def DM:Obj:=fV "mendings" 59 kf 380
def w_:Obj:=fV "best_of" 60 kf 387
def vv:Obj:=fV "is_word" 63 OG 392
def uN:Obj:=cU "check_head" 706 238 2 3 394 711
def yn:Obj:=fV "check_head" 65 rN 399
def Eg:Obj:=cU "check_room_name" 714 243 1 3 401 718
def BI:Obj:=fV "check_room_name" 66 rN 406
def AM:Obj:=cU "check_chance" 721 246 1 3 408 725
def CH:Obj:=fV "check_chance" 67 rN 413
def yA:Obj:=cV "check_pairs" 728 249 1 3 415 731
def yE:Obj:=fV "check_pairs" 68 rN 418
def xX:Obj:=cV "joined_ways" 734 255 1 3 420 737
def BC:Obj:=fV "joined_ways" 69 rN 423
def M8(P:Params):Obj:=wD (dC P 747 rN "Door" 260 <|dM P [("__init__",760,438),("ways",767,445),("chance_to",775,452),("__static_attributes__",779,453)]++[]) 7
def C3:Obj:=cO "__init__" "Door.__init__" 752 262 3 3 432 758
def Do:Obj:=fO "__init__" "Door.__init__" (gW 70 0) rN 437
def yy:Obj:=fO "ways" "Door.ways" (gW 70 1) rN 444
def D9:Obj:=cO "chance_to" "Door.chance_to" 768 271 2 3 446 773
def Ev:Obj:=fO "chance_to" "Door.chance_to" (gW 70 2) rN 451
def xQ(P:Params):Obj:=wD (dF P 747 rN 260 <|dM P [("__init__",760,438),("ways",767,445),("chance_to",775,452),("__static_attributes__",779,453),("__dict__",781,456),("__weakref__",783,457)]++dE P "__doc__" 784 .none::[]) 4
def yQ:Obj:=wK "Door" [.type "object"] [.ref 455,.type "object"] 454 [.ref 476,.ref 495] none 740 748 "object.__new__"
def Co:Obj:=⟨.type "getset_descriptor",none,.fields ⟨.str "__dict__" 780::.ref 455::.builtin "function.__dict__"::.builtin "function.__dict__#set"::[]⟩,⟨[]⟩⟩
def OK(P:Params):Obj:=wD (dC P 794 rN "Sure" 273 <|dR P "__init__" 808 473::dR P "__static_attributes__" 810 474::[]) 5
def AJ:Obj:=cO "__init__" "Sure.__init__" 799 275 4 3 467 806
def um:Obj:=fO "__init__" "Sure.__init__" (gW 71 0) rN 472
def tV(P:Params):Obj:=wD (dF P 794 rN 273 <|dR P "__init__" 808 473::dR P "__static_attributes__" 810 474::dE P "__doc__" 811 .none::[]) 2
def B3:Obj:=wK "Sure" [.ref 455] [.ref 476,.ref 455,.type "object"] 475 [] (some (.ref 460)) 787 795 "object.__new__"
def Mm(P:Params):Obj:=wD (dC P 821 rN "Mixed" 279 <|dR P "__init__" 835 492::dR P "__static_attributes__" 837 493::[]) 5
def CI:Obj:=cO "__init__" "Mixed.__init__" 826 281 4 3 486 833
def v3:Obj:=fO "__init__" "Mixed.__init__" (gW 72 0) rN 491
def D2(P:Params):Obj:=wD (dF P 821 rN 279 <|dR P "__init__" 835 492::dR P "__static_attributes__" 837 493::dE P "__doc__" 838 .none::[]) 2
def Da:Obj:=wK "Mixed" [.ref 455] [.ref 495,.ref 455,.type "object"] 494 [.ref 514,.ref 531] (some (.ref 479)) 814 822 "object.__new__"
def Mc(P:Params):Obj:=wD (dC P 848 rN "Toss" 285 <|dR P "__init__" 864 511::dR P "__static_attributes__" 865 512::[]) 5
def t8:Obj:=tN 856 Jc
def BH:Obj:=cO "__init__" "Toss.__init__" 853 287 6 3 505 862
def BO:Obj:=fO "__init__" "Toss.__init__" (gW 73 0) rN 510
def B6(P:Params):Obj:=wD (dF P 848 rN 285 <|dR P "__init__" 864 511::dR P "__static_attributes__" 865 512::dE P "__doc__" 866 .none::[]) 2
def u8:Obj:=wK "Toss" [.ref 495] [.ref 514,.ref 495,.ref 455,.type "object"] 513 [] (some (.ref 498)) 841 849 "object.__new__"
def Pc(P:Params):Obj:=wD (dC P 876 rN "Even" 291 <|dR P "__init__" 886 528::dR P "__static_attributes__" 887 529::[]) 5
def DF:Obj:=cP "__init__" "Even.__init__" 881 293 4 3 524 884
def AA:Obj:=fO "__init__" "Even.__init__" (gW 74 0) rN 527
def AX(P:Params):Obj:=wD (dF P 876 rN 291 <|dR P "__init__" 886 528::dR P "__static_attributes__" 887 529::dE P "__doc__" 888 .none::[]) 2
def BD:Obj:=wK "Even" [.ref 495] [.ref 531,.ref 495,.ref 455,.type "object"] 530 [] (some (.ref 517)) 869 877 "object.__new__"
def DB:Obj:=cU "check_share" 893 296 1 3 534 897
def x4:Obj:=fV "check_share" 76 Hj 539
def yY:Obj:=cU "numbers_of" 900 299 1 3 541 907
def B8:Obj:=fV "numbers_of" 77 Hj 546
def Bi:Obj:=tN 913 wU
def Bz:Obj:=cU "numbered_ways" 910 307 2 3 548 918
def uB:Obj:=fV "numbered_ways" 78 Hj 553
def Be:Obj:=tN 924 Ja
def At:Obj:=cU "offers_of" 921 314 2 3 555 929
def v6:Obj:=fV "offers_of" 79 Hj 560
def OM(P:Params):Obj:=wD (dC P 939 Hj "Hall" 323 <|dM P [("__init__",949,573),("size",956,580),("names",963,587),("place",971,594),("check_room",979,601),("door_at",988,608),("offers",994,613),("__static_attributes__",998,614)]++[]) 11
def AV:Obj:=cP "__init__" "Hall.__init__" 944 325 3 3 569 947
def vp:Obj:=fO "__init__" "Hall.__init__" (gW 80 0) Hj 572
def AQ:Obj:=fO "size" "Hall.size" (gW 80 1) Hj 579
def Ec:Obj:=fO "names" "Hall.names" (gW 80 2) Hj 586
def yi:Obj:=fO "place" "Hall.place" (gW 80 3) Hj 593
def ut:Obj:=cO "check_room" "Hall.check_room" 972 342 2 3 595 977
def vP:Obj:=fO "check_room" "Hall.check_room" (gW 80 4) Hj 600
def CB:Obj:=cO "door_at" "Hall.door_at" 980 346 3 3 602 986
def C8:Obj:=fO "door_at" "Hall.door_at" (gW 80 5) Hj 607
def DE:Obj:=cP "offers" "Hall.offers" 989 349 2 3 609 992
def zq:Obj:=fO "offers" "Hall.offers" (gW 80 6) Hj 612
def D5(P:Params):Obj:=wD (dF P 939 Hj 323 <|dM P [("__init__",949,573),("size",956,580),("names",963,587),("place",971,594),("check_room",979,601),("door_at",988,608),("offers",994,613),("__static_attributes__",998,614),("__dict__",1000,617),("__weakref__",1002,618)]++dE P "__doc__" 1003 .none::[]) 4
def Cu:Obj:=wK "Hall" [.type "object"] [.ref 616,.type "object"] 615 [] none 932 940 "object.__new__"
def BN:Obj:=⟨.type "getset_descriptor",none,.fields ⟨.str "__dict__" 999::.ref 616::.builtin "function.__dict__"::.builtin "function.__dict__#set"::[]⟩,⟨[]⟩⟩
def D6:Obj:=cU "_law_cell" 1008 353 2 3 621 1013
def BU:Obj:=fV "_law_cell" 82 jz 626
def C7:Obj:=tN 1019 W8
def A7:Obj:=cU "_law_stream" 1016 355 2 3 628 1025
def C4:Obj:=fV "_law_stream" 83 jz 633
def AR:Obj:=tN 1031 Fa
def Dr:Obj:=cU "_law_gcd" 1028 366 2 3 635 1035
def C6:Obj:=fV "_law_gcd" 84 jz 640
def wQ:Obj:=tN 1041 XJ
def vb:Obj:=cU "_law_ratio" 1038 371 2 3 642 1044
def CC:Obj:=fV "_law_ratio" 85 jz 647
def uC:Obj:=cU "_law_is_ratio" 1047 374 1 3 649 1052
def AY:Obj:=fV "_law_is_ratio" 86 jz 654
def w':Obj:=cV "_law_are_ratios" 1055 381 2 3 656 1058
def u0:Obj:=fV "_law_are_ratios" 87 jz 659
def B1:Obj:=cU "_law_same" 1061 385 2 3 661 1066
def yT:Obj:=fV "_law_same" 88 jz 666
def uA:Obj:=cV "_law_names" 1069 387 2 3 668 1072
def Ct:Obj:=fV "_law_names" 89 jz 671
def u_:Obj:=tN 1078 Iy
def yp:Obj:=cU "_law_share" 1075 396 1 3 673 1081
def y8:Obj:=fV "_law_share" 90 jz 678
def ve:Obj:=tN 1087 EZ
def v4:Obj:=cU "_law_pay" 1084 400 3 3 680 1090
def x8:Obj:=fV "_law_pay" 91 jz 685
def D0:Obj:=cV "_law_door" 1093 408 2 3 687 1096
def v1:Obj:=fV "_law_door" 92 jz 690
def D8:Obj:=cV "_law_doors" 1099 425 4 3 692 1102
def AS:Obj:=fV "_law_doors" 93 jz 695
def Ee:Obj:=cV "_law_built" 1105 439 3 3 697 1108
def BE:Obj:=fV "_law_built" 94 jz 700
def AN:Obj:=cV "_law_hall" 1111 449 3 3 702 1114
def vN:Obj:=fV "_law_hall" 95 jz 705
def AB:Obj:=tN 1120 Xo
def yN:Obj:=cU "_law_chosen" 1117 456 2 3 707 1125
def v9:Obj:=fV "_law_chosen" 96 jz 712
def w4:Obj:=tN 1131 FV
def Bn:Obj:=cU "_law_look" 1128 465 3 3 714 1139
def DL:Obj:=fV "_law_look" 97 jz 719
def zr:Obj:=cU "_law_below" 1142 475 2 3 721 1147
def BV:Obj:=fV "_law_below" 98 jz 726
def CA:Obj:=cV "_law_taken" 1150 477 3 3 728 1153
def ww:Obj:=fV "_law_taken" 99 jz 731
def An:Obj:=cV "_law_step" 1156 485 5 3 733 1159
def tZ:Obj:=fV "_law_step" 100 jz 736
def DZ:Obj:=tN 1165 Ic
def By:Obj:=cU "_law_right" 1162 495 4 3 738 1171
def CS:Obj:=fV "_law_right" 101 jz 743
def ue:Obj:=tN 1177 Qd
def Cb:Obj:=cU "_law_is_plan" 1174 505 2 3 745 1180
def tU:Obj:=fV "_law_is_plan" 102 jz 750
def BQ:Obj:=cU "_law_size" 1183 515 1 3 752 1188
def DI:Obj:=fV "_law_size" 103 jz 757
def C0:Obj:=tN 1194 M_
def B7:Obj:=cU "_law_corridor" 1191 522 2 3 759 1199
def B9:Obj:=fV "_law_corridor" 104 jz 764
def xT:Obj:=cU "_law_rooms" 1202 528 1 3 766 1207
def uv:Obj:=fV "_law_rooms" 105 jz 771
def uK:Obj:=cV "_law_start" 1210 533 2 3 773 1213
def C9:Obj:=fV "_law_start" 106 jz 776
def Au:Obj:=tN 1219 ["_law_found","_law_share_here","_law_rooms_here","_law_plan","_law_pair","_law_k","_law_own","_law_worths","_law_later","_law_again","_law_last"]
def DS:Obj:=cU "_law_chain" 1216 537 4 3 778 1230
def Cc:Obj:=fV "_law_chain" 107 jz 783
def t7:Obj:=cU "_law_odd" 1233 554 2 3 785 1238
def yL:Obj:=fV "_law_odd" 108 jz 790
def D4:Obj:=tN 1244 ["_law_cell_here","_law_plan","_law_rooms_here","_law_xs","_law_some","_law_at","_law_later","_law_found"]
def CM:Obj:=cU "_law_spoilt" 1241 558 3 3 792 1252
def uL:Obj:=fV "_law_spoilt" 109 jz 797
def BM:Obj:=tN 1258 Qo
def B2:Obj:=cU "_law_refused" 1255 572 2 3 799 1261
def wM:Obj:=fV "_law_refused" 110 jz 804
def AT:Obj:=tN 1267 I9
def DA:Obj:=cU "_law_plan_told" 1264 578 4 3 806 1275
def v_:Obj:=fV "_law_plan_told" 111 jz 811
def AF:Obj:=tN 1281 FD
def wJ:Obj:=cU "_law_best" 1278 582 4 3 813 1285
def BG:Obj:=fV "_law_best" 112 jz 818
def KG(P:Params):BT:=nd (boot_o_0 P) (nd (boot_o_1 P) (nd (NA P) (nd (boot_o_7 P) (nd tE (nd sM (nd fE (nd DU (n2 (fU "take_step" 36) BO fE) (n1 fE (fU "_law_gcd" 84))) (nd tE (n1 Cs fE) (n1 fE fE))) (nd sf (nd fE (n2 tE (tN 903 vf) tE) (n1 tE uA)) (nd yM (n1 tE CB) (n1 (wT 455) (fU "_law_step" 100))))) (nd (wT 31) (nd (sk P) (nd vj (n2 fE DF DS) (n1 uN AY)) (nd (fU "first_plan" 27) (n1 fE tE) (n1 tE Bn))) (nd (tN 318 eF) (nd tE (n2 tE (fU "offers_of" 79) AF) (n1 (wF 430 427 "chancehall.doors" 704) tE)) (nd (cV "lowest" 483 102 2 3 236 486) (n1 (fU "better_door" 57) (tN 1011 Zm)) (n1 Da tU))))) (nd wA (nd fE (nd (wT 31) (nd BB (n2 CF (Pc P) (fU "_law_start" 106)) (n1 (fU "is_word" 63) vb)) (nd fE (n1 tE (tN 960 ["self"])) (n1 yQ (fU "_law_chosen" 96)))) (nd wA (nd (tN 393 dB) (n2 (fU "clear_column" 42) tE fE) (n1 xX y8)) (nd tS (n1 fE (D5 P)) (n1 fE By)))) (nd (sA P) (nd (⟨.none,none,.fields ⟨i3 17 4 95 <|[]⟩,⟨[]⟩⟩) (nd tE (n2 (tN 537 Rx) fE yL) (n1 BI (tN 1064 ug))) (nd (cU "fits" 447 84 2 3 210 452) (n1 (fU "only_answer" 51) (fT "check_room" "Hall.check_room" (gW 80 4))) (n1 (fT "__init__" "Sure.__init__" (gW 71 0)) BV))) (nd (wS 118) (nd (fU "under" 21) (n1 fE (wC "Hall" 934 323 565 937)) (n1 tE D8)) (nd fE (n1 tE tE) (n1 (wC "Toss" 843 285 501 846) tE)))))) (nd mM (nd (fU "_wall" 0) (nd (wT 31) (nd (ss P) (nd tE (n2 fE (wS 514) xT) (n1 (cU "best_of" 687 229 1 3 382 691) fE)) (nd (fU "total" 24) (n1 tE (cO "size" "Hall.size" 950 331 1 3 574 954)) (n1 D9 tE))) (nd r3 (nd (cU "minus" 382 58 2 3 158 387) (n2 tE B8 (fU "_law_refused" 110)) (n1 yE u_)) (nd x5 (n1 (fU "left_rows" 54) (fT "offers" "Hall.offers" (gW 80 6))) (n1 (⟨.none,none,.fields ⟨i3 281 4 491 <|[]⟩,⟨[]⟩⟩) fE)))) (nd fE (nd (wT 31) (nd tE (n2 Db BD (tN 1236 eV)) (n1 (tN 717 ["room"]) w')) (nd fE (n1 tE tE) (n1 tE (tN 1145 ug)))) (nd wt (nd tE (n2 (fU "width_of" 45) wA BG) (n1 tE v1)) (nd (fU "row_times" 34) (n1 fE BU) (n1 wA tE))))) (nd (wC "HallError" 198 5 25 201) (nd (sF P) (nd fE (nd (tN 359 Vy) (n2 (fU "fractions_of" 38) (wF 522 519 "chancehall.doors" 704) fE) (n1 fE (tN 1050 zR))) (nd (cU "greatest" 430 75 1 3 198 436) (n1 (fU "answer_of" 49) Ec) (n1 (wB 455) fE))) (nd (wC "NoPlan" 305 20 105 308) (nd AH (n2 fE tE DA) (n1 (M8 P) tE)) (nd BF (n1 tE (wS 616)) (n1 CI ue)))) (nd (wT 31) (nd fE (nd (fU "plus" 17) (n2 uS DB tE) (n1 tE yT)) (nd (tN 458 vU) (n1 fE fE) (n1 (tV P) CA))) (nd (tN 333 ["thing"]) (nd fE (n1 tE (fT "__init__" "Hall.__init__" (gW 80 0))) (n1 (fT "ways" "Door.ways" (gW 70 1)) (fU "_law_built" 94))) (nd tE (n1 (fU "mendings" 59) tE) (n1 t8 (fU "_law_corridor" 104)))))))) (nd (boot_o_5 P) (nd (boot_o_9 P) (nd (tN 190 ["k"]) (nd (wS 31) (nd (wF 64 61 "chancehall.errors" 194) (nd fE (n2 D1 (B6 P) tE) (n1 tE C6)) (nd (tN 425 Te) (n1 fE tE) (n1 tE AN))) (nd (tN 298 ["room"]) (nd tE (n2 AZ (fU "numbers_of" 77) BM) (n1 (fU "check_pairs" 68) tE)) (nd fE (n1 vT tE) (n1 (Mm P) tZ)))) (nd (LP P) (nd (wS 80) (nd fE (n2 tE tE tE) (n1 tE fE)) (nd CU (n1 B5 (cO "place" "Hall.place" 964 337 2 3 588 969)) (n1 (wC "Sure" 789 273 463 792) tE))) (nd (fT "__init__" "NoPlan.__init__" (gW 8 0)) (nd (cU "over" 398 62 2 3 172 403) (n2 (tN 578 ["rows"]) v6 (fU "_law_best" 112)) (n1 fE (fU "_law_door" 92))) (nd tE (n1 Bc (fU "_law_cell" 82)) (n1 (wB 495) fE))))) (nd tE (nd (wF 40 37 "chancehall.errors" 194) (nd (LN P) (nd tE (n2 tE (⟨.none,none,.fields ⟨i3 293 4 527 <|[]⟩,⟨[]⟩⟩) C9) (n1 vv tE)) (nd tE (n1 ub (fT "names" "Hall.names" (gW 80 2))) (n1 (wG 782 455) v9))) (nd tE (nd (fU "times" 19) (n2 BA Bz tE) (n1 tE fE)) (nd (fU "raised_look" 31) (n1 A8 BN) (n1 tE tE)))) (nd (wS 56) (nd (wF 88 85 "chancehall.errors" 194) (nd (tN 377 dB) (n2 (fU "go_on" 40) tE fE) (n1 fE (fU "_law_same" 88))) (nd tE (n1 yk vP) (n1 um fE))) (nd tE (nd uu (n1 u3 tE) (n1 (tN 764 ["self"]) tE)) (nd A' (n1 (tN 680 CG) A7) (n1 tE C0)))))) (nd mI (nd sT (nd (LS P) (nd (wS 68) (nd (cU "divisor" 337 28 2 3 128 345) (n2 tE (wT 495) tE) (n1 tE tE)) (nd C1 (n1 (cU "odd_row" 594 173 3 3 320 601) tE) (n1 (tN 776 ["leads","name","pay"]) AB))) (nd (wB 99) (nd tE (n2 AC fE wM) (n1 fE (fU "_law_share" 90))) (nd tE (n1 uj zq) (n1 (wF 484 481 "chancehall.doors" 704) tE)))) (nd (wF 52 49 "chancehall.errors" 194) (nd (LM P) (nd (cU "is_ratio" 365 48 1 3 144 371) (n2 tE (wB 531) (fU "_law_odd" 108)) (n1 (fU "check_room_name" 66) tE)) (nd tE (n1 wh (tN 975 eF)) (n1 (tN 802 xO) (fU "_law_below" 98)))) (nd (AI P) (nd (tN 409 dB) (n1 y_ tE) (n1 C3 fE)) (nd BY (n1 (cV "mended" 671 213 3 3 370 674) fE) (n1 tE BQ))))) (nd tE (nd (wS 44) (nd (wF 76 73 "chancehall.errors" 194) (nd (fU "ratio" 15) (n2 v5 fE tE) (n1 tE (fU "_law_is_ratio" 86))) (nd tE (n1 v' fE) (n1 wA tE))) (nd tE (nd fE (n2 (cV "reduced" 567 148 2 3 298 570) Be tE) (n1 (⟨.none,none,.fields ⟨i3 262 4 437 <|i3 268 4 444 <|i3 271 4 451 <|[]⟩,⟨[]⟩⟩) v4)) (nd fE (n1 (tN 665 tR) tE) (n1 (tN 836 ["leads"]) (fU "_law_is_plan" 102))))) (nd (LO P) (nd tE (nd DV (n2 fE tE CM) (n1 AM fE)) (nd (fU "check_plan" 29) (n1 DJ tE) (n1 (wS 476) tE))) (nd (fU "is_whole" 10) (nd (cV "level" 416 67 1 3 186 419) (n1 (fU "begins_of" 47) vp) (n1 yy BE)) (nd (tN 504 Ao) (n1 DM AR) (n1 (fT "__init__" "Toss.__init__" (gW 73 0)) B9)))))))) (nd (boot_o_2 P) (nd (boot_o_4 P) (nd (boot_o_8 P) (nd fE (nd (wG 209 31) (nd (wC "NoChance" 248 11 62 251) (nd tE (n2 zp tE (tN 1205 Q8)) (n1 (tN 690 ["hall"]) Dr)) (nd fE (n1 tE (tN 953 ["self"])) (n1 (tN 771 eF) (fU "_law_hall" 95)))) (nd r_ (nd (tN 385 dB) (n2 (fU "begin_row" 41) tE fE) (n1 fE Ct)) (nd tE (n1 fE C8) (n1 wA An)))) (nd wA (nd sj (nd tE (n2 Dl AA Cc) (n1 yn tE)) (nd yS (n1 (fU "single_rows" 50) (fT "place" "Hall.place" (gW 80 3))) (n1 (⟨.none,none,.fields ⟨i3 275 4 472 <|[]⟩,⟨[]⟩⟩) DL))) (nd tE (nd (fU "over" 20) (n2 fE At tE) (n1 tE fE)) (nd t3 (n1 AW tE) (n1 (wS 495) tE))))) (nd (LU P) (nd (wC "NoNumber" 216 7 38 219) (nd wA (nd zv (n2 DH tE uK) (n1 (cV "is_word" 698 233 1 3 389 701) CC)) (nd (tN 433 Dd) (n1 fE tE) (n1 Co yN))) (nd (M3 P) (nd tE (n2 vS (fU "numbered_ways" 78) AT) (n1 BC tE)) (nd tE (n1 (fU "worths_of" 55) Cu) (n1 (tN 829 wg) CS)))) (nd sy (nd (wC "NoRoom" 280 15 86 283) (nd fE (n2 tE (tN 896 ["share"]) tE) (n1 tE tE)) (nd C5 (n1 A4 ut) (n1 AJ tE))) (nd (wB 118) (nd (cU "under" 406 64 2 3 179 411) (n1 (fU "with_rights" 46) (wF 567 564 "chancehall.halls" 891)) (n1 fE AS)) (nd (fU "row_plus" 35) (n1 fE (fU "_law_stream" 83)) (n1 (wF 503 500 "chancehall.doors" 704) fE)))))) (nd (⟨.none,none,.fields ⟨i3 1 0 20 <|i3 5 0 27 <|i3 7 0 40 <|i3 9 0 52 <|i3 11 0 64 <|i3 13 0 76 <|i3 15 0 88 <|i3 20 0 107 <|i3 26 0 126 <|i3 28 0 133 <|i3 39 0 142 <|i3 48 0 149 <|i3 56 0 156 <|i3 58 0 163 <|i3 60 0 170 <|i3 62 0 177 <|i3 64 0 184 <|i3 67 0 189 <|i3 72 0 196 <|i3 75 0 203 <|i3 82 0 208 <|i3 84 0 215 <|i3 88 0 222 <|i3 95 0 227 <|i3 98 0 234 <|i3 102 0 239 <|i3 107 0 244 <|i3 109 0 249 <|i3 116 0 256 <|i3 125 0 263 <|i3 127 0 268 <|i3 129 0 275 <|i3 134 0 282 <|i3 137 0 289 <|i3 143 0 296 <|i3 148 0 301 <|i3 160 0 308 <|i3 164 0 313 <|i3 166 0 318 <|i3 173 0 325 <|i3 178 0 332 <|i3 183 0 337 <|i3 185 0 344 <|i3 193 0 349 <|i3 195 0 356 <|i3 202 0 361 <|i3 208 0 368 <|i3 213 0 373 <|i3 221 0 380 <|i3 229 0 387 <|i3 233 0 392 <|i3 238 0 399 <|i3 243 0 406 <|i3 246 0 413 <|i3 249 0 418 <|i3 255 0 423 <|i3 260 0 430 <|i3 273 0 465 <|i3 279 0 484 <|i3 285 0 503 <|i3 291 0 522 <|i3 296 0 539 <|i3 299 0 546 <|i3 307 0 553 <|i3 314 0 560 <|i3 323 0 567 <|i3 353 0 626 <|i3 355 0 633 <|i3 366 0 640 <|i3 371 0 647 <|i3 374 0 654 <|i3 381 0 659 <|i3 385 0 666 <|i3 387 0 671 <|i3 396 0 678 <|i3 400 0 685 <|i3 408 0 690 <|i3 425 0 695 <|i3 439 0 700 <|i3 449 0 705 <|i3 456 0 712 <|i3 465 0 719 <|i3 475 0 726 <|i3 477 0 731 <|i3 485 0 736 <|i3 495 0 743 <|i3 505 0 750 <|i3 515 0 757 <|i3 522 0 764 <|i3 528 0 771 <|i3 533 0 776 <|i3 537 0 783 <|i3 554 0 790 <|i3 558 0 797 <|i3 572 0 804 <|i3 578 0 811 <|i3 582 0 818 <|[]⟩,⟨[]⟩⟩) (nd (cU "_wall" 187 1 1 3 15 191) (nd wA (nd so (nd (fU "divisor" 11) (n2 (tN 513 yw) (wB 514) uv) (n1 w_ wQ)) (nd (cU "total" 422 72 1 3 191 427) (n1 (fU "odd_row" 48) AQ) (n1 Ev fE))) (nd (wS 99) (nd AO (n2 fE tE B2) (n1 tE tE)) (nd CQ (n1 Ap DE) (n1 (wC "Mixed" 816 279 482 819) DZ)))) (nd (wC "NoName" 232 9 50 235) (nd wA (nd (fU "is_ratio" 16) (n2 AG (wS 531) tE) (n1 tE u0)) (nd (tN 450 YG) (n1 fE fE) (n1 fE tE))) (nd (tN 323 ["room"]) (nd fE (n1 CL (OM P)) (n1 (fT "__init__" "Door.__init__" (gW 70 0)) tE)) (nd vi (n1 (fU "mended" 58) tE) (n1 (Mc P) (fU "_law_size" 103)))))) (nd (wF 27 24 "chancehall.errors" 194) (nd sB (nd (wC "NoShare" 264 13 74 267) (nd tE (n2 AL tE Au) (n1 (tN 709 wj) tE)) (nd Dj (n1 AU tE) (n1 (wT 455) w4))) (nd (wF 107 104 "chancehall.errors" 194) (nd tE (n2 (fU "reduced" 43) fE v_) (n1 tE (fU "_law_pay" 91))) (nd tE (n1 fE (wB 616)) (n1 v3 tE)))) (nd wA (nd (tN 293 eF) (nd (cU "plus" 374 56 2 3 151 379) (n2 tE x4 (fU "_law_spoilt" 109)) (n1 (fU "check_chance" 67) tE)) (nd tE (n1 (fU "chosen_doors" 53) (tN 983 yH)) (n1 B3 ww))) (nd tE (nd (fU "level" 23) (n1 fE AV) (n1 (cO "ways" "Door.ways" 761 268 1 3 439 765) Ee)) (nd fE (n1 CY fE) (n1 tE B7))))))) (nd (boot_o_6 P) (nd (boot_o_10 P) (nd tE (nd (wB 31) (nd tE (nd y9 (n2 tE u8 (fU "_law_rooms" 105)) (n1 (fU "best_of" 60) tE)) (nd tE (n1 (tN 597 GR) (fT "size" "Hall.size" (gW 80 1))) (n1 (fT "chance_to" "Door.chance_to" (gW 70 2)) vN))) (nd (r9 P) (nd (fU "minus" 18) (n2 w8 yY tE) (n1 yA fE)) (nd (fU "behind_door" 30) (n1 tE fE) (n1 tE tE)))) (nd tE (nd (wB 80) (nd (tN 368 CJ) (n2 (fU "first_from" 39) (AX P) fE) (n1 fE (fU "_law_are_ratios" 87))) (nd tE (n1 CO yi) (n1 (wF 465 462 "chancehall.doors" 704) fE))) (nd va (nd AD (n2 tE tE wJ) (n1 (tN 755 z8) D0)) (nd fE (n1 tE D6) (n1 (wT 495) (tN 1186 Y7)))))) (nd fE (nd tE (nd tE (nd fE (n2 fE (wC "Even" 871 291 520 874) tE) (n1 tE fE)) (nd (fU "greatest" 25) (n1 tE (cO "names" "Hall.names" 957 334 1 3 581 961)) (n1 (wS 455) tE))) (nd (⟨.none,none,.fields ⟨i3 22 4 114 <|[]⟩,⟨[]⟩⟩) (nd (cU "times" 390 60 2 3 165 395) (n2 tE uB (fU "_law_plan_told" 111)) (n1 wA ve)) (nd vE (n1 Ck (wG 1001 616)) (n1 (fT "__init__" "Mixed.__init__" (gW 72 0)) fE)))) (nd (wB 56) (nd tE (nd tE (n2 (cU "go_on" 534 134 3 3 277 540) (fU "check_share" 76) D4) (n1 (tN 724 ["chance"]) B1)) (nd fE (n1 tE tE) (n1 (tN 809 ["leads"]) (fU "_law_taken" 99)))) (nd fE (nd tE (n1 vF fE) (n1 tE fE)) (nd uk (n1 tE C4) (n1 fE tE)))))) (nd mE (nd sO (nd tE (nd (wB 68) (nd A9 (n2 (fU "number_at" 37) wA fE) (n1 fE (fU "_law_ratio" 85))) (nd tE (n1 vl fE) (n1 (xQ P) tE))) (nd (wT 31) (nd fE (n2 tE Bi tE) (n1 (fU "joined_ways" 69) yp)) (nd fE (n1 tE (tN 995 ["numbers","offered","share"])) (n1 tE (fU "_law_right" 101))))) (nd tE (nd tE (nd As (n2 fE tE t7) (n1 Eg fE)) (nd (fU "fits" 28) (n1 tE tE) (n1 tE zr))) (nd B4 (nd tE (n1 tE (⟨.none,none,.fields ⟨i3 325 4 572 <|i3 331 4 579 <|i3 334 4 586 <|i3 337 4 593 <|i3 342 4 600 <|i3 346 4 607 <|i3 349 4 612 <|[]⟩,⟨[]⟩⟩)) (n1 Do (fU "_law_doors" 93))) (nd tE (n1 AE C7) (n1 (⟨.none,none,.fields ⟨i3 287 4 510 <|[]⟩,⟨[]⟩⟩) DI))))) (nd (sN P) (nd (wB 44) (nd tE (nd (cU "ratio" 356 39 2 3 137 362) (n2 tE (fT "__init__" "Even.__init__" (gW 74 0)) (fU "_law_chain" 107)) (n1 (fU "check_head" 65) uC)) (nd fE (n1 tE (tN 967 Fb)) (n1 (OK P) (fU "_law_look" 97)))) (nd fE (nd (tN 401 dB) (n2 yV tE fE) (n1 (wC "Door" 742 260 428 745) x8)) (nd (fU "lowest" 33) (n1 tE fE) (n1 (D2 P) Cb)))) (nd tE (nd (fT "__init__" "NoRoom.__init__" (gW 7 0)) (nd tE (n2 A5 fE uL) (n1 CH (fU "_law_names" 89))) (nd Cn (n1 y7 (fT "door_at" "Hall.door_at" (gW 80 5))) (n1 (wB 476) fE))) (nd (cU "is_whole" 330 26 1 3 121 334) (nd yg (n1 v2 tE) (n1 tE tE)) (nd tE (n1 tE tE) (n1 BH tE))))))))
def S1(w:World)(os:OsState):SharedT:=⟨KG w.params,820,{},⟨[]⟩,{},1288,os⟩
def e1:Pos:=⟨582,0,585,131⟩
def KH:Params->Frag:=λP=>((nat_lit 2,boot_o_2 P)::(nat_lit 3,zM P [("_law_changed",1293,824),("law",1299,829)] 111)::(nat_lit 15,tE)::(nat_lit 17,tN 190 ["k"])::(nat_lit 18,tE)::(nat_lit 20,cU "_wall" 187 1 1 3 15 191)::(nat_lit 21,sT)::(nat_lit 22,sO)::(nat_lit 29,tE)::(nat_lit 30,sN P)::(nat_lit 31,sM)::(nat_lit 32,(wG 209 31))::(nat_lit 35,(wT 31))::(nat_lit 42,tE)::(nat_lit 43,sF P)::(nat_lit 44,sB)::(nat_lit 47,(wT 31))::(nat_lit 54,tE)::(nat_lit 55,sA P)::(nat_lit 56,sy)::(nat_lit 59,(wT 31))::(nat_lit 66,tE)::(nat_lit 67,ss P)::(nat_lit 68,so)::(nat_lit 71,(wT 31))::(nat_lit 78,tE)::(nat_lit 79,sk P)::(nat_lit 80,sj)::(nat_lit 83,(wT 31))::(nat_lit 90,tE)::(nat_lit 92,tN 293 eF)::(nat_lit 93,tE)::(nat_lit 95,sf)::(nat_lit 96,r_)::(nat_lit 97,tN 298 ["room"])::(nat_lit 98,r9 P)::(nat_lit 99,r3)::(nat_lit 102,(wT 31))::(nat_lit 109,tE)::(nat_lit 111,tN 318 eF)::(nat_lit 112,tE)::(nat_lit 114,va)::(nat_lit 115,wt)::(nat_lit 116,tN 323 ["room"])::(nat_lit 117,AI P)::(nat_lit 118,B4)::(nat_lit 121,tE)::(nat_lit 123,tN 333 ["thing"])::(nat_lit 124,tE)::(nat_lit 126,cU "is_whole" 330 26 1 3 121 334)::(nat_lit 127,DU)::(nat_lit 128,tE)::(nat_lit 130,y9)::(nat_lit 131,tE)::(nat_lit 133,cU "divisor" 337 28 2 3 128 345)::(nat_lit 134,A9)::(nat_lit 135,BB)::(nat_lit 136,zv)::(nat_lit 137,tE)::(nat_lit 139,tN 359 Vy)::(nat_lit 140,tE)::(nat_lit 142,cU "ratio" 356 39 2 3 137 362)::(nat_lit 143,vj)::(nat_lit 144,tE)::(nat_lit 146,tN 368 CJ)::(nat_lit 147,tE)::(nat_lit 149,cU "is_ratio" 365 48 1 3 144 371)::(nat_lit 150,As)::(nat_lit 151,tE)::(nat_lit 153,tN 377 dB)::(nat_lit 154,tE)::(nat_lit 156,cU "plus" 374 56 2 3 151 379)::(nat_lit 157,DV)::(nat_lit 158,tE)::(nat_lit 160,tN 385 dB)::(nat_lit 161,tE)::(nat_lit 163,cU "minus" 382 58 2 3 158 387)::(nat_lit 164,AO)::(nat_lit 165,tE)::(nat_lit 167,tN 393 dB)::(nat_lit 168,tE)::(nat_lit 170,cU "times" 390 60 2 3 165 395)::(nat_lit 171,AH)::(nat_lit 172,tE)::(nat_lit 174,tN 401 dB)::(nat_lit 175,tE)::(nat_lit 177,cU "over" 398 62 2 3 172 403)::(nat_lit 178,AD)::(nat_lit 179,tE)::(nat_lit 181,tN 409 dB)::(nat_lit 182,tE)::(nat_lit 184,cU "under" 406 64 2 3 179 411)::(nat_lit 185,uu)::(nat_lit 186,tE)::(nat_lit 189,cV "level" 416 67 1 3 186 419)::(nat_lit 190,yg)::(nat_lit 191,tE)::(nat_lit 193,tN 425 Te)::(nat_lit 194,tE)::(nat_lit 196,cU "total" 422 72 1 3 191 427)::(nat_lit 197,C1)::(nat_lit 198,tE)::(nat_lit 200,tN 433 Dd)::(nat_lit 201,tE)::(nat_lit 203,cU "greatest" 430 75 1 3 198 436)::(nat_lit 204,Dj)::(nat_lit 205,tE)::(nat_lit 208,yS)::(nat_lit 209,CU)::(nat_lit 210,tE)::(nat_lit 212,tN 450 YG)::(nat_lit 213,tE)::(nat_lit 215,cU "fits" 447 84 2 3 210 452)::(nat_lit 216,C5)::(nat_lit 217,tE)::(nat_lit 219,tN 458 vU)::(nat_lit 220,tE)::(nat_lit 222,Cn)::(nat_lit 223,yM)::(nat_lit 224,tE)::(nat_lit 227,x5)::(nat_lit 228,CQ)::(nat_lit 229,tE)::(nat_lit 231,tS)::(nat_lit 232,tE)::(nat_lit 234,vE)::(nat_lit 235,BF)::(nat_lit 236,tE)::(nat_lit 239,cV "lowest" 483 102 2 3 236 486)::(nat_lit 240,t3)::(nat_lit 241,tE)::(nat_lit 244,vi)::(nat_lit 245,BY)::(nat_lit 246,tE)::(nat_lit 249,A')::(nat_lit 250,uk)::(nat_lit 251,tE)::(nat_lit 253,tN 504 Ao)::(nat_lit 254,tE)::(nat_lit 256,zp)::(nat_lit 257,D1)::(nat_lit 258,tE)::(nat_lit 260,tN 513 yw)::(nat_lit 261,tE)::(nat_lit 263,CF)::(nat_lit 264,DH)::(nat_lit 265,tE)::(nat_lit 268,AL)::(nat_lit 269,v5)::(nat_lit 270,tE)::(nat_lit 272,Dl)::(nat_lit 273,tE)::(nat_lit 275,Db)::(nat_lit 276,AG)::(nat_lit 277,tE)::(nat_lit 279,tN 537 Rx)::(nat_lit 280,tE)::(nat_lit 282,cU "go_on" 534 134 3 3 277 540)::(nat_lit 283,uS)::(nat_lit 284,tE)::(nat_lit 286,A5)::(nat_lit 287,tE)::(nat_lit 289,AZ)::(nat_lit 290,w8)::(nat_lit 291,tE)::(nat_lit 293,AC)::(nat_lit 294,tE)::(nat_lit 296,vS)::(nat_lit 297,BA)::(nat_lit 298,tE)::(nat_lit 301,cV "reduced" 567 148 2 3 298 570)::(nat_lit 302,yV)::(nat_lit 303,tE)::(nat_lit 305,tN 578 ["rows"])::(nat_lit 306,tE)::(nat_lit 308,CL)::(nat_lit 309,y_)::(nat_lit 310,tE)::(nat_lit 313,u3)::(nat_lit 314,vF)::(nat_lit 315,tE)::(nat_lit 318,v2)::(nat_lit 319,Cs)::(nat_lit 320,tE)::(nat_lit 322,tN 597 GR)::(nat_lit 323,tE)::(nat_lit 325,cU "odd_row" 594 173 3 3 320 601)::(nat_lit 326,vl)::(nat_lit 327,tE)::(nat_lit 329,ub)::(nat_lit 330,tE)::(nat_lit 332,AU)::(nat_lit 333,v')::(nat_lit 334,tE)::(nat_lit 337,B5)::(nat_lit 338,CO)::(nat_lit 339,tE)::(nat_lit 341,wh)::(nat_lit 342,tE)::(nat_lit 344,A4)::(nat_lit 345,yk)::(nat_lit 346,tE)::(nat_lit 349,DJ)::(nat_lit 350,y7)::(nat_lit 351,tE)::(nat_lit 353,vT)::(nat_lit 354,tE)::(nat_lit 356,Ap)::(nat_lit 357,uj)::(nat_lit 358,tE)::(nat_lit 361,A8)::(nat_lit 362,Ck)::(nat_lit 363,tE)::(nat_lit 365,tN 665 tR)::(nat_lit 366,tE)::(nat_lit 368,AW)::(nat_lit 369,Bc)::(nat_lit 370,tE)::(nat_lit 373,cV "mended" 671 213 3 3 370 674)::(nat_lit 374,AE)::(nat_lit 375,tE)::(nat_lit 377,tN 680 CG)::(nat_lit 378,tE)::(nat_lit 380,CY)::(nat_lit 381,DM)::(nat_lit 382,tE)::(nat_lit 384,tN 690 ["hall"])::(nat_lit 385,tE)::(nat_lit 387,cU "best_of" 687 229 1 3 382 691)::(nat_lit 388,w_)::(nat_lit 389,tE)::(nat_lit 392,cV "is_word" 698 233 1 3 389 701)::(nat_lit 393,vv)::(nat_lit 394,tE)::(nat_lit 396,tN 709 wj)::(nat_lit 397,tE)::(nat_lit 399,uN)::(nat_lit 400,yn)::(nat_lit 401,tE)::(nat_lit 403,tN 717 ["room"])::(nat_lit 404,tE)::(nat_lit 406,Eg)::(nat_lit 407,BI)::(nat_lit 408,tE)::(nat_lit 410,tN 724 ["chance"])::(nat_lit 411,tE)::(nat_lit 413,AM)::(nat_lit 414,CH)::(nat_lit 415,tE)::(nat_lit 418,yA)::(nat_lit 419,yE)::(nat_lit 420,tE)::(nat_lit 423,xX)::(nat_lit 424,BC)::(nat_lit 432,tE)::(nat_lit 434,tN 755 z8)::(nat_lit 435,tE)::(nat_lit 437,C3)::(nat_lit 438,Do)::(nat_lit 439,tE)::(nat_lit 441,tN 764 ["self"])::(nat_lit 442,tE)::(nat_lit 444,cO "ways" "Door.ways" 761 268 1 3 439 765)::(nat_lit 445,yy)::(nat_lit 446,tE)::(nat_lit 448,tN 771 eF)::(nat_lit 449,tE)::(nat_lit 451,D9)::(nat_lit 452,Ev)::(nat_lit 453,tN 776 ["leads","name","pay"])::(nat_lit 454,xQ P)::(nat_lit 455,yQ)::(nat_lit 456,Co)::(nat_lit 457,(wG 782 455))::(nat_lit 460,(wT 455))::(nat_lit 467,tE)::(nat_lit 469,tN 802 xO)::(nat_lit 470,tE)::(nat_lit 472,AJ)::(nat_lit 473,um)::(nat_lit 474,tN 809 ["leads"])::(nat_lit 475,tV P)::(nat_lit 476,B3)::(nat_lit 479,(wT 455))::(nat_lit 486,tE)::(nat_lit 488,tN 829 wg)::(nat_lit 489,tE)::(nat_lit 491,CI)::(nat_lit 492,v3)::(nat_lit 493,tN 836 ["leads"])::(nat_lit 494,D2 P)::(nat_lit 495,Da)::(nat_lit 498,(wT 495))::(nat_lit 505,tE)::(nat_lit 507,t8)::(nat_lit 508,tE)::(nat_lit 510,BH)::(nat_lit 511,BO)::(nat_lit 512,tE)::(nat_lit 513,B6 P)::(nat_lit 514,u8)::(nat_lit 517,(wT 495))::(nat_lit 524,tE)::(nat_lit 527,DF)::(nat_lit 528,AA)::(nat_lit 529,tE)::(nat_lit 530,AX P)::(nat_lit 531,BD)::(nat_lit 534,tE)::(nat_lit 536,tN 896 ["share"])::(nat_lit 537,tE)::(nat_lit 539,DB)::(nat_lit 540,x4)::(nat_lit 541,tE)::(nat_lit 543,tN 903 vf)::(nat_lit 544,tE)::(nat_lit 546,yY)::(nat_lit 547,B8)::(nat_lit 548,tE)::(nat_lit 550,Bi)::(nat_lit 551,tE)::(nat_lit 553,Bz)::(nat_lit 554,uB)::(nat_lit 555,tE)::(nat_lit 557,Be)::(nat_lit 558,tE)::(nat_lit 560,At)::(nat_lit 561,v6)::(nat_lit 569,tE)::(nat_lit 572,AV)::(nat_lit 573,vp)::(nat_lit 574,tE)::(nat_lit 576,tN 953 ["self"])::(nat_lit 577,tE)::(nat_lit 579,cO "size" "Hall.size" 950 331 1 3 574 954)::(nat_lit 580,AQ)::(nat_lit 581,tE)::(nat_lit 583,tN 960 ["self"])::(nat_lit 584,tE)::(nat_lit 586,cO "names" "Hall.names" 957 334 1 3 581 961)::(nat_lit 587,Ec)::(nat_lit 588,tE)::(nat_lit 590,tN 967 Fb)::(nat_lit 591,tE)::(nat_lit 593,cO "place" "Hall.place" 964 337 2 3 588 969)::(nat_lit 594,yi)::(nat_lit 595,tE)::(nat_lit 597,tN 975 eF)::(nat_lit 598,tE)::(nat_lit 600,ut)::(nat_lit 601,vP)::(nat_lit 602,tE)::(nat_lit 604,tN 983 yH)::(nat_lit 605,tE)::(nat_lit 607,CB)::(nat_lit 608,C8)::(nat_lit 609,tE)::(nat_lit 612,DE)::(nat_lit 613,zq)::(nat_lit 614,tN 995 ["numbers","offered","share"])::(nat_lit 615,D5 P)::(nat_lit 616,Cu)::(nat_lit 617,BN)::(nat_lit 618,(wG 1001 616))::(nat_lit 621,tE)::(nat_lit 623,tN 1011 Zm)::(nat_lit 624,tE)::(nat_lit 626,D6)::(nat_lit 627,BU)::(nat_lit 628,tE)::(nat_lit 630,C7)::(nat_lit 631,tE)::(nat_lit 633,A7)::(nat_lit 634,C4)::(nat_lit 635,tE)::(nat_lit 637,AR)::(nat_lit 638,tE)::(nat_lit 640,Dr)::(nat_lit 641,C6)::(nat_lit 642,tE)::(nat_lit 644,wQ)::(nat_lit 645,tE)::(nat_lit 647,vb)::(nat_lit 648,CC)::(nat_lit 649,tE)::(nat_lit 651,tN 1050 zR)::(nat_lit 652,tE)::(nat_lit 654,uC)::(nat_lit 655,AY)::(nat_lit 656,tE)::(nat_lit 659,w')::(nat_lit 660,u0)::(nat_lit 661,tE)::(nat_lit 663,tN 1064 ug)::(nat_lit 664,tE)::(nat_lit 666,B1)::(nat_lit 667,yT)::(nat_lit 668,tE)::(nat_lit 671,uA)::(nat_lit 672,Ct)::(nat_lit 673,tE)::(nat_lit 675,u_)::(nat_lit 676,tE)::(nat_lit 678,yp)::(nat_lit 679,y8)::(nat_lit 680,tE)::(nat_lit 682,ve)::(nat_lit 683,tE)::(nat_lit 685,v4)::(nat_lit 686,x8)::(nat_lit 687,tE)::(nat_lit 690,D0)::(nat_lit 691,v1)::(nat_lit 692,tE)::(nat_lit 695,D8)::(nat_lit 696,AS)::(nat_lit 697,tE)::(nat_lit 700,Ee)::(nat_lit 701,BE)::(nat_lit 702,tE)::(nat_lit 705,AN)::(nat_lit 706,vN)::(nat_lit 707,tE)::(nat_lit 709,AB)::(nat_lit 710,tE)::(nat_lit 712,yN)::(nat_lit 713,v9)::(nat_lit 714,tE)::(nat_lit 716,w4)::(nat_lit 717,tE)::(nat_lit 719,Bn)::(nat_lit 720,DL)::(nat_lit 721,tE)::(nat_lit 723,tN 1145 ug)::(nat_lit 724,tE)::(nat_lit 726,zr)::(nat_lit 727,BV)::(nat_lit 728,tE)::(nat_lit 731,CA)::(nat_lit 732,ww)::(nat_lit 733,tE)::(nat_lit 736,An)::(nat_lit 737,tZ)::(nat_lit 738,tE)::(nat_lit 740,DZ)::(nat_lit 741,tE)::(nat_lit 743,By)::(nat_lit 744,CS)::(nat_lit 745,tE)::(nat_lit 747,ue)::(nat_lit 748,tE)::(nat_lit 750,Cb)::(nat_lit 751,tU)::(nat_lit 752,tE)::(nat_lit 754,tN 1186 Y7)::(nat_lit 755,tE)::(nat_lit 757,BQ)::(nat_lit 758,DI)::(nat_lit 759,tE)::(nat_lit 761,C0)::(nat_lit 762,tE)::(nat_lit 764,B7)::(nat_lit 765,B9)::(nat_lit 766,tE)::(nat_lit 768,tN 1205 Q8)::(nat_lit 769,tE)::(nat_lit 771,xT)::(nat_lit 772,uv)::(nat_lit 773,tE)::(nat_lit 776,uK)::(nat_lit 777,C9)::(nat_lit 778,tE)::(nat_lit 780,Au)::(nat_lit 781,tE)::(nat_lit 783,DS)::(nat_lit 784,Cc)::(nat_lit 785,tE)::(nat_lit 787,tN 1236 eV)::(nat_lit 788,tE)::(nat_lit 790,t7)::(nat_lit 791,yL)::(nat_lit 792,tE)::(nat_lit 794,D4)::(nat_lit 795,tE)::(nat_lit 797,CM)::(nat_lit 798,uL)::(nat_lit 799,tE)::(nat_lit 801,BM)::(nat_lit 802,tE)::(nat_lit 804,B2)::(nat_lit 805,wM)::(nat_lit 806,tE)::(nat_lit 808,AT)::(nat_lit 809,tE)::(nat_lit 811,DA)::(nat_lit 812,v_)::(nat_lit 813,tE)::(nat_lit 815,AF)::(nat_lit 816,tE)::(nat_lit 818,wJ)::(nat_lit 819,BG)::(nat_lit 820,tE)::(nat_lit 823,cV "_law_changed" 1288 586 2 3 820 1291)::(nat_lit 824,fV "_law_changed" 113 jz 823)::(nat_lit 825,tE)::(nat_lit 828,cV "law" 1294 592 1 3 825 1297)::(nat_lit 829,fV "law" 114 jz 828)::([]:List (Nat×Obj)))
abbrev asH:List Nat:=(KH {strHash:=λ_=>0,shareClass:=λ_=>0,mergeTok:=id,idOf:=λ_=>0,idOfShared:=λ_ _=>0,followText:=λ_=>true,idOfImm:=λ_=>0}).map (·.1)
noncomputable def qv:Program:=view p [0,2,3,4,5,6,7,8,10,11,13,14,15,16,17,18,19,20,21,23,24,25,27,28,29,30,31,33,34,35,36,37,38,39,40,41,42,43,45,46,47,48,49,50,51,53,54,55,57,58,59,60,62,63,65,66,67,68,69,70,71,72,73,74,76,77,78,79,80,82,83,84,85,86,87,88,89,90,91,92,93,94,95,96,97,98,99,100,101,102,103,104,105,106,107,108,109,110,111,112,113,114]
abbrev R:RowW:=PySem.Challenge.rw_chancehall_k26_mendings.row.toRowW
def Xt(s:Shared):Bool:=xlAt qv [] s&&recOk R.records s
def e:Pos:=⟨592,0,620,90⟩
set_option maxHeartbeats 0
def LW:looksOpen PySem.Challenge.rw_chancehall_k26_mendings.row.prog=true:=by kernel_rfl
def wsd:PySem.Challenge.rw_chancehall_k26_mendings.wellSaid=true:=by
 unfold OpenLaw.wellSaid OpenRow.wellSaid OpenRow.partSaid;rw[LW]
 kernel_rfl
def asK:∀P,asH=(KH P).map (·.1):=λ_=>by kernel_rfl
def pre(w:World):(λos=>topGo treeTable p w 11 ej 12 (S0 w os) (topStub p))=λos=>some (Sa w os,⟨denote treeTable (cE p),cE p,z,B⟩):=by
 rw[Fast.te15667345088766844465,Fast.te14364793385576792824,Fast.te11892475500146522536];kernel_rfl
def block(w:World):(λos=>segRun treeTable p w 11 ej 1 1 (Sa w os) (blockOf (behindTheImports p) (env p) (cE p) z B))=λos=>some (.next,(Sb w os).abs,cE p,z):=by
 rw[Fast.te14374325043358763698,Fast.te14364793385576792824];kernel_rfl
def Pt(w:World):(λos=>segRunT treeTable p w 11 ej 1 30000 (Sb w os) (piecesOf ((behindTheImports p).take 113) (env p) (cE p) z B))=λos=>some (.next,S1 w os,cE p,e1):=by
 rw[Fast.te10110043849684766642,Fast.te14364793385576792824];kernel_rfl
def comb{R S A B C X Y Z:Type _}{o:Option R}{f:R->A}{g:R->B}{k:R->C}{h:R->Option S}{t:S->X}{q:S->Y}{p:S->Z}{a:A}{b:B}{c:C}{x:X}{y:Y}{z:Z}(e:(o.map λr=>(f r,g r,k r,(h r).map t))=some (a,b,c,some x))(n:(o.map λr=>(f r,g r,k r,(h r).map q))=some (a,b,c,some y))(m:(o.map λr=>(f r,g r,k r,(h r).map p))=some (a,b,c,some z)):(o.map λr=>(f r,g r,k r,(h r).map λs=>(t s,q s,p s)))=some (a,b,c,some (x,y,z)):=by
 cases o with
 |none=>cases e
 |some r =>
  simp only[Option.map_some,Option.some.injEq,Prod.mk.injEq]at e n m ⊢;obtain⟨w,v,u,d⟩:=e;obtain⟨_,_,_,j⟩:=n;obtain⟨_,_,_,i⟩:=m;cases l:h r with
  |none=>rw[l]at d;cases d
  |some s =>
   rw[l]at d j i;refine⟨w,v,u,?_⟩;simp only[Option.map_some,Option.some.injEq]at d j i ⊢;rw[d,j,i]
def MO{R S A B C X Y:Type _}{o:Option R}{f:R->A}{g:R->B}{k:R->C}{h:R->Option S}{n:S->X}{m:S->Y}{a:A}{b:B}{c:C}{x:X}{y:Y}(e:(o.map λr=>(f r,g r,k r,(h r).map n))=some (a,b,c,some x))(l:(o.map λr=>(f r,g r,k r,(h r).map m))=some (a,b,c,some y)):(o.map λr=>(f r,g r,k r,(h r).map λs=>(n s,m s)))=some (a,b,c,some (x,y)):=by
 cases o with
 |none=>cases e
 |some r =>
  simp only[Option.map_some,Option.some.injEq,Prod.mk.injEq]at e l ⊢;obtain⟨t,q,p,d⟩:=e;obtain⟨_,_,_,i⟩:=l;cases j:h r with
  |none=>rw[j]at d;cases d
  |some s =>
   rw[j]at d i;refine⟨t,q,p,?_⟩;simp only[Option.map_some,Option.some.injEq]at d i ⊢;rw[d,i]
noncomputable def sR{a:Type}(w:World)(os:OsState)(f:Shared->a):=(segRunT treeTable p w 11 ej 1 50000 (S1 w os) (piecesOf ((behindTheImports p).drop 113) (env p) (cE p) e1 B)).map λr=>(r.1,r.2.2.1,r.2.2.2,(topRun treeTable p w 11 ej 2 r.2.1.abs ⟨doneF .next,cE p,e,B⟩).map f)
def K2(w:World):(λos=>sR w os λs=>(openSeen qv [] (importedModules p.main.body) Xt true s).1)=λ_=>some (.next,cE p,e,some ((openGood qv []).1)):=by
 unfold sR;rw[Fast.te10110043849684766642,Fast.te14364793385576792824,Fast.te14082659384304107361,Fast.te4187177175401517315,Fast.te5923862056798008813];kernel_rfl
def K0(w:World):(λos=>sR w os λs=>(openSeen qv [] (importedModules p.main.body) Xt true s).2)=λ_=>some (.next,cE p,e,some ((openGood qv []).2)):=by
 unfold sR;rw[Fast.te10110043849684766642,Fast.te14364793385576792824,Fast.te14082659384304107361];kernel_rfl
def OO(w:World):(λos=>sR w os λs=>openSeen qv [] (importedModules p.main.body) Xt true s)=λ_=>some (.next,cE p,e,some (openGood qv [])):=funext λos=>MO (congrFun (K2 w) os) (congrFun (K0 w) os)
def MX(w:World):(λos=>sR w os λs=>staticsOk (importedModules p.main.body) (boot_heap w.params) s.heap&&namesBound p s.heap&&gensDone s&&laidKept (boot_heap w.params) s.heap)=λ_=>some (.next,cE p,e,some (true)):=by
 unfold sR;rw[Fast.te10110043849684766642,Fast.te14364793385576792824,Fast.te14082659384304107361];kernel_rfl
def Pd(w:World):(λos=>sR w os λs=>asH.map s.heap.get?)=λ_=>some (.next,cE p,e,some ((KH w.params).map λp=>some p.2)):=by
 unfold sR;rw[Fast.te10110043849684766642,Fast.te14364793385576792824,Fast.te14082659384304107361];kernel_rfl
def big(w:World):(λos=>sR w os λs=>(staticsOk (importedModules p.main.body) (boot_heap w.params) s.heap&&namesBound p s.heap&&gensDone s&&laidKept (boot_heap w.params) s.heap,openSeen qv [] (importedModules p.main.body) Xt true s,asH.map s.heap.get?))=λ_=>some (.next,cE p,e,some (true,openGood qv [],(KH w.params).map λp=>some p.2)):=funext λos=>comb (congrFun (MX w) os) (congrFun (OO w) os) (congrFun (Pd w) os)
def left:LeftO p qv [] Xt (λs=>asH.map s.heap.get?) (λw=>(KH w.params).map λp=>some p.2) 200000 :=
 ac1 (boot_open rfl rfl λ_=>rfl) pre block (λw os=>pA.cutAt (congrFun (Pt w) os) (pA.last (congrFun (big w) os))) rfl
def hX(s:Shared)(h:Xt s=true):XL qv [] (s.heap.nsMap mainGlobals) s.heap:=xl_of s (Bool.and_eq_true_iff.mp h).1
def hR(s:Shared)(h:Xt s=true):RecFacts R.records s.heap:=recFacts_of (Bool.and_eq_true_iff.mp h).2
end
end H26
noncomputable section
abbrev zI:=List (Option Nat)
abbrev xj:=List (Nat×Rat)
abbrev xf:=List Rat
abbrev xo:=List Int
abbrev xh:=Option Int
abbrev xF:=Option Nat
abbrev wx:=Option Bool
abbrev wb:=List Nat
abbrev wn:=List Bool
abbrev wa:=List xf
def wP{p:Prop}(h:p:=by decide):p:=h
theorem zP(h:True:=by rfl):True:=h
local macro_rules|`(‹$t›)=>`(autoParam $t zP._auto_1)
theorem zP40(h:True:=by decide):True:=⟨⟩
def zP4:=zP40._auto_1
theorem zP20(h:True:=by exact⟨rfl,rfl,wP,wP⟩):True:=⟨⟩
def zP2:=zP20._auto_1
theorem zP30(h:True:=by k_is):True:=⟨⟩
def zP3:=zP30._auto_1
def wE{p:Prop}(h:p:=by lia):p:=h
def vz{p:Prop}(h:p:=by simp):p:=h
abbrev PySem.Shared.zs(s:PySem.Shared):=s.heap.objs.size
open List (range length_cons map_cons append_nil replicate map_nil replicate_succ flatten_cons foldl_cons length_singleton length_reverse drop_zero lookup_cons all_cons all_map lookup_append any_cons any_map getElem_zip zip_cons_cons cons_append length_zipIdx zipWith_cons_cons zipWith map_singleton range_succ map_zipWith map_set getElem_set map_take take_nil range' all_eq_true map_const' sum_cons)
open Bool (decide_and)
open Nat (succ_le_succ add_mul pow_zero pow_succ pow_pos mod_lt sub_zero gcd_comm div_le_self min_eq_left)
open Int (toNat_natCast fdiv toNat)
open Option (getD_none getD_some)
open Rat (intCast_zero divInt lt_iff le_iff)
namespace L2
open PySem PySem.Spec PyProof.Rows
abbrev wr:=List Keyword
abbrev wy:=Array GenState
abbrev wq:=List (Str×NameKind)
abbrev xN:=List PyData
abbrev xS:=List Stmt
abbrev xD:=Array Value
abbrev xB:=List (Str×Value)
abbrev xa:=List Env
abbrev xn:=List (Str×Addr)
abbrev xp:=List (Str×Rat)
abbrev xb:=List Expr
abbrev bE:=Sum Int Str
abbrev xL:=List bE
def Fw:bE->Value->Bool
 |.inl k,v=>Value.isInt k v
 |.inr x,v=>Value.isStrOf x v
def OP(w:World):bE->Int
 |.inl k=>hashInt k
 |.inr x=>hashStr w x
def gP:∀{k:bE}{v:Value},Fw k v->(∃i t,k=Sum.inl i/\v=Value.int i t)\/(∃x t,k=Sum.inr x/\v=Value.str x t)
 |.inl i,v,h=>by
  obtain⟨t,e⟩:=Value.isInt_shape (k:=i) (v:=v) h;exact .inl ⟨i,t,rfl,e⟩
 |.inr x,v,h=>by
  obtain⟨t,e⟩:=Value.isStrOf_shape (x:=x) (v:=v) h;exact .inr ⟨x,t,rfl,e⟩
def ab2(i:Int)(t:Tok):Fw (.inl i) (.int i t):=by simp[Fw,Value.isInt]
def acJ(x:Str)(t:Tok):Fw (.inr x) (.str x t):=by simp[Fw,Value.isStrOf]
def YA(a b:Int):decide ((Sum.inl a:bE)=Sum.inl b)=(a==b):=by
 by_cases e:a=b
 .subst e;simp
 .have h:¬(Sum.inl a:bE)=Sum.inl b:=λq=>e (Sum.inl.inj q);rw[Zp h];exact(beq_eq_false_iff_ne.mpr e).symm
def Sn(a b:Str):decide ((Sum.inr a:bE)=Sum.inr b)=decide (a=b):=by
 by_cases e:a=b
 .subst e;simp
 .have h:¬(Sum.inr a:bE)=Sum.inr b:=λq=>e (Sum.inr.inj q);rw[Zp h,Zp e]
def UO(a:Int)(b:Str):decide ((Sum.inl a:bE)=Sum.inr b)=false:=Zp (λq=>nomatch q)
def U8(a:Str)(b:Int):decide ((Sum.inr a:bE)=Sum.inl b)=false:=Zp (λq=>nomatch q)
def jQ(c:Program)(w:World):PySem.KeyKind c w bE where
 is:=Fw
 hash:=OP w
 inj:=λv a b m g=>by
  rcases gP m with⟨i,t,rfl,rfl⟩|⟨x,t,rfl,rfl⟩
  .rcases gP g with⟨j,u,rfl,e⟩|⟨y,u,rfl,e⟩
   .injection e with d _;rw[d]
   .exact nomatch e
  .rcases gP g with⟨j,u,rfl,e⟩|⟨y,u,rfl,e⟩
   .exact nomatch e
   .injection e with d _;rw[d]
 byValue:=λk v h=>by
  rcases gP h with⟨i,t,rfl,rfl⟩|⟨x,t,rfl,rfl⟩<;>rfl
 pyHash:=λf h=>by
  rcases gP f with⟨i,t,rfl,rfl⟩|⟨x,t,rfl,rfl⟩
  .exact wpAny_pyHash_int h
  .exact wpAny_pyHash_str h
 eqBool:=λl f h=>by
  rcases gP l with⟨i,t,rfl,rfl⟩|⟨x,t,rfl,rfl⟩
  .rcases gP f with⟨j,u,rfl,rfl⟩|⟨y,u,rfl,rfl⟩
   .rw[YA]at h;exact wpAny_eqBool_int h
   .rw[UO]at h;exact SeqAt.EqAt.int_str i t y u _ _ _ _ h
  .rcases gP f with⟨j,u,rfl,rfl⟩|⟨y,u,rfl,rfl⟩
   .rw[U8]at h;exact SeqAt.EqAt.str_int x t j u _ _ _ _ h
   .rw[Sn]at h;exact wpAny_eqBool_str h
 «strs»:=λk x t v h=>by
  rcases gP h with⟨i,u,rfl,e⟩|⟨y,u,rfl,e⟩
  .exact nomatch e
  .injection e with d _;subst d;cases v<;>rfl
def Wc(a:Program)(w:World)(i:Int)(t:Tok):(jQ a w).is (.inl i) (.int i t):=ab2 i t
def V5(a:Program)(w:World)(x:Str)(t:Tok):(jQ a w).is (.inr x) (.str x t):=acJ x t
inductive V where
 |non|bl (b:Bool)|int (i:Int)|str (x:Str)|byt (b:Array UInt8)|flt (b:UInt64)|ref (a:Addr)|ty (n:String)
 deriving DecidableEq
abbrev xA:=List (bE×V)
abbrev xI:=Option V
abbrev xC:=List (Str×V)
abbrev Ζ:=List V
def z0:V->Value->Prop
 |.non,u=>u=Value.none
 |.bl b,u=>u=Value.bool b
 |.int i,u=>∃t,u=Value.int i t
 |.str x,u=>∃t,u=Value.str x t
 |.byt b,u=>∃t,u=Value.bytes b t
 |.flt b,u=>∃t,u=Value.float b t
 |.ref a,u=>u=Value.ref a
 |.ty n,u=>u=Value.type n
abbrev z1:Ζ->Θ->Prop:=Paired z0
def z1.length{G:Ζ}{Z:Θ}(r:z1 G Z):G.length=Z.length:=Paired.length r
theorem z1.get:∀{G:Ζ}{Z:Θ}{i:Nat}{x:V},z1 G Z->G[i]?=some x->∃u,Z[i]?=some u/\z0 x u
 |_,_,_,_,.nil,e=>by simp at e
 |_,_,0,_,.cons r _,e=>by simp at e;subst e;exact⟨_,rfl,r⟩
 |_,_,i+1,x,.cons _ t,e=>by
  obtain⟨u,b,a⟩:=z1.get (i:=i) (x:=x) t (by simpa using e);exact⟨u,by simpa using b,a⟩
theorem z1.set{x:V}{u:Value}(r:z0 x u):∀{G:Ζ}{Z:Θ}(i:Nat),z1 G Z->z1 (G.set i x) (Z.set i u)
 |_,_,_,.nil=>.nil
 |_,_,0,.cons _ t=>.cons r t
 |_,_,i+1,.cons q t=>.cons q (z1.set r i t)
theorem z1.append{G a:Ζ}{Z b:Θ}(h:z1 G Z)(s:z1 a b):z1 (G++a) (Z++b):=by
 cases h with
 |nil=>exact s
 |cons r t=>exact .cons r (z1.append t s)
theorem z1.take:∀{G:Ζ}{Z:Θ}(n:Nat),z1 G Z->z1 (G.take n) (Z.take n)
 |_,_,0,_=>.nil
 |_,_,_+1,.nil=>.nil
 |_,_,n+1,.cons r t=>.cons r (z1.take n t)
theorem z1.drop:∀{G:Ζ}{Z:Θ}(n:Nat),z1 G Z->z1 (G.drop n) (Z.drop n)
 |_,_,0,r=>r
 |_,_,_+1,.nil=>.nil
 |_,_,n+1,.cons _ t=>z1.drop n t
def zV:xI->Ω->Prop
 |some v,some u=>z0 v u
 |none,none=>True
 |_,_=>False
def KV{a:Type} : List (a×V)->List (a×Value)->Prop:=Paired λ(p:a×V)(q:a×Value)=>p.1=q.1/\z0 p.2 q.2
def kV:bE->V
 |.inl i=>.int i
 |.inr x=>.str x
inductive HO where
  |lst (G:Ζ)
  |tup (G:Ζ)
  |dK (kvs:xA)
  |set (S:Int->Bool) (n:Nat)
  |ins (C dx:Addr) (fs:xC)
  |own (x:Addr)
  |xd (fs:xC)
  |met (f x:Addr)
  |rng (lo hi:Int)
  |frz (o:Obj) (u:HO)
  |tbl (ps:xD)
  |ext (φ:Heap->Prop)
abbrev Hp:=Addr->Option HO
def upd(H:Hp)(a:Addr)(o:HO):Hp:=λb=>if b=a then some o else H b
variable{H H':Hp}{a b x e:Addr}{o o':HO}{P:Program}{w:World}{h h':Heap}
def bY : upd H a o a=some o:=by unfold upd;rw[ZY rfl]
def bR(h:b≠a):upd H a o b=H b:=by unfold upd;rw[ZZ h]
def Lk{u:HO}(h:H a=some o)(h':H b=some u)(d:o≠u):a≠b:=by
 intro e;subst e;rw[h]at h';exact d (Option.some.inj h')
def iI(h:H a=some o)(h':H b=none):a≠b:=by
 intro e;subst e;rw[h]at h';cases h'
section
variable(P:Program)(w:World)
def fQ(H:Hp)(h:Heap)(a:Addr):HO->Prop
 |.lst G=>G.length<=sizeLine/\∃(b:Θ)(n:Nat),z1 G b/\h.get? a=some { cls:=.type "list",data:=.seq b.toArray n }
 |.tup G=>G.length<=sizeLine/\∃b:Θ,z1 G b/\IsTup h a b.toArray
 |.dK d=>d.length<=sizeLine/\(a==sysModules)=false/\∃j,KV d j/\h.DictOf (jQ P w) a j
 |.set S n=>h.SetOf (intKind P w) a S n
 |.ins C g e=>H g=some (.own a)/\e.length<=1000/\g≠a/\h.get? a=some (instObj C g) /\
   ∃c,h.Ns1 g c/\(∀f,zV (e.lookup f) (c f))/\PySem.Within c (e.map (·.1))
 |.own _=>∃o,h.get? a=some o
 |.xd e=>∃c,h.Ns1 a c/\∀f,zV (e.lookup f) (c f)
 |.rng lo p=>∃t u v,h.get? a=some { cls:=.type "range",data:=.fields #[.int lo t,.int p u,.int 1 v] }
 |.frz o u=>h.get? a=some o/\fQ H h a u
 |.tbl m=>h.get? a=some { cls:=.none,data:=.fields m }
 |.met f x=>h.get? a=some (methodObj (.ref f) (.ref x))
 |.ext i=>i h/\(∃o,h.get? a=some o)/\∀l k:Heap,i l->(∀o,l.get? a=some o->k.get? a=some o)->i k
def HOk(H:Hp)(h:Heap):Prop:=∀a o,H a=some o->fQ P w H h a o
end
def fQ.lt(x:fQ P w H h a o):a<h.objs.size:=by
 cases o with
 |lst G=>obtain⟨_,_,_,_,e⟩:=x;exact aK e
 |tup G=>obtain⟨_,_,_,p⟩:=x;exact p.lt
 |dK b=>obtain⟨_,_,_,_,o,_,_,e,_⟩:=x;exact aK e
 |set S n=>obtain⟨o,_,_,_,e,_⟩:=x;exact aK e
 |ins C k c=>obtain⟨_,_,_,e,_⟩:=x;exact aK e
 |own y=>obtain⟨_,e⟩:=x;exact aK e
 |xd c=>obtain⟨_,⟨_,_,_,e,_⟩,_⟩:=x;exact aK e
 |rng lo j=>obtain⟨_,_,_,e⟩:=x;exact aK e
 |frz i u=>obtain⟨e,_⟩:=x;exact aK e
 |tbl g=>exact aK (show h.get? a=some _ from x)
 |met f y=>exact aK (show h.get? a=some _ from x)
 |ext d=>obtain⟨_,⟨_,e⟩,_⟩:=x;exact aK e
def fQ.stay(x:fQ P w H h a o)(k:∀b u,(b=a\/H b=some (.own a))->h.get? b=some u->h'.get? b=some u)
 (J:∀b,H b=some (.own a)->H' b=some (.own a))(N:∀b G,H b=some (.tup G)->H' b=some (.tup G)):fQ P w H' h' a o:=by
 induction o with
 |lst G=>obtain⟨z,i,n,r,e⟩:=x;exact⟨z,i,n,r,k _ _ (.inl rfl) e⟩
 |tup G=>obtain⟨z,i,r,g,e,c⟩:=x;exact⟨z,i,r,g,k _ _ (.inl rfl) e,c⟩
 |dK F=>obtain⟨z,y,D,r,g,j,l,e,c⟩:=x;exact⟨z,y,D,r,g,j,l,k _ _ (.inl rfl) e,c⟩
 |set S n=>obtain⟨g,j,l,t,e,c⟩:=x;exact⟨g,j,l,t,k _ _ (.inl rfl) e,c⟩
 |ins C Q K =>
  obtain⟨d,z,E,e,s,⟨m,j,l,L,c⟩,r⟩:=x;exact⟨J _ d,z,E,k _ _ (.inl rfl) e,s,⟨m,j,l,k _ _ (.inr d) L,c⟩,r⟩
 |own y=>obtain⟨g,e⟩:=x;exact⟨g,k _ _ (.inl rfl) e⟩
 |xd K=>obtain⟨s,⟨m,j,l,e,c⟩,r⟩:=x;exact⟨s,⟨m,j,l,k _ _ (.inl rfl) e,c⟩,r⟩
 |rng lo O=>obtain⟨t,u,v,e⟩:=x;exact⟨t,u,v,k _ _ (.inl rfl) e⟩
 |frz g u I=>obtain⟨e,q⟩:=x;exact⟨k _ _ (.inl rfl) e,I q⟩
 |tbl B =>
  have e:h.get? a=some { cls:=.none,data:=.fields B }:=x;show h'.get? a=some { cls:=.none,data:=.fields B };exact k a _ (.inl rfl) e
 |met f y =>
  have e:h.get? a=some (methodObj (.ref f) (.ref y)):=x;show h'.get? a=some (methodObj (.ref f) (.ref y));exact k a _ (.inl rfl) e
 |ext M=>obtain⟨p,⟨o,e⟩,A⟩:=x;exact⟨A _ _ p λo q=>k _ _ (.inl rfl) q,⟨o,k _ _ (.inl rfl) e⟩,A⟩
def HOk.lt(x:HOk P w H h)(e:H a=some o):a<h.objs.size:=(x a o e).lt
def HOk.fresh(x:HOk P w H h)(e:h.objs.size<=a):H a=none:=by
 cases q:H a with
 |none=>rfl
 |some u=>exact absurd (aR (x.lt q) e) (Wp _)
def HOk.kept(x:HOk P w H h)(k:∀b u,h.get? b=some u->h'.get? b=some u):HOk P w H h':=λa o e =>
 (x a o e).stay (λb u _ q=>k b u q) (λ_ q=>q) λ_ _ q=>q
def HOk.laid(x:HOk P w H h)(k:∀b u,h.get? b=some u->h'.get? b=some u)(i:h.objs.size<=a)(d:fQ P w (upd H a o) h' a o):HOk P w (upd H a o) h':=λb u e=>by
 have f:=x.fresh i;by_cases g:b=a
 .subst g;rw[bY]at e;cases e;exact d
 .rw[bR g]at e;exact(x b u e).stay (λc v _ q=>k c v q) (λc q=>by rw[bR (iI q f)];exact q) λc G q=>by rw[bR (iI q f)];exact q
def Rd(H:Hp)(a:Addr)(u:HO):Prop:=H a=some u\/∃o,H a=some (.frz o u)
def Rd.of{u:HO}(h:H a=some u):Rd H a u:=.inl h
def Rd.ok{u:HO}(r:Rd H a u)(x:HOk P w H h):fQ P w H h a u:=by
 rcases r with r|⟨o,r⟩
 .exact x a u r
 .obtain⟨_,q⟩:=x a _ r;exact q
def jX:Option HO->Prop
 |some (.lst _)=>True
 |some (.dK _)=>True
 |some (.set _ _)=>True
 |some (.ins _ _ _)=>True
 |some (.ext _)=>True
 |_=>False
def HOk.write(n:HOk P w H h)(d:jX (H x))(l:e=x\/H e=some (.own x))(k:∀b u,b≠e->h.get? b=some u->h'.get? b=some u)(o:∃u,h'.get? e=some u)
 (g:fQ P w (upd H x o') h' x o'):HOk P w (upd H x o') h':=λb u q=>by
 have j:∀c y,H c=some (.own y)->c≠x:=λc y r z=>by subst z;rw[r]at d;exact d
 have m:∀c G,H c=some (.tup G)->c≠x:=λc G r z=>by subst z;rw[r]at d;exact d
 by_cases f:b=x
 .subst f;rw[bY]at q;cases q;exact g
 .rw[bR f]at q;by_cases a:b=e
  .have i:H b=some (.own x):=by
    rcases l with z|z
    .exact absurd (a.trans z) f
    .rw[a];exact z
   rw[q]at i;cases i;obtain⟨v,p⟩:=o;exact⟨v,by rwa[a]⟩
  .refine(n b u q).stay (λc v hc r=>k c v ?_ r) (λc r=>by rwa[bR (j c b r)]) λc G r=>by rwa[bR (m c G r)]
   rcases hc with rfl|hc
   .exact a
   .rintro rfl;rcases l with z|z
    .exact j c b hc z
    .rw[hc]at z;cases z;exact f rfl
structure Un(fs ex:Ψ)(H H':Hp)(h h':Heap):Prop where
 keep:∀b o,h.get? b=some o->H b=none->b∉fs->b∉ex->h'.get? b=some o
 slot:∀b o,h.get? b=some o->H b=none->b∈fs->b∉ex->∃sl,h'.get? b=some { o with slots:=sl }
 free:∀b o,h.get? b=some o->H b=none->b∉ex->H' b=none
 there:∀b o,h.get? b=some o->b∉ex->∃o',h'.get? b=some o'
 tups:∀b G,H b=some (.tup G)->H' b=some (.tup G)
 frzs:∀b o u,H b=some (.frz o u)->H' b=some (.frz o u)
 tbls:∀b ps,H b=some (.tbl ps)->∃more,H' b=some (.tbl (ps++more))
section
variable{fs fs' ex tT:Ψ}{H Y H2:Hp}{h h1 h2 h':Heap}{a x e:Addr}{o:HO}
def Un.any(u:Un fs ex H Y h h1){a:Obj}(q:h.get? b=some a)(n:H b=none)(d:b∉ex):∃f,h1.get? b=some { a with slots:=f }:=by
 by_cases e:b∈fs
 .exact u.slot b a q n e d
 .exact⟨a.slots,u.keep b a q n e d⟩
def Un.kept(k:∀b u,h.get? b=some u->h'.get? b=some u):Un fs ex H H h h' :=
 ⟨λb a q _ _ _=>k b a q,λb a q _ _ _=>⟨a.slots,k b a q⟩,λ_ _ _ n _=>n,λb a q _=>⟨a,k b a q⟩,λ_ _ q=>q,λ_ _ _ q=>q,λ_ c q=>⟨#[],by rw[q];simp⟩⟩
def Un.refl:Un fs ex H H h h:=Un.kept λ_ _ q=>q
def Un.laid(k:∀b u,h.get? b=some u->h'.get? b=some u)(d:h.objs.size<=a)(c:H a=none):Un fs ex H (upd H a o) h h' where
 keep:=λb u q _ _ _=>k b u q
 slot:=λb u q _ _ _=>⟨u.slots,k b u q⟩
 free:=λb u q n _=>by rwa[bR (aQ (aR (aK q) d))]
 there:=λb u q _=>⟨u,k b u q⟩
 tups:=λb G q=>by rw[bR (iI q c)];exact q
 frzs:=λb u G q=>by rw[bR (iI q c)];exact q
 tbls:=λb e q=>⟨#[],by rw[bR (iI q c),q];simp⟩
def Un.write(c:jX (H x))(l:e=x\/H e=some (.own x))(k:∀b u,b≠e->h.get? b=some u->h'.get? b=some u)(j:∃u,h'.get? e=some u):Un fs ex H (upd H x o) h h':=by
 have f:∀b,H b=none->b≠x:=λb n z=>by subst z;rw[n]at c;exact c
 have g:∀b,H b=none->b≠e:=λb n z=>by
  subst z;rcases l with r|r
  .exact f b n r
  .rw[n]at r;cases r
 have d:∀b u,H b=some u->¬jX (some u)->b≠x:=λb u q i z=>by subst z;rw[q]at c;exact i c
 refine⟨λb u q n _ _=>k b u (g b n) q,λb u q n _ _=>⟨u.slots,k b u (g b n) q⟩,λb u q n _=>by rw[bR (f b n)];exact n,λb u q _=>?_,
  λb G q=>by rw[bR (d b _ q λz=>z)];exact q,λb u G q=>by rw[bR (d b _ q λz=>z)];exact q,λb m q=>⟨#[],by rw[bR (d b _ q λz=>z),q];simp⟩⟩
 by_cases a:b=e
 .subst a;exact j
 .exact⟨u,k b u a q⟩
end
def trk(h:Heap)(H:Hp):Ψ:=(range h.objs.size).filter λa=>(H a).isSome
def U3(h:Heap)(H:Hp):Heap:=hideAll h (trk h H)
def ab1(h:Heap)(H:Hp):(U3 h H).objs.size=h.objs.size:=PySem.W.hideAll_size _ _
variable{o:Obj}
def afN(e:h.get? b=some o)(n:H b=none):(U3 h H).get? b=some o :=
 hideAll_get _ e λa=>by
  have q:(H b).isSome:=(List.mem_filter.mp a).2;rw[n]at q;simp at q
def agC(e:(U3 h H).get? b=some o):h.get? b=some o/\H b=none:=by
 have a:h.get? b=some o:=of_hideAll (trk h H) e;refine⟨a,?_⟩;cases q:H b with
 |none=>rfl
 |some x =>
  have c:b∈trk h H:=List.mem_filter.mpr ⟨List.mem_range.mpr (aK a),by simp[q]⟩;have z:(U3 h H).get? b=none:=PySem.W.hideAll_none (trk h H) c;rw[z]at e;cases e
def agX(g h:Heap)(L:Addr):Δ:=(range h.objs.size).filterMap λa=>if a=L\/(g.get? a).isSome=true then none else(h.get? a).map λo=>(a,o)
def rest(g h:Heap)(L d:Addr):Δ:=(agX g h L).filter λp=>decide (p.1≠d)
structure Mod(K:Frag)(mg:Str->Ω)(base:Heap):Prop where
 kin:K.In base
 glob:base.Ns mainGlobals mg
 blt:∃mb,base.Ns builtinsNs mb/\∀x:Str,x≠"__name__"->mb x=bootBuiltins x
 nolimit:base.NoLimit
structure Cx where
 prog:Program
 w:World
 K:Frag
 mg:Str->Ω
 base:Heap
 A:Around
 N:Φ
 s₀:Shared
 H₀:Hp
 env:Env
 outer:xa
 stack:xa
 ex:Ψ
 fn:Str->Bool
 calm:Bool
 pn:Δ
 xe:Ε
def cp(l:xa):Ψ:=l.filterMap (·.frame)
abbrev Cx.fs(X:Cx):Ψ:=cp X.outer
def jx(a:Scope)(x:Str):Prop:=a.names.lookup x=some .local\/a.names.lookup x=some .cell\/a.names.lookup x=some .free
def fb(a:Scope)(x:Str):Prop:=a.names.lookup x=some .local\/a.names.lookup x=some .cell
def Look(env:Env)(h:Heap)(m:Str->Ω)(x:Str)(u:Value):Prop :=
 (env.kindOf x=some .local/\m x=some u)\/((env.kindOf x=some .cell\/env.kindOf x=some .free)/\∃c,env.cells.lookup x=some c/\h.IsCell c (some u))
structure Cx.Ok(X:Cx):Prop where
 mod:Mod X.K X.mg X.base
 kind:X.env.scope.kind=.function
 glob:X.env.globals=mainGlobals
 blt:X.env.builtins=builtinsNs
 above:X.s₀.zs<=X.env.locals
 inj:∀x y c,X.env.cells.lookup x=some c->X.env.cells.lookup y=some c->x=y
 has:∀x,(X.env.kindOf x=some .cell\/X.env.kindOf x=some .free)->∃c,X.env.cells.lookup x=some c
 cab:∀x c,X.fn x->X.env.cells.lookup x=some c->X.s₀.zs<=c
 hd:X.calm->X.A.handled=none
 frames:X.A.frames=some X.stack
 stk:X.stack=X.outer\/(X.stack=X.env::X.outer/\X.env.frame=some X.env.locals)
 exf:∀b∈X.ex,b≠X.env.locals/\∀x c,X.env.cells.lookup x=some c->c≠b
 bs:∀b o,X.base.get? b=some o->X.s₀.heap.get? b=some o/\X.H₀ b=none
 bsz:X.base.objs.size<=X.s₀.zs
 noex:∀b o,X.base.get? b=some o->b∉X.ex
 exfs:∀b∈X.ex,b∉X.fs
 funs:X.s₀.heap.FunFrames X.base X.outer
 frf:∀b∈X.fs,X.H₀ b=none
structure Inv(X:Cx)(U:Δ)(I:List xI)(H:Hp)(s:Shared):Prop where
 ok:X.Ok
 os:s.os=X.s₀.os
 bare:AllBare s.gens
 base:Un X.fs X.ex X.H₀ H X.s₀.heap s.heap
 loc:∃m,s.heap.Ns X.env.locals m/\∀(i:Nat)(x:Str)(v:V),X.N[i]?=some x->I[i]?=some (some v)->jx X.env.scope x->∃u,z0 v u/\Look X.env s.heap m x u
 cell:∀x c,X.env.cells.lookup x=some c->∃v,s.heap.IsCell c v
 free:H X.env.locals=none
 freeC:∀x c,X.env.cells.lookup x=some c->H c=none
 pin:∀p∈X.pn++U,s.heap.get? p.1=some p.2/\H p.1=none/\p.1≠X.env.locals/\p.1∉X.fs/\∀v,p.2.data≠.cell v
 hok:HOk X.prog X.w H s.heap
 len:I.length=X.N.length
variable{X:Cx}{U:Δ}{I:List xI}{s s':Shared}{t' i:Nat}{ch:Ψ}{x:Str}{u:Value}{M:Model}{A:Around}{E:Ε}{v:V}{Q:Unit->Shared->Prop}{e:Expr}
def Cx.Ok.nofr(a:X.Ok)(e:X.base.get? b=some o):b∉X.fs:=λc=>by
 have:=(a.funs.mem c).1;rw[e]at this;cases this
def Inv.bs(a:Inv X U I H s):∀b o,X.base.get? b=some o->s.heap.get? b=some o/\H b=none:=λb o e =>
 ⟨a.base.keep b o (a.ok.bs b o e).1 (a.ok.bs b o e).2 (a.ok.nofr e) (a.ok.noex b o e),a.base.free b o (a.ok.bs b o e).1 (a.ok.bs b o e).2 (a.ok.noex b o e)⟩
def Inv.bk(a:Inv X U I H s):∀b o,X.base.get? b=some o->s.heap.get? b=some o:=λb o e=>(a.bs b o e).1
def Inv.mod(a:Inv X U I H s):Mod X.K X.mg X.base:=a.ok.mod
def Inv.kIn(a:Inv X U I H s):X.K.In s.heap:=a.ok.mod.kin.keeps a.bk
def Inv.fr(a:Inv X U I H s):∃m,Fr X.base X.env.locals s.heap m :=
 let⟨m,b,_⟩:=a.loc
 ⟨m,b,a.bk,aL a.ok.bsz a.ok.above⟩
def Inv.lt(a:Inv X U I H s):X.env.locals<s.zs:=by obtain⟨_,b,_⟩:=a.loc;exact b.lt
def Inv.sz(a:Inv X U I H s):X.s₀.zs<=s.zs:=aL a.ok.above (Y2 a.lt)
def Inv.nofs(b:Inv X U I H s)(h:s.zs<=a):a∉X.fs:=λd=>by
 obtain⟨_,o,c,_⟩:=b.ok.funs.mem d;exact absurd (aR (aK c) (aL b.sz h)) (Wp _)
def Inv.cne(a:Inv X U I H s):∀x c,X.env.cells.lookup x=some c->c≠X.env.locals:=λx c e z=>by
 obtain⟨v,o,b,hd⟩:=a.cell x c e;obtain⟨m,⟨o',g,h,d,f,_⟩,_⟩:=a.loc;rw[z,d]at b;cases b;rw[f]at hd;cases hd
def Inv.funs(a:Inv X U I H s):s.heap.FunFrames X.base X.outer:=by
 have all:∀(l:xa),(∀b∈cp l,b∈X.fs)->X.s₀.heap.FunFrames X.base l->s.heap.FunFrames X.base l:=by
  intro l
  induction l with
  |nil=>intro _ _;trivial
  |cons env r h =>
   intro g m;obtain⟨n,⟨L,o,c,k,j,hd⟩,i⟩:=m;have f:L∈X.fs:=g L (by unfold cp;rw[List.filterMap_cons,c];exact aO);obtain⟨p,e⟩:=a.base.slot L o j (a.ok.frf L f) f λz=>a.ok.exfs L z f;exact⟨n,⟨L,_,c,k,e,hd⟩,h (λb d=>g b (by unfold cp;rw[List.filterMap_cons,c];exact aJ _ d)) i⟩
 exact all X.outer (λ_ d=>d) a.ok.funs
def Inv.stack(a:Inv X U I H s):s.heap.FunFrames X.base X.stack:=by
 rcases a.ok.stk with e|⟨e,c⟩
 .rw[e];exact a.funs
 .rw[e];obtain⟨m,b,_⟩:=a.loc;refine .cons (by rw[a.ok.kind];decide) c b ?_ a.funs;exact Heap.get?_none_of_le (aL a.ok.bsz a.ok.above)
def Inv.stkSub(a:Inv X U I H s):∀b∈cp X.stack,b∈X.env.locals::X.fs:=λb c=>by
 rcases a.ok.stk with e|⟨e,d⟩
 .rw[e]at c;exact aJ _ c
 .rw[e]at c;unfold cp at c;rw[List.filterMap_cons,d]at c;exact c
def Inv.stkFree(a:Inv X U I H s):∀b∈cp X.stack,H b=none:=λb c=>by
 rcases YU.mp (a.stkSub b c)with e|c
 .rw[e];exact a.free
 .obtain⟨_,o,d,_⟩:=a.ok.funs.mem c;exact a.base.free b o d (a.ok.frf b c) λz=>a.ok.exfs b z c
def Inv.step{g':wy}{d':Drawn}(a:Inv X U I H s)
 (F:∀b∈ch,(b∈X.ex\/X.s₀.zs<=b)/\b≠X.env.locals/\(∀x c,X.env.cells.lookup x=some c->c≠b)/\∀p∈X.pn++U,p.1≠b)
 (g:∀b o,b≠X.env.locals->b∉X.fs->b∉ch->s.heap.get? b=some o->H b=none->h'.get? b=some o)
 (slot:∀b o,b≠X.env.locals->b∈X.fs->b∉ch->s.heap.get? b=some o->H b=none->∃O,h'.get? b=some { o with slots:=O })(free:∀b o,b∉ch->s.heap.get? b=some o->H b=none->H' b=none)
 (j:∀b o,b∉ch->s.heap.get? b=some o->∃o',h'.get? b=some o')
 (A:∀b G,H b=some (.tup G)->H' b=some (.tup G))(J:∀b o u,H b=some (.frz o u)->H' b=some (.frz o u))(B:∀b L,H b=some (.tbl L)->∃D,H' b=some (.tbl (L++D)))
 (W:∀m,s.heap.Ns X.env.locals m->h'.Ns X.env.locals m)(hok:HOk X.prog X.w H' h')(hg:AllBare g') :
  Inv X U I H' { s with heap:=h',gens:=g',drawn:=d',toks:=t' }:=by
 have C:∀b o,X.s₀.heap.get? b=some o->b≠X.env.locals:=λb o e=>aQ (aR (aK e) a.ok.above);have M:∀b o,X.s₀.heap.get? b=some o->b∉X.ex->b∉ch:=λb o e f t=>by
  rcases(F b t).1 with z|z
  .exact f z
  .exact absurd (aR (aK e) z) (Wp _)
 have R:∀x c,X.env.cells.lookup x=some c->∀v,s.heap.IsCell c v->h'.IsCell c v:=λx c e v hP=>by
  obtain⟨o,y,hd⟩:=hP;have E:c∉ch:=λz=>(F c z).2.2.1 x c e rfl;by_cases V:c∈X.fs
  .obtain⟨O,q⟩:=slot c o (a.cne x c e) V E y (a.freeC x c e);exact⟨_,q,hd⟩
  .exact⟨o,g c o (a.cne x c e) V E y (a.freeC x c e),hd⟩
 refine⟨a.ok,a.os,hg,⟨λb o e n t f=>?_,λb o e n t f=>?_,λb o e n f=>?_,λb o e f=>?_,λb G e=>A b G (a.base.tups b G e),λb o G e=>J b o G (a.base.frzs b o G e),λb L e=>?_⟩,?_,λx c e=>?_,?_,λx c e=>?_,λp S=>?_,hok,a.len⟩
 .exact g b o (C b o e) t (M b o e f) (a.base.keep b o e n t f) (a.base.free b o e n f)
 .obtain⟨O,h⟩:=a.base.slot b o e n t f;obtain⟨kF,K⟩:=slot b _ (C b o e) t (M b o e f) h (a.base.free b o e n f);exact⟨kF,K⟩
 .obtain⟨o',h⟩:=a.base.there b o e f;exact free b o' (M b o e f) h (a.base.free b o e n f)
 .obtain⟨o',h⟩:=a.base.there b o e f;exact j b o' (M b o e f) h
 .obtain⟨Z,h⟩:=a.base.tbls b L e;obtain⟨Y,K⟩:=B b _ h;exact⟨Z++Y,by rw[K,Array.append_assoc]⟩
 .obtain⟨m,hn,hl⟩:=a.loc;refine⟨m,W m hn,λi x v h K e3=>?_⟩;obtain⟨u,r,l⟩:=hl i x v h K e3;refine⟨u,r,?_⟩;rcases l with l|⟨k,c,e,z⟩
  .exact .inl l
  .exact .inr ⟨k,c,e,R x c e _ z⟩
 .obtain⟨v,z⟩:=a.cell x c e;exact⟨v,R x c e v z⟩
 .obtain⟨m,⟨o,_,_,y,_⟩,_⟩:=a.loc;exact free _ o (λz=>(F _ z).2.1 rfl) y a.free
 .obtain⟨v,o,y,hd⟩:=a.cell x c e;exact free c o (λz=>(F c z).2.2.1 x c e rfl) y (a.freeC x c e)
 .obtain⟨e,n,Q,P,d⟩:=a.pin p S;have E:p.1∉ch:=λz=>(F p.1 z).2.2.2 p S rfl;exact⟨g p.1 p.2 Q P E e n,free p.1 p.2 E e n,Q,P,d⟩
def Inv.un(a:Inv X U I H s)(u:Un X.fs [] H H' s.heap h')(hok:HOk X.prog X.w H' h'):Inv X U I H' { s with heap:=h',toks:=t' }:=by
 obtain⟨m,⟨o,t,v,d,r⟩,_⟩:=id a.loc;obtain⟨p,l⟩:=u.any d a.free vz;exact a.step (g':=s.gens) (d':=s.drawn) (ch:=[]) (λ_ z=>nomatch z) (λb o _ c _ e n=>u.keep b o e n c vz) (λb o _ c _ e n=>u.slot b o e n c vz) (λb o _ e n=>u.free b o e n vz) (λb o _ e=>u.there b o e vz) u.tups u.frzs u.tbls (λq k=>by
  obtain⟨o',i,h,g,j⟩:=k;rw[d]at g;cases g;exact⟨_,i,h,l,j⟩) hok a.bare
def Inv.call{g':wy}{d':Drawn}(a:Inv X U I H s)(u:Un (cp X.stack) ch H H' s.heap h')(hok:HOk X.prog X.w H' h')(t:AllBare g')
 (h:∀b∈ch,(b∈X.ex\/X.s₀.zs<=b)/\b≠X.env.locals/\(∀x c,X.env.cells.lookup x=some c->c≠b)/\∀p∈X.pn++U,p.1≠b) :
  Inv X U I H' { s with heap:=h',gens:=g',drawn:=d',toks:=t' }:=by
 obtain⟨m,⟨o,B,C,f,r⟩,_⟩:=id a.loc;obtain⟨y,d⟩:=u.any f a.free λz=>(h _ z).2.1 rfl;exact a.step (ch:=ch) h (λb o d v hc e n=>u.keep b o e n (λz=>(YU.mp (a.stkSub b z)).elim d v) hc) (λb o _ _ hc e n=>u.any e n hc) (λb o hc e n=>u.free b o e n hc) (λb o hc e=>u.there b o e hc) u.tups u.frzs u.tbls (λA q=>by
  obtain⟨o',k,j,i,l⟩:=q;rw[f]at i;cases i;exact⟨_,k,j,d,l⟩) hok t
def Inv.turned{it:Addr}(a:Inv X U I H s)(k:∀b o,b≠it->s.heap.get? b=some o->h'.get? b=some o)(i:H it=none)(g:it≠X.env.locals)
 (y:it∈X.ex\/X.s₀.zs<=it)(w:∀x c,X.env.cells.lookup x=some c->c≠it)(t:∀p∈X.pn++U,p.1≠it):Inv X U I H { s with heap:=h',toks:=t' }:=by
 have d:∀b u,H b=some u->b≠it:=λb u e z=>by rw[z,i]at e;cases e
 refine a.step (g':=s.gens) (d':=s.drawn) (ch:=[it]) (λb l=>?_) (λb o _ _ hc e _=>k b o (λz=>hc (by simp[z])) e) (λb o _ _ hc e _=>⟨o.slots,k b o (λz=>hc (by simp[z])) e⟩) (λ_ _ _ _ n=>n)
  (λb o hc e=>⟨o,k b o (λz=>hc (by simp[z])) e⟩) (λ_ _ e=>e) (λ_ _ _ e=>e) (λb C e=>⟨#[],by rw[e];simp⟩) (λm j=>?_) (λb u e=>?_) a.bare
 .have e:b=it:=by simpa using l
  subst e;exact⟨y,g,w,t⟩
 .obtain⟨o,A,B,h,r⟩:=j;exact⟨o,A,B,k _ o (Ne.symm g) h,r⟩
 .refine(a.hok b u e).stay (λc v hc q=>k c v ?_ q) (λ_ q=>q) λ_ _ q=>q;rcases hc with z|z
  .rw[z];exact d b u e
  .exact d c _ z
def Inv.tok(a:Inv X U I H s)(t:Nat):Inv X U I H { s with toks:=t }:=a.un (h':=s.heap) (t':=t) Un.refl a.hok
def Inv.kept{t':Nat}(a:Inv X U I H s)(k:∀b u,s.heap.get? b=some u->h'.get? b=some u):Inv X U I H { s with heap:=h',toks:=t' }:=a.un (Un.kept k) (a.hok.kept k)
def Inv.laid{a:Addr}{o:HO}{t':Nat}(c:Inv X U I H s)(k:∀b u,s.heap.get? b=some u->h'.get? b=some u)(e:s.zs<=a)(d:fQ X.prog X.w (upd H a o) h' a o) :
  Inv X U I (upd H a o) { s with heap:=h',toks:=t' }:=c.un (Un.laid k e (c.hok.fresh e)) (c.hok.laid k e d)
def Inv.write{x e:Addr}{o:HO}{t':Nat}(a:Inv X U I H s)(d:jX (H x))(h:e=x\/H e=some (.own x))(k:∀b u,b≠e->s.heap.get? b=some u->h'.get? b=some u)(f:∃u,h'.get? e=some u)
 (c:fQ X.prog X.w (upd H x o) h' x o):Inv X U I (upd H x o) { s with heap:=h',toks:=t' }:=a.un (Un.write d h k f) (a.hok.write d h k f c)
def Inv.pins_of{b:Δ}(a:Inv X U I H s)(h:∀p∈b,s.heap.get? p.1=some p.2/\H p.1=none/\p.1≠X.env.locals/\p.1∉X.fs/\∀v,p.2.data≠.cell v):Inv X b I H s :=
 ⟨a.ok,a.os,a.bare,a.base,a.loc,a.cell,a.free,a.freeC,λp c=>(Y1.mp c).elim (λz=>a.pin p (UP _ z)) (h p),a.hok,a.len⟩
def Nz{N:Φ}(c:N.Nodup){j:Nat}(a:N[i]?=some x)(b:N[j]?=some x):i=j:=by
 obtain⟨g,e⟩:=ao.mp a;obtain⟨f,d⟩:=ao.mp b;exact(List.getElem_inj c).mp (e.trans d.symm)
abbrev zd(X:Cx)(a:Str):Prop:=X.fn a=true\/X.env.scope.names.lookup a=some .local
def abP(f:Inv X U I H s)(hN:X.N.Nodup)(K:X.N[i]?=some x)(t:fb X.env.scope x)(r:z0 v u)
 (h:∀s',Inv X U (I.set i (some v)) H s'->(∃a,Heap.SameBut a s.heap s'.heap/\(a=X.env.locals\/X.env.cells.lookup x=some a))->Q () s')(hf:zd X x):wpAny M A (storeName X.env x u) Q E s:=by
 obtain⟨m,hn,hl⟩:=id f.loc;have gu:(X.env.scope.kind == .class || (X.env.scope.kind == .module&&X.env.locals != X.env.globals))=false:=by rw[f.ok.kind];rfl
 have nc:i<I.length:=by rw[f.len];exact(ao.mp K).1
 have G:=f.cne;have eT:∀{a:Addr}{h':Heap},(∃o,s.heap.get? a=some o/\H a=none)->Heap.SameBut a s.heap h'->HOk X.prog X.w H h':=λ{a h'}ha g b ob e=>by
  obtain⟨_,_,cS⟩:=ha;refine(f.hok b ob e).stay (λc L hc q=>(g.2 c ?_).trans q) (λ_ q=>q) λ_ _ q=>q;rintro rfl;rcases hc with rfl|hc
  .rw[cS]at e;cases e
  .rw[cS]at hc;cases hc
 rcases t with C|C
 .refine wpAny_storeName_local C hn (λh' rX g=>?_) gu;obtain⟨oL,_,_,hoL,_⟩:=id hn;refine h _ ⟨f.ok,f.os,f.bare,⟨λb o e n F t=>?_,λb o e n F t=>?_,f.base.free,λb o e t=>?_,f.base.tups,f.base.frzs,f.base.tbls⟩,⟨_,rX,λj y R l B e3=>?_⟩,λy c e=>?_,f.free,f.freeC,λp Z=>?_,eT ⟨oL,hoL,f.free⟩ g,by simpa using f.len⟩ ⟨_,g,.inl rfl⟩
  .exact(g.2 b (aQ (aR (aK e) f.ok.above))).trans (f.base.keep b o e n F t)
  .obtain⟨T,l⟩:=f.base.slot b o e n F t;exact⟨T,(g.2 b (aQ (aR (aK e) f.ok.above))).trans l⟩
  .obtain⟨o',l⟩:=f.base.there b o e t;exact⟨o',(g.2 b (aQ (aR (aK e) f.ok.above))).trans l⟩
  .by_cases D:j=i
   .subst D;rw[K]at l;cases l;rw[UZ nc]at B;cases B;exact⟨u,r,.inl ⟨C,by simp⟩⟩
   .rw[VT (Ne.symm D)]at B;obtain⟨S,V,q⟩:=hl j y R l B e3;refine⟨S,V,?_⟩;rcases q with⟨k,e⟩|⟨k,c,e,z⟩
    .refine .inl ⟨k,?_⟩;have:y≠x:=λe=>D (Nz hN l (e ▸ K));simp[this,e]
    .exact .inr ⟨k,c,e,z.sameBut g (G y c e)⟩
  .obtain⟨L,z⟩:=f.cell y c e;exact⟨L,z.sameBut g (G y c e)⟩
  .obtain⟨e,n,O,W,d⟩:=f.pin p Z;exact⟨(g.2 p.1 O).trans e,n,O,W,d⟩
 .have Y:X.fn x:=by
   rcases hf with z|z
   .exact z
   .rw[z]at C;cases C
  obtain⟨c,hc⟩:=f.ok.has x (.inl C);obtain⟨L,z⟩:=f.cell x c hc;refine wpAny_storeName_cell f.ok.kind C hc z (λh' eC g=>?_);obtain⟨oc,J,rL⟩:=id z;refine h { s with heap:=h' } ⟨f.ok,f.os,f.bare,⟨λb o e n F t=>?_,λb o e n F t=>?_,f.base.free,λb o e t=>?_,f.base.tups,f.base.frzs,f.base.tbls⟩,⟨m,hn.sameBut g (Ne.symm (G x c hc)),λj y R l B e3=>?_⟩,λy P e=>?_,f.free,f.freeC,λp Z=>?_,eT ⟨oc,J,f.freeC x c hc⟩ g,by simpa using f.len⟩ ⟨c,g,.inr hc⟩
  .exact(g.2 b (aQ (aR (aK e) (f.ok.cab x c Y hc)))).trans (f.base.keep b o e n F t)
  .obtain⟨T,l⟩:=f.base.slot b o e n F t;exact⟨T,(g.2 b (aQ (aR (aK e) (f.ok.cab x c Y hc)))).trans l⟩
  .obtain⟨o',l⟩:=f.base.there b o e t;exact⟨o',(g.2 b (aQ (aR (aK e) (f.ok.cab x c Y hc)))).trans l⟩
  .by_cases D:j=i
   .subst D;rw[K]at l;cases l;rw[UZ nc]at B;cases B;exact⟨u,r,.inr ⟨.inl C,c,hc,eC⟩⟩
   .rw[VT (Ne.symm D)]at B;obtain⟨S,V,q⟩:=hl j y R l B e3;refine⟨S,V,?_⟩;rcases q with q|⟨k,P,e,z'⟩
    .exact .inl q
    .refine .inr ⟨k,P,e,z'.sameBut g ?_⟩;rintro rfl;exact D (Nz hN l (f.ok.inj _ _ _ e hc ▸ K))
  .by_cases g6:P=c
   .subst g6;exact⟨_,eC⟩
   .obtain⟨w2,z2⟩:=f.cell y P e;exact⟨w2,z2.sameBut g g6⟩
  .obtain⟨e,n,O,W,d⟩:=f.pin p Z;refine⟨(g.2 p.1 ?_).trans e,n,O,W,d⟩;intro q;rw[q,J]at e;have q':oc=p.2:=Option.some.inj e;exact d L (by rwa[<- q'])
def uP(a:Inv X U I H s)(e:X.N.Nodup)(c:X.N[i]?=some x)(b:fb X.env.scope x)(r:z0 v u)
 (h:∀s',Inv X U (I.set i (some v)) H s'->Q () s')(d:zd X x:=by first|exact .inl rfl|exact .inr rfl|assumption):wpAny M A (storeName X.env x u) Q E s :=
 abP a e c b r (λs' f _=>h s' f) d
def Inv.call'(a:Inv X U I H s)(g:s'.os=s.os)(u:Un (cp X.stack) ch H H' s.heap s'.heap)(hok:HOk X.prog X.w H' s'.heap)(h:AllBare s'.gens)
 (i:∀b∈ch,(b∈X.ex\/X.s₀.zs<=b)/\b≠X.env.locals/\(∀x c,X.env.cells.lookup x=some c->c≠b)/\∀p∈X.pn++U,p.1≠b):Inv X U I H' s':=by
 obtain⟨h',d,f,t',o'⟩:=s';have e:o'=s.os:=g;subst e;exact a.call (g':=d) (t':=t') (d':=f) u hok h i
abbrev XK:=Value->Ξ->Hp->Prop
abbrev St:=List xI
abbrev VK:=V->Hp->Prop
abbrev TE:=St->Hp->VK->Prop
abbrev TT:=St->Hp->(Bool->Hp->Prop)->Prop
abbrev TA:=St->Hp->(Ζ->Hp->Prop)->Prop
structure Ends where
 nx:St->Hp->Prop
 rt:VK
 bk:St->Hp->Prop:=λ_ _=>False
 ct:St->Hp->Prop:=λ_ _=>False
abbrev TS:=Ends->St->Hp->Prop
def EP(X:Cx)(U:Δ)(I:St)(Q:VK)(u:Value)(s':Shared):Prop:=∃v H',Inv X U I H' s'/\z0 v u/\Q v H'
def TP(X:Cx)(U:Δ)(I:St)(Q:Bool->Hp->Prop)(b:Bool)(s':Shared):Prop:=∃H',Inv X U I H' s'/\Q b H'
def AP(X:Cx)(U:Δ)(I:St)(Q:Ζ->Hp->Prop)(Z:Θ)(s':Shared):Prop:=∃a H',Inv X U I H' s'/\z1 a Z/\Q a H'
def SP(X:Cx)(U:Δ)(D:Ends)(f:Flow)(s':Shared):Prop :=
 match f with
 |.next=>∃a H',Inv X U a H' s'/\D.nx a H'
 |.brk=>∃a H',Inv X U a H' s'/\D.bk a H'
 |.cont=>∃a H',Inv X U a H' s'/\D.ct a H'
 |.ret u=>∃v a H',Inv X U a H' s'/\z0 v u/\D.rt v H'
def PE(X:Cx)(e:Expr)(t:TE):Prop :=
 ∀(U:Δ)(s:Shared)(I:St)(H:Hp)(Q:VK),Inv X U I H s->t I H Q->wpAny (model X.prog X.w) X.A (eval e X.env) (EP X U I Q) X.xe s
def PT(X:Cx)(e:Expr)(t:TT):Prop :=
 ∀(U:Δ)(s:Shared)(I:St)(H:Hp)(Q:Bool->Hp->Prop),Inv X U I H s->t I H Q->wpAny (model X.prog X.w) X.A (isTrue e X.env (eval e X.env)) (TP X U I Q) X.xe s
def PW(X:Cx)(e:Expr)(t:TT):Prop :=
 ∀(a:Sem Value)(U:Δ)(s:Shared)(I:St)(H:Hp)(Q:Bool->Hp->Prop),Inv X U I H s->t I H Q->wpAny (model X.prog X.w) X.A (isTrue e X.env a) (TP X U I Q) X.xe s
def PW.pt{X:Cx}{t:TT}(h:PW X e t):PT X e t:=h _
def PA(X:Cx)(a:xb)(t:TA):Prop :=
 ∀(O:Pos)(U:Δ)(s:Shared)(I:St)(H:Hp)(Q:Ζ->Hp->Prop),Inv X U I H s->t I H Q->wpAny (model X.prog X.w) X.A (spliced (backTo O (starEach a X.env))) (AP X U I Q) X.xe s
def PS(X:Cx)(a:Stmt)(t:TS):Prop :=
 ∀(U:Δ)(s:Shared)(I:St)(H:Hp)(D:Ends),Inv X U I H s->t D I H->wpAny (model X.prog X.w) X.A (exec a X.env) (SP X U D) X.xe s
def PSs(X:Cx)(a:xS)(t:TS):Prop :=
 ∀(U:Δ)(s:Shared)(I:St)(H:Hp)(D:Ends),Inv X U I H s->t D I H->wpAny (model X.prog X.w) X.A (execs a X.env) (SP X U D) X.xe s
def ap{b:Type}{t:Sem b}{Q c:b->Shared->Prop}(h:wpAny M A t Q E s)(d:∀a s,Q a s->c a s):wpAny M A t c E s:=wpAny_mono h d λ_ _ x=>x
variable{I:St}{c tg:Expr}{G ys:Ζ}{K:Frag}{O bi:Pos}{es:xb}{k:Nat}{te:TE}
section
variable{X:Cx}
def WD(i:Nat):TE:=λI H Q=>∃v,I[i]?=some (some v)/\Q v H
def tC(v:V):TE:=λ_ H Q=>Q v H
abbrev zz(a:Str):Prop:=(a==("__debug__":Str))=false
abbrev zk(a:Str):Prop:=(a==("__classdict__":Str))=false
def ZN{O:Pos}(p:X.N[i]?=some x)(j:jx X.env.scope x)(hd:autoParam (zz x) zP4)(q:autoParam (zk x) zP4):PE X (.Name x O) (WD i):=by
 intro U s I H Q a h;obtain⟨v,e,h⟩:=h;obtain⟨m,k,o⟩:=a.loc;obtain⟨u,r,l⟩:=o i x v p e j;have d:EP X U I Q u s:=⟨v,H,a,r,h⟩;rcases l with⟨b,n⟩|⟨b,c,f,g⟩
 .exact wpAny_Name (wpAny_loadName_local a.ok.kind b k n d) hd
 .rcases b with b|b
  .exact wpAny_Name (wpAny_loadName_cell a.ok.kind b f g d) hd
  .exact wpAny_Name (wpAny_loadName_free a.ok.kind b f g d q) hd
def iU{i j O} : PE X (.Constant (.int i) j O) (tC (.int i)):=λ_ _ _ H _ I h=>wpAny_Constant_int ⟨.int i,H,I.tok _,⟨_,rfl⟩,h⟩
def pa{b j O} : PE X (.Constant (.bool b) j O) (tC (.bl b)):=λ_ _ _ H _ I h=>Constant_bool ⟨.bl b,H,I,rfl,h⟩
def F4{j O} : PE X (.Constant .none j O) (tC .non):=λ_ _ _ H _ I h=>Constant_none ⟨.non,H,I,rfl,h⟩
def QX{x j O} : PE X (.Constant (.str x) j O) (tC (.str x)):=λ_ _ _ H _ I h=>Calls.Constant_str ⟨.str x,H,I.tok _,⟨_,rfl⟩,h⟩
def Gl(X:Cx)(x:Str):Prop:=X.env.kindOf x=some .globalImplicit
def sE{O:Pos}{Q:Ε}(a:Inv X U I H s)(c:Gl X x)(b:X.mg x=some u)(h:Q u s)
 (hd:autoParam (zz x) zP4):wpAny (model X.prog X.w) X.A (eval (.Name x O) X.env) Q E s :=
 Calls.Name_function_global a.ok.kind c (Calls.loadGlobal_global (by rw[a.ok.glob];exact a.mod.glob.keeps a.bk) b h) hd
def Df{O:Pos}{Q:Ε}(a:Inv X U I H s)(e:Gl X x)(d:X.mg x=none)(b:bootBuiltins x=some u)(h:Q u s)
 (c:autoParam (x≠"__name__") zP4)(hd:autoParam (zz x) zP4):wpAny (model X.prog X.w) X.A (eval (.Name x O) X.env) Q E s:=by
 obtain⟨i,g,f⟩:=a.mod.blt;exact Calls.Name_function_global a.ok.kind e (Calls.loadGlobal_builtin (by rw[a.ok.glob];exact a.mod.glob.keeps a.bk) d (by rw[a.ok.blt];exact g.keeps a.bk) ((f x c).trans b) h) hd
def IA{O:Pos}(b:Gl X x)(a:X.mg x=some u)(r:z0 v u)(hd:autoParam (zz x) zP4):PE X (.Name x O) (tC v) :=
 λ_ _ _ H _ I h=>sE I b a ⟨v,H,I,r,h⟩ hd
def _8{O:Pos}(d:Gl X x)(c:X.mg x=none)(a:bootBuiltins x=some u)(r:z0 v u)(b:autoParam (x≠"__name__") zP4)(hd:autoParam (zz x) zP4):PE X (.Name x O) (tC v) :=
 λ_ _ _ H _ I h=>Df I d c a ⟨v,H,I,r,h⟩ b hd
variable{a b:Expr}{ta tb:TE}{O:Pos}
def PC(X:Cx)(e:CmpOp)(a b:Expr)(t:TE):Prop :=
 ∀(U:Δ)(s:Shared)(I:St)(H:Hp)(Q:VK),Inv X U I H s->t I H Q ->
  wpAny (model X.prog X.w) X.A (eval a X.env) (λv d=>wpAny (model X.prog X.w) X.A (eval b X.env) (λu c=>wpAny (model X.prog X.w) X.A (compareOp e v u) (EP X U I Q) X.xe c) X.xe d) X.xe s
def tB(t:TE):TT:=λI H Q=>t I H λx Y=>∃c,x=.bl c/\Q c Y
def FK{f:CmpOp}{t:TE}(h:PC X f a b t)(g:‹behindInMarks f b=false›):PT X (.Compare a [f] [b] O) (tB t):=by
 intro U s I H Q e hw;refine wpAny_isTrue_Compare1 (ap (h U s I H _ e hw) λv p g=>ap g λu o l=>ap l λc n k=>?_) g;obtain⟨x,Y,m,i,j⟩:=k;obtain⟨d,rfl,q⟩:=j;cases i;exact wpAny_truthy_bool ⟨Y,m,q⟩
variable{tA mr:TT}{rest:xb}
def O3(t u:TT):TT:=λI H Q=>t I H λc Y=>if c=true then u I Y Q else Q false Y
def rj(t u:TT):TT:=λI H Q=>t I H λc Y=>if c=true then Q true Y else u I Y Q
def yd(t:TT):TT:=λI H Q=>t I H λc Y=>Q (!c) Y
def pw_and1(d:PT X a tA):PW X (.BoolOp .And [a] O) tA:=by
 intro f U s I H Q b h;refine isTrue_and (ap (d U s I H Q b h) λc g e=>?_);cases c with
 |true=>exact isTrue_and_nil e
 |false=>exact e
def pw_or1(d:PT X a tA):PW X (.BoolOp .Or [a] O) tA:=by
 intro f U s I H Q b h;refine isTrue_or (ap (d U s I H Q b h) λc g e=>?_);cases c with
 |false=>exact isTrue_or_nil e
 |true=>exact e
def pw_and(k:PT X a tA)(j:PW X (.BoolOp .And (b::rest) O) mr):PW X (.BoolOp .And (a::b::rest) O) (O3 tA mr):=by
 intro g U s I H Q d h;refine isTrue_and (ap (k U s I H _ d h) λc i l=>?_);obtain⟨Y,f,e⟩:=l;cases c with
 |true=>exact j g U i I Y Q f e
 |false=>exact⟨Y,f,e⟩
def pw_or(k:PT X a tA)(j:PW X (.BoolOp .Or (b::rest) O) mr):PW X (.BoolOp .Or (a::b::rest) O) (rj tA mr):=by
 intro g U s I H Q d h;refine isTrue_or (ap (k U s I H _ d h) λc i l=>?_);obtain⟨Y,f,e⟩:=l;cases c with
 |true=>exact⟨Y,f,e⟩
 |false=>exact j g U i I Y Q f e
def qf(d:PT X a tA):PT X (.UnaryOp .Not a O) (yd tA):=by
 intro U s I H Q b h;exact isTrue_not (d U s I H (λc Y=>Q (!c) Y) b h)
def Pf(ta tb:TE):TE:=λI H Q=>ta I H λx Y=>∃c,x=.bl c/\if c=true then tb I Y Q else Q (.bl false) Y
def Pi(ta:TE):TE:=λI H Q=>ta I H λx Y=>∃c,x=.bl c/\Q (.bl (!c)) Y
def GT{c}{t:TE}(h:PE X a t):PE X (.BoolOp c [a] O) t:=λU s I H Q b d=>BoolOp_one (h U s I H Q b d)
def FH(k:PE X a ta)(j:PE X (.BoolOp .And (b::rest) O) tb):PE X (.BoolOp .And (a::b::rest) O) (Pf ta tb):=by
 intro U s I H Q d h;refine BoolOp_and (ap (k U s I H _ d h) λv g l=>?_);obtain⟨x,Y,f,i,e⟩:=l;obtain⟨c,rfl,e⟩:=e;cases i;refine wpAny_truthy_bool ?_;cases c with
 |true=>exact j U g I Y Q f e
 |false=>exact⟨.bl false,Y,f,rfl,e⟩
def SY(f:PE X a ta):PE X (.UnaryOp .Not a O) (Pi ta):=by
 intro U s I H Q b h;refine UnaryOp_ (ap (f U s I H _ b h) λv j g=>?_);obtain⟨x,Y,i,e,d⟩:=g;obtain⟨c,rfl,d⟩:=d;cases e;exact not_of (wpAny_truthy_bool ⟨.bl (!c),Y,i,rfl,d⟩)
def KO(t:TT)(ta tb:TE):TE:=λI H Q=>t I H λc Y=>if c=true then ta I Y Q else tb I Y Q
def aeg(hc:PT X c tA)(k:PE X a ta)(j:PE X b tb):PE X (.IfExp c a b O) (KO tA ta tb):=by
 intro U s I H Q e h;refine wpAny_IfExp (ap (hc U s I H _ e h) λd f l=>?_);obtain⟨Y,i,g⟩:=l;cases d with
 |true=>exact k U f I Y Q i g
 |false=>exact j U f I Y Q i g
end
def SqL(K:Frag)(H:Hp)(a:Addr)(G:Ζ):Prop :=
 Rd H a (.lst G) \/
  ∃(o:Obj)(b:xD)(n:Nat),K.lookup a=some o/\o.cls=.type "list"/\o.dict=none/\o.data=.seq b n/\b.size<=sizeLine/\z1 G b.toList
def SqT(K:Frag)(H:Hp)(a:Addr)(G:Ζ):Prop :=
 Rd H a (.tup G) \/
  ∃(o:Obj)(b:xD)(n:Nat),K.lookup a=some o/\o.cls=.type "tuple"/\o.data=.seq b n/\b.size<=sizeLine/\z1 G b.toList
def MB:Value->xI
 |.none=>some .non
 |.bool b=>some (.bl b)
 |.int i _=>some (.int i)
 |.str x _=>some (.str x)
 |.bytes b _=>some (.byt b)
 |.float b _=>some (.flt b)
 |.ref a=>some (.ref a)
 |.type n=>some (.ty n)
 |_=>none
def z0.abs{x:V}(r:z0 x u):MB u=some x:=by
 cases x with
 |non=>cases r;rfl
 |bl _=>cases r;rfl
 |int _=>obtain⟨t,rfl⟩:=r;rfl
 |str _=>obtain⟨t,rfl⟩:=r;rfl
 |byt _=>obtain⟨t,rfl⟩:=r;rfl
 |flt _=>obtain⟨t,rfl⟩:=r;rfl
 |ref _=>cases r;rfl
 |ty _=>cases r;rfl
def z0.inj{x y:V}{u:Value}(r:z0 x u)(q:z0 y u):x=y:=Option.some.inj (r.abs.symm.trans q.abs)
theorem z1.inj{G ys:Ζ}{Z:Θ}(h:z1 G Z)(k:z1 ys Z):G=ys:=by
 cases h with
 |nil=>cases k;rfl
 |cons r t=>cases k with|cons a u=>rw[r.inj a,z1.inj t u]
def SqL.of(h:H a=some (.lst G)):SqL K H a G:=.inl (.inl h)
def SqT.of(h:H a=some (.tup G)):SqT K H a G:=.inl (.inl h)
def Inv.list(b:Inv X U I H s)(h:SqL X.K H a G):∃c:Θ,z1 G c/\PlainL s.heap a c.toArray/\G.length<=sizeLine:=by
 rcases h with h|⟨o,c,n,g,i,hd,f,d,r⟩
 .obtain⟨z,c,n,r,e⟩:=h.ok b.hok;exact⟨c,r,⟨_,n,e,rfl,rfl,rfl⟩,z⟩
 .refine⟨c.toList,r,⟨o,n,b.kIn a o g,i,hd,by simpa using f⟩,?_⟩;have e:=r.length;simp only[Array.length_toList]at e;exact aL (WH e) d
def Inv.tuple(b:Inv X U I H s)(h:SqT X.K H a G):∃c:Θ,z1 G c/\IsTup s.heap a c.toArray/\G.length<=sizeLine:=by
 rcases h with h|⟨o,c,n,g,i,f,d,r⟩
 .obtain⟨z,c,r,p⟩:=h.ok b.hok;exact⟨c,r,p,z⟩
 .refine⟨c.toList,r,⟨o,b.kIn a o g,i,n,by simpa using f⟩,?_⟩;have e:=r.length;simp only[Array.length_toList]at e;exact aL (WH e) d
def Inv.list_inj(b:Inv X U I H s)(h:SqL X.K H a G)(h':SqL X.K H a ys):G=ys:=by
 obtain⟨f,r,⟨o,n,e,_,_,d⟩,_⟩:=b.list h;obtain⟨c,j,⟨o',l,g,_,_,i⟩,_⟩:=b.list h';rw[e]at g;cases g;rw[d]at i;injection i with k _;have:f=c:=by simpa using ZH Array.toList k
 subst this;exact r.inj j
def Inv.tuple_inj(b:Inv X U I H s)(h:SqT X.K H a G)(h':SqT X.K H a ys):G=ys:=by
 obtain⟨f,r,⟨o,e,_,n,d⟩,_⟩:=b.tuple h;obtain⟨c,j,⟨o',g,_,l,i⟩,_⟩:=b.tuple h';rw[e]at g;cases g;rw[d]at i;injection i with k _;have:f=c:=by simpa using ZH Array.toList k
 subst this;exact r.inj j
abbrev Cx.wish(X:Cx)(E:Ε):Cx:={ X with xe:=E }
abbrev Cx.nox(X:Cx):Cx:=X.wish λ_ _=>False
def Cx.Ok.wish{X:Cx}(a:X.Ok)(E:Ε):(X.wish E).Ok :=
 ⟨a.mod,a.kind,a.glob,a.blt,a.above,a.inj,a.has,a.cab,a.hd,a.frames,a.stk,a.exf,a.bs,a.bsz,a.noex,a.exfs,a.funs,a.frf⟩
def Cx.Ok.unwish{X:Cx}(a:(X.wish E).Ok):X.Ok :=
 ⟨a.mod,a.kind,a.glob,a.blt,a.above,a.inj,a.has,a.cab,a.hd,a.frames,a.stk,a.exf,a.bs,a.bsz,a.noex,a.exfs,a.funs,a.frf⟩
def Inv.wish(a:Inv X U I H s)(E:Ε):Inv (X.wish E) U I H s:=⟨a.ok.wish E,a.os,a.bare,a.base,a.loc,a.cell,a.free,a.freeC,a.pin,a.hok,a.len⟩
def Inv.unwish(a:Inv (X.wish E) U I H s):Inv X U I H s:=⟨a.ok.unwish,a.os,a.bare,a.base,a.loc,a.cell,a.free,a.freeC,a.pin,a.hok,a.len⟩
def SP.unwish{D:Ends}{f:Flow}{s':Shared}(h:SP (X.wish E) U D f s'):SP X U D f s':=by
 cases f with
 |next=>obtain⟨a,H',I,q⟩:=h;exact⟨a,H',I.unwish,q⟩
 |brk=>obtain⟨a,H',I,q⟩:=h;exact⟨a,H',I.unwish,q⟩
 |cont=>obtain⟨a,H',I,q⟩:=h;exact⟨a,H',I.unwish,q⟩
 |ret u=>obtain⟨v,a,H',I,r,q⟩:=h;exact⟨v,a,H',I.unwish,r,q⟩
def PSs.nox{b:xS}{t:TS}(h:PSs X.nox b t):PSs X b t:=λU s I H D a c =>
 wpAny_mono (h U s I H D (a.wish _) c) (λ_ _ q=>q.unwish) λ_ _ z=>False.elim z
section
variable{X:Cx}{st:Stmt}{rest:xS}{t u:TS}{e:Expr}{te:TE}{O:Pos}
def PN:TS:=λD I H=>D.nx I H
def ik(t u:TS):TS:=λD I H=>t { D with nx:=u D } I H
def RD:PSs X [] PN:=λ_ _ I H _ a h=>wpAny_execs_nil ⟨I,H,a,h⟩
def jc(e:PS X st t)(d:PSs X rest u):PSs X (st::rest) (ik t u):=by
 intro U s I H D a h;refine wpAny_execs_cons (ap (e U s I H { D with nx:=u D } a h) λf c q=>?_);cases f with
 |next =>
  obtain⟨b,H',g,q⟩:=q;exact d U c b H' D g q
 |ret v=>exact q
 |brk=>exact q
 |cont=>exact q
def jj(b:PS X st t):PSs X [st] t:=by
 intro U s I H D a h;refine wpAny_execs_cons (ap (b U s I H D a h) λf c q=>?_);cases f with
 |next=>exact wpAny_execs_nil q
 |ret v=>exact q
 |brk=>exact q
 |cont=>exact q
def Inv.quiet(a:Inv X U I H s):interactive X.env=false:=by simp[interactive,a.ok.kind]
def OR(te:TE):TS:=λD I H=>te I H λ_ Y=>D.nx I Y
def gO(d:PE X e te)(c:‹swapsWith e none O.line X.env=pure false›):PS X (.Expr e O) (OR te):=by
 intro U s I H D a h;exact wpAny_Expr_any (ap (d U s I H _ a h) λv i f=>by obtain⟨x,Y,g,j,b⟩:=f;exact⟨I,Y,g,b⟩) a.quiet c
def BS(te:TE):TS:=λD I H=>te I H D.rt
def ud(d:PE X e te):PS X (.Return (some e) O) (BS te):=by
 intro U s I H D a h;exact wpAny_Return_some (ap (d U s I H _ a h) λv i f=>by obtain⟨x,Y,g,b,c⟩:=f;exact⟨x,I,Y,g,b,c⟩)
def ui(c:TT)(t u:TS):TS:=λD I H=>c I H λb Y=>if b=true then t D I Y else u D I Y
def pP{a b:xS}{f:TT}(hc:PT X c f)(l:PSs X a t)(k:PSs X b u):PS X (.If c a b O) (ui f t u):=by
 intro U s I H D e h;refine wpAny_If (ap (hc U s I H _ e h) λd g m=>?_);obtain⟨Y,j,i⟩:=m;cases d with
 |true=>exact l U g I Y D j i
 |false=>exact k U g I Y D j i
def ZB:TS:=λ_ _ _=>False
def adt:PS X st ZB:=λ_ _ _ _ _ _ h=>h.elim
end
abbrev TG:=V->St->Hp->(St->Hp->Prop)->Prop
abbrev e9:=Ζ->St->Hp->(St->Hp->Prop)->Prop
def PG(X:Cx)(b:Expr)(t:TG):Prop :=
 ∀(U:Δ)(s:Shared)(I:St)(H:Hp)(v:V)(u:Value)(Q:St->Hp->Prop),Inv X U I H s->z0 v u->t v I H Q ->
  wpAny (model X.prog X.w) X.A (assign b X.env u) (λ_ s'=>∃a H',Inv X U a H' s'/\Q a H') X.xe s
def PGs(X:Cx)(W:xb)(t:e9):Prop :=
 ∀(U:Δ)(s:Shared)(I:St)(H:Hp)(b:Ζ)(Z:Θ)(Q:St->Hp->Prop),Inv X U I H s->z1 b Z->t b I H Q ->
  wpAny (model X.prog X.w) X.A (assignInOrder ((assignEach W X.env).map (·.2)) Z) (λ_ s'=>∃a H',Inv X U a H' s'/\Q a H') X.xe s
abbrev oj:=V->V->V->Hp->(Hp->Prop)->Prop
def A3(X:Cx)(t:oj):Prop :=
 ∀(U:Δ)(s:Shared)(I:St)(H:Hp)(o i v:V)(a b u:Value)(Q:Hp->Prop),Inv X U I H s->z0 o a->z0 i b->z0 v u->t o i v H Q ->
  wpAny (model X.prog X.w) X.A (setItem a b u) (λ_ s'=>∃H',Inv X U I H' s'/\Q H') X.xe s
abbrev l0:=V->V->Hp->VK->Prop
def qA(X:Cx)(a:Operator)(t:l0):Prop :=
 ∀(U:Δ)(s:Shared)(I:St)(H:Hp)(x y:V)(v u:Value)(Q:VK),Inv X U I H s->z0 x v->z0 y u->t x y H Q ->
  wpAny (model X.prog X.w) X.A (inplaceOp a v u) (EP X U I Q) X.xe s
def uO(i:Nat):TG:=λv I H Q=>Q (I.set i (some v)) H
def gJ(e:X.N.Nodup)(c:X.N[i]?=some x)(b:fb X.env.scope x)(d:zd X x:=by first|exact .inl rfl|exact .inr rfl|assumption):PG X (.Name x O) (uO i):=by
 intro U s I H v u Q a r h;exact wpAny_assign_Name (uP a e c b r (λs' f=>⟨_,H,f,h⟩) d)
def MD:e9:=λa I H Q=>a=[]/\Q I H
def PY(t:TG)(u:e9):e9:=λb I H Q=>∃v r,b=v::r/\t v I H λa H'=>u r a H' Q
def Ka:PGs X [] MD:=by
 intro U s I H b Z Q a r h;obtain⟨e,h⟩:=h;subst e;cases r;exact assignInOrder_nil ⟨I,H,a,h⟩
def qP{t:TG}{u:e9}(k:PG X e t)(j:PGs X es u)
 (g:‹(assignEach (e::es) X.env).map (·.2)=assign e X.env::(assignEach es X.env).map (·.2)›):PGs X (e::es) (PY t u):=by
 intro U s I H n Z Q a r h;obtain⟨v,vr,l,h⟩:=h;subst l;cases r with
 |cons r d =>
  rw[g];refine assignInOrder_cons (ap (k U s I H _ _ _ a r h) λ_ c i=>?_);obtain⟨b,Y,m,f⟩:=i;exact j U c b Y _ _ Q m d f
def Nd(K:Frag)(n:Nat)(t:e9):TG:=λv I H Q=>∃a G,v=.ref a/\SqT K H a G/\G.length=n/\t G I H Q
abbrev zD(X:Cx)(a:xb):Prop:=(assignEach a X.env).findIdx? (·.1)=none
def F5{t:e9}{n:Nat}(hc:X.calm)(h:PGs X es t)
 (m:‹(assignEach es X.env).length=n›)(w:‹zD X es›):PG X (.Tuple es k O) (Nd X.K n t):=by
 intro U s I H v u Q c r hw;obtain⟨a,G,q,l,p,hw⟩:=hw;subst q;cases r;obtain⟨g,d,j,y⟩:=c.tuple l;refine assign_Tuple_tuple (c.ok.hd hc) j (by simp[m,<- p,d.length]) w λh' i=>?_;have x:Inv X U I H { s with heap:=h' }:=c.kept (t':=s.toks) λb o e=>i b o (aQ (aK e)) e;exact h U _ I H G _ Q x (by simpa using d) hw
def NI(a b:TE)(t:oj):TG:=λv I H Q=>a I H λo Y=>b I Y λi d=>t o i v d λc=>Q I c
def Hm{o i:Expr}{e f:TE}{t:oj}(p:PE X o e)(q:PE X i f)(n:A3 X t)
 (w:∀v,assign (.Subscript o i O) X.env v=(do
   let b <- holding [v] (eval o X.env)
   let c <- holding [v,b] (eval i X.env)
   standAt O
   holding [v,b,c] (setItem b c v)
   release [v,b,c] []):=by intro _;rfl):PG X (.Subscript o i O) (NI e f t):=by
 intro U s I H v u Q a r h;rw[w];refine ZU (wpAny_holding (ap (p U s I H _ a h) λb j d=>?_));obtain⟨x,Y,B,l,m⟩:=d;refine ZU (wpAny_holding (ap (q U j I Y _ B m) λc g d=>?_));obtain⟨y,D,A,k,q2⟩:=d;refine ZU (wpAny_standAt (ZU (wpAny_holding (ap (n U g I D x y v b c u _ A l k r q2) λ_ E d=>?_))));obtain⟨C,z,q3⟩:=d;exact wpAny_release ⟨I,C,z,q3⟩
def kP(te:TE)(g:TG):TS:=λD I H=>te I H λx Y=>g x I Y D.nx
def Zj{g:TG}(k:PE X e te)(j:PG X tg g)(i:‹swapsWithSole [tg] e O.line X.env=pure false›)(f:‹swappedStores [tg] e X.env=pure none›)
 (m:‹(assignEach [tg] X.env).map (·.2)=[assign tg X.env]›):PS X (.Assign [tg] e O) (kP te g):=by
 intro U s I H D a h;refine wpAny_Assign_stores (ap (k U s I H _ a h) λv b l=>?_) i f;obtain⟨x,Y,n,c,d⟩:=l;rw[m];exact ap (j U b I Y x v _ n c d) λ_ o q=>q
def Ho(m:X.N.Nodup)(g:X.N[i]?=some x)(d:fb X.env.scope x)(k:PE X e te)(f:‹swapsWith e (some (.Name x bi)) O.line X.env=pure false›)(j:zd X x:=by first|exact .inl rfl|exact .inr rfl|assumption) :
  PS X (.Assign [.Name x bi] e O) (kP te (uO i)):=by
 intro U s I H D a h;refine wpAny_Assign_Name (ap (k U s I H _ a h) λv q l=>?_) f;obtain⟨y,Y,o,b,c⟩:=l;exact uP o m g d b (λp n=>⟨_,Y,n,c⟩) j
def MV(i j:Nat)(b:TA):TS:=λD I H=>b I H λa Y=>∃v w,a=[v,w]/\D.nx ((I.set i (some v)).set j (some w)) Y
variable{a:Expr}{ta:TA}{op:Operator}{b5:xS}{p:Pos}{fp:Ψ}
def YO{j:Nat}{y:Str}{b:Expr}{r n t:Pos}{u z f}(hc:X.calm)(F:X.N.Nodup)(S:X.N[i]?=some x)(R:X.N[j]?=some y)(P:i≠j)
 (C:X.env.scope.names.lookup x=some .local)(B:X.env.scope.names.lookup y=some .local)(T:PA X [a,b] ta)
 (hw:swappedStores [.Tuple [.Name x r,.Name y n] u t] (.Tuple [a,b] z f) X.env=pure (some [x,y]))
 (Q:‹swapsWithSole [.Tuple [.Name x r,.Name y n] u t] (.Tuple [a,b] z f) O.line X.env=pure false›) :
  PS X (.Assign [.Tuple [.Name x r,.Name y n] u t] (.Tuple [a,b] z f) O) (MV i j ta):=by
 intro U s I H D c h;rw[exec_Assign_arm];refine ZU (wpAny_standAt ?_);rw[Q];refine ZU (ZT ?_);rw[ZZ wP];refine ZU (Tuple_ (ap (T _ U s I H _ c h) λZ l V=>?_));obtain⟨vs,Y,I1,K,m⟩:=V;obtain⟨v,w,e1,m⟩:=m;subst e1;obtain⟨k,g,rfl,J,W⟩ : ∃k g,Z=[k,g]/\z0 v k/\z0 w g:=by
  cases K with
  |cons p q =>
   cases q with
   |cons M L =>
    cases L;exact⟨_,_,rfl,p,M⟩
 refine wpAny_newObj_type ?_ (by show 2<=sizeLine;decide);have I2:Inv X U I Y { l with heap:=l.heap.push { cls:=.type "tuple",data:=.seq [k,g].toArray } }:=I1.kept (t':=l.toks) λb o e=>aH _ e;rw[hw];refine ZU (ZT ?_);show wpAny (model X.prog X.w) X.A (do rule "assign.swapped-stores"; let d <- unpackItems (.ref l.zs) 2 none;assignInOrder [λv=>bindName X.env y v,λv=>bindName X.env x v] d.reverse;pure Flow.next) _ _ _;refine ZU (wpAny_rule (ZU (unpackItems_tuple (items:=#[k,g]) (c.ok.hd hc) (IsTup.new l.heap _) λh' dt=>?_)));have I3:=I2.kept (h':=h') (t':=l.toks) λb o e=>dt b o (aQ (aK e)) e;show wpAny _ _ (assignInOrder [λv=>bindName X.env y v,λv=>bindName X.env x v] [g,k] >>= λ_=>pure Flow.next) _ _ _;refine ZU (assignInOrder_cons (wpAny_bindName (uP I3 F R (.inl B) W (λs2 I4=>?_) (.inr B))));refine assignInOrder_cons (wpAny_bindName (uP I4 F S (.inl C) J (λs3 G=>assignInOrder_nil (ZT ?_)) (.inr C)));rw[List.set_comm _ _ (Ne.symm P)]at G;exact⟨_,Y,G,m⟩
def L'(i:Nat)(te:TE)(a:l0):TS:=λD I H=>∃x,I[i]?=some (some x)/\te I H λy Y=>a x y Y λz b=>D.nx (I.set i (some z)) b
def Sk{o:l0}(P:X.N.Nodup)(p:X.N[i]?=some x)(j:fb X.env.scope x)(M:PE X e te)(F:qA X op o)(L:zd X x:=by first|exact .inl rfl|exact .inr rfl|assumption) :
  PS X (.AugAssign (.Name x bi) op e O) (L' i te o):=by
 intro U s I H D a h;obtain⟨v,Q,h⟩:=h;obtain⟨m,G,K⟩:=a.loc;have g:jx X.env.scope x:=by rcases j with k|k;exact .inl k;exact .inr (.inl k)
 obtain⟨u,r,l⟩:=K i x v p Q g;refine wpAny_AugAssign_Name ?_;have q:wpAny (model X.prog X.w) X.A (eval e X.env) (λw f=>wpAny (model X.prog X.w) X.A (inplaceOp op u w) (λr d=>wpAny (model X.prog X.w) X.A (storeName X.env x r) (λ_=>SP X U D .next) X.xe d) X.xe f) X.xe s:=by
  refine ap (M U s I H _ a h) λw t n=>?_;obtain⟨y,Y,V,C,E⟩:=n;refine ap (F U t I Y v y u w _ V r C E) λz s2 n=>?_;obtain⟨Z,W,T,B,q2⟩:=n;exact uP T P p j B (λs3 S=>⟨_,W,S,q2⟩) L
 rcases l with⟨b,J⟩|⟨b,c,hc,R⟩
 .exact wpAny_loadName_local a.ok.kind b G J q
 .rcases b with b|b
  .exact wpAny_loadName_cell a.ok.kind b hc R q
  .rcases j with k|k
   .have:X.env.scope.names.lookup x=some .free:=b;rw[k]at this;cases this
   .have:X.env.scope.names.lookup x=some .free:=b;rw[k]at this;cases this
def tH(f:Int->Int->Int):l0:=λx y H Q=>∃i j,x=.int i/\y=.int j/\Q (.int (f i j)) H
def WA:qA X .Add (tH λi j=>i+j):=by
 intro U s I H x y v u Q a c b h;obtain⟨i,j,e,d,q⟩:=h;subst e;subst d;obtain⟨t,rfl⟩:=c;obtain⟨t',rfl⟩:=b;exact iadd_int ⟨.int _,H,a.tok _,⟨_,rfl⟩,q⟩
def T'(c:TT)(e:TS):TS:=λD I H=>∃W:Nat->St->Hp->Prop,(∃m,W m I H)/\∀m I H,W m I H ->
 c I H λb Y=>if b=true then ∃N:St->Hp->Prop,(∀a H',N a H'->∃d,d<m/\W d a H')/\e { D with nx:=N,ct:=N,bk:=D.nx } I Y else D.nx I Y
def VL{p:TT}{q:TS}(r:PassesOwn (model X.prog X.w) X.A X.env X.xe)(hc:PT X c p)(F:PSs X b5 q):PS X (.While c b5 [] O) (T' p q):=by
 intro U s I H D a h;obtain⟨W,⟨E,z⟩,J⟩:=h;refine wpAny_While (codeAny_whileLoop (λn s'=>∃g H',Inv X U g H' s'/\W n g H') ?_ E ⟨I,H,a,z⟩);rintro n C ⟨e,Y,K,y⟩;refine wpAny_passesOwn r (ap (hc U C e Y _ K (J n e Y y)) λb B G=>?_);obtain⟨x,u,q2⟩:=G;cases b with
 |true =>
  obtain⟨N,t,q2⟩:=q2;rw[ZY rfl];refine wpAny_passesOwn r (ap (F U B e x _ u q2) λf L q3=>?_);cases f with
  |next =>
   obtain⟨d,i,o,k⟩:=q3;obtain⟨l,m,j⟩:=t d i k;exact⟨l,m,d,i,o,j⟩
  |cont =>
   obtain⟨d,i,o,k⟩:=q3;obtain⟨l,m,j⟩:=t d i k;exact⟨l,m,d,i,o,j⟩
  |brk=>exact q3
  |ret v=>exact q3
 |false =>
  rw[ZZ bw];exact wpAny_execs_nil ⟨e,x,u,q2⟩
structure It where
 go:Nat->Hp->Prop
 yld:Nat->Hp->V->Hp->Prop
 stop:Nat->Hp->Prop
def Jh(X:Cx)(U:Δ)(H:Hp)(b:Addr):Prop :=
 H b=none/\b≠X.env.locals/\b∉X.fs/\(b∈X.ex\/X.s₀.zs<=b)/\(∀x c,X.env.cells.lookup x=some c->c≠b)/\∀p∈X.pn++U,p.1≠b
def Inv.fpOk{X:Cx}(a:Inv X U I H s)(d:s.zs<=b)(g:H' b=none):Jh X U H' b:=by
 refine⟨g,UY (aR a.lt d),a.nofs d,.inr (aL a.sz d),λx c e z=>?_,λp f z=>?_⟩
 .obtain⟨v,q⟩:=a.cell x c e;exact absurd (aR q.lt (by rwa[z])) (Wp _)
 .exact absurd (aR (aK (a.pin p f).1) (by rwa[z])) (Wp _)
structure Turn(P:Program)(w:World)(K:Frag)(tg:Expr)(J:It)(fp:Ψ)(it:Addr)(tn:Nat->Heap->Prop):Prop where
 mem:it∈fp
 obj:∀i h,tn i h->∀b∈fp,∃o,h.get? b=some o/\∀v,o.data≠.cell v
 keep:∀i h h',tn i h->(∀b∈fp,∀o,h.get? b=some o->h'.get? b=some o)->tn i h'
 item:∀(X:Cx),X.prog=P->X.w=w->X.K=K->X.calm=true->∀(i:Nat)(U:Δ)(s:Shared)(I:St)(H:Hp)(E:Ε),Inv X U I H s->(∀b∈fp,Jh X U H b)->tn i s.heap->J.go i H ->
  wpAny (model P w) X.A (pyNext (.ref it)) (λr s1=>∃u,r=some u /\
   wpAny (model P w) X.A (letOwnedTupleGo tg (.ref it) u) (λ_ s2=>∃x H',Inv X U I H' s2/\z0 x u/\J.yld i H x H'/\tn (i+1) s2.heap/\∀b∈fp,H' b=none) E s1) E s
 done:∀(X:Cx),X.prog=P->X.w=w->X.K=K->X.calm=true->∀(i:Nat)(U:Δ)(s:Shared)(I:St)(H:Hp)(E:Ε),Inv X U I H s->(∀b∈fp,Jh X U H b)->tn i s.heap->J.stop i H ->
  wpAny (model P w) X.A (pyNext (.ref it)) (λr s1=>r=none/\Inv X U I H s1) E s
 self:∀(A:Around)(i:Nat)(s:Shared)(Q:Ε)(E:Ε),tn i s.heap->Q (.ref it) s->wpAny (model P w) A (pyIter (.ref it)) Q E s
abbrev TI:=St->Hp->(It->Hp->Prop)->Prop
def JO(X:Cx)(U:Δ)(I:St)(tg:Expr)(R:It->Hp->Prop)(e:Value)(c:Shared):Prop :=
 ∃(d:Addr)(fp:Ψ)(a:Nat->Heap->Prop)(J:It)(H':Hp),e=.ref d/\Inv X U I H' c/\Turn X.prog X.w X.K tg J fp d a/\a 0 c.heap/\(∀b∈fp,Jh X U H' b)/\R J H'
def PI(X:Cx)(tg iter:Expr)(a:TI):Prop :=
 ∀(U:Δ)(s:Shared)(I:St)(H:Hp)(R:It->Hp->Prop),Inv X U I H s->a I H R ->
  wpAny (model X.prog X.w) X.A (eval iter X.env) (λv b=>wpAny (model X.prog X.w) X.A (pyIter v) (JO X U I tg R) X.xe b) X.xe s
def Wm{c:Addr}{n:String}{b:xD}(d:s.heap.get? c=some o)(hc:o.cls=.type n)(hd:o.data=.fields b)
   (e : ["enumerate","zip","dict_itemiterator","dict_reverseitemiterator","odict_iterator","itertools.zip_longest","itertools.pairwise"].contains n=false)(a:Q () s):wpAny M A (letOwnedTupleGo tg (.ref c) u) Q E s:=by
  unfold letOwnedTupleGo;cases tg<;>first
    |exact ZT a
    |(cases u<;>first
        |exact ZT a
        | (refine ZU (wpAny_load d ?_)
           rw[hc,hd];show wpAny M A (if(["enumerate","zip","dict_itemiterator","dict_reverseitemiterator","odict_iterator","itertools.zip_longest","itertools.pairwise"].contains n&&b[0]?==some (rawInt _))=true then _ else _) Q E s;rw[ZZ (by intro h;rw[e,Bool.false_and]at h;cases h)];exact ZT a))
def Kt(K:Frag)(a:Addr):It :=
 ⟨λi H=>∃G x,SqL K H a G/\G[i]?=some x,λi H x H'=>H'=H/\∀G,SqL K H a G->G[i]?=some x,λi H=>∃G,SqL K H a G/\G.length<=i⟩
def Kn(K:Frag)(a:Addr):It :=
 ⟨λi H=>∃G x,SqT K H a G/\G[i]?=some x,λi H x H'=>H'=H/\∀G,SqT K H a G->G[i]?=some x,λi H=>∃G,SqT K H a G/\G.length<=i⟩
def j3(lo:Int)(n:Nat):It:=⟨λi _=>i<n,λi H x H'=>H'=H/\x=.int (lo+i),λi _=>n<=i⟩
def acj(a j:Addr):Turn P w K tg (Kt K a) [j] j (λi h=>h.IsListIter j a i) where
 mem:=by simp
 obj:=λi h g b l=>by
  have e:b=j:=by simpa using l
  subst e;obtain⟨o,e,c,d⟩:=g;exact⟨o,e,λv z=>by rw[d]at z;cases z⟩
 keep:=λi h h' g k=>g.at λo e=>k j vz o e
 item:=by
  intro X A hw B hc i U s I H E f q g y;subst A hw B;obtain⟨G,x,n,M⟩:=y;obtain⟨t,r,p,R⟩:=f.list n;obtain⟨u,T,Q⟩:=r.get M;obtain⟨L,J,V,F,D,C⟩:=q j vz;refine wpAny_pyNext_list_item g p.isList (x:=u) (by simpa using T) λh' N O=>?_;have Y:Inv X U I H { s with heap:=h' }:=f.turned (t':=s.toks) (λb o l e=>(O.2 b l).trans e) L J F D C;obtain⟨o,e,c,d⟩:=id N;exact⟨u,rfl,Wm (s:={ s with heap:=h' }) e c d wP ⟨x,H,Y,Q,⟨rfl,λys S=>by rwa[f.list_inj S n]⟩,N,λb l=>(q b l).1⟩⟩
 done:=by
  intro X A hw B hc i U s I H E f q g y;subst A hw B;obtain⟨G,n,M⟩:=y;obtain⟨t,r,p,R⟩:=f.list n;obtain⟨L,J,V,F,D,C⟩:=q j vz;have Z:=r.length;exact wpAny_pyNext_list_end (f.ok.hd hc) g p.isList (by simp;lia) λh' W=>⟨rfl,f.turned (t':=s.toks) (λb o l e=>W b o l e) L J F D C⟩
 self:=λ_ _ _ _ _ g h=>wpAny_pyIter_listiter g h
def Zx(a l:Addr):Turn P w K tg (Kn K a) [l] l (λi h=>h.IsTupleIter l a i) where
 mem:=by simp
 obj:=λi h g b m=>by
  have e:b=l:=by simpa using m
  subst e;obtain⟨o,e,c,d⟩:=g;exact⟨o,e,λv z=>by rw[d]at z;cases z⟩
 keep:=λi h h' g k=>g.at λo e=>k l vz o e
 item:=by
  intro X A hw B hc i U s I H E f r g y;subst A hw B;obtain⟨G,x,q,M⟩:=y;obtain⟨j,t,p,R⟩:=f.tuple q;obtain⟨u,T,Q⟩:=t.get M;obtain⟨L,J,V,F,D,C⟩:=r l vz;refine wpAny_pyNext_tuple_item g (show s.heap.IsTuple a j.toArray from p) (x:=u) (by simpa using T) λh' N O=>?_;have Y:Inv X U I H { s with heap:=h' }:=f.turned (t':=s.toks) (λb o m e=>(O.2 b m).trans e) L J F D C;obtain⟨o,e,c,d⟩:=id N;exact⟨u,rfl,Wm (s:={ s with heap:=h' }) e c d wP ⟨x,H,Y,Q,⟨rfl,λys S=>by rwa[f.tuple_inj S q]⟩,N,λb m=>(r b m).1⟩⟩
 done:=by
  intro X A hw B hc i U s I H E f r g y;subst A hw B;obtain⟨G,q,M⟩:=y;obtain⟨j,t,p,R⟩:=f.tuple q;obtain⟨L,J,V,F,D,C⟩:=r l vz;have Z:=t.length;exact wpAny_pyNext_tuple_end (f.ok.hd hc) g (show s.heap.IsTuple a j.toArray from p) (by simp;lia) λh' W=>⟨rfl,f.turned (t':=s.toks) (λb o m e=>W b o m e) L J F D C⟩
 self:=λ_ _ _ _ _ g h=>wpAny_pyIter_tupleiter g h
def ZG(d:Addr)(lo:Int)(n:Nat):Turn P w K tg (j3 lo n) [d] d (λi h=>IsRangeIter h d (lo+(i:Nat)*1) ((n:Int)-(i:Nat)) 1) where
 mem:=by simp
 obj:=λi h c b f=>by
  have e:b=d:=by simpa using f
  subst e;exact⟨_,c,λv z=>by
   have C:Data.fields _=Data.cell v:=z;cases C⟩
 keep:=λi h h' c k=>k d vz _ c
 item:=by
  intro X m hw p hc i U s I H E a j c l;subst m hw p;obtain⟨y,x,G,u,r,q⟩:=j d vz;have W:=Walks.range (prog:=X.prog) (w:=X.w) (a.ok.hd hc) d lo 1 n;refine W.item i s _ _ l c λv h' A F B D=>?_;obtain⟨t,rfl⟩:=F;have L:Inv X U I H { s with heap:=h',toks:=A }:=a.turned (λb o f e=>D b o (by simpa using f) e) y x u r q;refine⟨_,rfl,Wm (s:={ s with heap:=h',toks:=A }) (n:="range_iterator") B rfl rfl wP ⟨.int (lo+i),H,L,⟨t,?_⟩,⟨rfl,rfl⟩,B,λb f=>(j b f).1⟩⟩;rw[Int.mul_one]
 done:=by
  intro X m hw p hc i U s I H E a j c l;subst m hw p;obtain⟨y,x,G,u,r,q⟩:=j d vz;exact wpAny_pyNext_range_end (a.ok.hd hc) c (by have:n<=i:=l;lia) λh' J=>⟨rfl,a.turned (t':=s.toks) (λb o f e=>J b o f e) y x u r q⟩
 self:=λ_ _ _ _ _ c h=>wpAny_pyIter_rangeiter c h
def Wq(K:Frag)(b:TE):TI:=λI H R=>b I H λx Y=>∃a,x=.ref a/\(∃G,SqL K Y a G)/\R (Kt K a) Y
def OI(K:Frag)(b:TE):TI:=λI H R=>b I H λx Y=>∃a,x=.ref a/\(∃G,SqT K Y a G)/\R (Kn K a) Y
def Fv{l:Expr}{g:TE}(n:PE X l g):PI X tg l (Wq X.K g):=by
 intro U s I H R c h;refine ap (n U s I H _ c h) λv d t=>?_;obtain⟨x,Y,f,i,j⟩:=t;obtain⟨a,e,⟨G,m⟩,q⟩:=j;subst e;cases i;obtain⟨k,u,p,w⟩:=f.list m;refine wpAny_pyIter_list p.isList ?_;refine⟨d.zs,[d.zs],_,_,Y,rfl,f.kept (t':=d.toks) λb o e=>aH _ e,acj a _,⟨_,aW _ rfl,rfl,rfl⟩,λb r=>?_,q⟩;have e:b=d.zs:=by simpa using r
 subst e;exact f.fpOk (aG _) (f.hok.fresh (aG _))
def To{l:Expr}{i:TE}(n:PE X l i):PI X tg l (OI X.K i):=by
 intro U s I H R c h;refine ap (n U s I H _ c h) λv d t=>?_;obtain⟨x,Y,f,j,k⟩:=t;obtain⟨a,e,⟨G,m⟩,q⟩:=k;subst e;cases j;obtain⟨g,u,p,w⟩:=f.tuple m;refine wpAny_pyIter_tuple (show d.heap.IsTuple a g.toArray from p) ?_;refine⟨d.zs,[d.zs],_,_,Y,rfl,f.kept (t':=d.toks) λb o e=>aH _ e,Zx a _,⟨_,aW _ rfl,rfl,rfl⟩,λb r=>?_,q⟩;have e:b=d.zs:=by simpa using r
 subst e;exact f.fpOk (aG _) (f.hok.fresh (aG _))
def Xq{R:It->Hp->Prop}{lo c:Int}{t u v:Tok}{f:Nat}(a:Inv X U I H s)(l : -(2^62)<=lo)(k:lo<2^62)(j : -(2^62)<=c)(i:c<2^62)
 (q:R (j3 lo (c-lo).toNat) H):wpAny (model X.prog X.w) X.A (pyIter (.ref s.zs)) (JO X U I tg R) E { s with heap:=s.heap.push { cls:=.type "range",data:=.fields #[.int lo t,.int c u,.int 1 v] },toks:=f }:=by
 refine wpAny_pyIter_range (IsRange.new ..) (small_one l k j i) ?_;have g:Inv X U I H { s with heap:=s.heap.push { cls:=.type "range",data:=.fields #[.int lo t,.int c u,.int 1 v] },toks:=f }:=a.kept λb o e=>aH _ e;refine⟨(s.heap.push { cls:=.type "range",data:=.fields #[.int lo t,.int c u,.int 1 v] }).objs.size,[(s.heap.push { cls:=.type "range",data:=.fields #[.int lo t,.int c u,.int 1 v] }).objs.size],_,_,H,rfl,
  g.kept (t':=f) λb o e=>aH _ e,ZG _ lo (c-lo).toNat,?_,λb h=>?_,q⟩
 .have n:lo+((0:Nat):Int)*1=lo:=by simp
  have m:(((c-lo).toNat:Nat):Int)-((0:Nat):Int)=Builtin.Range.rangeSize lo c 1:=by rw[rangeSize_one];split<;>lia
  show IsRangeIter _ _ (lo+((0:Nat):Int)*1) ((((c-lo).toNat:Nat):Int)-((0:Nat):Int)) 1;rw[n,m];exact aW _ rfl
 .have e:b=(s.heap.push { cls:=.type "range",data:=.fields #[.int lo t,.int c u,.int 1 v] }).objs.size:=by simpa using h
  subst e;exact g.fpOk (aG _) (g.hok.fresh (aG _))
def P7(ta:TA):TI:=λI H R=>ta I H λa Y=>∃j:Int,a=[.int j]/\-(2^62)<=j/\j<2^62/\R (j3 0 j.toNat) Y
def Pw(ta:TA):TI:=λI H R=>ta I H λa Y=>∃i j:Int,a=[.int i,.int j]/\(-(2^62)<=i/\i<2^62/\-(2^62)<=j/\j<2^62)/\R (j3 i (j-i).toNat) Y
def aco(k:Gl X "range")(i:X.mg "range"=none)(l:PA X [a] ta)(g:‹starEach [a] X.env=[(false,eval a X.env)]›):PI X tg (.Call (.Name "range" p) [a] [] O) (P7 ta):=by
 intro U s I H R b h;refine Call_ (Df b k i boot_range (PyProof.Rows.callWith_type1 (ap (l O U s I H _ b h) λZ u m=>?_) g rfl));obtain⟨o,Y,n,f,c⟩:=m;obtain⟨j,e,c,q2,q⟩:=c;subst e;cases f with
 |cons r d =>
  cases d;obtain⟨t,rfl⟩:=r;exact call_range_1 (Xq n (XY wP) (QU wP) c q2 (by simpa using q))
def abY{b:Expr}(u:Gl X "range")(o:X.mg "range"=none)(v:PA X [a,b] ta)(n:‹starEach [a,b] X.env=[(false,eval a X.env),(false,eval b X.env)]›)(g:‹starEach [b] X.env=[(false,eval b X.env)]›) :
  PI X tg (.Call (.Name "range" p) [a,b] [] O) (Pw ta):=by
 intro U s I H R c h;refine Call_ (Df c u o boot_range (PyProof.Rows.callWith_type1 (ap (v O U s I H _ c h) λZ z w=>?_) (by rw[n,g]) (by rw[g];rfl)));obtain⟨y,Y,x,k,f⟩:=w;obtain⟨i,j,e,⟨f,q2,q3,m⟩,q⟩:=f;subst e;cases k with
 |cons r d =>
  cases d with
  |cons l d =>
   cases d;obtain⟨t,rfl⟩:=r;obtain⟨t',rfl⟩:=l;exact call_range_2 (Xq x f q2 q3 m q)
def kN(d:TI)(g:TG)(e:TS):TS:=λD I H=>d I H λJ Y=>∃W:Nat->Nat->St->Hp->Prop,(∃m,W 0 m I Y)/\∀i m I H,W i m I H ->
 (J.stop i H/\D.nx I H)\/(J.go i H/\∃N:St->Hp->Prop,(∀a H',N a H'->∃c,c<m/\W (i+1) c a H')/\∀x H',J.yld i H x H'->g x I H' λb f=>e { D with nx:=N,ct:=N,bk:=D.nx } b f)
def Nu(fp:Ψ)(h:Heap):Δ:=fp.filterMap λb=>(h.get? b).map λo=>(b,o)
def qI(a:b∈fp)(e:h.get? b=some o):(b,o)∈Nu fp h:=List.mem_filterMap.mpr ⟨b,a,by rw[e];rfl⟩
def ab9{p:Addr×Obj}(a:p∈Nu fp h):p.1∈fp/\h.get? p.1=some p.2:=by
 obtain⟨b,c,e⟩:=List.mem_filterMap.mp a;cases q:h.get? b with
 |none=>rw[q]at e;cases e
 |some o =>
  rw[q]at e;have d:(b,o)=p:=Option.some.inj e;subst d;exact⟨c,q⟩
def Inv.pinned(a:Inv X U I H s)(i:∀b∈fp,Jh X U H b)(h:∀b∈fp,∃o,s.heap.get? b=some o/\∀v,o.data≠.cell v):Inv X (U++Nu fp s.heap) I H s :=
 a.pins_of λp g=>(Y1.mp g).elim (λz=>a.pin p (aP _ z)) λz=>by
  obtain⟨c,e⟩:=ab9 z;obtain⟨l,k,j,_⟩:=i p.1 c;obtain⟨o,f,d⟩:=h p.1 c;rw[e]at f;cases f;exact⟨e,l,k,j,d⟩
def Inv.unpinned{b:Δ}(a:Inv X (U++b) I H s):Inv X U I H s:=a.pins_of λp c=>a.pin p (aP _ (UP _ c))
abbrev zh(X:Cx)(a:Expr):Prop:=∀z,foldedSetIterable a X.env z=pure z
def R9{iter:Expr}{S:TI}{g:TG}{Y:TS}(C:PassesOwn (model X.prog X.w) X.A X.env X.xe)(hc:X.calm)(hi:PI X tg iter S)(hg:PG X tg g)(l:PSs X b5 Y)
 (hs:zh X iter:=by intro _;rfl):PS X (.For tg iter b5 [] O) (kN S g Y):=by
 intro U s I H D a h;refine wpAny_For (ap (hi U s I H _ a h) λv s1 h1=>ap h1 λqh s2 h2=>?_) hs;obtain⟨it,fp,V,J,H2,e,I2,T,hZ,f2,W,⟨m0,w0⟩,fN⟩:=h2;subst e

 have M:∀{H':Hp},(∀b∈fp,H' b=none)->∀b∈fp,Jh X U H' b:=λhn b l=>⟨hn b l,(f2 b l).2⟩;refine codeAny_forLoop_any (λn s'=>∃i k H',Inv X U k H' s'/\V i s'.heap/\(∀b∈fp,H' b=none)/\W i n k H') ?_ m0 ⟨0,I,H2,I2,hZ,λb l=>(f2 b l).1,w0⟩;rintro n s3 ⟨i,j,F,I3,j',E,w3⟩;rcases fN i n j F w3 with⟨z,qn⟩|⟨go,N,hN,step⟩
 .refine wpAny_passesOwn C (ap (T.done X rfl rfl rfl hc i U s3 j F X.xe I3 (M E) j' z) λr s4 y=>?_);obtain⟨P,I4⟩:=y;subst P;exact wpAny_execs_nil ⟨j,F,I4,qn⟩
 .refine wpAny_passesOwn C (ap (T.item X rfl rfl rfl hc i U s3 j F X.xe I3 (M E) j' go) λr s4 y=>?_);obtain⟨u,P,h4⟩:=y;subst P;refine wpAny_passesOwn C (ap h4 λ_ Z y=>?_);obtain⟨x,H5,I5,r5,y5,L,Q⟩:=y;have R:=I5.pinned (M Q) (T.obj _ _ L);refine wpAny_passesOwn C (ap (hg _ Z j H5 x u _ R r5 (step x H5 y5)) λ_ s6 y=>?_);obtain⟨G,H6,I6,q6⟩:=y;refine wpAny_passesOwn C (ap (l _ s6 G H6 _ I6 q6) λf K t=>?_);have again:∀{c:St}{q:Hp},Inv X (U++Nu fp Z.heap) c q K->N c q->∃m,m<n/\∃i k H',Inv X U k H' K/\V i K.heap/\(∀b∈fp,H' b=none)/\W i m k H':=λ{c q}p B=>by
   obtain⟨m',hm,w7⟩:=hN c q B;refine⟨m',hm,i+1,c,q,p.unpinned,T.keep _ _ _ L λb l o e=>(p.pin (b,o) (aP _ (aP _ (qI l e)))).1,λb l=>?_,w7⟩;obtain⟨o,e,d⟩:=T.obj _ _ L b l;exact(p.pin (b,o) (aP _ (aP _ (qI l e)))).2.1
  cases f with
  |next=>obtain⟨c,q,p,B⟩:=t;exact again p B
  |cont=>obtain⟨c,q,p,B⟩:=t;exact again p B
  |brk=>obtain⟨c,q,p,t⟩:=t;exact⟨c,q,p.unpinned,t⟩
  |ret v=>obtain⟨x7,c,q,p,r7,t⟩:=t;exact⟨x7,c,q,p.unpinned,r7,t⟩
abbrev R2:=V->V->Hp->VK->Prop
def OpR(X:Cx)(f:Value->Value->Sem Value)(r:R2):Prop :=
 ∀(U:Δ)(s:Shared)(I:St)(H:Hp)(x y:V)(v u:Value)(Q:VK),Inv X U I H s->z0 x v->z0 y u->r x y H Q ->
  wpAny (model X.prog X.w) X.A (f v u) (EP X U I Q) X.xe s
def qx(X:Cx)(f:Value->Sem Value)(r:V->Hp->VK->Prop):Prop :=
 ∀(U:Δ)(s:Shared)(I:St)(H:Hp)(x:V)(v:Value)(Q:VK),Inv X U I H s->z0 x v->r x H Q ->
  wpAny (model X.prog X.w) X.A (f v) (EP X U I Q) X.xe s
def iH(X:Cx)(f:Value)(r:Ζ->Hp->VK->Prop):Prop :=
 ∀(U:Δ)(s:Shared)(I:St)(H:Hp)(G:Ζ)(Z:Θ)(Q:VK),Inv X U I H s->z1 G Z->r G H Q ->
  wpAny (model X.prog X.w) X.A (call f Z) (EP X U I Q) X.xe s
def Of(X:Cx)(r:V->Hp->(Bool->Hp->Prop)->Prop):Prop :=
 ∀(U:Δ)(s:Shared)(I:St)(H:Hp)(x:V)(v:Value)(Q:Bool->Hp->Prop),Inv X U I H s->z0 x v->r x H Q ->
  wpAny (model X.prog X.w) X.A (truthy v) (TP X U I Q) X.xe s
def gd(r:R2)(ta a:TE):TE:=λI H Q=>ta I H λx Y=>a I Y λy b=>r x y b Q
def rh(r:V->Hp->VK->Prop)(ta:TE):TE:=λI H Q=>ta I H λx Y=>r x Y Q
def rI(C:Int->Int->Prop)(g:Int->Int->V):R2:=λx y H Q=>∃i j,x=.int i/\y=.int j/\C i j/\Q (g i j) H
def gp(g:Int->Int->V):R2:=λx y H Q=>∃i j,x=.int i/\y=.int j/\Q (g i j) H
def rU(g:Int->V):V->Hp->VK->Prop:=λx H Q=>∃i,x=.int i/\Q (g i) H
variable{b:Expr}{ta tb:TE}{f:Value->Value->Sem Value}{r:R2}{v:Value}{g:Int->Int->Int}
def n7(q:PE X a ta)(p:PE X b tb){R:V->V->Hp->Prop}(c:Inv X U I H s)
 (h:ta I H λx Y=>tb I Y λy d=>R x y d){Q:Ε}
 (o:∀v u i x y d,Inv X U I d i->z0 x v->z0 y u->R x y d->wpAny (model X.prog X.w) X.A (f v u) Q X.xe i) :
  wpAny (model X.prog X.w) X.A (eval a X.env) (λv g=>wpAny (model X.prog X.w) X.A (eval b X.env) (λu e=>wpAny (model X.prog X.w) X.A (f v u) Q X.xe e) X.xe g) X.xe s:=by
 refine ap (q U s I H _ c h) λv k j=>?_;obtain⟨x,Y,t,m,n⟩:=j;refine ap (p U k I Y _ t n) λu i j=>?_;obtain⟨y,d,r,l,q2⟩:=j;exact o v u i x y d r m l q2
def lg(g:OpR X (binaryOp op) r)(j:PE X a ta)(i:PE X b tb):PE X (.BinOp a op b O) (gd r ta tb):=by
 intro U s I H Q c h;exact wpAny_BinOp (n7 j i c h λv u d x y l k f e q=>g U d I l x y v u Q k f e q)
def P_{op:UnaryOp}{r:V->Hp->VK->Prop}(f:qx X (unaryOp op) r)(g:PE X a ta):PE X (.UnaryOp op a O) (rh r ta):=by
 intro U s I H Q b h;exact UnaryOp_ (ap (g U s I H _ b h) λv c i=>by obtain⟨x,Y,j,d,e⟩:=i;exact f U c I Y x v Q j d e)
def E_(d:OpR X (inplaceOp op) r){x y:V}{Q:VK}(a:Inv X U I H s)
 (c:z0 x v)(b:z0 y u)(q:r x y H Q):wpAny (model X.prog X.w) X.A (inplaceOp op v u) (EP X U I Q) X.xe s:=d U s I H x y v u Q a c b q
def iX{C:Int->Int->Prop}
 (rule:∀(i j:Int)(t u:Tok)(s:Shared)(Q:Ε)(E:Ε),C i j->Q (.int (g i j) s.toks) { s with toks:=s.toks+1 }->wpAny (model X.prog X.w) X.A (f (.int i t) (.int j u)) Q E s) :
  OpR X f (rI C λi j=>.int (g i j)):=by
 intro U s I H x y v u Q a d c h;obtain⟨i,j,rfl,rfl,e,q⟩:=h;obtain⟨t,rfl⟩:=d;obtain⟨t',rfl⟩:=c;exact rule i j t t' s _ _ e ⟨.int (g i j),H,a.tok _,⟨_,rfl⟩,q⟩
def yz
 (rule:∀(i j:Int)(t u:Tok)(s:Shared)(Q:Ε)(E:Ε),Q (.int (g i j) s.toks) { s with toks:=s.toks+1 }->wpAny (model X.prog X.w) X.A (f (.int i t) (.int j u)) Q E s) :
  OpR X f (gp λi j=>.int (g i j)):=by
 intro U s I H x y v u Q a d c h;obtain⟨i,j,rfl,rfl,q⟩:=h;obtain⟨t,rfl⟩:=d;obtain⟨t',rfl⟩:=c;exact rule i j t t' s _ _ ⟨.int (g i j),H,a.tok _,⟨_,rfl⟩,q⟩
def kG{g:Int->Int->Bool}
 (rule:∀(i j:Int)(t u:Tok)(s:Shared)(Q:Ε)(E:Ε),Q (.bool (g i j)) s->wpAny (model X.prog X.w) X.A (f (.int i t) (.int j u)) Q E s) :
  OpR X f (gp λi j=>.bl (g i j)):=by
 intro U s I H x y v u Q a c b h;obtain⟨i,j,rfl,rfl,q⟩:=h;obtain⟨t,rfl⟩:=c;obtain⟨t',rfl⟩:=b;exact rule i j t t' s _ _ ⟨.bl (g i j),H,a,rfl,q⟩
def D3(i j:Int):Prop:=0<=j/\j<=1000000/\i.natAbs<2^64
def agq(i j:Int):Prop:=(-(2^64)<i/\i<2^64)\/(-(2^64)<j/\j<2^64)
def agq.ok{i j:Int}(h:agq i j):IntMulOk i j:=by
 rcases h with⟨b,a⟩|⟨b,a⟩
 .exact .of_left (intBits_le_64 b a)
 .exact .of_right (intBits_le_64 b a)
def ql:OpR X (binaryOp .Add) (gp λi j=>.int (i+j)):=yz λ_ _ _ _ _ _ _ q=>add_int q
def Sr:OpR X (binaryOp .Sub) (gp λi j=>.int (i-j)):=yz λ_ _ _ _ _ _ _ q=>sub_int q
def _k:OpR X (binaryOp .Mult) (rI agq λi j=>.int (i*j)):=iX λ_ _ _ _ _ _ _ a q=>mul_int q a.ok
def _e:OpR X (binaryOp .Mod) (rI (λ_ j=>0<j) λi j=>.int (i%j)):=iX λi j _ _ _ _ _ a q=>by
 have b:(0:Int)<j:=a;exact mod_int' (WP a) (by rw[Int.fmod_eq_emod_of_nonneg i (XY a)];exact q)
def ZO:OpR X (binaryOp .Pow) (rI D3 λi j=>.int (i^j.toNat)):=iX λ_ _ _ _ _ _ _ a q=>pow_int_small a.1 a.2.1 a.2.2 q
def KF{f:Value->Sem Value}{g:Int->Int}
 (rule:∀(i:Int)(t:Tok)(s:Shared)(Q:Ε)(E:Ε),Q (.int (g i) s.toks) { s with toks:=s.toks+1 }->wpAny (model X.prog X.w) X.A (f (.int i t)) Q E s) :
  qx X f (rU λi=>.int (g i)):=by
 intro U s I H x v Q a c h;obtain⟨i,rfl,q⟩:=h;obtain⟨t,rfl⟩:=c;exact rule i t s _ _ ⟨.int (g i),H,a.tok _,⟨_,rfl⟩,q⟩
def GZ:qx X (unaryOp .USub) (rU λi=>.int (-i)):=KF λ_ _ _ _ _ q=>neg_int q
def i5:V->V->Bool
 |.non,.non=>true|.non,.int _=>true|.int _,.non=>true|.non,.bl _=>true|.bl _,.non=>true|.non,.str _=>true|.str _,.non=>true
 |.int _,.int _=>true|.bl _,.bl _=>true|.str _,.str _=>true|.byt _,.byt _=>true
 |.int _,.str _=>true|.str _,.int _=>true|.bl _,.str _=>true|.str _,.bl _=>true
 |_,_=>false
def rF:R2:=λx y H Q=>i5 x y=true/\Q (.bl (decide (x=y))) H
def Lv:R2:=λx y H Q=>i5 x y=true/\Q (.bl (!decide (x=y))) H
def IR{i j:Int} : decide (V.int i=V.int j)=(i==j):=by
 rw[Bool.eq_iff_iff];simp
def GG{i j:Bool} : decide (V.bl i=V.bl j)=(i==j):=by
 rw[Bool.eq_iff_iff];simp
def ID{i j:Str} : decide (V.str i=V.str j)=(i==j):=by
 rw[Bool.eq_iff_iff];simp
def Ix{i j:Array UInt8} : decide (V.byt i=V.byt j)=(i.toList==j.toList):=by
 rw[Bool.eq_iff_iff];cases i;cases j;simp
def dY{Q:VK}{k b:Bool}(a:Inv X U I H s)(q:Q (.bl k) H)(e:k=b):EP X U I Q (.bool b) s:=by
 subst e;exact⟨.bl k,H,a,rfl,q⟩
def ls:OpR X (compareOp .Eq) rF:=by
 intro U s I H x y v u Q a d b h;obtain⟨c,q⟩:=h;cases x with
 |non =>
  cases d;cases y with
  |non=>cases b;exact PySem.EqNone.eq_none_none (dY a q vz)
  |bl j=>cases b;exact PySem.EqNone.eq_none_bool (dY a q vz)
  |int j=>obtain⟨t',rfl⟩:=b;exact PySem.EqNone.eq_none_int (dY a q vz)
  |str j=>obtain⟨t',rfl⟩:=b;exact PySem.EqNone.eq_none_str (dY a q vz)
  |_=>exact absurd (show false=true from c) bw
 |bl i =>
  cases d;cases y with
  |non=>cases b;exact PySem.EqNone.eq_bool_none (dY a q vz)
  |bl j=>cases b;exact eq_bool (dY a q GG)
  |str j=>obtain⟨t',rfl⟩:=b;exact PySem.EqMixed.eq_bool_str (dY a q vz)
  |_=>exact absurd (show false=true from c) bw
 |int i =>
  obtain⟨t,rfl⟩:=d;cases y with
  |non=>cases b;exact PySem.EqNone.eq_int_none (dY a q vz)
  |int j=>obtain⟨t',rfl⟩:=b;exact eq_int (dY a q IR)
  |str j=>obtain⟨t',rfl⟩:=b;exact PySem.EqMixed.eq_int_str (dY a q vz)
  |_=>exact absurd (show false=true from c) bw
 |str i =>
  obtain⟨t,rfl⟩:=d;cases y with
  |non=>cases b;exact PySem.EqNone.eq_str_none (dY a q vz)
  |bl j=>cases b;exact PySem.EqMixed.eq_str_bool (dY a q vz)
  |int j=>obtain⟨t',rfl⟩:=b;exact PySem.EqMixed.eq_str_int (dY a q vz)
  |str j=>obtain⟨t',rfl⟩:=b;exact eq_str (dY a q ID)
  |_=>exact absurd (show false=true from c) bw
 |byt i =>
  obtain⟨t,rfl⟩:=d;cases y with
  |byt j=>obtain⟨t',rfl⟩:=b;exact PySem.W.eq_bytes (dY a q Ix)
  |_=>exact absurd (show false=true from c) bw
 |_=>cases y<;>exact absurd (show false=true from c) bw
def SA:OpR X (compareOp .NotEq) Lv:=by
 intro U s I H x y v u Q a d b h;obtain⟨c,q⟩:=h;cases x with
 |non =>
  cases d;cases y with
  |non=>cases b;exact PySem.EqNone.ne_none_none (dY a q vz)
  |bl j=>cases b;exact PySem.EqNone.ne_none_bool (dY a q vz)
  |int j=>obtain⟨t',rfl⟩:=b;exact PySem.EqNone.ne_none_int (dY a q vz)
  |str j=>obtain⟨t',rfl⟩:=b;exact PySem.EqNone.ne_none_str (dY a q vz)
  |_=>exact absurd (show false=true from c) bw
 |bl i =>
  cases d;cases y with
  |non=>cases b;exact PySem.EqNone.ne_bool_none (dY a q vz)
  |bl j=>cases b;exact ne_bool (dY a q (ZH not GG))
  |str j=>obtain⟨t',rfl⟩:=b;exact PySem.EqMixed.ne_bool_str (dY a q vz)
  |_=>exact absurd (show false=true from c) bw
 |int i =>
  obtain⟨t,rfl⟩:=d;cases y with
  |non=>cases b;exact PySem.EqNone.ne_int_none (dY a q vz)
  |int j=>obtain⟨t',rfl⟩:=b;exact ne_int (dY a q (ZH not IR))
  |str j=>obtain⟨t',rfl⟩:=b;exact PySem.EqMixed.ne_int_str (dY a q vz)
  |_=>exact absurd (show false=true from c) bw
 |str i =>
  obtain⟨t,rfl⟩:=d;cases y with
  |non=>cases b;exact PySem.EqNone.ne_str_none (dY a q vz)
  |bl j=>cases b;exact PySem.EqMixed.ne_str_bool (dY a q vz)
  |int j=>obtain⟨t',rfl⟩:=b;exact PySem.EqMixed.ne_str_int (dY a q vz)
  |str j=>obtain⟨t',rfl⟩:=b;exact ne_str (dY a q (ZH not ID))
  |_=>exact absurd (show false=true from c) bw
 |byt i =>
  obtain⟨t,rfl⟩:=d;cases y with
  |byt j=>obtain⟨t',rfl⟩:=b;exact PySem.W.ne_bytes (dY a q (ZH not Ix))
  |_=>exact absurd (show false=true from c) bw
 |_=>cases y<;>exact absurd (show false=true from c) bw
def Rt:OpR X (compareOp .Lt) (gp λi j=>.bl (decide (i<j))):=kG λ_ _ _ _ _ _ _ q=>lt_int q
def RF:OpR X (compareOp .LtE) (gp λi j=>.bl (decide (i<=j))):=kG λ_ _ _ _ _ _ _ q=>le_int q
def P6:OpR X (compareOp .Gt) (gp λi j=>.bl (decide (j<i))):=kG λ_ _ _ _ _ _ _ q=>gt_int q
def PU:OpR X (compareOp .GtE) (gp λi j=>.bl (decide (j<=i))):=kG λ_ _ _ _ _ _ _ q=>ge_int q
def We:OpR X (compareOp .Is) (λx y H Q=>y=.non/\Q (.bl (decide (x=.non))) H):=by
 intro U s I H x y v u Q a b c h;obtain⟨rfl,q⟩:=h;cases c;refine is_none_gen (dY a q ?_);cases x<;>first
  |(cases b;rfl)
  |(obtain⟨t,rfl⟩:=b;rfl)
def _O:OpR X (compareOp .IsNot) (λx y H Q=>y=.non/\Q (.bl (!decide (x=.non))) H):=by
 intro U s I H x y v u Q a b c h;obtain⟨rfl,q⟩:=h;cases c;refine isnot_none_gen (dY a q ?_);cases x<;>first
  |(cases b;rfl)
  |(obtain⟨t,rfl⟩:=b;rfl)
variable{op:CmpOp}{tc:TE}{Z:Θ}{dx x C f:Addr}{mA:Str->Ω}{prog:Program}{name:Str}{pl:Sem Bool}{kw:xB}
def HB(b:Expr)(h:autoParam (op≠.In) zP4)(a:autoParam (op≠.NotIn) zP4):behindInMarks op b=false:=by
 have d:(op==CmpOp.In)=false:=by cases op<;>first|rfl|exact absurd rfl h
 have c:(op==CmpOp.NotIn)=false:=by cases op<;>first|rfl|exact absurd rfl a
 cases b<;>first|rfl|(show(_&&(op==.In||op==.NotIn)&&_)=false;simp[d,c])
def Tp(g:OpR X (compareOp op) r)(k:PE X a ta)(j:PE X b tb)(i:behindInMarks op b=false):PE X (.Compare a [op] [b] O) (gd r ta tb):=by
 intro U s I H Q c h;exact wpAny_Compare1 (n7 k j c h λv u d x y m l f e q=>g U d I m x y v u Q l f e q) i
def lq(t:TE):TT:=λI H Q=>t I H λx H'=>∃k,x=.bl k/\Q k H'
def Vh(n:OpR X (compareOp op) r)(q:PE X a ta)(p:PE X b tb)(o:behindInMarks op b=false):PT X (.Compare a [op] [b] O) (lq (gd r ta tb)):=by
 intro U s I H Q d h;refine wpAny_isTrue_Compare1 (ap (q U s I H _ d h) λv g ⟨x,Y,A,l,m⟩=>ap (p U g I Y _ A m) λu f ⟨y,C,w,j,q2⟩ =>
  ap (n U f I C x y v u _ w l j q2) λc D ⟨z,B,t,i,k,e,q3⟩=>?_) o
 subst e;cases i;exact wpAny_truthy_bool ⟨B,t,q3⟩
def Zg(r c:R2)(ta tb tc:TE):TE:=λI H Q=>ta I H λx Y=>tb I Y λy e=>r x y e λz a=>∃k,z=.bl k /\
 (if k=true then tc I a λb d=>c y b d Q else Q (.bl false) a)
def adY{g:CmpOp}{j:R2}(F:OpR X (compareOp op) r)(M:OpR X (compareOp g) j)(K:PE X a ta)(J:PE X b tb)(hc:PE X c tc)
 (G:lastMarks [op,g] [b,c]=false:=by with_unfolding_all rfl):PE X (.Compare a [op,g] [b,c] O) (Zg r j ta tb tc):=by
 intro U s I H Q f h;refine Compare_chain (ap (K U s I H _ f h) λv w ⟨x,Y,R,C,E⟩=>chain_link (ap (J U w I Y _ R E) λu t ⟨y,T,P,i,q2⟩ =>
  ap (F U t I T x y v u _ P C i q2) λd q ⟨z,m,l,B,k,e,q3⟩=>?_)) G
 subst e;cases B;refine wpAny_truthy_bool ?_;cases k with
 |false=>exact ite_ff ⟨.bl false,m,l,rfl,q3⟩
 |true=>exact ite_tt (chain_last (ap (hc U q I m _ l q3) λo p L=>by obtain⟨n,S,N,A,D⟩:=L;exact M U p I S y n u o Q N i A D))
def ae8{g:CmpOp}{j:R2}(K:OpR X (compareOp op) r)(T:OpR X (compareOp g) j)(N:PE X a ta)(M:PE X b tb)(hc:PE X c tc)
 (L:lastMarks [op,g] [b,c]=false:=by with_unfolding_all rfl):PT X (.Compare a [op,g] [b,c] O) (lq (Zg r j ta tb tc)):=by
 intro U s I H Q f h;refine isTrue_chain (ap (N U s I H _ f h) λv w ⟨x,Y,I1,D,G⟩=>test_link (ap (M U w I Y _ I1 G) λu t ⟨y,H2,Z,i,q2⟩ =>
  ap (K U t I H2 x y v u _ Z D i q2) λd q ⟨z,m,l,C,k,e,q3⟩=>?_)) L
 subst e;cases C;refine wpAny_truthy_bool ?_;cases k with
 |false =>
  obtain⟨k',S,J⟩:=q3;cases S;exact ite_ff ⟨m,l,J⟩
 |true =>
  refine ite_tt (test_last (ap (hc U q I m _ l q3) λo p ⟨n,H4,W,B,F⟩=>ap (T U p I H4 y n u o _ W i B F) λd' s5 P=>?_));obtain⟨z2,H5,V,A,k2,R,E⟩:=P;subst R;cases A;exact wpAny_truthy_bool ⟨H5,V,E⟩
def m7(K:Frag)(x:V)(H:Hp)(k:Bool):Prop :=
 match x with
 |.non=>k=false
 |.bl b=>k=b
 |.int i=>k=(i != 0)
 |.str y=>y.length<=sizeLine/\k=((y.length:Int) != 0)
 |.byt y=>y.size<=sizeLine/\k=((y.size:Int) != 0)
 |.ref p=>(∃G,SqL K H p G/\k = !G.isEmpty)\/(∃G,SqT K H p G/\k = !G.isEmpty)\/∃a,H p=some (.dK a)/\k = !a.isEmpty
 |_=>False
def Zv{b:Type}{a:List (b×V)}{c:List (b×Value)}(r:KV a c):(!c.isEmpty) = !a.isEmpty:=by
 cases r<;>rfl
def Ml{a:Θ}(r:z1 G a):(!a.toArray.isEmpty) = !G.isEmpty:=by
 cases r<;>simp
def zG:(sizeLine:Nat)<2^63:=by rw[sizeLine_eq];decide
def FB:Of X (λx H Q=>∃k,m7 X.K x H k/\Q k H):=by
 intro U s I H x v Q a f h;obtain⟨k,e,q⟩:=h;have B:=zG;have A:sizeLine=16777216:=sizeLine_eq;cases x with
 |non =>
  cases f;have c:k=false:=e;subst c;exact truthy_none ⟨H,a,q⟩
 |bl b =>
  cases f;have c:k=b:=e;subst c;exact wpAny_truthy_bool ⟨H,a,q⟩
 |int i =>
  obtain⟨t,rfl⟩:=f;have c:k=(i != 0):=e;subst c;exact PySem.P.truthy_int ⟨H,a,q⟩
 |str y =>
  obtain⟨t,rfl⟩:=f;obtain⟨o,c⟩ : y.length<=sizeLine/\k=((y.length:Int) != 0):=e;subst c;exact PySem.P.truthy_str wE ⟨H,a.tok _,q⟩
 |byt y =>
  obtain⟨t,rfl⟩:=f;obtain⟨o,c⟩ : y.size<=sizeLine/\k=((y.size:Int) != 0):=e;subst c;exact PySem.W.truthy_bytes (aL o wP) ⟨H,a.tok _,q⟩
 |ref p =>
  cases f;have c:(∃G,SqL X.K H p G/\k = !G.isEmpty)\/(∃G,SqT X.K H p G/\k = !G.isEmpty)\/∃d,H p=some (.dK d)/\k = !d.isEmpty:=e;rcases c with⟨G,g,c⟩|⟨G,g,c⟩|⟨d,g,c⟩
  .subst c;obtain⟨l,r,pl,n⟩:=a.list g;have u:=r.length;exact wpAny_truthy_list pl.isList (by simp only[aX];lia) ⟨H,a.tok _,by rw[Ml r];exact q⟩
  .subst c;obtain⟨l,r,pl,n⟩:=a.tuple g;have u:=r.length;exact truthy_tuple pl (by simp only[aX];lia) ⟨H,a.tok _,by rw[Ml r];exact q⟩
  .subst c;obtain⟨n,z,j,r,m⟩ : d.length<=sizeLine/\(p==sysModules)=false/\∃j,KV d j/\s.heap.DictOf (jQ X.prog X.w) p j:=a.hok p _ g;have u:d.length=j.length:=Paired.length r;exact wpAny_truthy_dict z m wE ⟨H,a.tok _,by rw[Zv r];exact q⟩
 |_=>exact(show False from e).elim
def ae2(i:PE X a ta)(g:∀c,isTrue a X.env c=(do let v <- c;standAt a.pos;holding [v] (truthy v))) :
  PT X a (λI H Q=>ta I H λx H'=>∃k,m7 X.K x H' k/\Q k H'):=by
 intro U s I H Q b h;exact isTrue_plain (ap (i U s I H _ b h) λv d j=>by obtain⟨x,Y,l,e,f⟩:=j;exact FB U d I Y x v Q l e f) (g _)
def aam:OpR X (binaryOp .Add) (λx y H Q=>∃i j,x=.str i/\y=.str j/\i.length+j.length<=sizeLine/\Q (.str (i++j)) H):=by
 intro U s I H x y v u Q a c b h;obtain⟨i,j,rfl,rfl,d,q⟩:=h;obtain⟨t,rfl⟩:=c;obtain⟨t',rfl⟩:=b;exact add_str (λt' e=>⟨.str (i++j),H,a.tok _,⟨_,rfl⟩,q⟩) d
def vals1{x:V}(r:z1 [x] Z):∃u,Z=[u]/\z0 x u:=by
 cases r with
 |cons b a=>cases a;exact⟨_,rfl,b⟩
def afg:iH X (.builtin "abs") (λG H Q=>∃i,G=[.int i]/\Q (.int (if i<0 then -i else i)) H):=by
 intro U s I H G Z Q a r h;obtain⟨i,rfl,q⟩:=h;obtain⟨u,rfl,t,rfl⟩:=vals1 r;exact call_abs_int λu b=>⟨.int (if i<0 then -i else i),H,a.tok _,⟨_,rfl⟩,q⟩
def acE:iH X (.type "int") (λG H Q=>(∃i,G=[.int i]/\Q (.int i) H)\/∃k,G=[.bl k]/\Q (.int (if k then 1 else 0)) H):=by
 intro U s I H G Z Q a r h;rcases h with⟨i,rfl,q⟩|⟨k,rfl,q⟩
 .obtain⟨u,rfl,t,rfl⟩:=vals1 r;exact call_int_int ⟨.int i,H,a,⟨_,rfl⟩,q⟩
 .obtain⟨u,rfl,b⟩:=vals1 r;cases b;exact call_int_bool ⟨.int (if k then 1 else 0),H,a.tok _,⟨_,rfl⟩,q⟩
structure Zw(h:Heap)(x dx C:Addr)(mA:Str->Ω):Prop where
 obj:h.get? x=some (instObj C dx)
 ns:h.Ns1 dx mA
 ne:dx≠x
def Qg(n:h.Ns1 dx mA):∃b,h.get? dx=some b/\∀name,lookIn name b=some (mA name):=by
 obtain⟨o,es,k,f,hd,i,_,g⟩:=n;refine⟨o,f,λname=>?_⟩;have e:=g name;unfold nsFind findBy at e;rw[<- Array.find?_toList]at e;unfold lookIn;rw[hd];dsimp only;split
 .rename_i y q
  rw[q]at e;exact ZH some e
 .rename_i q
  rw[q]at e;have a:es.toList.any (·.refKey)=false:=by
   rw[List.any_eq_false];intro y d;obtain⟨z,t,c⟩:=i y (Array.mem_toList_iff.mp d);simp[DictEntry.refKey,c]
  have j:¬es.toList.any (·.refKey)=true:=by rw[a];exact bw
  rw[ZZ j];exact ZH some e
def Zw.look(I:Zw h x dx C mA):∃a,PySem.W.InstAt h x (instObj C dx) C (some a)/\∀name,lookIn name a=some (mA name) :=
 let⟨a,b,c⟩:=Qg I.ns
 ⟨a,⟨I.obj,rfl,rfl,b⟩,c⟩
def get_map{b:Bool}{Q:Ε}(X:K.In s.heap)(I:Zw s.heap x dx C mA)(g:plainGet K C name)(f:hasDictIn K C)
 (i:findIn K (.ref C) name=some none)(d:mA name=some v)(c:handedIn v)(h:Q v { s with toks:=s.toks+1 }) :
  wpAny (model prog w) A (getAttr (.ref x) name b) Q E s:=by
 obtain⟨j,J,e⟩:=I.look;exact PySem.W.get_value X J (plainGet_of g).1 (findObj_own f i rfl (by rw[e,d])) c h
def afo{Q:Value×Θ->Shared->Prop}(X:K.In s.heap)(I:Zw s.heap x dx C mA)(a:plainGet K C name)
 (g:findIn K (.ref C) name=some (some (.ref f)))(d:isFn K (.ref f))(c:mA name=none)(h:Q (.ref f,[.ref x]) s) :
  wpAny (model prog w) A (getMethod (.ref x) name pl) Q E s:=by
 obtain⟨b,J,e⟩:=I.look;exact PySem.W.method_fn X J (plainGet_of a).1 (plainGet_of a).2 g (beq_iff_eq.mp d) (by show(lookIn name b).map (·.isSome)=some false;rw[e,c];rfl) h
def agM{e:Φ}(X:K.In s.heap)(I:Zw s.heap x dx C mA)
 (p:findIn K (.ref C) "__setattr__"=some (some (.builtin "object.__setattr__")))(q:plainOver K C)(o:takerIn K C name=some none)(t:hasDictIn K C)
 (n:PySem.Within mA e)(d:e.length<=sizeLine)
 (h:∀h',Zw h' x dx C (λy=>if y=name then some v else mA y)->Heap.SameBut dx s.heap h'->Q () { s with heap:=h',toks:=s.toks+2 }) :
  wpAny (model prog w) A (setAttr (.ref x) name v) Q E s:=by
 obtain⟨F,J,H⟩:=I.look;refine set_plain X J p (PySem.W.osa_open (s:={ s with toks:=s.toks+1 }) (r:=none) X J q o λb=>?_);obtain⟨L,u,D⟩:=PySem.W.any_some t;have m:s.heap.get? x=some ⟨.ref C,some dx,.plain,#[]⟩:=I.obj;refine ZU (ZT (ZU (ZU (wpAny_loadPart m (ZU (PySem.W.Looks.here (s:={ s with toks:=s.toks+1 }) (looks_clsIn X u) ?_))))));rw[D];refine ZT (a:=some dx) (ZU (ZT (ZU ?_)));refine wpAny_nsSet1 (s:={ s with toks:=s.toks+1 }) I.ns λh' f i=>?_;obtain⟨G,z,B,k,j,l⟩:=f.count (PySem.Within.cons name v n);refine ZU (wpAny_lookBehind k (by rw[j];exact pastItsLine_dict (aL l (by rw[length_cons];exact succ_le_succ d))) ?_);exact ZT (h _ ⟨(i.2 _ (Ne.symm I.ne)).trans I.obj,f,I.ne⟩ i)
def adU{R:Result->Shared->Prop}{b:Θ}(X:K.In s.heap)(e:makesIn K C)
 (i:findIn K (.ref C) "__init__"=some (some (.ref f)))(j:typeIn K (.ref f)=some (.type "function"))
 (h:codeAny (model prog w) (A.under (.builtin "type.__call__" ⟨.ref C::b,kw⟩)) (.call (.ref f) ⟨.ref (s.zs+1)::b,kw⟩) (PySem.W.InitBack (s.zs+1) R)
   { s with heap:=(s.heap.push emptyDict).push (instObj C s.zs) }) :
  codeAny (model prog w) A (.call (.ref C) ⟨b,kw⟩) R s:=by
 obtain⟨k,g,d,t,os⟩:=s;exact PySem.W.make_core (PySem.W.makes_of X e) (looks_findIn X i) (λa=>PySem.W.bind_fn X a j) (.inl rfl) h
def w6(f:Str)(v:V):xC->xC
 |[]=>[(f,v)]
 |(g,x)::r=>if g=f then(g,v)::r else(g,x)::w6 f v r
theorem Je(f g:Str)(v:V):∀c:xC,(w6 f v c).lookup g=if g=f then some v else c.lookup g
 |[]=>by
  show List.lookup g [(f,v)]=_;by_cases h:g=f
  .have a:(g==f):=beq_iff_eq.mpr h;simp only[List.lookup,a,ZY h]
  .have a:(g==f)=false:=beq_eq_false_iff_ne.mpr h;simp only[List.lookup,a,ZZ h]
 |(k,x)::r=>by
  have d:=Je f g v r;rw[show w6 f v ((k,x)::r)=(if k=f then(k,v)::r else(k,x)::w6 f v r)from rfl];by_cases b:k=f
  .rw[ZY b];by_cases h:g=k
   .have a:(g==k):=beq_iff_eq.mpr h;simp only[List.lookup,a,ZY (h.trans b)]
   .have a:(g==k)=false:=beq_eq_false_iff_ne.mpr h;simp only[List.lookup,a,ZZ (λe:g=f=>h (e.trans b.symm))]
  .rw[ZZ b];by_cases h:g=k
   .have a:(g==k):=beq_iff_eq.mpr h;simp only[List.lookup,a,ZZ (λe:g=f=>b (h.symm.trans e))]
   .have a:(g==k)=false:=beq_eq_false_iff_ne.mpr h;simp only[List.lookup,a];exact d
theorem G_(f:Str)(v:V):∀b:xC,f∈(w6 f v b).map (·.1)/\∀g,g∈b.map (·.1)->g∈(w6 f v b).map (·.1)
 |[]=>⟨by simp[w6],λg h=>by simp at h⟩
 |(k,x)::r=>by
  obtain⟨d,c⟩:=G_ f v r;rw[show w6 f v ((k,x)::r)=(if k=f then(k,v)::r else(k,x)::w6 f v r)from rfl];by_cases a:k=f
  .rw[ZY a];subst a;exact⟨by simp,λg h=>by simpa using h⟩
  .rw[ZZ a];refine⟨?_,λg h=>?_⟩
   .rw[map_cons];exact aJ _ d
   .rw[map_cons]at h ⊢;rcases YU.mp h with e|e
    .exact YU.mpr (.inl e)
    .exact aJ _ (c g e)
theorem Iu(f:Str)(v:V):∀b:xC,(w6 f v b).length<=b.length+1
 |[]=>by simp[w6]
 |(k,x)::r=>by
  have c:=Iu f v r;rw[show w6 f v ((k,x)::r)=(if k=f then(k,v)::r else(k,x)::w6 f v r)from rfl];by_cases a:k=f
  .rw[ZY a,length_cons,length_cons];exact Xs _
  .rw[ZZ a,length_cons,length_cons];exact succ_le_succ c
variable{v:V}{a:Addr}{fs:xC}{f m:Str}{b:Bool}
def zV.some_of{o:Ω}(r:zV (some v) o):∃u,o=some u/\z0 v u:=by
 cases o with
 |none=>exact(show False from r).elim
 |some u=>exact⟨u,rfl,r⟩
def zV.none_of{o:Ω}(r:zV none o):o=none:=by
 cases o with
 |none=>rfl
 |some u=>exact(show False from r).elim
def Qs(r:z0 v u):handedIn u:=by
 cases v with
 |non=>cases(show u=Value.none from r);rfl
 |bl b=>cases(show u=Value.bool b from r);rfl
 |int i=>obtain⟨t,e⟩:=(show ∃t,u=Value.int i t from r);cases e;rfl
 |str x=>obtain⟨t,e⟩:=(show ∃t,u=Value.str x t from r);cases e;rfl
 |byt b=>obtain⟨t,e⟩:=(show ∃t,u=Value.bytes b t from r);cases e;rfl
 |flt b=>obtain⟨t,e⟩:=(show ∃t,u=Value.float b t from r);cases e;rfl
 |ref a=>cases(show u=Value.ref a from r);rfl
 |ty n=>cases(show u=Value.type n from r);rfl
def JT(b:HOk P w H h)(e:H a=some (.ins C dx fs)):∃mA,Zw h a dx C mA/\(∀f,zV (fs.lookup f) (mA f))/\PySem.Within mA (fs.map (·.1))/\fs.length<=1000/\H dx=some (.own a):=by
 obtain⟨d,z,g,c,mA,n,r,q⟩:=(show fQ P w H h a (.ins C dx fs)from b a _ e);exact⟨mA,⟨c,n,g⟩,r,q,z,d⟩
structure Cls(K:Frag)(C:Addr):Prop where
 pg:plainGet K C Str.empty
 hd:hasDictIn K C
 po:plainOver K C
 sa:findIn K (.ref C) "__setattr__"=some (some (.builtin "object.__setattr__"))
def Cls.get{K:Frag}{C:Addr}(c:Cls K C)(f:Str):plainGet K C f:=c.pg
def cD(K:Frag)(C:Addr)(f:Str):Prop:=findIn K (.ref C) f=some none
def cD.taker(n:cD K C f):takerIn K C f=some none:=by
 unfold takerIn;rw[show findIn K (.ref C) f=some none from n]
 rfl
structure Meth(K:Frag)(C:Addr)(m:Str)(f:Addr):Prop where
 at_:findIn K (.ref C) m=some (some (.ref f))
 fn:isFn K (.ref f)
 kp:keepIn K (.ref f)
def Zo{Q:Ε}(d:Inv X U I H s)(e:H a=some (.ins C dx fs))(c:Cls X.K C)(n:cD X.K C f)(l:fs.lookup f=some v)
 (h:∀u s',Inv X U I H s'->z0 v u->Q u s'):wpAny (model X.prog X.w) A (getAttr (.ref a) f b) Q E s:=by
 obtain⟨mA,O,r,_,_,_⟩:=JT d.hok e;obtain⟨u,i,g⟩:=zV.some_of (v:=v) (o:=mA f) (by rw[<- l];exact r f);exact get_map d.kIn O (c.get f) c.hd n i (Qs g) (h u _ (d.tok _) g)
def Nk{g:Addr}{Q:Value×Θ->Shared->Prop}(b:Inv X U I H s)(e:H a=some (.ins C dx fs))(c:Cls X.K C)(k:Meth X.K C m g)(l:fs.lookup m=none)
 (h:Q (.ref g,[.ref a]) s):wpAny (model X.prog X.w) A (getMethod (.ref a) m pl) Q E s:=by
 obtain⟨mA,O,r,_,_,_⟩:=JT b.hok e;have d:mA m=none:=zV.none_of (by rw[<- l];exact r m);exact afo b.kIn O (c.get m) k.at_ k.fn d h
def Z0{y:V}(d:Inv X U I H s)(e:H a=some (.ins C dx fs))(c:Cls X.K C)(n:cD X.K C f)(t:fs.length<1000)(m:z0 y u)
 (h:∀s',Inv X U I (upd H a (.ins C dx (w6 f y fs))) s'->Q () s'):wpAny (model X.prog X.w) A (setAttr (.ref a) f u) Q E s:=by
 obtain⟨mA,O,r,j,_,k⟩:=JT d.hok e;have p:(fs.map (·.1)).length<=sizeLine:=by rw[ak,sizeLine_eq];exact aL (Y2 t) wP
 refine agM d.kIn O c.sa c.po n.taker c.hd j p λh' i l=>h _ ?_;have hd:∃o,h'.get? dx=some o:=by obtain⟨o,_,_,D,_⟩:=i.ns;exact⟨o,D⟩
 refine d.write (x:=a) (e:=dx) (by rw[e];exact True.intro) (.inr k) (λb q B z=>(l.2 b B).trans z) hd ?_;refine⟨by rw[bR O.ne];exact k,?_,O.ne,i.obj,_,i.ns,λg=>?_,λg v=>?_⟩
 .have:=Iu f y fs;lia
 .show zV ((w6 f y fs).lookup g) (if g=f then some u else mA g);rw[Je];by_cases q:g=f
  .rw[ZY q,ZY q];exact m
  .rw[ZZ q,ZZ q];exact r g
 .by_cases q:g=f
  .rw[q];exact(G_ f y fs).1
  .refine(G_ f y fs).2 g (j g λz=>v ?_);show(if g=f then some u else mA g)=none;rw[ZZ q];exact z
def Inv.made(c:Inv X U I H s):Inv X U I (upd (upd H s.zs (.own (s.zs+1))) (s.zs+1) (.ins C s.zs []))
  { s with heap:=(s.heap.push emptyDict).push (instObj C s.zs) }:=by
 have g:(s.heap.push emptyDict).get? s.zs=some emptyDict:=aW s.heap rfl;have k:((s.heap.push emptyDict).push (instObj C s.zs)).get? (s.zs+1)=some (instObj C s.zs):=by
  have:=aW (s.heap.push emptyDict) (o:=instObj C s.zs) rfl;rwa[Heap.size_push]at this
 have j:(s.heap.push emptyDict).Ns s.zs (λ_=>none):=⟨emptyDict,#[],_,g,rfl,(λe i=>absurd i vz),λ_=>rfl⟩;have l:=c.laid (a:=s.zs) (o:=.own (s.zs+1)) (h':=s.heap.push emptyDict) (t':=s.toks) (λb u q=>aH _ q) (aG _) ⟨_,g⟩;refine l.laid (a:=s.zs+1) (o:=.ins C s.zs []) (t':=s.toks) (λb u q=>aH _ q) (WH (Heap.size_push _ _)) ?_;have d:s.zs≠s.zs+1:=aQ (X2 _);refine⟨by rw[bR d,bY],aZ _,d,k,λ_=>none,(Heap.Ns1.of_empty j).at λo q=>aH _ q,λ_=>True.intro,λy h=>absurd rfl h⟩
variable{Q:Ε}{o aw:Expr}{tv:TE}{c:Value}{t:TA}
def Hz{env:Env}(b:attributeBase e f env (eval e env)=eval e env)
 (h:wpAny (model prog w) A (eval e env) (λo a=>wpAny (model prog w) A (getAttr o f true) Q E a) E s):wpAny (model prog w) A (eval (.Attribute e f O) env) Q E s :=
 Attribute_any_ h (by rw[arm_eval_Attribute,b])
def OB(K:Frag)(ta:TE)(f:Str):TE:=λI H Q=>ta I H λx Y=>∃a C dx fs v,x=.ref a/\Y a=some (.ins C dx fs)/\Cls K C/\cD K C f/\fs.lookup f=some v/\Q v Y
def O'(K:Frag)(ta tv:TE)(f:Str):TS:=λD I H=>tv I H λy Y=>ta I Y λx b=>∃a C dx fs,x=.ref a/\b a=some (.ins C dx fs)/\Cls K C/\cD K C f/\fs.length<1000 /\
 D.nx I (upd b a (.ins C dx (w6 f y fs)))
abbrev zt(X:Cx)(a:Expr)(b:Str):Prop:=attributeBase a b X.env (eval a X.env)=eval a X.env
def FR(i:PE X e ta)(j:zt X e f):PE X (.Attribute e f O) (OB X.K ta f):=by
 intro U s I H Q b h;refine Hz j (ap (i U s I H _ b h) λu t h=>?_);obtain⟨x,Y,o,d,a,C,dx,fs,v,rfl,k,c,n,l,q⟩:=h;obtain rfl:u=Value.ref a:=d;exact Zo o k c n l λp r m g=>⟨v,Y,m,g,q⟩
def Vi(m:PE X o ta)(j:PE X aw tv)(k:swapsWith aw (some (.Attribute o f bi)) O.line X.env=pure false):PS X (.Assign [.Attribute o f bi] aw O) (O' X.K ta tv f):=by
 intro U s I H D b h;refine plainObj_wpAny_Assign_Attribute (ap (j U s I H _ b h) λu d ⟨y,Y,v,e,q⟩=>ap (m U d I Y _ v q) λi z h=>?_) k;obtain⟨x,A,t,g,a,C,dx,fs,rfl,p,c,n,l,q2⟩:=h;obtain rfl:i=Value.ref a:=g;exact Z0 t p c n l e λw r=>⟨I,_,r,q2⟩
inductive Ib(K:Frag)(H:Hp):V->Value->Prop where
 |non:Ib K H .non (.type "NoneType")
 |bl (x:Bool):Ib K H (.bl x) (.type "bool")
 |int (i:Int):Ib K H (.int i) (.type "int")
 |str (x:Str):Ib K H (.str x) (.type "str")
 |flt (x:UInt64):Ib K H (.flt x) (.type "float")
 |lst {a:Addr}{G:Ζ} (e:H a=some (.lst G)):Ib K H (.ref a) (.type "list")
 |frz {a:Addr}{o:Obj}{G:Ζ} (e:H a=some (.frz o (.lst G))):Ib K H (.ref a) (.type "list")
 |tup {a:Addr}{G:Ζ} (e:H a=some (.tup G)):Ib K H (.ref a) (.type "tuple")
 |dK {a:Addr}{kvs:xA} (e:H a=some (.dK kvs)):Ib K H (.ref a) (.type "dict")
 |ins {a C dx:Addr}{fs:xC} (e:H a=some (.ins C dx fs)) (cl:Cls K C) (ha:findIn K (.ref C) "__class__"=some (some (.builtin "object.__class__")))
   (hn:specialIn K (.builtin "object.__class__") "__get__"=some (some (.builtin "getset_descriptor.__get__"))) (htk:PySem.W.takesIn K (.builtin "object.__class__")=some true)
   (hm:mroIn K C (.type "object")=some true):Ib K H (.ref a) (.ref C)
def acy{x:V}{t:Value}(d:Inv X U I H s)(f:z0 x u)(B:Ib X.K H x t)(e:kitOne X.K t c=some b)(h:∀D,Q (.bool b) { s with toks:=D }) :
  wpAny (model X.prog X.w) A (call (.builtin "isinstance") [u,c]) Q E s:=by
 cases B with
 |non=>cases(show u=Value.none from f);exact kia_one PySem.W.kitx_none d.kIn True.intro e (λz=>nomatch z) h
 |bl y=>cases(show u=Value.bool y from f);exact kia_one PySem.W.kitx_bool d.kIn True.intro e (λz=>nomatch z) h
 |int i=>obtain⟨t,q⟩:=(show ∃t,u=Value.int i t from f);cases q;exact kia_one PySem.W.kitx_int d.kIn True.intro e (λz=>nomatch z) h
 |str y=>obtain⟨t,q⟩:=(show ∃t,u=Value.str y t from f);cases q;exact kia_one PySem.W.kitx_str d.kIn True.intro e (λz=>nomatch z) h
 |flt y=>obtain⟨t,q⟩:=(show ∃t,u=Value.float y t from f);cases q;exact kia_one PySem.W.kitx_float d.kIn True.intro e (λz=>nomatch z) h
 |@lst a G g =>
  cases(show u=Value.ref a from f);obtain⟨_,_,n,_,j⟩:=(show fQ X.prog X.w H s.heap a (.lst G)from d.hok a _ g);exact kia_one kitx_list d.kIn ⟨_,j,rfl⟩ e (λz=>nomatch z) h
 |@frz a F G g =>
  cases(show u=Value.ref a from f);obtain⟨_,_,_,n,_,j⟩:=(show fQ X.prog X.w H s.heap a (.frz F (.lst G))from d.hok a _ g);exact kia_one kitx_list d.kIn ⟨_,j,rfl⟩ e (λz=>nomatch z) h
 |@tup a G g =>
  cases(show u=Value.ref a from f);obtain⟨_,_,_,p⟩:=(show fQ X.prog X.w H s.heap a (.tup G)from d.hok a _ g);obtain⟨o,j,m,_⟩:=p;exact kia_one kitx_tuple d.kIn ⟨o,j,m⟩ e (λz=>nomatch z) h
 |@dK a k g =>
  cases(show u=Value.ref a from f);obtain⟨_,_,P,_,p⟩:=(show fQ X.prog X.w H s.heap a (.dK k)from d.hok a _ g);obtain⟨o,es,S,j,m,_⟩:=p;exact kia_one PySem.W.kitx_dict d.kIn ⟨o,j,m.1⟩ e (λz=>nomatch z) h
 |@ins a C dx fs g v N L l M =>
  cases(show u=Value.ref a from f);obtain⟨mA,O,_⟩:=JT d.hok g;obtain⟨R,J,_⟩:=O.look;exact kia_one (PySem.W.kitx_own (v.get _) v.hd N L l M) d.kIn J e (λz=>nomatch z) h
structure eN(k:Nat)(A:Around):Prop where
 hd:A.handled=none
 dp:A.depth+3*k+5<recursionLimit
 un:A.units+16*k+200<cLine
def eN.mono{j:Nat}(r:eN k A)(h:j<=k):eN j A:=⟨r.hd,by have:=r.dp;lia,by have:=r.un;lia⟩
def eN.md{n:Nat}(h:eN n A)(e:autoParam (k<=n) zP4):eN k A:=h.mono e
def eN.deeper{k:Nat}{A:Around}(r:eN (k+1) A)(env:Env):eN k (A.deeper env) :=
 ⟨r.hd,by have:=r.dp;show A.depth+1+3*k+5<_;lia,by have:=r.un;show A.units+3+16*k+200<_;lia⟩
def Z1 : (A.under (.builtin "type.__call__" ⟨.ref C::Z,kw⟩)).depth=A.depth+1:=by
 first|rfl|simp[Around.under,Code.weight,Code.isCreation,Code.isGuard,Code.isCaller,Code.frames,Code.isFrame,guardIds]
def Zz : (A.under (.builtin "type.__call__" ⟨.ref C::Z,kw⟩)).units=A.units+1:=by
 first|rfl|simp[Around.under,Code.cUnits,Code.frames,Code.isFrame]
def eN.make(r:eN (k+1) A)(C:Addr)(Z:Θ)(kw:xB):eN k (A.under (.builtin "type.__call__" ⟨.ref C::Z,kw⟩)) :=
 ⟨r.hd,by have:=r.dp;rw[Z1];lia,by have:=r.un;rw[Zz];lia⟩
def eN.depth{k:Nat}{A:Around}(r:eN k A):A.depth<recursionLimit:=by have:=r.dp;lia
def eN.units{k:Nat}{A:Around}(r:eN k A):A.units+64<cLine:=by have:=r.un;lia
def VR:TA:=λ_ H Q=>Q [] H
def KZ(ta:TE)(tr:TA):TA:=λI H Q=>ta I H λx Y=>tr I Y λG a=>Q (x::G) a
def dI:PA X [] VR:=λ_ _ _ _ H Q I h=>Calls.spliced_nil ⟨[],H,I,.nil,h⟩
abbrev zw(X:Cx)(a:Expr)(b:xb):Prop:=starEach (a::b) X.env=(false,eval a X.env)::starEach b X.env
def cj(k:PE X e te)(j:PA X es t)(i:‹zw X e es›):PA X (e::es) (KZ te t):=by
 intro O U s I H Q a h;rw[i];show wpAny _ _ (spliced ((false,eval e X.env)::backTo O (starEach es X.env))) _ _ s;refine Calls.spliced_cons (ap (k U s I H _ a h) λu c b=>?_);obtain⟨x,Y,m,f,g⟩:=b;exact ap (j O U c I Y _ m g) λZ o b=>by obtain⟨G,n,l,d,q2⟩:=b;exact⟨x::G,n,l,.cons f d,q2⟩
def MG(t:TA):TE:=λI H Q=>t I H λG Y=>G.length<=sizeLine/\∀p,Y p=none->Q (.ref p) (upd Y p (.tup G))
def ML(t:TA):TE:=λI H Q=>t I H λG Y=>G.length<=sizeLine/\∀p,Y p=none->Q (.ref p) (upd Y p (.lst G))
def U_{f}(h:PA X es t):PE X (.Tuple es f O) (MG t):=by
 intro U s I H Q a g;refine wpAny_Tuple_spliced (ap (h O U s I H _ a g) λZ c ⟨G,Y,d,r,z,q⟩=>⟨by rw[<- r.length];exact z,?_⟩);have i:Y c.zs=none:=d.hok.fresh (aG _);refine⟨.ref c.zs,upd Y c.zs (.tup G),d.laid (t':=c.toks) (λb u e=>aH _ e) (aG _) ?_,rfl,q _ i⟩;exact⟨z,Z,r,⟨_,aW _ rfl,rfl,_,rfl⟩⟩
def Sv(h:PA X es t):PE X (.List es O) (ML t):=by
 intro U s I H Q a f;refine wpAny_List_spliced (ap (h O U s I H _ a f) λZ c ⟨G,Y,d,r,z,q⟩=>⟨by rw[<- r.length];exact z,?_⟩);have g:Y c.zs=none:=d.hok.fresh (aG _);refine⟨.ref c.zs,upd Y c.zs (.lst G),d.laid (t':=c.toks) (λb u e=>aH _ e) (aG _) ?_,rfl,q _ g⟩;exact⟨z,Z,0,r,aW _ rfl⟩
abbrev Sp:=Ζ->Hp->VK->XK->Prop
abbrev ff:=xa->Hp->Shared->XK->Value->Shared->Prop
structure Ww(P:Program)(w:World)(K:Frag)(mg:Str->Ω)(base:Heap)(A:Around)(outer:xa)(s:Shared)(H:Hp):Prop where
 frames:A.frames=some outer
 mod:Mod K mg base
 bs:∀b o,base.get? b=some o->s.heap.get? b=some o/\H b=none
 bsz:base.objs.size<=s.zs
 funs:s.heap.FunFrames base outer
 frf:∀b∈cp outer,H b=none
 hok:HOk P w H s.heap
 bare:AllBare s.gens
def CE(a:xa)(P:Program)(w:World)(H:Hp)(s:Shared)(Q:VK)(u:Value)(s':Shared):Prop :=
 ∃v H',s'.os=s.os/\AllBare s'.gens/\Un (cp a) [] H H' s.heap s'.heap/\HOk P w H' s'.heap/\z0 v u/\Q v H'
def CR(b:ff)(a:xa)(P:Program)(w:World)(H:Hp)(s:Shared)(Q:VK)(E:XK)(r:Result)(s':Shared):Prop :=
 match r with
 |.ok (.ret u)=>CE a P w H s Q u s'
 |.ok _=>False
 |.error e=>b a H s E e s'
structure fX(P:Program)(w:World)(K:Frag)(mg:Str->Ω)(base:Heap)(CX:ff)(k:Nat)(f:Addr)(fd:FuncData)(ps:Φ)(sp:Sp):Prop where
 len:∀vs H Q E,sp vs H Q E->vs.length=ps.length
 run:∀(A:Around)(outer:xa)(s:Shared)(H:Hp)(args:Args)(Z:Θ)(vs:Ζ)(Q:VK)(E:XK),eN k A->Ww P w K mg base A outer s H->BindsTo s fd args (ps.zip Z)->z1 vs Z->sp vs H Q E ->
  codeAny (model P w) A (.call (.ref f) args) (CR CX outer P w H s Q E) s
variable{f:Addr}{mg:Str->Ω}{base:Heap}{CX:ff}{fd:FuncData}{ps:Φ}{sp:Sp}{Q:VK}{E:XK}{vs du:Ζ}{ds:Θ}{x:Str}{ai:Pos}{J:Scope}
def fX.imp{b:Sp}(F:fX P w K mg base CX k f fd ps sp)
 (h:∀vs H Q E,b vs H Q E->sp vs H Q E):fX P w K mg base CX k f fd ps b :=
 ⟨λvs H Q E q=>F.len vs H Q E (h _ _ _ _ q),λA a s H c Z vs Q E g i j d e=>F.run A a s H c Z vs Q E g i j d (h _ _ _ _ e)⟩
def Ww.make{a:xa}(e:Ww P w K mg base A a s H)(C:Addr)(Z:Θ)(kw:xB) :
  Ww P w K mg base (A.under (.builtin "type.__call__" ⟨.ref C::Z,kw⟩)) a s H:=⟨by first|exact e.frames|(simpa[Around.under,Code.envs,Code.isFrame,pushEnvs]using e.frames),e.mod,e.bs,e.bsz,e.funs,e.frf,e.hok,e.bare⟩
def Inv.env0(a:Inv X U I H s):Ww X.prog X.w X.K X.mg X.base X.A X.stack s H :=
 ⟨a.ok.frames,a.ok.mod,a.bs,aL a.ok.bsz a.sz,a.stack,a.stkFree,a.hok,a.bare⟩
def Inv.after(a:Inv X U I H s)(h:CE X.stack X.prog X.w H s Q u s'):EP X U I Q u s':=by
 obtain⟨v,H',os,bare,un,hok,r,q⟩:=h;obtain⟨e,g,d,t,c⟩:=s';obtain rfl:c=s.os:=os;exact⟨v,H',a.call (h':=e) (g':=g) (d':=d) (t':=t) (ch:=[]) un hok bare (λb z=>absurd z vz),r,q⟩
def Ps(sp:Sp)(du:Ζ)(E:XK)(t:TA):TE:=λI H Q=>t I H λvs Y=>sp (vs++du) Y Q E
def EH(C:Addr)(m:Str)(sp:Sp)(du:Ζ)(E:XK)(ta:TE)(t:TA):TE:=λI H Q=>ta I H λx Y=>∃a dx fs,x=.ref a/\Y a=some (.ins C dx fs)/\fs.lookup m=none /\
 t I Y λvs b=>sp (x::(vs++du)) b Q E
def Re(C:Addr)(sp:Sp)(du:Ζ)(E:XK)(t:TA):TE:=λI H Q=>t I H λvs Y=>∀x dx,Y x=none->Y dx=none->dx≠x ->
 sp (.ref x::(vs++du)) (upd (upd Y dx (.own x)) x (.ins C dx [])) (λv a=>v=.non/\Q (.ref x) a) E
def Binds(K:Frag)(fd:FuncData)(ps:Φ)(ds:Θ):Prop :=
 ∀(s:Shared)(Z:Θ),K.In s.heap->(Z++ds).length=ps.length->BindsTo s fd ⟨Z,[]⟩ (ps.zip (Z++ds))
def Binds.all(h:∀Z:Θ,Z.length=ps.length->bindArgs fd ⟨Z,[]⟩=pure (ps.zip Z)):Binds K fd ps []:=λs Z _ a=>by
 rw[append_nil]at a ⊢;exact .of_eq (h Z a)
def Passes(CX:ff)(X:Cx)(E:XK):Prop:=∀(U:Δ)(I:St)(H:Hp)(s:Shared)(e:Value)(s':Shared),Inv X U I H s->CX X.stack H s E e s'->X.xe e s'
def RM(F:fX X.prog X.w X.K X.mg X.base CX k f fd ps sp)(g:eN k X.A)(j:Binds X.K fd ps ds)(hd:z1 du ds)(d:Passes CX X E)
 (a:Inv X U I H s)(r:z1 vs Z)(h:sp (vs++du) H Q E):wpAny (model X.prog X.w) X.A (call (.ref f) Z) (EP X U I Q) X.xe s:=by
 have c:z1 (vs++du) (Z++ds):=r.append hd;have i:(Z++ds).length=ps.length:=by rw[<- c.length];exact F.len _ _ _ _ h
 refine wpAny_call (codeAny_mono (F.run X.A X.stack s H ⟨Z,[]⟩ (Z++ds) (vs++du) Q E g a.env0 (j s Z a.kIn i) c h) λr s' b=>?_);cases r with
 |error e=>exact d U I H s e s' a b
 |ok l =>
  cases l with
  |ret u=>exact a.after b
  |next=>exact False.elim b
  |brk=>exact False.elim b
  |cont=>exact False.elim b
abbrev zg(X:Cx)(a:Pos)(b:xb):Prop:=(backTo a (starEach b X.env)).any (·.1)=false
def _5(F:fX X.prog X.w X.K X.mg X.base CX k f fd ps sp)(d:eN k X.A)(j:Gl X x)(g:X.mg x=some (.ref f))(i:keepIn X.K (.ref f))(m:Binds X.K fd ps ds)(hd:z1 du ds)(c:Passes CX X E)
 (n:PA X (e::es) t)(o:autoParam (zz x) zP4)(l:‹zw X e es›)(u:‹zg X O es›) :
  PE X (.Call (.Name x p) (e::es) [] O) (Ps sp du E t):=by
 intro U s I H Q a h;refine wpAny_Call_Name_kw (sE a j g ?_ o);refine callWith_K (h₀:=X.base) a.ok.mod.kin i (ap (n O U s I H _ a h) λZ v ⟨vs,Y,b,r,q⟩=>⟨b.kIn,?_⟩) l u;exact RM F d m hd c b r q
def agV(B:PE X o ta)(c:Cls X.K C)(g:Meth X.K C m f)(F:fX X.prog X.w X.K X.mg X.base CX k f fd ps sp)(z:eN k X.A)(D:Binds X.K fd ps ds)(hd:z1 du ds)(v:Passes CX X E)(G:PA X (e::es) t)
 (N:‹zw X e es›)(P:‹zg X O es›)
 (y:‹eval (.Call (.Attribute o m ai) (e::es) [] O) X.env=(do
   let d <- eval o X.env
   standAt ai.atName
   let(f,first) <- holding [d] (getMethod d m pl)
   callWith O f first (backTo O (starEach (e::es) X.env)) (backToKw O (keywordEach [] X.env)))›) :
  PE X (.Call (.Attribute o m ai) (e::es) [] O) (EH C m sp du E ta t):=by
 intro U s I H Q b h;refine methodCall_KW (pl:=pl) (ap (B U s I H _ b h) λu n J=>?_) y;obtain⟨x,Y,j,p,a,dx,fs,L,M,l,q⟩:=J;subst L;obtain rfl:u=Value.ref a:=p;refine Nk j M c g l ?_;refine callWith_K (first:=[.ref a]) (h₀:=X.base) b.ok.mod.kin g.kp (ap (G O U n I Y _ j q) λZ R ⟨vs,S,i,r,q2⟩=>⟨i.kIn,?_⟩) N P;exact RM (Z:=.ref a::Z) (vs:=.ref a::vs) F z D hd v i (.cons rfl r) q2
def ady(r:PE X o ta)(c:Cls X.K C)(g:Meth X.K C m f)(F:fX X.prog X.w X.K X.mg X.base CX k f fd ps sp)(p:eN k X.A)(t:Binds X.K fd ps ds)(hd:z1 du ds)(j:Passes CX X E)
 (n:‹eval (.Call (.Attribute o m ai) [] [] O) X.env=(do
   let e <- eval o X.env
   standAt ai.atName
   let(f,first) <- holding [e] (getMethod e m pl)
   callWith O f first (backTo O (starEach [] X.env)) (backToKw O (keywordEach [] X.env)))›) :
  PE X (.Call (.Attribute o m ai) [] [] O) (EH C m sp du E ta VR):=by
 intro U s I H Q b h;refine methodCall_KW (pl:=pl) (ap (r U s I H _ b h) λu B v=>?_) n;obtain⟨x,Y,d,i,a,dx,fs,y,z,l,q⟩:=v;subst y;obtain rfl:u=Value.ref a:=i;refine Nk d z c g l ?_;exact PySem.W.callWith_K0 (first:=[.ref a]) d.kIn g.kp (RM (Z:=[.ref a]) (vs:=[.ref a]) F p t hd j d (.cons rfl .nil) q)
structure Mk(K:Frag)(C f:Addr):Prop where
 makes:makesIn K C
 init:findIn K (.ref C) "__init__"=some (some (.ref f))
 fn:isFn K (.ref f)
 kp:keepIn K (.ref C)
def agh(M:Mk X.K C f)(F:fX X.prog X.w X.K X.mg X.base CX k f fd ps sp)(l:eN (k+1) X.A)(n:Binds X.K fd ps ds)(hd:z1 du ds)
 (j:Passes CX X E)(a:Inv X U I H s)(r:z1 vs Z)
 (h:∀x dx,H x=none->H dx=none->dx≠x->sp (.ref x::(vs++du)) (upd (upd H dx (.own x)) x (.ins C dx [])) (λv t=>v=.non/\Q (.ref x) t) E) :
  wpAny (model X.prog X.w) X.A (call (.ref C) Z) (EP X U I Q) X.xe s:=by
 have g:=h (s.zs+1) s.zs (a.hok.fresh (Xs _)) (a.hok.fresh (aG _)) (aQ (X2 _));have c:=Inv.made (C:=C) a;have d:z1 (V.ref (s.zs+1)::(vs++du)) (Value.ref (s.zs+1)::(Z++ds)):=.cons rfl (r.append hd);have m:(Value.ref (s.zs+1)::Z++ds).length=ps.length:=by
  have e:=d.length;rw[F.len _ _ _ _ g]at e;exact e.symm
 refine wpAny_call (adU (f:=f) a.kIn M.makes M.init (beq_iff_eq.mp M.fn) (codeAny_mono (F.run _ X.stack _ _ ⟨Value.ref (s.zs+1)::Z,[]⟩ (Value.ref (s.zs+1)::(Z++ds)) _ _ E (l.make C Z [])
  (c.env0.make C Z []) (n _ (Value.ref (s.zs+1)::Z) c.kIn m) d g) λr s' b=>?_))
 cases r with
 |error e=>exact j U I _ _ e s' c b
 |ok o =>
  cases o with
  |ret u =>
   obtain⟨v,H',q,i,p,q3⟩:=c.after b;subst p;exact⟨i,⟨V.ref (s.zs+1),H',q,rfl,q3⟩⟩
  |next=>exact False.elim b
  |brk=>exact False.elim b
  |cont=>exact False.elim b
def ag5(M:Mk X.K C f)(F:fX X.prog X.w X.K X.mg X.base CX k f fd ps sp)(d:eN (k+1) X.A)(i:Gl X x)(g:X.mg x=some (.ref C))(l:Binds X.K fd ps ds)(hd:z1 du ds)(c:Passes CX X E)
 (m:PA X (e::es) t)(n:autoParam (zz x) zP4)(j:‹zw X e es›)(o:‹zg X O es›) :
  PE X (.Call (.Name x p) (e::es) [] O) (Re C sp du E t):=by
 intro U s I H Q a h;refine wpAny_Call_Name_kw (sE a i g ?_ n);refine callWith_K (h₀:=X.base) a.ok.mod.kin M.kp (ap (m O U s I H _ a h) λZ u ⟨vs,Y,b,r,q⟩=>⟨b.kIn,?_⟩) j o;exact agh M F d l hd c b r q
structure bK(N P:Φ)(sc:Scope):Prop where
 kind:sc.kind=.function
 co:sc.isCoroutine=false
 gen:sc.isGenerator=false
 nd:N.Nodup
 pre:N.take P.length=P
 par:∀x∈P,sc.names.lookup x=some .local\/sc.names.lookup x=some .cell
 nofree:∀y∈sc.names,y.2≠.free
theorem QJ{kindOf:Str->Option NameKind}{x:Str} : ∀{a:xB}{m:Str->Ω},(∀v,(x,v)∉a)->bindL kindOf a m x=m x
 |[],_,_=>rfl
 |(n,v)::r,m,h=>by
  unfold bindL;rw[QJ λw b=>h w (aJ _ b)];split
  .have:x≠n:=by rintro rfl;exact h v aO
   simp[this]
  .rfl
theorem Qn{kindOf:Str->Option NameKind}{x:Str} : ∀{a:xB}{m:Str->Ω},(∀v,(x,v)∉a)->bindC kindOf a m x=m x
 |[],_,_=>rfl
 |(n,v)::r,m,h=>by
  unfold bindC;rw[Qn λw b=>h w (aJ _ b)];split
  .rfl
  .have:x≠n:=by rintro rfl;exact h v aO
   simp[this]
theorem Qz{kindOf:Str->Option NameKind}{x:Str}{v:Value} : ∀{P:Φ}{vs:Θ}{i:Nat}{m:Str->Ω},P.Nodup->P[i]?=some x->vs[i]?=some v->kindOf x=some .local ->
  bindL kindOf (P.zip vs) m x=some v
 |[],_,_,_,_,h,_,_=>by simp at h
 |_::_,[],_,_,_,_,h,_=>by simp at h
 |p::P,w::vs,0,m,c,b,a,d=>by
  simp at b a;subst b;subst a;show bindL kindOf ((p,w)::P.zip vs) m p=_;unfold bindL;rw[QJ λv e=>(List.nodup_cons.mp c).1 (UT e).1,ZY d];simp
 |p::P,w::vs,i+1,m,c,b,a,d=>by
  show bindL kindOf ((p,w)::P.zip vs) m x=_;unfold bindL;exact Qz (i:=i) (List.nodup_cons.mp c).2 (by simpa using b) (by simpa using a) d
theorem QH{kindOf:Str->Option NameKind}{x:Str}{v:Value} : ∀{P:Φ}{vs:Θ}{i:Nat}{m:Str->Ω},P.Nodup->P[i]?=some x->vs[i]?=some v->kindOf x≠some .local ->
  bindC kindOf (P.zip vs) m x=some v
 |[],_,_,_,_,h,_,_=>by simp at h
 |_::_,[],_,_,_,_,h,_=>by simp at h
 |p::P,w::vs,0,m,c,b,a,d=>by
  simp at b a;subst b;subst a;show bindC kindOf ((p,w)::P.zip vs) m p=_;unfold bindC;rw[Qn λv e=>(List.nodup_cons.mp c).1 (UT e).1,ZZ d];simp
 |p::P,w::vs,i+1,m,c,b,a,d=>by
  show bindC kindOf ((p,w)::P.zip vs) m x=_;unfold bindC;exact QH (i:=i) (List.nodup_cons.mp c).2 (by simpa using b) (by simpa using a) d
def start(N:Φ)(vs:Ζ):St:=vs.map some++replicate (N.length-vs.length) none
def Gr(CX:ff)(P:Program)(w:World)(K:Frag)(mg:Str->Ω)(base:Heap)(N:Φ)(b:Str)(J:Scope)(f:Addr)(a:Value)(A:Around)(outer:xa)(s:Shared)(H:Hp)(E:XK):Cx where
 prog:=P
 w:=w
 K:=K
 mg:=mg
 base:=base
 A:=A.deeper (envOfC b J s.zs f a)
 N:=N
 s₀:=s
 H₀:=H
 env:=envOfC b J s.zs f a
 outer:=outer
 stack:=envOfC b J s.zs f a::outer
 ex:=[]
 calm:=true
 fn:=λ_=>true
 pn:=[]
 xe:=λe s'=>wpAny (model P w) (A.deeper (envOfC b J s.zs f a)) (leaving (envOfC b J s.zs f a) e) (λ_ c=>CX outer H s E e c) (λd c=>CX outer H s E d c) s'
def Xf{a:Scope}{n:Nat}(h:a.names.lookup x=some .cell):∃c,(cellsFrom n a.names []).lookup x=some c:=by
 have q:=PySem.W.cellsFrom_some a.names n [] (.inl h);exact Option.isSome_iff_exists.mp q
def abZ{N:Φ}{C:Str}{B:Value}{d:xa}{G:Shared}
 (S:bK N ps J)(hd:A.handled=none)(j:Ww P w K mg base A d s H)(O:vs.length=ps.length)(r:z1 vs Z)
 (x:InCallC s s.zs (bindL (envOfC C J s.zs f B).kindOf (ps.zip Z) λ_=>none) (cellsFrom (s.zs+1) J.names []) (bindC (envOfC C J s.zs f B).kindOf (ps.zip Z) λ_=>none) G) :
  Inv (Gr CX P w K mg base N C J f B A d s H E) [] (start N vs) H G:=by
 have U:ps.length<=N.length:=by have:=ZH List.length S.pre;rw[aY]at this;lia
 obtain⟨F,R,rfl,L⟩:=x.done;have D:∀b:Addr,b∉(Gr CX P w K mg base N C J f B A d s H E).ex:=λb z=>absurd (show b∈([] : Ψ)from z) vz;refine⟨⟨j.mod,S.kind,rfl,rfl,aG _,λy z c F g=>?_,λy l=>?_,λy c _ h=>?_,λ_=>hd,Around.frames_deeper j.frames,.inr ⟨rfl,rfl⟩,λb z=>absurd z (D b),j.bs,j.bsz,λb _ _=>D b,λb z=>absurd z (D b),j.funs,j.frf⟩,
  rfl,j.bare,Un.kept L,⟨_,x.toInCall.ns,λi y v F g T=>?_⟩,λy c h=>⟨_,x.cell y c h⟩,j.hok.fresh (aG _),λy c h=>?_,λp o=>absurd (show p∈([] : Δ)from o) vz,j.hok.kept L,?_⟩
 .exact name_of_addr x.apart (PySem.mem_of_lookup F) (PySem.mem_of_lookup g)
 .have l:J.names.lookup y=some .cell\/J.names.lookup y=some .free:=l;rcases l with l|l
  .exact Xf l
  .exact absurd rfl (S.nofree _ (PySem.mem_of_lookup l))
 .exact Y2 (x.above y c (PySem.mem_of_lookup h))
 .have t:i<vs.length:=by
   unfold start at g;by_cases t:i<vs.length
   .exact t
   .rw[aD (by simpa using t)]at g;rw[X1]at g;split at g<;>cases g
  have Q:vs[i]?=some v:=by
   unfold start at g;rw[aF (by simpa using t),aq]at g;cases e:vs[i]? with
   |none=>rw[e]at g;cases g
   |some a=>rw[e]at g;cases g;rfl
  obtain⟨u,I,M⟩:=r.get Q;have o:ps[i]?=some y:=by
   rwa[<- S.pre,List.getElem?_take_of_lt (aR t (WH O))]
  have m:ps.Nodup:=by rw[<- S.pre];exact S.nd.sublist (List.take_sublist _ _)
  refine⟨u,M,?_⟩;rcases S.par y (aC o)with k|k
  .exact .inl ⟨k,Qz m o I k⟩
  .obtain⟨c,e⟩:=Xf (n:=s.zs+1) k;refine .inr ⟨.inl k,c,e,?_⟩;have q:=x.cell y c e;rw[QH m o I (by show J.names.lookup y≠_;rw[k];decide)]at q;exact q
 .exact j.hok.fresh (Y2 (x.above y c (PySem.mem_of_lookup h)))
 .unfold start;show _=N.length;rw[aA,ak,aN];lia
def EM{g:Str}{F:Arguments}{G kV M C h L Y:Value}{T X:Ξ}
 {eK:Array (Ω)}{N:Φ}(lk:K.lookup f=some ⟨Y,X,.func (PySem.W.fnOf name g F b5 J G kV M C T h L),eK⟩)(a9:codeIn K h g)(S:bK N ps J)
 (j:∀vs H Q E,sp vs H Q E->vs.length=ps.length)
 (bo:∀(A:Around)(c:xa)(s:Shared)(H:Hp)(vs:Ζ)(Q:VK)(E:XK),eN k (A.deeper (envOfC g J s.zs f h))->sp vs H Q E ->
   ∃t,PSs (Gr CX P w K mg base N g J f h A c s H E) b5 t/\t { nx:=λ_ H'=>Q .non H',rt:=Q } (start N vs) H) :
  fX P w K mg base CX (k+1) f (PySem.W.fnOf name g F b5 J G kV M C T h L) ps sp:=by
 refine⟨j,λA c s H R Z vs Q E z l hb r D=>?_⟩;have hl:=j _ _ _ _ D;have U:K.In s.heap:=l.mod.kin.keeps λb o e=>(l.bs b o e).1;have p:s.heap.NoLimit:=l.mod.nolimit.keeps λb o e=>(l.bs b o e).1;have c9:∀y∈ps.zip Z,J.names.lookup y.1=some .local\/(J.names.lookup y.1=some .cell/\((cellsFrom (s.zs+1) J.names []).lookup y.1).isSome):=λ⟨n,v⟩ hy=>by
  rcases S.par n (UT hy).1 with q|q
  .exact .inl q
  .exact .inr ⟨q,PySem.W.cellsFrom_some _ _ _ (.inl q)⟩
 refine codeAny_call_function z.depth (U _ _ lk) rfl S.co S.gen rfl (PySem.W.codeRec_of U a9) (hb _ _ _ _ ?_);refine wpAny_newFunctionEnv_cells S.kind c9 λenv he B x=>?_;subst he;refine⟨p.keeps x.toInCall.keep,codeAny_func ?_⟩;obtain⟨t,ht,hq⟩:=bo A c s H vs Q E (z.deeper _) D;have I:Inv (Gr CX P w K mg base N g J f h A c s H E) [] (start N vs) H B:=abZ S z.hd l hl r x;refine wpAny_mono (ht [] B (start N vs) H _ I hq) (λfl s' i=>?_) λe s' i=>i;have O:∀{d:St}{H':Hp}{v:V}{u:Value},Inv (Gr CX P w K mg base N g J f h A c s H E) [] d H' s'->z0 v u->Q v H'->CE c P w H s Q u s' :=
  λ{d H' v u}a m q=>⟨v,H',a.os,a.bare,a.base,a.hok,m,q⟩
 cases fl with
 |ret u =>
  obtain⟨v,d,H',a,m,q⟩:=i;exact O a m q
 |next =>
  obtain⟨d,H',a,q⟩:=i;exact O (v:=V.non) (u:=Value.none) a rfl q
 |brk =>
  obtain⟨_,_,_,q⟩:=i;exact False.elim q
 |cont =>
  obtain⟨_,_,_,q⟩:=i;exact False.elim q
section
variable{X:Cx}{x:Str}{p O:Pos}{e:Expr}{es:xb}{t:TA}{id T:String}{r:Ζ->Hp->VK->Prop}
def hT(r:Ζ->Hp->VK->Prop)(t:TA):TE:=λI H Q=>t I H λvs Y=>r vs Y Q
def oH(l:iH X (.builtin id) r)(j:Gl X x)(i:X.mg x=none)(f:bootBuiltins x=some (.builtin id))(m:PA X (e::es) t)(g:autoParam (x≠"__name__") zP4)(o:autoParam (zz x) zP4)
 (k:‹zw X e es›)(q:‹zg X O es›):PE X (.Call (.Name x p) (e::es) [] O) (hT r t):=by
 intro U s I H Q a h;refine wpAny_Call_Name_kw (Df a j i f ?_ g o);exact PyProof.Rows.callWith_builtin1 (ap (m O U s I H _ a h) λZ b n=>by obtain⟨vs,Y,u,c,d⟩:=n;exact l U b I Y vs Z Q u c d) k q
def A_(l:iH X (.type T) r)(j:Gl X x)(i:X.mg x=none)(f:bootBuiltins x=some (.type T))(m:PA X (e::es) t)(g:autoParam (x≠"__name__") zP4)(o:autoParam (zz x) zP4)
 (k:‹zw X e es›)(q:‹zg X O es›):PE X (.Call (.Name x p) (e::es) [] O) (hT r t):=by
 intro U s I H Q a h;refine wpAny_Call_Name_kw (Df a j i f ?_ g o);exact PyProof.Rows.callWith_type1 (ap (m O U s I H _ a h) λZ b n=>by obtain⟨vs,Y,u,c,d⟩:=n;exact l U b I Y vs Z Q u c d) k q
end
end L2
set_option genInjectivity false
namespace HT
open PySem PyProof.Rows
def sIx(n d:Nat):xh->Nat
 |none=>d
 |some v=>if v<0 then(v+(n:Int)).toNat else min v.toNat n
theorem W2(n d:Nat):sIx n d none=d:=rfl
def vK(n d k:Nat):sIx n d (some (k:Int))=min k n:=by
 show(if(k:Int)<0 then((k:Int)+(n:Int)).toNat else min (k:Int).toNat n)=min k n;rw[ZZ (Int.not_lt_of_ge (WZ _)),toNat_natCast]
def alf(n d:Nat)(hd:d<=n)(o:xh):sIx n d o<=n:=by
 cases o with
 |none=>exact hd
 |some v =>
  show(if v<0 then(v+(n:Int)).toNat else min v.toNat n)<=n;by_cases a:v<0
  .rw[ZY a];lia
  .rw[ZZ a];exact Nat.min_le_right _ _
end HT
namespace L2
open PySem PySem.Spec PyProof.Rows
abbrev TO:=St->Hp->(xh->Hp->Prop)->Prop
def PO(X:Cx)(e:Option Expr)(t:TO):Prop :=
 ∀(U:Δ)(s:Shared)(I:St)(H:Hp)(Q:xh->Hp->Prop),Inv X U I H s->t I H Q ->
  wpAny (model X.prog X.w) X.A (evalPart e X.env) (λu b=>∃o a,Inv X U I a b/\IsPart u o/\Q o a) X.xe s
def _n:TO:=λ_ H Q=>Q none H
def P5(t:TE):TO:=λI H Q=>t I H λx Y=>∃i,x=.int i/\Q (some i) Y
def intsAre_of{a:xo} : ∀{Z:Θ},z1 (a.map V.int) Z->IntsAre Z a:=by
 induction a with
 |nil=>intro Z r;rw[map_nil]at r;cases r;exact .nil
 |cons n a d =>
  intro Z r;rw[map_cons]at r;cases r with
  |cons c b =>
   obtain⟨t,e⟩:=c;subst e;exact .cons n t (d b)
variable{X:Cx}{e:Expr}{te:TE}{lo hi:Option Expr}{tl th:TO}{O p2:Pos}{α:Type}{n:Nat}{U:Δ}{I:St}{H:Hp}{s:Shared}{G ys:Ζ}{l:Addr}
def _z:PO X none _n:=by
 intro U s I H Q a h;rw[evalPart_none];exact ZT ⟨none,H,a,.none,h⟩
def ah9(h:PE X e te):PO X (some e) (P5 te):=by
 intro U s I H Q a d;rw[evalPart_some];refine ap (h U s I H _ a d) λu j f=>?_;obtain⟨x,Y,g,b,c⟩:=f;obtain⟨i,rfl,q⟩:=c;obtain⟨t,rfl⟩:=b;exact⟨some i,Y,g,.int i t,q⟩
def SlR(X:Cx)(r:V->xh->xh->Hp->VK->Prop):Prop :=
 ∀(U:Δ)(s:Shared)(I:St)(H:Hp)(x:V)(v b a:Value)(lo hi:xh)(c:Addr)(Q:VK),Inv X U I H s->z0 x v->s.heap.IsSliceOf c b a .none->IsPart b lo->IsPart a hi->r x lo hi H Q ->
  ∃T id,typeLookup (.type T) "__getitem__"=pure (some (.builtin id))/\s.TypeIs v T/\wpAny (model X.prog X.w) X.A (getItem v (.ref c)) (EP X U I Q) X.xe s
def SlR.or{r f:V->xh->xh->Hp->VK->Prop}(h:SlR X r)(k:SlR X f):SlR X (λx lo hi H Q=>r x lo hi H Q\/f x lo hi H Q):=by
 intro U s I H x v c b lo hi d Q a e j i g q;rcases q with q|q
 .exact h U s I H x v c b lo hi d Q a e j i g q
 .exact k U s I H x v c b lo hi d Q a e j i g q
def KI(r:V->xh->xh->Hp->VK->Prop)(te:TE)(tl th:TO):TE:=λI H Q=>te I H λx Y=>tl I Y λl b=>th I b λu a=>r x l u a Q
def agf{r:V->xh->xh->Hp->VK->Prop}(B:SlR X r)(E:PE X e te)(C:PO X lo tl)(y:PO X hi th):PE X (.Subscript e (.Slice lo hi none p2) O) (KI r te tl th):=by
 intro U s I H Q a h;refine Subscript_ (ap (E U s I H _ a h) λv m i=>?_);obtain⟨x,Y,L,n,o⟩:=i;refine wpAny_Slice (ap (C U m I Y _ L o) λg k ⟨l,M,K,t,q2⟩=>ap (y U k I M _ K q2) λf c i=>?_);obtain⟨u,j,J,p,q3⟩:=i;rw[evalPart_none];refine ZT ?_;have G:Inv X U I j { c with heap:=c.heap.push { cls:=.type "slice",data:=.fields #[g,f,.none] } }:=J.kept (t':=c.toks) λb N q=>aH _ q;obtain⟨T,id,F,z,D⟩:=B U { c with heap:=c.heap.push { cls:=.type "slice",data:=.fields #[g,f,.none] } } I j x v g f l u c.zs Q G n (Heap.IsSliceOf.new ..) t p q3;show wpAny (model X.prog X.w) X.A (subscriptTail e (.Slice lo hi none p2) v (.ref c.zs)) (EP X U I Q) X.xe { c with heap:=c.heap.push { cls:=.type "slice",data:=.fields #[g,f,.none] } };exact tail_any (ops:=[.ref c.zs,v]) z F D (by with_unfolding_all rfl)
def ih(G:Ζ)(lo hi:xh):Ζ:=(G.drop (HT.sIx G.length 0 lo)).take (HT.sIx G.length G.length hi-HT.sIx G.length 0 lo)
def Wk(G:Ζ)(lo hi:xh):(ih G lo hi).length<=G.length:=by
 unfold ih;rw[aY,U2];lia
def c_(n:Nat)(i:Int):xF:=if 0<=i then(if i<n then some i.toNat else none)else if -(n:Int)<=i then some (i+n).toNat else none
def c4(G:List α)(i:Int):Option α:=(c_ G.length i).bind λj=>G[j]?
def IZ{i:Int}{j:Nat}(h:c_ n i=some j):seqIndex? i n=some j/\j<n/\-(n:Int)<=i/\i<n:=by
 unfold c_ at h;by_cases b:0<=i
 .rw[ZY b]at h;by_cases a:i<n
  .rw[ZY a]at h;have e:i.toNat=j:=Option.some.inj h;exact⟨by rw[seqIndex_of b a,e],by lia,by lia,a⟩
  .rw[ZZ a]at h;cases h
 .rw[ZZ b]at h;by_cases a : -(n:Int)<=i
  .rw[ZY a]at h;have e:(i+n).toNat=j:=Option.some.inj h;exact⟨by rw[seqIndex_neg (QU b) a,e],by lia,a,by lia⟩
  .rw[ZZ a]at h;cases h
def R3{G:List α}{i:Int}{v:α}(h:c4 G i=some v):∃j,seqIndex? i G.length=some j/\G[j]?=some v/\j<G.length/\-(G.length:Int)<=i/\i<G.length:=by
 unfold c4 at h;cases e:c_ G.length i with
 |none=>rw[e]at h;cases h
 |some j =>
  rw[e]at h;obtain⟨d,c,b,a⟩:=IZ e;exact⟨j,d,h,c,b,a⟩
def HK{G:List α}{j:Nat}{v:α}(h:G[j]?=some v):c4 G (j:Int)=some v:=by
 have a:j<G.length:=(ao.mp h).1;have e:c_ G.length (j:Int)=some j:=by
  unfold c_;rw[ZY (WZ _),ZY wE];simp
 unfold c4;rwa[e]
def vV(b:Expr):Prop:=∀o i,subscripted b false o i=operate [o,i] (getItem o i)
def IxR(X:Cx)(r:R2):Prop :=
 ∀(b a:Expr)(U:Δ)(s:Shared)(I:St)(H:Hp)(x y:V)(v u:Value)(Q:VK),Inv X U I H s->z0 x v->z0 y u->r x y H Q ->
  subscripted a false v u=operate [v,u] (getItem v u)->wpAny (model X.prog X.w) X.A (subscriptTail b a v u) (EP X U I Q) X.xe s
def Ke(X:Cx)(id:String)(r:V->Ζ->Hp->VK->Prop):Prop :=
 ∀(U:Δ)(s:Shared)(I:St)(H:Hp)(x:V)(G:Ζ)(v:Value)(Z:Θ)(Q:VK),Inv X U I H s->z0 x v->z1 G Z->r x G H Q ->
  wpAny (model X.prog X.w) X.A (call (.builtin id) (v::Z)) (EP X U I Q) X.xe s
section
variable{X:Cx}{a b:Expr}{ta tb:TE}{O:Pos}
def IxR.or{r d:R2}(h:IxR X r)(i:IxR X d):IxR X (λx y H Q=>r x y H Q\/d x y H Q):=by
 intro g f U s I H x y v u Q a c b q e;rcases q with q|q
 .exact h g f U s I H x y v u Q a c b q e
 .exact i g f U s I H x y v u Q a c b q e
def oN{r:R2}(i:IxR X r)(k:PE X a ta)(j:PE X b tb)(g:vV b):PE X (.Subscript a b O) (gd r ta tb):=by
 intro U s I H Q c h;exact Subscript_ (n7 k j c h λv u d x y m l f e q=>i a b U d I m x y v u Q l f e q (g _ _))
def MS(K:Frag):R2:=λx y H Q=>∃p G i v,x=.ref p/\y=.int i/\SqL K H p G/\c4 G i=some v/\Q v H
def O0(K:Frag):R2:=λx y H Q=>∃p G i v,x=.ref p/\y=.int i/\SqT K H p G/\c4 G i=some v/\Q v H
def Nn:R2:=λx y H Q=>∃z i c,x=.str z/\y=.int i/\z.length<=sizeLine/\c4 z.cps.toList i=some c/\Q (.str ⟨#[c]⟩) H
def vO:IxR X (MS X.K):=by
 intro P O U s I H x y v u Q a o n h g;obtain⟨p,G,i,z,rfl,rfl,A,C,q⟩:=h;cases o;obtain⟨t,rfl⟩:=n;obtain⟨e,r,d,L⟩:=a.list A;obtain⟨j,b,F,N,E,D⟩:=R3 C;obtain⟨w,k,J⟩:=r.get F;have B:=r.length;have M:=zG;have l:EP X U I Q w s:=⟨z,H,a,J,q⟩;by_cases c:0<=i
 .have f:i.toNat=j:=by
   rw[seqIndex_of c D]at b;exact Option.some.inj b
  exact item_listR d.isList c wE (by rw[f];simpa using k) l g
 .have f:(i+(e.toArray.size:Int)).toNat=j:=by
   rw[seqIndex_neg (QU c) E]at b;rw[aX,<- B];exact Option.some.inj b
  exact subscriptTail_builtinR (x:=w) d.isList.typeIs slot_list_getitem.lookup
   (wpAny_getItem_list_neg (Q:=λr m=>r=w/\EP X U I Q r m) d.isList (QU c) (by rw[aX]<;>lia) wE (by rw[f];simpa using k) ⟨rfl,l⟩) g
def FC:IxR X (O0 X.K):=by
 intro N M U s I H x y v u Q a e d h g;obtain⟨p,G,i,z,rfl,rfl,k,m,q⟩:=h;cases e;obtain⟨t,rfl⟩:=d;obtain⟨f,r,b,C⟩:=a.tuple k;obtain⟨j,L,n,J,F,E⟩:=R3 m;obtain⟨w,A,o⟩:=r.get n;have l:=r.length;have D:=zG;have B:EP X U I Q w s:=⟨z,H,a,o,q⟩;exact subscriptTail_builtinR (x:=w) b.typeIs slot_tuple_getitem.lookup
  (getItem_tuple (j:=j) (Q:=λr c=>r=w/\EP X U I Q r c) b wE wE (by rwa[aX,<- l]) (by simpa using A) ⟨rfl,B⟩) g
def Si:IxR X Nn:=by
 intro D C U s I H x y v u Q a e d h f;obtain⟨z,i,c,rfl,rfl,w,k,q⟩:=h;obtain⟨t,rfl⟩:=e;obtain⟨r,rfl⟩:=d;obtain⟨j,b,n,B,m,l⟩:=R3 k;have g:z.cps.toList.length=z.length:=by simp[Str.length]
 rw[g]at b m l;have A:=zG;exact tail_any (typeIs_str s z t) slot_str_getitem.lookup (getItem_str (c:=c) (by
  have p:decide (i < -(2^63:Int))=false:=Zp wE;have o:decide (i>=2^63)=false:=Zp wE;rw[p,o,Bool.or_false]) (by rw[b];simpa using n) ⟨.str ⟨#[c]⟩,H,a.tok _,⟨_,rfl⟩,q⟩) f
def aal(a:Θ)(n j:Nat)(u:Value):Obj.mapSeq (·.setIfInBounds j u) { cls:=.type "list",data:=.seq a.toArray n }={ cls:=.type "list",data:=.seq (a.set j u).toArray n }:=by
 simp[Obj.mapSeq]
def Inv.lst{U:Δ}{I:St}{H:Hp}{s:Shared}{p:Addr}{G:Ζ}(a:Inv X U I H s)(h:H p=some (.lst G)) :
  ∃(b:Θ)(n:Nat),z1 G b/\s.heap.get? p=some { cls:=.type "list",data:=.seq b.toArray n }/\G.length<=sizeLine:=by
 obtain⟨z,b,n,r,e⟩:=a.hok p _ h;exact⟨b,n,r,e,z⟩
def Inv.lstUpd{p:Addr}{d c:Θ}{g:Nat}{f:Obj->Obj}(a:Inv X U I H s)(h:H p=some (.lst G))
 (l:s.heap.get? p=some { cls:=.type "list",data:=.seq d.toArray n })(i:f { cls:=.type "list",data:=.seq d.toArray n }={ cls:=.type "list",data:=.seq c.toArray g })(r:z1 ys c)(k:ys.length<=sizeLine)(t:Nat) :
  Inv X U I (upd H p (.lst ys)) { s with heap:=s.heap.update p f,toks:=t }:=by
 have e:(s.heap.update p f).get? p=some { cls:=.type "list",data:=.seq c.toArray g }:=by
  rw[Heap.get?_update_self f l (by rw[i]<;>rfl),i]
 refine a.write (x:=p) (e:=p) (by rw[h];trivial) (.inl rfl) (λb u m q=>(Heap.get?_update_other _ _ (Ne.symm m)).trans q) ⟨_,e⟩ ?_;exact⟨k,c,g,r,e⟩
def P8:V->V->V->Hp->(Hp->Prop)->Prop:=λo i v H Q=>∃p G k j,o=.ref p/\i=.int k/\H p=some (.lst G)/\c_ G.length k=some j/\Q (upd H p (.lst (G.set j v)))
def set_list:A3 X P8:=by
 intro U s I H o i v D E u Q a y z x h;obtain⟨p,G,k,j,rfl,rfl,l,A,q⟩:=h;cases y;obtain⟨t,rfl⟩:=z;obtain⟨b,n,r,e,F⟩:=a.lst l;obtain⟨c,K,C,B⟩:=IZ A;have f:=r.length;have J:=zG;have w:Inv X U I (upd H p (.lst (G.set j v))) { s with heap:=s.heap.update p (Obj.mapSeq (·.setIfInBounds j u)) } :=
  a.lstUpd l e (aal b n j u) (r.set x j) (by rwa[VZ]) s.toks
 by_cases d:0<=k
 .have g:k.toNat=j:=by
   rw[seqIndex_of d B]at c;exact Option.some.inj c
  exact PySem.W.ki_setAt e d wE (by rwa[aX,<- f]) (by rw[g];exact⟨_,w,q⟩)
 .have g:(k+(b.toArray.size:Int)).toNat=j:=by
   rw[seqIndex_neg (QU d) C]at c;rw[aX,<- f];exact Option.some.inj c
  exact PySem.W.ki_setBack e (QU d) (by rwa[aX,<- f]) wE (by rw[g];exact⟨_,w,q⟩)
def R_(lo hi:xh)(n:Nat):(sliceBounds lo hi none n).1=((HT.sIx n 0 lo:Nat):Int)/\(sliceBounds lo hi none n).2.1=((HT.sIx n n hi:Nat):Int)/\(sliceBounds lo hi none n).2.2=1:=by
 refine⟨?_,?_,rfl⟩
 .cases lo with
  |none=>simp[sliceBounds,HT.sIx]
  |some i =>
   simp only[sliceBounds,HT.sIx,getD_none,show(1:Int)>0 by decide,if_true];by_cases h:i<0
   .simp only[h,if_true]<;>lia
   .simp only[h,if_false]<;>lia
 .cases hi with
  |none=>simp[sliceBounds,HT.sIx]
  |some i =>
   simp only[sliceBounds,HT.sIx,getD_none,show(1:Int)>0 by decide,if_true];by_cases h:i<0
   .simp only[h,if_true]<;>lia
   .simp only[h,if_false]<;>lia
def Px(a:Θ)(lo hi:xh):slicePick a.toArray lo hi none=((a.drop (HT.sIx a.length 0 lo)).take (HT.sIx a.length a.length hi-HT.sIx a.length 0 lo)).toArray:=by
 obtain⟨d,c,b⟩:=R_ lo hi a.toArray.size;unfold slicePick;rw[d,c,b];simp only[sliceRange_one,pick_run,aX]<;>rfl
def Me(K:Frag):V->xh->xh->Hp->VK->Prop:=λx lo hi H Q=>∃a G,x=.ref a/\SqL K H a G/\∀p,H p=none->Q (.ref p) (upd H p (.lst (ih G lo hi)))
def _G:SlR X (Me X.K):=by
 intro U s I H x v p n lo hi t Q c e l g f h;obtain⟨a,G,rfl,k,q⟩:=h;cases e;obtain⟨i,r,d,j⟩:=c.list k;have m:=r.length;refine⟨"list",_,slot_list_getitem.lookup,d.isList.typeIs,?_⟩;refine wpAny_getItem_list_slice d.isList l g f .none vz ?_ (by rw[aX]<;>lia);rw[Px,<- m];refine⟨.ref s.zs,_,c.laid (t':=s.toks) (o:=.lst (ih G lo hi)) (λb u q=>aH _ q) (aG _) ?_,rfl,q _ (c.hok.fresh (aG _))⟩;exact⟨aL (Wk G lo hi) j,_,0,(r.drop (HT.sIx G.length 0 lo)).take (HT.sIx G.length G.length hi-HT.sIx G.length 0 lo),aW _ rfl⟩
def L0:V->V->Bool
 |.non,.non=>true
 |.bl a,.bl b=>a==b
 |.bl a,.int b=>(if a then 1 else 0)==b
 |.int a,.bl b=>a==(if b then 1 else 0)
 |.int a,.int b=>a==b
 |.str a,.str b=>a==b
 |_,_=>false
def Gu:iH X (.builtin "len") (λG H Q=>∃p ys,G=[.ref p]/\(SqL X.K H p ys\/SqT X.K H p ys)/\Q (.int ys.length) H):=by
 intro U s I H G Z Q a r h;obtain⟨p,ys,rfl,b,q⟩:=h;obtain⟨u,rfl,g⟩:=vals1 r;cases g;have j:=zG;rcases b with b|b
 .obtain⟨e,c,d,i⟩:=a.list b;have f:=c.length;exact Calls.call_len_list d.isList (by simp only[aX]<;>lia) ⟨.int ys.length,H,a.tok _,⟨s.toks+1,by rw[aX,f]⟩,q⟩
 .obtain⟨e,c,d,i⟩:=a.tuple b;have f:=c.length;exact len_tuple d (by simp only[aX]<;>lia) ⟨.int ys.length,H,a.tok _,⟨s.toks+1,by rw[aX,f]⟩,q⟩
def U5:iH X (.builtin "len") (λG H Q=>∃z,G=[.str z]/\z.length<=sizeLine/\Q (.int z.length) H):=by
 intro U s I H G Z Q a r h;obtain⟨z,rfl,b,q⟩:=h;obtain⟨u,rfl,t,rfl⟩:=vals1 r;have c:=zG;exact len_str wE ⟨.int z.length,H,a.tok _,⟨_,rfl⟩,q⟩
def Vt:iH X (.type "list") (λG H Q=>∃p ys,G=[.ref p]/\(SqL X.K H p ys\/SqT X.K H p ys)/\∀l,H l=none->Q (.ref l) (upd H l (.lst ys))):=by
 intro U s I H G Z Q a r h;obtain⟨p,ys,rfl,k,q⟩:=h;obtain⟨u,rfl,z⟩:=vals1 r;cases z;have y:∀(c:Θ),z1 ys c->ys.length<=sizeLine->∀(d:Heap)(g:Nat),(∀b v,s.heap.get? b=some v->d.get? b=some v) ->
   d.get? s.zs=some { cls:=.type "list",dict:=none,data:=.seq c.toArray g,slots:=#[] }->EP X U I Q (.ref s.zs) { s with heap:=d }:=λc f j d g i e =>
  ⟨.ref s.zs,_,a.laid (t':=s.toks) i (aG _) (show fQ X.prog X.w _ d _ (.lst ys)from⟨j,c,g,f,e⟩),rfl,q _ (a.hok.fresh (aG _))⟩
 rcases k with k|k
 .obtain⟨c,f,m,j⟩:=a.list k;have A:=f.length;obtain⟨o,t,hc,n,hd⟩:=m.isList;exact call_list_seq p (.inl rfl) t hc hd (λd g i e=>y c f j d g i e) (by simp only[aX]<;>lia)
 .obtain⟨c,f,m,j⟩:=a.tuple k;have A:=f.length;obtain⟨o,t,hc,n,hd⟩:=m;exact call_list_seq p (.inr rfl) t hc hd (λd g i e=>y c f j d g i e) (by simp only[aX]<;>lia)
def Ol:iH X (.type "tuple") (λG H Q=>∃p ys,G=[.ref p]/\((SqL X.K H p ys/\∀l,H l=none->Q (.ref l) (upd H l (.tup ys)))\/(SqT X.K H p ys/\Q (.ref p) H))):=by
 intro U s I H G Z Q a r h;obtain⟨p,ys,rfl,h⟩:=h;obtain⟨u,rfl,n⟩:=vals1 r;cases n;rcases h with⟨j,q⟩|⟨j,q⟩
 .obtain⟨c,g,i,k⟩:=a.list j;have x:=g.length;refine call_tuple_list i.isList (λf t=>?_) (by simp only[aX]<;>lia);have m:Inv X U I H { s with heap:=f }:=a.kept (t':=s.toks) t;have v:Inv X U I (upd H f.objs.size (.tup ys)) { s with heap:=f.push { cls:=.type "tuple",data:=.seq c.toArray } } :=
   m.laid (t':=s.toks) (λb o e=>aH _ e) (aG _) (show fQ X.prog X.w _ _ _ (.tup ys)from⟨k,c,g,IsTup.new _ _⟩)
  exact⟨.ref f.objs.size,_,v,rfl,q _ (m.hok.fresh (aG _))⟩
 .obtain⟨c,g,i,k⟩:=a.tuple j;exact call_tuple_same i ⟨.ref p,H,a,rfl,q⟩
def ms(K:Frag)(T:String)(x:V)(H:Hp):Prop:=match x with
 |.str _=>T="str"
 |.int _=>T="int"
 |.ref p=>(T="list"/\∃G,SqL K H p G)\/(T="tuple"/\∃o,K.lookup p=some o/\o.cls=.type "tuple"/\o.dict=none) \/
   (T="dict"/\(∃a,H p=some (.dK a)))\/(T="set"/\∃S n,H p=some (.set S n))
 |_=>False
def FS{T:String}{x:V}{v:Value}(b:Inv X U I H s)(r:z0 x v)(g:ms X.K T x H) :
  s.TypeIs v T/\∀a,v=.ref a->∃k,s.heap.get? a=some k/\k.dict=none:=by
 cases x with
 |str z =>
  obtain⟨t,rfl⟩:=r;cases(show T="str" from g);exact⟨typeIs_str s z t,λ_ e=>nomatch e⟩
 |int i =>
  obtain⟨t,rfl⟩:=r;cases(show T="int" from g);exact⟨typeIs_int s i t,λ_ e=>nomatch e⟩
 |ref p =>
  cases r;rcases g with⟨rfl,G,q⟩|⟨rfl,o,d,hc,hd⟩|⟨rfl,d⟩|⟨rfl,S,n,d⟩
  .obtain⟨m,_,j,_⟩:=b.list q;refine⟨j.isList.typeIs,λa e=>?_⟩;cases e;obtain⟨o,n,e,c,hd,_⟩:=j;exact⟨o,e,hd⟩
  .refine⟨⟨o,b.kIn p o d,hc⟩,λa e=>?_⟩;cases e;exact⟨o,b.kIn _ o d,hd⟩
  .have z:∃o,s.heap.get? p=some o/\o.ExactDict:=by
    obtain⟨l,d⟩:=d;obtain⟨_,_,_,_,o,_,_,e,f,_⟩:=b.hok p _ d;exact⟨o,e,f⟩
   obtain⟨o,e,f⟩:=z;refine⟨⟨o,e,f.1⟩,λa h=>?_⟩;cases h;exact⟨o,e,f.2.1⟩
  .obtain⟨o,_,_,_,e,f,_⟩:=b.hok p _ d;refine⟨⟨o,e,f.1⟩,λa h=>?_⟩;cases h;exact⟨o,e,f.2.1⟩
 |_=>exact False.elim g
def NX(K:Frag)(T:String)(r:V->Ζ->Hp->VK->Prop)(a:TE):TE:=λI H Q=>a I H λx Y=>ms K T x Y/\r x [] Y Q
def KP(K:Frag)(T:String)(r:V->Ζ->Hp->VK->Prop)(a:TE)(t:TA):TE:=λI H Q=>a I H λx Y=>ms K T x Y/\t I Y λG b=>r x G b Q
variable{o e:Expr}{es:xb}{to:TE}{t:TA}{name:Str}{ai af:Pos}{T id:String}{r:V->Ζ->Hp->VK->Prop}
abbrev zC(a b:Pos):Prop:=(a.endLine==b.line)=true
def Yf(g:PlainAttrs T)(slot:Slot T name id)(i:typeOf (.builtin id)=pure (.type "method_descriptor"))(k:Ke X id r)(j:PE X o to)
 (p:‹zt X o name›)(q:‹zC ai af›):PE X (.Call (.Attribute o name ai) [] [] af) (NX X.K T r to):=by
 intro U s I H Q a h;refine wpAny_Call_method0_late p q (ap (j U s I H _ a h) λv e l=>?_);obtain⟨x,Y,c,b,d,f⟩:=l;obtain⟨n,m⟩:=FS c b d;exact⟨T,id,g,slot,i,n,m,Calls.callWith_builtin rfl (PySem.evalArgs_none (k U e I Y x [] v [] Q c b .nil f))⟩
def o9(p:PlainAttrs T)(slot:Slot T name id)(q:typeOf (.builtin id)=pure (.type "method_descriptor"))(z:Ke X id r)(y:PE X o to)(A:PA X (e::es) t)
 (D:‹zt X o name›)
 (j:‹((backTo af (starEach (e::es) X.env)).all (λx=>!x.1)&&(backToKw af (keywordEach [] X.env)).all (λx=>x.1.isSome)
   && decide ((e::es).length+([] : wr).length+(if([] : wr).isEmpty then 0 else 1)<30))=true›)
 (E:‹zC ai af›)(w:‹zw X e es›)(u:‹zg X af es›) :
  PE X (.Call (.Attribute o name ai) (e::es) [] af) (KP X.K T r to t):=by
 intro U s I H Q a h;refine wpAny_Call_method_late D j E rfl (ap (y U s I H _ a h) λv l b=>?_);obtain⟨x,Y,f,c,i,n⟩:=b;obtain⟨C,B⟩:=FS f c i;refine⟨T,id,p,slot,q,C,B,?_⟩;have d:=A af U l I Y _ f n;rw[w]at d ⊢;refine Calls.callWith_builtin (by show(false || (backTo af (starEach es X.env)).any (·.1))=false;rw[u]<;>rfl) (Calls.evalArgs_plain ?_);exact ap d λZ k b=>by obtain⟨g,G,F,m,q2⟩:=b;exact z U k I G x g v Z Q F c m q2

end
def jY(X:Cx)(id:String)(r:V->Ζ->Hp->VK->Prop):Prop :=
 ∀(U:Δ)(s:Shared)(I:St)(H:Hp)(x:V)(G:Ζ)(v:Value)(Z:Θ)(Q:VK),Inv X U I H s->z0 x v->z1 G Z->r x G H Q ->
  wpAny (model X.prog X.w) X.A (call (.builtin id) (v::Z)) (EP X U I Q) X.xe s
def z1.one{x:V}{Z:Θ}(h:z1 [x] Z):∃u,Z=[u]/\z0 x u:=by cases h with|cons r t=>cases t;exact⟨_,rfl,r⟩
def z1.two{x y:V}{Z:Θ}(h:z1 [x,y] Z):∃u v,Z=[u,v]/\z0 x u/\z0 y v:=by
 cases h with|cons r t=>cases t with|cons q t=>cases t;exact⟨_,_,rfl,r,q⟩
def z1.zero:∀{Z:Θ},z1 [] Z->Z=[]
 |_,.nil=>rfl
def z1.reverse{G:Ζ}{Z:Θ}(h:z1 G Z):z1 G.reverse Z.reverse:=by
 induction h with
 |nil=>exact .nil
 |cons r t a=>rw[List.reverse_cons,List.reverse_cons];exact z1.append a (.cons r .nil)
theorem z1.rep{G:Ζ}{Z:Θ}(h:z1 G Z):∀k:Nat,z1 (replicate k G).flatten (replicate k Z).flatten
 |0=>.nil
 |k+1=>by
  rw[replicate_succ,replicate_succ,flatten_cons,flatten_cons];exact z1.append h (z1.rep h k)
theorem foldl_rep(a:Θ):∀(k:Nat)(b:Θ),
  List.foldl (λd c=>d++c) b.toArray (replicate k a.toArray)=(b++(replicate k a).flatten).toArray
 |0,b=>by simp
 |k+1,b=>by
  have e:b.toArray++a.toArray=(b++a).toArray:=by simp
  have f:(b++a)++(replicate k a).flatten=b++(replicate (k+1) a).flatten:=by
   rw[replicate_succ,flatten_cons,WV]
  rw[<- f,<- foldl_rep a k (b++a),<- e,replicate_succ,foldl_cons]
def Inv.lset{b its':Θ}{f:xD->xD}{d:Nat}(a:Inv X U I H s)(m:H l=some (.lst G))
 (e:s.heap.get? l=some { cls:=.type "list",data:=.seq b.toArray n })(j:f b.toArray=its'.toArray)(h:z1 ys its')(g:ys.length<=sizeLine) :
  Inv X U I (upd H l (.lst ys)) { s with heap:=s.heap.update l (Obj.mapSeq f),toks:=d }:=by
 have q:=PySem.IsL.update e f;rw[j]at q;refine a.write (x:=l) (e:=l) (by rw[m];exact trivial) (.inl rfl) (λo u k i=>(Heap.get?_update_other s.heap (Obj.mapSeq f) (Ne.symm k)).trans i) ⟨_,q⟩ ?_;exact⟨g,its',_,h,q⟩
def Inv.lnew{its:Θ}{t':Nat}(a:Inv X U I H s)(d:z1 ys its)(c:ys.length<=sizeLine) :
  Inv X U I (upd H s.zs (.lst ys)) { s with heap:=s.heap.push { cls:=.type "list",data:=.seq its.toArray },toks:=t' } :=
 a.laid (λ_ _ q=>aH _ q) (aG _) ⟨c,its,0,d,aW _ rfl⟩
def Inv.fresh(a:Inv X U I H s):H s.zs=none:=a.hok.fresh (aG _)
def Inv.lstM(a:Inv X U I H s)(c:H l=some (.lst G)):G.length<=sizeLine/\∃(b:Θ)(n:Nat),z1 G b/\G.length=b.length/\s.heap.get? l=some { cls:=.type "list",data:=.seq b.toArray n }:=by
 obtain⟨z,b,n,r,e⟩:=a.hok l _ c;exact⟨z,b,n,r,r.length,e⟩
def afk(h:n<=sizeLine):Builtin.List.listTooLong n=false:=by
 unfold Builtin.List.listTooLong;exact Zp (TR h)
def ahI:V->Ζ->Hp->VK->Prop:=λx a H Q=>∃l G y,x=.ref l/\a=[y]/\H l=some (.lst G)/\G.length<sizeLine/\Q .non (upd H l (.lst (G++[y])))
def P0:jY X "list.append" ahI:=by
 intro U s I H x i v Z Q a d f h;obtain⟨l,G,y,rfl,rfl,c,j,q⟩:=h;cases d;obtain⟨u,rfl,g⟩:=f.one;obtain⟨z,b,n,r,k,e⟩:=a.lstM c;refine call_meets F.slot_list_append ⟨_,e,rfl⟩ F.entry_list_append (F.args_list_append_2 _ _) (PySem.list_append l b.toArray n u (by rw[aX];lia)) ⟨e,?_⟩;refine⟨.non,_,a.lset (its':=b++[u]) c e vz (r.append (.cons g .nil)) ?_,rfl,q⟩;rwa[aA,length_singleton]
def afS:V->Ζ->Hp->VK->Prop:=λx a H Q=>∃l G,x=.ref l/\a=[]/\H l=some (.lst G)/\Q .non (upd H l (.lst G.reverse))
def ZS:jY X "list.reverse" afS:=by
 intro U s I H x i v Z Q a f g h;obtain⟨l,G,rfl,rfl,d,q⟩:=h;cases f;have c:=g.zero;subst c;obtain⟨z,b,n,r,j,e⟩:=a.lstM d;refine call_meets F.slot_list_reverse ⟨_,e,rfl⟩ F.entry_list_reverse (F.args_list_reverse_1 _) (AutoSeq1.list_reverse_list_0 l b.toArray n (by rw[aX];lia)) ⟨e,?_⟩;refine⟨.non,_,a.lset (its':=b.reverse) d e vz r.reverse ?_,rfl,q⟩;rw[length_reverse];omega
def L5:R2:=λx y H Q=>∃l b G a,x=.ref l/\y=.ref b/\H l=some (.lst G)/\H b=some (.lst a)/\G.length+a.length<=sizeLine/\∀p,H p=none->Q (.ref p) (upd H p (.lst (G++a)))
def WF:OpR X (binaryOp .Add) L5:=by
 intro U s I H x y v u Q a g f h;obtain⟨l,b,G,t,rfl,rfl,k,m,B,q⟩:=h;cases g;cases f;obtain⟨z,c,n,r,C,e⟩:=a.lstM k;obtain⟨w,d,A,i,j,p⟩:=a.lstM m;refine PySem.P.add_list e p ?_ (by rw[aX,aX];lia);have o:c.toArray++d.toArray=(c++d).toArray:=by simp
 rw[o];exact⟨.ref _,_,a.lnew (t':=s.toks) (r.append i) (by rw[aA];omega),rfl,q _ a.fresh⟩
def N1:R2:=λx y H Q=>∃l k G,x=.ref l/\y=.int k/\H l=some (.lst G)/\-(2^63)<=k/\k<2^63/\G.length*k.toNat<=sizeLine /\
 ∀p,H p=none->Q (.ref p) (upd H p (.lst (replicate k.toNat G).flatten))
def len_rep(G:List α)(k:Nat):(replicate k G).flatten.length=k*G.length:=by
 induction k with
 |zero=>simp
 |succ k a=>rw[replicate_succ,flatten_cons,aA,a,Nat.succ_mul,Nat.add_comm]
def UD:OpR X (binaryOp .Mult) N1:=by
 intro U s I H x y v u Q b p o h;obtain⟨l,k,G,rfl,rfl,C,E,D,M,q⟩:=h;cases p;obtain⟨t,rfl⟩:=o;obtain⟨z,c,n,r,B,e⟩:=b.lstM C;have K:c.toArray.size*k.toNat<=sizeLine:=by rwa[aX,<- B]
 have i:¬c.toArray.size*k.toNat>(2^63-1)/8:=by
  have:(sizeLine:Nat)<=(2^63-1)/8:=by decide
  lia
 have g:¬(!Builtin.List.listFitsIndex k)=true:=by
  rw[fitsIndex_both E D];exact bw
 have A:¬Builtin.List.listTooLong (c.toArray.size*k.toNat)=true:=by
  rw[afk K];exact bw
 have w:List.foldl (λf d=>f++d) #[] (replicate (if c.toArray.isEmpty=true then 0 else k.toNat) c.toArray)=(replicate k.toNat c).flatten.toArray:=by
  have J:∀m:Nat,List.foldl (λf d=>f++d) #[] (replicate m c.toArray)=(replicate m c).flatten.toArray:=λm=>by
   have:=foldl_rep c m [];rw[List.nil_append]at this;exact this
  rw[J];cases c with
  |nil=>simp
  |cons a L=>rw[ZZ vz]
 refine wpAny_binaryOp_repeat_ref (T:="list") (U:="int") wP ⟨_,e,rfl⟩ (λj=>typeIs_int j k t) noFill_list_mul F.fills_int_mul F.slot_int_rmul repeat_list F.slot_int_index.lookup
  (call_meets F.slot_int_rmul (typeIs_int s k t) F.entry_int_rmul (F.args_int_rmul_2 _ _) (int___rmul___int_list k t l c.toArray n)
   ⟨e,rfl,⟨_,e,rfl⟩,call_meets F.slot_list_mul ⟨_,e,rfl⟩ F.entry_list_mul (F.args_list_mul_2 _ _) (AutoListH.list___mul___list_int_3 l c.toArray n k t g i A) ⟨e,?_⟩⟩)
 rw[w];exact⟨.ref _,_,b.lnew (t':=s.toks) (r.rep k.toNat) (by rwa[len_rep,Nat.mul_comm]),rfl,q _ b.fresh⟩
end L2
namespace Att
open PySem PySem.W PySem.Calls PyProof.Rows
def Js{P:Params}{h:Heap} : ∀(c:xo)(d:Θ),WellAll P h d (c.map WData.int)->IntsAre d c:=by
 intro c
 induction c with
 |nil =>
  intro d w;rw[map_nil]at w;cases w;exact .nil
 |cons n c e =>
  intro d w;rw[map_cons]at w;cases w with
  |cons a b =>
   cases a;exact .cons _ _ (e _ b)
variable{l:OpenLaw}
def acS{n:Nat}(v:l.most=some n){P:Params}{h:Heap}{b:List WData}{i:Θ}
 (j:l.row.toRowW.claim.pre b)(o:WellAll P h i b) :
  ∃a g c,i=[Value.ref a]/\b=[WData.list (c.map WData.int)]/\h.get? a=some { cls:=.type "list",data:=.seq g.toArray }/\IntsAre g c/\c.length<=n:=by
 have t:WShape.hasAll [] b [.list .int]:=(pre_splitW j).1;have hc:l.pre.holds [] { args:=b }:=(pre_splitW j).2;obtain⟨d,r,rfl,y,x⟩:=hasAllW_cons t;obtain rfl:=hasAllW_nil x;obtain⟨G,rfl,w⟩:=hasW_list y;obtain⟨c,rfl⟩:=items_int w;have z:c.length<=n:=by
  unfold OpenLaw.pre at hc;have f:(WTm.not (.lt (.lit (.int (n:Int))) (.len (.arg 0)))).holds [] { args:=[.list (c.map .int)] }:=by
   have f:=(holds_andW hc).1;rw[v]at f;exact f
  have e:=condW_of f (w_not (w_lt w_lit (w_len_list (w_arg rfl))));rw[ak]at e;refine VX λq=>?_;have p:(n:Int)<((c.length:Nat):Int):=by omega
  first
   |(rw[Zs p]at e;exact absurd e wP)
   |(simp at e;omega)
 cases o with
 |cons m k =>
  cases k;cases m with
  |list u s=>exact⟨_,_,c,rfl,rfl,u,Js c _ s,z⟩
def acQ(l:OpenLaw)(a:List WData):l.row.toRowW.claim.post a (.bool true) a=true :=
 postW_of (r:=l.row.toRowW) (X:=(true==true))
  (show WShape.has [] (.bool true) .bool=true by first|rfl|decide|simp[WShape.has,WShape.arms,WShape.armsAll])
  (show(WTm.eq .res (.lit (.bool true))).value [] { args:=a,res:=some (.bool true),after:=a }=some (.bool (true==true))from w_eq_bool (w_res rfl) w_lit) rfl
def Ym{n:Nat}{q:Program}{e:Φ}{z:(Str->Ω)->Heap->Prop}{y:World->Heap->Prop}{d:DefRec}
 (I:l.most=some n)(B:d.params.defaults=[])
 (call:∀(w:World)(c b:Shared)(k s:Str->Ω)(h:Addr)(o:Obj)(p m t:Value)(a:Addr)(g:Θ)(j:xo),
   Ground q e [] z w c k s b.heap->y w b.heap ->
   b.heap.get? h=some o->o.data=.func (docDef d.name d.params d.body d.scope p m t)->b.heap.CodeRec m d.name->k d.name=some (.ref h) ->
   b.heap.get? a=some { cls:=.type "list",data:=.seq g.toArray }->IntsAre g j->j.length<=n->b.gens = #[] ->
   codeAny (model l.prog w) callerA (.call (.ref h) ⟨[.ref a],[]⟩) (λr i=>r=.ok (.ret (.bool true))/\OldK b.heap i.heap/\i.os=b.os/\AllBare i.gens) b) :
  WalkO q e z y l.row.toRowW d [] (λf g=>PySem.call f g):=by
 intro w c b k s G Y h o p m t R kV H hd T v D L x U V Q u E A K;obtain rfl:R=.none:=Dflts.none v B;obtain rfl:kV=.none:=Dflts.noKw v;obtain⟨a,g,j,rfl,rfl,C,P,S⟩:=acS I Q A;refine enter_call (codeAny_mono (call w c b k s h o p m t a g j G Y H (fd_plain hd) T D C P S L) λr i F=>?_);obtain⟨rfl,O,N,M⟩:=F;exact⟨.inl ⟨.bool true,.bool true,[],rfl,λ_=>rfl,.bool true,acQ l _,λ_=>⟨List.Pairwise.nil,λ_ J=>(nomatch J)⟩⟩,O,N,M⟩
end Att
namespace L2
open PySem PySem.Spec PyProof.Rows
theorem Ia:∀{a:Θ}{b:xo},IntsAre a b->z1 (b.map V.int) a
 |_,_,.nil=>.nil
 |_,_,.cons n t h=>.cons ⟨t,rfl⟩ (Ia h)
def Only(H:Hp):Prop:=∀b,H b=none\/∃o G,H b=some (.frz o (.lst G))
def afp{P:Program}{w:World}{K:Frag}{p J:Str->Ω}{CX:ff}{k:Nat}{N a:Addr}{fd:FuncData}{x:Str}{R:Sp}{c:Shared}{i:Θ}{l:xo}
 (KX:K.In c.heap)(Z:c.heap.Ns mainGlobals p)(f:c.heap.Ns builtinsNs J)(M:∀x:Str,x≠"__name__"->J x=bootBuiltins x)(r8:c.heap.NoLimit)(hg:c.gens = #[])
 (I:c.heap.get? a=some { cls:=.type "list",data:=.seq i.toArray })(U:IntsAre i l)(T:l.length<=sizeLine)(hr:eN k callerA)
 (F:∀base:Heap,K.In base->base.Ns mainGlobals p->fX P w K p base CX k N fd [x] R)(lT:∀(s:Shared)(u:Value),BindsTo s fd ⟨[u],[]⟩ [(x,u)])
 (fy:∀H:Hp,Only H->SqL K H a (l.map V.int)->R [.ref a] H (λv _=>v=.bl true) λ_ _ _=>False)
 (tf:∀H e g,CX [] H c (λ_ _ _=>False) e g->False) :
  codeAny (model P w) callerA (.call (.ref N) ⟨[.ref a],[]⟩) (λr g=>r=.ok (.ret (.bool true))/\OldK c.heap g.heap/\g.os=c.os/\AllBare g.gens) c:=by
 have S:=Ia U;have p6:=U.length

 have core:∀H:Hp,Only H->SqL K H a (l.map V.int)->HOk P w H c.heap->(∀b,H b≠none->b=a)->(H a≠none->K.lookup a=none) ->
   codeAny (model P w) callerA (.call (.ref N) ⟨[.ref a],[]⟩) (λr g=>r=.ok (.ret (.bool true))/\OldK c.heap g.heap/\g.os=c.os/\AllBare g.gens) c:=by
  intro H W hS y X hK;have Y:∀{b:Addr}{o:Obj},c.heap.get? b=some o->H b=none->(U3 c.heap H).get? b=some o:=λe n=>afN e n;have kK:∀{b:Addr}{o:Obj}{B:Array DictEntry}{C:Nat},c.heap.get? b=some o->o.data=.dict B C->H b=none:=λ{b o B C}e d=>by
   cases q:H b with
   |none=>rfl
   |some u =>
    have O:b=a:=X b (by rw[q];simp);subst O;rw[I]at e;cases e;have d':Data.seq i.toArray _=Data.dict B C:=d;cases d'
  have E:∀{b:Addr}{m:Str->Ω},c.heap.Ns b m->(U3 c.heap H).Ns b m:=λ{b m}⟨o,B,C,e,d,r⟩=>⟨o,B,C,Y e (kK e d),d,r⟩;have A:K.In (U3 c.heap H):=λb o e=>Y (KX b o e) (by
   cases q:H b with
   |none=>rfl
   |some u =>
    have O:b=a:=X b (by rw[q];simp);subst O;rw[hK (by rw[q];simp)]at e;cases e)
  have hM:Mod K p (U3 c.heap H):=⟨A,E Z,⟨J,E f,M⟩,let⟨mc,h1,h2⟩:=r8;⟨mc,E h1,h2⟩⟩;have e0:Ww P w K p (U3 c.heap H) callerA [] c H:=⟨rfl,hM,λb o e=>agC e,WH (ab1 _ _),trivial,λb f=>absurd (show b∈([] : Ψ)from f) vz,y,.of_eq hg⟩;refine codeAny_mono ((F _ A (E Z)).run callerA [] c H ⟨[.ref a],[]⟩ [.ref a] [.ref a] _ _ hr e0 (lT c (.ref a)) (.cons rfl .nil) (fy H W hS)) λr g h=>?_;cases r with
  |error e=>exact(tf H e g h).elim
  |ok fl =>
   cases fl with
   |next=>exact False.elim h
   |brk=>exact False.elim h
   |cont=>exact False.elim h
   |ret u =>
    obtain⟨v,H',os,D,Q,t,r',q⟩:=h;have q':v=.bl true:=q;subst q';obtain rfl:u=Value.bool true:=r';refine⟨rfl,OldK.of_keep λb o e=>?_,os,D⟩;cases q:H b with
    |none=>exact Q.keep b o e q (by intro z;exact absurd (show b∈([] : Ψ)from z) vz) vz
    |some u =>
     rcases W b with z|⟨ob,G,z⟩
     .rw[q]at z;cases z
     .have z2:=Q.frzs b ob _ z;obtain⟨e1,_⟩:=y b _ z;obtain⟨e2,_⟩:=t b _ z2;rw[e]at e1;cases e1;exact e2
 cases L:K.lookup a with
 |some o =>

  have e:=KX a o L;rw[I]at e;cases e;refine core (λ_=>none) (λ_=>.inl rfl) (.inr ⟨_,i.toArray,_,L,rfl,rfl,rfl,by rw[aX,p6];exact T,by simpa using S⟩) (λb u z=>by have j:(none:Option HO)=some u:=z;cases j) (λb z=>absurd rfl z) λz=>absurd rfl z
 |none =>
  refine core (λb=>if b=a then some (.frz { cls:=.type "list",data:=.seq i.toArray } (.lst (l.map V.int)))else none) (λb=>?_) (.inl (.inr ⟨{ cls:=.type "list",data:=.seq i.toArray },ZY rfl⟩)) (λb u z=>?_) (λb z=>?_) λ_=>L
  .by_cases f:b=a
   .exact .inr ⟨_,_,ZY f⟩
   .exact .inl (ZZ f)
  .by_cases f:b=a
   .have j:=(ZY f).symm.trans z;cases j;subst f;exact⟨I,by rw[ak];exact T,i,_,S,I⟩
   .have j:=(ZZ f).symm.trans z;cases j
  .by_cases f:b=a
   .exact f
   .exact absurd (ZZ f) z
abbrev KOf{K:Frag}{h:Heap}(_:K.In h):Frag:=K
def aaI{l:PySem.W.OpenLaw}{n k:Nat}{q:Program}{c:Φ}{XP:(Str->Ω)->Heap->Prop}{B:World->Heap->Prop}{d:DefRec}{K:Params->Frag}{CX:World->ff}{sp:World->Sp}{x:Str}
 (N:l.most=some n)(I:n<=sizeLine)(E:d.params.defaults=[])(M:eN k callerA)
 (Q:∀(w:World)(h:Heap),B w h->(K w.params).In h)
 (F:∀(w:World)(i:Str->Ω)(p:Addr)(h:Heap),(K w.params).In h->h.Ns mainGlobals i->i d.name=some (.ref p) ->
   ∃t:FuncData,(∀(s:Shared)(u:Value),BindsTo s t ⟨[u],[]⟩ [(x,u)]) /\
    ∀base:Heap,(K w.params).In base->base.Ns mainGlobals i->fX l.prog w (K w.params) i base (CX w) k p t [x] (sp w))
 (Z:∀(w:World)(H:Hp)(a:Addr)(m:xo),m.length<=n->Only H->SqL (K w.params) H a (m.map V.int)->sp w [.ref a] H (λv _=>v=.bl true) λ_ _ _=>False)
 (D:∀(w:World)(H:Hp)(s:Shared)(e:Value)(r:Shared),CX w [] H s (λ_ _ _=>False) e r->False) :
  PySem.W.WalkO q c XP B l.row.toRowW d [] (λf y=>PySem.call f y):=by
 refine Att.Ym N E λw z j i mb p o pm cd b8 a y m G Y ho hd a9 L J X A O=>?_;have C:=Q w _ Y;obtain⟨t,P,U⟩:=F w i p _ C G.T.g L;exact afp C G.T.g G.T.b G.T.builtins G.T.nolimit O J X (aL A I) M U P (λH S R=>Z w H a m A S R) λH e r=>D w H j e r
end L2

namespace L2
open PySem PySem.Spec PyProof.Rows
abbrev bc:ff:=λ_ _ _ _ _ _=>False
abbrev E0:XK:=λ_ _ _=>False
def Qa{X:Cx} : Passes bc X E0:=λ_ _ _ _ _ _ _ h=>h.elim
structure Fun(K:Frag)(x ah:Str)(st:Stmt)(f:Addr)(fd:FuncData):Prop where
 ex:∃(oc:Value)(od:Ξ)(kV b8 pm:Value)(an:Ξ)(ag ct:Value)(eK:Array (Ω)),
  fd=PySem.W.fnOf x ah (jV st) (fP st) (bH st) .none kV b8 pm an ag ct/\K.lookup f=some ⟨oc,od,.func fd,eK⟩/\codeIn K ag ah
 kp:keepIn K (.ref f)
variable{P:Program}{w:World}{K:Frag}{mg:Str->Ω}{base:Heap}{x ah:Str}{st:Stmt}{f:Addr}{fd:FuncData}{N ps:Φ}{sp:Sp}{oc:Value}{eK:Array (Ω)}{A:Around}
def Fun.ok{k:Nat}(F:Fun K x ah st f fd)(S:bK N ps (bH st))(d:∀b H Q E,sp b H Q E->b.length=ps.length)
 (j:∀(c:Value)(A:Around)(a:xa)(s:Shared)(H:Hp)(b:Ζ)(Q:VK)(E:XK),eN k (A.deeper (envOfC ah (bH st) s.zs f c))->sp b H Q E ->
   ∃t,PSs (Gr bc P w K mg base N ah (bH st) f c A a s H E).nox (fP st) t/\t { nx:=λ_ m=>Q .non m,rt:=Q } (start N b) H):fX P w K mg base bc (k+1) f fd ps sp:=by
 obtain⟨oc,o,kV,r,n,u,c,p,eK,rfl,e,l⟩:=F.ex;refine EM e l S d λA a s H b Q E g i=>?_;obtain⟨t,h,q⟩:=j c A a s H b Q E g i;exact⟨t,h.nox,q⟩
def GY{h g:Ξ}{kV e b a d:Value}(l:K.lookup f=some ⟨oc,h,.func (PySem.W.fnOf x ah (jV st) (fP st) (bH st) .none kV e b g a d),eK⟩)
 (c:codeIn K a ah)(k:keepIn K (.ref f)):Fun K x ah st f (PySem.W.fnOf x ah (jV st) (fP st) (bH st) .none kV e b g a d):=⟨⟨oc,h,kV,e,b,g,a,d,eK,rfl,l,c⟩,k⟩
def BP{k:Nat}(a:eN k A):A.units+1<cLine:=Y3 (Nat.add_le_add_left (by decide:1<=64) _) a.units
def rO(a:Scope)(x:Str):Bool:=(a.names.lookup x).any λk=>k == .local || k == .cell || k == .free
def UM{a:Scope}(h:rO a x):jx a x:=by
 unfold rO at h;unfold jx;cases e:a.names.lookup x with
 |none=>rw[e]at h;cases h
 |some k=>rw[e]at h;cases k<;>first|exact .inl rfl|exact .inr (.inl rfl)|exact .inr (.inr rfl)|cases h
variable{X:Cx}{O:Pos}{H H':Hp}{a b:Addr}{G:Ζ}{prog:Program}{E:Ε}{s:Shared}{Q:Unit->Shared->Prop}{ci es:xb}{t:String}{e:Expr}{ta:TE}{h:Heap}{fl:Value}{oe o:Obj}{vs:xD}
abbrev n_X(X:Cx)(i:Nat)(x:Str):Prop:=X.N[i]?=some x/\rO X.env.scope x/\zz x/\zk x
def pv(i:Nat)(b:autoParam (n_X X i x) zP2):PE X (.Name x O) (WD i):=ZN b.1 (UM b.2.1) b.2.2.1 b.2.2.2
def N2{A B:Prop}(h:B):if false=true then A else B:=by
 rwa[ZZ bw]
def NF{A B:Prop}(h:A):if true=true then A else B:=by
 rwa[ZY rfl]
def zO(H H':Hp):Prop:=∀b o,H b=some o->H' b=some o
def zO.refl(H:Hp):zO H H:=λ_ _ h=>h
def zO.trans{Y d:Hp}(a:zO H Y)(b:zO Y d):zO H d:=λc o h=>b c o (a c o h)
def zO.free(e:zO H H'){l:Addr}(h:H' l=Option.none):H l=Option.none:=by
 cases q:H l with
 |none=>rfl
 |some o =>
  rw[e l o q]at h;cases h
def zO.seq(e:zO H H')(h:SqL K H a G):SqL K H' a G:=by
 rcases h with(h|⟨o,h⟩)|h
 .exact .inl (.inl (e _ _ h))
 .exact .inl (.inr ⟨o,e _ _ h⟩)
 .exact .inr h
def Bd(i:Int):Prop:=i.natAbs<2^8000
def Bd.log2{i:Int}(h:Bd i):i.natAbs.log2<8000:=by
 by_cases a:i.natAbs=0
 .rw[a,Nat.log2_zero];exact TZ _
 .exact(Nat.log2_lt a).mpr h
def Bd.bits{i:Int}(h:Bd i):Builtin.Int.intBits i<=2^20:=by
 have e:(2:Nat)^20=1048576:=by decide
 have:=h.log2;unfold Builtin.Int.intBits;split
 .exact aZ _
 .lia
def ah7:OpR X (binaryOp .Mult) (rI (λi j=>Bd i/\Bd j) λi j=>.int (i*j)):=iX λ_ _ _ _ _ _ _ a q=>mul_int q (.of_bits a.1.bits a.2.bits)
def afP:OpR X (binaryOp .FloorDiv) (rI (λ_ j=>j≠0/\Bd j) λi j=>.int (i.fdiv j)):=iX λ_ _ _ _ _ _ _ a q=>floordiv_int a.1 q (.inl (PyProof.noPylong_of_log2 (by have:=a.2.log2;exact UK this wP)))
def XQ:iH X (.builtin "isinstance") (λG H Q=>∃x c d t b,G=[x,c]/\((∃T,c=.ty T/\d=Value.type T)\/∃C,c=.ref C/\d=Value.ref C)/\Ib X.K H x t/\kitOne X.K t d=some b/\Q (.bl b) H):=by
 intro U s I H G Z Q a r h;obtain⟨x,c,d,t,b,rfl,j,g,e,q⟩:=h;obtain⟨u,v,rfl,i,f⟩:=r.two;have k:v=d:=by
  rcases j with⟨T,rfl,rfl⟩|⟨T,rfl,rfl⟩
  .exact f
  .exact f
 subst k;exact acy a i g e λl=>⟨.bl b,H,a.tok _,rfl,q⟩
def Xu:iH X (.builtin "sorted") (λG H Q=>∃l g,G=[.ref l]/\SqL X.K H l (g.map V.int)/\g.length<64/\∀(i:xo)p,H p=none->i.Perm g->i.Pairwise (· <= ·)->Q (.ref p) (upd H p (.lst (i.map V.int)))):=by
 intro U s I H G Z Q c r h;obtain⟨l,g,rfl,v,j,q⟩:=h;obtain⟨u,rfl,t⟩:=r.one;cases t;obtain⟨d,k,p,m⟩:=c.list v;have x:=intsAre_of k;have z:d.length=g.length:=by have:=k.length;simpa using this.symm
 refine sorted_ints (vs:=d) p.isList x (Y3 (WH z) j) λout f B n A=>?_;obtain⟨e,w⟩:=sortedAll_at s.heap d out;have y:H (s.zs+1)=none:=c.hok.fresh (Xs _);refine⟨.ref _,_,c.laid (a:=s.zs+1) (o:=.lst (f.map V.int)) (t':=s.toks) (λb u e=>sortedAll_old e) (Xs _) ?_,rfl,q f _ y n A⟩;refine⟨?_,out.toList,e,Ia B,w⟩;rw[ak,n.length_eq];rw[ak]at m;exact m
theorem Qp{d t:Addr}{a:xD}(m:t≠d):∀(n i:Nat)(s:Shared)(Q:Θ->Shared->Prop),s.heap.IsListIter d t i->PlainL s.heap t a->i+n<=a.size ->
  (∀j,j.IsListIter d t (i+n)->Heap.SameBut d s.heap j->Q ((a.toList.drop i).take n) { s with heap:=j })->wpAny (model prog w) A (draw (.ref d) n) Q E s
 |0,i,s,Q,c,_,_,h=>by
  show wpAny _ _ (pure []) Q E s;exact ZT (by simpa using h s.heap c (Heap.SameBut.refl ..))
 |n+1,i,s,Q,c,p,z,h=>by
  have u:i<a.size:=by lia
  show wpAny _ _ (pyNext (.ref d) >>= _) Q E s;refine ZU (wpAny_pyNext_list_item c p.isList (x:=a[i]) (by simp[u]) λg y l=>?_);have v:PlainL g t a:=by
   obtain⟨o,k,e,r⟩:=p;exact⟨o,k,(l.2 t m).trans e,r⟩
  refine ZU (wpAny_holding (Qp m n (i+1) _ _ y v wE λf B b=>ZT ?_));have hd:a.toList.drop i=a[i]::a.toList.drop (i+1):=by simp[jk,u]
  have:=h f (by rwa[show i+(n+1)=i+1+n by lia]) (l.trans b);rw[hd,List.take_succ_cons]at this;exact this
def GQ{t:Addr}{a:xD}{Q:Θ->Shared->Prop}(x:A.handled=none)(h:PlainL s.heap t a)
 (y:∀m,Heap.ExtBut s.zs s.heap m->Q a.toList { s with heap:=m }):wpAny (model prog w) A (unpackItems (.ref t) a.size none) Q E s:=by
 have n:t≠s.zs:=by obtain⟨o,_,v,_⟩:=h;exact aQ (aK v)
 unfold unpackItems;refine ZU ?_
 .unfold notIterableAtAll;refine ZU (wpAny_specialOf h.isList.typeIs slot_list_iter.lookup ?_);refine ZT ?_;simp only[XW,if_false];refine ZU (wpAny_holding (wpAny_pyIter_list h.isList ?_));have g:PlainL (s.heap.push { cls:=.type "list_iterator",data:=.fields #[.ref t,.int 0 0] }) t a:=by
   obtain⟨o,k,e,r⟩:=h;exact⟨o,k,aH _ e,r⟩
  refine ZU (wpAny_holding (Qp n a.size 0 _ _ ⟨_,aW _ rfl,rfl,rfl⟩ g wE λf q i=>?_));have u:List.take a.size (List.drop 0 a.toList)=a.toList:=by
   rw[drop_zero];exact lA vz
  rw[u];rw[ZZ vz];have p:PlainL f t a:=by
   obtain⟨o,k,e,r⟩:=g;exact⟨o,k,(i.2 t n).trans e,r⟩
  refine ZU (wpAny_holding (wpAny_pyNext_list_end x q p.isList vz λd c=>?_));simp only[Option.isSome_none,XW,if_false];refine ZT (y d λb o l e=>c b o l (i.extBut b o l (aH _ e)))
def Ed{env:Env}{d}{t:Addr}{a:xD}(i:A.handled=none)(f:PlainL s.heap t a)
 (g:(assignEach ci env).length=a.size)(e:(assignEach ci env).findIdx? (·.1)=none)
 (h:∀c,Heap.ExtBut s.zs s.heap c->wpAny (model prog w) A (assignInOrder ((assignEach ci env).map (·.2)) a.toList) Q E { s with heap:=c }) :
  wpAny (model prog w) A (assign (.Tuple ci d O) env (.ref t)) Q E s:=by
 rw[assign_Tuple];refine ZU (wpAny_standAt ?_);unfold unpack;rw[g,e];exact ZU (wpAny_holding (GQ i f h))
def QN(K:Frag)(n:Nat)(t:e9):TG:=λv I H Q=>∃a G,v=.ref a/\SqL K H a G/\G.length=n/\t G I H Q
def ag0{k:Nat}{t:e9}{n:Nat}(hc:X.calm)(h:PGs X es t)
 (m:‹(assignEach es X.env).length=n›)(x:‹zD X es›):PG X (.Tuple es k O) (QN X.K n t):=by
 intro U s I H v u Q c r hw;obtain⟨a,G,w,l,p,hw⟩:=hw;subst w;cases r;obtain⟨g,d,j,z⟩:=c.list l;refine Ed (c.ok.hd hc) j (by simp[m,<- p,d.length]) x λq i=>?_;have y:Inv X U I H { s with heap:=q }:=c.kept (t':=s.toks) λb o e=>i b o (aQ (aK e)) e;exact h U _ I H G _ Q y (by simpa using d) hw
def zO.upd{H:Hp}{p:Addr}{o:HO}(a:H p=none):zO H (upd H p o):=λb u e=>by
 rw[bR (iI e a)];exact e
def IxR.imp{r c:R2}(h:IxR X r)(i:∀x y H Q,c x y H Q->r x y H Q):IxR X c:=by
 intro b O U s I H x y v u Q a e d q f;exact h _ _ _ _ _ _ _ _ _ _ _ a e d (i _ _ _ _ q) f
def E6:R2:=λx y H Q=>∃p G i v,x=.ref p/\y=.int i/\H p=some (.tup G)/\c4 G i=some v/\Q v H
def Fh:R2:=λx y H Q=>∃p G i v,x=.ref p/\y=.int i/\H p=some (.lst G)/\c4 G i=some v/\Q v H
def Kc:IxR X E6:=FC.imp λx y H Q e=>by obtain⟨p,G,i,v,a,b,c,d⟩:=e;exact⟨p,G,i,v,a,b,.of c,d⟩
def rM:IxR X Fh:=vO.imp λx y H Q e=>by obtain⟨p,G,i,v,a,b,c,d⟩:=e;exact⟨p,G,i,v,a,b,.of c,d⟩
def iH.imp{f:Value}{r b:Ζ->Hp->VK->Prop}(h:iH X f r)(i:∀G H Q,b G H Q->r G H Q):iH X f b:=λU s I H G Z Q a c q=>h U s I H G Z Q a c (i _ _ _ q)
def px:Ζ->Hp->VK->Prop:=λG H Q=>∃p a,G=[.ref p]/\H p=some (.lst a)/\Q (.int a.length) H
def Bh:iH X (.builtin "len") px:=Gu.imp λG H Q e=>by obtain⟨p,d,a,b,c⟩:=e;exact⟨p,d,a,.inl (.of b),c⟩
def mu(H:Hp):V->Option String
 |.non=>some "NoneType"
 |.bl _=>some "bool"
 |.int _=>some "int"
 |.str _=>some "str"
 |.ref a=>match H a with
  |some (.lst _)=>some "list"
  |some (.tup _)=>some "tuple"
  |some (.dK _)=>some "dict"
  |_=>none
 |_=>none
def _h{x:V}(h:mu H x=some t):Ib K H x (.type t):=by
 cases x with
 |non=>cases h;exact .non
 |bl=>cases h;exact .bl _
 |int=>cases h;exact .int _
 |str=>cases h;exact .str _
 |byt=>cases h
 |flt=>cases h
 |ty=>cases h
 |ref a =>
  have h:(match H a with
   |some (.lst _)=>some "list"
   |some (.tup _)=>some "tuple"
   |some (.dK _)=>some "dict"
   |_=>none)=some t:=h
  split at h
  .cases h;exact .lst (by assumption)
  .cases h;exact .tup (by assumption)
  .cases h;exact .dK (by assumption)
  .cases h
def Ui(t T:String):Bool:=(t==T) || (t=="bool" && T=="int")
def IG{T:String}(a:t∈["NoneType","bool","int","str","list","tuple","dict"])(b:T∈["bool","int","str","list","tuple","dict"]):kitOne K (.type t) (.type T)=some (Ui t T):=by
 simp only[YU,VQ,or_false]at a b;rcases a with rfl|rfl|rfl|rfl|rfl|rfl|rfl<;>rcases b with rfl|rfl|rfl|rfl|rfl|rfl<;>with_unfolding_all rfl
def ZI{x:V}(h:mu H x=some t):t∈["NoneType","bool","int","str","list","tuple","dict"]:=by
 cases x with
 |non=>cases h;decide
 |bl=>cases h;decide
 |int=>cases h;decide
 |str=>cases h;decide
 |byt=>cases h
 |flt=>cases h
 |ty=>cases h
 |ref a =>
  have h:(match H a with
   |some (.lst _)=>some "list"
   |some (.tup _)=>some "tuple"
   |some (.dK _)=>some "dict"
   |_=>none)=some t:=h
  split at h<;>cases h<;>decide
def N0:Ζ->Hp->VK->Prop:=λG H Q=>∃x T t,G=[x,.ty T]/\T∈["bool","int","str","list","tuple","dict"]/\mu H x=some t/\Q (.bl (Ui t T)) H
def zT:iH X (.builtin "isinstance") N0:=XQ.imp λG H Q e=>by obtain⟨x,T,t,a,b,c,d⟩:=e;exact⟨x,.ty T,.type T,.type t,_,a,.inl ⟨T,rfl,rfl⟩,_h c,IG (ZI c) b,d⟩
def PG.imp{t b:TG}(h:PG X e t)(i:∀v I H Q,b v I H Q->t v I H Q):PG X e b:=λU s I H v u Q a r q=>h U s I H v u Q a r (i _ _ _ _ q)
def PP(n:Nat)(t:e9):TG:=λv I H Q=>∃a G,v=.ref a/\H a=some (.tup G)/\G.length=n/\t G I H Q
def TY{k:Nat}{t:e9}{n:Nat}(c:X.calm)(h:PGs X es t)(b:‹(assignEach es X.env).length=n›)(i:‹zD X es›):PG X (.Tuple es k O) (PP n t) :=
 (F5 c h b i).imp λv I H Q d=>by obtain⟨a,G,g,f,e⟩:=d;exact⟨a,G,g,.of f,e⟩
def P':Ζ->Hp->VK->Prop:=λG H Q=>∃l a,G=[.ref l]/\H l=some (.lst (a.map V.int))/\a.length<64/\∀(b:xo)p,H p=none->b.Perm a->b.Pairwise (· <= ·)->Q (.ref p) (upd H p (.lst (b.map V.int)))
def acR:iH X (.builtin "sorted") P':=Xu.imp λG H Q e=>by obtain⟨l,d,a,b,c⟩:=e;exact⟨l,d,a,.of b,c⟩
def nj:V->wx
 |.bl b=>some b
 |.int i=>some (i != 0)
 |.non=>some false
 |_=>none
def _I{x:V}{k:Bool}(h:nj x=some k):m7 K x H k:=by
 cases x<;>cases h<;>rfl
def Cf(ta:TE):TT:=λI H Q=>ta I H λx H'=>∃k,nj x=some k/\Q k H'
def F7{a:Expr}(j:PE X a ta)(i:∀c,isTrue a X.env c=(do let v <- c;standAt a.pos;holding [v] (truthy v))):PT X a (Cf ta):=by
 intro U s I H Q b h;exact isTrue_plain (ap (j U s I H _ b h) λv d l=>by obtain⟨x,Y,m,f,k,e,g⟩:=l;exact FB U d I Y x v Q m f ⟨k,_I e,g⟩) (i _)
def e_(P:Program)(w:World)(K:Frag)(mg:Str->Ω)(base:Heap)(k:Nat)(x:Str)(ps:Φ)(sp:Sp):Prop :=
 ∃f fd,fX P w K mg base bc k f fd ps sp/\Binds K fd ps []/\mg x=some (.ref f)/\keepIn K (.ref f)
def cM(K:Frag)(mg:Str->Ω)(x:Str)(st:Stmt)(ps:Φ):Prop :=
 ∃f fd,Fun K x x st f fd/\(∀Z:Θ,Z.length=ps.length->bindArgs fd ⟨Z,[]⟩=pure (ps.zip Z))/\mg x=some (.ref f)
def cM.ok{k:Nat}(h:cM K mg x st ps)
 (d:∀f fd,Fun K x x st f fd->fX P w K mg base bc k f fd ps sp):e_ P w K mg base k x ps sp:=by
 obtain⟨f,fd,a,b,c⟩:=h;exact⟨f,fd,d f fd a,.all b,c,a.kp⟩
def agW{j i:Ξ}{kV g d b e:Value}(X:K.In h)(G:h.Ns mainGlobals mg)
 (a:nsIn K mainGlobals x=some (some (.ref f)))(l:K.lookup f=some ⟨oc,j,.func (PySem.W.fnOf x x (jV st) (fP st) (bH st) .none kV g d i b e),eK⟩)
 (c:codeIn K b x)(k:keepIn K (.ref f))
 (m:∀(kV g d:Value)(i:Ξ)(b e:Value)(Z:Θ),Z.length=ps.length->bindArgs (PySem.W.fnOf x x (jV st) (fP st) (bH st) .none kV g d i b e) ⟨Z,[]⟩=pure (ps.zip Z)):cM K mg x st ps :=
 ⟨f,_,GY l c k,m kV g d i b e,mg_of X G a⟩
def lu(K:Frag):Sp:=λvs H Q _=>∃(a:Addr)(b:xo),vs=[.ref a]/\SqL K H a (b.map V.int)/\b.length<=63/\Only H/\∀H',Q (.bl true) H'
def aqp{l:PySem.W.OpenLaw}{k:Nat}{q:Program}{b:Φ}{E:(Str->Ω)->Heap->Prop}{i:World->Heap->Prop}{d:DefRec}{K:Params->Frag}(r:l.most=some 63)(o:d.params.defaults=[])
 (p:eN k callerA)(B:∀(w:World)(h:Heap),i w h->(K w.params).In h)
 (F:∀(w:World)(mg:Str->Ω)(c:Addr)(h:Heap),(K w.params).In h->h.Ns mainGlobals mg->mg d.name=some (.ref c) ->
   ∃st,cM (K w.params) mg d.name st [x]/\∀(base:Heap)(f:Addr)(fd:FuncData),Fun (K w.params) d.name d.name st f fd->fX l.prog w (K w.params) mg base bc k f fd [x] (lu (K w.params))) :
  PySem.W.WalkO q b E i l.row.toRowW d [] (λf vs=>PySem.call f vs):=by
 refine L2.aaI (n:=63) (k:=k) (x:=x) (CX:=λ_=>bc) (sp:=λw=>lu (K w.params)) r wP o p B (λw mg c h H G g=>?_) (λ_ _ a m v D C=>⟨a,m,rfl,C,v,D,λ_=>rfl⟩) λ_ _ _ _ _ z=>z;obtain⟨st,⟨f,fd,y,A,t⟩,j⟩:=F w mg c h H G g;rw[t]at g;have e:f=c:=by injection g with z;injection z
 subst e;exact⟨fd,λs u=>.of_eq (A [u] rfl),λbase _ _=>j base f fd y⟩
section
variable{X:Cx}{p O:Pos}{e:Expr}{es:xb}{t:TA}{x:Str}{k:Nat}{ps:Φ}{sp:Sp}
def R0(sp:Sp)(t:TA):TE:=λI H Q=>t I H λvs Y=>sp vs Y Q E0
def j9(G:e_ X.prog X.w X.K X.mg X.base k x ps sp)(d:eN k X.A)(i:Gl X x)(l:PA X (e::es) t)(m:autoParam (zz x) zP4)
 (j:‹zw X e es›)(n:‹zg X O es›):PE X (.Call (.Name x p) (e::es) [] O) (R0 sp t):=by
 obtain⟨f,fd,F,b,g,c⟩:=G;intro U s I H Q a h;refine _5 F d i g c b .nil Qa l m j n U s I H Q a ?_;show t I H λvs Y=>sp (vs++[]) Y Q E0;simp only[append_nil];exact h
end
def RU(a:Int):(if a<0 then -a else a)=((a.natAbs:Nat):Int):=by split<;>omega
def uR(a:Int){b:Int}(h:0<b):fdiv a b=a/b:=lI a (XY h)
def TrD(h base:Heap)(e:Addr)(a:Value)(d:Ξ)(fl:Value):Prop :=
 ∃oe vs T oT W,h.get? e=some oe/\(oe.cls=a/\oe.dict=d)/\oe.data=.fields vs/\vs[1]?=some (.ref T)/\base.get? T=none/\T≠e/\h.get? T=some oT/\oT.data=.fields W/\W[3]?=some fl
def xq(base:Heap)(l:xa)(e:Addr)(a:Value)(d:Ξ)(fl:Value)(h:Heap):Prop :=
 base.StaysIn h/\base.get? e=none/\h.FunFrames base l/\TrD h base e a d fl
def xq.first{l:xa}{e:Addr}{a:Value}{d:Ξ}(x:xq base l e a d fl h):∃oe vs,h.get? e=some oe/\oe.cls=a/\oe.dict=d/\oe.data=.fields vs :=
 by obtain⟨_,_,_,oe,vs,_,_,_,c,b,hd,_⟩:=x;exact⟨oe,vs,c,b.1,b.2,hd⟩
section
variable{M:Model}{A:Around}{E:Ε}{s:Shared}{base:Heap}{env:Env}{outer l:xa}{L e:Addr}{cls:Value}{d:Ξ}{Q:Unit->Shared->Prop}
def Kv(o:Obj)(f:xD->xD):(Obj.mapFields f o).dict=o.dict:=by
 unfold Obj.mapFields;split<;>rfl
def Go{head:Value}{N:Bool}(O:A.frames=some (env::outer))(k:s.heap.FunFrames base (env::outer))(J:env.frame=some L)(n:s.heap.get? e=some oe)
 (K:base.StaysIn s.heap)(y:base.get? e=none)(hd:oe.data=.fields vs)(i:1<vs.size)(h:∀p,xq base (env::outer) e oe.cls oe.dict (rawInt L) p->s.heap.UpToSlots p->Q () { s with heap:=p }) :
  wpAny M A (do let a <- frameOf env;let j <- entryPlaceOf L N;let b <- EntryCells.newEntry head a .none (rawInt L) .none j;setField (.ref e) 1 b) Q E s:=by
 have d:e∉(env::outer).filterMap (·.frame):=λz=>by
  obtain⟨_,o,w,m⟩:=k.mem z;rw[n]at w;cases w;exact m vs hd
 refine ZU (wpAny_frameOf_fun O k J λg l=>ZU (wpAny_entryPlaceOf λj G=>?_));unfold EntryCells.newEntry newFields;refine ZU (wpAny_newObj_type ?_ (G.sizeOk5 _ _ _ _ _));have B:g.get? e=some oe:=(l.2.1 e d).trans n;have u:base.StaysIn g:=λb o q=>(l.2.1 b λz=>by rw[(k.mem z).1]at q;cases q).trans (K b o q);generalize D:({ cls:=.type "traceback",dict:=none,data:=.fields ([head,.ref L,.none,rawInt L,.none]++(if j.isEmpty then replicate 6 Value.none else j)).toArray } : Obj)=ot;have v:g.objs.size≠e:=UY (aK B);have C:(g.push ot).get? e=some oe:=aH _ B;refine wpAny_setField C hd i (h _ ?_ ?_)
 all_goals
  have F:=Obj.data_mapFields hd (·.setIfInBounds 1 (Value.ref g.objs.size));have P:=Heap.get?_update_self (Obj.mapFields (·.setIfInBounds 1 (Value.ref g.objs.size))) C (Obj.isFreed_of_fields F);have c:∀b o,b≠e->g.get? b=some o->((g.push ot).update e (Obj.mapFields (·.setIfInBounds 1 (Value.ref g.objs.size)))).get? b=some o:=λb o I q=>by
   rw[Heap.get?_update_other _ _ (Ne.symm I)];exact aH _ q
  have t:∀b o,s.heap.get? b=some o->(∀H,o.data≠.fields H)->b≠e:=λb o q f z=>by
   rw[z,n]at q;cases q;exact f vs hd
 .refine⟨λb o q=>c b o (λz=>by rw[z,y]at q;cases q) (u b o q),y,k.of_keeps λb o q f=>?_,?_⟩
  .obtain⟨r,z⟩:=l.2.2 b o q;exact⟨_,c b _ (t b o q f) z,rfl⟩
  .refine⟨_,_,g.objs.size,ot,_,P,⟨Obj.cls_mapFields _ _,Kv _ _⟩,F,by simp[i],u.fresh,v,?_,by rw[<- D],?_⟩
   .rw[Heap.get?_update_other _ _ (Ne.symm v)];exact aW g (by rw[<- D];rfl)
   .first|(simp;done)|(rcases G with rfl|⟨_,_,_,_,_,_,_,rfl⟩<;>simp)
 .intro b o q f;obtain⟨r,z⟩:=l.2.2 b o q;exact⟨r,c b _ (t b o q f) z⟩
def YT(k:A.frames=some (env::outer))(g:s.heap.FunFrames base (env::outer))(b:env.frame=some L)(d:s.heap.get? e=some oe)
 (i:base.StaysIn s.heap)(j:base.get? e=none)(hd:oe.data=.fields vs)(f:vs[1]?=some .none)(h:∀a,xq base (env::outer) e oe.cls oe.dict (rawInt L) a->s.heap.UpToSlots a->Q () { s with heap:=a }) :
  wpAny M A (noteFrame (.ref e) env) Q E s:=by
 unfold noteFrame;simp only[b];refine ZU (wpAny_field d hd f ?_);rw[ZZ wP];exact Go k g b d i j hd (Array.getElem?_eq_some_iff.mp f).1 h
def PJ(G:A.frames=some (env::outer))(m:env.frame=some L)(x:xq base (env::outer) e cls d .none s.heap)
 (h:∀f,xq base (env::outer) e cls d (rawInt L) f->s.heap.UpToSlots f->Q () { s with heap:=f }):wpAny M A (noteFrame (.ref e) env) Q E s:=by
 obtain⟨D,F,B,oe,vs,T,oT,W,n,⟨hc,j⟩,hd,r,v,w,k,i,p⟩:=x;subst hc j;unfold noteFrame;simp only[m];refine ZU (wpAny_field n hd r ?_);rw[ZY (show(Value.ref T != Value.none)=true from by simp)];refine ZU (wpAny_field k i p ?_);rw[ZZ (show ¬((Value.none==rawInt L)=true)from by simp[rawInt])];refine ZU (wpAny_setField k i (Array.getElem?_eq_some_iff.mp p).1 ?_);have g:∀b,b≠T->(s.heap.update T (Obj.mapFields (·.setIfInBounds 3 Value.none))).get? b=s.heap.get? b:=λb C=>Heap.get?_update_other _ _ (Ne.symm C);have l:∀b o,s.heap.get? b=some o->(∀t,o.data≠.fields t)->b≠T:=λb o q a z=>by
  rw[z,k]at q;cases q;exact a W i
 refine Go (s:={ s with heap:=_ }) G (B.of_keeps λb o q a=>⟨o,(g b (l b o q a)).trans q,rfl⟩) m ((g e (Ne.symm w)).trans n)
  (λb o q=>(g b λz=>by rw[z,v]at q;cases q).trans (D b o q)) F hd (Array.getElem?_eq_some_iff.mp r).1 λf y u=>h f y λb o q a=>u b o ((g b (l b o q a)).trans q) a
def lp(x:xq base l e cls d fl s.heap)(h:∀j,xq base l e cls d .none j->s.heap.UpToSlots j->Q () { s with heap:=j }):wpAny M A (setFlight (.ref e) none) Q E s:=by
 obtain⟨C,D,w,oe,vs,T,oT,W,t,hc,hd,u,n,p,i,c,B⟩:=x;have k:3<W.size:=(Array.getElem?_eq_some_iff.mp B).1;have g:∀b,b≠T->(s.heap.update T (Obj.mapFields (·.setIfInBounds 3 ((none:Ξ).elim Value.none λf=>rawInt f)))).get? b=s.heap.get? b:=λb y=>Heap.get?_update_other _ _ (Ne.symm y);have m:∀b o,s.heap.get? b=some o->(∀v,o.data≠.fields v)->b≠T:=λb o q a z=>by
  rw[z,i]at q;cases q;exact a W c
 unfold setFlight;refine ZU (wpAny_field t hd u ?_);rw[ZY (show(Value.ref T != Value.none)=true from by simp)];refine wpAny_setField i c k (h _ ⟨λb o q=>(g b λz=>by rw[z,n]at q;cases q).trans (C b o q),D,w.of_keeps λb o q a=>⟨o,(g b (m b o q a)).trans q,rfl⟩,?_⟩ λb o q a=>⟨o.slots,(g b (m b o q a)).trans q⟩);exact⟨oe,vs,T,_,_,(g e (Ne.symm p)).trans t,hc,hd,u,n,p,Heap.get?_update_self _ i (Obj.isFreed_of_fields (Obj.data_mapFields c _)),Obj.data_mapFields c _,by simp[k]⟩
def xq.pop(x:xq base (env::outer) e cls d fl h):xq base outer e cls d fl h:=⟨x.1,x.2.1,x.2.2.1.2.2,x.2.2.2⟩
def aeh(j:A.frames=some (env::outer))(g:env.frame=some L)(x:xq base (env::outer) e cls d .none s.heap)
 (h:∀a,xq base outer e cls d .none a->s.heap.UpToSlots a->Q () { s with heap:=a }):wpAny M A (leaving env (.ref e)) Q E s:=by
 unfold leaving;exact ZU (PJ j g x λk y c=>lp y λi z f=>h i z.pop (c.trans f))
def acr{h0:Heap}(t:A.frames=some (env::outer))(m:env.frame=some L)(i:base.StaysIn h0)(l:h0.FunFrames base (env::outer))(d:∀b o,h0.get? b=some o->s.heap.get? b=some o)
 (a:h0.get? e=none)(n:s.heap.get? e=some oe)(hd:oe.data=.fields vs)(g:vs[1]?=some .none)
 (h:∀c,xq base outer e oe.cls oe.dict .none c->s.heap.UpToSlots c->Q () { s with heap:=c }):wpAny M A (leaving env (.ref e)) Q E s:=by
 have r:base.get? e=none:=by
  cases q:base.get? e with
  |none=>rfl
  |some o=>have:=i e o q;rw[a]at this;cases this
 unfold leaving;exact ZU (YT t (l.of_keeps λb o q _=>⟨o,d b o q,rfl⟩) m n (λb o q=>d b o (i b o q)) r hd g λg y j=>lp y λp z k=>h p z.pop (j.trans k))
end
def fQ.there{o:HO}(x:fQ P w H h a o):∃b,h.get? a=some b:=by
 cases o with
 |lst G=>obtain⟨_,_,_,_,e⟩:=x;exact⟨_,e⟩
 |tup G=>obtain⟨_,_,_,o,e,_⟩:=x;exact⟨_,e⟩
 |dK c=>obtain⟨_,_,_,_,o,_,_,e,_⟩:=x;exact⟨_,e⟩
 |set S n=>obtain⟨o,_,_,_,e,_⟩:=x;exact⟨_,e⟩
 |ins C j d=>obtain⟨_,_,_,e,_⟩:=x;exact⟨_,e⟩
 |own y=>exact x
 |xd d=>obtain⟨_,⟨_,_,_,e,_⟩,_⟩:=x;exact⟨_,e⟩
 |rng lo i=>obtain⟨_,_,_,e⟩:=x;exact⟨_,e⟩
 |frz b u=>obtain⟨e,_⟩:=x;exact⟨_,e⟩
 |tbl ps=>exact⟨_,(show h.get? a=some _ from x)⟩
 |met f y=>exact⟨_,(show h.get? a=some _ from x)⟩
 |ext g=>obtain⟨_,e,_⟩:=x;exact e
structure Fly(P:Program)(w:World)(l:xa)(H:Hp)(s:Shared)(a:Addr)(C:Value)(H':Hp)(s':Shared)(B:Heap)(d:Ξ):Prop where
 os:s'.os=s.os
 bare:AllBare s'.gens
 new:s.heap.get? a=none
 un:Un (cp l) [] H H' s.heap s'.heap
 hok:HOk P w H' s'.heap
 frf:∀b∈cp l,H' b=none
 fl:xq B l a C d .none s'.heap
 cov:∀b o,s'.heap.get? b=some o->b∉cp l->((∃u,s.heap.get? b=some u)\/∃u,H' b=some u)->B.get? b=some o
section
variable{P:Program}{w:World}{l:xa}{H H':Hp}{s s':Shared}{a:Addr}{C:Value}{B:Heap}{d:Ξ}{h':Heap}
def Fly.trk(F:Fly P w l H s a C H' s' B d){u:HO}(e:H' b=some u)(q:s'.heap.get? b=some o):B.get? b=some o :=
 F.cov b o q (λz=>by rw[F.frf b z]at e;cases e) (.inr ⟨u,e⟩)
def Fly.hok'(F:Fly P w l H s a C H' s' B d)(k:∀b o,B.get? b=some o->h'.get? b=some o):HOk P w H' h':=λb u e =>
 (F.hok b u e).stay (λc v f q=>k c v (by
  rcases f with z|z
  .subst z;exact F.trk e q
  .exact F.trk z q)) (λ_ q=>q) λ_ _ q=>q
def Fly.un'(F:Fly P w l H s a C H' s' B d)(k:∀b o,B.get? b=some o->h'.get? b=some o)(i:s'.heap.UpToSlots h'):Un (cp l) [] H H' s.heap h':=by
 have j:∀b∈cp l,∀o,s'.heap.get? b=some o->∀vs,o.data≠.fields vs:=λb c o e=>by
  obtain⟨_,h,f,d⟩:=F.fl.2.2.1.mem c;rw[e]at f;cases f;exact d
 refine⟨λb o q n c g=>k b o (F.cov b o (F.un.keep b o q n c g) c (.inl ⟨o,q⟩)),λb o q n c g=>?_,F.un.free,λb o q g=>?_,F.un.tups,F.un.frzs,F.un.tbls⟩
 .obtain⟨p,e⟩:=F.un.slot b o q n c g;obtain⟨m,f⟩:=i b _ e (j b c _ e);exact⟨m,f⟩
 .obtain⟨h,e⟩:=F.un.there b o q g;by_cases c:b∈cp l
  .obtain⟨m,f⟩:=i b _ e (j b c _ e);exact⟨_,f⟩
  .exact⟨h,k b h (F.cov b h e c (.inl ⟨o,q⟩))⟩
end
section
variable{X:Cx}{U:Δ}{I:List xI}{H H':Hp}{s s':Shared}{a:Addr}{C:Value}{B:Heap}{d:Ξ}{h':Heap}
def Inv.flown(c:Inv X U I H s)(F:Fly X.prog X.w X.stack H s a C H' s' B d)(k:∀b o,B.get? b=some o->h'.get? b=some o)(f:s'.heap.UpToSlots h'):Inv X U I H' { s' with heap:=h' } :=
 c.call' (s':={ s' with heap:=h' }) (ch:=[]) F.os (F.un' k f) (F.hok' k) F.bare λ_ z=>nomatch z
def Inv.old(a:Inv X U I H s)(c:X.ex=[])(e:X.s₀.heap.get? b=some o):(∃u,s.heap.get? b=some u)/\b≠X.env.locals:=by
 obtain⟨u,q⟩:=a.base.there b o e (by rw[c];simp);exact⟨⟨u,q⟩,aQ (aR (aK e) a.ok.above)⟩
def Inv.nostk(a:Inv X U I H s)(d:b≠X.env.locals)(c:b∉X.fs):b∉cp X.stack:=λz=>by
 rcases YU.mp (a.stkSub b z)with e|e
 .exact d e
 .exact c e
def Inv.flyOut(c:Inv X U I H s)(i:X.ex=[])(F:Fly X.prog X.w X.stack H s a C H' s' B d)(fl:xq B X.outer a C d .none h')(l:s'.heap.UpToSlots h') :
  Fly X.prog X.w X.outer X.H₀ X.s₀ a C H' { s' with heap:=h' } B d:=by
 have J:=c.flown F fl.1 l;refine⟨J.os,J.bare,?_,by have:=J.base;rw[i]at this;exact this,J.hok,λb g=>?_,fl,λb o e g hc=>?_⟩
 .cases q:X.s₀.heap.get? a with
  |none=>rfl
  |some o =>
   obtain⟨⟨u,z⟩,_⟩:=c.old i q;rw[F.new]at z;cases z
 .obtain⟨_,o,m,_⟩:=c.ok.funs.mem g;exact J.base.free b o m (c.ok.frf b g) λz=>c.ok.exfs b z g
 .rcases hc with⟨u,q⟩|⟨u,q⟩
  .obtain⟨⟨v,z⟩,n⟩:=c.old i q;obtain⟨h,k⟩:=F.un.there b v z vz;have y:=F.cov b h k (c.nostk n g) (.inl ⟨v,z⟩);have j:=fl.1 b h y;rw[show({ s' with heap:=h' } : Shared).heap.get? b=h'.get? b from rfl,j]at e;cases e;exact y
  .obtain⟨h,k⟩:=(F.hok b u q).there;have y:=F.trk q k;have j:=fl.1 b h y;rw[show({ s' with heap:=h' } : Shared).heap.get? b=h'.get? b from rfl,j]at e;cases e;exact y
end
def gx(P:Program)(w:World):ff:=λl H s E e b=>∃a C d H' B,e=.ref a/\Fly P w l H s a C H' b B d/\E C d H'
def kQ(X:Cx)(c:Value->Ξ->L2.St->Hp->Prop):Prop :=
 ∀U I H s a C H' b B d,Inv X U I H s->Fly X.prog X.w X.stack H s a C H' b B d->c C d I H'->X.xe (.ref a) b
variable{E:XK}{J:Scope}{cd:Value}{outer:xa}{C:Addr}
def _s:kQ (Gr (gx P w) P w K mg base N ah J f cd A outer s H E) (λC d _ H'=>E C d H'):=by
 intro U I Y e a C H' g B d b F q;show wpAny _ _ (leaving _ (.ref a)) _ _ _;refine aeh (outer:=outer) b.ok.frames rfl F.fl λh fl c=>?_;exact⟨a,C,d,H',B,rfl,b.flyOut rfl F fl c,q⟩
def Fun.okX{k:Nat}(F:Fun K x ah st f fd)(S:bK N ps (bH st))(b:∀vs H Q E,sp vs H Q E->vs.length=ps.length)
 (g:∀(a:Value)(A:Around)(outer:xa)(s:Shared)(H:Hp)(vs:Ζ)(Q:VK)(E:XK),eN k (A.deeper (envOfC ah (bH st) s.zs f a))->sp vs H Q E ->
   ∃t,PSs (Gr (gx P w) P w K mg base N ah (bH st) f a A outer s H E) (fP st) t/\t { nx:=λ_ H'=>Q .non H',rt:=Q } (L2.start N vs) H):fX P w K mg base (gx P w) (k+1) f fd ps sp:=by
 obtain⟨oc,j,kV,m,i,n,a,l,eK,rfl,c,h⟩:=F.ex;exact EM c h S b λA outer s H vs Q E d e=>g a A outer s H vs Q E d e
def l5(P:Program)(w:World)(K:Frag)(mg:Str->Ω)(base:Heap)(k:Nat)(x:Str)(ps:Φ)(sp:Sp):Prop :=
 ∃f fd,fX P w K mg base (gx P w) k f fd ps sp/\Binds K fd ps []/\mg x=some (.ref f)/\keepIn K (.ref f)
def cM.okX{k:Nat}(h:cM K mg x st ps)
 (d:∀f fd,Fun K x x st f fd->fX P w K mg base (gx P w) k f fd ps sp):l5 P w K mg base k x ps sp:=by
 obtain⟨f,fd,a,b,c⟩:=h;exact⟨f,fd,d f fd a,.all b,c,a.kp⟩
section
variable{X:Cx}{p O:Pos}{e:Expr}{es:xb}{t:TA}{x:Str}{k:Nat}{ps:Φ}{sp:Sp}{Ex:Value->Ξ->L2.St->Hp->Prop}
def U9(sp:Sp)(Ex:Value->Ξ->L2.St->Hp->Prop)(t:TA):TE:=λI H Q=>t I H λvs Y=>sp vs Y Q λC d H'=>Ex C d I H'
def XM(G:l5 X.prog X.w X.K X.mg X.base k x ps sp)(v:eN k X.A)(D:Gl X x)(o:kQ X Ex)(L:PA X (e::es) t)(M:autoParam (zz x) zP4)
 (E:‹zw X e es›)(N:‹zg X O es›):PE X (.Call (.Name x p) (e::es) [] O) (U9 sp Ex t):=by
 obtain⟨f,fd,F,J,y,n⟩:=G;intro U s I H Q b h;refine wpAny_Call_Name_kw (sE b D y ?_ M);refine callWith_K (h₀:=X.base) b.ok.mod.kin n (ap (L O U s I H _ b h) λZ i ⟨vs,Y,g,r,q⟩=>⟨g.kIn,?_⟩) E N;have z:Z.length=ps.length:=by rw[<- r.length];exact F.len _ _ _ _ q
 have j:=J i Z g.kIn (by simpa using z);simp only[append_nil]at j;refine wpAny_call (codeAny_mono (F.run X.A X.stack i Y ⟨Z,[]⟩ Z vs Q _ v g.env0 j r q) λr l c=>?_);cases r with
 |error e =>
  obtain⟨a,C,d,H',B,rfl,P,m⟩:=c;exact o U I Y i a C H' l B d g P m
 |ok fl =>
  cases fl with
  |ret u=>exact g.after c
  |next=>exact False.elim c
  |brk=>exact False.elim c
  |cont=>exact False.elim c
end
abbrev fM:Θ:=[.type "ValueError",.type "Exception",.type "BaseException",.type "object"]
def oo(K:Frag)(C:Addr):Prop:=excIn K C fM "ValueError.__new__"=true
set_option tactic.hygienic true in
def _H(X:K.In h)(q:oo K C):∃j N o m s E k sub t b r i g f e d v,h.get? C=some (excClassObj o m C N s j E k sub t b r i g f e d "ValueError.__new__") /\
  h.Ns N v/\v "__init__"=none/\OwnTail h fM j:=by
 unfold oo excIn at q;split at q
 .rename_i r cd u D
  split at q
  .rename_i G j i g f e n d y x
   simp only[QR,beq_iff_eq,Bool.not_eq_true']at q;obtain⟨⟨⟨⟨⟨rfl,rfl⟩,w⟩,B⟩,a⟩,c⟩:=q;obtain⟨o,s,A,z,m,hd,k,sub,t,b,F⟩:=cd;dsimp only at y w a c;subst y w;have p:u = #[i,g,f,e,some (.builtin "ValueError.__new__"),d]:=by
    obtain⟨l⟩:=u;simp only at x;rw[x]
   subst p;exact⟨j,z,o,m,s,hd,k,sub,t,b,r,i,g,f,e,d,_,X _ _ D,.of_isNs (isNs_of_in X a),PySem.W.nsMap_none_of_in X a c,PySem.W.tail_of_in X B⟩
  .cases q
 .cases q
abbrev Cx.tryc(X:Cx)(pn:Δ)(E:Ε):Cx:={ X with pn:=pn,xe:=E }
abbrev Cx.marked(X:Cx)(a:Addr)(E:Ε):Cx:={ X with A:=X.A.mark (some (.ref a)),calm:=false,xe:=E }
variable{E:Ε}{pn U eJ:Δ}{I:L2.St}{i t:Nat}{n Dn:Str}{M:Model}{d:Drawn}{g:wy}{os:OsState}{D:Addr}{rq np:Pos}{b5 hV:xS}{b₀:Stmt}{tb:(Value->Ξ->L2.St->Hp->Prop)->TS}{th:TS}
def Cx.Ok.tryc(a:X.Ok):(X.tryc pn E).Ok:=⟨a.mod,a.kind,a.glob,a.blt,a.above,a.inj,a.has,a.cab,a.hd,a.frames,a.stk,a.exf,a.bs,a.bsz,a.noex,a.exfs,a.funs,a.frf⟩
def Cx.Ok.untry(a:(X.tryc pn E).Ok):X.Ok:=⟨a.mod,a.kind,a.glob,a.blt,a.above,a.inj,a.has,a.cab,a.hd,a.frames,a.stk,a.exf,a.bs,a.bsz,a.noex,a.exfs,a.funs,a.frf⟩
def Inv.tryc(a:Inv X U I H s):Inv (X.tryc (X.pn++U) E) [] I H s:=⟨a.ok.tryc,a.os,a.bare,a.base,a.loc,a.cell,a.free,a.freeC,λp b=>a.pin p (by simpa using b),a.hok,a.len⟩
def Inv.untry(a:Inv (X.tryc (X.pn++U) E) eJ I H s):Inv X U I H s:=⟨a.ok.untry,a.os,a.bare,a.base,a.loc,a.cell,a.free,a.freeC,λp b=>a.pin p (UP _ b),a.hok,a.len⟩
def Cx.Ok.marked(b:X.Ok):(X.marked a E).Ok:=⟨b.mod,b.kind,b.glob,b.blt,b.above,b.inj,b.has,b.cab,λz=>(nomatch z),b.frames,b.stk,b.exf,b.bs,b.bsz,b.noex,b.exfs,b.funs,b.frf⟩
def Inv.marked(b:Inv X U I H s):Inv (X.marked a E) U I H s:=⟨b.ok.marked,b.os,b.bare,b.base,b.loc,b.cell,b.free,b.freeC,b.pin,b.hok,b.len⟩
def Inv.unmarked(ok:X.Ok)(b:Inv (X.marked a E) U I H s):Inv X U I H s:=⟨ok,b.os,b.bare,b.base,b.loc,b.cell,b.free,b.freeC,b.pin,b.hok,b.len⟩
def Inv.track{o:HO}(d:Inv X U I H s)(k:H a=none)(l:X.s₀.heap.get? a=none)(r:a≠X.env.locals)(t:∀x c,X.env.cells.lookup x=some c->c≠a)(j:∀p∈X.pn++U,p.1≠a)
 (ok:fQ X.prog X.w (upd H a o) s.heap a o):Inv X U I (upd H a o) s:=by
 have f:∀b u,H b=some u->b≠a:=λb u e=>iI e k;have h:∀b u,X.s₀.heap.get? b=some u->b≠a:=λb u e z=>by rw[z,l]at e;cases e
 refine⟨d.ok,d.os,d.bare,⟨d.base.keep,d.base.slot,λb g e n i=>by rw[bR (h b g e)];exact d.base.free b g e n i,d.base.there,λb G e=>?_,λb g u e=>?_,λb ps e=>?_⟩,d.loc,d.cell,by rw[bR r.symm];exact d.free,λx c e=>by rw[bR (t x c e)];exact d.freeC x c e,λp q=>?_,λb u e=>?_,d.len⟩
 .have z:=d.base.tups b G e;rw[bR (f b _ z)];exact z
 .have z:=d.base.frzs b g u e;rw[bR (f b _ z)];exact z
 .obtain⟨m,z⟩:=d.base.tbls b ps e;exact⟨m,by rw[bR (f b _ z)];exact z⟩
 .obtain⟨A,y,v⟩:=d.pin p q;exact⟨A,by rw[bR (j p q)];exact y,v⟩
 .by_cases z:b=a
  .subst z;rw[bY]at e;cases e;exact ok
  .rw[bR z]at e;exact(d.hok b u e).stay (λ_ _ _ q=>q) (λc q=>by rw[bR (f c _ q)];exact q) λc G q=>by rw[bR (f c _ q)];exact q
def Inv.unname(a:Inv X U I H s)(hN:X.N.Nodup)(F:X.N[i]?=some n)(hk:X.env.scope.names.lookup n=some .local)
 (h:∀C,Inv X U (I.set i none) H C->Q () C):wpAny M A (do bindName X.env n .none;unbindBehindTheSuite X.env n O) Q E s:=by
 obtain⟨m,Y,Z⟩:=id a.loc;have gu:(X.env.scope.kind == .class || (X.env.scope.kind == .module&&X.env.locals != X.env.globals))=false:=by rw[a.ok.kind];rfl
 have cne:=a.cne;have V:i<I.length:=by rw[a.len];exact(ao.mp F).1
 refine wpAny_nameGoes_keeps hk Y gu λh' v L f=>?_;have hok:HOk X.prog X.w H h':=λb R e=>(a.hok b R e).stay (λc B hc q=>(f.2 c (by
  rintro rfl;rcases hc with rfl|hc
  .rw[a.free]at e;cases e
  .rw[a.free]at hc;cases hc)).trans q) (λ_ q=>q) λ_ _ q=>q
 refine h _ ⟨a.ok,a.os,a.bare,⟨λb o e l x r=>?_,λb o e l x r=>?_,a.base.free,λb o e r=>?_,a.base.tups,a.base.frzs,a.base.tbls⟩,⟨_,L,λj y G g t e3=>?_⟩,λy c e=>?_,a.free,a.freeC,λp W=>?_,hok,by simpa using a.len⟩
 .exact(f.2 b (aQ (aR (aK e) a.ok.above))).trans (a.base.keep b o e l x r)
 .obtain⟨K,g⟩:=a.base.slot b o e l x r;exact⟨K,(f.2 b (aQ (aR (aK e) a.ok.above))).trans g⟩
 .obtain⟨S,g⟩:=a.base.there b o e r;exact⟨S,(f.2 b (aQ (aR (aK e) a.ok.above))).trans g⟩
 .by_cases u:j=i
  .subst u;rw[UZ V]at t;cases t
  .rw[VT (Ne.symm u)]at t;obtain⟨J,P,q⟩:=Z j y G g t e3;refine⟨J,P,?_⟩;rcases q with⟨k,e⟩|⟨k,c,e,z⟩
   .refine .inl ⟨k,?_⟩;have:y≠n:=λe=>u (Nz hN g (e ▸ F));simp[this,e]
   .exact .inr ⟨k,c,e,z.sameBut f (cne y c e)⟩
 .obtain⟨B,z⟩:=a.cell y c e;exact⟨B,z.sameBut f (cne y c e)⟩
 .obtain⟨e,l,D,T,d⟩:=a.pin p W;exact⟨(f.2 p.1 D).trans e,l,D,T,d⟩
def XO(a C:Addr)(d:Ξ):HO:=.ext λh=>∃o,h.get? a=some o/\o.cls=.ref C/\o.dict=d/\∃vs,o.data=.fields vs
def W5{Q:Bool->Shared->Prop}{b:Bool}(X:K.In h)
 (e:mroIn K D (.type "BaseException")=some true)(l:typeIn K (.ref D)=some (.type "type"))(u:h.get? a=some oe)(hc:oe.cls=.ref C)(j:mroIn K C (.ref D)=some b)
 (f:Q b ⟨h,g,d,t,os⟩):wpAny M A (excMatches (.ref a) (.ref D)) Q E ⟨h,g,d,t,os⟩:=by
 have r:PySem.W.Looks M h (isInstance (.ref D) (.type "tuple")) false:=(PySem.W.looks_typeIn X l).andThen (PySem.W.Looks.of_pure tc_notTuple);have p:PySem.W.Looks M h (isType (.ref D)) true:=by
  obtain⟨v,c,_⟩:=Option.bind_eq_some_iff.mp e;unfold clsIn at c;split at c
  .rename_i G F w B s
   intro z x y i k q;unfold isType loadHead;exact ZU (wpAny_loadPart (k _ _ (X _ _ s)) (ZT q))
  .cases c
 have o:PySem.W.Looks M h (isSubtype (.ref D) (.type "BaseException")) true:=looks_mroIn X e;have n:PySem.W.Looks M h (isSubtype (.ref C) (.ref D)) b:=looks_mroIn X j;have m:PySem.W.Looks M h (typeOf (.ref a)) (.ref C):=by
  intro z x y i k q;rw[<- hc]at q;unfold typeOf;exact ZU (wpAny_loadPart (k _ _ u) (ZT q))
 unfold excMatches;refine ZU (r.at ?_);simp only[XW,if_false];refine ZU (ZT ?_);simp only[List.forIn_cons,List.forIn_nil];unfold isExcClass;refine ZU (ZU (ZU (ZU (p.at ?_))));simp only[if_true];refine o.at ?_;simp only[Bool.not_true,XW,if_false];refine ZT (ZT (ZU (m.at ?_)));refine ZU (ZU (ZU (n.at ?_)));cases b with
 |true =>
  simp only[if_true];exact ZT (ZT (ZT f))
 |false =>
  simp only[XW,if_false];exact ZT (ZT (ZT f))
def Ends.unset(R:Ends)(i:Nat):Ends:={ nx:=λI H=>R.nx (I.set i none) H,rt:=R.rt,bk:=λI H=>R.bk (I.set i none) H,ct:=λI H=>R.ct (I.set i none) H }
def YN(K:Frag)(D:Addr)(i:Nat)(tb:(Value->Ξ->L2.St->Hp->Prop)->TS)(th:TS):TS:=λR I H =>
 ∃c:Value->Ξ->L2.St->Hp->Prop,tb c R I H/\∀e d b H',c e d b H'->∃C,e=.ref C/\mroIn K C (.ref D)=some true /\
  ∀a,H' a=none->th (R.unset i) (b.set i (some (.ref a))) (upd H' a (XO a C d))
def adZ(hN:X.N.Nodup)(hi:X.N[i]?=some n)(W:X.env.scope.names.lookup n=some .local)(hgD:Gl X Dn)(hmD:X.mg Dn=some (.ref D))(qD:mroIn X.K D (.type "BaseException")=some true)
 (oy:typeIn X.K (.ref D)=some (.type "type"))(bX:X.stack=X.env::X.outer)(eR:X.env.frame=some X.env.locals)(hex:X.ex=[])
 (hb:∀Z E' Ex,kQ (X.tryc Z E') Ex->PSs (X.tryc Z E') b5 (tb Ex))(hh:∀a E',PSs (X.marked a E') (b₀::hV) th)(bS:autoParam (zz Dn) zP4) :
  PS X (.Try b5 [.ExceptHandler (some (.Name Dn np)) (some n) (b₀::hV) rq] [] [] O) (YN X.K D i tb th):=by
 intro U s I H R g h;obtain⟨Ex,h1,h2⟩:=h;refine wpAny_Try_except ?_;have j2:∀{b:Cx}{pn:Δ}{f:Flow}{E:Shared},(∀{j:L2.St}{H':Hp},Inv b pn j H' E->Inv X U j H' E)->SP b pn R f E->SP X U R f E:=λ{b pn f E}k q=>by
  cases f with
  |next=>obtain⟨j,H',J,z⟩:=q;exact⟨j,H',k J,z⟩
  |brk=>obtain⟨j,H',J,z⟩:=q;exact⟨j,H',k J,z⟩
  |cont=>obtain⟨j,H',J,z⟩:=q;exact⟨j,H',k J,z⟩
  |ret u=>obtain⟨v,j,H',J,z⟩:=q;exact⟨v,j,H',k J,z⟩
 refine wpAny_mono (hb (X.pn++U) _ Ex ?_ [] s I H R g.tryc h1) (λf s1 q=>?_) λ_ _ z=>z
 rotate_left
 .have q':=j2 (λJ=>J.untry) q;cases f with
  |next=>exact wpAny_execs_nil q'
  |brk=>exact q'
  |cont=>exact q'
  |ret u=>exact q'
 intro eJ r Y s1 a C' H' E B d J F ex;have J0:Inv X U r Y s1:=J.untry;obtain⟨C,rfl,qS,k⟩:=h2 C' d r H' ex;have P:Fly X.prog X.w X.stack Y s1 a (.ref C) H' E B d:=F;have fl0:xq B (X.env::X.outer) a (.ref C) d .none E.heap:=by rw[<- bX];exact P.fl
 show wpAny _ _ (noteFrame (.ref a) X.env) _ _ _;refine PJ (outer:=X.outer) (L:=X.env.locals) (g.ok.frames.trans (by rw[bX])) eR fl0 λh₄ jv A=>?_;refine lp jv λh₅ tP t=>?_;have J5:Inv X U r H' { E with heap:=h₅ }:=J0.flown P tP.1 (A.trans t);obtain⟨oe,vs,he,gu,_,hd⟩:=tP.first;refine wpAny_handleBy_cons (codeAny_handlers_test ?_) (by intro q;cases q);refine sE (X:=X.marked a (λ_ _=>False)) J5.marked hgD hmD ?_ bS;refine W5 (K:=X.K) J5.kIn qD oy he gu qS ?_;show codeAny _ _ _ _ _;refine codeAny_handlers_suite_as ?_;refine lp tP λl G Q=>?_;have J6:Inv X U r H' { E with heap:=l }:=J0.flown P G.1 ((A.trans t).trans Q);obtain⟨oe6,vs6,ng,lS,hda,sC⟩:=G.first;have na:H' a=none:=by
  cases q:H' a with
  |none=>rfl
  |some u =>
   obtain⟨o',T⟩:=(P.hok a u q).there;have y:=P.trk q T;rw[P.fl.2.1]at y;cases y
 have ns:X.s₀.heap.get? a=none:=by
  cases q:X.s₀.heap.get? a with
  |none=>rfl
  |some o =>
   obtain⟨⟨u,z⟩,_⟩:=J0.old hex q;rw[P.new]at z;cases z
 have nL:a≠X.env.locals:=λz=>by
  obtain⟨m,⟨o,es,ep,e,dd,_⟩,_⟩:=J6.loc;rw[<- z]at e;have T:l.get? a=some o:=e;rw[ng]at T;cases T;rw[sC]at dd;cases dd
 have nC:∀x c,X.env.cells.lookup x=some c->c≠a:=λx c e z=>by
  obtain⟨v,o,T,dd⟩:=J6.cell x c e;rw[z]at T;have e2:l.get? a=some o:=T;rw[ng]at e2;cases e2;rw[sC]at dd;cases dd
 have nP:∀p∈X.pn++U,p.1≠a:=λp hp z=>by
  have:=(J0.pin p hp).1;rw[z,P.new]at this;cases this
 have okx:fQ X.prog X.w (upd H' a (XO a C d)) l a (XO a C d):=⟨⟨oe6,ng,lS,hda,vs6,sC⟩,⟨oe6,ng⟩,λg1 g2 ⟨o,e1,e2⟩ kk=>⟨o,kk o e1,e2⟩⟩;have J7:Inv X U r (upd H' a (XO a C d)) { E with heap:=l }:=J6.track na ns nL nC nP okx;refine uP (X:=X.marked a (λ_ _=>False)) J7.marked hN hi (.inl W) (v:=.ref a) rfl (λs8 J8=>?_) (.inr W);have J8':Inv X U (r.set i (some (.ref a))) (upd H' a (XO a C d)) s8:=J8.unmarked g.ok;refine wpAny_mono (hh a _ U s8 _ _ _ J8'.marked (k a na)) (λf s9 q=>?_) λ_ _ z=>z;cases f with
 |next =>
  obtain⟨j,H2,V,z⟩:=q;exact(V.unmarked g.ok).unname hN hi W λka S=>⟨_,_,S,z⟩
 |brk =>
  obtain⟨j,H2,V,z⟩:=q;exact(V.unmarked g.ok).unname hN hi W λka S=>⟨_,_,S,z⟩
 |cont =>
  obtain⟨j,H2,V,z⟩:=q;exact(V.unmarked g.ok).unname hN hi W λka S=>⟨_,_,S,z⟩
 |ret u =>
  obtain⟨v,j,H2,V,rv,z⟩:=q;exact(V.unmarked g.ok).unname hN hi W λka S=>⟨v,_,_,S,rv,z⟩
structure ir(K:Frag)(C:Addr):Prop where
 ga:findIn K (.ref C) "__getattribute__"=some (some (.builtin "BaseException.__getattribute__"))
 gn:findIn K (.ref C) "__getattr__"=some none
 cl:findIn K (.ref C) "__class__"=some (some (.builtin "object.__class__"))
 mo:mroIn K C (.type "object")=some true
 mb:mroIn K C (.type "BaseException")=some true
def Gf(b:h.get? a=some o)(c:o.cls=.ref C):PySem.W.Looks M h (typeOf (.ref a)) (.ref C):=by
 intro g e f d k q;rw[<- c]at q;unfold typeOf;exact ZU (wpAny_loadPart (k _ _ b) (ZT q))
def SN{b:Value}(X:K.In h)(T:ir K C)(c:h.get? a=some o)(e:o.cls=.ref C)(i:Q () ⟨h,g,d,t,os⟩) :
  wpAny M A (checkBuiltinCall "BaseException.__getattribute__" ⟨[.ref a,b],[]⟩) Q E ⟨h,g,d,t,os⟩:=by
 have j:builtinKind "BaseException.__getattribute__"=some .slot:=by decide +kernel
 have f:splitId "BaseException.__getattribute__"=some ("BaseException","__getattribute__"):=by decide +kernel
 have l:=F.args_bexc_ga (.ref a) b;have LT:=Gf (M:=M) c e;have k:=looks_mroIn (M:=M) X T.mb;simp only[checkBuiltinCall,j,f];refine ZU ?_;unfold isInstance
 repeat (first|with_reducible refine LT.at ?_|with_reducible refine k.at ?_|(with_reducible refine wpAny_loadPart_at c ?_;rw[e])|wp_step)
 exact i
def xg(a:xn):wq->xn->xn
 |[],b=>b
 |(n,k)::r,b=>xg a r (if k == .free then(n,(a.lookup n).getD 0)::b else b)
def Zf{env:Env}(h:∀y∈J.names,y.2=.free->∃c,env.cells.lookup y.1=some c):closureFor J env=pure (xg env.cells J.names []):=by
 unfold closureFor;have o:∀(l:wq)(b:xn),(∀y∈l,y.2=.free->∃c,env.cells.lookup y.1=some c) ->
   (forIn l b (λ(x:Str×NameKind)(r:xn)=>if(x.2==NameKind.free)=true then(do let a <- cellOf env x.1;pure (ForInStep.yield ((x.1,a)::r)))else pure (ForInStep.yield r)):Sem (xn))=pure (xg env.cells l b):=by
  intro l
  induction l with
  |nil=>intro b _;rfl
  |cons y r g =>
   intro b f;obtain⟨n,k⟩:=y;rw[List.forIn_cons];by_cases i:k=.free
   .subst i;obtain⟨c,j⟩:=f (n,.free) aO rfl;have p:cellOf env n=pure c:=by unfold cellOf;rw[show env.cells.lookup n=some c from j]
    simp only[beq_self_eq_true,if_true,p,pure_bind];rw[g _ λz d=>f z (aJ _ d)];show pure _=pure (xg env.cells r (if(NameKind.free==NameKind.free)=true then(n,(env.cells.lookup n).getD 0)::b else b));rw[show env.cells.lookup n=some c from j]
    rfl
   .have m:(k==NameKind.free)=false:=by simpa using i
    simp only[m,XW,if_false,pure_bind];rw[g _ λz d=>f z (aJ _ d)];show pure _=pure (xg env.cells r (if(k==NameKind.free)=true then(n,(env.cells.lookup n).getD 0)::b else b));rw[m]
    rfl
 have e:=o J.names [] h;show(forIn J.names [] (λ(x:Str×NameKind)(r:xn)=>if(x.2==NameKind.free)=true then(do let a <- cellOf env x.1;pure (ForInStep.yield ((x.1,a)::r)))else pure (ForInStep.yield r)):Sem (xn)) >>= (λq=>pure q)=_;rw[e]
 rfl
theorem XH{a:xn} : ∀{b:wq}{d:xn}{x:Str}{c:Addr},(∀y∈b,y.2=.free->∃c,a.lookup y.1=some c)->(x,c)∈xg a b d->(x,c)∈d\/a.lookup x=some c
 |[],_,_,_,_,h=>.inl h
 |(n,k)::r,d,x,c,g,h=>by
  unfold xg at h;rcases XH (λy i=>g y (aJ _ i)) h with z|z
  .by_cases f:k=.free
   .subst f;simp only[beq_self_eq_true,if_true]at z;rcases YU.mp z with e|e
    .obtain⟨m,l⟩:=g (n,.free) aO rfl;cases e;rw[show a.lookup n=some m from l];exact .inr rfl
    .exact .inl e
   .have j:(k==NameKind.free)=false:=by simpa using f
    simp only[j,XW,if_false]at z;exact .inl z
  .exact .inr z
theorem X8{cells:xn} : ∀{a:wq}{acc:xn}{x:Str},((x,NameKind.free)∈a\/∃c,(x,c)∈acc)->∃c,(x,c)∈xg cells a acc
 |[],_,_,h=>by
  rcases h with h|h
  .cases h
  .exact h
 |(n,k)::r,acc,x,h=>by
  unfold xg;refine X8 ?_;rcases h with h|⟨c,h⟩
  .rcases YU.mp h with e|e
   .cases e;exact .inr ⟨_,by simp only[beq_self_eq_true,if_true];exact aO⟩
   .exact .inl e
  .refine .inr ⟨c,?_⟩;split
   .exact aJ _ h
   .exact h
theorem qZ{a:Type}{x:Str}{c:a} : ∀{l:List (Str×a)},(x,c)∈l->∃f,l.lookup x=some f
 |(y,d)::r,h=>by
  rw[lookup_cons];cases b:x==y with
  |true=>exact⟨d,rfl⟩
  |false =>
   rcases YU.mp h with e|e
   .cases e;simp at b
   .exact qZ e
def Inv.nostk'(a:Inv X U I H s)(d:b≠X.env.locals)(c:b∉X.fs):b∉cp X.stack:=λz=>by
 rcases YU.mp (a.stkSub b z)with e|e
 .exact d e
 .exact c e
theorem Gb{env:Env} : ∀{a:wq}{y:Str},(a.map λ(n,k)=>if(k==NameKind.free&&env.scope.kind == .function&&env.kindOf n==some .cell)then(n,NameKind.cell)else(n,k)).lookup y=some .cell \/
  (a.map λ(n,k)=>if(k==NameKind.free&&env.scope.kind == .function&&env.kindOf n==some .cell)then(n,NameKind.cell)else(n,k)).lookup y=some .free->(∀z∈a,z.2≠.cell)->(y,NameKind.free)∈a
 |[],y,h,_=>by rcases h with h|h<;>cases h
 |(n,k)::r,y,h,hc=>by
  have e:=@Gb env r y;simp only[map_cons]at h;by_cases b:(k==NameKind.free&&env.scope.kind == .function&&env.kindOf n==some .cell)
  .rw[ZY b]at h;simp only[lookup_cons]at h;cases c:y==n with
   |true =>
    have f:k=.free:=by
     simp only[QR,beq_iff_eq]at b;exact b.1.1
    have:y=n:=by simpa using c
    subst this f;exact aO
   |false =>
    rw[c]at h;exact aJ _ (e h λz d=>hc z (aJ _ d))
  .rw[ZZ b]at h;simp only[lookup_cons]at h;cases c:y==n with
   |true =>
    rw[c]at h;have:y=n:=by simpa using c
    subst this;rcases h with h|h
    .exact absurd (Option.some.inj h) (hc (y,k) aO)
    .have:k=.free:=Option.some.inj h;subst this;exact aO
   |false =>
    rw[c]at h;exact aJ _ (e h λz d=>hc z (aJ _ d))
def eg:Ζ->Ζ->Bool
 |[],[]=>true
 |x::G,y::a=>L0 x y&&eg G a
 |_,_=>false
def Inv.tupIs(b:Inv X U I H s)(h:H a=some (.tup G)):∃c,z1 G c/\IsTup s.heap a c.toArray/\s.heap.IsTuple a c.toArray:=by
 obtain⟨c,e,d,_⟩:=b.tuple (SqT.of h);exact⟨c,e,d,d⟩
def Inv.lstIs(b:Inv X U I H s)(h:H a=some (.lst G)):∃c,z1 G c/\s.heap.IsList a c.toArray:=by
 obtain⟨c,d,e,_⟩:=b.list (SqL.of h);exact⟨c,d,e.isList⟩
open PySem.SeqAt in
section
variable{X:Cx}
structure l4(X:Cx)(st:Stmt)(t:TS):Prop where
 out:PS X st t
structure kB(X:Cx)(b:xS)(t:TS):Prop where
 out:PSs X b t
def ab4{rest:xS}{t u:TS}(b:l4 X st t)(a:kB X rest u):kB X (st::rest) (ik t u):=⟨jc b.out a.out⟩
end
def Fun.okB{k:Nat}(F:Fun K x ah st f fd)(S:bK N ps (bH st))(b:∀vs H Q E,sp vs H Q E->vs.length=ps.length)
 (h:∀(a:Value)(A:Around)(outer:xa)(s:Shared)(H:Hp)(vs:Ζ)(Q:VK)(E:XK),eN k (A.deeper (envOfC ah (bH st) s.zs f a))->sp vs H Q E ->
   ∃t,kB (Gr bc P w K mg base N ah (bH st) f a A outer s H E).nox (fP st) t/\t { nx:=λ_ H'=>Q .non H',rt:=Q } (L2.start N vs) H):fX P w K mg base bc (k+1) f fd ps sp :=
 F.ok S b λa A outer s H vs Q E c g=>let⟨t,e,d⟩:=h a A outer s H vs Q E c g;⟨t,e.out,d⟩
mutual
inductive Shows(H:Hp):V->PyData->Prop
 |non:Shows H .non .none
 |bl (b:Bool):Shows H (.bl b) (.bool b)
 |int (i:Int):Shows H (.int i) (.int i)
 |str (x:Str):Shows H (.str x) (.str x)
 |lst {a:Addr}{G:Ζ}{ds:xN} : H a=some (.lst G)->fY H G ds->Shows H (.ref a) (.list ds)
 |tup {a:Addr}{G:Ζ}{ds:xN} : H a=some (.tup G)->fY H G ds->Shows H (.ref a) (.tuple ds)
inductive fY(H:Hp):Ζ->xN->Prop
 |nil:fY H [] []
 |cons {x:V}{G:Ζ}{d:PyData}{ds:xN} : Shows H x d->fY H G ds->fY H (x::G) (d::ds)
end
mutual
theorem Shows.same{H H':Hp}(S:zO H H'){x:V}{d:PyData}(h:Shows H x d):Shows H' x d:=by
 cases h with
 |non|bl|int|str=>constructor
 |lst e h=>exact .lst (S _ _ e) (fY.same S h)
 |tup e h=>exact .tup (S _ _ e) (fY.same S h)
theorem fY.same{H H':Hp}(S:zO H H'){G:Ζ}{a:xN}(h:fY H G a):fY H' G a:=by
 cases h with
 |nil=>exact .nil
 |cons h t=>exact .cons (Shows.same S h) (fY.same S t)
end
theorem fY.ints(H:Hp):∀a:xo,fY H (a.map V.int) (a.map PyData.int)
 |[]=>.nil
 |n::a=>.cons (.int n) (fY.ints H a)
mutual
theorem Inv.reads(a:Inv X U I H s){x:V}{d:PyData}{v:Value}(h:Shows H x d)(r:z0 x v):∃j,Reads s.heap v d j:=by
 cases h with
 |non=>cases r;exact⟨_,.none⟩
 |bl b=>cases r;exact⟨_,.bool b⟩
 |int i=>obtain⟨t,rfl⟩:=r;exact⟨_,.int i t⟩
 |str x=>obtain⟨t,rfl⟩:=r;exact⟨_,.str x t⟩
 |lst e h=>cases r;obtain⟨f,c,⟨o,g,hc,n,hd⟩⟩:=a.lstIs e;obtain⟨j,q⟩:=Inv.readsAll a h c;exact⟨_,.list g hc hd q⟩
 |tup e h=>cases r;obtain⟨f,c,_,⟨o,g,hc,n,hd⟩⟩:=a.tupIs e;obtain⟨j,q⟩:=Inv.readsAll a h c;exact⟨_,.tuple g hc hd q⟩
theorem Inv.readsAll(c:Inv X U I H s){G:Ζ}{d:xN}{vs:Θ}(h:fY H G d)(r:z1 G vs):∃i,ReadsAll s.heap vs d i:=by
 cases h with
 |nil=>cases r;exact⟨_,.nil⟩
 |cons h t=>cases r with
  |cons f e=>obtain⟨a,g⟩:=Inv.reads c h f;obtain⟨b,q2⟩:=Inv.readsAll c t e;exact⟨_,.cons g q2⟩
end
def x_(a:Bool):R2:=λx y H Q=>∃d e,Shows H x d/\Shows H y e/\SeqAt.shaped d/\SeqAt.shaped e/\Q (.bl (if a then !PyData.eqv d e else PyData.eqv d e)) H
def ZA(k:X.A.units+64<cLine):OpR X (compareOp .NotEq) (x_ true):=by
 intro U s I H x y v u Q a g f h;obtain⟨d,e,hd,l,c,b,q⟩:=h;obtain⟨n,j⟩:=a.reads hd g;obtain⟨m,i⟩:=a.reads l f;exact SeqAt.compareNe_shaped j i c b k ⟨.bl _,H,a,rfl,q⟩
def PM:Ζ->Hp->VK->Prop:=λG H Q=>∃(l:Addr)(a:xo),G=[.ref l]/\H l=some (.lst (a.map V.int))/\Q (.int a.sum) H
def acB(hc:X.calm):iH X (.builtin "sum") PM:=by
 intro U s I H G Z Q a r h;obtain⟨l,i,rfl,j,q⟩:=h;obtain⟨u,rfl,g⟩:=r.one;cases g;obtain⟨b,f,p⟩:=a.lstIs j;have d:=intsAre_of f;obtain⟨G,e⟩:=d.allInts.items;have c:=d.numsOf;rw[show b=b.toArray.toList from rfl,e,nums_intItems]at c;rw[e]at p;refine sum_intListG (a.ok.hd hc) p λo m n k=>⟨.int i.sum,H,a.kept k,?_,q⟩;rw[preSum_eq,lA vz,c];exact⟨_,rfl⟩
variable{g gt:TG}{D:Ends}{tb:TS}{tl to te:TE}{ai af:Pos}{tg bj iter:Expr}{v y:V}{tc:TT}{wi:TI}{ext:Addr->xn}{fn:Str->Bool}{aE:xb}{o:xI}{u:Value}{kvs:xA}
def acZ(h:tl I H λx Y=>∃a G,x=.ref a/\Y a=some (.lst G)/\∃J:Nat->L2.St->Hp->Prop,J 0 I Y /\
   (∀k x b H',G[k]?=some x->J k b H'->H' a=some (.lst G)->g x b H' λi w=>tb { D with nx:=λc d=>d a=some (.lst G)/\J (k+1) c d,ct:=λc d=>d a=some (.lst G)/\J (k+1) c d,bk:=D.nx } i w) /\
   ∀b H',J G.length b H'->H' a=some (.lst G)->D.nx b H')(s:∀(P Q:V->Hp->Prop),(∀x H',P x H'->Q x H')->tl I H P->tl I H Q):kN (Wq K tl) g tb D I H:=by
 refine s _ _ ?_ h;rintro x Y ⟨a,G,rfl,l,J,r,step,v⟩;refine⟨a,rfl,⟨G,.of l⟩,λk m b H'=>k<=G.length/\m=G.length-k/\H' a=some (.lst G)/\J k b H',⟨_,aZ _,rfl,l,r⟩,?_⟩;rintro k m b H' ⟨t,rfl,f,j⟩;by_cases e:k=G.length
 .subst e;exact .inl ⟨⟨G,.of f,aG _⟩,v b H' j f⟩
 .have n:k<G.length:=by exact XX t e
  have u:G[k]?=some G[k]:=aj n;refine .inr ⟨⟨G,_,.of f,u⟩,λc d=>d a=some (.lst G)/\J (k+1) c d,λc d ⟨p,o⟩=>⟨G.length-(k+1),by omega,by exact n,rfl,p,o⟩,?_⟩;rintro x q ⟨rfl,y⟩;exact step k x b q (y G (.of f)) j f
def tM(t:TE):TE:=λI H Q=>∃R:VK,t I H R/\∀x H',R x H'->Q x H'
def rk(t:TA):TA:=λI H Q=>∃R:Ζ->Hp->Prop,t I H R/\∀x H',R x H'->Q x H'
def PE.mono{a:Expr}{t:TE}(h:PE X a t):PE X a (tM t):=λU s I H Q b ⟨R,e,d⟩ =>
 ap (h U s I H R b e) λv g c=>by obtain⟨x,H',f,r,q⟩:=c;exact⟨x,H',f,r,d x H' q⟩
def PA.mono{t:TA}(h:PA X es t):PA X es (rk t):=λO U s I H Q a ⟨R,d,c⟩ =>
 ap (h O U s I H R a d) λv f b=>by obtain⟨x,H',e,r,q⟩:=b;exact⟨x,H',e,r,c x H' q⟩
def PE.imp{a:Expr}{t c:TE}(h:PE X a t)(i:∀I H Q,c I H Q->t I H Q):PE X a c:=λU s I H Q b q=>h U s I H Q b (i I H Q q)
def PZ{t:TE}{Q:VK}(h:t I H Q):tM t I H Q:=⟨Q,h,λ_ _ q=>q⟩
def Mg(h:tl I H λx Y=>∃a G,x=.ref a/\Y a=some (.lst G)/\∃J:Nat->L2.St->Hp->Prop,J 0 I Y /\
   (∀k x c H',G[k]?=some x->J k c H'->H' a=some (.lst G)->g x c H' λf l=>tb { D with nx:=λd e=>e a=some (.lst G)/\J (k+1) d e,ct:=λd e=>e a=some (.lst G)/\J (k+1) d e,bk:=D.nx } f l) /\
   ∀c H',J G.length c H'->H' a=some (.lst G)->D.nx c H'):kN (Wq K (tM tl)) g tb D I H :=
 acZ (PZ h) λ_ _ i j=>by obtain⟨R,a,b⟩:=j;exact⟨R,a,λx H' q=>i x H' (b x H' q)⟩
def Oy(to:TE)(t:TA):TE:=λI H Q=>to I H λx Y=>∃l G,x=.ref l/\Y l=some (.lst G)/\t I Y λvs b=>∃y a,vs=[y]/\b l=some (.lst a)/\a.length<sizeLine/\Q .non (upd b l (.lst (a++[y])))
abbrev zo(X:Cx)(a:Pos)(e:Expr):Prop:=((backTo a (starEach [e] X.env)).all (λx=>!x.1)&&(backToKw a (keywordEach [] X.env)).all (λx=>x.1.isSome)&&decide ([e].length+([] : wr).length+(if([] : wr).isEmpty then 0 else 1)<30))=true
def CV{o:Expr}{t:TA}(i:PE X o to)(n:PA X [e] t)(m:‹attributeBase o "append" X.env (eval o X.env)=eval o X.env›)
 (k:‹zo X af e›)
 (j:‹zC ai af›)(f:‹zw X e []›)(g:‹zg X af []›) :
  PE X (.Call (.Attribute o "append" ai) [e] [] af) (Oy to t):=by
 refine(o9 PySem.F.plainAttrs_list PySem.F.slot_list_append PySem.F.type_list_append P0 i.mono n.mono m k j f g).imp λI H Q h=>?_;refine⟨_,h,?_⟩;rintro x Y ⟨l,G,rfl,d,p⟩;refine⟨.inl ⟨rfl,_,SqL.of d⟩,_,p,?_⟩;rintro vs r ⟨y,a,rfl,c,b,q⟩;exact⟨l,a,y,rfl,rfl,c,b,q⟩
def Vc:Ζ->Hp->VK->Prop:=λG H Q=>∃p a,G=[.ref p]/\H p=some (.lst a)/\∀l,H l=none->Q (.ref l) (upd H l (.lst a))
def C_:iH X (.type "list") Vc:=Vt.imp λG H Q e=>by obtain⟨p,d,a,b,c⟩:=e;exact⟨p,d,a,.inl (.of b),c⟩
mutual
theorem Zc:∀a:xo,PyData.canLayAll0 (a.map PyData.int)
 |[]=>rfl
 |n::a=>by
  rw[map_cons];unfold PyData.canLayAll0;rw[Zc a];rfl
end
inductive FL(H:Hp):Ζ->Γ->Prop
 |nil:FL H [] []
 |cons {p:Addr}{f:Β}{G:Ζ}{fs:Γ} : H p=some (.tup [.int f.1,.int f.2])->FL H G fs->FL H (.ref p::G) (f::fs)
def l_(x:Str):It:=⟨λi _=>i<x.cps.size,λi H v H'=>H'=H/\∃c,x.cps[i]?=some c/\v=.str ⟨#[c]⟩,λi _=>i=x.cps.size⟩
def Yt(d:Addr)(x:Str)(t:Tok)(l:String)(R : ["enumerate","zip","dict_itemiterator","dict_reverseitemiterator","odict_iterator","itertools.zip_longest","itertools.pairwise"].contains l=false)
 (W:∀A:Around,A.handled=none->Walks P w A d [d] [d] x.cps.size (SignAt x) (λi h=>h.IsStrIter d l x t i))
 (O:∀(A:Around)(i:Nat)(s:Shared)(Q:Ε)(E:Ε),s.heap.IsStrIter d l x t i->Q (.ref d) s->wpAny (model P w) A (pyIter (.ref d)) Q E s):Turn P w K tg (l_ x) [d] d (λi h=>h.IsStrIter d l x t i) where
 mem:=by simp
 obj:=λi h st b f=>by
  have e:b=d:=by simpa using f
  subst e;obtain⟨o,g,_,hd⟩:=st;exact⟨o,g,λv z=>by rw[hd]at z;cases z⟩
 keep:=λi h n st k=>let⟨o,g,r⟩:=st;⟨o,k d vz o g,r⟩
 item:=by
  intro X B hw C hc i U s I H E a m st y;subst B hw C;obtain⟨L,J,Y,G,F,D⟩:=m d vz;refine(W X.A (a.ok.hd hc)).item i s _ _ y st λv n p T M q=>?_;obtain⟨c,u,S,rfl⟩:=T;have Z:Inv X U I H { s with heap:=n,toks:=p }:=a.turned (λb o f e=>q b o (by simpa using f) e) L J G F D;obtain⟨o,g,V,hd⟩:=id M;exact⟨_,rfl,Wm (s:={ s with heap:=n,toks:=p }) g V hd R ⟨.str ⟨#[c]⟩,H,Z,⟨u,rfl⟩,⟨rfl,c,S,rfl⟩,M,λb f=>(m b f).1⟩⟩
 done:=by
  intro X B hw C hc i U s I H E a m st y;subst B hw C;obtain⟨L,J,Y,G,F,D⟩:=m d vz;have N:i=x.cps.size:=y;subst N;exact(W X.A (a.ok.hd hc)).done s _ _ st λn p q=>⟨rfl,a.turned (λb o f e=>q b o (by simpa using f) e) L J G F D⟩
 self:=O
def M0(te:TE):TI:=λI H R=>te I H λv Y=>∃x,v=.str x/\R (l_ x) Y
def X'{l:Expr}(p:PE X l tl):PI X tg l (M0 tl):=by
 intro U s I H R a h;refine ap (p U s I H _ a h) λv c u=>?_;obtain⟨x,Y,f,n,y,w,q⟩:=u;subst w;obtain⟨t,rfl⟩:=n;have m:∀b∈[c.zs],Jh X U Y b:=λb r=>by
  have e:b=c.zs:=by simpa using r
  subst e;exact f.fpOk (aG _) (f.hok.fresh (aG _))
 have k:∀o:Obj,Inv X U I Y { c with heap:=c.heap.push o }:=λo=>f.kept (t':=c.toks) λb B z=>aH _ z;cases j:y.cps.all (· < 128)
 .exact wpAny_pyIter_wide j ⟨c.zs,[c.zs],_,l_ y,Y,rfl,k _,Yt _ y t "str_iterator" wP (λA d=>Walks.strWide d _ y t) (λA i s Q E st h=>wpAny_pyIter_striter_wide st h),⟨_,aW _ rfl,rfl,rfl⟩,m,q⟩
 .exact wpAny_pyIter_ascii j ⟨c.zs,[c.zs],_,l_ y,Y,rfl,k _,Yt _ y t "str_ascii_iterator" wP (λA d=>Walks.strAscii d _ y t) (λA i s Q E st h=>wpAny_pyIter_striter_ascii st h),⟨_,aW _ rfl,rfl,rfl⟩,m,q⟩
def Ju(x:Str)(lo a:xh):Str:=⟨((x.cps.toList.drop (HT.sIx x.length 0 lo)).take (HT.sIx x.length x.length a-HT.sIx x.length 0 lo)).toArray⟩
def strIdx(lo a:xh)(n:Nat):Builtin.Str.strSliceIndices lo a 1 n=(range (HT.sIx n n a-HT.sIx n 0 lo)).map (HT.sIx n 0 lo + ·):=by
 rw[<- sliceRange_one];unfold Builtin.Str.strSliceIndices;have b:∀(o:xh)(d:Nat),d<=n->(match o with
   |none=>(d:Int)
   |some i=>(let i:=if i<0 then i+(n:Int)else i;if(1:Int)>0 then max 0 (min i n)else max (-1) (min i (n-1))))=((HT.sIx n d o:Nat):Int):=by
  intro o d hd;cases o with
  |none=>rfl
  |some i =>
   simp only[HT.sIx,show(1:Int)>0 by decide,if_true];by_cases h:i<0
   .simp only[h,if_true]<;>lia
   .simp only[h,if_false]<;>lia
 have e:=b lo 0 (aZ _);have c:=b a n (aG _);simp only[show(1:Int)>0 by decide,if_true]at e c ⊢;rw[<- e,<- c]
 rfl
def ag3(x:Str)(lo a:xh):(⟨((Builtin.Str.strSliceIndices lo a 1 x.length).filterMap (x.cps[·]?)).toArray⟩ : Str)=Ju x lo a:=by
 rw[strIdx,pick_run];rfl
def YM(x:Str)(lo a:xh)(h:(Builtin.Str.strSliceIndices lo a 1 x.length).length=x.length):Ju x lo a=x:=by
 rw[strIdx,ak,W1]at h;have d:=HT.alf x.length x.length (aG _) a;unfold Ju;have b:x.length=x.cps.size:=rfl;have e:x.cps.toList.length=x.length:=by simp[b]
 by_cases z:x.length=0
 .have:x.cps.toList=[]:=List.length_eq_zero_iff.mp (Eq.trans e z);rw[this];obtain⟨⟨l⟩⟩:=x;simp at this;subst this;simp
 .have c:HT.sIx x.length 0 lo=0:=by lia
  rw[c,drop_zero,lA wE]
def L9:V->xh->xh->Hp->VK->Prop:=λx lo a H Q=>∃y,x=.str y/\y.length<=sizeLine/\Q (.str (Ju y lo a)) H
def part_of{v:Value}{o:xh}(h:IsPart v o):∃l:Option (Int×Tok),v=partValue l/\l.map (·.1)=o:=by
 cases h with
 |none=>exact⟨none,rfl,rfl⟩
 |int i t=>exact⟨some (i,t),rfl,rfl⟩
def XA{X:Cx} : SlR X L9:=by
 intro U s I H x v p o lo b r Q a d k g f h;obtain⟨y,rfl,i,q⟩:=h;obtain⟨t,rfl⟩:=d;obtain⟨l,rfl,n⟩:=part_of g;obtain⟨u,rfl,m⟩:=part_of f;refine⟨"str",_,F.slot_str_getitem.lookup,typeIs_str s y t,wpAny_getItem_str_slice (l:=l) (u:=u) (st:=none) k rfl ?_⟩;unfold sliceMade slicePicked;rw[n,m];split
 .rename_i j
  have c:=(Bool.and_eq_true_iff.mp j).2;rw[beq_iff_eq]at c;have e:=YM y lo b c;rw[e]at q;exact⟨.str y,H,a,⟨t,rfl⟩,q⟩
 .have e:=ag3 y lo b;refine⟨?_,.str (Ju y lo b),H,a.tok _,⟨s.toks,?_⟩,q⟩
  .refine aL ?_ i;refine aL (WH (ZH Str.length e)) ?_;show((y.cps.toList.drop _).take _).toArray.size<=y.cps.size;rw[aX,aY,U2,Array.length_toList];lia
  .rw[<- e];rfl
def RC:R2:=λx y H Q=>∃i j,x=.str i/\y=.str j/\i.length+j.length<=sizeLine/\Q (.str (i++j)) H
def _u:OpR X (binaryOp .Add) RC:=aam
def MA:R2:=λx y H Q=>∃i j,x=.str i/\y=.str j/\Q (.bl (!decide (j.cps.toList<i.cps.toList))) H
def SF:OpR X (compareOp .LtE) MA:=by
 intro U s I H x y v u Q a c b h;obtain⟨i,j,rfl,rfl,q⟩:=h;obtain⟨t,rfl⟩:=c;obtain⟨d,rfl⟩:=b;exact PySem.P.le_str (dY a q rfl)
def OpR.imp{f:Value->Value->Sem Value}{r b:R2}(h:OpR X f r)(i:∀x y H Q,b x y H Q->r x y H Q):OpR X f b:=λU s I H x y v u Q a d c q=>h U s I H x y v u Q a d c (i _ _ _ _ q)
theorem G5:∀{a:wn}{Z:Θ},z1 (a.map V.bl) Z->∀(i:Nat)(v:Value),Z[i]?=some v->∃b,a[i]?=some b/\v=.bool b
 |[],_,.nil,i,v,h=>by cases i<;>cases h
 |b::a,_,.cons r t,0,v,h=>by
  rw[List.getElem?_cons_zero]at h;cases h;exact⟨b,rfl,r⟩
 |b::a,_,.cons r t,i+1,v,h=>by
  rw[List.getElem?_cons_succ]at h;exact G5 t i v h
def X_:Ζ->Hp->VK->Prop:=λG H Q=>∃(l:Addr)(a:wn),G=[.ref l]/\H l=some (.lst (a.map V.bl))/\Q (.bl (a.all id)) H
theorem wR:∀a:wn,((range a.length).all λi=>(a[i]?).getD true)=a.all id
 |[]=>rfl
 |b::a=>by
  rw[length_cons,List.range_succ_eq_map,all_cons,all_map,all_cons];have:=wR a;simp only[Function.comp_def,List.getElem?_cons_succ,List.getElem?_cons_zero,getD_some,id]at this ⊢;rw[this]
def Hu(hc:X.calm):iH X (.builtin "all") X_:=by
 intro U s I H G Z Q a r h;obtain⟨l,d,rfl,n,q⟩:=h;obtain⟨u,rfl,k⟩:=r.one;cases k;obtain⟨c,f,p⟩:=a.lstIs n;have x:l<s.zs:=by obtain⟨_,e,_⟩:=p;exact aK e
 refine call_all_walk (wpAny_pyIter_list p ?_);refine⟨s.zs,[s.zs,l],[s.zs],c.toArray.size,_,_,λi=>(d[i]?).getD true,rfl,Walks.list (A:=X.A.in1) (a.ok.hd hc) _ l (aQ x) c.toArray,
  ⟨⟨_,aW _ rfl,rfl,rfl⟩,p.push _⟩,λi v y B C w g=>?_,λz j t=>?_⟩
 .obtain⟨b,e,rfl⟩:=G5 f i v (by simpa using w);simp only[e,getD_some]at g;exact wpAny_truthy_bool g
 .have e:((range c.toArray.size).all λi=>(d[i]?).getD true)=d.all id:=by
   rw[aX,<- f.length,ak];exact wR d
  refine⟨.bl (d.all id),H,a.kept (t':=j) λb o q=>t b o (λm=>?_) (aH _ q),?_,q⟩
  .rw[YR.mp m]at q;exact Wp _ (aK q)
  .rw[e];rfl
def KL(r:V->Ζ->Hp->VK->Prop)(to:TE)(t:TA):TE:=λI H Q=>to I H λx Y=>(∃y,x=.str y)/\t I Y λvs a=>r x vs a Q
def Rq{o:Expr}{t:TA}{a:Str}{id:String}{r:V->Ζ->Hp->VK->Prop}(slot:Slot "str" a id)(b:typeOf (.builtin id)=pure (.type "method_descriptor"))(g:jY X id r)(f:PE X o to)(l:PA X [e] t)
 (k:‹zt X o a›)
 (j:‹zo X af e›)
 (i:‹zC ai af›)(c:‹zw X e []›)(d:‹zg X af []›) :
  PE X (.Call (.Attribute o a ai) [e] [] af) (KL r to t):=by
 refine(o9 PySem.F.plainAttrs_str slot b g f.mono l k j i c d).imp λI H Q h=>?_;refine⟨_,h,?_⟩;rintro x Y ⟨⟨y,rfl⟩,m⟩;exact⟨rfl,m⟩
def afD(b:Gl X x)(a:∃u,X.mg x=some u/\z0 v u)(hd:autoParam (zz x) zP4):PE X (.Name x O) (tC v):=by
 obtain⟨u,d,c⟩:=a;exact IA b d c hd
def ae4{t:TS}(a:l4 X st t):kB X [st] t:=⟨jj a.out⟩
def hid(y:Str):Str:=Str.ofString "?"++y
def Qh(G:Φ)(N:Φ):Φ:=N.map λy=>if y∈G then hid y else y
def Cx.compG(X:Cx)(a:Φ)(J:Scope)(G:Φ)(C:Addr)(s₀:Shared)(H₀:Hp)(ex:Ψ)(pn:Δ):Cx :=
 { X with env:=compEnvC J (xg X.env.cells J.names []) C X.env,N:=G++a,s₀:=s₀,H₀:=H₀,outer:=X.stack,ex:=ex,fn:=λ_=>false,pn:=pn,xe:=λ_ _=>False }
def PTs(X:Cx)(aE:xb)(tc:TT):Prop:=∀(U:Δ)(s:Shared)(I:L2.St)(H:Hp)(Q:Bool->Hp->Prop),Inv X U I H s->tc I H Q ->
 wpAny (model X.prog X.w) X.A (forIn aE true λc r=>if r=true then do let d <- isTrue c X.env (eval c X.env);pure (ForInStep.yield d)else pure (ForInStep.yield r)) (λb a=>∃H',Inv X U I H' a/\Q b H') X.xe s
def oa:TT:=λ_ H Q=>Q true H
def Rn{X:Cx} : PTs X [] oa:=λ_ _ _ H _ I q=>wpAny_tests_nil ⟨H,I,q⟩
def ag6{X:Cx}{c:Expr}(h:PT X c tc):PTs X [c] tc:=λU s I H Q a q=>wpAny_tests_one (h U s I H Q a q)
def oX(wi:TI)(n:Nat)(gt:TG)(tc:TT)(te:TE):TE:=λI H Q=>wi I H λJ Y=>∀D,Y D=none->∃W:Nat->Nat->Ζ->Hp->Prop,(∃m,W 0 m [] (upd Y D (.lst [])))/\∀i m c f,W i m c f ->
 (J.stop i f/\Q (.ref D) f)\/(J.go i f/\∀x H',J.yld i f x H'->∀d:L2.St,d.length=n->gt x (d++I) H' λa k=>∃g:L2.St,g.length=n/\a=g++I/\tc a k λb j =>
  match b with
  |true=>te a j λy h=>c.length<sizeLine/\h D=some (.lst c)/\∃e,e<m/\W (i+1) e (c++[y]) (upd h D (.lst (c++[y])))
  |false=>∃e,e<m/\W (i+1) e c j)
def Cx.compE(X:Cx)(ext:Addr->xn)(fn:Str->Bool)(a:Φ)(J:Scope)(G:Φ)(C:Addr)(s₀:Shared)(H₀:Hp)(ex:Ψ)(pn:Δ):Cx :=
 { X with env:=compEnvC J (ext C++xg X.env.cells J.names []) C X.env,N:=G++a,s₀:=s₀,H₀:=H₀,outer:=X.stack,ex:=ex,fn:=fn,pn:=pn,xe:=λ_ _=>False }
structure X5(X:Cx)(J:Scope)(G:Φ)(ext:Addr->xn)(fn:Str->Bool):Prop where
 new:∀{M:Model}{A:Around}{E:Ε}{s:Shared}{globals:Addr}{b9:xn}{ah:Str}{outer:Env}{Q:Env->Shared->Prop},(∀g,g.Ns s.zs (λx=>([] : xB).reverse.lookup x)->(∀y c,(ext s.zs).lookup y=some c->g.IsCell c none)->(∀b o,s.heap.get? b=some o->g.get? b=some o)->Q (newEnv J s.zs globals (ext s.zs++b9) ah none .none (some outer) builtinsNs) { s with heap:=g,toks:=s.toks+([] : xB).length }) ->
  wpAny M A (newFunctionEnv J globals b9 [] ah none .none (some outer)) Q E s
 up:∀C y c,(ext C).lookup y=some c->C<c
 one:∀C y z c,(ext C).lookup y=some c->(ext C).lookup z=some c->y=z
 nw:∀C y,fn y->∃c,(ext C).lookup y=some c
 off:∀C y,y∉G->(ext C).lookup y=none
 kd:∀C y,((relabel J X.env).names.lookup y=some .cell\/(relabel J X.env).names.lookup y=some .free)->(∃c,(ext C).lookup y=some c)\/(y,NameKind.free)∈J.names
def AK{X:Cx}{G:Φ}(f:J.kind=.function)(c:∀y∈J.names,y.2≠.cell):X5 X J G (λ_=>[]) (λ_=>false) :=
 ⟨λh=>wpAny_newFunctionEnv c (by intro y d;simp at d) (λg i a=>h g i (λ_ _ z=>(nomatch z)) λb o e=>(a.2 b (aQ (aK e))).trans (aH _ e)) f,λ_ _ _ z=>(nomatch z),λ_ _ _ _ z=>(nomatch z),λ_ _ z=>(nomatch z),λ_ _ _=>rfl,λ_ _ e=>.inr (Gb e c)⟩
def QL{use:Option (Value->Sem Unit)}{post:Ε}{Qv:VK}{pp:Pos}{G N':Φ}(E:X5 X J G ext fn)(hc:X.calm)(im:Qh G X.N=N')(c9:J.kind=.function)(dm:∀y∈J.names,y.2=.local->J.names.lookup y.1=some .local)
 (cS:∀y∈J.names,y.2=.free->X.env.kindOf y.1=some .cell\/X.env.kindOf y.1=some .free)(gi:∀y∈X.N,y∉G->(relabel J X.env).names.lookup y≠some .local)(hq:∀y∈X.N,y∈G->(relabel J X.env).names.lookup (hid y)=none)(hi:PI X tg iter wi)
 (hg:∀C x F ex pn,PG (X.compE ext fn N' J G C x F ex pn) tg gt)(ht:∀C x F ex pn,PTs (X.compE ext fn N' J G C x F ex pn) aE tc)(he:∀C x F ex pn,PE (X.compE ext fn N' J G C x F ex pn) bj te)(hs:zh X iter)(f:Inv X U I H s)(h:oX wi G.length gt tc te I H Qv)
 (t9:∀(C D:Addr)(l:Hp)(s6:Shared)(m:Str->Ω)(fl:Flow),s6.heap.Ns C m->Inv X U I l s6->Jh X U l C->Qv (.ref D) l->compPost (model X.prog X.w) X.A X.xe use post (.ref D) C (.ok fl) s6) :
  wpAny (model X.prog X.w) X.A (comprehension (.ListComp bj [⟨tg,iter,aE,0⟩] J O) J X.env pp (newList []) false (eval iter X.env) use) post X.xe s:=by
 have eR:∀y∈J.names,y.2=.free->∃c,X.env.cells.lookup y.1=some c:=λy hy e=>f.ok.has y.1 (cS y hy e);refine wpAny_comprehension_free (use:=use) (Q:=post) rfl hs (Zf eR) c9 dm (ap (hi U s I H _ f h) λv s1 h1=>ap h1 λqh B h2=>?_);obtain⟨it,V,tn,a,H2,e,I2,T,hZ,f2,R⟩:=h2;subst e;have nD:H2 B.zs=none:=I2.hok.fresh (aG _);obtain⟨W,⟨m0,w0⟩,fN⟩:=R B.zs nD;refine wpAny_newObj_type ?_ (by show 0<=sizeLine;exact aZ _);have t:Inv X U I (upd H2 B.zs (.lst [])) { B with heap:=B.heap.push { cls:=.type "list",dict:=none,data:=.seq ([] : Θ).toArray } }:=I2.lnew (t':=B.toks) (ys:=[]) (its:=[]) .nil (aZ _);have pc:∀b o,B.heap.get? b=some o->(B.heap.push { cls:=.type "list",dict:=none,data:=.seq ([] : Θ).toArray }).get? b=some o:=λb o e=>aH _ e;generalize hs3:({ B with heap:=B.heap.push { cls:=.type "list",dict:=none,data:=.seq ([] : Θ).toArray } } : Shared)=s3 at t ⊢;have j':tn 0 s3.heap:=T.keep _ _ _ hZ λb _ o e=>by rw[<- hs3];exact pc b o e
 generalize hH3:upd H2 B.zs (.lst [])=H3 at t w0;have f3:∀b∈V,Jh X U H3 b:=λb k=>by
  obtain⟨a1,a2⟩:=f2 b k;refine⟨?_,a2⟩;obtain⟨o,e,_⟩:=T.obj _ _ hZ b k;rwa[<- hH3,bR (aQ (aK e))]
 refine E.new λg fg fh kg=>?_;have clm:∀{y:Str}{c:Addr},(xg X.env.cells J.names []).lookup y=some c->X.env.cells.lookup y=some c:=λ{y c}e=>by
  rcases XH eR (PySem.mem_of_lookup e)with z|z
  .cases z
  .exact z
 have ii:∀{y:Str},(ext s3.zs).lookup y=none->((relabel J X.env).names.lookup y=some .cell\/(relabel J X.env).names.lookup y=some .free)->(X.env.kindOf y=some .cell\/X.env.kindOf y=some .free)/\∃c,(ext s3.zs++xg X.env.cells J.names []).lookup y=some c/\X.env.cells.lookup y=some c:=λ{y}ny e=>by
  rcases E.kd s3.zs y e with⟨c,z⟩|z
  .rw[ny]at z;cases z
  .obtain⟨c,eC⟩:=X8 (cells:=X.env.cells) (acc:=[]) (.inl z);obtain⟨c,eC⟩:=qZ eC;exact⟨cS _ z rfl,c,by rw[lookup_append,ny];exact eC,clm eC⟩
 have mf:∀{y:Str}{c:Addr},(ext s3.zs++xg X.env.cells J.names []).lookup y=some c->(ext s3.zs).lookup y=some c\/X.env.cells.lookup y=some c:=λ{y c}e=>by
  rw[lookup_append]at e;cases hy:(ext s3.zs).lookup y with
  |some d=>rw[hy]at e;exact .inl e
  |none=>rw[hy]at e;exact .inr (clm e)
 have cll:∀{y z c},(ext s3.zs).lookup z=some c->¬X.env.cells.lookup y=some c:=λ{y z c}S e=>by
  obtain⟨v,o,h1,_⟩:=t.cell y c e;exact Wp _ (UK (aK h1) (E.up _ _ _ S))
 have pS:∀b∈V,b<s3.zs:=λb k=>by
  obtain⟨o,e,_⟩:=T.obj _ _ j' b k;exact aK e
 have nst:∀b∈V,b∉cp X.stack:=λb k=>t.nostk' (f3 b k).2.1 (f3 b k).2.2.1;have cfp:∀b∈V,∀y c,(ext s3.zs++xg X.env.cells J.names []).lookup y=some c->c≠b:=λb k y c e=>by
  rcases mf e with z|z
  .exact UY (UK (pS b k) (E.up _ _ _ z))
  .exact(f3 b k).2.2.2.2.1 y c z
 generalize hX:X.compE ext fn N' J G s3.zs s3 H3 V (X.pn++U)=Y;have ok':Y.Ok:=by
  subst hX;exact⟨t.ok.mod,c9,t.ok.glob,t.ok.blt,aG _,λy z c h1 h2=>by
    rcases mf h1 with S|S<;>rcases mf h2 with e2|e2
    .exact E.one _ _ _ _ S e2
    .exact absurd e2 (cll S)
    .exact absurd S (cll e2)
    .exact t.ok.inj y z c S e2,λy hy=>by
    cases hz:(ext s3.zs).lookup y with
    |some c=>exact⟨c,List.lookup_append.trans (by rw[hz];rfl)⟩
    |none=>exact let⟨_,c,q,_⟩:=ii hz hy;⟨c,q⟩,λy c lv e=>by
    obtain⟨d,z⟩:=E.nw s3.zs y lv;have e:(ext s3.zs++xg X.env.cells J.names []).lookup y=some c:=e;rw[lookup_append,z]at e;cases e;exact Y2 (E.up _ _ _ z),t.ok.hd,t.ok.frames,.inl rfl,
   λb k=>⟨aQ (pS b k),cfp b k⟩,t.bs,aL t.ok.bsz t.sz,λb o e k=>by
    rcases(f3 b k).2.2.2.1 with z|z
    .exact t.ok.noex b o e z
    .exact absurd (aR (aR (aK e) t.ok.bsz) z) (Wp _),nst,t.stack,t.stkFree⟩
 have J4:∀tk,Inv Y [] (replicate G.length none++I) H3 { s3 with heap:=g,toks:=tk }:=λtk=>by
  subst hX;refine⟨ok',rfl,t.bare,Un.kept kg,⟨_,fg,λi y v S e2 e3=>?_⟩,λy c e=>?_,t.hok.fresh (aG _),λy c e=>(mf e).elim (λz=>t.hok.fresh (Y2 (E.up _ _ _ z))) (t.freeC y c),λp hp=>?_,t.hok.kept kg,?_⟩
  .by_cases lh:i<G.length
   .rw[aF (by rwa[aN]),X1,ZY lh]at e2;cases e2
   .obtain⟨j,rfl⟩ : ∃j,i=G.length+j:=⟨i-G.length,by lia⟩;have e0:N'[j]?=some y:=by
     have S:(G++N')[G.length+j]?=some y:=S;rw[aD (X9 _ _)]at S;rw[show G.length+j-G.length=j by exact QQ _ _]at S;exact S
    have nN:I[j]?=some (some v):=by
     rw[aD (by rw[aN];exact X9 _ _),aN]at e2;rw[show G.length+j-G.length=j by exact QQ _ _]at e2;exact e2
    rw[<- im]at e0;obtain⟨M,kz,ey⟩ : ∃M,X.N[j]?=some M/\(if M∈G then hid M else M)=y:=by
     unfold Qh at e0;rw[aq]at e0;cases hz:X.N[j]? with
     |none=>rw[hz]at e0;cases e0
     |some M=>rw[hz]at e0;exact⟨M,rfl,Option.some.inj e0⟩
    have e3:(relabel J X.env).names.lookup y=some .local\/(relabel J X.env).names.lookup y=some .cell\/(relabel J X.env).names.lookup y=some .free:=e3;have ne:¬M∈G:=λz=>by
     rw[ZY z]at ey;subst ey;rw[hq M (aC kz) z]at e3;rcases e3 with z|z|z<;>cases z
    rw[ZZ ne]at ey;subst ey;have nK:(relabel J X.env).names.lookup M=some .cell\/(relabel J X.env).names.lookup M=some .free:=by
     rcases e3 with z|z
     .exact absurd z (gi M (aC kz) ne)
     .exact z
    obtain⟨kd,c,fh,g6⟩:=ii (E.off _ _ ne) nK;obtain⟨m,_,hl⟩:=t.loc;obtain⟨u,r,lk⟩:=hl j M v kz nN (.inr kd);refine⟨u,r,.inr ⟨nK,c,fh,?_⟩⟩;rcases lk with⟨k1,_⟩|⟨_,c',q1,o,q2,q3⟩
    .exfalso;have k1':X.env.kindOf M=some .local:=k1;rcases kd with k2|k2<;>rw[k1']at k2<;>cases k2
    .rw[g6]at q1;cases q1;exact⟨o,kg _ _ q2,q3⟩
  .rcases mf e with z|z
   .exact⟨none,fh y c z⟩
   .obtain⟨v,o,q2,q3⟩:=t.cell y c z;exact⟨v,o,kg _ _ q2,q3⟩
  .have eh:p∈X.pn++U:=by simpa[Cx.compE]using hp
   obtain⟨a1,a2,a3,a4,a5⟩:=t.pin p eh;exact⟨kg _ _ a1,a2,aQ (aK a1),t.nostk' a3 a4,a5⟩
  .show(replicate G.length none++I).length=(G++N').length;have iA:N'.length=X.N.length:=by rw[<- im];unfold Qh;rw[ak]
   rw[aA,aN,aA,t.len,iA]
 have tJ:∀{l:Hp},(∀b∈V,l b=none)->∀b∈V,Jh Y [] l b:=λ{l}hn b k=>by
  subst hX;exact⟨hn b k,aQ (pS b k),nst b k,.inl k,cfp b k,λp hp=>(f3 b k).2.2.2.2.2 p (by simpa[Cx.compE]using hp)⟩
 have i7:∀s4:Shared,s4={ s3 with heap:=g,toks:=s3.toks+([] : xB).length } ->
   codeAny (model X.prog X.w) X.A (.compLoop (.ListComp bj [⟨tg,iter,aE,0⟩] J O) 0 (.ref it) (.ref B.zs) Y.env) (compPost (model X.prog X.w) X.A X.xe use post (.ref B.zs) s3.zs) s4:=by
  rintro s4 rfl;have YP:Y.prog=X.prog/\Y.w=X.w/\Y.K=X.K/\Y.calm=X.calm/\Y.A=X.A/\Y.env.locals=s3.zs:=by subst hX;exact⟨rfl,rfl,rfl,rfl,rfl,rfl⟩
  obtain⟨y1,y2,y3,y4,y5,y6⟩:=YP;have he':PE Y bj te:=by subst hX;exact he _ _ _ _ _
  have si:PG Y tg gt:=by subst hX;exact hg _ _ _ _ _
  have ht':PTs Y aE tc:=by subst hX;exact ht _ _ _ _ _
  have mi:Y.xe=λ_ _=>False:=by subst hX;rfl
  have yb:∀{l:Hp}{L:L2.St}{pn:Δ}{s':Shared},Inv Y pn L l s'->Un (cp X.stack) V H3 l s3.heap s'.heap:=λ{l L pn s'}Z=>by
   have:=Z.base;subst hX;exact this
  have yos:∀{l:Hp}{L:L2.St}{pn:Δ}{s':Shared},Inv Y pn L l s'->s'.os=s3.os:=λ{l L pn s'}Z=>by
   have:=Z.os;subst hX;exact this
  refine codeAny_loop rfl (λn s'=>∃i ys l,∃L:L2.St,L.length=G.length/\Inv Y [] (L++I) l s'/\tn i s'.heap/\(∀b∈V,l b=none)/\W i n ys l) (λn s5 hI=>?_) m0 ⟨0,[],H3,replicate G.length none,aN,J4 _,T.keep _ _ _ j' λb _ o e=>kg b o e,λb k=>(f3 b k).1,w0⟩;obtain⟨i,ys,l,L,m3,Z,stc,frc,wc⟩:=hI;show wpAny _ _ ((compTurn (.ListComp bj [⟨tg,iter,aE,0⟩] J O) 0 (.ref it) (.ref B.zs) Y.env).onRaise (λz=>do noteFrame z Y.env;theTreesLotGoes z)) _ _ s5;refine wpAny_noted (wpAny_noRaise ?_);rw[compTurn_list];show wpAny (model X.prog X.w) X.A _ _ _ _;rcases fN i n ys l wc with⟨stop,qn⟩|⟨go,step⟩
  .have hd:=T.done Y y1 y2 y3 (y4.trans hc) i [] s5 (L++I) l (λ_ _=>False) Z (tJ frc) stc stop;rw[y5]at hd;refine ZU (wpAny_standAt (ZU (ap hd λr s6 P=>?_)));obtain⟨hr,Z6⟩:=P;subst hr;refine ZT ?_;obtain⟨m,k6,_⟩:=Z6.loc;rw[y6]at k6;have u6:=yb Z6;have hok:HOk X.prog X.w l s6.heap:=by
    have z:=Z6.hok;rw[y1,y2]at z;exact z
   have cn:l s3.zs=none:=by
    have z:=Z6.free;rw[y6]at z;exact z
   have I6:Inv X U I l s6:=t.call' (s':=s6) (ch:=V) (yos Z6) u6 hok Z6.bare λb k=>⟨(f3 b k).2.2.2.1,(f3 b k).2.1,(f3 b k).2.2.2.2.1,(f3 b k).2.2.2.2.2⟩;have fC:Jh X U l s3.zs:=t.fpOk (aG _) cn;exact t9 _ _ l s6 m _ k6 I6 fC qn
  .have hd:=T.item Y y1 y2 y3 (y4.trans hc) i [] s5 (L++I) l (λ_ _=>False) Z (tJ frc) stc go;rw[y5]at hd;refine ZU (wpAny_standAt (ZU (ap hd λr s6 P=>?_)));obtain⟨u,hr,h6⟩:=P;subst hr;refine ZU (ap h6 λ_ s7 P=>?_);obtain⟨xv,H7,Z7,r7,yl,oB,fr7⟩:=P;have Z7':=Z7.pinned (tJ fr7) (T.obj _ _ oB);have bX:=si _ s7 _ H7 xv u _ Z7' r7 (step xv H7 yl L m3);rw[y1,y2,y5,mi]at bX;refine ZU (ap bX λ_ s8 P=>?_);obtain⟨σ8,H8,Z8,pre,eQ,e8,q8⟩:=P;subst e8;have hte:=ht' _ s8 _ H8 _ Z8 q8;rw[y1,y2,y5,mi]at hte;have az:∀{m':Nat}{kC:Ζ}{H9:Hp}{s9:Shared},Inv Y ([]++Nu V s7.heap) (pre++I) H9 s9->m'<n->W (i+1) m' kC H9->∃m,m<n/\∃i ys l,∃L:L2.St,L.length=G.length/\Inv Y [] (L++I) l s9/\tn i s9.heap/\(∀b∈V,l b=none)/\W i m ys l:=λ{m' kC H9 s9}Z9 k7 w9 =>
    ⟨m',k7,i+1,kC,H9,pre,eQ,Z9.unpinned,T.keep _ _ _ oB λb k o e=>(Z9.pin (b,o) (aP _ (aP _ (qI k e)))).1,λb k=>by
     obtain⟨o,e,_⟩:=T.obj _ _ oB b k;exact(Z9.pin (b,o) (aP _ (aP _ (qI k e)))).2.1,w9⟩
   refine ZU (ap hte λok s9 P=>?_);obtain⟨H9,Z9,q9⟩:=P;cases ok with
   |false =>
    obtain⟨m',k7,w9⟩:=q9;exact ZT ⟨rfl,az Z9 k7 w9⟩
   |true =>
    have hel:=he' _ s9 _ H9 _ Z9 q9;rw[y1,y2,y5,mi]at hel;refine ZU (ZU (ap hel λev ka P=>?_));obtain⟨yv,H10,Z10,r10,hz,sR,m',k7,w10⟩:=P;have sQ:=P0 (X:=Y) _ ka _ H10 (.ref B.zs) [yv] (.ref B.zs) [ev] (λ_ Hf=>Hf=upd H10 B.zs (.lst (ys++[yv]))) Z10 rfl (.cons r10 .nil) ⟨_,ys,yv,rfl,rfl,sR,hz,rfl⟩;rw[y1,y2,y5,mi]at sQ;refine ZU (ap sQ λav s11 P=>?_);obtain⟨_,H11,Z11,_,e11⟩:=P;subst e11;exact ZT (ZT ⟨rfl,az Z11 k7 w10⟩)
 have sx:Y.env=compEnvC J (ext s3.zs++xg X.env.cells J.names []) s3.zs X.env:=by subst hX;rfl
 rw[sx]at i7;exact codeAny_compStart_list (i7 _ rfl) (T.self _ 0 _ _ _ (T.keep _ _ _ j' λb _ o e=>kg b o e) (i7 _ rfl))
def W3{G i:Φ}(E:X5 X J G ext fn)(z:X.calm)(n:Qh G X.N=i)(L:J.kind=.function)(F:∀y∈J.names,y.2=.local->J.names.lookup y.1=some .local)
 (K:∀y∈J.names,y.2=.free->X.env.kindOf y.1=some .cell\/X.env.kindOf y.1=some .free)(B:∀y∈X.N,y∉G->(relabel J X.env).names.lookup y≠some .local)(t:∀y∈X.N,y∈G->(relabel J X.env).names.lookup (hid y)=none)(v:PI X tg iter wi)
 (w:∀C c d g pn,PG (X.compE ext fn i J G C c d g pn) tg gt)(p:∀C c d g pn,PTs (X.compE ext fn i J G C c d g pn) aE tc)(x:∀C c d g pn,PE (X.compE ext fn i J G C c d g pn) bj te)(r:zh X iter) :
  PE X (.ListComp bj [⟨tg,iter,aE,0⟩] J O) (oX wi G.length gt tc te):=by
 intro U s I H Q a h;rw[eval_ListComp];exact QL E z n L F K B t v w p x r a h λC D P k m fl u M f q=>⟨m,u,λj l=>⟨.ref D,P,M.turned (it:=C) (h':=j) (t':=k.toks) (λb o A e=>(l.2 b A).trans e) f.1 f.2.1 f.2.2.2.1 f.2.2.2.2.1 f.2.2.2.2.2,rfl,q⟩⟩
section
variable{κ:Type}[DecidableEq κ]
def KD(kvs:List (κ×V))(k:κ):xI:=(kvs.find? λa=>decide (a.1=k)).map (·.2)
def putK(kvs:List (κ×V))(k:κ)(v:V):List (κ×V) :=
 if(kvs.any λa=>decide (a.1=k))=true then kvs.map (λa=>if a.1=k then(a.1,v)else a)else kvs++[(k,v)]
def Xe{p:κ×V}{r:List (κ×V)}{k:κ}(e:p.1=k):KD (p::r) k=some p.2:=by simp[KD,List.find?_cons,e]
def Ls{p:κ×V}{r:List (κ×V)}{k:κ}(e:¬p.1=k):KD (p::r) k=KD r k:=by simp[KD,List.find?_cons,e]
def Wu(kvs:List (κ×V))(k:κ)(v:V):(putK kvs k v).length<=kvs.length+1:=by
 unfold putK;split
 .rw[ak];exact Xs _
 .rw[aA,length_cons,List.length_nil];exact aG _
def zV.isSome_eq{u:Ω}(r:zV o u):o.isSome=u.isSome:=by
 cases o with
 |none=>cases u with
  |none=>rfl
  |some _=>exact(show False from r).elim
 |some _=>cases u with
  |none=>exact(show False from r).elim
  |some _=>rfl
def zV.getD{o:xI}{u:Ω}{d:V}{a:Value}(r:zV o u)(rd:z0 d a):z0 (o.getD d) (u.getD a):=by
 cases o with
 |none=>cases u with
  |none=>exact rd
  |some _=>exact(show False from r).elim
 |some _=>cases u with
  |none=>exact(show False from r).elim
  |some _=>exact r
def KV.val{kvs:List (κ×V)}{vs:List (κ×Value)}(r:KV kvs vs)(k:κ):zV (KD kvs k) (valueAt vs k):=by
 unfold KV at r
 induction r with
 |nil=>exact True.intro
 |@cons p q ps a h t f =>
  obtain⟨d,g⟩:=h;by_cases e:p.1=k
  .have c:q.1=k:=d.symm.trans e;have b:valueAt (q::a) k=some q.2:=by simp[valueAt,List.find?_cons,c]
   rwa[Xe e,b]
  .have c:¬q.1=k:=λz=>e (d.trans z);have b:valueAt (q::a) k=valueAt a k:=by simp[valueAt,List.find?_cons,c]
   rwa[Ls e,b]
def KV.any{kvs:List (κ×V)}{vs:List (κ×Value)}(r:KV kvs vs)(k:κ):(kvs.any λa=>decide (a.1=k))=vs.any λa=>decide (a.1=k):=by
 unfold KV at r
 induction r with
 |nil=>rfl
 |cons h t b=>rw[any_cons,any_cons,b,h.1]
def KV.repl{kvs:List (κ×V)}{vs:List (κ×Value)}(r:KV kvs vs)(k:κ)(c:z0 y u) :
  KV (kvs.map λa=>if a.1=k then(a.1,y)else a) (vs.map λa=>if a.1=k then(a.1,u)else a):=by
 unfold KV at r ⊢
 induction r with
 |nil=>exact .nil
 |@cons p q ps g h t d =>
  rw[map_cons,map_cons];refine .cons ?_ d;obtain⟨b,f⟩:=h;by_cases e:p.1=k
  .rw[ZY e,ZY (b.symm.trans e)];exact⟨b,c⟩
  .rw[ZZ e,ZZ (λz=>e (b.trans z))];exact⟨b,f⟩
def KV.put{kvs:List (κ×V)}{vs:List (κ×Value)}(r:KV kvs vs)(k:κ)(a:z0 y u):KV (putK kvs k y) (stored vs k u):=by
 unfold putK stored;rw[r.any k];by_cases e:(vs.any λb=>decide (b.1=k))=true
 .rw[ZY e,ZY e];exact r.repl k a
 .rw[ZZ e,ZZ e];exact Paired.snoc r ⟨rfl,a⟩
def KV.length{kvs:List (κ×V)}{vs:List (κ×Value)}(r:KV kvs vs):kvs.length=vs.length:=Paired.length r
end
def W_{k:bE}(r:z0 (kV k) u):(jQ P w).is k u:=by
 cases k with
 |inl i=>obtain⟨t,e⟩:=(show ∃t,u=Value.int i t from r);subst e;exact Wc P w i t
 |inr x=>obtain⟨t,e⟩:=(show ∃t,u=Value.str x t from r);subst e;exact V5 P w x t
def PQ{u:HO}(b:HOk P w H h)(e:Rd H a u):fQ P w H h a u:=e.ok b
def K7(b:HOk P w H h)(e:Rd H a (.dK kvs)):kvs.length<=sizeLine/\(a==sysModules)=false/\∃vs,KV kvs vs/\h.DictOf (jQ P w) a vs :=
 show fQ P w H h a (.dK kvs)from PQ b e
def SS(b:HOk P w H h)(e:H a=some (.dK kvs)):kvs.length<=sizeLine/\(a==sysModules)=false/\∃vs,KV kvs vs/\h.DictOf (jQ P w) a vs:=K7 b (.inl e)
def G9(H:Hp)(a:Addr)(y:V)(r:xI):Prop :=
 (∃kvs k,Rd H a (.dK kvs)/\y=kV k/\r=KD kvs k)\/False
def CD(H:Hp)(a:Addr)(y v:V)(H':Hp):Prop :=
 (∃kvs k,H a=some (.dK kvs)/\y=kV k/\kvs.length<sizeLine/\H'=upd H a (.dK (putK kvs k v)))\/False
def G9.k{H:Hp}{a:Addr}{kvs:xA}{k:bE}(e:H a=some (.dK kvs)):G9 H a (kV k) (KD kvs k):=.inl ⟨kvs,k,.inl e,rfl,rfl⟩
variable{I:St}{h':Heap}{r:Value}{aw i:Expr}
def Inv.big(a:Inv X U I H s):sysModules<s.zs:=by
 have h:mainGlobals<s.zs:=(a.mod.glob.keeps a.bk).lt;exact UK wP h
def abH{Q:Ε}(r:A.units+1<cLine)(b:Inv X U I H s)(g:G9 H a y (some v))(i:z0 y u)(h:∀c f,Inv X U I H f->z0 v c->Q c f) :
  wpAny (model X.prog X.w) A (getItem (.ref a) u) Q E s:=by
 rcases g with⟨kvs,k,e,p,l⟩|m
 .subst p;obtain⟨z,hd,vs,d,q⟩:=K7 b.hok e;obtain⟨c,j,n⟩:=zV.some_of (v:=v) (o:=valueAt vs k) (by rw[l];exact d.val k);exact wpAny_getItem_of (W_ i) q.mapOf j (h c _ (b.tok _) n)
 .exact m.elim
def OY{Q:Ε}(n:A.units+1<cLine)(b:Inv X U I H s)(g:G9 H a y o)(f:z0 y u)(h:∀d,Inv X U I H d->Q (.bool o.isSome) d) :
  wpAny (model X.prog X.w) A (compareOp .In u (.ref a)) Q E s:=by
 rcases g with⟨kvs,k,e,j,l⟩|i
 .subst j;obtain⟨z,hd,vs,c,m⟩:=K7 b.hok e;refine wpAny_in_of (W_ f) hd m.mapOf ?_;rw[<- (c.val k).isSome_eq,<- l];exact h _ (b.tok _)
 .exact i.elim
def agx{Q:Ε}(n:A.units+1<cLine)(b:Inv X U I H s)(g:G9 H a y o)(f:z0 y u)(h:∀d,Inv X U I H d->Q (.bool (!o.isSome)) d) :
  wpAny (model X.prog X.w) A (compareOp .NotIn u (.ref a)) Q E s:=by
 rcases g with⟨kvs,k,e,j,l⟩|i
 .subst j;obtain⟨z,hd,vs,c,m⟩:=K7 b.hok e;refine wpAny_notIn_of (W_ f) hd m.mapOf ?_;rw[<- (c.val k).isSome_eq,<- l];exact h _ (b.tok _)
 .exact i.elim
def _K{h:Nat}{d:HO}(c:Inv X U I H s)(i:jX (H a))(j:Heap.SameBut a s.heap h')(k:∃q,h'.get? a=some q)(f:fQ X.prog X.w (upd H a d) h' a d) :
  Inv X U I (upd H a d) { s with heap:=h',toks:=h } :=
 c.write (x:=a) (e:=a) i (.inl rfl) (λb q l z=>(j.2 b l).trans z) k f
def U'{vs:List (bE×Value)}(z:kvs.length<=sizeLine)(hd:(a==sysModules)=false)(b:KV kvs vs)(c:h'.DictOf (jQ P w) a vs) :
  fQ P w H' h' a (.dK kvs):=⟨z,hd,vs,b,c⟩
def acU(F:A.units+1<cLine)(b:Inv X U I H s)(g:CD H a y v H')(i:z0 y u)(j:z0 v r)(h:∀f,Inv X U I H' f->Q () f) :
  wpAny (model X.prog X.w) A (setItem (.ref a) u r) Q E s:=by
 rcases g with⟨kvs,k,e,B,l,C⟩|x
 .subst B C;obtain⟨z,hd,vs,c,D⟩:=SS b.hok e;have m:vs.length<=sizeLine:=by rw[<- c.length];exact z
  have p:(putK kvs k v).length<=sizeLine:=by have:=Wu kvs k v;lia
  refine wpAny_setItem_pairs (hsz:=m) (W_ i) D λh' d n=>h _ ?_;have t:∃q,h'.get? a=some q:=by obtain⟨q,_,_,o,_⟩:=d;exact⟨q,o⟩
  exact _K b (by rw[e];exact True.intro) n t (U' p hd (c.put k j) d)
 .exact x.elim
def nV(i:Expr):Prop:=∀a b,subscripted i false a b=operate [a,b] (getItem a b)
def agw{env:Env}{g:Expr}{T id:String}{Q:Ε}
 (m:typeLookup (.type T) "__getitem__"=pure (some (.builtin id)))(l:nV g)
 (h:wpAny (model prog w) A (eval aw env) (λo d=>wpAny (model prog w) A (eval g env) (λi a=>a.TypeIs o T/\wpAny (model prog w) A (getItem o i) Q E a) E d) E s) :
  wpAny (model prog w) A (eval (.Subscript aw g O) env) Q E s:=by
 refine Subscript_ (wpAny_mono h (λo d f=>wpAny_mono f (λi a b=>?_) λ_ _ x=>x) λ_ _ x=>x);obtain⟨k,b⟩:=b;unfold subscriptTail;refine ZU ?_;rw[getitemInPython_of_ne k.not_modules];refine ZU (wpAny_specialOf k m ?_);have j:wpAny (model prog w) A (subscripted g false o i) (λr c=>wpAny (model prog w) A (letTemporaryGo aw o r >>= λ_=>pure r) Q E c) E a:=by
  rw[l o i];exact wpAny_operating (wpAny_mono b (λr c e=>ZU (wpAny_letTemporaryGo (ZT e))) λ_ _ x=>x)
 first
  |exact ZT (ZU j)
  |exact ZU (ZT (ZU j))
  |exact ZU j
def Yp{X:Cx}(b:Inv X U I H s)(g:G9 H a y o):s.TypeIs (.ref a) "dict":=by
 rcases g with⟨kvs,k,e,_,_⟩|c
 .obtain⟨_,_,vs,_,d⟩:=K7 b.hok e;exact d.typeIs
 .exact c.elim
def Pv(d c:TE):TE:=λI H Q=>d I H λx Y=>c I Y λy b=>∃a v,x=.ref a/\G9 b a y (some v)/\Q v b
def NC(c d:TE):TE:=λI H Q=>c I H λy Y=>d I Y λx b=>∃a o,x=.ref a/\G9 b a y o/\Q (.bl o.isSome) b
def ahB(c d:TE):TE:=λI H Q=>c I H λy Y=>d I Y λx b=>∃a o,x=.ref a/\G9 b a y o/\Q (.bl (!o.isSome)) b
def PD(e c d:TE):TS:=λD I H=>d I H λv Y=>e I Y λx g=>c I g λy f=>∃a b,x=.ref a/\CD f a y v b/\D.nx I b
variable{o:Expr}{td ty tv:TE}{bi:Pos}{d:V}
def ahP(k:X.A.units+1<cLine)(m:PE X o td)(n:PE X i ty)(l:nV i):PE X (.Subscript o i O) (Pv td ty):=by
 intro U s I H Q b h;refine agw PySem.F.slot_dict_getitem.lookup l (ap (m U s I H _ b h) λu d ⟨x,Y,w,f,j⟩=>ap (n U d I Y _ w j) λE D p=>?_);obtain⟨y,z,c,e,a,v,r,g,q2⟩:=p;subst r;obtain rfl:u=Value.ref a:=f;exact⟨Yp c g,abH k c g e λB C t q=>⟨v,z,t,q,q2⟩⟩
def V'(k:X.A.units+1<cLine)(m:PE X i ty)(l:PE X o td):PC X .In i o (NC ty td):=by
 intro U s I H Q b h;refine ap (m U s I H _ b h) λB c ⟨y,Y,t,d,f⟩=>ap (l U c I Y _ t f) λu z n=>?_;obtain⟨x,v,r,e,a,j,p,g,q2⟩:=n;subst p;obtain rfl:u=Value.ref a:=e;exact OY k r g d λw q=>⟨.bl j.isSome,v,q,rfl,q2⟩
def aci(k:X.A.units+1<cLine)(m:PE X i ty)(l:PE X o td):PC X .NotIn i o (ahB ty td):=by
 intro U s I H Q b h;refine ap (m U s I H _ b h) λB c ⟨y,Y,t,d,f⟩=>ap (l U c I Y _ t f) λu z n=>?_;obtain⟨x,v,r,e,a,j,p,g,q2⟩:=n;subst p;obtain rfl:u=Value.ref a:=e;exact agx k r g d λw q=>⟨.bl (!j.isSome),v,q,rfl,q2⟩
def _r(m:X.A.units+1<cLine)(p:PE X o td)(q:PE X i ty)(l:PE X aw tv)(n:swapsWith aw (some (.Subscript o i bi)) O.line X.env=pure false) :
  PS X (.Assign [.Subscript o i bi] aw O) (PD td ty tv):=by
 intro U s I H D b h;refine wpAny_Assign_Subscript (ap (l U s I H _ b h) λr d ⟨v,Y,E,j,k⟩=>ap (p U d I Y _ E k) λu c ⟨x,G,C,f,q2⟩=>ap (q U c I G _ C q2) λL K t=>?_) n;obtain⟨y,M,B,e,a,F,w,g,q3⟩:=t;subst w;obtain rfl:u=Value.ref a:=f;exact acU m B g e j λJ z=>⟨I,F,z,q3⟩
def ad2(h:Heap)(a:sysModules<h.objs.size):fQ P w H (h.push { cls:=.type "dict",data:=.dict #[] }) h.objs.size (.dK []) :=
 ⟨aZ _,beq_eq_false_iff_ne.mpr (Ne.symm (aQ a)),[],.nil,Heap.DictOf.new h⟩
def TQ:TE:=λ_ H Q=>∀p,H p=none->Q (.ref p) (upd H p (.dK []))
def afi:PE X (.Dict [] [] O) TQ:=λU s I H Q b h =>
 wpAny_Dict_empty ⟨.ref s.zs,_,b.laid (a:=s.zs) (o:=.dK []) (t':=s.toks) (λ_ _ q=>aH _ q) (aG _) (ad2 s.heap b.big),rfl,h _ (b.hok.fresh (aG _))⟩
abbrev VV:List (V×V)->List (Value×Value)->Prop:=Paired λp q=>z0 p.1 q.1/\z0 p.2 q.2
structure M2(X:Cx)(o:Expr)(m:Str)(ai:Pos)(e f:Expr)(af:Pos):Prop where
 base:zt X o m
 few:((backTo af (starEach [e,f] X.env)).all (λx=>!x.1)&&(backToKw af (keywordEach [] X.env)).all (λx=>x.1.isSome)
  && decide (([e,f] : xb).length+([] : wr).length+(if([] : wr).isEmpty then 0 else 1)<30))=true
 line:zC ai af
 trees:backTo af (starEach [e,f] X.env)=[(false,eval e X.env),(false,eval f X.env)]
def Kx(H:Hp)(a:Addr):Prop:=(∃kvs,Rd H a (.dK kvs))\/False
def SC{X:Cx}(c:Inv X U I H s)(d:Kx H a) :
  s.TypeIs (.ref a) "dict"/\(∀b,Value.ref a=.ref b->∃f,s.heap.get? b=some f/\f.dict=none)/\(a==sysModules)=false:=by
 rcases d with⟨kvs,e⟩|h
 .obtain⟨_,hd,vs,_,g⟩:=K7 c.hok e;refine⟨g.typeIs,λb q=>?_,hd⟩;cases q;obtain⟨f,_,_,j,i,_⟩:=g;exact⟨f,j,i.2.1⟩
 .exact h.elim
variable{o:xI}{f:Expr}
def _c{Q:Ε}(q:A.units+1<cLine)(b:Inv X U I H s)(g:G9 H a y o)(m:z0 y u)(rd:z0 d r)(h:∀f i,Inv X U I H i->z0 (o.getD d) f->Q f i) :
  wpAny (model X.prog X.w) A (call (.builtin "dict.get") [.ref a,u,r]) Q E s:=by
 rcases g with⟨kvs,k,e,p,l⟩|n
 .subst p;obtain⟨z,hd,vs,c,j⟩:=K7 b.hok e;refine call_meetsIn PySem.F.slot_dict_get j.typeIs PySem.F.entry_dict_get (PySem.F.args_dict_get_3 _ _ _) (meets_dict_get_default (jQ X.prog X.w) a (W_ m) hd r) ⟨_,j.mapOf,h _ _ (b.tok _) ?_⟩;rw[l];exact(c.val k).getD rd
 .exact n.elim
def WB(td ty c:TE):TE:=λI H Q=>td I H λx Y=>∃a,x=.ref a/\Kx Y a/\ty I Y λy d=>c I d λz b=>∃o,G9 b a y o/\Q (o.getD z) b
variable{o:Expr}{tx:TE}{I:L2.St}{pl:Sem Bool}{k:Nat}
def afG(t:X.A.units+1<cLine)(v:PE X o td)(B:PE X e ty)(w:PE X f tx)(m:M2 X o "get" ai e f af):PE X (.Call (.Attribute o "get" ai) [e,f] [] af) (WB td ty tx):=by
 intro U s I H Q b h;refine wpAny_Call_method m.base m.few m.line PySem.F.plainAttrs_dict PySem.F.slot_dict_get PySem.F.type_dict_get (ap (v U s I H _ b h) λu l C=>?_);obtain⟨x,Y,c,q,a,E,d,r⟩:=C;subst E;obtain rfl:u=Value.ref a:=q;obtain⟨j,i,_⟩:=SC c d;refine⟨j,i,?_⟩;rw[m.trees];refine Calls.callWith_builtin rfl (Calls.evalArgs_plain (Calls.spliced_cons (ap (B U l I Y _ c r) λS k ⟨y,M,K,p,q2⟩ =>
  Calls.spliced_cons (ap (w U k I M _ K q2) λT P ⟨z,L,J,n,R,g,q3⟩=>Calls.spliced_nil ?_))))
 exact _c t J g p n λN O G D=>⟨_,L,G,D,q3⟩
def ma(a:Addr)(o:Obj)(kvs:xA):It:=⟨λi H=>H a=some (.frz o (.dK kvs))/\i<kvs.length,λi H v H'=>H'=H/\∃k y,kvs[i]?=some (k,y)/\v=kV k,λi H=>H a=some (.frz o (.dK kvs))/\i=kvs.length⟩
def OS{k:bE}(h:(jQ P w).is k u):z0 (kV k) u:=by
 have h:Fw k u:=h;cases k with
 |inl i =>
  cases u<;>simp[Fw,Value.isInt]at h
  .subst h;exact⟨_,rfl⟩
 |inr x =>
  cases u<;>simp[Fw,Value.isStrOf]at h
  .subst h;exact⟨_,rfl⟩
def KV.at{a:Type}{kvs:List (a×V)}{vs:List (a×Value)}(r:KV kvs vs):∀{i:Nat}{k:a}{y:V},kvs[i]?=some (k,y)->∃u,vs[i]?=some (k,u)/\z0 y u:=by
 unfold KV at r
 induction r with
 |nil=>intro i k y h;cases h
 |@cons p q ps f h t b =>
  intro i k y e;cases i with
  |zero =>
   rw[List.getElem?_cons_zero]at e;cases e;obtain⟨g,q2⟩:=q;obtain⟨d,c⟩:=h;cases d;exact⟨q2,rfl,c⟩
  |succ i =>
   rw[List.getElem?_cons_succ]at e ⊢;exact b e
def abK(g a:Addr)(o:Obj)(kvs:xA)(vs:List (bE×Value))(N:Nat)(n:KV kvs vs)(M:∀h:Heap,h.get? a=some o->h.DictAt (jQ P w) a vs N) :
  Turn P w K tg (ma a o kvs) [g] g (λi h=>h.IsKeyIter g a i vs.length N) where
 mem:=by simp
 obj:=λi h st b m=>by
  have e:b=g:=by simpa using m
  subst e;obtain⟨o,j,_,hd⟩:=st;exact⟨o,j,λv z=>by rw[hd]at z;cases z⟩
 keep:=λi h h' st k=>let⟨o,j,r⟩:=st;⟨o,k g vz o j,r⟩
 item:=by
  intro X x hw A hc i U s I H E f t st l;subst x hw A;obtain⟨l,Y⟩:=l;obtain⟨j,_⟩:=(show fQ X.prog X.w H s.heap a (.frz o (.dK kvs))from f.hok a _ l);obtain⟨G,F,V,D,C,B⟩:=t g vz;obtain⟨⟨k,y⟩,L⟩ : ∃p,kvs[i]?=some p:=⟨kvs[i],by simp[Y]⟩;obtain⟨u,S,ru⟩:=n.at L;refine wpAny_pyNext_dict_item st (M _ j) S λZ h' R O Q=>?_;have I1:Inv X U I H { s with heap:=h' }:=f.turned (t':=s.toks) (λb J m e=>(Q.2 b m).trans e) G F D C B;obtain⟨oi,e,c,d⟩:=id O;exact⟨Z,rfl,Wm (s:={ s with heap:=h' }) e c d wP ⟨kV k,H,I1,OS R,⟨rfl,k,y,L,rfl⟩,O,λb m=>(t b m).1⟩⟩
 done:=by
  intro X x hw A hc i U s I H E f t st l;subst x hw A;obtain⟨l,rfl⟩:=l;obtain⟨j,_⟩:=(show fQ X.prog X.w H s.heap a (.frz o (.dK kvs))from f.hok a _ l);obtain⟨G,F,V,D,C,B⟩:=t g vz;have T:=n.length;exact wpAny_pyNext_dict_end (f.ok.hd hc) st (M _ j) (by simp;exact WH (Eq.symm T)) λh' W=>⟨rfl,f.turned (t':=s.toks) (λb J m e=>W b J m e) G F D C B⟩
 self:=λ_ _ _ _ _ st h=>wpAny_pyIter_keyiter st h
def Su(te:TE):TI:=λI H R=>te I H λx Y=>∃a kvs,x=.ref a/\Y a=some (.dK kvs)/\∀o,R (ma a o kvs) (upd Y a (.frz o (.dK kvs)))
def ahO{l:Expr}(D:PE X l tl):PI X tg l (Su tl):=by
 intro U s I H R c h;refine ap (D U s I H _ c h) λv d E=>?_;obtain⟨x,Y,A,B,a,kvs,i,n,q⟩:=E;subst i;cases B;have C:=(show fQ X.prog X.w Y d.heap a (.dK kvs)from A.hok a _ n);obtain⟨z,hd,vs,f,o,es,j,e,i,y,t,g,r⟩:=C;have p:∀h:Heap,h.get? a=some o->h.DictAt (jQ X.prog X.w) a vs j:=λh e=>⟨o,es,e,i,y,t,g,r⟩;have k:Inv X U I (upd Y a (.frz o (.dK kvs))) d:=by
  have:=A.write (x:=a) (e:=a) (o:=.frz o (.dK kvs)) (h':=d.heap) (t':=d.toks) (by rw[n];exact True.intro) (.inl rfl) (λb u m z=>z) ⟨o,e⟩ ⟨e,z,hd,vs,f,o,es,j,e,i,y,t,g,r⟩;exact this
 refine wpAny_pyIter_dict hd (p _ e) ?_;refine⟨d.zs,[d.zs],_,ma a o kvs,_,rfl,k.kept (t':=d.toks) λb F z=>aH _ z,abK _ a o kvs vs j f p,⟨_,aW _ rfl,rfl,rfl⟩,λb m=>?_,q o⟩;have e:b=d.zs:=by simpa using m
 subst e;exact k.fpOk (aG _) (k.hok.fresh (aG _))
def fo(g:TG):TG:=λv I H Q=>∃R:L2.St->Hp->Prop,g v I H R/\∀a H',R a H'->Q a H'
def fm(t:TT):TT:=λI H Q=>∃R:Bool->Hp->Prop,t I H R/\∀b H',R b H'->Q b H'
def PG.mono(h:PG X e g):PG X e (fo g):=λU s I H v u Q a r c=>by obtain⟨R,f,d⟩:=c;exact ap (h U s I H v u R a r f) λ_ j c=>by obtain⟨b,H',i,q⟩:=c;exact⟨b,H',i,d b H' q⟩
def PTs.mono{t:TT}(h:PTs X aE t):PTs X aE (fm t):=λU s I H Q a c=>by obtain⟨R,e,d⟩:=c;exact ap (h U s I H R a e) λb g c=>by obtain⟨H',f,q⟩:=c;exact⟨H',f,d b H' q⟩
def Ys(n:Nat)(gt:TG)(tc:TT)(te:TE)(x:V)(I:L2.St)(H:Hp)(Y:VK)(f:Hp->Prop):Prop:=∀c:L2.St,c.length=n->gt x (c++I) H λa g=>∃d:L2.St,d.length=n/\a=d++I/\tc a g λb e =>
 match b with
 |true=>te a e Y
 |false=>f e
def Ys.weak{n:Nat}{x:V}{Y d:VK}{e a:Hp->Prop}(h:Ys n gt tc te x I H Y e)(j:∀y H',Y y H'->d y H')(i:∀H',e H'->a H'):Ys n (fo gt) (fm tc) (tM te) x I H d a:=λc g =>
 ⟨_,h c g,λf p ⟨m,l,k,q⟩=>⟨m,l,k,_,q,λb o z=>match b,z with
  |true,z=>⟨_,z,j⟩
  |false,z=>i o z⟩⟩
def Yl{n:Nat}{Q:VK}(h:tl I H λx Y=>∃a G,x=.ref a/\Y a=some (.lst G)/\G.length<=sizeLine/\∀D,Y D=none->∃J:Nat->Ζ->Hp->Prop,J 0 [] (upd Y D (.lst [])) /\
   (∀k x b c,G[k]?=some x->J k b c->b.length<=k->c a=some (.lst G)->Ys n gt tc te x I c (λy d=>d D=some (.lst b)/\d a=some (.lst G)/\J (k+1) (b++[y]) (upd d D (.lst (b++[y])))) λd=>d a=some (.lst G)/\J (k+1) b d) /\
   ∀b c,J G.length b c->b.length<=G.length->Q (.ref D) c):oX (Wq K (tM tl)) n (fo gt) (fm tc) (tM te) I H Q:=by
 refine⟨_,h,?_⟩;rintro x Y ⟨a,G,rfl,o,A,rest⟩;refine⟨a,rfl,⟨G,.of o⟩,λD r=>?_⟩;obtain⟨J,u,step,w⟩:=rest D r;have q:a≠D:=iI o r;refine⟨λk m b c=>k<=G.length/\m=G.length-k/\b.length<=k/\c a=some (.lst G)/\J k b c,⟨_,aZ _,rfl,aZ _,(bR q).trans o,u⟩,?_⟩;rintro k m b c ⟨v,rfl,l,f,j⟩;by_cases e:k=G.length
 .subst e;exact .inl ⟨⟨G,.of f,aG _⟩,w b c j l⟩
 .have p:k<G.length:=by exact XX v e
  refine .inr ⟨⟨G,_,.of f,aj p⟩,?_⟩;rintro x t ⟨rfl,y⟩;refine(step k x b t (y G (.of f)) j l f).weak ?_ ?_
  .rintro z d ⟨s,i,g⟩;refine⟨by lia,s,G.length-(k+1),by lia,by exact p,rfl,?_,?_,g⟩
   .rw[aA];simp;omega
   .rw[bR q];exact i
  .rintro d ⟨i,g⟩;exact⟨G.length-(k+1),by lia,by exact p,rfl,by exact aL l (X9 _ _),i,g⟩
structure Jd(K:Frag)(B:Addr)(m:Str)(f:Addr):Prop where
 ga:specialIn K (.ref B) "__getattribute__"=some (some (.builtin "type.__getattribute__"))
 rd:readsIn K B (.type "type")
 at_:findCls K (.ref B) (.type "type") m=some (.val (.ref f))
 hd:handedIn (.ref f)
 kp:keepIn K (.ref f)
section
variable{X:Cx}{k:Nat}{f B:Addr}{fd:FuncData}{ps:Φ}{sp:Sp}{du:Ζ}{ds:Θ}{x m:Str}{p O ai:Pos}{e:Expr}{es:xb}{t:TA}{Ex:Value->Ξ->L2.St->Hp->Prop}
def Jd.get{U:Δ}{I:L2.St}{H:Hp}{s:Shared}{pl:Sem Bool}{A:Around}{E:Ε}{Q:Value×Θ->Shared->Prop}(c:Jd X.K B m f)(a:Inv X U I H s)(h:∀t,Q (.ref f,[]) { s with toks:=t }) :
  wpAny (model X.prog X.w) A (getMethod (.ref B) m pl) Q E s :=
 method_cls a.kIn c.ga (cls_value a.kIn c.rd c.at_ c.hd (h _))
def _1(c:Jd X.K B m f)(F:fX X.prog X.w X.K X.mg X.base bc k f fd ps sp)(j:eN k X.A)(n:Gl X x)(l:X.mg x=some (.ref B))(o:Binds X.K fd ps [])(q:PA X (e::es) t)(v:autoParam (zz x) zP4)
 (u:‹zw X e es›)(y:‹zg X O es›)
 (i:‹eval (.Call (.Attribute (.Name x p) m ai) (e::es) [] O) X.env=(do
   let b <- eval (.Name x p) X.env
   standAt ai.atName
   let(f,first) <- holding [b] (getMethod b m pl)
   callWith O f first (backTo O (starEach (e::es) X.env)) (backToKw O (keywordEach [] X.env)))›) :
  PE X (.Call (.Attribute (.Name x p) m ai) (e::es) [] O) (R0 sp t):=by
 intro U s I H Q a h;refine methodCall_KW (pl:=pl) (sE a n l (c.get a λg=>?_) v) i;refine callWith_K (first:=[]) (h₀:=X.base) a.ok.mod.kin c.kp (ap (q O U _ I H _ (a.tok g) h) λZ z ⟨vs,C,d,r,q2⟩=>⟨d.kIn,?_⟩) u y;exact RM (Z:=Z) (vs:=vs) F j o .nil Qa d r (by rw[append_nil];exact q2)
end
def zO.tup{K:Frag}{H H':Hp}{a:Addr}{G:Ζ}(e:zO H H')(h:SqT K H a G):SqT K H' a G:=by
 rcases h with(h|⟨o,h⟩)|h
 .exact .inl (.inl (e _ _ h))
 .exact .inl (.inr ⟨o,e _ _ h⟩)
 .exact .inr h
mutual
inductive iM(K:Frag)(H:Hp):V->PyData->Prop
 |non:iM K H .non .none
 |bl (b:Bool):iM K H (.bl b) (.bool b)
 |int (i:Int):iM K H (.int i) (.int i)
 |str (x:Str):iM K H (.str x) (.str x)
 |lst {a:Addr}{G:Ζ}{ds:xN} : H a=some (.lst G)->gB K H G ds->iM K H (.ref a) (.list ds)
 |tup {a:Addr}{G:Ζ}{ds:xN} : SqT K H a G->gB K H G ds->iM K H (.ref a) (.tuple ds)
inductive gB(K:Frag)(H:Hp):Ζ->xN->Prop
 |nil:gB K H [] []
 |cons {x:V}{G:Ζ}{d:PyData}{ds:xN} : iM K H x d->gB K H G ds->gB K H (x::G) (d::ds)
end
mutual
theorem iM.same{K:Frag}{H H':Hp}(S:zO H H'){x:V}{d:PyData}(h:iM K H x d):iM K H' x d:=by
 cases h with
 |non|bl|int|str=>constructor
 |lst e h=>exact .lst (S _ _ e) (gB.same S h)
 |tup e h=>exact .tup (S.tup e) (gB.same S h)
theorem gB.same{K:Frag}{H H':Hp}(S:zO H H'){G:Ζ}{a:xN}(h:gB K H G a):gB K H' G a:=by
 cases h with
 |nil=>exact .nil
 |cons h t=>exact .cons (iM.same S h) (gB.same S t)
end
mutual
theorem Inv.readsK(a:Inv X U I H s){x:V}{d:PyData}{v:Value}(h:iM X.K H x d)(r:z0 x v):∃j,Reads s.heap v d j:=by
 cases h with
 |non=>cases r;exact⟨_,.none⟩
 |bl b=>cases r;exact⟨_,.bool b⟩
 |int i=>obtain⟨t,rfl⟩:=r;exact⟨_,.int i t⟩
 |str x=>obtain⟨t,rfl⟩:=r;exact⟨_,.str x t⟩
 |lst e h=>cases r;obtain⟨f,c,⟨o,g,hc,n,hd⟩⟩:=a.lstIs e;obtain⟨j,q⟩:=Inv.readsAllK a h c;exact⟨_,.list g hc hd q⟩
 |tup e h=>cases r;obtain⟨f,c,⟨o,g,hc,n,hd⟩,_⟩:=a.tuple e;obtain⟨j,q⟩:=Inv.readsAllK a h c;exact⟨_,.tuple g hc hd q⟩
theorem Inv.readsAllK(c:Inv X U I H s){G:Ζ}{d:xN}{vs:Θ}(h:gB X.K H G d)(r:z1 G vs):∃i,ReadsAll s.heap vs d i:=by
 cases h with
 |nil=>cases r;exact⟨_,.nil⟩
 |cons h t=>cases r with
  |cons f e=>obtain⟨a,g⟩:=Inv.readsK c h f;obtain⟨b,q2⟩:=Inv.readsAllK c t e;exact⟨_,.cons g q2⟩
end
def nT(K:Frag)(a:Bool):R2:=λx y H Q=>∃d e,iM K H x d/\iM K H y e/\SeqAt.shaped d/\SeqAt.shaped e/\Q (.bl (if a then !PyData.eqv d e else PyData.eqv d e)) H
def Z'(k:X.A.units+64<cLine):OpR X (compareOp .Eq) (nT X.K false):=by
 intro U s I H x y v u Q a g f h;obtain⟨d,e,hd,l,c,b,q⟩:=h;obtain⟨n,j⟩:=a.readsK hd g;obtain⟨m,i⟩:=a.readsK l f;exact SeqAt.compareEq_shaped j i c b k ⟨.bl _,H,a,rfl,q⟩
def VI(k:X.A.units+64<cLine):OpR X (compareOp .NotEq) (nT X.K true):=by
 intro U s I H x y v u Q a g f h;obtain⟨d,e,hd,l,c,b,q⟩:=h;obtain⟨n,j⟩:=a.readsK hd g;obtain⟨m,i⟩:=a.readsK l f;exact SeqAt.compareNe_shaped j i c b k ⟨.bl _,H,a,rfl,q⟩
def _7(K:Frag):Ζ->Hp->VK->Prop:=λG H Q=>∃p T a,G=[.ref p,.ty T]/\T∈["bool","int","str","list","tuple","dict"]/\SqT K H p a/\Q (.bl (Ui "tuple" T)) H
def Xb:iH X (.builtin "isinstance") (_7 X.K):=by
 intro U s I H G Z Q b r h;obtain⟨p,T,k,rfl,j,g,q⟩:=h;obtain⟨u,v,rfl,e,d⟩:=r.two;cases e;cases d;obtain⟨f,c,⟨o,i,hc,n,hd⟩,_⟩:=b.tuple g;refine kia_one (kitx_tuple (a:=p)) b.kIn ⟨o,i,hc⟩ (IG (K:=X.K) (t:="tuple") wP j) (λz=>nomatch z) λl=>⟨.bl _,H,b.tok _,rfl,q⟩
def OkI(P:Program)(w:World)(K:Frag)(mg:Str->Ω)(base:Heap)(a:ff)(k:Nat)(f:Addr)(ps:Φ)(sp:Sp):Prop:=∃fd,fX P w K mg base a k f fd ps sp/\Binds K fd ps []
def Bu(K:Frag)(x ah:Str)(st:Stmt)(ps:Φ)(f:Addr):Prop:=∃fd,Fun K x ah st f fd/\∀Z:Θ,Z.length=ps.length->bindArgs fd ⟨Z,[]⟩=pure (ps.zip Z)
def Bu.ok{c:ff}{f:Addr}(h:Bu K x ah st ps f)(d:∀fd,Fun K x ah st f fd->fX P w K mg base c k f fd ps sp):OkI P w K mg base c k f ps sp :=
 by obtain⟨fd,a,b⟩:=h;exact⟨fd,d fd a,.all b⟩
def _N{f:Addr}{h g:Ξ}{kV e b a d:Value}
 (l:K.lookup f=some ⟨oc,h,.func (PySem.W.fnOf x ah (jV st) (fP st) (bH st) .none kV e b g a d),eK⟩)(c:codeIn K a ah)(k:keepIn K (.ref f))
 (i:∀(kV e b:Value)(g:Ξ)(a d:Value)(Z:Θ),Z.length=ps.length->bindArgs (PySem.W.fnOf x ah (jV st) (fP st) (bH st) .none kV e b g a d) ⟨Z,[]⟩=pure (ps.zip Z)):Bu K x ah st ps f :=
 ⟨_,GY l c k,i kV e b g a d⟩
section
variable{X:Cx}{k:Nat}{f C B:Addr}{ps:Φ}{sp:Sp}{x m:Str}{p O ai:Pos}{e o:Expr}{es:xb}{ta:TE}{t:TA}{Ex:Value->Ξ->L2.St->Hp->Prop}
def FY(C:Addr)(m:Str)(sp:Sp)(ta:TE)(t:TA):TE:=λI H Q=>ta I H λx Y=>∃a c b,x=.ref a/\Y a=some (.ins C c b)/\b.lookup m=none/\t I Y λvs d=>sp (x::vs) d Q E0
abbrev zS(X:Cx):=OkI X.prog X.w X.K X.mg X.base
def adv(j:PE X o ta)(c:Cls X.K C)(i:Meth X.K C m f)(G:zS X bc k f ps sp)(g:eN k X.A)(n:PA X (e::es) t)
 (y:‹zw X e es›)(z:‹zg X O es›)
 (d:‹eval (.Call (.Attribute o m ai) (e::es) [] O) X.env=(do
   let b <- eval o X.env
   standAt ai.atName
   let(f,first) <- holding [b] (getMethod b m pl)
   callWith O f first (backTo O (starEach (e::es) X.env)) (backToKw O (keywordEach [] X.env)))›) :
  PE X (.Call (.Attribute o m ai) (e::es) [] O) (FY C m sp ta t):=by
 obtain⟨fd,F,l⟩:=G;refine(agV (pl:=pl) j.mono c i F g l .nil Qa n.mono y z d).imp λI H Q h=>⟨_,h,?_⟩;rintro x Y ⟨a,w,v,u,s,r,p⟩;refine⟨a,w,v,u,s,r,_,p,λvs B q=>?_⟩;show sp (x::(vs++[])) B Q E0;rw[append_nil];exact q
def abE(i:PE X o ta)(c:Cls X.K C)(g:Meth X.K C m f)(G:zS X bc k f ps sp)(e:eN k X.A)
 (d:‹eval (.Call (.Attribute o m ai) [] [] O) X.env=(do
   let b <- eval o X.env
   standAt ai.atName
   let(f,first) <- holding [b] (getMethod b m pl)
   callWith O f first (backTo O (starEach [] X.env)) (backToKw O (keywordEach [] X.env)))›) :
  PE X (.Call (.Attribute o m ai) [] [] O) (FY C m sp ta VR):=by
 obtain⟨fd,F,j⟩:=G;refine(ady (pl:=pl) i.mono c g F e j .nil Qa d).imp λI H Q h=>⟨_,h,?_⟩;rintro x Y ⟨a,s,r,q,p,n,l⟩;exact⟨a,s,r,q,p,n,l⟩
def agg{D:Addr}{O:Pos}(b:Gl X x)(a:X.mg x=some (.ref D))(hd:autoParam (zz x) zP4):PE X (.Name x O) (tC (.ref D)):=IA b a rfl hd
end
variable{o ox:Obj}{i:Nat}{x0 f:Str}{Z:Θ}{mN:Str->Ω}{fI x HE:Addr}{v:Value}
def Qj{a:Obj}(e:(h.push o).get? b=some a)(c:b≠h.objs.size):h.get? b=some a:=by
 obtain⟨f,d⟩:=Heap.get?_some_iff.mp e;refine Heap.get?_some_iff.mpr ⟨?_,d⟩;cases h;simpa[Heap.push,Array.getElem?_push,c]using f
theorem Wj:∀{c:Φ}{vs:Θ},z1 (c.map V.str) vs->StrsAre vs c
 |[],_,h=>by cases h;exact .nil
 |y::c,_,h=>by
  rw[map_cons]at h;cases h with
  |cons a b =>
   obtain⟨t,rfl⟩:=a;exact .cons y t (Wj b)
def rJoin:V->Ζ->Hp->VK->Prop:=λx vs H Q=>∃a l b,x=.str a/\vs=[.ref l]/\H l=some (.lst (b.map V.str))/\(b.map (·.length)).sum+b.length*a.length<=16777216/\Q (.str (Txt.join a b)) H
def _P:jY X "str.join" rJoin:=by
 intro U s I H x vs v Z Q b c d h;obtain⟨a,l,m,rfl,rfl,j,i,q⟩:=h;obtain⟨t,rfl⟩:=c;obtain⟨u,rfl,f⟩:=d.one;cases f;obtain⟨_,g,n,r,_,e⟩:=b.lstM j;exact join_list ⟨_,e,rfl,n,rfl⟩ (by simpa using Wj r) i λo k=>⟨.str _,H,b.tok _,⟨_,rfl⟩,q⟩
def aeI{q:Nat}{f:Str}{g K:Pos}{G n:Φ}(E:X5 X J G ext fn)(hc:X.calm)(T:Qh G X.N=n)(c9:J.kind=.function)(dm:∀y∈J.names,y.2=.local->J.names.lookup y.1=some .local)
 (cS:∀y∈J.names,y.2=.free->X.env.kindOf y.1=some .cell\/X.env.kindOf y.1=some .free)(gi:∀y∈X.N,y∉G->(relabel J X.env).names.lookup y≠some .local)(r:∀y∈X.N,y∈G->(relabel J X.env).names.lookup (hid y)=none)(Z:PI X tg iter wi)
 (hg:∀C c d k pn,PG (X.compE ext fn n J G C c d k pn) tg gt)(V:∀C c d k pn,PTs (X.compE ext fn n J G C c d k pn) aE tc)(he:∀C c d k pn,PE (X.compE ext fn n J G C c d k pn) bj te)(g3:PG X (.Name f g) (uO q))(gS:swapsWith (.ListComp bj [⟨tg,iter,aE,0⟩] J O) (some (.Name f g)) K.line X.env=pure true)(W:zh X iter) :
  PS X (.Assign [.Name f g] (.ListComp bj [⟨tg,iter,aE,0⟩] J O) K) (kP (oX wi G.length gt tc te) (uO q)):=by
 intro U s I H u a h;have h:oX wi G.length gt tc te I H (λx Y=>uO q x I Y u.nx):=h;rw[exec_Assign_Name_used _ _ _ _ gS];refine ZU (wpAny_standAt (ZU ?_));show wpAny _ X.A (comprehension (.ListComp bj [⟨tg,iter,aE,0⟩] J O) J X.env _ (newList []) false (eval iter X.env) (some (assign (.Name f g) X.env)) >>= λ_=>_) _ _ s;refine ZU (wpAny_mono (QL (use:=some (assign (.Name f g) X.env)) (post:=λ_ B=>SP X U u .next B) E hc T c9 dm cS gi r Z hg V he W a h λC D Hc w m fl F I6 l R=>?_) (λ_ B r=>ZT (ZT r)) λ_ _ e=>e);obtain⟨oc,es,ep,t,M,_⟩:=id F;have I7:=I6.pinned (fp:=[C]) (λb j=>by rwa[YR.mp j]) λb j=>by
  rw[YR.mp j];exact⟨oc,t,λv z=>by rw[M]at z;cases z⟩
 show wpAny _ X.A (assign (.Name f g) X.env _) _ _ w;refine ap (g3 _ w I Hc (.ref D) _ u.nx I7 rfl R) λ_ P hP=>?_;obtain⟨p,H7,L,S⟩:=hP;have i:=L.pin (C,oc) (aP _ (aP _ (qI vz t)));refine⟨m,F.at' λo e=>?_,λh' Q=>⟨p,H7,L.unpinned.turned (it:=C) (h':=h') (t':=P.toks) (λb o j e=>(Q.2 b j).trans e) i.2.1 l.2.1 l.2.2.2.1 l.2.2.2.2.1 l.2.2.2.2.2,S⟩⟩;rw[t]at e;cases e;exact i.1
def Sz{x:V}{Y:VK}{No:Hp->Prop}(h:te (some x::I) H Y):Ys 1 (uO 0) oa te x I H Y No:=λa b=>by
 obtain⟨u,rfl⟩:=List.length_eq_one_iff.mp b;exact⟨[some x],rfl,rfl,h⟩
def Tz{Q:VK}(h:tl I H λx Y=>∃a G,x=.ref a/\Y a=some (.lst G)/\G.length<=sizeLine/\∀D,Y D=none->∃J:Nat->Ζ->Hp->Prop,J 0 [] (upd Y D (.lst [])) /\
   (∀k x b c,G[k]?=some x->J k b c->b.length=k->c a=some (.lst G)->te (some x::I) c λy f=>f D=some (.lst b)/\f a=some (.lst G)/\J (k+1) (b++[y]) (upd f D (.lst (b++[y])))) /\
   ∀b c,J G.length b c->b.length=G.length->Q (.ref D) c):oX (Wq K (tM tl)) 1 (fo (uO 0)) (fm oa) (tM te) I H Q:=by
 refine⟨_,h,?_⟩;rintro x Y ⟨a,G,rfl,i,A,rest⟩;refine⟨a,rfl,⟨G,.of i⟩,λD n=>?_⟩;obtain⟨J,t,step,v⟩:=rest D n;have l:a≠D:=iI i n;refine⟨λk m b c=>k<=G.length/\m=G.length-k/\b.length=k/\c a=some (.lst G)/\J k b c,⟨_,aZ _,rfl,rfl,(bR l).trans i,t⟩,?_⟩;rintro k m b c ⟨u,rfl,g,d,j⟩;by_cases e:k=G.length
 .subst e;exact .inl ⟨⟨G,.of d,aG _⟩,v b c j g⟩
 .have o:k<G.length:=by exact XX u e
  refine .inr ⟨⟨G,_,.of d,aj o⟩,?_⟩;rintro x s ⟨rfl,y⟩;refine(Sz (No:=λ_=>False) (step k x b s (y G (.of d)) j g d)).weak ?_ (λ_ z=>z.elim);rintro w f ⟨r,q,p⟩;refine⟨by lia,r,G.length-(k+1),by lia,by exact o,rfl,?_,?_,p⟩
  .rw[aA,g];rfl
  .rw[bR l];exact q
def Inv.turnedL{t':Nat}{ch:Ψ}(a:Inv X U I H s)(k:∀b o,b∉ch->s.heap.get? b=some o->h'.get? b=some o)(d:∀b∈ch,Jh X U H b):Inv X U I H { s with heap:=h',toks:=t' }:=by
 have g:∀b u,H b=some u->b∉ch:=λb u e z=>by rw[(d b z).1]at e;cases e
 refine a.step (g':=s.gens) (d':=s.drawn) (ch:=ch) (λb f=>⟨(d b f).2.2.2.1,(d b f).2.1,(d b f).2.2.2.2.1,(d b f).2.2.2.2.2⟩) (λb o _ _ hc e _=>k b o hc e) (λb o _ _ hc e _=>⟨o.slots,k b o hc e⟩) (λ_ _ _ _ n=>n) (λb o hc e=>⟨o,k b o hc e⟩) (λ_ _ e=>e) (λ_ _ _ e=>e) (λb ps e=>⟨#[],by rw[e];simp⟩) (λm j=>?_) (λb u e=>?_) a.bare
 .obtain⟨o,es,l,i,r⟩:=j;exact⟨o,es,l,k _ o (λz=>(d _ z).2.1 rfl) i,r⟩
 .refine(a.hok b u e).stay (λc v hc q=>k c v ?_ q) (λ_ q=>q) λ_ _ q=>q;rcases hc with z|z
  .rw[z];exact g b u e
  .exact g c _ z
def qM(a b:Addr):It:=⟨λi H=>∃G c,H a=some (.lst G)/\H b=some (.lst c)/\i<G.length/\i<c.length,λi H v H'=>∃G c x y t,H a=some (.lst G)/\H b=some (.lst c)/\G[i]?=some x/\c[i]?=some y/\H t=none/\v=.ref t/\H'=upd H t (.tup [x,y]),λi H=>∃G c,H a=some (.lst G)/\H b=some (.lst c)/\(G.length<=i\/c.length<=i)⟩
def pW{g:Heap}{l:Addr}(x:h.IsListIter a l i)(k:∀o,h.get? a=some o->g.get? a=some o):g.IsListIter a l i:=by obtain⟨o,e,r⟩:=x;exact⟨o,k o e,r⟩
def QM{vs:Θ} : z1 G vs->∀{i:Nat}{x:V},G[i]?=some x->∃u,vs[i]?=some u/\z0 x u:=by
 intro h
 induction h with
 |nil=>intro i x e;cases e
 |cons a b c =>
  intro i x e;cases i with
  |zero=>rw[List.getElem?_cons_zero]at e;cases e;exact⟨_,rfl,a⟩
  |succ i=>rw[List.getElem?_cons_succ]at e ⊢;exact c e
def adB{x1}(z TI TO l j Y W:Addr)(D:ZipApart z TI TO l j Y W) :
  Turn P w K (.Tuple ci x1 O) (qM Y W) [z,TI,TO,l,j] z (λi h=>IsZip h z TI TO .none/\IsPair h TI (.ref l) (.ref j)/\(∃p q,IsPair h TO p q)/\h.IsListIter l Y i/\h.IsListIter j W i) where
 mem:=by simp
 obj:=by
  rintro i h ⟨g,m,⟨p,q,B⟩,⟨o4,A,_,d4⟩,⟨o5,t,_,d5⟩⟩ b f;simp only[YU,VQ,or_false]at f;rcases f with rfl|rfl|rfl|rfl|rfl
  .exact⟨_,g,λv e=>by cases e⟩
  .exact⟨_,m,λv e=>by cases e⟩
  .exact⟨_,B,λv e=>by cases e⟩
  .exact⟨_,A,λv e=>by rw[d4]at e;cases e⟩
  .exact⟨_,t,λv e=>by rw[d5]at e;cases e⟩
 keep:=λi h h' ⟨g,m,⟨p,q,B⟩,A,t⟩ k=>⟨k z vz _ g,k TI vz _ m,⟨p,q,k TO vz _ B⟩,pW A (k l vz),pW t (k j vz)⟩
 item:=by
  intro X hP hw hK hc i U s I H E d J st hg;subst hP hw hK;obtain⟨g,m,⟨p,q,B⟩,A,t⟩:=st;obtain⟨G,r,L,f,pV,S⟩:=hg;obtain⟨_,gf,R,ia,V,g1⟩:=d.lstM L;obtain⟨_,Z,Q,o6,T,g2⟩:=d.lstM f;have ex:G[i]?=some G[i]:=aj pV;have ey:r[i]?=some r[i]:=aj S;obtain⟨u,hu,ru⟩:=QM ia ex;obtain⟨v,hv,rv⟩:=QM o6 ey;refine wpAny_pyNext_zip_item D g m B A t (xs:=gf.toArray) (ys:=Z.toArray) ⟨_,g1,rfl,R,rfl⟩ ⟨_,g2,rfl,Q,rfl⟩ (x:=u) (y:=v) (by simpa using hu) (by simpa using hv) λh' a1 a2 a3 a4 a5 a6 a7=>⟨_,rfl,?_⟩;refine wpAny_letOwnedTupleGo_zip a1 λh2 hZ sb=>?_;have nt:H s.zs=none:=d.fresh;have I1:=d.laid (a:=s.zs) (o:=.tup [G[i],r[i]]) (h':=s.heap.push { cls:=.type "tuple",data:=.seq #[u,v] }) (t':=s.toks) (λb q z=>aH _ z) (aG _)
   ⟨(by show 2<=sizeLine;decide),[u,v],.cons ru (.cons rv .nil),_,aW _ rfl,rfl,_,rfl⟩
  have nz:z≠s.zs:=aQ (aK g);have nO:TO≠s.zs:=aQ (aK B);have nI:TI≠s.zs:=aQ (aK m);have pM:l≠s.zs:=by obtain⟨o,e,_⟩:=A;exact aQ (aK e)
  have N:j≠s.zs:=by obtain⟨o,e,_⟩:=t;exact aQ (aK e)
  have l6:∀b∈[z,TI,TO,l,j],upd H s.zs (.tup [G[i],r[i]]) b=none:=by
   intro b f;have C:=(J b f).1;simp only[YU,VQ,or_false]at f;rcases f with rfl|rfl|rfl|rfl|rfl
   .exact(bR nz).trans C
   .exact(bR nI).trans C
   .exact(bR nO).trans C
   .exact(bR pM).trans C
   .exact(bR N).trans C
  have I2:=I1.turnedL (ch:=[z,TO,l,j]) (h':=h2) (t':=s.toks) (λb M f e=>by
   simp only[YU,VQ,or_false,not_or]at f;obtain⟨b1,b2,b3,b4⟩:=f;refine(sb.2 b b1).trans ?_;by_cases hs:b=s.zs
   .subst hs;have e2:=aW s.heap (o:={ cls:=.type "tuple",data:=.seq #[u,v] }) rfl;have e:(s.heap.push { cls:=.type "tuple",data:=.seq #[u,v] }).get? s.zs=some M:=e;rw[e2]at e;cases e;exact a5
   .exact a7 b _ b1 b2 b3 b4 (Qj e hs)) λb f=>by
    have cr:b∈[z,TI,TO,l,j]:=by
     simp only[YU,VQ,or_false]at f ⊢;rcases f with h|h|h|h<;>simp[h]
    exact⟨l6 b cr,(J b cr).2⟩
  have F:∀c o,c≠z->h'.get? c=some o->h2.get? c=some o:=λc o n e=>(sb.2 c n).trans e;exact⟨.ref _,_,I2,rfl,⟨G,r,_,_,_,L,f,ex,ey,nt,rfl,rfl⟩,⟨hZ,F _ _ D.TIz (a7 _ _ D.TIz D.TITO D.TIi1 D.TIi2 m),⟨_,_,F _ _ D.TOz a2⟩,pW a3 λo e=>F _ _ D.i1z e,pW a4 λo e=>F _ _ D.i2z e⟩,l6⟩
 done:=by
  intro X hP hw hK hc i U s I H E d J st hg;subst hP hw hK;obtain⟨g,m,⟨p,q,B⟩,A,t⟩:=st;obtain⟨G,r,L,f,lt⟩:=hg;obtain⟨_,gf,R,ia,V,g1⟩:=d.lstM L;obtain⟨_,Z,Q,o6,T,g2⟩:=d.lstM f;refine wpAny_pyNext_zip_end (d.ok.hd hc) D g m B A t (xs:=gf.toArray) (ys:=Z.toArray) ⟨_,g1,rfl,R,rfl⟩ ⟨_,g2,rfl,Q,rfl⟩ (by simp;lia) λh' k=>⟨rfl,d.turnedL (ch:=[z,TO,l,j]) (t':=s.toks) (λb M f e=>?_) λb f=>?_⟩
  .simp only[YU,VQ,or_false,not_or]at f;exact k b M f.1 f.2.1 f.2.2.1 f.2.2.2 e
  .exact J b (by
    simp only[YU,VQ,or_false]at f ⊢;rcases f with h|h|h|h<;>simp[h])
 self:=λ_ _ _ _ _ ⟨g,_⟩ h=>wpAny_pyIter_zip g h
def acp(n b a:Nat)(d:b<n)(c:a<n):ZipApart (n+4) (n+2) (n+3) n (n+1) b a:=by
 constructor<;>first|exact aQ (by omega)|exact UY wE
def agR(n b:Nat)(h:b=n+4\/b=n+2\/b=n+3\/b=n\/b=n+1):n<=b:=by lia
def boot_zip:bootBuiltins "zip"=some (.type "zip"):=by decide +kernel
def Ae(ta:TA):TI:=λI H R=>ta I H λvs Y=>∃a b G c,vs=[.ref a,.ref b]/\Y a=some (.lst G)/\Y b=some (.lst c)/\R (qM a b) Y
def FI{a b:Expr}{ta:TA}{w}{p V:Pos}(M:Gl X "zip")(L:X.mg "zip"=none)(N:PA X [a,b] ta)(K:‹starEach [a,b] X.env=[(false,eval a X.env),(false,eval b X.env)]›)(l:‹starEach [b] X.env=[(false,eval b X.env)]›) :
  PI X (.Tuple ci w V) (.Call (.Name "zip" p) [a,b] [] O) (Ae ta):=by
 intro U s I H R c h;refine Call_ (Df c M L boot_zip (PyProof.Rows.callWith_type1 (ap (N O U s I H _ c h) λZ d P=>?_) (by rw[K,l]) (by rw[l];rfl)));obtain⟨vs,Y,f,z,A⟩:=P;obtain⟨i,g,G,t,e,S,Q,q⟩:=A;subst e;obtain⟨u,v,rfl,y,x⟩:=z.two;cases y;cases x;obtain⟨_,T,D,ia,F,g1⟩:=f.lstM S;obtain⟨_,J,C,o6,E,k⟩:=f.lstM Q;have r:=aK g1;have o:=aK k;refine call_zip_2 (xs:=T.toArray) (ys:=J.toArray) ⟨_,g1,rfl,D,rfl⟩ ⟨_,k,rfl,C,rfl⟩ λh' n a2 a3 a4 a5 a6 W=>?_;refine wpAny_pyIter_zip n ?_;refine⟨_,[d.zs+4,d.zs+2,d.zs+3,d.zs,d.zs+1],_,qM i g,Y,rfl,f.kept (t':=d.toks) λb B e=>W b B e,adB _ _ _ _ _ i g (acp _ _ _ r o),⟨n,a2,⟨_,_,a3⟩,a4,a5⟩,λb j=>?_,q⟩;have m:d.zs<=b:=by
  simp only[YU,VQ,or_false]at j;exact agR _ _ j
 exact f.fpOk m (f.hok.fresh m)
def abO{ta:TA}(h:ta I H λvs Y=>∃a b G f,vs=[.ref a,.ref b]/\Y a=some (.lst G)/\Y b=some (.lst f)/\G.length=f.length/\∃J:Nat->L2.St->Hp->Prop,J 0 I Y /\
   (∀k x y c H' t,G[k]?=some x->f[k]?=some y->J k c H'->H' a=some (.lst G)->H' b=some (.lst f)->H' t=none->g (.ref t) c (upd H' t (.tup [x,y])) λo N=>tb { D with nx:=λd i=>i a=some (.lst G)/\i b=some (.lst f)/\J (k+1) d i,ct:=λd i=>i a=some (.lst G)/\i b=some (.lst f)/\J (k+1) d i,bk:=D.nx } o N) /\
   ∀c H',J G.length c H'->H' a=some (.lst G)->H' b=some (.lst f)->D.nx c H'):kN (Ae (rk ta)) g tb D I H:=by
 refine⟨_,h,?_⟩;rintro vs Y ⟨a,b,G,f,rfl,r,q,C,J,B,step,M⟩;refine⟨a,b,G,f,rfl,r,q,λk m c H'=>k<=G.length/\m=G.length-k/\H' a=some (.lst G)/\H' b=some (.lst f)/\J k c H',⟨_,aZ _,rfl,r,q,B⟩,?_⟩;rintro k m c H' ⟨E,rfl,l,n,j⟩;by_cases e:k=G.length
 .subst e;exact .inl ⟨⟨G,f,l,n,.inl (aG _)⟩,M c H' j l n⟩
 .have p:k<G.length:=by exact XX E e
  refine .inr ⟨⟨G,f,l,n,p,by exact aR p (WH C)⟩,λd i=>i a=some (.lst G)/\i b=some (.lst f)/\J (k+1) d i,λd i ⟨A,z,w⟩=>⟨G.length-(k+1),by lia,by exact p,rfl,A,z,w⟩,?_⟩;rintro v Q ⟨R,P,x,y,t,u,s,L,K,F,rfl,rfl⟩;rw[l]at u;rw[n]at s;cases u;cases s;exact step k x y c H' t L K j l n F
def rs(b J:Scope):Scope:={ J with names:=J.names.map λ(n,k)=>if(k==NameKind.free&&b.kind == .function&&b.names.lookup n==some .cell)then(n,NameKind.cell)else(n,k) }
theorem IH(c:Nat):∀(n:Nat)(a:Array Nat),((replicate n #[c]).foldl (· ++ ·) a).toList=a.toList++replicate n c
 |0,a=>by simp
 |n+1,a=>by
  rw[replicate_succ,foldl_cons,IH c n,Array.toList_append,WV]
  rfl
def SL:R2:=λx y H Q=>∃c n,x=.str ⟨#[c]⟩/\y=.int n/\1<=n/\n<=1000/\∀z:Str,z.cps.toList=replicate n.toNat c->Q (.str z) H
def _3:OpR X (binaryOp .Mult) SL:=by
 intro U s I H x y v u Q a j i h;obtain⟨c,n,rfl,rfl,m,l,q⟩:=h;obtain⟨t,rfl⟩:=j;obtain⟨k,rfl⟩:=i;have d:(⟨#[c]⟩ : Str).length=1:=rfl;have b:∀z:Str,z.cps.toList=replicate n.toNat c->(Made.str z).post (EP X U I Q) s:=λz f=>⟨by
  have:z.length=n.toNat:=by
   show z.cps.size=_;rw[<- Array.length_toList,f,aN]
  exact aL (show z.length<=1001 by lia) wP,.str z,H,a.tok _,⟨_,rfl⟩,q z f⟩
 refine PySem.P.mul_str ?_ (λ_ _=>?_) (λ_ _=>?_) ?_
 .rw[Zp wE,Zp wE];rfl
 .rw[d];have:1<=(2^63-1:Int)/n:=Int.le_ediv_of_mul_le (by omega) wE;lia
 .rw[d];unfold Builtin.Str.tooLong;exact Zp (by
   have:n.toNat<=1000:=by lia
   have e:1000<=sizeLine:=by decide
   lia)
 .split
  .lia
  .split
   .rename_i g
    rw[d]at g;have e:n.toNat=1:=by
     simp at g;lia
    refine⟨.str ⟨#[c]⟩,H,a,⟨t,rfl⟩,q _ ?_⟩;rw[e];rfl
   .refine b _ ?_;show((replicate n.toNat #[c]).foldl (· ++ ·) #[]).toList=_;rw[IH];rfl
def Cx.compGC(X:Cx)(a:Φ)(J:Scope)(x0:Str)(C:Addr)(s₀:Shared)(H₀:Hp)(ex:Ψ)(pn:Δ):Cx :=
 { X with env:=compEnvC J ((x0,C+1)::xg X.env.cells J.names []) C X.env,N:=[x0]++a,s₀:=s₀,H₀:=H₀,outer:=X.stack,ex:=ex,fn:=λz=>z==x0,pn:=pn,xe:=λ_ _=>False }
theorem Ce{env:Env}{x0:Str} : ∀{a:wq}{y:Str},y≠x0->((a.map λ(n,k)=>if(k==NameKind.free&&env.scope.kind == .function&&env.kindOf n==some .cell)then(n,NameKind.cell)else(n,k)).lookup y=some .cell \/
  (a.map λ(n,k)=>if(k==NameKind.free&&env.scope.kind == .function&&env.kindOf n==some .cell)then(n,NameKind.cell)else(n,k)).lookup y=some .free)->(∀z∈a,z.2=.cell->z.1=x0)->(y,NameKind.free)∈a
 |[],y,_,h,_=>by rcases h with h|h<;>cases h
 |(n,k)::r,y,d,h,hc=>by
  have f:=@Ce env x0 r y d;have g:∀z∈r,z.2=.cell->z.1=x0:=λz i=>hc z (aJ _ i);simp only[map_cons]at h;by_cases b:(k==NameKind.free&&env.scope.kind == .function&&env.kindOf n==some .cell)
  .rw[ZY b]at h;have j:k=.free:=by
    simp only[QR,beq_iff_eq]at b;exact b.1.1
   subst j;simp only[lookup_cons]at h;cases c:y==n with
   |true=>rw[show y=n by simpa using c];exact aO
   |false=>rw[c]at h;exact aJ _ (f h g)
  .rw[ZZ b]at h;simp only[lookup_cons]at h;cases c:y==n with
   |true =>
    have e:y=n:=by simpa using c
    rw[c]at h;rcases h with h|h
    .cases h;exact absurd (e.trans (hc (n,.cell) aO rfl)) d
    .cases h;rw[e];exact aO
   |false=>rw[c]at h;exact aJ _ (f h g)
def Ou{a:Addr}{j:xn}{outer:Env}{Q:Env->Shared->Prop}(t:∀n d,cellsFrom n J.names d=(x0,n)::d)(r:∀h,pushCells h J.names=h.push { cls:=.type "cell",data:=.cell none })
 (q:∀g,g.Ns s.zs (λx=>([] : xB).reverse.lookup x)->g.IsCell (s.zs+1) none->(∀b o,s.heap.get? b=some o->g.get? b=some o)->Q (newEnv J s.zs a ((x0,s.zs+1)::j) ah none .none (some outer) builtinsNs) { s with heap:=g,toks:=s.toks+([] : xB).length }) :
  wpAny M A (newFunctionEnv J a j [] ah none .none (some outer)) Q E s:=by
 simp only[newFunctionEnv,Option.isSome_some,if_true];refine ZU (wpAny_alloc ?_);refine ZU (wpAny_layCells _ (λl c i=>by cases f:c==NameKind.cell<;>simp[f]) _ _ _ _ ?_);rw[t,r];have k:(s.heap.push { cls:=.type "dict",data:=.dict #[] }).objs.size=s.zs+1:=Heap.size_push ..;show wpAny _ _ (forIn ([] : xB) _ _ >>= _) _ _ _;rw[List.forIn_nil];refine ZU (ZT (ZT ?_));have p:=aW (s.heap.push { cls:=.type "dict",data:=.dict #[] }) (o:={ cls:=.type "cell",data:=.cell none }) rfl;rw[k]at p;show Q (newEnv J s.zs a ((x0,(s.heap.push { cls:=.type "dict",data:=.dict #[] }).objs.size)::j) ah none .none (some outer) builtinsNs) _;rw[k];exact q _ ((Heap.Ns.new s.heap (.type "dict")).at' λo e=>aH _ e) ⟨_,p,rfl⟩ λb o e=>aH _ (aH _ e)
def lc{y:Str}{d c:Addr}(e : [(x0,d)].lookup y=some c):y=x0/\c=d:=by
 rw[lookup_cons]at e;cases a:y==x0 with
 |true=>rw[a]at e;cases e;exact⟨by simpa using a,rfl⟩
 |false=>rw[a]at e;cases e
def ext1(k:∀n a,cellsFrom n J.names a=(x0,n)::a)(j:∀h,pushCells h J.names=h.push { cls:=.type "cell",data:=.cell none })(d:∀y∈J.names,y.2=.cell->y.1=x0):X5 X J [x0] (λC=>[(x0,C+1)]) (λz=>z==x0) :=
 ⟨λi=>Ou k j λg l p f=>i g l (λy c e=>by rwa[(lc e).2]) f,λC y c e=>by rw[(lc e).2];exact X2 _,λC y z c o m=>(lc o).1.trans (lc m).1.symm,λC y e=>⟨C+1,by rw[beq_iff_eq.mp e];exact List.lookup_cons_self⟩,λC y e=>by
  rw[lookup_cons,beq_eq_false_iff_ne.mpr λz=>e (by rw[z];simp)]
  rfl,λC y e=>by
  by_cases b:y=x0
  .exact .inl ⟨C+1,by rw[b];exact List.lookup_cons_self⟩
  .exact .inr (Ce b e d)⟩
def OQ:Ζ->Hp->VK->Prop:=λG H Q=>∃(l:Addr)(a:wn),G=[.ref l]/\H l=some (.lst (a.map V.bl))/\Q (.bl (a.any id)) H
theorem wV:∀a:wn,((range a.length).any λi=>(a[i]?).getD true)=a.any id
 |[]=>rfl
 |b::a=>by
  rw[length_cons,List.range_succ_eq_map,any_cons,any_map,any_cons];have:=wV a;simp only[Function.comp_def,List.getElem?_cons_succ,List.getElem?_cons_zero,getD_some,id]at this ⊢;rw[this]
def ab6(hc:X.calm):iH X (.builtin "any") OQ:=by
 intro U s I H G Z Q a r h;obtain⟨l,d,rfl,n,q⟩:=h;obtain⟨u,rfl,k⟩:=r.one;cases k;obtain⟨c,f,p⟩:=a.lstIs n;have x:l<s.zs:=by obtain⟨_,e,_⟩:=p;exact aK e
 refine call_any_walk (wpAny_pyIter_list p ?_);refine⟨s.zs,[s.zs,l],[s.zs],c.toArray.size,_,_,λi=>(d[i]?).getD true,rfl,Walks.list (A:=X.A.in1) (a.ok.hd hc) _ l (aQ x) c.toArray,
  ⟨⟨_,aW _ rfl,rfl,rfl⟩,p.push _⟩,λi v y z B w g=>?_,λh' j t=>?_⟩
 .obtain⟨b,e,rfl⟩:=G5 f i v (by simpa using w);simp only[e,getD_some]at g;exact wpAny_truthy_bool g
 .have e:((range c.toArray.size).any λi=>(d[i]?).getD true)=d.any id:=by
   rw[aX,<- f.length,ak];exact wV d
  refine⟨.bl (d.any id),H,a.kept (t':=j) λb o q=>t b o (λm=>?_) (aH _ q),?_,q⟩
  .rw[YR.mp m]at q;exact Wp _ (aK q)
  .rw[e];rfl
def qV(l:Addr):It:=⟨λi H=>∃G,H l=some (.lst G)/\i<G.length,λi H v H'=>∃G x t,H l=some (.lst G)/\G[i]?=some x/\H t=none/\v=.ref t/\H'=upd H t (.tup [.int i,x]),λi H=>∃G,H l=some (.lst G)/\G.length<=i⟩
def acq{Z}(e m l:Addr)(R:e≠m) :
  Turn P w K (.Tuple ci Z O) (qV l) [e,m] e (λi h=>(∃g,IsEnum h e m ((i:Nat):Int) g)/\h.IsListIter m l i) where
 mem:=by simp
 obj:=by
  rintro i h ⟨⟨g,j⟩,⟨o4,p,_,d4⟩⟩ b f;simp only[YU,VQ,or_false]at f;rcases f with rfl|rfl
  .exact⟨_,j,λv e=>by cases e⟩
  .exact⟨_,p,λv e=>by rw[d4]at e;cases e⟩
 keep:=λi h h' ⟨⟨g,j⟩,p⟩ k=>⟨⟨g,k e vz _ j⟩,pW p (k m vz)⟩
 item:=by
  intro X J hw L hc i U s I H E d r st F;subst J hw L;obtain⟨⟨g,j⟩,p⟩:=st;obtain⟨G,t,pV⟩:=F;obtain⟨_,M,B,D,C,g1⟩:=d.lstM t;have W:G[i]?=some G[i]:=aj pV;obtain⟨u,hu,ru⟩:=QM D W;refine wpAny_pyNext_enum_item j p (items:=M.toArray) ⟨_,g1,rfl,B,rfl⟩ (x:=u) (by simpa using hu) R λh' a1 a3 a5 a6 a7=>⟨_,rfl,?_⟩;refine wpAny_letOwnedTupleGo_enum a1 λT hZ N=>?_;have nt:H s.zs=none:=d.fresh;have I1:=d.laid (a:=s.zs) (o:=.tup [.int i,G[i]]) (h':=s.heap.push { cls:=.type "tuple",data:=.seq #[.int i s.toks,u] }) (t':=s.toks+1) (λb q z=>aH _ z) (aG _)
   ⟨(by show 2<=sizeLine;decide),[.int i s.toks,u],.cons ⟨_,rfl⟩ (.cons ru .nil),_,aW _ rfl,rfl,_,rfl⟩
  have nz:e≠s.zs:=aQ (aK j);have pM:m≠s.zs:=by obtain⟨o,e,_⟩:=p;exact aQ (aK e)
  have Q:∀b∈[e,m],upd H s.zs (.tup [.int i,G[i]]) b=none:=by
   intro b f;have V:=(r b f).1;simp only[YU,VQ,or_false]at f;rcases f with rfl|rfl
   .exact(bR nz).trans V
   .exact(bR pM).trans V
  have I2:=I1.turnedL (ch:=[e,m]) (h':=T) (t':=s.toks+1) (λb A f z=>by
   simp only[YU,VQ,or_false,not_or]at f;obtain⟨Y,b3⟩:=f;refine(N.2 b Y).trans ?_;by_cases S:b=s.zs
   .subst S;have e2:=aW s.heap (o:={ cls:=.type "tuple",data:=.seq #[.int i s.toks,u] }) rfl;have z:(s.heap.push { cls:=.type "tuple",data:=.seq #[.int i s.toks,u] }).get? s.zs=some A:=z;rw[e2]at z;cases z;exact a5
   .exact a7 b _ Y b3 (Qj z S)) λb f=>⟨Q b f,(r b f).2⟩
  have mv:∀c o,c≠e->h'.get? c=some o->T.get? c=some o:=λc o n z=>(N.2 c n).trans z;exact⟨.ref _,_,I2,rfl,⟨G,_,_,t,W,nt,rfl,rfl⟩,⟨⟨_,by rwa[Int.natCast_add]⟩,pW a3 λo z=>mv _ _ (λy=>R y.symm) z⟩,Q⟩
 done:=by
  intro X J hw L hc i U s I H E d r st F;subst J hw L;obtain⟨⟨g,j⟩,p⟩:=st;obtain⟨G,t,lt⟩:=F;obtain⟨_,M,B,D,C,g1⟩:=d.lstM t;have hl:=D.length;refine wpAny_pyNext_enum_end (d.ok.hd hc) j p (items:=M.toArray) ⟨_,g1,rfl,B,rfl⟩ (by simp;lia) λh' k=>⟨rfl,d.turnedL (ch:=[e,m]) (t':=s.toks) (λb A f z=>?_) r⟩;simp only[YU,VQ,or_false,not_or]at f;exact k b A f.2 z
 self:=λ_ _ _ _ _ ⟨⟨_,j⟩,_⟩ h=>wpAny_pyIter_enum j h
def P4(ta:TA):TI:=λI H R=>ta I H λvs Y=>∃a G,vs=[.ref a]/\Y a=some (.lst G)/\R (qV a) Y
def agZ{a:Expr}{ta:TA}{l}{p E:Pos}(y:Gl X "enumerate")(x:X.mg "enumerate"=none)(A:PA X [a] ta)(w:‹starEach [a] X.env=[(false,eval a X.env)]›) :
  PI X (.Tuple ci l E) (.Call (.Name "enumerate" p) [a] [] O) (P4 ta):=by
 intro U s I H R c h;refine Call_ (Df c y x boot_enumerate (PyProof.Rows.callWith_type1 (ap (A O U s I H _ c h) λZ d B=>?_) (by rw[w];rfl) (by rfl)));obtain⟨vs,Y,f,n,o⟩:=B;obtain⟨g,G,e,C,q⟩:=o;subst e;obtain⟨u,rfl,m⟩:=n.one;cases m;obtain⟨_,D,t,K,v,g1⟩:=f.lstM C;refine call_enumerate_list (items:=D.toArray) ⟨_,g1,rfl,t,rfl⟩ λh' k J L F=>?_;refine wpAny_pyIter_enum k ?_;refine⟨_,[d.zs+1,d.zs],_,qV g,Y,rfl,f.kept (t':=d.toks) λb r e=>F b r e,acq _ _ g (Nat.succ_ne_self _),⟨⟨_,k⟩,J⟩,λb i=>?_,q⟩;have j:d.zs<=b:=by
  simp only[YU,VQ,or_false]at i;rcases i with z|z
  .rw[z];exact Xs _
  .rw[z];exact aG _
 exact f.fpOk j (f.hok.fresh j)
section
variable{prog:Program}{w:World}{A:Around}{E:Ε}{h:Heap}{g:wy}{d:Drawn}{t:Nat}{os:OsState}{nm q:Str}{C N:Addr}{bs bm nS:Θ}{g4:Bool}{sn:Φ}{sub:Θ}{ab:Bool}{col:wx}{dd:Ξ}{k0 k1 k2 k3 k5:Ω}{B fc gh:String}
abbrev Qq(h:Heap)(C:Addr)(Z:Θ):Heap:=(h.push { cls:=.type "tuple",data:=.seq Z.toArray }).push { cls:=.ref C,data:=.fields #[.ref h.objs.size,.none,.none,.none,.bool false,.none] }
def I8(b:Addr)(o:Obj)(e:h.get? b=some o):(Qq h C Z).get? b=some o:=aH _ (aH _ e)
def Oz(F:ExcBaseFacts B fc gh nS)(T:OwnTail h nS bm){i:Obj}{Q:Fin->Shared->Prop}(a:h.get? C=some (excClassObj nm q C N bs bm g4 sn sub ab col dd k0 k1 k2 k3 k5 fc))(l:h.Ns N mN)(n:mN "__init__"=some (.ref fI))(o:h.get? fI=some i)(p:i.cls=.type "function")(m:Z.length<=sizeLine)
 (k:wpAny (model prog w) A (call (.ref fI) (.ref (h.objs.size+1)::Z)) (λr f=>r=.none/\Q (.done (.ret (.ref (h.objs.size+1)))) f) E ⟨Qq h C Z,g,d,t,os⟩):wpAny (model prog w) A (Builtin.«type.__call__» ⟨.ref C::Z,[]⟩) Q E ⟨h,g,d,t,os⟩:=by
 have K:=I8 (h:=h) (C:=C) (Z:=Z);have j:=K _ _ a;have u:=T.keeps K;have c:(Qq h C Z).get? (h.objs.size+1)=some { cls:=.ref C,data:=.fields #[.ref h.objs.size,.none,.none,.none,.bool false,.none] }:=by heap_get
 have b:(Value.ref C::bm).contains (.ref C):=by simp
 repeat (first|with_reducible refine wpAny_loadPart_at a ?_|with_reducible refine wpAny_madeBy_exc a ?_|wp_step)
 refine codeAny_call_builtin_code (Code.quiet_builtin _ F.quiet) (wpAny_check_new_subT F T a (codeAny_exc_new_subT F T a ?_ m));show wpAny _ _ _ _ _ _;unfold isInstance
 repeat (first|with_reducible refine wpAny_loadPart_at c ?_|(with_reducible refine wpAny_isSubtype_exc j ?_;rw[b])|wp_step)
 show wpAny _ _ (typeLookup (.ref C) _) _ _ _;refine wpAny_typeLookup_tail j (l.keeps K) u F.mroIs F.init.lookup ?_;rw[n];refine wpAny_holding (ZU ?_);unfold bindSpecial;refine ZU (wpAny_typeOf (T:="function") ⟨_,K _ _ o,p⟩ ?_);rw[ZY wP];refine ZT (ZU (wpAny_mono k (λr f s=>?_) λ_ _ x=>x));obtain⟨e,z⟩:=s;subst e
 wp_walk
 exact z
def afJ(F:ExcBaseFacts B fc gh nS)(T:OwnTail h nS bm){b:Obj}{Q:Ε}(a:h.get? C=some (excClassObj nm q C N bs bm g4 sn sub ab col dd k0 k1 k2 k3 k5 fc))(f:h.Ns N mN)(j:mN "__init__"=some (.ref fI))(k:h.get? fI=some b)(l:b.cls=.type "function")(i:Z.length<=sizeLine)
 (e:wpAny (model prog w) (A.under (.builtin "type.__call__" ⟨.ref C::Z,[]⟩)) (call (.ref fI) (.ref (h.objs.size+1)::Z)) (λr c=>r=.none/\Q (.ref (h.objs.size+1)) c) E ⟨Qq h C Z,g,d,t,os⟩):wpAny (model prog w) A (call (.ref C) Z) Q E ⟨h,g,d,t,os⟩:=by
 have o:=tc_lookup;have n:=tc_bind (.ref C);have m:(⟨h,g,d,t,os⟩ : Shared).TypeIs (.ref C) "type":=⟨_,a,rfl⟩;refine wpAny_call (codeAny_of_tree ?_);show wpAny _ _ (callAny (.ref C) _) _ _ _
 repeat (any_goals (first|assumption|with_reducible refine wpAny_loadPart_at a ?_|wp_step))
 exact⟨rfl,codeAny_call_builtin_at (Code.quiet_builtin _ (by decide +kernel)) entry_typeCall (wpAny_check_type_call_sub a (Oz F T a f j k l i e))⟩
end
def Q7:Θ->Bool
 |.ref _::l=>Q7 l
 |l=>l==fM
def Zi{a:Value}{l:Θ}(h:Q7 l):refuseLoop a "__setattr__" l=pure ():=by
 induction l with
 |nil=>cases h
 |cons x l b =>
  cases x with
  |ref C=>rw[refuseLoop_ref];exact b h
  |type n =>
   have e:Value.type n::l=fM:=beq_iff_eq.mp h;rw[e];exact PySem.F.store_ValueError.passes a
  |_=>exact absurd (beq_iff_eq.mp h) nofun
structure i9(K:Frag)(C:Addr):Prop where
 cd:∃cd,clsIn K C=some cd/\cd.hasDict/\Q7 cd.mro
 sa:findIn K (.ref C) "__setattr__"=some (some (.builtin "object.__setattr__"))
 mo:mroIn K C (.type "object")=some true
def _Y(X:K.In s.heap)(S:i9 K C)(n:cD K C f)(h:s.heap.get? x=some ox)(hc:ox.cls=.ref C)(hd:ox.dict=none)(j:ox.data=.fields vs)
 (O:∀h' D,h'.Ns1 s.zs (λy=>if y=f then some v else none)->h'.get? x=some { ox with dict:=some s.zs }->(∀b,b≠x->b≠s.zs->h'.get? b=s.heap.get? b)->Q () ⟨h',s.gens,s.drawn,D,s.os⟩):wpAny (model prog w) A (setAttr (.ref x) f v) Q E s:=by
 obtain⟨cd,B,l,P⟩:=S.cd;have J:PySem.W.InstAt s.heap x ox C none:=⟨h,hc,by unfold notCls;rw[j],by rw[hd];trivial⟩;have e:=PySem.F.store_object;refine set_plain X J S.sa ?_;have sub:PySem.W.Looks (model prog w) s.heap (isInstance (.ref x) (.type "object")) true:=J.type.andThen (looks_mroIn X S.mo);have q:PySem.W.Looks (model prog w) s.heap (mroOf (.ref C)) cd.mro:=(looks_clsIn X B).andThen .now;generalize u:({ s with toks:=s.toks+1 } : Shared)=s1;have o:s1.heap=s.heap:=by rw[<- u]
 rw[<- o]at sub q X J;refine codeAny_call_builtin e.slot.plain e.entry (@PySem.W.check_slot (model prog w) _ _ s1 "object.__setattr__" "object" "__setattr__" (.ref x) [.str f s.toks,v] [] _ e.kind e.split sub (e.args (.ref x) (.str f s.toks) v) ?_);rw[PySem.W.osa_eq,refuse_eq];refine ZU (ZU (J.type.here (ZU (q.here ?_))));rw[Zi P];refine ZT (ZU (J.type.here (ZU ((looks_findIn X n).here (ZU (ZT ?_))))));have c:s1.heap.get? x=some ox:=by rwa[o]
 obtain⟨oc,L,M,eK⟩:=ox;dsimp only at hc hd j;subst hc hd j;refine ZU (ZT (ZU (ZU (wpAny_loadPart c (ZU ((looks_clsIn X B).here ?_))))));rw[l,ZZ vz,ZZ (by simp[typeHasDict])];have U:=u;obtain⟨Z,gg,dr,V,os⟩:=s1;dsimp only at c o ⊢;cases U;have a:x≠s.zs:=aQ (aK h);refine ZU (wpAny_alloc' (ZU (wpAny_update' (aH _ h) (ZT ?_))));generalize k:(s.heap.push { cls:=.type "dict",data:=.dict #[] }).update x _=m;have I:m.get? s.zs=some { cls:=.type "dict",data:=.dict #[] }:=by
  rw[<- k];exact(Heap.get?_update_ne _ _ _ _ a.symm).trans (Heap.get?_push_at rfl rfl)
 have q2:m.get? x=some { cls:=.ref C,dict:=some s.zs,data:=.fields vs,slots:=eK }:=by
  rw[<- k];exact Heap.get?_update_self _ (aH _ h) rfl
 have q3:∀b,b≠x->b≠s.zs->m.get? b=s.heap.get? b:=λb i g=>by
  rw[<- k];exact(Heap.get?_update_ne _ _ _ _ i).trans (Heap.get?_push_ne _ _ _ g)
 dsimp only;unfold Builtin.ObjectAttr.storeInDict Builtin.ObjectAttr.newKeyGuard;refine ZU (ZT (ZU (wpAny_nsSet1 (Heap.Ns1.of_empty ⟨_,#[],_,I,rfl,λ_ z=>absurd z vz,λ_=>rfl⟩) λh' t r=>?_)));obtain⟨Y,R,T,H,G,N⟩:=t.count (Within.cons f v Within.nil);refine ZU (wpAny_lookBehind H (by rw[G];exact pastItsLine_dict (aL N (by rw[length_cons,List.length_nil,sizeLine_eq];exact Nat.le_add_left _ _))) ?_)
 wp_walk
 exact O h' _ t ((r.2 x a).trans q2) λb i g=>(r.2 b g).trans (q3 b i g)
structure Tg(K:Frag)(C HE fI:Addr):Prop where
 ex:∃nm qn N bs sn sub ab col dd k0 k1 k2 k3 k5,K.lookup C=some (excClassObj nm qn C N bs (.ref HE::fM) true sn sub ab col dd k0 k1 k2 k3 k5 "ValueError.__new__")/\nsOkIn K N/\nsIn K N "__init__"=some (some (.ref fI))
 he:oo K HE
 fn:∃o,K.lookup fI=some o/\o.cls=.type "function"
 kp:keepIn K (.ref C)
def agI{N:Addr}{m:Str->Ω}(X:K.In h)(G:h.Ns N m)(e:nsIn K N n=some (some v)):m n=some v:=by
 obtain⟨o,es,d,a,hd,_,b⟩:=G;rw[<- b];unfold nsIn at e;split at e
 .rename_i q
  cases(X _ _ q).symm.trans a;cases hd;unfold nsFind findBy;rw[<- Array.find?_toList];split at e
  .rename_i f c
   cases e;rw[c];rfl
  .split at e<;>cases e
 .cases e
def Tg.obj(q:Tg K C HE fI)(X:K.In h):∃f e N p d sub r c n m k j i g mN o,h.get? C=some (excClassObj f e C N p (.ref HE::fM) true d sub r c n m k j i g "ValueError.__new__") /\
  h.Ns N mN/\mN "__init__"=some (.ref fI)/\h.get? fI=some o/\o.cls=.type "function"/\OwnTail h fM (.ref HE::fM):=by
 obtain⟨f,e,N,p,d,sub,r,c,n,m,k,j,i,g,l,a,b⟩:=q.ex;obtain⟨o,lo,E⟩:=q.fn;obtain⟨M,P,w,v,I,O,u,s,J,t,L,D,B,A,z,y,x,H,G,F,T⟩:=_H X q.he;exact⟨f,e,N,p,d,sub,r,c,n,m,k,j,i,g,_,o,X _ _ l,.of_isNs (isNs_of_in X a),agI X (.of_isNs (isNs_of_in X a)) b,X _ _ lo,E,.own H G F .base⟩
abbrev Yv(C t:Addr)(d:Ξ):Obj:={ cls:=.ref C,dict:=d,data:=.fields #[.ref t,.none,.none,.none,.bool false,.none] }
def XN(a C:Addr)(d:Ξ):HO:=.ext λh=>∃t,h.get? a=some (Yv C t d)
def o1{t:Addr}{d:Ξ}(e:h.get? a=some (Yv C t d)):fQ P w H h a (XN a C d):=⟨⟨t,e⟩,⟨_,e⟩,λ_ _ ⟨u,z⟩ k=>⟨u,k _ z⟩⟩
def lb{d:Ξ}(e:fQ P w H h a (XN a C d)):∃t,h.get? a=some (Yv C t d):=e.1
def Tb{o:HO}(e:H a=some o):upd H a o=H:=by
 funext b;unfold upd;split
 .rename_i z;rw[z,e]
 .rfl
structure oS(K:Frag)(B:Addr):Prop where
 ga:specialIn K (.ref B) "__getattribute__"=some (some (.builtin "type.__getattribute__"))
 rd:readsIn K B (.type "type")
 at_:findCls K (.ref B) (.type "type") "__init__"=some (.val (.builtin "ValueError.__init__"))
section
variable{X:Cx}{B C HE fI:Addr}{x:Str}{p O ai:Pos}{e:Expr}{es:xb}{t:TA}{U:Δ}{I:L2.St}{H:Hp}{s:Shared}
def init_exc{Q:Ε}(c:Inv X U I H s)(q:Tg X.K C HE fI)(f:H a=some (XN a C none))(P:Z.length<=sizeLine)
 (h:∀g,Inv X U I H g->Q .none g):wpAny (model X.prog X.w) A (call (.builtin "ValueError.__init__") (.ref a::Z)) Q E s:=by
 obtain⟨B,y,N,bs,r,sub,ab,m,Y,O,M,L,G,D,mN,o,l,V,R,S,p,T⟩:=q.obj c.kIn;obtain⟨u,i⟩:=lb (c.hok a _ f);have F:=PySem.F.excBase_ValueError;obtain⟨d,W,dr,k,os⟩:=s;refine wpAny_call (codeAny_call_builtin F.init.plain F.initEntry (wpAny_check_init_subT F T l i rfl ?_))
 wp_walk
 refine h _ ?_;have j:(d.push { cls:=.type "tuple",data:=.seq Z.toArray }).get? a=some (Yv C u none):=aH _ i;have J:=c.write (x:=a) (e:=a) (o:=XN a C none) (t':=k) (h':=(d.push { cls:=.type "tuple",data:=.seq Z.toArray }).update a (Obj.mapFields λx=>x.setIfInBounds 0 (Value.ref d.objs.size))) (by rw[f];trivial) (.inl rfl)
  (λb v n z=>(Heap.get?_update_other _ _ (Ne.symm n)).trans (aH _ z)) ⟨_,Heap.get?_update_self _ j rfl⟩ (o1 (t:=d.objs.size) (Heap.get?_update_self _ j rfl))
 rwa[Tb f]at J
def Zl(C:Addr)(t:TA):TE:=λI H Q=>t I H λvs Y=>∃a b,vs=.ref a::b/\Y a=some (XN a C none)/\b.length<=sizeLine/\Q .non Y
def afv(c:oS X.K B)(q:Tg X.K C HE fI)(m:Gl X x)(l:X.mg x=some (.ref B))(n:PA X (e::es) t)(y:autoParam (zz x) zP4)
 (w:‹zw X e es›)(z:‹zg X O es›)
 (k:‹eval (.Call (.Attribute (.Name x p) "__init__" ai) (e::es) [] O) X.env=(do
   let d <- eval (.Name x p) X.env
   standAt ai.atName
   let(f,first) <- holding [d] (getMethod d "__init__" pl)
   callWith O f first (backTo O (starEach (e::es) X.env)) (backToKw O (keywordEach [] X.env)))›) :
  PE X (.Call (.Attribute (.Name x p) "__init__" ai) (e::es) [] O) (Zl C t):=by
 intro U s I H Q b h;refine methodCall_KW (pl:=pl) (sE b m l (method_cls b.kIn c.ga (cls_value b.kIn c.rd c.at_ wP ?_)) y) k;show wpAny _ _ (callWith O (.builtin "ValueError.__init__") [] (backTo O (starEach (e::es) X.env)) []) _ _ _;have g:=n O U _ I H _ (b.tok (s.toks+1)) h;rw[w]at g ⊢;refine PySem.W.callWith_of (P:=λ_=>True) (by show((false || (backTo O (starEach es X.env)).any (·.1)) || false)=false;rw[z];rfl) (λ_ _=>⟨.machine,.inr (.inl rfl),.now⟩) (Calls.evalArgs_plain (ap g λZ F ⟨vs,D,A,r,a,E,v,u,L,o⟩=>⟨trivial,?_⟩));subst v;cases r with
 |cons j i =>
  cases j;exact init_exc A q u (by rwa[<- i.length]) λG J=>⟨.non,D,J,rfl,o⟩
end
variable{v:V}
def acs(i:Inv X U I H s)(e:H a=some (XN a C none))(c:i9 X.K C)(n:cD X.K C f)(r:z0 v u)
 (h:∀d l,H d=none->d≠a->Inv X U I (upd (upd H a (XN a C (some d))) d (.xd [(f,v)])) l->Q () l):wpAny (model X.prog X.w) A (setAttr (.ref a) f u) Q E s:=by
 obtain⟨t,D⟩:=lb (i.hok a _ e);have m:H s.zs=none:=i.hok.fresh (aG _);have y:s.zs≠a:=(aQ (aK D)).symm;refine _Y i.kIn c n D rfl rfl rfl λh' k G B F=>h s.zs _ m y ?_;have J:=i.write (x:=a) (e:=a) (o:=XN a C (some s.zs)) (t':=k) (h':=h') (by rw[e];trivial) (.inl rfl) (λb w z q=>(F b z (aQ (aK q))).trans q) ⟨_,B⟩ (o1 B);refine J.track ((bR y).trans m) (Heap.get?_none_of_le i.sz) (UY i.lt) (λx c q z=>?_) (λp q z=>?_) ⟨_,G,λg=>?_⟩
 .obtain⟨w,o,j,_⟩:=i.cell x c q;rw[z]at j;exact Wp _ (aK j)
 .have j:=(i.pin p q).1;rw[z]at j;exact Wp _ (aK j)
 .by_cases z:g=f
  .subst z;simp[List.lookup];exact r
  .have:(g==f)=false:=by simp[z]
   simp[List.lookup,this,z]
   trivial
def PV(K:Frag)(ta tv:TE)(f:Str):TS:=λD I H=>tv I H λy Y=>ta I Y λx b=>∃a C,x=.ref a/\b a=some (XN a C none)/\i9 K C/\cD K C f/\∀d,b d=none->d≠a->D.nx I (upd (upd b a (XN a C (some d))) d (.xd [(f,y)]))
def _J{o:Expr}(m:PE X o ta)(k:PE X aw tv)(l:swapsWith aw (some (.Attribute o f bi)) O.line X.env=pure false):PS X (.Assign [.Attribute o f bi] aw O) (PV X.K ta tv f):=by
 intro U s I H D b h;refine plainObj_wpAny_Assign_Attribute (ap (k U s I H _ b h) λu e ⟨y,Y,B,g,q⟩=>ap (m U e I Y _ B q) λj F p=>?_) l;obtain⟨x,G,A,i,a,C,v,w,c,n,q2⟩:=p;subst v;obtain rfl:j=Value.ref a:=i;exact acs A w c n g λd E t r z=>⟨I,_,z,q2 d t r⟩
def Inv.madeE(b:Inv X U I H s):Inv X U I (upd H (s.zs+1) (XN (s.zs+1) C none)) { s with heap:=Qq s.heap C Z } :=
 b.laid (a:=s.zs+1) (o:=XN (s.zs+1) C none) (h':=Qq s.heap C Z) (t':=s.toks) I8 (Xs _) (o1 (t:=s.zs) (by heap_get))
def acF{vs:Ζ}{Q:Addr->Hp->Prop}(q:Tg X.K C HE fI)(F:fX X.prog X.w X.K X.mg X.base bc k fI fd ps sp)(B:eN (k+1) X.A)(J:Binds X.K fd ps [])
 (b:Inv X U I H s)(r:z1 vs Z)(D:Z.length<=sizeLine)(h:∀x,H x=none->sp (.ref x::vs) (upd H x (XN x C none)) (λv S=>v=.non/\Q x S) E0) :
  wpAny (model X.prog X.w) X.A (call (.ref C) Z) (λu i=>∃a H',u=.ref a/\X.s₀.zs<=a/\Inv X U I H' i/\Q a H') X.xe s:=by
 obtain⟨nm,Y,N,bs,W,sub,ab,P,dd,k0,k1,k2,k3,k5,mN,o,M,L,E,G,y,T⟩:=q.obj b.kIn;have m:=h (s.zs+1) (b.hok.fresh (Xs _));have f:=b.madeE (C:=C) (Z:=Z);have l:z1 (V.ref (s.zs+1)::vs) (Value.ref (s.zs+1)::Z):=.cons rfl r;have j:(Value.ref (s.zs+1)::Z++[]).length=ps.length:=by
  rw[append_nil,<- l.length];exact F.len _ _ _ _ m
 have p:=J _ (Value.ref (s.zs+1)::Z) f.kIn j;rw[append_nil]at p;have sz:=b.sz;obtain⟨n,g,d,t,os⟩:=s;refine afJ PySem.F.excBase_ValueError T M L E G y D (wpAny_call (codeAny_mono (F.run _ X.stack _ _ ⟨Value.ref (n.objs.size+1)::Z,[]⟩ _ _ _ E0 (B.make C Z []) (f.env0.make C Z []) p l m) λr i c=>?_));cases r with
 |error e=>exact Qa U I _ _ e i f c
 |ok fl =>
  cases fl with
  |ret u =>
   obtain⟨v,H',R,z,O,q3⟩:=f.after c;subst O;exact⟨z,n.objs.size+1,H',rfl,Nat.le_succ_of_le sz,R,q3⟩
  |next=>exact False.elim c
  |brk=>exact False.elim c
  |cont=>exact False.elim c
def out(H:Hp)(a:Addr):Hp:=λb=>if b=a then none else H b
def Xd : out H a a=none:=by unfold out;rw[ZY rfl]
def yZ(n:b≠a):out H a b=H b:=by unfold out;rw[ZZ n]
def Xw{o:HO}(e:out H a b=some o):b≠a/\H b=some o:=by
 by_cases z:b=a
 .subst z;rw[Xd]at e;cases e
 .exact⟨z,by rw[yZ z]at e;exact e⟩
section
variable{X:Cx}{U:Δ}{I:L2.St}{H:Hp}{s:Shared}{a C:Addr}{B h':Heap}{d:Ξ}
def Inv.flyMade(f:Inv X U I H s)(E:X.ex=[])(e:H a=some (XN a C d))(sz:X.s₀.zs<=a)(N:B=hideAll (s.heap.hide a) (cp X.stack))(fl:xq B X.outer a (.ref C) d .none h')(t:s.heap.UpToSlots h') :
  Fly X.prog X.w X.outer X.H₀ X.s₀ a (.ref C) (out H a) { s with heap:=h' } B d:=by
 have i:∀b o,b≠a->s.heap.get? b=some o->b∉cp X.stack->B.get? b=some o:=λb o n q m=>by rw[N];exact hideAll_get _ ((Heap.hide_ne _ n).trans q) m
 have K:∀b u,H b=some u->b∉cp X.stack:=λb u q z=>by rw[f.stkFree b z]at q;cases q
 have trk:∀b u o,b≠a->H b=some u->s.heap.get? b=some o->B.get? b=some o:=λb u o n q r=>i b o n r (K b u q);have D:∀b,H b=none->b≠a:=λb q z=>by rw[z,e]at q;cases q
 have A:∀b∈cp X.stack,∀o,s.heap.get? b=some o->∀vs,o.data≠.fields vs:=λb g o q=>by
  obtain⟨_,k,j,z⟩:=f.stack.mem g;rw[q]at j;cases j;exact z
 have hok:HOk X.prog X.w (out H a) h':=λb u q=>by
  obtain⟨n,q⟩:=Xw q;refine(f.hok b u q).stay (λc v hc r=>?_) (λc r=>?_) λc G r=>?_
  .rcases hc with z|z
   .subst z;exact fl.1 c v (trk c u v n q r)
   .exact fl.1 c v (trk c _ v (Lk z e nofun) z r)
  .rw[yZ (Lk r e nofun)];exact r
  .rw[yZ (Lk r e nofun)];exact r
 have un:Un (cp X.stack) [a] H (out H a) s.heap h':=by
  refine⟨λb o q n g _=>fl.1 b o (i b o (D b n) q g),λb o q n g _=>t b o q (A b g o q),λb o _ n _=>by rw[yZ (D b n)];exact n,λb o q g=>?_,λb G q=>?_,λb o u q=>?_,λb ps q=>⟨#[],?_⟩⟩
  .by_cases m:b∈cp X.stack
   .obtain⟨P,r⟩:=t b o q (A b m o q);exact⟨_,r⟩
   .exact⟨o,fl.1 b o (i b o (by simpa using g) q m)⟩
  .rw[yZ (Lk q e nofun)];exact q
  .rw[yZ (Lk q e nofun)];exact q
  .rw[yZ (Lk q e nofun),q];simp
 have J:Inv X U I (out H a) { s with heap:=h' }:=f.call' (s':={ s with heap:=h' }) (ch:=[a]) rfl un hok f.bare λb g=>by
  obtain rfl:b=a:=by simpa using g
  exact⟨.inr sz,(λz=>by have:=f.free;rw[<- z,e]at this;cases this),(λx c q z=>by have:=f.freeC x c q;rw[z,e]at this;cases this),(λp L z=>by have:=(f.pin p L).2.1;rw[z,e]at this;cases this)⟩
 have l:∀b o,X.s₀.heap.get? b=some o->b≠a:=λb o q z=>Wp a (aR (z ▸ aK q) sz);refine⟨J.os,J.bare,Heap.get?_none_of_le sz,by have:=J.base;rw[E]at this;exact this,J.hok,λb g=>?_,fl,λb o q g hc=>?_⟩
 .obtain⟨_,o,M,_⟩:=f.ok.funs.mem g;exact J.base.free b o M (f.ok.frf b g) λz=>f.ok.exfs b z g
 .have F:∀v,B.get? b=some v->B.get? b=some o:=λv y=>by
   have O:=fl.1 b v y;rw[show({ s with heap:=h' } : Shared).heap.get? b=h'.get? b from rfl,O]at q;cases q;exact y
  rcases hc with⟨u,r⟩|⟨u,r⟩
  .obtain⟨⟨v,z⟩,n⟩:=f.old E r;exact F v (i b v (l b u r) z (f.nostk n g))
  .obtain⟨n,r⟩:=Xw r;obtain⟨k,j⟩:=(f.hok b u r).there;exact F k (trk b u k n r j)
end
def p_(X:Cx)(b:Value->Ξ->L2.St->Hp->Prop):Prop :=
 ∀U I H s a C d,Inv X U I H s->H a=some (XN a C d)->X.s₀.zs<=a->b (.ref C) d I (out H a)->X.xe (.ref a) s
variable{f:Addr}{E:XK}
def acM:p_ (Gr (gx P w) P w K mg base N ah J f cd A outer s H E) (λC d _ H'=>E C d H'):=by
 intro U I Y g a C d c e sz q;show wpAny _ _ (leaving _ (.ref a)) _ _ _;have j:∀env∈(envOfC ah J s.zs f cd::outer),∀b,env.frame=some b->b∈cp (envOfC ah J s.zs f cd::outer):=λenv h b i=>List.mem_filterMap.mpr ⟨env,h,i⟩;obtain⟨t,l⟩:=lb (c.hok a _ e);have m:(g.heap.hide a).FunFrames base (envOfC ah J s.zs f cd::outer):=PySem.W.funFrames_hideAll (as:=[a]) c.stack λenv h b i z=>by
  obtain rfl:b=a:=by simpa using i
  have:=c.stkFree b (j env h b z);rw[e]at this;cases this
 refine acr (base:=hideAll (g.heap.hide a) (cp (envOfC ah J s.zs f cd::outer))) (h0:=g.heap.hide a) (outer:=outer) c.ok.frames rfl (λb o q=>of_hideAll _ q) (PySem.W.funFrames_hide m j) (λb o q=>Heap.of_hide q) (Heap.hide_self _ _) l rfl rfl λh' fl k=>?_;exact⟨a,.ref C,d,out Y a,_,rfl,c.flyMade rfl e sz rfl fl k,q⟩
section
variable{prog:Program}{w:World}{A:Around}{E:Ε}{s:Shared}{env:Env}{nm qn:Str}{C N:Addr}{bs bm:Θ}{hd:Bool}{sn:Φ}{sub:Θ}{ab:Bool}{col:wx}{dd:Ξ}{k0 k1 k2 k3 k5:Ω}
def acK{x:Sem Value}{Q:Flow->Shared->Prop}(f:bm.contains (.type "BaseException"))(e:A.handled=none)
 (h:wpAny (model prog w) A x (λv b=>∃a t d,v=.ref a/\b.heap.get? C=some (excClassObj nm qn C N bs bm hd sn sub ab col dd k0 k1 k2 k3 k5 "ValueError.__new__")/\b.heap.get? a=some (Yv C t d)/\E (.ref a) b) E s):wpAny (model prog w) A (raiseStmt env (some x) none) Q E s:=by
 have j:(Value.ref C::bm).contains (.type "BaseException"):=by rw[List.contains_cons,f,Bool.or_true]
 unfold raiseStmt;refine ZU (wpAny_mono h (λv b z=>?_) λ_ _ z=>z);obtain⟨a,t,d,rfl,c,g,i⟩:=z;obtain⟨l,m,dr,k,os⟩:=b
 repeat (first|with_reducible refine wpAny_loadPart_at g ?_|with_reducible refine wpAny_loadPart_at c ?_|(with_reducible refine wpAny_isSubtype_exc c ?_;rw[j])|wp_step)
 exact wpAny_raiseNew_none e i
end
section
variable{X:Cx}{x:Str}{np af O:Pos}{e₀:Expr}{rest:xb}{ta:TA}{C HE fI:Addr}{Ex:Value->Ξ->L2.St->Hp->Prop}{k:Nat}{ps:Φ}{sp:Sp}
def _Z(C:Addr)(sp:Sp)(Ex:Value->Ξ->L2.St->Hp->Prop)(ta:TA):TS:=λ_ I H=>ta I H λvs Y=>vs.length<=sizeLine/\∀a,Y a=none->sp (.ref a::vs) (upd Y a (XN a C none)) (λv b=>v=.non/\∃d,b a=some (XN a C d)/\Ex (.ref C) d I (out b a)) E0
def acv(hc:X.calm)(hg:Gl X x)(W:X.mg x=some (.ref C))(q:Tg X.K C HE fI)(G:zS X bc k fI ps sp)(V:eN (k+1) X.A)(R:p_ X Ex)(ha:PA X (e₀::rest) ta)(bS:autoParam (zz x) zP4)
 (he:‹zw X e₀ rest›)(a8:‹zg X af rest›) :
  PS X (.Raise (some (.Call (.Name x np) (e₀::rest) [] af)) none O) (_Z C sp Ex ta):=by
 obtain⟨fd,F,hb⟩:=G;intro U s I H D b h;obtain⟨v,p,N,L,n,sub,M,e,J,E,B,z,y,w,mN,o,hC,hN,hi,hf,sr,T⟩:=q.obj b.ok.mod.kin;rw[arm_exec_Raise];refine ZU (wpAny_standAt (acK (C:=C) (nm:=v) (qn:=p) (N:=N) (bs:=L) (bm:=.ref HE::fM) (hd:=true) (sn:=n) (sub:=sub) (ab:=M) (col:=e) (dd:=J) (k0:=E) (k1:=B) (k2:=z) (k3:=y) (k5:=w) (T.hasType wP) (b.ok.hd hc) ?_));refine ZU (ap (Q:=λu f=>∃a H' d,u=.ref a/\X.s₀.zs<=a/\Inv X U I H' f/\H' a=some (XN a C d)/\Ex (.ref C) d I (out H' a)) ?_ λu f ⟨a,H',d,m,l,c,g,j⟩=>ZU (wpAny_standAt (ZT ?_)))
 .refine wpAny_Call_Name_kw (sE b hg W ?_ bS);refine callWith_K (h₀:=X.base) b.ok.mod.kin q.kp (ap (ha af U s I H _ b h) λZ f ⟨vs,Y,c,r,hl,P⟩=>⟨c.kIn,?_⟩) he a8;exact ap (acF (Q:=λa i=>∃d,i a=some (XN a C d)/\Ex (.ref C) d I (out i a)) q F V hb c r (by show Z.length<=_;rwa[<- r.length]) P) λu s2 hP=>by obtain⟨a,i,m,l,I2,d,g,j⟩:=hP;exact⟨a,i,d,m,l,I2,g,j⟩
 .obtain⟨t,S⟩:=lb (c.hok a _ g);exact⟨a,t,d,m,c.bk _ _ hC,S,R U I H' f a C d c g l j⟩
end
variable{f:Str}{od:Option Obj}{E:Ε}{d:Drawn}{g:wy}
def Zb{i:Tok}{fl b:Bool}{Q:Ε}(X:K.In h)(T:ir K C)(J:PySem.W.InstAt h a o C od)(c:h.get? a=some o)(e:o.cls=.ref C)(m:PySem.W.findObj K C od f=some (.value u))(l:handedIn u)(k:Q u ⟨h,g,d,t,os⟩) :
  wpAny (model prog w) A (getAttrBy (.ref a) (.str f i) fl b) Q E ⟨h,g,d,t,os⟩:=by
 have s:=F.excAttr_ValueError.ga.bind (.ref a);have j:(Value.builtin "BaseException.__getattribute__"== Value.builtin "object.__getattribute__")=false:=by decide +kernel
 have r:(onTheHeap (Value.ref C)&&Value.builtin "BaseException.__getattribute__"== Value.builtin "object.__getattribute__")=false:=by rw[j];exact Bool.and_false _
 have LT:=Gf (M:=model prog w) c e;have p:=looks_findIn (M:=model prog w) X T.ga;have n:=looks_findIn (M:=model prog w) X T.gn;have q:=PySem.W.looks_find (M:=model prog w) X J m
 repeat (any_goals (first|assumption|with_reducible refine LT.at ?_|with_reducible refine p.at ?_|with_reducible refine n.at ?_|(with_reducible refine wpAny_loadPart_at c ?_;rw[e])|wp_step))
 rw[ZZ (show ¬(b&&onTheHeap (Value.builtin "BaseException.__getattribute__"))=true from by rw[show onTheHeap (Value.builtin "BaseException.__getattribute__")=false from rfl,Bool.and_false];exact bw)]
 repeat (any_goals (first|assumption|wp_step))
 refine codeAny_call_builtin F.excAttr_ValueError.ga.plain F.entry_bexc_ga (SN X T c e ?_)
 repeat (any_goals (first|assumption|with_reducible refine LT.at ?_|with_reducible refine q.at ?_|wp_step))
 show wpAny _ _ (handedOut u) _ _ _;rw[PySem.W.handedOut_of l];exact ZT k
variable{d:Addr}{fs:xC}
def abW{b:Bool}{Q:Ε}(i:Inv X U I H s)(e:H a=some (XO a C (some d)))(G:H d=some (.xd fs))(c:ir X.K C)(F:hasDictIn X.K C)(n:cD X.K C f)(l:fs.lookup f=some v)
 (h:∀u j,Inv X U I H j->z0 v u->Q u j):wpAny (model X.prog X.w) A (getAttr (.ref a) f b) Q E s:=by
 obtain⟨ox,m,p,hd,vs,y⟩:=(i.hok a _ e).1;obtain⟨q,B,r⟩:=i.hok d _ G;obtain⟨od,N,D⟩:=Qg B;obtain⟨u,z,k⟩:=zV.some_of (v:=v) (o:=q f) (by rw[<- l];exact r f);have J:PySem.W.InstAt s.heap a ox C (some od):=⟨m,p,by unfold notCls;rw[y],by rwa[hd]⟩;have L:=i.tok (s.toks+1);have x:=i.kIn;obtain⟨M,g,dr,t,os⟩:=s;unfold getAttr
 repeat (first|exact Zb x c J m p (findObj_own F n rfl (by rw[D,z])) (Qs k) (h u _ L k)|wp_step)
def ER(K:Frag)(ta:TE)(f:Str):TE:=λI H Q=>ta I H λx Y=>∃a C d fs v,x=.ref a/\Y a=some (XO a C (some d))/\Y d=some (.xd fs)/\ir K C/\hasDictIn K C/\cD K C f/\fs.lookup f=some v/\Q v Y
def _'(j:PE X e ta)(k:zt X e f):PE X (.Attribute e f O) (ER X.K ta f):=by
 intro U s I H Q b h;refine Hz k (ap (j U s I H _ b h) λu A m=>?_);obtain⟨x,Y,w,g,a,C,d,fs,v,o,r,p,c,hd,n,l,q⟩:=m;subst o;obtain rfl:u=Value.ref a:=g;exact abW w r p c hd n l λy z t i=>⟨v,Y,t,i,q⟩
def a_{P:Φ}{a:Scope}(f:‹a.kind=.function›)(e:‹a.isCoroutine=false›)(d:‹a.isGenerator=false›)(b:N.Nodup/\(∀x∈P,a.names.lookup x=some .local\/a.names.lookup x=some .cell)/\∀y∈a.names,y.2≠.free:=by decide +kernel)(c:‹N.take P.length=P›):bK N P a:=⟨f,e,d,b.1,c,b.2.1,b.2.2⟩
abbrev KA(sc J:Scope)(N N' G:Φ):Prop:=Qh G N=N'/\(∀y∈J.names,y.2=.local->J.names.lookup y.1=some .local)/\(∀y∈J.names,y.2=.free->sc.names.lookup y.1=some .cell\/sc.names.lookup y.1=some .free) /\
 (∀y∈N,y∉G->(J.names.map λ(n,k)=>if(k==NameKind.free&&sc.kind == .function&&sc.names.lookup n==some .cell)then(n,NameKind.cell)else(n,k)).lookup y≠some .local)/\∀y∈N,y∈G->(J.names.map λ(n,k)=>if(k==NameKind.free&&sc.kind == .function&&sc.names.lookup n==some .cell)then(n,NameKind.cell)else(n,k)).lookup (hid y)=none
abbrev CK(sc J:Scope)(N N' G:Φ):Prop:=(∀y∈J.names,y.2≠.cell)/\KA sc J N N' G
def Xg(e:Scope)(N d G:Φ)(j:PI X tg iter wi)(k:∀{C a b c pn},PG (X.compG d J G C a b c pn) tg gt)(g:∀{C a b c pn},PTs (X.compG d J G C a b c pn) aE tc)(l:∀{C a b c pn},PE (X.compG d J G C a b c pn) bj te)
 (o:‹X.env.scope=e›)(n:‹X.N=N›)(m:‹X.calm›)(f:‹J.kind=.function›)(h:CK e J N d G:=by decide +kernel)(i:zh X iter:=by intro _;rfl):PE X (.ListComp bj [⟨tg,iter,aE,0⟩] J O) (oX wi G.length (fo gt) (fm tc) (tM te)) :=
 by
 subst o n;exact W3 (AK f h.1) m h.2.1 f h.2.2.1 h.2.2.2.1 h.2.2.2.2.1 h.2.2.2.2.2 j (λ_ _ _ _ _=>k.mono) (λ_ _ _ _ _=>g.mono) (λ_ _ _ _ _=>l.mono) i
def oD{c G:Φ}{C a b d pn}{x:Str}{p:Pos}(h:(G++c).Nodup:=by decide +kernel)(f:‹(G++c)[i]?=some x›)(e:fb (X.compG c J G C a b d pn).env.scope x:=by exact Or.inl rfl)(g:(X.compG c J G C a b d pn).fn x\/(X.compG c J G C a b d pn).env.scope.names.lookup x=some .local:=by exact Or.inr rfl):PG (X.compG c J G C a b d pn) (.Name x p) (uO i):=gJ h f e g
def Pl{i j:Int}{d:Ξ}{n:Nat}{b:Array (Ω)}{t u:Tok}(l:K.lookup a=some ⟨.type "tuple",d,.seq #[.int i t,.int j u] n,b⟩):∀H,SqT K H a [.int i,.int j]:=λH=>.inr ⟨_,_,_,l,rfl,rfl,(by show 2<=sizeLine;decide),.cons ⟨_,rfl⟩ (.cons ⟨_,rfl⟩ .nil)⟩
def My{x:Str}{i:Int}{t:Tok}(X:K.In h)(G:h.Ns mainGlobals mg)(l:nsIn K mainGlobals x=some (some (.int i t))):∃u,mg x=some u/\z0 (.int i) u:=⟨_,mg_of X G l,_,rfl⟩
def l8:Nat->(Θ->Prop)->Prop
 |0,P=>P []
 |n+1,P=>∀a,l8 n λl=>P (a::l)
theorem Uj:∀(n:Nat){P:Θ->Prop},l8 n P->∀Z:Θ,Z.length=n->P Z
 |0,_,h,[],_=>h
 |n+1,_,h,a::l,e=>Uj n (h a) l (Nat.succ.inj e)
section
variable{K:Frag}{h:Heap}{mg:Str->Ω}{x m ah:Str}{v:Value}{C f:Addr}{st:Stmt}{ps:Φ}{oc:Value}{od an:Ξ}{eK:Array (Ω)}{kV b8 pm ag ct:Value}{i j:Int}{d:Ξ}{n:Nat}{sl:Array (Ω)}{t u:Tok}
def f0(X:K.In h:=by assumption)(G:h.Ns mainGlobals mg:=by assumption)(e:autoParam (nsIn K mainGlobals x=some (some v)) zP3):mg x=some v:=mg_of X G e
def d3(X:K.In h:=by assumption)(G:h.Ns mainGlobals mg:=by assumption)(e:autoParam (nsIn K mainGlobals x=some none) zP3):mg x=none:=PySem.W.mg_none_of X G e
def bz(e:autoParam (findIn K (.ref C) x=some none) zP3):cD K C x:=e
def gz(a:autoParam (findIn K (.ref C) m=some (some (.ref f))) zP3)(b:autoParam (isFn K (.ref f)) zP3)(c:autoParam (keepIn K (.ref f)) zP3):Meth K C m f:=⟨a,b,c⟩
def iS(a:autoParam (makesIn K C) zP3)(b:autoParam (findIn K (.ref C) "__init__"=some (some (.ref f))) zP3)(c:autoParam (isFn K (.ref f)) zP3)(e:autoParam (keepIn K (.ref C)) zP3):Mk K C f:=⟨a,b,c,e⟩
def hW(a:autoParam (plainGet K C Str.empty) zP3)(b:autoParam (hasDictIn K C) zP3)(c:autoParam (plainOver K C) zP3)(e:autoParam (findIn K (.ref C) "__setattr__"=some (some (.builtin "object.__setattr__"))) zP3):Cls K C:=⟨a,b,c,e⟩
def rV(a:autoParam (specialIn K (.ref C) "__getattribute__"=some (some (.builtin "type.__getattribute__"))) zP3)(b:autoParam (readsIn K C (.type "type")) zP3)(c:autoParam (findCls K (.ref C) (.type "type") m=some (.val (.ref f))) zP3)(e:autoParam (keepIn K (.ref f)) zP3):Jd K C m f:=⟨a,b,c,rfl,e⟩
def LF(X:K.In h:=by assumption)(G:h.Ns mainGlobals mg:=by assumption)(l:autoParam (nsIn K mainGlobals x=some (some (.int i t))) zP3):∃u,mg x=some u/\z0 (.int i) u:=My X G l
def rS(l:autoParam (K.lookup C=some ⟨.type "tuple",d,.seq #[.int i t,.int j u] n,sl⟩) zP3):∀H,SqT K H C [.int i,.int j]:=Pl l
def a'(b:∀(kV b8 pm:Value)(an:Ξ)(ag ct:Value),l8 ps.length λZ=>bindArgs (PySem.W.fnOf x x (jV st) (fP st) (bH st) .none kV b8 pm an ag ct) ⟨Z,[]⟩=pure (ps.zip Z):=by repeat (first|rfl|intro _))(X:K.In h:=by assumption)(G:h.Ns mainGlobals mg:=by assumption)
 (a:autoParam (nsIn K mainGlobals x=some (some (.ref f))) zP3)(l:autoParam (K.lookup f=some ⟨oc,od,.func (PySem.W.fnOf x x (jV st) (fP st) (bH st) .none kV b8 pm an ag ct),eK⟩) zP3)
 (c:autoParam (codeIn K ag x) zP3)(k:autoParam (keepIn K (.ref f)) zP3):cM K mg x st ps:=agW X G a l c k λkV b8 pm an ag ct Z e=>Uj _ (b kV b8 pm an ag ct) Z e
def fv(a:∀(kV b8 pm:Value)(an:Ξ)(ag ct:Value),l8 ps.length λZ=>bindArgs (PySem.W.fnOf x ah (jV st) (fP st) (bH st) .none kV b8 pm an ag ct) ⟨Z,[]⟩=pure (ps.zip Z):=by repeat (first|rfl|intro _))
 (l:autoParam (K.lookup f=some ⟨oc,od,.func (PySem.W.fnOf x ah (jV st) (fP st) (bH st) .none kV b8 pm an ag ct),eK⟩) zP3)(c:autoParam (codeIn K ag ah) zP3)(k:autoParam (keepIn K (.ref f)) zP3):Bu K x ah st ps f:=_N l c k λkV b8 pm an ag ct Z e=>Uj _ (a kV b8 pm an ag ct) Z e
end
variable{N:Addr}{nm qn:Str}{bs sub:Θ}{sn:Φ}{ab:Bool}{col:wx}{dd:Ξ}{k0 k1 k2 k3 k5:Ω}{cd:ClassData}{t:TA}{x:V}
def LI(e:excIn K HE fM "ValueError.__new__":=by k_exc)(l:autoParam (K.lookup C=some (excClassObj nm qn C N bs (.ref HE::fM) true sn sub ab col dd k0 k1 k2 k3 k5 "ValueError.__new__")) zP3)(b:nsOkIn K N:=by kernel_rfl)(a:autoParam (nsIn K N "__init__"=some (some (.ref fI))) zP3)
 (lf:autoParam (K.lookup fI=some o) zP3)(d:‹o.cls=.type "function"›)(c:autoParam (keepIn K (.ref C)) zP3):Tg K C HE fI:=⟨⟨nm,qn,N,bs,sn,sub,ab,col,dd,k0,k1,k2,k3,k5,l,b,a⟩,e,⟨o,lf,d⟩,c⟩
def LH(a:autoParam (clsIn K C=some cd) zP3)(b:‹cd.hasDict›)(c:‹Q7 cd.mro›)(e:autoParam (findIn K (.ref C) "__setattr__"=some (some (.builtin "object.__setattr__"))) zP3)(m:autoParam (mroIn K C (.type "object")=some true) zP3):i9 K C:=⟨⟨cd,a,b,c⟩,e,m⟩
def LG(a:autoParam (specialIn K (.ref C) "__getattribute__"=some (some (.builtin "type.__getattribute__"))) zP3)(b:autoParam (readsIn K C (.type "type")) zP3)(c:autoParam (findCls K (.ref C) (.type "type") "__init__"=some (.val (.builtin "ValueError.__init__"))) zP3):oS K C:=⟨a,b,c⟩
def LJ(a:autoParam (findIn K (.ref C) "__getattribute__"=some (some (.builtin "BaseException.__getattribute__"))) zP3)(b:autoParam (findIn K (.ref C) "__getattr__"=some none) zP3)(c:autoParam (findIn K (.ref C) "__class__"=some (some (.builtin "object.__class__"))) zP3)(e:autoParam (mroIn K C (.type "object")=some true) zP3)(m:autoParam (mroIn K C (.type "BaseException")=some true) zP3):ir K C:=⟨a,b,c,e,m⟩
def afw{K':Frag}(c:X.K=K')(a:PE X e ta)(b:zt X e f):PE X (.Attribute e f O) (ER K' ta f):=by
 subst c;exact _' a b
def NW(t:TA):TE:=λI H Q=>t I H λG Y=>G.length<=sizeLine/\∀p H',zO Y H'->Y p=none->H' p=some (.lst G)->Q (.ref p) H'
def OV(t:TA):TE:=λI H Q=>t I H λG Y=>G.length<=sizeLine/\∀p H',zO Y H'->Y p=none->H' p=some (.tup G)->Q (.ref p) H'
def IE(h:PA X es t):PE X (.List es O) (NW t):=(Sv h.mono).imp λI H Q h=>⟨_,h,λG Y z=>⟨z.1,λp a=>z.2 p _ (zO.upd a) a bY⟩⟩
def Vd(h:PA X es t):PE X (.Tuple es k O) (OV t):=(U_ h.mono).imp λI H Q h=>⟨_,h,λG Y z=>⟨z.1,λp a=>z.2 p _ (zO.upd a) a bY⟩⟩
def PH:R2:=λx y H Q=>∃l b G a,x=.ref l/\y=.ref b/\H l=some (.lst G)/\H b=some (.lst a)/\G.length+a.length<=sizeLine/\∀p H',zO H H'->H p=none->H' p=some (.lst (G++a))->Q (.ref p) H'
def Jn:OpR X (binaryOp .Add) PH:=WF.imp λx y H Q d=>by obtain⟨l,b,G,c,h,g,f,e,z,q⟩:=d;exact⟨l,b,G,c,h,g,f,e,z,λp a=>q p _ (zO.upd a) a bY⟩
def RH:Ζ->Hp->VK->Prop:=λG H Q=>∃p a,G=[.ref p]/\H p=some (.lst a)/\∀l H',zO H H'->H l=none->H' l=some (.lst a)->Q (.ref l) H'
def Lb:iH X (.type "list") RH:=C_.imp λG H Q f=>by obtain⟨p,e,a,b,c⟩:=f;exact⟨p,e,a,b,λl d=>c l _ (zO.upd d) d bY⟩
def Rg:Ζ->Hp->VK->Prop:=λG H Q=>∃p a,G=[.ref p]/\H p=some (.lst a)/\∀l H',zO H H'->H l=none->H' l=some (.tup a)->Q (.ref l) H'
def acH:iH X (.type "tuple") Rg:=Ol.imp λG H Q f=>by obtain⟨p,e,a,b,c⟩:=f;exact⟨p,e,a,.inl ⟨.of b,λl d=>c l _ (zO.upd d) d bY⟩⟩
def MY(to:TE):TE:=λI H Q=>to I H λx Y=>∃l G,x=.ref l/\Y l=some (.lst G)/\Q .non (upd Y l (.lst G.reverse))
def G'{o:Expr}(b:PE X o to)(d:‹attributeBase o "reverse" X.env (eval o X.env)=eval o X.env›)(c:‹zC ai af›) :
  PE X (.Call (.Attribute o "reverse" ai) [] [] af) (MY to):=by
 refine(Yf PySem.F.plainAttrs_list PySem.F.slot_list_reverse PySem.F.type_list_reverse ZS b.mono d c).imp λI H Q h=>?_;refine⟨_,h,?_⟩;rintro x Y ⟨l,G,rfl,a,q⟩;exact⟨.inl ⟨rfl,_,SqL.of a⟩,l,G,rfl,rfl,a,q⟩
section
variable{X:Cx}{k:Nat}{f C B:Addr}{ps:Φ}{sp:Sp}{x m:Str}{p O ai:Pos}{e:Expr}{es:xb}{t:TA}
def TC(C:Addr)(sp:Sp)(t:TA):TE:=λI H Q=>t I H λvs Y=>∀x a,Y x=none->Y a=none->a≠x->sp (.ref x::vs) (upd (upd Y a (.own x)) x (.ins C a [])) (λv b=>v=.non/\Q (.ref x) b) E0
def afK(M:Mk X.K C f)(G:zS X bc k f ps sp)(a:eN (k+1) X.A)(c:Gl X x)(b:X.mg x=some (.ref C))(i:PA X (e::es) t)(o:autoParam (zz x) zP4)
 (d:‹zw X e es›)(r:‹zg X O es›):PE X (.Call (.Name x p) (e::es) [] O) (TC C sp t):=by
 obtain⟨fd,F,g⟩:=G;refine(ag5 M F a c b g .nil Qa i.mono o d r).imp λI H Q h=>⟨_,h,λvs Y q x n m l j=>?_⟩;rw[append_nil];exact q x n m l j
def adM(c:Jd X.K B m f)(G:zS X bc k f ps sp)(d:eN k X.A)(h:Gl X x)(g:X.mg x=some (.ref B))(j:PA X (e::es) t)(n:autoParam (zz x) zP4)
 (l:‹zw X e es›)(o:‹zg X O es›)
 (b:‹eval (.Call (.Attribute (.Name x p) m ai) (e::es) [] O) X.env=(do
   let a <- eval (.Name x p) X.env
   standAt ai.atName
   let(f,first) <- holding [a] (getMethod a m pl)
   callWith O f first (backTo O (starEach (e::es) X.env)) (backToKw O (keywordEach [] X.env)))›) :
  PE X (.Call (.Attribute (.Name x p) m ai) (e::es) [] O) (R0 sp t):=by
 obtain⟨fd,F,i⟩:=G;exact _1 (pl:=pl) c F d h g i j n l o b
end
inductive T where
 |any|non|bl (b:Bool)|int (i:Int)|str (s:Str)|val (v:V)
 |tup (W:List T)|lst (W:List T)|scr (W:List T)
 |dct (ks:xL) (W:List T)|ins (C:Addr) (ks:Φ) (W:List T)|exc (C:Addr) (ks:Φ) (W:List T)
abbrev xk:=List T
abbrev we:=List xk
def ahQ(F:Hp):Ξ->xC->Prop
 |none,l=>l=[]
 |some d,l=>F d=some (.xd l)
mutual
inductive Rep(K:Frag)(F:Hp):V->T->Prop
 |any (v:V):Rep K F v .any
 |non:Rep K F .non .non
 |bl (b:Bool):Rep K F (.bl b) (.bl b)
 |int (i:Int):Rep K F (.int i) (.int i)
 |str (s:Str):Rep K F (.str s) (.str s)
 |val (v:V):Rep K F v (.val v)
 |tup {a:Addr}{G:Ζ}{W:xk} : SqT K F a G->cA K F G W->Rep K F (.ref a) (.tup W)
 |lst {a:Addr}{G:Ζ}{W:xk} : F a=some (.lst G)->cA K F G W->Rep K F (.ref a) (.lst W)
 |scr {a:Addr}{G:Ζ}{W:xk} : SqL K F a G->cA K F G W->Rep K F (.ref a) (.scr W)
 |dct {a:Addr}{ks:xL}{G:Ζ}{W:xk} : Rd F a (.dK (ks.zip G))->ks.length=G.length->cA K F G W->Rep K F (.ref a) (.dct ks W)
 |ins {a C dx:Addr}{ks:Φ}{G:Ζ}{W:xk} : F a=some (.ins C dx (ks.zip G))->F dx=some (.own a)->ks.length=G.length->cA K F G W->Rep K F (.ref a) (.ins C ks W)
 |exc {a C:Addr}{d:Ξ}{ks:Φ}{G:Ζ}{W:xk} : F a=some (XO a C d)->ahQ F d (ks.zip G)->ks.length=G.length->cA K F G W->Rep K F (.ref a) (.exc C ks W)
inductive cA(K:Frag)(F:Hp):Ζ->xk->Prop
 |nil:cA K F [] []
 |cons {x:V}{G:Ζ}{t:T}{W:xk} : Rep K F x t->cA K F G W->cA K F (x::G) (t::W)
end
variable{W:xk}{S:Addr->Prop}
section
variable{K:Frag}{F F' H H':Hp}
def zO.rd{u:HO}(S:zO F F')(h:Rd F a u):Rd F' a u:=h.imp (S _ _) λb=>by obtain⟨o,e⟩:=b;exact⟨o,S _ _ e⟩
def ahQ.same{d:Ξ}{l:xC}(S:zO F F')(h:ahQ F d l):ahQ F' d l:=by
 cases d with
 |none=>exact h
 |some d=>exact S _ _ h
mutual
theorem Rep.same(S:zO F F'){x:V}{t:T}(h:Rep K F x t):Rep K F' x t:=by
 cases h with
 |any|non|bl|int|str|val=>constructor
 |tup e h=>exact .tup (S.tup e) (cA.same S h)
 |lst e h=>exact .lst (S _ _ e) (cA.same S h)
 |scr e h=>exact .scr (S.seq e) (cA.same S h)
 |dct e l h=>exact .dct (S.rd e) l (cA.same S h)
 |ins e d l h=>exact .ins (S _ _ e) (S _ _ d) l (cA.same S h)
 |exc e d l h=>exact .exc (S _ _ e) (d.same S) l (cA.same S h)
theorem cA.same(S:zO F F'){G:Ζ}{W:xk}(h:cA K F G W):cA K F' G W:=by
 cases h with
 |nil=>exact .nil
 |cons h t=>exact .cons (Rep.same S h) (cA.same S t)
end
def Rep.lstI(h:Rep K F x (.lst W)):∃a G,x=.ref a/\F a=some (.lst G)/\cA K F G W:=by cases h;exact⟨_,_,rfl,by assumption,by assumption⟩
def Rep.tupI(h:Rep K F x (.tup W)):∃a G,x=.ref a/\SqT K F a G/\cA K F G W:=by cases h;exact⟨_,_,rfl,by assumption,by assumption⟩
def Rep.scrI(h:Rep K F x (.scr W)):∃a G,x=.ref a/\SqL K F a G/\cA K F G W:=by cases h;exact⟨_,_,rfl,by assumption,by assumption⟩
def Rep.dctI{b:xL}(h:Rep K F x (.dct b W)):∃a G,x=.ref a/\Rd F a (.dK (b.zip G))/\b.length=G.length/\cA K F G W:=by cases h;exact⟨_,_,rfl,by assumption,by assumption,by assumption⟩
def Rep.insI{b:Φ}(h:Rep K F x (.ins C b W)):∃a c G,x=.ref a/\F a=some (.ins C c (b.zip G))/\F c=some (.own a)/\b.length=G.length/\cA K F G W:=by cases h;exact⟨_,_,_,rfl,by assumption,by assumption,by assumption,by assumption⟩
theorem cA.len{G:Ζ}{W:xk}(h:cA K F G W):G.length=W.length:=by
 cases h with
 |nil=>rfl
 |cons _ t=>exact ZH (·+1) (cA.len t)
theorem cA.app{G c:Ζ}{W Z:xk}(h:cA K F G W)(s:cA K F c Z):cA K F (G++c) (W++Z):=by
 cases h with
 |nil=>exact s
 |cons a b=>exact .cons a (cA.app b s)
theorem cA.at_{G:Ζ}{W:xk}{i:Nat}{t:T}(h:cA K F G W)(e:W[i]?=some t):∃x,G[i]?=some x/\Rep K F x t:=by
 cases h with
 |nil=>cases e
 |cons a b=>cases i with
  |zero=>cases e;exact⟨_,rfl,a⟩
  |succ i=>obtain⟨x,q,r⟩:=cA.at_ (i:=i) b (by simpa using e);exact⟨x,by simpa using q,r⟩
theorem cA.of_at:∀{G:Ζ}{W:xk},G.length=W.length->(∀(i:Nat)x t,G[i]?=some x->W[i]?=some t->Rep K F x t)->cA K F G W
 |[],[],_,_=>.nil
 |x::G,t::W,l,h=>.cons (h 0 x t rfl rfl) (cA.of_at (Nat.succ.inj l) λi y u b a=>h (i+1) y u b a)
 |[],_::_,l,_=>by cases l
 |_::_,[],l,_=>by cases l
theorem cA.set{x:V}{t:T}(r:Rep K F x t):∀{G:Ζ}{W:xk}(i:Nat),cA K F G W->cA K F (G.set i x) (W.set i t)
 |_,_,_,.nil=>.nil
 |_,_,0,.cons _ h=>.cons r h
 |_,_,i+1,.cons a h=>.cons a (cA.set r i h)
theorem cA.take:∀{G:Ζ}{W:xk}(n:Nat),cA K F G W->cA K F (G.take n) (W.take n)
 |_,_,0,_=>.nil
 |_,_,_+1,.nil=>.nil
 |_,_,n+1,.cons a h=>.cons a (cA.take n h)
theorem cA.drop:∀{G:Ζ}{W:xk}(n:Nat),cA K F G W->cA K F (G.drop n) (W.drop n)
 |_,_,0,h=>h
 |_,_,_+1,.nil=>.nil
 |_,_,n+1,.cons _ h=>cA.drop n h
def hd(S:Addr->Prop)(H:Hp):Hp:=λb=>open Classical in if S b then none else H b
def rA(h:S b):hd S H b=none:=by unfold hd;rw[ZY h]
def cN(h:¬S b):hd S H b=H b:=by unfold hd;rw[ZZ h]
def cQ{o:HO}(e:hd S H b=some o):¬S b/\H b=some o:=by
 by_cases h:S b
 .rw[rA h]at e;cases e
 .rw[cN h]at e;exact⟨h,e⟩
def g8{a:Addr->Prop}(i:∀b,a b->S b\/H b=none)(e:zO H H'):zO (hd S H) (hd a H'):=λb o h=>by
 obtain⟨n,h⟩:=cQ h;rw[cN λz=>?_]
 .exact e _ _ h
 .rcases i b z with y|y
  .exact n y
  .rw[h]at y;cases y
def dh : zO (hd S H) H:=λ_ _ h=>(cQ h).2
def bZ(e:zO H H'):zO (hd S H) (hd S H'):=g8 (λ_=>.inl) e
def VF:hd (λ_=>False) H=H:=funext λ_=>cN id
inductive OW where
 |fz (t:T)|lst (ws:List OW)|tup (ws:List OW)
abbrev wv:=List OW
mutual
def ef:OW->T
 |.fz t=>t
 |.lst a=>.lst (Ij a)
 |.tup a=>.tup (Ij a)
def Ij:wv->xk
 |[]=>[]
 |w::a=>ef w::Ij a
end
mutual
inductive Ro(K:Frag)(F H:Hp):V->OW->Ψ->Prop
 |fz {v:V}{t:T} : Rep K F v t->Ro K F H v (.fz t) []
 |lst {a:Addr}{G:Ζ}{ws:wv}{A:Ψ} : H a=some (.lst G)->Ros K F H G ws A->Ro K F H (.ref a) (.lst ws) (a::A)
 |tup {p:Addr}{G:Ζ}{ws:wv}{A:Ψ} : F p=some (.tup G)->Ros K F H G ws A->Ro K F H (.ref p) (.tup ws) A
inductive Ros(K:Frag)(F H:Hp):Ζ->wv->Ψ->Prop
 |nil:Ros K F H [] [] []
 |cons {x:V}{G:Ζ}{w:OW}{ws:wv}{A B:Ψ} : Ro K F H x w A->Ros K F H G ws B->Ros K F H (x::G) (w::ws) (A++B)
end
section
variable{K:Frag}{F F' H H':Hp}
mutual
theorem Ro.mv(S:zO F F'){x:V}{w:OW}{A:Ψ}(o:∀a∈A,∀u,H a=some u->H' a=some u)(h:Ro K F H x w A):Ro K F' H' x w A:=by
 cases h with
 |fz h=>exact .fz (h.same S)
 |lst e h=>exact .lst (o _ (aO ..) _ e) (Ros.mv S (λa m=>o a (aJ _ m)) h)
 |tup e h=>exact .tup (S _ _ e) (Ros.mv S o h)
theorem Ros.mv(S:zO F F'){G:Ζ}{b:wv}{A:Ψ}(o:∀a∈A,∀u,H a=some u->H' a=some u)(h:Ros K F H G b A):Ros K F' H' G b A:=by
 cases h with
 |nil=>exact .nil
 |cons h t=>exact .cons (Ro.mv S (λa m=>o a (UP _ m)) h) (Ros.mv S (λa m=>o a (aP _ m)) t)
end
mutual
theorem Ro.isl{x:V}{w:OW}{A:Ψ}(h:Ro K F H x w A)(a:Addr)(m:a∈A):∃G,H a=some (.lst G):=by
 cases h with
 |fz=>cases m
 |lst e h=>exact(YU.mp m).elim (λz=>⟨_,z ▸ e⟩) λz=>Ros.isl h a z
 |tup _ h=>exact Ros.isl h a m
theorem Ros.isl{G:Ζ}{b:wv}{A:Ψ}(h:Ros K F H G b A)(a:Addr)(m:a∈A):∃G,H a=some (.lst G):=by
 cases h with
 |nil=>cases m
 |cons h t=>exact(Y1.mp m).elim (Ro.isl h a) (Ros.isl t a)
end
mutual
theorem Ro.frz(S:zO F F'){x:V}{w:OW}{A:Ψ}(o:∀a∈A,F' a=H a)(h:Ro K F H x w A):Rep K F' x (ef w):=by
 cases h with
 |fz h=>unfold ef;exact h.same S
 |lst e h=>unfold ef;exact .lst ((o _ (aO ..)).trans e) (Ros.frz S (λa m=>o a (aJ _ m)) h)
 |tup e h=>unfold ef;exact .tup (.inl (.of (S _ _ e))) (Ros.frz S o h)
theorem Ros.frz(S:zO F F'){G:Ζ}{b:wv}{A:Ψ}(o:∀a∈A,F' a=H a)(h:Ros K F H G b A):cA K F' G (Ij b):=by
 cases h with
 |nil=>unfold Ij;exact .nil
 |cons h t=>unfold Ij;exact .cons (Ro.frz S (λa m=>o a (UP _ m)) h) (Ros.frz S (λa m=>o a (aP _ m)) t)
end
end
inductive OT where
 |und|fz (t:T)|l1 (W:xk)|l2 (tss:we)|d1 (ks:xL) (W:xk)|ob (a dx C:Addr) (ks:Φ) (W:xk)|la (a:Addr) (W:xk)|pr (W Z:xk)|ow (w:OW)
abbrev xy:=List OT
def frz:OT->T
 |.und=>.any
 |.fz t=>t
 |.l1 W=>.lst W
 |.l2 a=>.lst (a.map T.lst)
 |.d1 b W=>.dct b W
 |.ob _ _ C b W=>.ins C b W
 |.la _ W=>.lst W
 |.pr W Z=>.tup [.lst W,.lst Z]
 |.ow w=>ef w
def Slo(K:Frag)(F H:Hp)(v:xI)(A:Ψ):OT->Prop
 |.und=>A=[]
 |.fz t=>A=[]/\∃u,v=some u/\Rep K F u t
 |.l1 W=>∃a G,v=some (.ref a)/\A=[a]/\H a=some (.lst G)/\cA K F G W
 |.l2 c=>∃a bs,v=some (.ref a)/\A=a::bs/\(a::bs).Nodup/\H a=some (.lst (bs.map V.ref))/\bs.length=c.length/\∀(i:Nat)b W,bs[i]?=some b->c[i]?=some W->∃G,H b=some (.lst G)/\cA K F G W
 |.d1 d W=>∃a G,v=some (.ref a)/\A=[a]/\H a=some (.dK (d.zip G))/\d.length=G.length/\cA K F G W
 |.ob a e C d W=>∃G,v=some (.ref a)/\A=[a,e]/\H a=some (.ins C e (d.zip G))/\H e=some (.own a)/\d.length=G.length/\cA K F G W
 |.la a W=>∃G,v=some (.ref a)/\A=[a]/\H a=some (.lst G)/\cA K F G W
 |.pr W Z=>∃p a b G f,v=some (.ref p)/\A=[a,b]/\a≠b/\F p=some (.tup [.ref a,.ref b])/\H a=some (.lst G)/\H b=some (.lst f)/\cA K F G W/\cA K F f Z
 |.ow w=>∃u,v=some u/\A.Nodup/\Ro K F H u w A
def Slo.same{v:xI}{A:Ψ}(S:zO F F')(E:zO H H'){x:OT}(h:Slo K F H v A x):Slo K F' H' v A x:=by
 cases x with
 |und=>exact h
 |fz=>obtain⟨a,u,e,r⟩:=h;exact⟨a,u,e,r.same S⟩
 |l2=>obtain⟨a,c,e,z,n,h,l,r⟩:=h;exact⟨a,c,e,z,n,E _ _ h,l,λi b W g f=>let⟨G,q,r⟩:=r i b W g f;⟨G,E _ _ q,r.same S⟩⟩
 |ob=>obtain⟨G,e,z,h,d,l,r⟩:=h;exact⟨G,e,z,E _ _ h,E _ _ d,l,r.same S⟩
 |pr=>obtain⟨p,a,b,G,c,e,z,n,t,h,k,r,q⟩:=h;exact⟨p,a,b,G,c,e,z,n,S _ _ t,E _ _ h,E _ _ k,r.same S,q.same S⟩
 |ow=>obtain⟨u,e,n,r⟩:=h;exact⟨u,e,n,r.mv S λ_ _ _ e=>E _ _ e⟩
 |l1=>obtain⟨a,G,e,z,h,r⟩:=h;exact⟨a,G,e,z,E _ _ h,r.same S⟩
 |d1=>obtain⟨a,G,e,z,h,l,r⟩:=h;exact⟨a,G,e,z,E _ _ h,l,r.same S⟩
 |la=>obtain⟨G,e,z,h,r⟩:=h;exact⟨G,e,z,E _ _ h,r.same S⟩
def Slo.off{v:xI}{A:Ψ}{x:OT}(s:Slo K F H v A x)(k:∀b∈A,∀u,H b=some u->H' b=some u):Slo K F H' v A x:=by
 cases x with
 |und=>exact s
 |fz=>exact s
 |l2=>obtain⟨a,d,e,rfl,g,w,l,r⟩:=s;exact⟨a,d,e,rfl,g,k a (aO ..) _ w,l,λi b W c j=>let⟨G,q,r⟩:=r i b W c j;⟨G,k b (aJ _ (aC c)) _ q,r⟩⟩
 |ob a m=>obtain⟨G,e,rfl,w,d,r⟩:=s;exact⟨G,e,rfl,k a (aO ..) _ w,k m (aJ _ (aO ..)) _ d,r⟩
 |pr=>obtain⟨p,a,b,G,f,e,rfl,n,t,h,j,r⟩:=s;exact⟨p,a,b,G,f,e,rfl,n,t,k a (aO ..) _ h,k b (aJ _ (aO ..)) _ j,r⟩
 |ow=>obtain⟨u,e,n,r⟩:=s;exact⟨u,e,n,r.mv (λ_ _ e=>e) k⟩
 |la a=>obtain⟨G,e,rfl,w,r⟩:=s;exact⟨G,e,rfl,k a (aO ..) _ w,r⟩
 |_=>obtain⟨a,G,e,rfl,w,r⟩:=s;exact⟨a,G,e,rfl,k a (aO ..) _ w,r⟩
def afq(H:Hp)(a:Addr):Prop:=∃o,H a=some o/\((∃G,o=.lst G)\/(∃k,o=.dK k)\/(∃C d f,o=.ins C d f)\/∃x,o=.own x)
def Slo.sole{v:xI}{A:Ψ}{x:OT}(h:Slo K F H v A x)(f:a∈A):afq H a:=by
 cases x with
 |und=>rw[show A=[]from h]at f;cases f
 |fz t=>rw[h.1]at f;cases f
 |l1 W=>obtain⟨b,G,_,rfl,e,_⟩:=h;cases YR.mp f;exact⟨_,e,.inl ⟨_,rfl⟩⟩
 |l2 g =>
  obtain⟨b,bs,_,rfl,_,e,l,r⟩:=h;rcases YU.mp f with z|z
  .exact⟨_,z ▸ e,.inl ⟨_,rfl⟩⟩
  .obtain⟨i,j⟩:=aV z;have k:i<g.length:=l ▸ (ao.mp j).1;obtain⟨G,q,_⟩:=r i a _ j (aj k);exact⟨_,q,.inl ⟨_,rfl⟩⟩
 |d1 m W=>obtain⟨b,G,_,rfl,e,_⟩:=h;cases YR.mp f;exact⟨_,e,.inr (.inl ⟨_,rfl⟩)⟩
 |ob b o C m W =>
  obtain⟨G,_,rfl,e,d,_⟩:=h;rcases YU.mp f with z|z
  .exact⟨_,z ▸ e,.inr (.inr (.inl ⟨_,_,_,rfl⟩))⟩
  .cases YR.mp z;exact⟨_,d,.inr (.inr (.inr ⟨_,rfl⟩))⟩
 |la b W=>obtain⟨G,_,rfl,e,_⟩:=h;cases YR.mp f;exact⟨_,e,.inl ⟨_,rfl⟩⟩
 |pr W Z =>
  obtain⟨p,b,c,G,n,_,rfl,_,_,e,d,_⟩:=h;rcases YU.mp f with z|z
  .exact⟨_,z ▸ e,.inl ⟨_,rfl⟩⟩
  .cases YR.mp z;exact⟨_,d,.inl ⟨_,rfl⟩⟩
 |ow w=>obtain⟨u,_,_,r⟩:=h;obtain⟨G,e⟩:=r.isl a f;exact⟨_,e,.inl ⟨_,rfl⟩⟩
def Slo.frz{u:V}{A:Ψ}{x:OT}(h:Slo K F H (some u) A x)(S:zO F F')(E:∀a∈A,F' a=H a):Rep K F' u (frz x):=by
 cases x with
 |und=>exact .any _
 |fz t=>obtain⟨_,w,e,r⟩:=h;cases e;exact r.same S
 |l1 W=>obtain⟨b,G,e,rfl,q,r⟩:=h;cases e;exact .lst ((E _ vz).trans q) (r.same S)
 |l2 k =>
  obtain⟨b,bs,e,rfl,_,q,l,r⟩:=h;cases e;refine .lst ((E _ vz).trans q) (cA.of_at (by simp[l]) λi x t g f=>?_);rw[aq]at g f;cases j:bs[i]? with
  |none=>rw[j]at g;cases g
  |some c =>
   cases m:k[i]? with
   |none=>rw[m]at f;cases f
   |some W =>
    rw[j]at g;rw[m]at f;cases g;cases f;obtain⟨G,q,r⟩:=r i c W j m;exact .lst ((E _ (aJ _ (aC j))).trans q) (r.same S)
 |d1 v W=>obtain⟨b,G,e,rfl,q,l,r⟩:=h;cases e;exact .dct (.inl ((E _ vz).trans q)) l (r.same S)
 |ob b z C v W=>obtain⟨G,e,rfl,q,d,l,r⟩:=h;cases e;exact .ins ((E _ vz).trans q) ((E _ vz).trans d) l (r.same S)
 |la b W=>obtain⟨G,e,rfl,q,r⟩:=h;cases e;exact .lst ((E _ vz).trans q) (r.same S)
 |pr W Z =>
  obtain⟨p,b,c,G,y,e,rfl,_,t,s,q2,o,n⟩:=h;cases e;exact .tup (.inl (.of (S _ _ t))) (.cons (.lst ((E _ vz).trans s) (o.same S)) (.cons (.lst ((E _ vz).trans q2) (n.same S)) .nil))
 |ow w=>obtain⟨w,e,_,r⟩:=h;cases e;exact r.frz S E
def Ow(a:Nat->Ψ)(b:Addr):Prop:=∃i,b∈a i
structure SR(K:Frag)(own:Nat->Ψ)(H:Hp)(I:L2.St)(o:xy):Prop where
 len:o.length=I.length
 sl:∀i x,o[i]?=some x->Slo K (hd (Ow own) H) H (I[i]?.join) (own i) x
 out:∀i,o.length<=i->∀a∈own i,∃G,H a=some (.lst G)
 dis:∀i j a,a∈own i->a∈own j->i=j
variable{own:Nat->Ψ}{I:L2.St}{o:xy}
def SR.same(h:SR K own H I o)(E:zO H H'):SR K own H' I o:=⟨h.len,λi x e=>(h.sl i x e).same (bZ E) E,λi b a c=>let⟨G,e⟩:=h.out i b a c;⟨G,E _ _ e⟩,h.dis⟩
def SR.sole(h:SR K own H I o){b:Addr}(z:Ow own b):afq H b:=by
 obtain⟨i,z⟩:=z;by_cases a:i<o.length
 .exact(h.sl i _ (aj a)).sole z
 .obtain⟨G,e⟩:=h.out i (Nat.not_lt.mp a) b z;exact⟨_,e,.inl ⟨_,rfl⟩⟩
def afq.ne(h:afq H a):H a≠none:=by
 obtain⟨o,e,_⟩:=h;rw[e];exact λz=>by cases z
def NR(K:Frag)(S:Addr->Prop)(H H':Hp)(v:V)(x:OT):Prop:=∃B,(∀a∈B,H a=none)/\Slo K (hd (λb=>S b\/b∈B) H') H' (some v) B x
def NR.rep{x:OT}(h:NR K S H H' v x)(c:∀b,S b->H b≠none):Rep K (hd S H') v (L2.frz x):=by
 obtain⟨B,n,r⟩:=h;exact r.frz (g8 (λb z=>.inl (.inl z)) (λ_ _ z=>z)) λa d=>cN λz=>c a z (n a d)
def NR.fz{S:Addr->Prop}{v:V}{t:T}(h:Rep K (hd S H') v t):NR K S H H' v (.fz t):=⟨[],λ_ z=>(nomatch z),rfl,v,rfl,h.same (g8 (λb z=>.inl (z.elim id λy=>(nomatch y))) λ_ _ z=>z)⟩
def NR.l1{S:Addr->Prop}{a:Addr}{G:Ζ}{W:xk}(n:H a=none)(e:H' a=some (.lst G))(h:cA K (hd (λb=>S b\/b=a) H') G W):NR K S H H' (.ref a) (.l1 W) :=
 ⟨[a],λ_ z=>(YR.mp z) ▸ n,a,G,rfl,rfl,e,h.same (g8 (λb z=>.inl (z.imp id YR.mp)) λ_ _ z=>z)⟩
def NR.back{b:Hp}{x:OT}(h:NR K S H H' v x)(E:zO b H):NR K S b H' v x:=by
 obtain⟨B,n,r⟩:=h;exact⟨B,λa c=>E.free (n a c),r⟩
def own1(own:Nat->Ψ)(i:Nat)(B:Ψ):Nat->Ψ:=λj=>if j=i then B else own j
def fB{B:Ψ} : own1 own i B i=B:=ZY rfl
def dG{j:Nat}{B:Ψ}(h:j≠i):own1 own i B j=own j:=ZZ h
def Ow.of1{B:Ψ}(h:Ow (own1 own i B) b):Ow own b\/b∈B:=by
 obtain⟨j,h⟩:=h;by_cases z:j=i
 .rw[z,fB]at h;exact .inr h
 .rw[dG z]at h;exact .inl ⟨j,h⟩
def SR.put(h:SR K own H I o)(E:zO H H'){x:OT}(n:NR K (Ow own) H H' v x)(l:i<o.length):∃m,SR K m H' (I.set i (some v)) (o.set i x)/\zO (hd (Ow own) H) (hd (Ow m) H'):=by
 obtain⟨B,f,r⟩:=n;have le:zO (hd (Ow own) H) (hd (Ow (own1 own i B)) H'):=g8 (λb z=>z.of1.imp id (f b)) E;refine⟨own1 own i B,⟨by rw[VZ,VZ,h.len],λj y e=>?_,λj g=>?_,λj k a d c=>?_⟩,le⟩
 .by_cases z:j=i
  .subst z;rw[UZ l]at e;cases e;rw[fB,UZ (h.len ▸ l)];exact r.same (g8 (λb z=>.inl z.of1) λ_ _ z=>z) λ_ _ z=>z
  .rw[VT (Ne.symm z)]at e;rw[dG z,VT (Ne.symm z)];exact(h.sl j y e).same le E
 .rw[VZ]at g;rw[dG wE];intro a p;obtain⟨G,e⟩:=h.out j g a p;exact⟨G,E _ _ e⟩
 .by_cases z:j=i<;>by_cases y:k=i
  .rw[z,y]
  .rw[z,fB]at d;rw[dG y]at c;exact absurd (f a d) (h.sole ⟨k,c⟩).ne
  .rw[y,fB]at c;rw[dG z]at d;exact absurd (f a c) (h.sole ⟨j,d⟩).ne
  .rw[dG z]at d;rw[dG y]at c;exact h.dis j k a d c
def SR.frz(h:SR K own H I o){i:Nat}{x:OT}(e:o[i]?=some x){u:V}(g:I[i]?=some (some u)):∃n,SR K n H I (o.set i (.fz (L2.frz x)))/\zO (hd (Ow own) H) (hd (Ow n) H):=by
 have p:i<o.length:=(ao.mp e).1;have le:zO (hd (Ow own) H) (hd (Ow (own1 own i [])) H):=g8 (λb z=>.inl (z.of1.elim id λy=>(nomatch y))) λ_ _ z=>z;have l:=h.sl i x e;rw[g]at l;refine⟨own1 own i [],⟨by rw[VZ,h.len],λj y f=>?_,λj m=>?_,λj k a d c=>?_⟩,le⟩
 .by_cases z:j=i
  .subst z;rw[UZ p]at f;cases f;rw[fB,g];exact⟨rfl,u,rfl,Slo.frz l le λa q=>cN λz=>by
    obtain⟨k,z⟩:=z;by_cases y:k=j
    .rw[y,fB]at z;cases z
    .rw[dG y]at z;exact y (h.dis k j a z q)⟩
  .rw[VT (Ne.symm z)]at f;rw[dG z];exact(h.sl j y f).same le λ_ _ z=>z
 .rw[VZ]at m;rw[dG wE];exact h.out j m
 .by_cases z:j=i
  .rw[z,fB]at d;cases d
  by_cases y:k=i
  .rw[y,fB]at c;cases c
  .rw[dG z]at d;rw[dG y]at c;exact h.dis j k a d c
def SR.chg(h:SR K own H I o){x:OT}(e:o[i]?=some x){y:OT}(E:∀b u,b∉own i->H b=some u->H' b=some u)(r:Slo K (hd (Ow own) H') H' (I[i]?.join) (own i) y):SR K own H' I (o.set i y)/\zO (hd (Ow own) H) (hd (Ow own) H'):=by
 have g:i<o.length:=(ao.mp e).1;have le:zO (hd (Ow own) H) (hd (Ow own) H'):=λb u z=>by
  obtain⟨n,z⟩:=cQ z;rw[cN n];exact E b u (λq=>n ⟨i,q⟩) z
 refine⟨⟨by rw[VZ,h.len],λj z c=>?_,λj d a f=>?_,h.dis⟩,le⟩
 rotate_left
 .rw[VZ]at d;obtain⟨G,l⟩:=h.out j d a f;exact⟨G,E a _ (λz=>by have:=h.dis j i a f z;lia) l⟩
 by_cases q:j=i
 .subst q;rw[UZ g]at c;cases c;exact r
 .rw[VT (Ne.symm q)]at c;exact((h.sl j z c).same le λ_ _ z=>z).off λb k u=>E b u λz=>q (h.dis j i b k z)
def SR.get(h:SR K own H I o){i:Nat}{t:T}(e:o[i]?=some (.fz t)):∃u,I[i]?=some (some u)/\Rep K (hd (Ow own) H) u t:=by
 obtain⟨_,u,q,r⟩:=h.sl i _ e;refine⟨u,?_,r⟩;cases z:I[i]? with
 |none=>rw[z]at q;cases q
 |some w=>rw[z]at q;exact ZH some q
end
end L2
namespace L2
open PySem PySem.Spec PyProof.Rows
abbrev RE:=xy->(OT->Prop)->Prop
abbrev RT:=xy->(Bool->Prop)->Prop
abbrev RA:=xy->(xk->Prop)->Prop
def tQ(K:Frag)(r:RE):TE:=λI H Q=>∃a o R,SR K a H I o/\r o R/\∀b v x,R x->zO H b->NR K (Ow a) H b v x->Q v b
def tQT(K:Frag)(r:RT):TT:=λI H Q=>∃a o R,SR K a H I o/\r o R/\∀c b,R b->zO H c->Q b c
def tQA(K:Frag)(n:Nat)(r:RA):TA:=λI H Q=>∃a o R,SR K a H I o/\r o R/\∀b c W,R W->W.length=n->zO H b->cA K (hd (Ow a) b) c W->Q c b
def QE(X:Cx)(e:Expr)(r:RE):Prop:=PE X e (tQ X.K r)
def QT(X:Cx)(e:Expr)(r:RT):Prop:=PT X e (tQT X.K r)
def QW(X:Cx)(e:Expr)(r:RT):Prop:=PW X e (tQT X.K r)
def QA(X:Cx)(a:xb)(r:RA):Prop:=PA X a (tQA X.K a.length r)
variable{X:Cx}{e:Expr}{es:xb}{K:Frag}{own:Nat->Ψ}{H:Hp}{I:L2.St}{o:xy}{R:OT->Prop}{Q:VK}{b:Bool}{x:Str}{O:Pos}{t:T}{v:V}
def PT.imp{t b:TT}(h:PT X e t)(i:∀I H Q,b I H Q->t I H Q):PT X e b:=λU s I H Q a q=>h U s I H Q a (i I H Q q)
def PW.imp{t b:TT}(h:PW X e t)(i:∀I H Q,b I H Q->t I H Q):PW X e b:=λc U s I H Q a q=>h c U s I H Q a (i I H Q q)
def PA.imp{t b:TA}(h:PA X es t)(i:∀I H Q,b I H Q->t I H Q):PA X es b:=λp U s I H Q a q=>h p U s I H Q a (i I H Q q)
def tQ.mk{r:RE}(h:SR K own H I o)(d:r o R)(k:∀a v x,R x->zO H a->Rep K (hd (Ow own) a) v (frz x)->Q v a):tQ K r I H Q :=
 ⟨own,o,R,h,d,λa v x c E n=>k a v x c E (n.rep λb z=>(h.sole z).ne)⟩
def slot:xy->Nat->OT
 |[],_=>.und
 |x::_,0=>x
 |_::l,n+1=>slot l n
theorem gA:∀{o:xy}{i:Nat}{x:OT},slot o i=x->x≠.und->o[i]?=some x
 |[],_,_,e,n=>absurd e.symm n
 |_::_,0,_,e,_=>ZH some e
 |_::l,i+1,x,e,n=>by simpa using gA (o:=l) (i:=i) e n
def Q5(i:Nat):RE:=λo q=>match slot o i with|.fz t=>q (.fz t)|_=>False
def rC(t:T):RE:=λ_ q=>q (.fz t)
abbrev zi:Type:=T->T->(OT->Prop)->Prop
def eP(g:zi)(a b:RE):RE:=λo q=>a o λx=>b o λy=>g (frz x) (frz y) q
def Lm(g:T->(OT->Prop)->Prop)(a:RE):RE:=λo q=>a o λx=>g (frz x) q
def sw(b:Bool)(p q:Prop):Prop:=match b with|true=>p|false=>q
def iP{p q:Prop}(c:b->p)(a:b=false->q):sw b p q:=by
 cases b
 .exact a rfl
 .exact c rfl
def cR{c:Prop}[Decidable c]{p q:Prop}(b:c->p)(a:¬c->q):sw (decide c) p q:=iP (λe=>b (of_decide_eq_true e)) λe=>a (of_decide_eq_false e)
def dV{p q:Prop}(e:b)(h:p):sw b p q:=by subst e;exact h
def cg{p q:Prop}(e:b=false)(h:q):sw b p q:=by subst e;exact h
def qv(i:Nat)(d:autoParam (n_X X i x) zP2):QE X (.Name x O) (Q5 i):=(pv i d).imp λI H Q c=>by
 obtain⟨own,o,R,h,a,k⟩:=c;unfold Q5 at a;cases e:slot o i with
 |fz t =>
  rw[e]at a;obtain⟨u,q,r⟩:=h.get (gA e nofun);exact⟨u,q,k H u _ a (.refl _) (NR.fz r)⟩
 |_=>rw[e]at a;exact a.elim
def vx(b:autoParam (n_X X 0 x) zP2):QE X (.Name x O) (Q5 0):=qv 0 b
def vw(b:autoParam (n_X X 1 x) zP2):QE X (.Name x O) (Q5 1):=qv 1 b
def vy(b:autoParam (n_X X 2 x) zP2):QE X (.Name x O) (Q5 2):=qv 2 b
def vc(b:autoParam (n_X X 3 x) zP2):QE X (.Name x O) (Q5 3):=qv 3 b
def vt(b:autoParam (n_X X 4 x) zP2):QE X (.Name x O) (Q5 4):=qv 4 b
def vn(b:autoParam (n_X X 5 x) zP2):QE X (.Name x O) (Q5 5):=qv 5 b
def qC(h:PE X e (tC v))(r:∀F,Rep X.K F v t):QE X e (rC t):=h.imp λI H Q b=>by obtain⟨own,o,R,_,a,k⟩:=b;exact k H v _ a (.refl _) (NR.fz (r _))
def bA{i j O} : QE X (.Constant (.int i) j O) (rC (.int i)):=qC iU λ_=>.int _
def fj{b j O} : QE X (.Constant (.bool b) j O) (rC (.bl b)):=qC pa λ_=>.bl _
def eY{j O} : QE X (.Constant .none j O) (rC .non):=qC F4 λ_=>.non
def nM{x j O} : QE X (.Constant (.str x) j O) (rC (.str x)):=qC QX λ_=>.str _
def aeW(a:∃u,X.mg x=some u/\z0 v u)(r:∀F,Rep X.K F v t)(b:‹Gl X x›)(hd:autoParam (zz x) zP4):QE X (.Name x O) (rC t):=qC (afD b a hd) r
variable{b a c:Expr}{ra rb re:RE}{g:zi}{op:CmpOp}{S:Addr->Prop}{H':Hp}{G:Ζ}{W:xk}{f:Addr}{P:Program}{w:World}{mg:Str->Ω}{base:Heap}{k n:Nat}{fd:FuncData}{ps:Φ}{r:RA}{p p2:Pos}{α:Type}{lo hi:Option Expr}
abbrev zqq(X:Cx)(g:zi):V->V->Hp->VK->Prop:=λx y H Q=>∃S t u R,(∀b,S b->H b≠none)/\Rep X.K (hd S H) x t/\Rep X.K (hd S H) y u/\g t u R/\∀H' v z,R z->zO H H'->NR X.K S H H' v z->Q v H'
def GO(X:Cx)(f:Value->Value->Sem Value)(g:zi):Prop:=OpR X f (zqq X g)
theorem q2{g:zi}{I:L2.St}{H:Hp}{Q:VK}(h:tQ X.K (eP g ra rb) I H Q):gd (zqq X g) (tQ X.K ra) (tQ X.K rb) I H Q:=by
 obtain⟨own,o,R,h,i,k⟩:=h;exact tQ.mk h i λY v x q c f=>tQ.mk (h.same c) q λl w y q2 a e=>⟨Ow own,_,_,R,λb z=>((h.same (c.trans a)).sole z).ne,f.same (bZ a),e,q2,λH' u z d j n=>k H' u z d (c.trans (a.trans j)) (n.back (c.trans a))⟩
def bL{op:Operator}(c:GO X (binaryOp op) g)(e:QE X a ra)(d:QE X b rb):QE X (.BinOp a op b O) (eP g ra rb):=(lg c e d).imp λ_ _ _=>q2
def mq(c:GO X (compareOp op) g)(f:QE X a ra)(e:QE X b rb)(d:behindInMarks op b=false:=by exact HB _):QE X (.Compare a [op] [b] O) (eP g ra rb):=(Tp c f e d).imp λ_ _ _=>q2
def gI(g:Int->Int->OT):zi
 |.int i,.int j,q=>q (g i j)
 |_,_,_=>False
def GO.ints{f:Value->Value->Sem Value}{g:Int->Int->V}{t:Int->Int->T}(h:OpR X f (gp g))(r:∀i j F,Rep X.K F (g i j) (t i j)):GO X f (gI λi j=>.fz (t i j)):=h.imp λx y H Q d=>by
 obtain⟨S,t,u,R,_,c,b,a,k⟩:=d;cases c<;>try exact a.elim
 cases b<;>try exact a.elim
 exact⟨_,_,rfl,rfl,k H _ _ a (.refl _) (NR.fz (r _ _ _))⟩
def tO:GO X (binaryOp .Sub) (gI λi j=>.fz (.int (i-j))):=.ints Sr λ_ _ _=>.int _
def rY:GO X (compareOp .Lt) (gI λi j=>.fz (.bl (decide (i<j)))):=.ints Rt λ_ _ _=>.bl _
def Qi:GO X (compareOp .LtE) (gI λi j=>.fz (.bl (decide (i<=j)))):=.ints RF λ_ _ _=>.bl _
def Ir:GO X (compareOp .Gt) (gI λi j=>.fz (.bl (decide (j<i)))):=.ints P6 λ_ _ _=>.bl _
def oP:GO X (compareOp .GtE) (gI λi j=>.fz (.bl (decide (j<=i)))):=.ints PU λ_ _ _=>.bl _
def OL:zi
 |.int i,.int j,q=>q (.fz (.int (i+j)))
 |.str a,.str b,q=>a.length+b.length<=sizeLine/\q (.fz (.str (a++b)))
 |.lst a,.lst b,q=>a.length+b.length<=sizeLine/\q (.l1 (a++b))
 |_,_,_=>False
def Cq{p:Addr}(r:cA X.K (hd S H) G W)(E:zO H H')(n:H p=none)(e:H' p=some (.lst G)):NR X.K S H H' (.ref p) (.l1 W) :=
 NR.l1 n e (r.same (g8 (λb z=>z.imp id λ(y:b=p)=>y ▸ n) E))
def cW:GO X (binaryOp .Add) OL:=λU s I H x y v u Q c g f o=>by
 obtain⟨S,t,w,R,_,i,h,d,k⟩:=o;cases t<;>try exact d.elim
 .cases i;cases w<;>try exact d.elim
  cases h;exact ql U s I H _ _ v u Q c g f ⟨_,_,rfl,rfl,k H _ _ d (.refl _) (NR.fz (.int _))⟩
 .cases i;cases w<;>try exact d.elim
  cases h;exact _u U s I H _ _ v u Q c g f ⟨_,_,rfl,rfl,d.1,k H _ _ d.2 (.refl _) (NR.fz (.str _))⟩
 .cases w<;>try exact d.elim
  obtain⟨a,G,rfl,r,l⟩:=i.lstI;obtain⟨b,m,rfl,q,j⟩:=h.lstI;exact Jn U s I H _ _ v u Q c g f ⟨a,b,G,m,rfl,rfl,(cQ r).2,(cQ q).2,by rw[l.len,j.len];exact d.1,λp H' E n e=>k H' _ _ d.2 E (Cq (l.app j) E n e)⟩
def NL:zi
 |.int i,.int j,q=>(Bd i/\Bd j)/\q (.fz (.int (i*j)))
 |.lst a,.int j,q=>(-(2^63)<=j/\j<2^63/\a.length*j.toNat<=sizeLine)/\∀z,z=(replicate j.toNat a).flatten->q (.l1 z)
 |.str a,.int j,q=>(∃c,a=⟨#[c]⟩/\1<=j/\j<=1000/\∀z:Str,z.cps.toList=replicate j.toNat c->q (.fz (.str z)))
 |_,_,_=>False
def NY:zi
 |.int i,.int j,q=>(j≠0/\Bd j)/\q (.fz (.int (i.fdiv j)))
 |_,_,_=>False
def OU:zi
 |.int i,.int j,q=>0<j/\q (.fz (.int (i%j)))
 |_,_,_=>False
def NV:zi
 |.int i,.int j,q=>D3 i j/\q (.fz (.int (i^j.toNat)))
 |_,_,_=>False
def nu:GO X (binaryOp .FloorDiv) NY:=afP.imp λx y H Q d=>by
 obtain⟨S,t,u,R,_,c,b,a,k⟩:=d;cases c<;>try exact a.elim
 cases b<;>try exact a.elim
 exact⟨_,_,rfl,rfl,a.1,k H _ _ a.2 (.refl _) (NR.fz (.int _))⟩
def cF:GO X (binaryOp .Mod) OU:=_e.imp λx y H Q d=>by
 obtain⟨S,t,u,R,_,c,b,a,k⟩:=d;cases c<;>try exact a.elim
 cases b<;>try exact a.elim
 exact⟨_,_,rfl,rfl,a.1,k H _ _ a.2 (.refl _) (NR.fz (.int _))⟩
def Us:GO X (binaryOp .Pow) NV:=ZO.imp λx y H Q d=>by
 obtain⟨S,t,u,R,_,c,b,a,k⟩:=d;cases c<;>try exact a.elim
 cases b<;>try exact a.elim
 exact⟨_,_,rfl,rfl,a.1,k H _ _ a.2 (.refl _) (NR.fz (.int _))⟩
def NM:T->(OT->Prop)->Prop
 |.int i,q=>q (.fz (.int (-i)))
 |_,_=>False
def wu(d:QE X a ra):QE X (.UnaryOp .USub a O) (Lm NM ra):=(P_ GZ d).imp λI H Q ⟨own,o,R,h,c,k⟩=>tQ.mk h c λY v x q e b=>by
 revert b q
 generalize frz x=t;intro q b;cases b<;>try exact q.elim
 exact⟨_,rfl,k _ _ _ q e (NR.fz (.int _))⟩
def kU:T->wx
 |.non=>some true
 |.any=>none
 |.val v=>some (decide (v=.non))
 |_=>some false
def ko(a:Bool):zi:=λt u q=>match u,kU t with
 |.non,some b=>q (.fz (.bl (xor a b)))
 |_,_=>False
def Wn{F:Hp}{x:V}{b:Bool}(h:Rep K F x t)(e:kU t=some b):decide (x=.non)=b:=by
 cases h<;>cases e<;>first|rfl|(apply Zp;intro z;cases z)
def zY:GO X (compareOp .Is) (ko false):=We.imp λx y H Q f=>by
 obtain⟨S,t,u,R,_,d,c,a,k⟩:=f;cases c<;>try exact a.elim
 unfold ko at a;cases e:kU t with
 |none=>rw[e]at a;exact a.elim
 |some b=>rw[e]at a;exact⟨rfl,k H _ _ a (.refl _) (NR.fz (by rw[Wn d e,Bool.false_xor];exact .bl _))⟩
def Bg:GO X (compareOp .IsNot) (ko true):=_O.imp λx y H Q f=>by
 obtain⟨S,t,u,R,_,d,c,a,k⟩:=f;cases c<;>try exact a.elim
 unfold ko at a;cases e:kU t with
 |none=>rw[e]at a;exact a.elim
 |some b=>rw[e]at a;exact⟨rfl,k H _ _ a (.refl _) (NR.fz (by rw[Wn d e,Bool.true_xor];exact .bl _))⟩
structure ml(H:Hp)(S:Addr->Prop):Prop where
 sole:∀b,S b->afq H b
 ins:∀a C dx fs,S a->H a=some (.ins C dx fs)->S dx
 own:∀b x,S b->H b=some (.own x)->S x
def SR.mate(h:SR K own H I o){j:Nat}{b:Addr}(a:b∈own j):(∀C d f,H b=some (.ins C d f)->d∈own j)/\∀x,H b=some (.own x)->x∈own j:=by
 have g:∀{G:Ζ},H b=some (.lst G)->(∀C d f,H b=some (.ins C d f)->d∈own j)/\∀x,H b=some (.own x)->x∈own j:=λq=>⟨(λ_ _ _ e=>by rw[q]at e;cases e),(λ_ e=>by rw[q]at e;cases e)⟩;by_cases m:j<o.length
 .have s:=h.sl j _ (aj m);cases y:o[j]with
  |und=>rw[y]at s;rw[show own j=[]from s]at a;cases a
  |fz t=>rw[y]at s;rw[s.1]at a;cases a
  |l1 W=>rw[y]at s;obtain⟨c,G,_,w,q,_⟩:=s;rw[w]at a;cases YR.mp a;exact g q
  |l2 v =>
   rw[y]at s;obtain⟨c,E,_,n,_,k,l,r⟩:=s;rw[n]at a;rcases YU.mp a with z|z
   .exact g (z ▸ k)
   .obtain⟨i,hi⟩:=aV z;obtain⟨G,q2,_⟩:=r i b _ hi (aj (l ▸ (ao.mp hi).1));exact g q2
  |d1 A W=>rw[y]at s;obtain⟨c,G,_,w,q,_⟩:=s;rw[w]at a;cases YR.mp a;exact⟨(λ_ _ _ e=>by rw[q]at e;cases e),(λ_ e=>by rw[q]at e;cases e)⟩
  |la c W=>rw[y]at s;obtain⟨G,_,w,q,_⟩:=s;rw[w]at a;cases YR.mp a;exact g q
  |pr W Z =>
   rw[y]at s;obtain⟨p,c,e,G,B,_,w,_,_,k,q2,_⟩:=s;rw[w]at a;rcases YU.mp a with z|z
   .exact g (z ▸ k)
   .cases YR.mp z;exact g q2
  |ow D =>
   rw[y]at s;obtain⟨u,_,_,r⟩:=s;obtain⟨G,q⟩:=r.isl b a;exact g q
  |ob c d F A W =>
   rw[y]at s;obtain⟨G,_,w,q,q2,_⟩:=s;rw[w]at a ⊢;rcases YU.mp a with z|z
   .refine⟨λ_ _ _ e=>?_,λ_ e=>?_⟩
    .rw[z,q]at e;cases e;simp
    .rw[z,q]at e;cases e
   .cases YR.mp z;refine⟨λ_ _ _ e=>?_,λ_ e=>?_⟩
    .rw[q2]at e;cases e
    .rw[q2]at e;cases e;simp
 .obtain⟨G,q⟩:=h.out j (Nat.not_lt.mp m) b a;exact g q
def SR.hid(h:SR K own H I o):ml H (Ow own) :=
 ⟨λb z=>h.sole z,λa C d c ⟨j,z⟩ e=>⟨j,(h.mate z).1 C d c e⟩,λb x ⟨j,z⟩ e=>⟨j,(h.mate z).2 x e⟩⟩
def dA(S:Addr->Prop)(H G:Hp):Hp:=λb=>open Classical in if S b then H b else G b
def zL{G:Hp}{b:Addr}(h:S b):dA S H G b=H b:=by unfold dA;rw[ZY h]
def mG{G:Hp}{b:Addr}(h:¬S b):dA S H G b=G b:=by unfold dA;rw[ZZ h]
def hU(c:Sp):Sp:=λa H Q _=>∃S:Addr->Prop,ml H S/\c a (hd S H) (λv G=>(∀b,S b->G b=none)->Q v (dA S H G)) λ_ _ _=>False
def fX.hid{sp:Sp}(F:fX P w K mg base bc k f fd ps sp):fX P w K mg base bc k f fd ps (hU sp):=by
 refine⟨λI H Q E h=>?_,λA l s H O Z I Q E hr j hb r h=>?_⟩
 .obtain⟨S,_,z⟩:=h;exact F.len I _ _ _ z
 obtain⟨S,B,z⟩:=h;have m:∀{b:Addr},H b=none->hd S H b=none:=λ{b}e=>by
  by_cases z:S b
  .exact rA z
  .rw[cN z];exact e
 have R:∀{b:Addr}{u:HO},S b->H b=some u->(∀G,u≠.tup G)/\(∀o v,u≠.frz o v)/\∀ps,u≠.tbl ps:=λ{b u}z e=>by
  obtain⟨o,q,w⟩:=B.sole b z;rw[e]at q;cases q;rcases w with⟨_,rfl⟩|⟨_,rfl⟩|⟨_,_,_,rfl⟩|⟨_,rfl⟩<;>exact⟨λ_ z=>(nomatch z),λ_ _ z=>(nomatch z),λ_ z=>(nomatch z)⟩
 have e1:Ww P w K mg base A l s (hd S H):=⟨j.frames,j.mod,λb o e=>⟨(j.bs b o e).1,m (j.bs b o e).2⟩,j.bsz,j.funs,λb hb=>m (j.frf b hb),λb u e=>by
  obtain⟨nb,T⟩:=cQ e;refine(j.hok b u T).stay (λ_ _ _ z=>z) (λd z=>?_) λd G z=>?_
  .rw[cN λy=>nb (B.own d b y z)];exact z
  .rw[cN λy=>(R y z).1 G rfl];exact z,j.bare⟩
 refine codeAny_mono (F.run A l s (hd S H) O Z I _ _ hr e1 hb r z) λU s' L=>?_;cases U with
 |error e=>exact L.elim
 |ok fl =>
  cases fl with
  |next=>exact False.elim L
  |brk=>exact False.elim L
  |cont=>exact False.elim L
  |ret u =>
   obtain⟨v,a,os,N,p,Y,rv,q⟩:=L;have t:∀{b:Addr},S b->∃o,s.heap.get? b=some o:=λ{b}y=>by
    obtain⟨u,e,w⟩:=B.sole b y;have x:=j.hok b u e;rcases w with⟨G,rfl⟩|⟨kk,rfl⟩|⟨C,d,f,rfl⟩|⟨y,rfl⟩
    .obtain⟨_,_,_,_,i⟩:=x;exact⟨_,i⟩
    .obtain⟨_,_,_,_,_,_,_,i,_⟩:=x;exact⟨_,i⟩
    .obtain⟨_,_,_,i,_⟩:=x;exact⟨_,i⟩
    .exact x
   have g:∀{b:Addr}{o:Obj},S b->s.heap.get? b=some o->s'.heap.get? b=some o:=λ{b o}y e=>p.keep b o e (rA y) (λz=>(B.sole b y).ne (j.frf b z)) vz;have bu:∀b,S b->a b=none:=λb y=>by
    obtain⟨o,ho⟩:=t y;exact p.free b o ho (rA y) vz
   have W:∀{b:Addr}{u:HO},a b=some u->¬S b:=λe z=>by rw[bu _ z]at e;cases e
   have M:∀{b:Addr}{u:HO},a b=some u->dA S H a b=some u:=λe=>(mG (W e)).trans e;refine⟨v,dA S H a,os,N,⟨λb o e n=>p.keep b o e (m n),λb o e n=>p.slot b o e (m n),λb o e n z=>?_,p.there,λb G e=>?_,λb o u e=>?_,λb ps e=>?_⟩,λb u e=>?_,rv,q bu⟩
   .rw[mG λy=>(B.sole b y).ne n];exact p.free b o e (m n) z
   .have n:¬S b:=λy=>(R y e).1 G rfl;exact M (p.tups b G ((cN n).trans e))
   .have n:¬S b:=λy=>(R y e).2.1 o u rfl;exact M (p.frzs b o u ((cN n).trans e))
   .have n:¬S b:=λy=>(R y e).2.2 ps rfl;obtain⟨J,this⟩:=p.tbls b ps ((cN n).trans e);exact⟨J,M this⟩
   .by_cases z:S b
    .rw[zL z]at e;have x:=j.hok b u e;obtain⟨u',T,w⟩:=B.sole b z;rw[e]at T;cases T;rcases w with⟨G,rfl⟩|⟨kk,rfl⟩|⟨C,d,f,rfl⟩|⟨y,rfl⟩
     .obtain⟨D,X,n,r,i⟩:=x;exact⟨D,X,n,r,g z i⟩
     .obtain⟨D,y,I,r,V,es,ep,i,c⟩:=x;exact⟨D,y,I,r,V,es,ep,g z i,c⟩
     .obtain⟨d1,D,ne,i,mA,⟨od,es,ep,e3,c⟩,r⟩:=x;have sd:=B.ins b C d f z e;exact⟨(zL sd).trans d1,D,ne,g z i,mA,⟨od,es,ep,g sd e3,c⟩,r⟩
     .obtain⟨V,i⟩:=x;exact⟨V,g z i⟩
    .rw[mG z]at e;exact(Y b u e).stay (λ_ _ _ z=>z) (λd z=>M z) λd G z=>M z
abbrev ST:=xk->(OT->Prop)->Prop
def fS(K:Frag)(S:ST):Sp:=λa H Q _=>∃W R,cA K H a W/\S W R/\∀H' v x,R x->zO H H'->NR K (λ_=>False) H H' v x->Q v H'
abbrev J9(P:Program)(w:World)(K:Frag)(mg:Str->Ω)(base:Heap)(k:Nat)(x:Str)(ps:Φ)(S:ST):Prop:=e_ P w K mg base k x ps (fS K S)
def n4:RA:=λ_ q=>q []
def EG(a:RE)(r:RA):RA:=λo q=>a o λx=>r o λW=>q (frz x::W)
def bC:QA X [] n4:=dI.imp λI H Q b=>by obtain⟨own,o,R,h,a,k⟩:=b;exact k H [] [] a rfl (.refl _) .nil
def tQA.mk{R:xk->Prop}{Q:Ζ->Hp->Prop}(h:SR K own H I o)(b:r o R)(k:∀H' a W,R W->W.length=n->zO H H'->cA K (hd (Ow own) H') a W->Q a H'):tQA K n r I H Q:=⟨own,o,R,h,b,k⟩
def bx{a:RE}(m:QE X e a)(b:QA X es r)(l:‹zw X e es›):QA X (e::es) (EG a r):=(cj m b l).imp λI H Q ⟨own,o,R,h,b,k⟩ =>
 tQ.mk h b λY v x q d i=>tQA.mk (h.same d) q λn f W q2 j c g=>k n (v::f) (frz x::W) q2 (ZH (· + 1) j) (d.trans c) (.cons (i.same (bZ c)) g)
def oq(S:ST)(r:RA):RE:=λo q=>r o λW=>S W q
def bI{S:ST}(G:J9 X.prog X.w X.K X.mg X.base k x ps S)(c:QA X (e::es) r)(d:eN k X.A:=by exact eN.mono (by assumption) wP)(D:‹Gl X x›)(M:autoParam (zz x) zP4)
 (J:‹zw X e es›)(N:‹zg X O es›):QE X (.Call (.Name x p) (e::es) [] O) (oq S r):=by
 obtain⟨f,fd,F,b,C,y⟩:=G;refine(j9 (sp:=hU (fS X.K S)) ⟨f,fd,F.hid,b,C,y⟩ d D c M J N).imp λI H Q ⟨own,o,R,h,d,k⟩=>tQA.mk h d λY T W q _ i m=>?_;have L:=h.same i;refine⟨Ow own,L.hid,W,R,m,q,λG v x l E n g=>?_⟩;have P:zO Y (dA (Ow own) Y G):=λb u e=>by
  by_cases z:Ow own b
  .rw[zL z];exact e
  .rw[mG z];exact E b u ((cN z).trans e)
 have j:zO G (dA (Ow own) Y G):=λb u e=>by rw[mG λz=>by rw[g b z]at e;cases e];exact e
 refine k _ v x l (i.trans P) (NR.back (H:=Y) ?_ i);obtain⟨B,t,s⟩:=n;have out:∀a∈B,¬Ow own a:=λa c z=>(s.sole c).ne (g a z);refine⟨B,λa c=>by have:=t a c;rwa[cN (out a c)]at this,s.same (g8 (λb z=>?_) j) j⟩;rcases z with z|z
 .exact .inr (g b z)
 .exact .inl (.inr z)
def rB(a:RE):RT:=λo q=>a o λx=>match frz x with|.bl b=>q b|_=>False
def rf:T->(Bool->Prop)->Prop
 |.bl b,q=>q b
 |.int i,q=>q (i != 0)
 |.non,q=>q false
 |.lst W,q=>q (!W.isEmpty)
 |.tup W,q=>q (!W.isEmpty)
 |_,_=>False
def MH(a:RE):RT:=λo q=>a o λx=>rf (frz x) q
def om(a b:RT):RT:=λo q=>a o λc=>sw c (b o q) (q false)
def Lu(a b:RT):RT:=λo q=>a o λc=>sw c (q true) (b o q)
def nX(a:RT):RT:=λo q=>a o λc=>q (!c)
def Rl(a b:RE):RE:=λo q=>a o λx=>match frz x with|.bl c=>sw c (b o q) (q (.fz (.bl false)))|_=>False
def Pp(a:RE):RE:=λo q=>a o λx=>match frz x with|.bl c=>q (.fz (.bl (!c)))|_=>False
def LB(c:RT)(a b:RE):RE:=λo q=>c o λk=>sw k (a o q) (b o q)
def tQT.mk{r:RT}{R:Bool->Prop}{Q:Bool->Hp->Prop}(h:SR K own H I o)(a:r o R)(k:∀H' b,R b->zO H H'->Q b H'):tQT K r I H Q:=⟨own,o,R,h,a,k⟩
def Rep.isEmpty{K:Frag}{F:Hp}{G:Ζ}{W:xk}(h:cA K F G W):G.isEmpty=W.isEmpty:=by cases h<;>rfl
def Np{c:Bool}{p q b a:Prop}(h:sw c p q)(i:p->b)(j:q->a):if c=true then b else a:=by
 cases c
 .exact N2 (j h)
 .exact NF (i h)
section
variable{X:Cx}{a b c:Expr}{ra rb rc:RE}{qa qb qc:RT}{O:Pos}{rest:xb}
def bW(e:GO X (compareOp op) g)(j:QE X a ra)(i:QE X b rb)(f:behindInMarks op b=false:=by exact HB _):QT X (.Compare a [op] [b] O) (rB (eP g ra rb)) :=
 (Vh e j i f).imp λI H Q ⟨own,o,R,h,d,k⟩=>q2 (ra:=ra) (rb:=rb) (tQ.mk h d λY v x q l c=>by
  revert c q
  generalize frz x=t;intro q c;cases c<;>try exact q.elim
  exact⟨_,rfl,k _ _ q l⟩)
def cJ(i:QE X a ra)(g:∀d,isTrue a X.env d=(do let v <- d;standAt a.pos;holding [v] (truthy v)):=by exact λ_=>rfl):QT X a (MH ra):=(ae2 i g).imp λI H Q ⟨own,o,R,h,f,k⟩=>tQ.mk h f λY v x q c b=>by
 revert b q
 generalize frz x=t;intro q b;cases t<;>try exact q.elim
 .cases b;exact⟨false,rfl,k _ _ q c⟩
 .cases b;exact⟨_,rfl,k _ _ q c⟩
 .cases b;exact⟨_,rfl,k _ _ q c⟩
 .obtain⟨p,G,rfl,e,r⟩:=b.tupI;exact⟨_,.inr (.inl ⟨G,dh.tup e,rfl⟩),by rw[Rep.isEmpty r];exact k _ _ q c⟩
 .obtain⟨p,G,rfl,e,r⟩:=b.lstI;exact⟨_,.inl ⟨G,.of (cQ e).2,rfl⟩,by rw[Rep.isEmpty r];exact k _ _ q c⟩
def dg(d:QT X a qa):QT X (.UnaryOp .Not a O) (nX qa):=(qf d).imp λI H Q e=>by obtain⟨own,o,R,h,c,k⟩:=e;exact tQT.mk h c λY b q f=>k Y _ q f
def JX(b:QT X a qa):QW X (.BoolOp .And [a] O) qa:=pw_and1 b
def fu(b:QT X a qa):QW X (.BoolOp .Or [a] O) qa:=pw_or1 b
def Ve(i:QT X a qa)(g:QW X (.BoolOp .And (b::rest) O) qb):QW X (.BoolOp .And (a::b::rest) O) (om qa qb):=(pw_and i g).imp λI H Q j=>by obtain⟨own,o,R,h,f,k⟩:=j;exact tQT.mk h f λY c q e=>Np q (λq=>tQT.mk (h.same e) q λl d q m=>k l d q (e.trans m)) λq=>k Y _ q e
def fW(i:QT X a qa)(g:QW X (.BoolOp .Or (b::rest) O) qb):QW X (.BoolOp .Or (a::b::rest) O) (Lu qa qb):=(pw_or i g).imp λI H Q j=>by obtain⟨own,o,R,h,f,k⟩:=j;exact tQT.mk h f λY c q e=>Np q (λq=>k Y _ q e) λq=>tQT.mk (h.same e) q λl d q m=>k l d q (e.trans m)
def QW.qt(h:QW X a qa):QT X a qa:=PW.pt h
def zu{op}(h:QE X a ra):QE X (.BoolOp op [a] O) ra:=GT h
def wO(g:QE X a ra)(f:QE X (.BoolOp .And (b::rest) O) rb):QE X (.BoolOp .And (a::b::rest) O) (Rl ra rb):=(FH g f).imp λI H Q ⟨own,o,R,h,e,k⟩=>tQ.mk h e λY v x q c d=>by
 revert d q
 generalize frz x=t;intro q d;cases d<;>try exact q.elim
 exact⟨_,rfl,Np q (λq=>⟨own,o,R,h.same c,q,λi v x q j n=>k i v x q (c.trans j) (n.back c)⟩) λq=>k Y _ _ q c (NR.fz (.bl _))⟩
def FU(d:QE X a ra):QE X (.UnaryOp .Not a O) (Pp ra):=(SY d).imp λI H Q ⟨own,o,R,h,c,k⟩=>tQ.mk h c λY v x q e b=>by
 revert b q
 generalize frz x=t;intro q b;cases b<;>try exact q.elim
 exact⟨_,rfl,k Y _ _ q e (NR.fz (.bl _))⟩
def Yr{c:Expr}(i:QT X c qc)(l:QE X a ra)(j:QE X b rb):QE X (.IfExp c a b O) (LB qc ra rb):=(aeg i l j).imp λI H Q ⟨own,o,R,h,g,k⟩=>tQT.mk h g λY c q d =>
 Np q (λq=>⟨own,o,R,h.same d,q,λe v x q f n=>k e v x q (d.trans f) (n.back d)⟩) λq=>⟨own,o,R,h.same d,q,λe v x q f n=>k e v x q (d.trans f) (n.back d)⟩
def mz(g d:zi)(a b c:RE):RE:=λo q=>a o λx=>b o λy=>g (frz x) (frz y) λz=>match frz z with|.bl k=>sw k (c o λw=>d (frz y) (frz w) q) (q (.fz (.bl false)))|_=>False
def q3{C:CmpOp}{l:zi}(G:GO X (compareOp op) g)(J:GO X (compareOp C) l)(h:tQ X.K (mz g l ra rb rc) I H Q):Zg (zqq X g) (zqq X l) (tQ X.K ra) (tQ X.K rb) (tQ X.K rc) I H Q:=by
 obtain⟨own,o,R,h,B,k⟩:=h;refine tQ.mk h B λY v x q e s=>tQ.mk (h.same e) q λM w y q2 d m=>?_;have j:=h.same (e.trans d);refine⟨Ow own,_,_,_,λb z=>(j.sole z).ne,s.same (bZ d),m,q2,λD u z a c n=>?_⟩;have i:=n.rep λb z=>(j.sole z).ne
 revert i a
 generalize frz z=t;intro a i;cases i<;>try exact a.elim
 have p:=j.same c;refine⟨_,rfl,Np a (λq=>tQ.mk p q λL F z A f r=>⟨Ow own,_,_,R,λb z=>((p.same f).sole z).ne,m.same (bZ (c.trans f)),r,A,λH' u z a E n=>k H' u z a (e.trans (d.trans (c.trans (f.trans E)))) (n.back (e.trans (d.trans (c.trans f))))⟩) λq=>k D _ _ q (e.trans (d.trans c)) (NR.fz (.bl _))⟩
def Mz{d:CmpOp}{f:zi}(e:GO X (compareOp op) g)(h:GO X (compareOp d) f)(l:QE X a ra)(k:QE X b rb)(j:QE X c rc)(i:lastMarks [op,d] [b,c]=false:=by with_unfolding_all rfl):QE X (.Compare a [op,d] [b,c] O) (mz g f ra rb rc):=(adY e h l k j i).imp λ_ _ _=>q3 e h
def V2{e:CmpOp}{i:zi}(f:GO X (compareOp op) g)(j:GO X (compareOp e) i)(p:QE X a ra)(n:QE X b rb)(hc:QE X c rc)(m:lastMarks [op,e] [b,c]=false:=by with_unfolding_all rfl):QT X (.Compare a [op,e] [b,c] O) (rB (mz g i ra rb rc)) :=
 (ae8 f j p n hc m).imp λI H Q ⟨own,o,R,h,l,k⟩=>q3 (ra:=ra) (rb:=rb) (rc:=rc) f j (tQ.mk h l λY v x q r d=>by
  revert d q
  generalize frz x=t;intro q d;cases d<;>try exact q.elim
  exact⟨_,rfl,k _ _ q r⟩)
end
def dz{α:Type} : List α->Nat->Option α
 |[],_=>none
 |x::_,0=>some x
 |_::l,n+1=>dz l n
theorem o7{α:Type} : ∀(l:List α)(n:Nat),dz l n=l[n]?
 |[],_=>rfl
 |_::_,0=>rfl
 |_::l,n+1=>by simpa[dz]using o7 l n
def ck(W:List α):Int->Option α
 |.ofNat n=>dz W n
 |.negSucc n=>dz W.reverse n
def T7(W:List α)(i:Int):ck W i=c4 W i:=by
 unfold ck c4 c_;cases i with
 |ofNat n =>
  show dz W n=_;rw[o7,ZY (show 0<=Int.ofNat n from WZ n)];by_cases h:n<W.length
  .rw[ZY (by show(n:Int)<_;lia)];rfl
  .rw[ZZ (by show ¬(n:Int)<_;lia),aM (Nat.not_lt.mp h)];rfl
 |negSucc n =>
  show dz W.reverse n=_;rw[o7,ZZ wE];by_cases h:n<W.length
  .rw[ZY wE,List.getElem?_reverse h];show _=W[_]?;rw[show(Int.negSucc n+(W.length:Int)).toNat=W.length-1-n by lia]
  .rw[ZZ wE,aM (by rw[length_reverse];exact VX h)];rfl
def cA.ix{F:Hp}{i:Int}(h:cA K F G W)(e:ck W i=some t):∃x,c4 G i=some x/\Rep K F x t:=by
 rw[T7]at e;unfold c4 at e ⊢;rw[h.len];cases j:c_ W.length i with
 |none=>rw[j]at e;cases e
 |some n=>rw[j]at e;exact h.at_ e
def oT(x:Option α)(q:α->Prop):Prop:=match x with|some t=>q t|none=>False
def EV{x:Option α}{q:α->Prop}(h:oT x q):∃t,x=some t/\q t:=by
 cases x with
 |none=>exact h.elim
 |some t=>exact⟨t,rfl,h⟩
def ki:zi
 |.tup W,.int i,q=>oT (ck W i) λt=>q (.fz t)
 |.lst W,.int i,q=>∃t,ck W i=some t/\q (.fz t)
 |.scr W,.int i,q=>∃t,ck W i=some t/\q (.fz t)
 |.str s,.int i,q=>s.length<=sizeLine/\∃c,ck s.cps.toList i=some c/\q (.fz (.str ⟨#[c]⟩))
 |_,_,_=>False
def LY:IxR X (zqq X ki):=by
 refine(vO.or (FC.or Si)).imp λx y H Q h=>?_;obtain⟨S,t,u,R,_,g,l,a,k⟩:=h;cases u with
 |int i=>?_
 |_=>cases t<;>exact a.elim
 cases l;cases t with
 |any=>exact a.elim
 |non=>exact a.elim
 |bl _=>exact a.elim
 |int _=>exact a.elim
 |val _=>exact a.elim
 |dct _ _=>exact a.elim
 |ins _ _ _=>exact a.elim
 |exc _ _ _=>exact a.elim
 |str s=>?_
 |tup W=>?_
 |lst W=>?_
 |scr W=>?_
 .cases g;obtain⟨z,c,e,q⟩:=a;rw[T7]at e;exact .inr (.inr ⟨_,_,c,rfl,rfl,z,e,k H _ _ q (.refl _) (NR.fz (.str _))⟩)
 .obtain⟨p,G,rfl,e,r⟩:=g.tupI;obtain⟨t,j,q⟩:=EV a;obtain⟨v,f,d⟩:=r.ix j;exact .inr (.inl ⟨p,G,i,v,rfl,rfl,dh.tup e,f,k H _ _ q (.refl _) (NR.fz d)⟩)
 .obtain⟨p,G,rfl,e,r⟩:=g.lstI;obtain⟨t,j,q⟩:=a;obtain⟨v,f,d⟩:=r.ix j;exact .inl ⟨p,G,_,v,rfl,rfl,.of (cQ e).2,f,k H _ _ q (.refl _) (NR.fz d)⟩
 .obtain⟨p,G,rfl,e,r⟩:=g.scrI;obtain⟨t,j,q⟩:=a;obtain⟨v,f,d⟩:=r.ix j;exact .inl ⟨p,G,_,v,rfl,rfl,dh.seq e,f,k H _ _ q (.refl _) (NR.fz d)⟩
def bJ(e:QE X a ra)(d:QE X b rb)(c:vV b:=by exact λ_ _=>rfl):QE X (.Subscript a b O) (eP ki ra rb):=(oN LY e d c).imp λ_ _ _=>q2
abbrev RO:=xy->(xh->Prop)->Prop
def KM(K:Frag)(r:RO):TO:=λI H Q=>∃own o R,SR K own H I o/\r o R/\∀H' b,R b->zO H H'->Q b H'
def QO(X:Cx)(e:Option Expr)(r:RO):Prop:=PO X e (KM X.K r)
def Nl:RO:=λ_ q=>q none
def Qb(a:RE):RO:=λo q=>a o λx=>match frz x with|.int i=>q (some i)|_=>False
def PO.imp{e:Option Expr}{t b:TO}(h:PO X e t)(i:∀I H Q,b I H Q->t I H Q):PO X e b:=λU s I H Q a q=>h U s I H Q a (i I H Q q)
def Bm:QO X none Nl:=_z.imp λI H Q b=>by obtain⟨own,o,R,h,a,k⟩:=b;exact k H _ a (.refl _)
def g_(h:QE X e re):QO X (some e) (Qb re):=(ah9 h).imp λI H Q ⟨own,o,R,h,b,k⟩=>tQ.mk h b λY v x q c a=>by
 revert a q
 generalize frz x=t;intro q a;cases a<;>try exact q.elim
 exact⟨_,rfl,k _ _ q c⟩
def gD(G:List α)(lo hi:xh):List α:=(G.drop (HT.sIx G.length 0 lo)).take (HT.sIx G.length G.length hi-HT.sIx G.length 0 lo)
def cA.cut{F:Hp}(h:cA K F G W)(lo hi:xh):cA K F (ih G lo hi) (gD W lo hi):=by
 unfold ih gD;rw[h.len];exact(h.drop _).take _
def LZ:T->xh->xh->(OT->Prop)->Prop
 |.lst W,lo,hi,q=>q (.l1 (gD W lo hi))
 |.scr W,lo,hi,q=>q (.l1 (gD W lo hi))
 |.str s,lo,hi,q=>s.length<=sizeLine/\q (.fz (.str (Ju s lo hi)))
 |_,_,_,_=>False
def Lo(a:RE)(lo hi:RO):RE:=λo q=>a o λx=>lo o λl=>hi o λu=>LZ (frz x) l u q
def ju{g i:RO}(w:QE X e re)(s:QO X lo g)(m:QO X hi i):QE X (.Subscript e (.Slice lo hi none p2) O) (Lo re g i):=(agf (_G.or XA) w s m).imp λI H Q ⟨own,o,R,h,n,k⟩ =>
 tQ.mk h n λY v x q f b=>⟨own,o,_,h.same f,q,λz l q d=>⟨own,o,_,(h.same f).same d,q,λy u q j=>by
  have E:=f.trans (d.trans j);have b:=b.same (bZ (d.trans j))
  revert b q
  generalize frz x=t;intro q b;cases t<;>try exact q.elim
  .cases b;exact .inr ⟨_,rfl,q.1,k _ _ _ q.2 E (NR.fz (.str _))⟩
  .obtain⟨p,G,rfl,e,r⟩:=b.lstI;exact .inl ⟨p,G,rfl,.of (cQ e).2,λa c=>k _ _ _ q (E.trans (zO.upd c)) ((Cq (r.cut l u) (zO.upd c) c bY).back E)⟩
  .obtain⟨p,G,rfl,e,r⟩:=b.scrI;exact .inl ⟨p,G,rfl,dh.seq e,λa c=>k _ _ _ q (E.trans (zO.upd c)) ((Cq (r.cut l u) (zO.upd c) c bY).back E)⟩⟩⟩
section
variable{X:Cx}{e:Expr}{es:xb}{r:RA}{O:Pos}
def yG(r:RA):RE:=λo q=>r o λW=>q (.fz (.tup W))
def xx(r:RA):RE:=λo q=>r o λW=>q (.l1 W)
def dU(h:QA X es r)(e:autoParam (es.length<=sizeLine) zP4):QE X (.Tuple es k O) (yG r):=(U_ h).imp λI H Q ⟨own,o,R,h,f,k⟩=>tQA.mk h f λY g W q d c b =>
 ⟨by rw[b.len,d];exact e,λp a=>k _ _ _ q (c.trans (zO.upd a)) (NR.fz (.tup (.of (by rw[cN λz=>(h.sole z).ne (c.free a)];exact bY)) (b.same (bZ (zO.upd a)))))⟩
def dJ(h:QA X es r)(e:autoParam (es.length<=sizeLine) zP4):QE X (.List es O) (xx r):=(Sv h).imp λI H Q ⟨own,o,R,h,f,k⟩=>tQA.mk h f λY g W q d c b =>
 ⟨by rw[b.len,d];exact e,λp a=>k _ _ _ q (c.trans (zO.upd a)) ((Cq b (zO.upd a) a bY).back c)⟩
def GC(X:Cx)(f:Value)(g:ST):Prop:=iH X f λG H Q=>∃S W R,(∀b,S b->H b≠none)/\cA X.K (hd S H) G W/\g W R/\∀H' v z,R z->zO H H'->NR X.K S H H' v z->Q v H'
variable{x:Str}{p:Pos}{id Ty:String}{g:ST}
def bN(t:GC X (.builtin id) g)(l:X.mg x=none)(f:bootBuiltins x=some (.builtin id))(u:QA X (e::es) r)(m:‹Gl X x›)(j:autoParam (x≠"__name__") zP4)(y:autoParam (zz x) zP4)
 (s:‹zw X e es›)(A:‹zg X O es›):QE X (.Call (.Name x p) (e::es) [] O) (oq g r) :=
 (oH t m l f u j y s A).imp λI H Q w=>by obtain⟨own,o,R,h,i,k⟩:=w;exact tQA.mk h i λY B W q _ a d=>⟨Ow own,W,R,λb z=>((h.same a).sole z).ne,d,q,λH' v z c E n=>k H' v z c (a.trans E) (n.back a)⟩
def jU(t:GC X (.type Ty) g)(l:X.mg x=none)(f:bootBuiltins x=some (.type Ty))(u:QA X (e::es) r)(m:‹Gl X x›)(j:autoParam (x≠"__name__") zP4)(y:autoParam (zz x) zP4)
 (s:‹zw X e es›)(A:‹zg X O es›):QE X (.Call (.Name x p) (e::es) [] O) (oq g r) :=
 (A_ t m l f u j y s A).imp λI H Q w=>by obtain⟨own,o,R,h,i,k⟩:=w;exact tQA.mk h i λY B W q _ a d=>⟨Ow own,W,R,λb z=>((h.same a).sole z).ne,d,q,λH' v z c E n=>k H' v z c (a.trans E) (n.back a)⟩
def cA.one{F:Hp}(h:cA K F G [t]):∃x,G=[x]/\Rep K F x t:=by
 cases h with
 |cons a b=>cases b;exact⟨_,rfl,a⟩
def cA.two{F:Hp}{u:T}(h:cA K F G [t,u]):∃x y,G=[x,y]/\Rep K F x t/\Rep K F y u:=by
 cases h with
 |cons a b =>
  obtain⟨y,rfl,c⟩:=b.one;exact⟨_,y,rfl,a,c⟩
def g1(g:T->(OT->Prop)->Prop):ST:=λW q=>match W with|[t]=>g t q|_=>False
def GC.one{f:Value}{g:T->(OT->Prop)->Prop}{r:Ζ->Hp->VK->Prop}(h:iH X f r)(i:∀S t x H Q R,Rep X.K (hd S H) x t->g t R->(∀H' v z,R z->zO H H'->NR X.K S H H' v z->Q v H')->r [x] H Q):GC X f (g1 g):=h.imp λG H Q d=>by
 obtain⟨S,W,R,_,c,a,k⟩:=d
 rcases W with _|⟨t,_|_⟩<;>try cases a
 obtain⟨x,rfl,b⟩:=c.one;exact i S t x H Q R b a k
def MM:T->(OT->Prop)->Prop
 |.lst W,q=>q (.fz (.int W.length))
 |.tup W,q=>q (.fz (.int W.length))
 |.scr W,q=>q (.fz (.int W.length))
 |_,_=>False
def cG:GC X (.builtin "len") (g1 MM):=.one Gu λS t x H Q R b a k=>by
 cases t<;>try exact a.elim
 .obtain⟨p,G,rfl,e,r⟩:=b.tupI;exact⟨p,G,rfl,.inr (dh.tup e),k H _ _ a (.refl _) (NR.fz (by rw[r.len];exact .int _))⟩
 .obtain⟨p,G,rfl,e,r⟩:=b.lstI;exact⟨p,G,rfl,.inl (.of (cQ e).2),k H _ _ a (.refl _) (NR.fz (by rw[r.len];exact .int _))⟩
 .obtain⟨p,G,rfl,e,r⟩:=b.scrI;exact⟨p,G,rfl,.inl (dh.seq e),k H _ _ a (.refl _) (NR.fz (by rw[r.len];exact .int _))⟩
def NB:T->(OT->Prop)->Prop
 |.str s,q=>s.length<=sizeLine/\q (.fz (.int s.length))
 |_,_=>False
def ON:T->(OT->Prop)->Prop
 |.dct a _,q=>q (.fz (.int a.length))
 |_,_=>False
def ac5:iH X (.builtin "len") (λG H Q=>∃p b,G=[.ref p]/\Rd H p (.dK b)/\Q (.int b.length) H):=by
 intro U s I H G Z Q a r h;obtain⟨p,b,rfl,c,q⟩:=h;obtain⟨u,rfl,f⟩:=vals1 r;cases f;have e:b.length<=sizeLine/\(p==sysModules)=false/\∃d,KV b d/\s.heap.DictOf (jQ X.prog X.w) p d:=by
  rcases c with c|⟨o,c⟩
  .exact a.hok p _ c
  .exact(a.hok p _ c).2
 obtain⟨k,i,d,g,m⟩:=e;have l:=zG;have j:b.length=d.length:=g.length;exact call_len_dict i m wE ⟨.int b.length,H,a.tok _,⟨_,by rw[j]⟩,q⟩
def I0:GC X (.builtin "len") (g1 ON):=.one ac5 λS t x H Q R b a k=>by
 cases t<;>try exact a.elim
 obtain⟨p,G,rfl,e,l,r⟩:=b.dctI;exact⟨p,_,rfl,dh.rd e,k H _ _ a (.refl _) (NR.fz (by rw[VU,l,US];exact .int _))⟩
def Na:T->(OT->Prop)->Prop
 |.int i,q=>q (.fz (.int i.natAbs))
 |_,_=>False
def Ly:GC X (.builtin "abs") (g1 Na):=.one afg λS t x H Q R b a k=>by
 cases t<;>try exact a.elim
 cases b;exact⟨_,rfl,k H _ _ a (.refl _) (NR.fz (by rw[RU];exact .int _))⟩
theorem cA.ints{K:Frag}{F:Hp} : ∀{G:Ζ}{c:xo},cA K F G (c.map T.int)->G=c.map V.int
 |_,[],.nil=>rfl
 |_,n::c,.cons a b=>by cases a;rw[cA.ints b];rfl
theorem cA.bls{K:Frag}{F:Hp} : ∀{G:Ζ}{c:wn},cA K F G (c.map T.bl)->G=c.map V.bl
 |_,[],.nil=>rfl
 |_,n::c,.cons a b=>by cases a;rw[cA.bls b];rfl
theorem GX{K:Frag}{F:Hp} : ∀(a:xo),cA K F (a.map V.int) (a.map T.int)
 |[]=>.nil
 |_::a=>.cons (.int _) (GX a)
def MU:T->(OT->Prop)->Prop
 |.lst W,q=>∃a:xo,W=a.map T.int/\q (.fz (.int a.sum))
 |_,_=>False
def ZP(hc:X.calm):GC X (.builtin "sum") (g1 MU):=.one (acB hc) λS t x H Q R b a k=>by
 cases t<;>try exact a.elim
 obtain⟨p,G,rfl,e,r⟩:=b.lstI;obtain⟨c,rfl,q⟩:=a;exact⟨p,c,rfl,(r.ints ▸ (cQ e).2),k H _ _ q (.refl _) (NR.fz (.int _))⟩
def DC(f:wn->Bool):T->(OT->Prop)->Prop
 |.lst W,q=>∃a:wn,W=a.map T.bl/\q (.fz (.bl (f a)))
 |_,_=>False
def Ze(hc:X.calm):GC X (.builtin "all") (g1 (DC λf=>f.all λb=>b)):=.one (Hu hc) λS t x H Q R c a k=>by
 cases t<;>try exact a.elim
 obtain⟨p,G,rfl,e,r⟩:=c.lstI;obtain⟨d,rfl,q⟩:=a;exact⟨p,d,rfl,(r.bls ▸ (cQ e).2),k H _ _ q (.refl _) (NR.fz (.bl _))⟩
def _j(hc:X.calm):GC X (.builtin "any") (g1 (DC λf=>f.any λb=>b)):=.one (ab6 hc) λS t x H Q R c a k=>by
 cases t<;>try exact a.elim
 obtain⟨p,G,rfl,e,r⟩:=c.lstI;obtain⟨d,rfl,q⟩:=a;exact⟨p,d,rfl,(r.bls ▸ (cQ e).2),k H _ _ q (.refl _) (NR.fz (.bl _))⟩
def NU:T->(OT->Prop)->Prop
 |.lst W,q=>∃a:xo,W=a.map T.int/\a.length<64/\∀b:xo,b.Perm a->b.Pairwise (· <= ·)->q (.l1 (b.map T.int))
 |_,_=>False
def acX:GC X (.builtin "sorted") (g1 NU):=.one acR λS t x H Q R f d k=>by
 cases t<;>try exact d.elim
 obtain⟨p,G,rfl,e,r⟩:=f.lstI;obtain⟨g,rfl,l,q⟩:=d;exact⟨p,g,rfl,(r.ints ▸ (cQ e).2),l,λc a b i h=>k _ _ _ (q c i h) (zO.upd b) (Cq (GX c) (zO.upd b) b bY)⟩
def P1:T->(OT->Prop)->Prop
 |.lst W,q=>q (.l1 W)
 |_,_=>False
def Bk:GC X (.type "list") (g1 P1):=.one C_ λS t x H Q R d c k=>by
 cases t<;>try exact c.elim
 obtain⟨p,G,rfl,e,r⟩:=d.lstI;exact⟨p,G,rfl,(cQ e).2,λa b=>k _ _ _ c (zO.upd b) (Cq r (zO.upd b) b bY)⟩
def NS:T->(OT->Prop)->Prop
 |.int i,q=>q (.fz (.int i))
 |.bl b,q=>q (.fz (.int (if b then 1 else 0)))
 |_,_=>False
def G1:GC X (.type "int") (g1 NS):=.one acE λS t x H Q R b a k=>by
 cases t<;>try exact a.elim
 .cases b;exact .inr ⟨_,rfl,k H _ _ a (.refl _) (NR.fz (.int _))⟩
 .cases b;exact .inl ⟨_,rfl,k H _ _ a (.refl _) (NR.fz (.int _))⟩
inductive Knd where
 |int|bool|str|list|tuple
def Knd.s:Knd->String
 |.int=>"int"
 |.bool=>"bool"
 |.str=>"str"
 |.list=>"list"
 |.tuple=>"tuple"
def mT:Knd->T->wx
 |.int,.int _=>some true
 |.int,.bl _=>some true
 |.bool,.bl _=>some true
 |.str,.str _=>some true
 |.list,.lst _=>some true
 |.tuple,.tup _=>some true
 |_,.any=>none
 |_,.val _=>none
 |_,.scr _=>none
 |_,.ins _ _ _=>none
 |_,.exc _ _ _=>none
 |_,.dct _ _=>none
 |_,_=>some false
def TM(d:Knd):GC X (.builtin "isinstance") (λW q=>match W with|[t,.val v]=>v=.ty d.s/\oT (mT d t) λb=>q (.fz (.bl b))|_=>False):=by
 intro U s I H G Z Q a l h;obtain⟨S,W,R,_,w,n,k⟩:=h
 match W,n with
 |[t,.val v],n =>
  obtain⟨x,y,rfl,g,u⟩:=w.two;cases u;obtain⟨rfl,n⟩:=n;obtain⟨b,j,q⟩:=EV n;have m:d.s∈["bool","int","str","list","tuple","dict"]:=by cases d<;>decide
  cases t with
  |tup W =>
   obtain⟨p,o,rfl,e,r⟩:=g.tupI;have f:b=Ui "tuple" d.s:=by cases d<;>cases j<;>decide
   exact Xb U s I H _ Z Q a l ⟨p,d.s,o,rfl,m,dh.tup e,k H _ _ q (.refl _) (NR.fz (f ▸ .bl _))⟩
  |lst W =>
   obtain⟨p,o,rfl,e,r⟩:=g.lstI;have f:b=Ui "list" d.s:=by cases d<;>cases j<;>decide
   exact zT U s I H _ Z Q a l ⟨_,d.s,"list",rfl,m,by show(match H p with|some (.lst _)=>some "list" |some (.tup _)=>some "tuple" |some (.dK _)=>some "dict" |_=>none)=_;rw[(cQ e).2],k H _ _ q (.refl _) (NR.fz (f ▸ .bl _))⟩
  |non =>
   cases g;have f:b=Ui "NoneType" d.s:=by cases d<;>cases j<;>decide
   exact zT U s I H _ Z Q a l ⟨_,d.s,"NoneType",rfl,m,rfl,k H _ _ q (.refl _) (NR.fz (f ▸ .bl _))⟩
  |bl c =>
   cases g;have f:b=Ui "bool" d.s:=by cases d<;>cases j<;>decide
   exact zT U s I H _ Z Q a l ⟨_,d.s,"bool",rfl,m,rfl,k H _ _ q (.refl _) (NR.fz (f ▸ .bl _))⟩
  |int i =>
   cases g;have f:b=Ui "int" d.s:=by cases d<;>cases j<;>decide
   exact zT U s I H _ Z Q a l ⟨_,d.s,"int",rfl,m,rfl,k H _ _ q (.refl _) (NR.fz (f ▸ .bl _))⟩
  |str c =>
   cases g;have f:b=Ui "str" d.s:=by cases d<;>cases j<;>decide
   exact zT U s I H _ Z Q a l ⟨_,d.s,"str",rfl,m,rfl,k H _ _ q (.refl _) (NR.fz (f ▸ .bl _))⟩
  |_=>cases d<;>cases j
def L3(c:Knd)(a:RE):RE:=λo q=>a o λx=>oT (mT c (frz x)) λb=>q (.fz (.bl b))
def h_(c:Knd){y:Str}(A:QE X a ra)(u:X.mg "isinstance"=none)(m:X.mg y=none)(l:bootBuiltins y=some (.type c.s))(d:‹Gl X y›)(w:‹Gl X "isinstance"›)(r:autoParam (y≠"__name__") zP4)(g:autoParam (zz y) zP4)
 (f:‹starEach (a::[.Name y p2]) X.env=(false,eval a X.env)::starEach [.Name y p2] X.env›):QE X (.Call (.Name "isinstance" p) [a,.Name y p2] [] O) (L3 c ra) :=
 (oH (TM c) w u boot_isinstance (cj A (cj (_8 (v:=.ty c.s) d m l rfl r g) dI) f) wP wP f).imp λI H Q ⟨own,o,R,h,t,k⟩=>tQ.mk h t λY v x q e j =>
  ⟨Ow own,[frz x,.val (.ty c.s)],R,λb z=>((h.same e).sole z).ne,.cons j (.cons (.val _) .nil),⟨rfl,q⟩,λH' v z i E n=>k H' v z i (e.trans E) (n.back e)⟩
end
structure DT where
 nx:xy->Prop
 rt:OT->Prop
 bk:xy->Prop:=λ_=>False
 ct:xy->Prop:=λ_=>False
 xc:Addr->Φ->xk->Prop:=λ_ _ _=>False
abbrev RS:=DT->xy->Prop
def zx(X:Cx):XK:=λC d H'=>(∀U I H s a b B,Inv X U I H s->Fly X.prog X.w X.stack H s a C H' b B d->X.xe (.ref a) b) /\
 ∀U I H s a c,C=.ref c->Inv X U I H s->H a=some (XN a c d)->X.s₀.zs<=a->out H a=H'->X.xe (.ref a) s
structure Lnk(K:Frag)(Z:XK)(F:Hp)(E:DT)(D:Ends):Prop where
 nx:∀own H I o,E.nx o->zO F (hd (Ow own) H)->SR K own H I o->D.nx I H
 rt:∀S H v x B,E.rt x->zO F (hd S H)->Slo K (hd S H) H (some v) B x->(∀a∈B,S a)->D.rt v H
 bk:∀own H I o,E.bk o->zO F (hd (Ow own) H)->SR K own H I o->D.bk I H
 ct:∀own H I o,E.ct o->zO F (hd (Ow own) H)->SR K own H I o->D.ct I H
 xc:∀H C d ks vs W,E.xc C ks W->zO F H->H d=some (.xd (ks.zip vs))->cA K H vs W->Z (.ref C) (some d) H
variable{E:DT}{st:Stmt}{A:Ψ}{b a:RS}{sts:xS}{bi af ay:Pos}{D:Addr}{i:Nat}{ys:Ζ}
def Lnk.step{Z:XK}{F a:Hp}{D:Ends}(h:Lnk K Z F E D)(S:zO F a):Lnk K Z a E D :=
 ⟨λown H I o e s=>h.nx own H I o e (S.trans s),λT H v x B e s=>h.rt T H v x B e (S.trans s),λown H I o e s=>h.bk own H I o e (S.trans s),λown H I o e s=>h.ct own H I o e (S.trans s),λH C d c b W e s=>h.xc H C d c b W e (S.trans s)⟩
def hQ(X:Cx)(r:RS):TS:=λD I H=>∃own o E,SR X.K own H I o/\r E o/\Lnk X.K (zx X) (hd (Ow own) H) E D
def QS(X:Cx)(st:Stmt)(r:RS):Prop:=PS X st (hQ X r)
def er(X:Cx)(st:xS)(r:RS):Prop:=PSs X st (hQ X r)
def PS.imp{t b:TS}(h:PS X st t)(i:∀D I H,b D I H->t D I H):PS X st b:=λU s I H D a q=>h U s I H D a (i D I H q)
def PSs.imp{st:xS}{t b:TS}(h:PSs X st t)(i:∀D I H,b D I H->t D I H):PSs X st b:=λU s I H D a q=>h U s I H D a (i D I H q)
def EI:RS:=λE o=>E.nx o
def eE(a b:RS):RS:=λE o=>a { E with nx:=b E } o
def wm(i:Nat)(a:RE):RS:=λE o=>a o λx=>E.nx (o.set i (.fz (frz x)))
def nh(i:Nat)(a:RE):RS:=λE o=>a o λx=>E.nx (o.set i x)
def Rc(a:RE):RS:=λE o=>a o λ_=>E.nx o
def L4(a:RE):RS:=λE o=>a o E.rt
def EW(i:Nat):RS:=λE o=>match slot o i with|.und=>False|x=>E.rt x
def i4(c:RT)(a b:RS):RS:=λE o=>c o λk=>sw k (a E o) (b E o)
def Sl:RS:=λ_ _=>False
def De(i:Nat)(a:RS):RS:=λE o=>match slot o i with|.und=>False|x=>a E (o.set i (.fz (frz x)))
def SR.putA(h:SR K own H I o)(E:zO H H'){x:OT}(n:NR K (Ow own) H H' v x)(i:Nat):∃a,SR K a H' (I.set i (some v)) (o.set i x)/\zO (hd (Ow own) H) (hd (Ow a) H'):=by
 by_cases hi:i<o.length
 .exact h.put E n hi
 .rw[lL (Nat.not_lt.mp hi),lL (h.len ▸ Nat.not_lt.mp hi)];exact⟨own,h.same E,bZ E⟩
def NR.frz{S:Addr->Prop}{v:V}{x:OT}(n:NR K S H H' v x)(a:∀b,S b->H b≠none):NR K S H H' v (.fz (L2.frz x)):=NR.fz (n.rep a)
def Slo.val{F:Hp}{v:xI}{x:OT}(h:Slo K F H v A x)(n:x≠.und):∃u,v=some u:=by
 cases x with
 |und=>exact absurd rfl n
 |fz t=>exact⟨_,h.2.choose_spec.1⟩
 |l1 W=>obtain⟨a,G,e,_⟩:=h;exact⟨_,e⟩
 |l2 W=>obtain⟨a,G,e,_⟩:=h;exact⟨_,e⟩
 |d1 c W=>obtain⟨a,G,e,_⟩:=h;exact⟨_,e⟩
 |ob a d C c W=>obtain⟨G,e,_⟩:=h;exact⟨_,e⟩
 |la a W=>obtain⟨G,e,_⟩:=h;exact⟨_,e⟩
 |pr W Z=>obtain⟨p,a,b,G,ys,e,_⟩:=h;exact⟨_,e⟩
 |ow w=>obtain⟨u,e,_⟩:=h;exact⟨_,e⟩
def SR.val(h:SR K own H I o){i:Nat}{x:OT}(e:slot o i=x)(n:x≠.und):∃u,I[i]?=some (some u)/\Slo K (hd (Ow own) H) H (some u) (own i) x:=by
 have s:=h.sl i x (gA e n);obtain⟨u,a⟩:=s.val n;rw[a]at s;refine⟨u,?_,s⟩;cases z:I[i]? with
 |none=>rw[z]at a;cases a
 |some w=>rw[z]at a;exact ZH some a
def bQ:er X [] EI:=RD.imp λD I H b=>by obtain⟨own,o,E,h,a,L⟩:=b;exact L.nx own H I o a (.refl _) h
def NJ{D:Ends}(h:hQ X (eE a b) D I H):ik (hQ X a) (hQ X b) D I H:=by
 obtain⟨own,o,E,h,e,L⟩:=h;exact⟨own,o,_,h,e,λg H' c d q S f=>⟨g,d,E,f,q,L.step S⟩,L.rt,L.bk,L.ct,L.xc⟩
def bF(d:QS X st a)(c:er X sts b):er X (st::sts) (eE a b):=(jc d c).imp λ_ _ _=>NJ
def bG(h:QS X st a):er X [st] a:=jj h
def bT(i:Nat)(g:QE X e re)(j:X.N.Nodup:=by assumption)(a:fb X.env.scope x:=by first|exact .inl rfl|exact .inr rfl)(hi:‹X.N[i]?=some x›)(c:‹swapsWith e (some (.Name x bi)) O.line X.env=pure false›)(f:zd X x:=by first|exact .inl rfl|exact .inr rfl|assumption) :
  QS X (.Assign [.Name x bi] e O) (wm i re):=(Ho j hi a g c f).imp λD I H ⟨own,o,E,h,d,L⟩=>⟨own,o,_,h,d,λH' v y q S n=>by
 obtain⟨l,k,m⟩:=h.putA S (n.frz λb z=>(h.sole z).ne) i;exact L.nx l H' _ _ q m k⟩
def iY(i:Nat)(f:QE X e re)(g:X.N.Nodup:=by assumption)(a:fb X.env.scope x:=by first|exact .inl rfl|exact .inr rfl)(hi:‹X.N[i]?=some x›)(b:‹swapsWith e (some (.Name x bi)) O.line X.env=pure false›)(d:zd X x:=by first|exact .inl rfl|exact .inr rfl|assumption) :
  QS X (.Assign [.Name x bi] e O) (nh i re):=(Ho g hi a f b d).imp λD I H ⟨own,o,E,h,c,L⟩=>⟨own,o,_,h,c,λH' v y q S n=>by
 obtain⟨k,j,l⟩:=h.putA S n i;exact L.nx k H' _ _ q l j⟩
def mW(c:QE X e re)(a:‹swapsWith e none O.line X.env=pure false›):QS X (.Expr e O) (Rc re):=(gO c a).imp λD I H d=>by obtain⟨own,o,E,h,b,L⟩:=d;exact⟨own,o,_,h,b,λH' v y q S n=>L.nx own H' I o q (bZ S) (h.same S)⟩
def bM(f:QE X e re):QS X (.Return (some e) O) (L4 re):=(ud f).imp λD I H ⟨own,o,E,h,d,L⟩=>⟨own,o,_,h,d,λH' v y q S n=>by
 obtain⟨B,c,s⟩:=n;exact L.rt _ H' v y B q (g8 (λb z=>z.imp id (c b)) S) s λa g=>.inr g⟩
def mX(i:Nat)(g:autoParam (n_X X i x) zP2):QS X (.Return (some (.Name x p)) O) (EW i):=(ud (pv i g)).imp λD I H f=>by
 obtain⟨own,o,E,h,b,L⟩:=f;have b:E.rt (slot o i)/\slot o i≠.und:=by
  unfold EW at b;cases e:slot o i<;>rw[e]at b<;>first|exact b.elim|exact⟨b,λz=>by cases z⟩
 obtain⟨u,e,s⟩:=h.val rfl b.2;exact⟨u,e,L.rt (Ow own) H u _ _ b.1 (.refl _) s λa d=>⟨i,d⟩⟩
def cB{e W:xS}{f:RT}(i:QT X c f)(k:er X e a)(j:er X W b):QS X (.If c e W O) (i4 f a b):=(pP i k j).imp λD I H ⟨own,o,E,h,g,L⟩=>tQT.mk h g λY c q d =>
 Np q (λq=>⟨own,o,E,h.same d,q,L.step (bZ d)⟩) λq=>⟨own,o,E,h.same d,q,L.step (bZ d)⟩
def gK:QS X st Sl:=adt.imp λD I H b=>by obtain⟨own,o,E,h,a,L⟩:=b;exact a
def Hi(i:Nat)(c:QS X st a):QS X st (De i a):=PS.imp c λD I H d=>by
 obtain⟨own,o,E,h,b,L⟩:=d;have b:a E (o.set i (.fz (frz (slot o i))))/\slot o i≠.und:=by
  unfold De at b;cases e:slot o i<;>rw[e]at b<;>first|exact b.elim|exact⟨b,λz=>by cases z⟩
 obtain⟨u,g,s⟩:=h.val rfl b.2;obtain⟨j,f,S⟩:=h.frz (gA rfl b.2) g;exact⟨j,_,E,f,b.1,L.step S⟩
def Hg{u:HO}(h:S D):hd S (upd H D u)=hd S H:=funext λb=>by
 by_cases z:S b
 .rw[rA z,rA z]
 .rw[cN z,cN z,bR λ(e:b=D)=>z (e.symm ▸ h)]
def MC:OT->Option (List T×(xk->OT))
 |.l1 W=>some (W,.l1)
 |.la a W=>some (W,.la a)
 |_=>none
def hE(x:OT)(k:xk->(xk->OT)->Prop):Prop:=match MC x with|some (W,c)=>k W c|none=>False
def Hs{x:OT}{k:xk->(xk->OT)->Prop}(h:hE x k):∃W c,k W c/\((x=.l1 W/\c=.l1)\/∃a,x=.la a W/\c=.la a):=by
 cases x with
 |l1 W=>exact⟨W,_,h,.inl ⟨rfl,rfl⟩⟩
 |la a W=>exact⟨W,_,h,.inr ⟨a,rfl,rfl⟩⟩
 |_=>exact h.elim
def OC(i:Nat)(a:RE):RS:=λE o=>hE (slot o i) λW c=>a o λy=>W.length<sizeLine/\E.nx (o.set i (c (W++[frz y])))
def SR.l1{K:Frag}{own:Nat->Ψ}{H:Hp}{I:L2.St}{o:xy}(h:SR K own H I o){i:Nat}{W:xk}{c:xk->OT}(e:(slot o i=.l1 W/\c=.l1)\/∃a,slot o i=.la a W/\c=.la a):∃l G,I[i]?=some (some (.ref l))/\own i=[l]/\H l=some (.lst G)/\cA K (hd (Ow own) H) G W/\∀(H':Hp)(ys:Ζ)Z,H' l=some (.lst ys)->cA K (hd (Ow own) H') ys Z->Slo K (hd (Ow own) H') H' (some (.ref l)) [l] (c Z):=by
 rcases e with⟨e,rfl⟩|⟨a,e,rfl⟩
 .obtain⟨u,j,l,G,g,f,d,r⟩:=h.val e nofun;cases g;exact⟨l,G,j,f,d,r,λH' ys Z a b=>⟨l,ys,rfl,rfl,a,b⟩⟩
 .obtain⟨u,j,G,g,f,d,r⟩:=h.val e nofun;cases g;exact⟨a,G,j,f,d,r,λH' ys Z a b=>⟨ys,rfl,rfl,a,b⟩⟩
def Nb{c:xk->OT}(e:(slot o i=.l1 W/\c=.l1)\/∃a,slot o i=.la a W/\c=.la a):∃x,o[i]?=some x:=by
 rcases e with⟨e,_⟩|⟨a,e,_⟩
 .exact⟨_,gA e nofun⟩
 .exact⟨_,gA e nofun⟩
def SR.chg1(h:SR K own H I o){Z:xk}{c:xk->OT}(e:∃x,o[i]?=some x){l:Addr}(a:I[i]?=some (some (.ref l)))(d:own i=[l])(sl:∀(H':Hp)(ys:Ζ)Z,H' l=some (.lst ys)->cA K (hd (Ow own) H') ys Z->Slo K (hd (Ow own) H') H' (some (.ref l)) [l] (c Z))(r:cA K (hd (Ow own) H) ys Z):SR K own (upd H l (.lst ys)) I (o.set i (c Z))/\zO (hd (Ow own) H) (hd (Ow own) (upd H l (.lst ys))):=by
 obtain⟨x,e⟩:=e;refine h.chg e (λb u f e=>(bR λz=>f (by rw[d,z];simp)).trans e) ?_;rw[a,d];exact sl _ ys Z bY (by rw[Hg ⟨i,by rw[d];simp⟩];exact r)
def qw(i:Nat){d:Pos}(z:QE X e re)(C:autoParam (n_X X i x) zP2)
 (A:‹attributeBase (.Name x p) "append" X.env (eval (.Name x p) X.env)=eval (.Name x p) X.env›)
 (w:‹zo X af e›)
 (u:‹zC d af›)(j:‹zw X e []›)(t:‹zg X af []›)
 (s:‹swapsWith (.Call (.Attribute (.Name x p) "append" d) [e] [] af) none O.line X.env=pure false›) :
  QS X (.Expr (.Call (.Attribute (.Name x p) "append" d) [e] [] af) O) (OC i re):=(gO (CV (pv i C) (cj z dI j) A w u j t) s).imp λD I H B=>by
 obtain⟨own,o,E,h,b,L⟩:=B;obtain⟨W,c,b,es⟩:=Hs b;obtain⟨l,G,g,J,f,r,k⟩:=h.l1 es;refine⟨_,g,l,G,rfl,f,tQ.mk h b λY v y q a m=>⟨v,G,rfl,a _ _ f,by rw[r.len];exact q.1,?_⟩⟩;obtain⟨F,S⟩:=(h.same a).chg1 (Nb es) g J k ((r.same (bZ a)).app (.cons m .nil));exact L.nx own _ I _ q.2 ((bZ a).trans S) F
def NH(i:Nat)(a b:RE):RS:=λE o=>hE (slot o i) λW c=>a o λy=>b o λk=>(match frz k with|.int j=>∃n,c_ W.length j=some n/\E.nx (o.set i (c (W.set n (frz y))))|_=>False)
def yj(i:Nat){k:Expr}{m:RE}(K:QE X e re)(J:QE X k m)(Q:autoParam (n_X X i x) zP2)
 (M:∀v,assign (.Subscript (.Name x p) k ay) X.env v=(do
   let a <- holding [v] (eval (.Name x p) X.env)
   let g <- holding [v,a] (eval k X.env)
   standAt ay
   holding [v,a,g] (setItem a g v)
   release [v,a,g] []):=by intro _;rfl)
 (F:‹swapsWithSole [.Subscript (.Name x p) k ay] e O.line X.env=pure false›)(hw:‹swappedStores [.Subscript (.Name x p) k ay] e X.env=pure none›)
 (R:‹(assignEach [.Subscript (.Name x p) k ay] X.env).map (·.2)=[assign (.Subscript (.Name x p) k ay) X.env]›):QS X (.Assign [.Subscript (.Name x p) k ay] e O) (NH i re m):=(Zj K (Hm (pv i Q) J set_list M) F hw R).imp λD I H P=>by
 obtain⟨own,o,E,h,j,L⟩:=P;obtain⟨W,c,j,es⟩:=Hs j;obtain⟨l,G,s,Z,V,r,B⟩:=h.l1 es;refine tQ.mk h j λY v y q A f=>⟨_,s,tQ.mk (h.same A) q λH2 w z q u d=>?_⟩;have f:=f.same (bZ u)
 revert d q
 generalize frz z=t;intro q d;cases t<;>try exact q.elim
 cases d;obtain⟨n,U,q⟩:=q;have b:=A.trans u;refine⟨l,G,_,n,rfl,rfl,b _ _ V,by rw[r.len];exact U,?_⟩;obtain⟨T,S⟩:=(h.same b).chg1 (Nb es) s Z B (cA.set f n (r.same (bZ b)));exact L.nx own _ I _ q ((bZ b).trans S) T
def MI(i:Nat)(b:RE):RE:=λo q=>hE (slot o i) λW _=>b o λy=>(match frz y with|.int j=>∃t,ck W j=some t/\q (.fz t)|_=>False)
def vq(i:Nat){b:Expr}(n:QE X b rb)(u:autoParam (n_X X i x) zP2)(m:vV b:=by exact λ_ _=>rfl):QE X (.Subscript (.Name x p) b O) (MI i rb):=(oN vO (pv i u) n m).imp λI H Q s=>by
 obtain⟨own,o,R,h,e,k⟩:=s;obtain⟨W,c,e,es⟩:=Hs e;obtain⟨a,G,z,E,w,r,D⟩:=h.l1 es;refine⟨_,z,tQ.mk h e λY v y q f d=>?_⟩
 revert d q
 generalize frz y=t;intro q d;cases t<;>try exact q.elim
 cases d;obtain⟨t,j,q⟩:=q;obtain⟨v,A,g⟩:=r.ix j;exact⟨a,G,_,v,rfl,rfl,.of (f _ _ w),A,k Y _ _ q f (NR.fz (g.same (bZ f)))⟩
def EN(i:Nat)(f:Int->Int->Int)(a:RE):RS:=λE o=>match slot o i with|.fz (.int k)=>a o λy=>(match frz y with|.int j=>E.nx (o.set i (.fz (.int (f k j))))|_=>False)|_=>False
def Sg(i:Nat){op:Operator}{f:Int->Int->Int}(g:qA X op (tH f))(k:QE X e re)(m:X.N.Nodup:=by assumption)(d:fb X.env.scope x:=by first|exact .inl rfl|exact .inr rfl)(hi:‹X.N[i]?=some x›)(j:zd X x:=by first|exact .inl rfl|exact .inr rfl|assumption):QS X (.AugAssign (.Name x bi) op e O) (EN i f re):=(Sk m hi d k g j).imp λD I H l=>by
 obtain⟨own,o,E,h,a,L⟩:=l;unfold EN at a;cases es:slot o i with
 |fz t =>
  rw[es]at a;cases t<;>try exact a.elim
  obtain⟨u,p,r⟩:=h.get (gA es nofun);cases r;refine⟨_,p,tQ.mk h a λY v y q c b=>?_⟩
  revert b q
  generalize frz y=t;intro q b;cases t<;>try exact q.elim
  cases b;refine⟨_,_,rfl,rfl,?_⟩;obtain⟨s,n,S⟩:=(h.same c).putA (.refl _) (NR.fz (.int _)) i;exact L.nx s _ _ _ q ((bZ c).trans S) n
 |_=>rw[es]at a;exact a.elim
def G7(n:Nat)(own b:Nat->Ψ)(I a:L2.St):Prop:=(∀j,b j=own j\/(j<n/\b j=[]))/\a.length=I.length/\∀j,n<=j->a[j]?=I[j]?
def G7.refl : G7 n own own I I:=⟨λ_=>.inl rfl,rfl,λ_ _=>rfl⟩
def G7.trans{n:Nat}{own own1 g:Nat->Ψ}{I d c:L2.St}(a:G7 n own own1 I d)(b:G7 n own1 g d c):G7 n own g I c :=
 ⟨λj=>(b.1 j).elim (λe=>(a.1 j).imp (λz=>e.trans z) λz=>⟨z.1,e.trans z.2⟩) .inr,b.2.1.trans a.2.1,λj f=>(b.2.2 j f).trans (a.2.2 j f)⟩
def G7.same{d:Nat->Ψ}{c:L2.St}(a:G7 n own d I c) : zO (hd (Ow own) H) (hd (Ow d) H):=g8 (λb f=>by obtain⟨j,z⟩:=f;exact .inl ⟨j,(a.1 j).elim (λe=>e ▸ z) λe=>by rw[e.2]at z;cases z⟩) λ_ _ z=>z
abbrev zn:Type:=T->xy->(xy->Prop)->Prop
def gc(K:Frag)(n:Nat)(g:zn):TG:=λv I H Q=>∃own o t R,SR K own H I o/\Rep K (hd (Ow own) H) v t/\g t o R/\∀c a b,R b->G7 n own c I a->SR K c H a b->Q a H
def QG(X:Cx)(n:Nat)(a:Expr)(g:zn):Prop:=PG X a (gc X.K n g)
abbrev ze:Type:=xk->xy->(xy->Prop)->Prop
def jI(X:Cx)(n:Nat)(d:xb)(g:ze):Prop:=PGs X d λv I H Q=>∃own o t R,SR X.K own H I o/\cA X.K (hd (Ow own) H) v t/\g t o R/\∀c a b,R b->G7 n own c I a->SR X.K c H a b->Q a H
def PGs.imp{b:xb}{t c:e9}(h:PGs X b t)(i:∀v I H Q,c v I H Q->t v I H Q):PGs X b c:=λU s I H v u Q a r q=>h U s I H v u Q a r (i _ _ _ _ q)
def hName(i:Nat):zn:=λt o q=>q (o.set i (.fz t))
def Mn:ze:=λW o q=>match W with|[]=>q o|_=>False
def PR(g:zn)(b:ze):ze:=λW o q=>match W with|t::W=>g t o λa=>b W a q|_=>False
def MQ(n:Nat)(a:ze):zn:=λt o q=>match t with|.tup W=>W.length=n/\a W o q|_=>False
def SR.setF(h:SR K own H I o)(r:Rep K (hd (Ow own) H) v t)(hi:i<n):∃p,SR K p H (I.set i (some v)) (o.set i (.fz t))/\G7 n own p I (I.set i (some v)):=by
 have le:zO (hd (Ow own) H) (hd (Ow (own1 own i [])) H):=g8 (λb z=>.inl (z.of1.elim id λy=>(nomatch y))) λ_ _ z=>z;have m:G7 n own (own1 own i []) I (I.set i (some v)):=⟨λj=>by
  by_cases z:j=i
  .exact .inr ⟨z ▸ hi,by rw[z,fB]⟩
  .exact .inl (dG z),VZ,λj g=>VT wE⟩
 by_cases c:i<o.length
 .refine⟨own1 own i [],⟨by rw[VZ,VZ,h.len],λj y e=>?_,λj g a l=>?_,λj k a f d=>?_⟩,m⟩
  .by_cases z:j=i
   .subst z;rw[UZ c]at e;cases e;rw[fB,UZ (h.len ▸ c)];exact⟨rfl,v,rfl,r.same le⟩
   .rw[VT (Ne.symm z)]at e;rw[dG z,VT (Ne.symm z)];exact(h.sl j y e).same le λ_ _ z=>z
  .rw[VZ]at g;rw[dG wE]at l;exact h.out j g a l
  .by_cases z:j=i
   .rw[z,fB]at f;cases f
   by_cases y:k=i
   .rw[y,fB]at d;cases d
   .rw[dG z]at f;rw[dG y]at d;exact h.dis j k a f d
 .refine⟨own,?_,⟨λ_=>.inl rfl,m.2⟩⟩;rwa[lL (Nat.not_lt.mp c),lL (h.len ▸ Nat.not_lt.mp c)]
def b_(i:Nat)(hN:X.N.Nodup:=by assumption)(hx:fb X.env.scope x:=by first|exact .inl rfl|exact .inr rfl)(hi:‹X.N[i]?=some x›)(hn:autoParam (i<n) zP4)(hf:zd X x:=by first|exact .inl rfl|exact .inr rfl|assumption):QG X n (.Name x O) (hName i):=(gJ hN hi hx hf).imp λv I H Q b=>by
 obtain⟨own,o,t,R,h,r,a,k⟩:=b;obtain⟨d,c,S⟩:=h.setF r hn;exact k d _ _ a S c
def dO : jI X n [] Mn:=Ka.imp λv I H Q b=>by
 obtain⟨own,o,t,R,h,r,a,k⟩:=b;cases r with
 |nil=>exact⟨rfl,k own I o a .refl h⟩
 |cons _ _=>exact a.elim
variable{g:zn}{gs:ze}{tg:Expr}
def bV(s:QG X n e g)(d:jI X n es gs)(m:‹(assignEach (e::es) X.env).map (·.2)=assign e X.env::(assignEach es X.env).map (·.2)›):jI X n (e::es) (PR g gs):=(qP s d m).imp λv I H Q p=>by
 obtain⟨own,o,t,R,h,r,f,k⟩:=p;cases r with
 |nil=>exact f.elim
 |cons a b=>exact⟨_,_,rfl,own,o,_,_,h,a,f,λx i l q S u=>⟨x,l,_,R,u,b.same S.same,q,λw c j q y d=>k w c j q (S.trans y) d⟩⟩
def fL{m:Nat}(h:jI X m es gs)(hc:‹X.calm›)(c:‹(assignEach es X.env).length=n›)(f:‹zD X es›):QG X m (.Tuple es k O) (MQ n gs):=(F5 hc h c f).imp λv I H Q d=>by
 obtain⟨own,o,t,R,h,r,b,k⟩:=d;cases t<;>try exact b.elim
 obtain⟨a,G,rfl,e,r⟩:=r.tupI;exact⟨a,G,rfl,dh.tup e,r.len.trans b.1,own,o,_,R,h,r,b.2,k⟩
def Nc(a:RE)(g:zn):RS:=λE o=>a o λx=>g (frz x) o E.nx
def zZ(l:QE X e re)(k:QG X n tg g)(i:‹swapsWithSole [tg] e O.line X.env=pure false›)(f:‹swappedStores [tg] e X.env=pure none›)(p:‹(assignEach [tg] X.env).map (·.2)=[assign tg X.env]›):QS X (.Assign [tg] e O) (Nc re g) :=
 (Zj l k i f p).imp λD I H m=>by obtain⟨own,o,E,h,j,L⟩:=m;exact tQ.mk h j λY v y q b c=>⟨own,o,_,_,h.same b,c,q,λs a d q S r=>L.nx s Y a d q ((bZ b).trans S.same) r⟩
def start'(n:Nat)(W:xk):xy:=W.map OT.fz++replicate (n-W.length) .und
def SR.start{H:Hp}{c:Ζ}{W:xk}(r:cA K H c W)(N:Φ):SR K (λ_=>[]) H (start N c) (start' N.length W):=by
 have k:Ow (λ_=>[])=λ_=>False:=funext λb=>propext ⟨λg=>by obtain⟨_,z⟩:=g;exact(nomatch z),False.elim⟩;refine⟨by unfold start' L2.start;simp[r.len],λi x e=>?_,λ_ _ _ z=>(nomatch z),λi j a z=>(nomatch z)⟩;rw[k,VF];unfold start' at e;unfold L2.start;by_cases hi:i<W.length
 .rw[aF (by simpa using hi),aq,aj hi]at e;cases e;obtain⟨v,h,f⟩:=r.at_ (aj hi);rw[aF (by rwa[ak,r.len]),aq,h];exact⟨rfl,v,rfl,f⟩
 .rw[aD (by simpa using hi),ak,X1]at e;by_cases d:i-W.length<N.length-W.length
  .rw[ZY d]at e;cases e;rfl
  .rw[ZZ d]at e;cases e
def qo : hd (Ow λ_=>[]) H=H:=by rw[show Ow (λ_=>[])=λ_=>False from funext λb=>propext ⟨λa=>by obtain⟨_,z⟩:=a;exact(nomatch z),False.elim⟩,VF]
def o2(q:∀H' v x,R x->zO H H'->NR K (λ_=>False) H H' v x->Q v H')(S:Addr->Prop)(H':Hp)(v:V)(x:OT)(B:Ψ)(d:R x)(E:zO H (hd S H'))(s:Slo K (hd S H') H' (some v) B x)(c:∀a∈B,S a):Q v H' :=
 q H' v x d (E.trans dh) ⟨B,λa e=>E.free (rA (c a e)),s.same (g8 (λb z=>.inl (z.elim False.elim (c b))) λ_ _ z=>z) λ_ _ z=>z⟩
def Fun.okT{g:Str}{N:Φ}{S:ST}(F:Fun K x g st f fd)(i:bK N ps (bH st))
 {r}(y:∀{b:Value}{A:Around}{a:xa}{s:Shared}{H:Hp}{E:XK},eN k (A.deeper (envOfC g (bH st) s.zs f b))->N.Nodup ->er (Gr bc P w K mg base N g (bH st) f b A a s H E).nox (fP st) r)(C:∀W R,S W R->r { nx:=λ_=>R (.fz .non),rt:=R } (start' N.length W))(d:∀W R,S W R->W.length=ps.length:=by intro _ _ h;repeat (first|exact(ZH List.length h.1).trans rfl|obtain⟨_,h⟩:=h)):fX P w K mg base bc (k+1) f fd ps (fS K S):=by
 refine F.ok i (λm H Q E h=>?_) λb A a s H m Q E n h=>?_
 .obtain⟨W,R,r,e,_⟩:=h;exact r.len.trans (d W R e)
 .obtain⟨W,R,r,e,q⟩:=h;have u:=@y b A a s H E n i.nd;have t:=C;have j:=qo (H:=H);have l:=o2 q;refine⟨_,u,λ_=>[],_,_,SR.start r N,t W R e,⟨λown H' I o c E h=>?_,λD H' v x B c E s p=>l D H' v x B c (j ▸ E) s p,λ_ _ _ _ z=>z.elim,λ_ _ _ _ z=>z.elim,λ_ _ _ _ _ _ z=>z.elim⟩⟩;exact l (Ow own) H' .non _ [] c (j ▸ E) ⟨rfl,_,rfl,.non⟩ λ_ z=>(nomatch z)
def Fun.okU{g:Str}{N:Φ}{S:ST}(F:Fun K x g st f fd)(i:bK N ps (bH st))
 (y:∀(b:Value)(A:Around)(a:xa)(s:Shared)(H:Hp)(E:XK),eN k (A.deeper (envOfC g (bH st) s.zs f b))->N.Nodup ->
   ∃r,er (Gr bc P w K mg base N g (bH st) f b A a s H E).nox (fP st) r/\∀W R,S W R->r { nx:=λ_=>R (.fz .non),rt:=R } (start' N.length W))(d:∀W R,S W R->W.length=ps.length:=by intro _ _ h;repeat (first|exact(ZH List.length h.1).trans rfl|obtain⟨_,h⟩:=h)):fX P w K mg base bc (k+1) f fd ps (fS K S):=by
 refine F.ok i (λm H Q E h=>?_) λb A a s H m Q E n h=>?_
 .obtain⟨W,R,r,e,_⟩:=h;exact r.len.trans (d W R e)
 .obtain⟨W,R,r,e,q⟩:=h;obtain⟨rd,u,t⟩:=y b A a s H E n i.nd;have j:=qo (H:=H);have l:=o2 q;refine⟨_,u,λ_=>[],_,_,SR.start r N,t W R e,⟨λown H' I o c E h=>?_,λC H' v x B c E s p=>l C H' v x B c (j ▸ E) s p,λ_ _ _ _ z=>z.elim,λ_ _ _ _ z=>z.elim,λ_ _ _ _ _ _ z=>z.elim⟩⟩;exact l (Ow own) H' .non _ [] c (j ▸ E) ⟨rfl,_,rfl,.non⟩ λ_ z=>(nomatch z)
abbrev RI:=xy->(xk->Prop)->Prop
def iD(K:Frag)(J:It)(F:Hp)(G:xk):Prop:=∀(S:Addr->Prop)(H:Hp)(i:Nat),(∀b,S b->H b≠none)->zO F (hd S H) ->
 (i=G.length->J.stop i H)/\∀t,G[i]?=some t->J.go i H/\∀x H',J.yld i H x H'->zO H H'/\Rep K (hd S H') x t
def iO(K:Frag)(r:RI):TI:=λI H Q=>∃own o R,SR K own H I o/\r o R/\∀H' J G,R G->zO H H'->iD K J (hd (Ow own) H') G->Q J H'
def QI(X:Cx)(tg a:Expr)(r:RI):Prop:=PI X tg a (iO X.K r)
def PI.imp{c:Expr}{t b:TI}(h:PI X tg c t)(i:∀I H Q,b I H Q->t I H Q):PI X tg c b:=λU s I H Q a q=>h U s I H Q a (i I H Q q)
def NG(a:RE):RI:=λo q=>a o λx=>match frz x with|.lst W=>q W|_=>False
def MW(a:RE):RI:=λo q=>a o λx=>match frz x with|.tup W=>q W|_=>False
def GB{t:Addr}{u:HO}(n:H t=none)(a:∀b,S b->H b≠none):hd S (upd H t u) t=some u:=by rw[cN λz=>a t z n];exact bY
variable{a b iter bj:Expr}{ri:RI}{rc rt:RT}{Y:Hp}{aE:xb}{J:Scope}{i0:Nat}{y0:Str}{q:xk->Prop}{S:ST}{pl:Sem Bool}{j:Int}
def cL(m:QE X e re):QI X tg e (NG re):=(Fv m).imp λI H Q ⟨own,o,R,h,l,k⟩=>tQ.mk h l λY v x q n c=>by
 revert c q
 generalize frz x=t;intro q c;cases t<;>try exact q.elim
 obtain⟨a,G,rfl,e,r⟩:=c.lstI;refine⟨a,rfl,⟨G,.of (cQ e).2⟩,k Y _ _ q n λS s i _ b=>⟨λhi=>⟨G,.of (cQ (b _ _ e)).2,by rw[r.len];exact WH hi.symm⟩,λt j=>?_⟩⟩;obtain⟨y,d,f⟩:=r.at_ j;refine⟨⟨G,y,.of (cQ (b _ _ e)).2,d⟩,?_⟩;rintro x p ⟨rfl,g⟩;have:=g G (.of (cQ (b _ _ e)).2);rw[d]at this;cases this;exact⟨.refl _,f.same b⟩
def So(m:QE X e re):QI X tg e (MW re):=(To m).imp λI H Q ⟨own,o,R,h,l,k⟩=>tQ.mk h l λY v x q n c=>by
 revert c q
 generalize frz x=t;intro q c;cases t<;>try exact q.elim
 obtain⟨a,G,rfl,e,r⟩:=c.tupI;refine⟨a,rfl,⟨G,dh.tup e⟩,k Y _ _ q n λS s i _ b=>⟨λhi=>⟨G,(b.trans dh).tup e,by rw[r.len];exact WH hi.symm⟩,λt j=>?_⟩⟩;obtain⟨y,d,f⟩:=r.at_ j;refine⟨⟨G,y,(b.trans dh).tup e,d⟩,?_⟩;rintro x p ⟨rfl,g⟩;have:=g G ((b.trans dh).tup e);rw[d]at this;cases this;exact⟨.refl _,f.same b⟩
def rng(lo:Int)(n:Nat):xk:=(range n).map λk:Nat=>.int (lo+k)
def HI{lo:Int}{F:Hp} : iD K (j3 lo n) F (rng lo n):=λS H i _ _=>⟨λhi=>by rw[rng,ak,W1]at hi;exact WH hi.symm,λt a=>by
 unfold rng at a;rw[aq]at a;by_cases hi:i<n
 .rw[UV hi]at a;cases a;refine⟨hi,?_⟩;rintro x H' ⟨rfl,rfl⟩;exact⟨.refl _,.int _⟩
 .rw[aM (by simpa using hi)]at a;cases a⟩
def OF(r:RA):RI:=λo q=>r o λW=>match W with|[.int j]=>(-(2^62)<=j/\j<2^62)/\q (rng 0 j.toNat)|_=>False
def MZ(r:RA):RI:=λo q=>r o λW=>match W with|[.int i,.int j]=>(-(2^62)<=i/\i<2^62/\-(2^62)<=j/\j<2^62)/\q (rng i (j-i).toNat)|_=>False
def d7(f:X.mg "range"=none)(i:QA X [a] r)(g:‹Gl X "range"›)(d:‹starEach [a] X.env=[(false,eval a X.env)]›):QI X tg (.Call (.Name "range" p) [a] [] O) (OF r):=(aco g f i d).imp λI H Q ⟨own,o,R,h,e,k⟩=>⟨own,o,_,h,e,λY m W q _ l c=>by
 cases W<;>try exact q.elim
 cases head<;>try exact q.elim
 cases tail<;>try exact q.elim
 obtain⟨x,rfl,b⟩:=c.one;cases b;exact⟨_,rfl,q.1.1,q.1.2,k Y _ _ q.2 l HI⟩⟩
def HS(l:X.mg "range"=none)(n:QA X [a,b] r)(m:‹Gl X "range"›)(f:‹starEach [a,b] X.env=[(false,eval a X.env),(false,eval b X.env)]›)(s:‹starEach [b] X.env=[(false,eval b X.env)]›):QI X tg (.Call (.Name "range" p) [a,b] [] O) (MZ r):=(abY m l n f s).imp λI H Q ⟨own,o,R,h,g,k⟩=>⟨own,o,_,h,g,λY u W q _ t e=>by
 cases W<;>try exact q.elim
 cases head<;>try exact q.elim
 cases tail<;>try exact q.elim
 cases head<;>try exact q.elim
 cases tail_1<;>try exact q.elim
 obtain⟨x,y,rfl,d,c⟩:=e.two;cases d;cases c;exact⟨_,_,rfl,q.1,k Y _ _ q.2 t HI⟩⟩
def BL(W:xk):xk:=W.zipIdx.map λp=>.tup [.int (p.2:Nat),p.1]
def OH(r:RA):RI:=λo q=>r o λW=>match W with|[.lst W]=>q (BL W)|_=>False
def Ba{B:xb}{j}(v:X.mg "enumerate"=none)(z:QA X [a] r)(w:‹Gl X "enumerate"›)(d:‹starEach [a] X.env=[(false,eval a X.env)]›):QI X (.Tuple B j ay) (.Call (.Name "enumerate" p) [a] [] O) (OH r):=(agZ w v z d).imp λI H Q ⟨own,o,R,h,u,k⟩=>⟨own,o,_,h,u,λY E W q _ C s=>by
 cases W<;>try exact q.elim
 cases head<;>try exact q.elim
 cases tail<;>try exact q.elim
 obtain⟨x,rfl,m⟩:=s.one;obtain⟨a,G,rfl,e,r⟩:=m.lstI;refine⟨a,G,rfl,(cQ e).2,k Y _ _ q C λS K i d c=>⟨λhi=>⟨G,(cQ (c _ _ e)).2,by rw[r.len,hi];simp[BL]⟩,λt b=>?_⟩⟩;unfold BL at b;rw[aq]at b;by_cases hi:i<W_1.length
 .rw[aj (by simpa using hi),List.getElem_zipIdx]at b;cases b;obtain⟨y,A,l⟩:=r.at_ (aj hi);refine⟨⟨G,(cQ (c _ _ e)).2,by rwa[r.len]⟩,?_⟩;rintro x J ⟨F,D,t,g,f,n,rfl,rfl⟩;rw[(cQ (c _ _ e)).2]at g;cases g;rw[A]at f;cases f;refine⟨zO.upd n,.tup (.of (GB n d)) (.cons ?_ (.cons (l.same (c.trans (bZ (zO.upd n)))) .nil))⟩;rw[Nat.zero_add];exact .int _
 .rw[aM (by simpa using hi)]at b;cases b⟩
def K8(W Z:xk):xk:=(W.zip Z).map λp=>.tup [p.1,p.2]
def L7(r:RA):RI:=λo q=>r o λW=>match W with|[.lst W,.lst Z]=>q (K8 W Z)|_=>False
def Vo{P:xb}{A}(F:X.mg "zip"=none)(K:QA X [a,b] r)(J:‹Gl X "zip"›)(l:‹starEach [a,b] X.env=[(false,eval a X.env),(false,eval b X.env)]›)(L:‹starEach [b] X.env=[(false,eval b X.env)]›):QI X (.Tuple P A ay) (.Call (.Name "zip" p) [a,b] [] O) (L7 r):=(FI J F K l L).imp λI H Q ⟨own,o,R,h,E,k⟩=>⟨own,o,_,h,E,λY vs W q _ T D=>by
 cases W<;>try exact q.elim
 cases head<;>try exact q.elim
 cases tail<;>try exact q.elim
 obtain⟨Z,rfl⟩ : ∃Z,head=.lst Z:=by cases head with|lst W=>exact⟨W,rfl⟩|_=>exact q.elim
 cases tail_1<;>try exact q.elim
 obtain⟨x,y,rfl,C,g⟩:=D.two;obtain⟨a,G,rfl,e,r⟩:=C.lstI;obtain⟨b,ys,rfl,f,j⟩:=g.lstI;refine⟨a,b,G,ys,rfl,(cQ e).2,(cQ f).2,k Y _ _ q T λS H2 i l c=>⟨λhi=>⟨G,ys,(cQ (c _ _ e)).2,(cQ (c _ _ f)).2,?_⟩,λt d=>?_⟩⟩
 .rw[r.len,j.len];rw[K8,ak,VU]at hi;omega
 .unfold K8 at d;rw[aq]at d;by_cases hi:i<W_1.length/\i<Z.length
  .rw[aj (by rw[VU];omega),getElem_zip]at d;cases d;obtain⟨y,N,g⟩:=r.at_ (aj hi.1);obtain⟨z,M,B⟩:=j.at_ (aj hi.2);refine⟨⟨G,ys,(cQ (c _ _ e)).2,(cQ (c _ _ f)).2,by rw[r.len];exact hi.1,by rw[j.len];exact hi.2⟩,?_⟩;rintro x H3 ⟨fx,kC,V,U,t,v,m,u,s,n,rfl,rfl⟩;rw[(cQ (c _ _ e)).2]at v;cases v;rw[(cQ (c _ _ f)).2]at m;cases m;rw[N]at u;cases u;rw[M]at s;cases s;have w:=c.trans (bZ (S:=S) (zO.upd (o:=.tup [y,z]) n));exact⟨zO.upd n,.tup (.of (GB n l)) (.cons (g.same w) (.cons (B.same w) .nil))⟩
  .rw[aM (by rw[VU];omega)]at d;cases d⟩
def wY(g:zn)(b:RS)(E:DT):xk->xy->Prop
 |[],o=>E.nx o
 |t::W,o=>∃N:xy->Prop,(∀o,N o->wY g b E W o)/\g t o λa=>b { E with nx:=N,ct:=N,bk:=E.nx } a
def MR(a:RI)(g:zn)(b:RS):RS:=λE o=>a o λG=>wY g b E G o
def d_{R:xS}{rb:RS}(hi:QI X tg iter ri)(hg:QG X n tg g)(hb:er X R rb)(hc:‹X.calm›)(hp:PassesOwn (model X.prog X.w) X.A X.env X.xe:=by first|exact PassesOwn.never|exact PassesOwn.leaving)
 (hs:zh X iter:=by intro _;rfl):QS X (.For tg iter R [] O) (MR ri g rb):=(R9 hp hc hi hg hb hs).imp λD I H ⟨own,o,E,h,hr,L⟩=>⟨own,o,_,h,hr,λY J G q P W=>by
 refine⟨λi m e H'=>∃f p,SR X.K f H' e p/\zO (hd (Ow own) Y) (hd (Ow f) H')/\wY g rb E (G.drop i) p/\i<=G.length/\m=G.length-i,⟨_,own,o,h.same P,.refl _,q,aZ _,rfl⟩,?_⟩;rintro i m e H' ⟨f,p,v,C,j,il,rfl⟩;obtain⟨w1,Z⟩:=W (Ow f) H' i (λb z=>(v.sole z).ne) C;have S0:=(bZ P).trans C;by_cases hi:i<G.length
 .right;obtain⟨go,V⟩:=Z _ (aj hi);rw[jk hi]at j;obtain⟨N,Q,j⟩:=j;refine⟨go,λk s=>∃u t,SR X.K u s k t/\zO (hd (Ow own) Y) (hd (Ow u) s)/\wY g rb E (G.drop (i+1)) t,λk s ⟨u,t,a,b,c⟩=>⟨G.length-(i+1),by omega,u,t,a,b,c,hi,rfl⟩,λx s y=>?_⟩;obtain⟨T,rx⟩:=V x s y;refine⟨f,p,_,_,v.same T,rx,j,λf6 U o3 q3 j1 h3=>⟨f6,o3,_,h3,q3,?_⟩⟩;have B:=C.trans ((bZ (S:=Ow f) T).trans j1.same);have F:=L.step ((bZ P).trans B);exact⟨λr M d l q S h=>⟨r,l,h,B.trans S,Q _ q⟩,F.rt,λr M d l q S h=>F.nx r M d l q S h,λr M d l q S h=>⟨r,l,h,B.trans S,Q _ q⟩,F.xc⟩
 .left;refine⟨w1 wE,?_⟩;rw[TK (Nat.not_lt.mp hi)]at j;exact L.nx f H' e p j S0 v⟩
def VM(c:RT)(b:RS):RS:=λE o=>∃W:Nat->xy->Prop,(∃m,W m o)/\∀m o,W m o->c o λk=>sw k (∃N:xy->Prop,(∀a,N a->∃d,d<m/\W d a)/\b { E with nx:=N,ct:=N,bk:=E.nx } o) (E.nx o)
def Li{z:xS}{rb:RS}(Q:QT X c rc)(R:er X z rb)(P:PassesOwn (model X.prog X.w) X.A X.env X.xe:=by first|exact PassesOwn.never|exact PassesOwn.leaving):QS X (.While c z [] O) (VM rc rb):=(VL P Q R).imp λD I H l=>by
 obtain⟨own,o,E,h,M,L⟩:=l;obtain⟨W,⟨G,F⟩,st⟩:=M;refine⟨λm e H'=>∃p f,SR X.K p H' e f/\zO (hd (Ow own) H) (hd (Ow p) H')/\W m f,⟨G,own,o,h,.refl _,F⟩,?_⟩;rintro m e H' ⟨p,f,t,B,C⟩;refine tQT.mk t (st m f C) λY k q s=>Np q (λl=>?_) λq=>L.nx p Y e f q (B.trans (bZ s)) (t.same s);obtain⟨N,T,q⟩:=l;have u:=B.trans (bZ s);have v:=L.step u;refine⟨λg y=>∃r j,SR X.K r y g j/\zO (hd (Ow own) H) (hd (Ow r) y)/\N j,λg y l=>?_,p,f,_,t.same s,q,⟨λn x d i q S h=>⟨n,i,h,u.trans S,q⟩,v.rt,λn x d i q S h=>v.nx n x d i q S h,λn x d i q S h=>⟨n,i,h,u.trans S,q⟩,v.xc⟩⟩;obtain⟨r,j,a,b,c⟩:=l;obtain⟨J,lt,w⟩:=T j c;exact⟨J,lt,r,j,a,b,w⟩
def jL(g:zn)(c:RT)(e:RE)(o:xy):xk->(xk->Prop)->Prop
 |[],q=>q []
 |t::W,q=>∃(N:T->Prop)(M:Prop),(∀y,N y->jL g c e o W λZ=>q (y::Z))/\(M->jL g c e o W q)/\g t o λa=>c a λb=>sw b (e a λy=>N (frz y)) M
def OA:RT:=λ_ q=>q true
def ij(a:RI)(n:Nat)(g:zn)(c:RT)(e:RE):RE:=λo q=>a o λG=>G.length<=sizeLine/\jL g c e (replicate n .und++o) G λZ=>q (.l1 Z)
def ownL2(n L:Nat)(own:Nat->Ψ)(A:Ψ):Nat->Ψ:=λi=>if i<n then[]else if i<n+L then own (i-n)else if i=n+L then A else own (i-n-1)
def Ow.ownL2{n L:Nat}{own:Nat->Ψ}{A:Ψ}{b:Addr} : Ow (ownL2 n L own A) b↔Ow own b\/b∈A:=by
 constructor
 .rintro⟨i,z⟩;unfold L2.ownL2 at z;by_cases d:i<n
  .rw[ZY d]at z;cases z
  rw[ZZ d]at z;by_cases c:i<n+L
  .rw[ZY c]at z;exact .inl ⟨_,z⟩
  rw[ZZ c]at z;by_cases a:i=n+L
  .rw[ZY a]at z;exact .inr z
  .rw[ZZ a]at z;exact .inl ⟨_,z⟩
 .rintro(⟨i,z⟩|z)
  .by_cases h:i<L
   .exact⟨n+i,by unfold L2.ownL2;rw[ZZ (TR (X9 _ _)),ZY (Nat.add_lt_add_left h _),show n+i-n=i by exact QQ _ _];exact z⟩
   .exact⟨n+i+1,by unfold L2.ownL2;rw[ZZ wE,ZZ wE,ZZ wE,show n+i+1-n-1=i by lia];exact z⟩
  .exact⟨n+L,by unfold L2.ownL2;rw[ZZ (TR (X9 _ _)),ZZ (Wp _),ZY rfl];exact z⟩
def SR.blockL(h:SR K own H I o)(E:zO H H')(r:∀a∈A,H a=none)(v:∀a∈A,∃ys,H' a=some (.lst ys))(c:L2.St):SR K (ownL2 c.length o.length own A) H' (c++I) (replicate c.length .und++o):=by
 have le:zO (hd (Ow own) H) (hd (Ow (ownL2 c.length o.length own A)) H'):=g8 (λb z=>(Ow.ownL2.mp z).imp id (r b)) E;have n:∀j,∀a∈A,a∉own j:=λj a g z=>(h.sole ⟨j,z⟩).ne (r a g);refine⟨by simp[h.len],λi x e=>?_,λi hi a g=>?_,λi j a f d=>?_⟩
 .by_cases m:i<c.length
  .rw[aF (by simpa using m),X1,ZY m]at e;cases e;show ownL2 _ _ _ _ i=[];unfold ownL2;rw[ZY m]
  .rw[aD (by simpa using m),aN]at e;have w:i-c.length<o.length:=(ao.mp e).1;rw[aD (Nat.not_lt.mp m)];have:ownL2 c.length o.length own A i=own (i-c.length):=by unfold ownL2;rw[ZZ m,ZY (by omega)]
   rw[this];exact(h.sl _ x e).same le E
 .rw[aA,aN]at hi;unfold ownL2 at g;rw[ZZ wE,ZZ (TR hi)]at g;by_cases s:i=c.length+o.length
  .rw[ZY s]at g;exact v a g
  .rw[ZZ s]at g;obtain⟨G,e⟩:=h.out _ wE a g;exact⟨G,E _ _ e⟩
 .unfold ownL2 at f d;by_cases u:i<c.length
  .rw[ZY u]at f;cases f
  by_cases t:j<c.length
  .rw[ZY t]at d;cases d
  rw[ZZ u]at f;rw[ZZ t]at d;by_cases q:i<c.length+o.length<;>by_cases p:j<c.length+o.length
  .rw[ZY q]at f;rw[ZY p]at d;have:=h.dis _ _ a f d;omega
  .rw[ZY q]at f;rw[ZZ p]at d;by_cases k:j=c.length+o.length
   .rw[ZY k]at d;exact absurd f (n _ a d)
   .rw[ZZ k]at d;have:=h.dis _ _ a f d;omega
  .rw[ZZ q]at f;rw[ZY p]at d;by_cases l:i=c.length+o.length
   .rw[ZY l]at f;exact absurd d (n _ a f)
   .rw[ZZ l]at f;have:=h.dis _ _ a f d;lia
  .rw[ZZ q]at f;rw[ZZ p]at d;by_cases l:i=c.length+o.length<;>by_cases k:j=c.length+o.length
   .exact Eq.trans l (Eq.symm k)
   .rw[ZY l]at f;rw[ZZ k]at d;exact absurd d (n _ a f)
   .rw[ZZ l]at f;rw[ZY k]at d;exact absurd f (n _ a d)
   .rw[ZZ l]at f;rw[ZZ k]at d;have:=h.dis _ _ a f d;lia
def ownS(n L:Nat)(own:Nat->Ψ)(D:Addr):Nat->Ψ:=ownL2 n L own [D]
def Ow.ownS{n L:Nat}{own:Nat->Ψ}{D b:Addr} : Ow (ownS n L own D) b↔Ow own b\/b=D:=Ow.ownL2.trans (or_congr_right YR)
def SR.block(h:SR K own H I o)(E:zO H H')(c:H D=none)(d:H' D=some (.lst ys))(b:L2.St):SR K (ownS b.length o.length own D) H' (b++I) (replicate b.length .und++o):=h.blockL E (λa z=>YR.mp z ▸ c) (λa z=>YR.mp z ▸ ⟨_,d⟩) b
def Xa{d:Nat->Ψ}{b a:L2.St}(e:b.length=n)(g:G7 n own d (b++I) a):∃c:L2.St,c.length=n/\a=c++I:=by
 obtain⟨_,l,k⟩:=g;refine⟨a.take n,by rw[aY,l,aA];lia,?_⟩;refine TH λi=>?_;by_cases hi:i<n
 .rw[aF (by rw[aY,l,aA];lia),List.getElem?_take_of_lt hi]
 .rw[aD (by rw[aY,l,aA];lia),k i (VX hi),aD wE,aY,l,aA]
  congr 1
  lia
def Yi{J:It}{G:xk}(h1:SR K own Y I o)(wk:iD K J (hd (Ow own) Y) G)(lx:G.length<=sizeLine)(q:jL g rc re (replicate n .und++o) G λZ=>R (.l1 Z))(s:Y D=none)(k:∀H' v x,R x->zO Y H'->NR K (Ow own) Y H' v x->Q v H') :
  ∃a:Nat->Nat->Ζ->Hp->Prop,(∃m,a 0 m [] (upd Y D (.lst [])))/\∀i m ys c,a i m ys c ->
   (J.stop i c/\Q (.ref D) c)\/(J.go i c/\∀x H',J.yld i c x H'->∀d:L2.St,d.length=n->fo (gc K n g) x (d++I) H' λl E=>∃C:L2.St,C.length=n/\l=C++I/\fm (tQT K rc) l E λb O =>
    match b with
    |true=>tM (tQ K re) l O λy L=>ys.length<sizeLine/\L D=some (.lst ys)/\∃t,t<m/\a (i+1) t (ys++[y]) (upd L D (.lst (ys++[y])))
    |false=>∃t,t<m/\a (i+1) t ys O):=by
 generalize hO:replicate n OT.und++o=F at q;refine⟨λi m ys c=>∃W,c D=some (.lst ys)/\zO Y c/\cA K (hd (λb=>Ow own b\/b=D) c) ys W/\ys.length<=i/\i<=G.length/\m=G.length-i/\jL g rc re F (G.drop i) λZ=>R (.l1 (W++Z)),⟨_,[],bY,zO.upd s,.nil,aG _,aZ _,rfl,q⟩,?_⟩;rintro i m ys c ⟨W,w,r,A,V,ix,rfl,f⟩;have hn:∀b,Ow own b\/b=D->c b≠none:=λb z=>z.elim (λz=>((h1.same r).sole z).ne) λe z=>by rw[e,w]at z;cases z
 have SD:zO (hd (Ow own) Y) (hd (λb=>Ow own b\/b=D) c):=g8 (λb z=>z.imp id λ(e:b=D)=>e ▸ s) r;obtain⟨w1,w2⟩:=wk (λb=>Ow own b\/b=D) c i hn SD;by_cases hi:i<G.length
 .right;obtain⟨go,yl⟩:=w2 _ (aj hi);rw[jk hi]at f;obtain⟨N,M,hN,hM,f⟩:=f;refine⟨go,λx E y d X=>?_⟩;obtain⟨h,T⟩:=yl x E y;have H:(λb=>Ow own b\/b=D)=Ow (ownS n o.length own D):=funext λb=>propext Ow.ownS.symm;have hb:SR K (ownS n o.length own D) E (d++I) F:=by
   have:=h1.block (r.trans h) s (h _ _ w) d;rw[X,hO]at this;exact this
  rw[H]at T A;refine⟨_,⟨ownS n o.length own D,F,_,_,hb,T,f,λf6 σ3 o3 q3 U h3=>?_⟩,λ_ _ z=>z⟩;obtain⟨C,eh,rfl⟩:=Xa X U;have e3:f6=ownS n o.length own D:=funext λj=>by
   rcases U.1 j with e|⟨e1,e2⟩
   .exact e
   .rw[e2];exact(ZY e1).symm
  subst e3;refine⟨C,eh,rfl,_,tQT.mk h3 q3 λO b B p=>?_,λ_ _ z=>z⟩;have B:sw b (re o3 λy=>N (frz y)) M:=B;cases b with
  |false=>exact⟨G.length-(i+1),by lia,W,p _ _ (h _ _ w),r.trans (h.trans p),by rw[H];exact A.same (bZ (h.trans p)),by exact aL V (X9 _ _),by exact hi,rfl,hM B⟩
  |true =>
   refine⟨_,tQ.mk (h3.same p) B λL v y q5 P r4=>⟨by lia,P _ _ (p _ _ (h _ _ w)),G.length-(i+1),by lia,W++[frz y],bY,λb u e=>?_,?_,by rw[aA,length_singleton];exact succ_le_succ V,by exact hi,rfl,?_⟩,λ_ _ z=>z⟩
   .rw[bR λz=>by rw[z,s]at e;cases e];exact P _ _ (p _ _ (h _ _ (r _ _ e)))
   .rw[Hg (S:=λb=>Ow own b\/b=D) (.inr rfl),H];exact(A.same (bZ (h.trans (p.trans P)))).app (.cons r4 .nil)
   .have:=hN _ q5;simp only[WV,List.singleton_append];exact this
 .left;have:i=G.length:=by lia
  refine⟨w1 this,?_⟩;rw[TK (VX hi)]at f;have f:R (.l1 (W++[])):=f;rw[append_nil]at f;exact k c _ _ f r (NR.l1 s w A)
def Nh(h:tQ K (ij ri n g rc re) I H Q):oX (iO K ri) n (fo (gc K n g)) (fm (tQT K rc)) (tM (tQ K re)) I H Q:=by
 obtain⟨own,o,R,h,e,k⟩:=h;exact⟨own,o,_,h,e,λY J G q a b D d=>Yi (h.same a) b q.1 q.2 d λH' v x c E n=>k H' v x c (a.trans E) (n.back a)⟩
def gX(X:Cx)(aE:xb)(r:RT):Prop:=PTs X aE (tQT X.K r)
def cI:gX X [] OA:=λU s I H Q a c=>by obtain⟨own,o,R,h,b,k⟩:=c;exact Rn U s I H Q a (k H true b (.refl _))
def HN(h:QT X c rc):gX X [c] rc:=ag6 h
def dZ(f:Scope)(N e G:Φ)(hi:QI X tg iter ri)(l:∀{C a b d c},QG (X.compG e J G C a b d c) G.length tg g)(i:∀{C a b d c},gX (X.compG e J G C a b d c) aE rc)(m:∀{C a b d c},QE (X.compG e J G C a b d c) bj re)
 (p:‹X.env.scope=f›)(o:‹X.N=N›)(n:‹X.calm›)(k:‹J.kind=.function›)(h:CK f J N e G:=by decide +kernel)(j:zh X iter:=by intro _;rfl):QE X (.ListComp bj [⟨tg,iter,aE,0⟩] J O) (ij ri G.length g rc re) :=
 (Xg (gt:=gc X.K G.length g) (tc:=tQT X.K rc) (te:=tQ X.K re) f N e G hi l i m p o n k h j).imp λ_ _ _=>Nh
def zA{X:Cx}{tg iter bj:Expr}{aE:List Expr}{ri:RI}{g:zn}{rc:RT}{re:RE}{J:Scope}{O:Pos}(Z:RI->Nat->zn->RT->RE->RE)(r:∀{K I H Q ri n g rc re},tQ K (Z ri n g rc re) I H Q->oX (iO K ri) n (fo (gc K n g)) (fm (tQT K rc)) (tM (tQ K re)) I H Q)(j:Scope)(N i:Φ)(c:Str)(hi:QI X tg iter ri)(o:∀{C a b e d},QG (X.compGC i J c C a b e d) 1 tg g)(k:∀{C a b e d},gX (X.compGC i J c C a b e d) aE rc)(p:∀{C a b e d},QE (X.compGC i J c C a b e d) bj re)
 (v:‹X.env.scope=j›)(u:‹X.N=N›)(q:‹X.calm›)(m:‹J.kind=.function›)(t:∀n f,cellsFrom n J.names f=(c,n)::f:=by intro _ _;rfl)(s:∀h,pushCells h J.names=h.push { cls:=.type "cell",data:=.cell none }:=by intro _;rfl)(h:(∀y∈J.names,y.2=.cell->y.1=c)/\KA j J N i [c]:=by decide +kernel)(l:zh X iter:=by intro _;rfl):QE X (.ListComp bj [⟨tg,iter,aE,0⟩] J O) (Z ri 1 g rc re):=PE.imp (by subst v u;exact W3 (ext1 t s h.1) q h.2.1 m h.2.2.1 h.2.2.2.1 h.2.2.2.2.1 h.2.2.2.2.2 hi (λ_ _ _ _ _=>o.mono) (λ_ _ _ _ _=>k.mono) (λ_ _ _ _ _=>p.mono) l) λ_ _ _=>r
def _V:=@zA X tg iter bj aE ri g rc re J O ij Nh
def IT{e:Φ}{d:Str}{c:Scope}{l:Addr}{f:Shared}{k:Hp}{i:Ψ}{j:Δ}(p:Scope)(N o G:Φ)(hi:QI (X.compGC e c d l f k i j) tg iter ri)(t:∀{C a b n m},QG ((X.compGC e c d l f k i j).compG o J G C a b n m) G.length tg g)(q:∀{C a b n m},gX ((X.compGC e c d l f k i j).compG o J G C a b n m) aE rc)(u:∀{C a b n m},QE ((X.compGC e c d l f k i j).compG o J G C a b n m) bj re)
 (x:‹X.env.scope=p›)(w :‹ [d]++e=N›)(v:‹X.calm›)(s:‹J.kind=.function›)(h:CK (rs p c) J N o G:=by decide +kernel)(r:∀z,foldedSetIterable iter (X.compGC e c d l f k i j).env z=pure z:=by intro _;rfl):QE (X.compGC e c d l f k i j) (.ListComp bj [⟨tg,iter,aE,0⟩] J O) (ij ri G.length g rc re):=by
 subst x w;exact dZ (X:=X.compGC e c d l f k i j) (rs X.env.scope c) _ o G hi t q u rfl rfl v s h r
def zK{X:Cx}{tg iter bj:Expr}{aE:List Expr}{ri:RI}{g:zn}{rc:RT}{re:RE}{J:Scope}{O:Pos}{i0:Nat}{y0:Str}{f k:Pos}(Z:Nat->RI->Nat->zn->RT->RE->RS)(r:∀{X i0 ri n g rc re D I H},hQ X (Z i0 ri n g rc re) D I H->kP (oX (iO X.K ri) n (fo (gc X.K n g)) (fm (tQT X.K rc)) (tM (tQ X.K re))) (uO i0) D I H)(i:Scope)(N e G:Φ)(hi:QI X tg iter ri)(o:∀{C a b d c},QG (X.compG e J G C a b d c) G.length tg g)(l:∀{C a b d c},gX (X.compG e J G C a b d c) aE rc)(p:∀{C a b d c},QE (X.compG e J G C a b d c) bj re)(t:PG X (.Name y0 f) (uO i0))
 (v:‹X.env.scope=i›)(u:‹X.N=N›)(q:‹X.calm›)(j:‹J.kind=.function›)(h:CK i J N e G:=by decide +kernel)(s:‹swapsWith (.ListComp bj [⟨tg,iter,aE,0⟩] J O) (some (.Name y0 f)) k.line X.env=pure true›)(m:zh X iter:=by intro _;rfl):QS X (.Assign [.Name y0 f] (.ListComp bj [⟨tg,iter,aE,0⟩] J O) k) (Z i0 ri G.length g rc re):=PS.imp (by subst v u;exact aeI (AK j h.1) q h.2.1 j h.2.2.1 h.2.2.2.1 h.2.2.2.2.1 h.2.2.2.2.2 hi (λ_ _ _ _ _=>o.mono) (λ_ _ _ _ _=>l.mono) (λ_ _ _ _ _=>p.mono) t s m) λ_ _ _=>r
def WO{a f:Pos}:=@zK X tg iter bj aE ri g rc re J O i0 y0 a f (λi r n g c e=>nh i (ij r n g c e)) λ{_ i0 _ _ _ _ _ _ _ _}⟨own,o,E,h,b,L⟩=>Nh ⟨own,o,_,h,b,λH' v y q S n=>by
 obtain⟨j,d,k⟩:=h.putA S n i0;exact L.nx j H' _ _ q k d⟩
def fZ{c G:Φ}{C a b e d}(j:(G++c).Nodup:=by decide +kernel)(hi:‹(G++c)[i]?=some x›)(g:autoParam (i<n) zP4)(f:fb (X.compG c J G C a b e d).env.scope x:=by exact Or.inl rfl)(h:(X.compG c J G C a b e d).fn x\/(X.compG c J G C a b e d).env.scope.names.lookup x=some .local:=by exact Or.inr rfl):QG (X.compG c J G C a b e d) n (.Name x p) (hName i):=b_ (i:=i) (hN:=j) (hx:=f) (hi:=hi) (hn:=g) (hf:=h)
def EQ{d:Φ}{c:Str}{C a b h e}(g:([c]++d).Nodup:=by decide +kernel)(f:fb (X.compGC d J c C a b h e).env.scope c:=by exact Or.inr rfl):QG (X.compGC d J c C a b h e) 1 (.Name c p) (hName 0)   := b_ (i:=0) (hN:=g) (hx:=f) (hi:=rfl) (hn:=wP) (hf:=(.inl (beq_self_eq_true _)))
def acT{c:RT}{e:RE}(h:g t o λa=>c a λb=>sw b (e a λy=>jL g c e o W λZ=>q (frz y::Z)) (jL g c e o W q)):jL g c e o (t::W) q:=⟨λy=>jL g c e o W λZ=>q (y::Z),_,λ_ h=>h,id,h⟩
theorem cA.reps{K:Frag}{F:Hp}{G:Ζ}{W:xk}(h:cA K F G W):∀n:Nat,cA K F (replicate n G).flatten (replicate n W).flatten
 |0=>.nil
 |n+1=>by rw[replicate_succ,replicate_succ,flatten_cons,flatten_cons];exact h.app (cA.reps h n)
def cY:GO X (binaryOp .Mult) NL:=λU s I H x y v u Q b g f h=>by
 obtain⟨S,t,w,R,_,i,A,d,k⟩:=h;cases w with
 |int j=>?_
 |_=>cases t<;>exact d.elim
 cases A;cases t<;>try exact d.elim
 .cases i;exact ah7 U s I H _ _ v u Q b g f ⟨_,_,rfl,rfl,d.1,k H _ _ d.2 (.refl _) (NR.fz (.int _))⟩
 .cases i;obtain⟨c,rfl,n,m,q⟩:=d;exact _3 U s I H _ _ v u Q b g f ⟨c,j,rfl,rfl,n,m,λz o=>k H _ _ (q z o) (.refl _) (NR.fz (.str _))⟩
 .obtain⟨p,G,rfl,e,r⟩:=i.lstI;obtain⟨⟨n,m,B⟩,q⟩:=d;exact UD U s I H _ _ v u Q b g f ⟨p,j,G,rfl,rfl,(cQ e).2,n,m,by rw[r.len];exact B,λa l=>k _ _ _ (q _ rfl) (zO.upd l) (Cq (r.reps j.toNat) (zO.upd l) l bY)⟩
mutual
def hY:PyData->T
 |.none=>.non
 |.bool b=>.bl b
 |.int i=>.int i
 |.str s=>.str s
 |.list a=>.lst (i6 a)
 |.tuple a=>.tup (i6 a)
 |.dict _=>.any
def i6:xN->xk
 |[]=>[]
 |d::a=>hY d::i6 a
end
mutual
theorem Rep.shows{K:Frag}{F:Hp} : ∀{x:V}{t:T},Rep K F x t->∀d,t=hY d->d.canLay0=true->iM K F x d
 |_,_,.any v,d,e,s=>by cases d<;>cases e;cases s
 |_,_,.non,d,e,_=>by cases d<;>cases e;exact .non
 |_,_,.bl b,d,e,_=>by cases d<;>cases e;exact .bl _
 |_,_,.int i,d,e,_=>by cases d<;>cases e;exact .int _
 |_,_,.str s,d,e,_=>by cases d<;>cases e;exact .str _
 |_,_,.val v,d,e,_=>by cases d<;>cases e
 |_,_,.tup q h,d,e,s=>by
  cases d<;>cases e;exact .tup q (cA.shows h _ rfl s)
 |_,_,.lst q h,d,e,s=>by
  cases d<;>cases e;exact .lst q (cA.shows h _ rfl s)
 |_,_,.scr q h,d,e,_=>by cases d<;>cases e
 |_,_,.dct q l h,d,e,_=>by cases d<;>cases e
 |_,_,.ins q a l h,d,e,_=>by cases d<;>cases e
 |_,_,.exc q a l h,d,e,_=>by cases d<;>cases e
theorem cA.shows{K:Frag}{F:Hp} : ∀{G:Ζ}{W:xk},cA K F G W->∀c,W=i6 c->PyData.canLayAll0 c=true->gB K F G c
 |_,_,.nil,c,e,_=>by cases c<;>cases e;exact .nil
 |_,_,.cons a b,c,e,s=>by
  cases c<;>cases e;obtain⟨f,d⟩:=Bool.and_eq_true_iff.mp s;exact .cons (Rep.shows a _ rfl f) (cA.shows b _ rfl d)
end
def xr:Bool->Bool->Bool
 |false,b=>b
 |true,b=>!b
def kt:T->T->wx
 |.int i,.int j=>some (decide (i=j))
 |.str i,.str j=>some (decide (i=j))
 |.bl i,.bl j=>some (decide (i=j))
 |.non,.non=>some true
 |.non,.int _=>some false
 |.int _,.non=>some false
 |.non,.str _=>some false
 |.str _,.non=>some false
 |.int _,.str _=>some false
 |.str _,.int _=>some false
 |.tup [.int a,.int b],.tup [.int c,.int d]=>some (decide (a=c)&&decide (b=d))
 |_,_=>none
def gEq(neg:Bool)(t u:T)(q:OT->Prop):Prop:=match kt t u with
 |some b=>q (.fz (.bl (xr neg b)))
 |none=>∃d e,t=hY d/\u=hY e/\SeqAt.shaped d/\SeqAt.shaped e/\q (.fz (.bl (xr neg (PyData.eqv d e))))
def ov(a b c d:Int):PyData.eqv (.tuple [.int a,.int b]) (.tuple [.int c,.int d])=(decide (a=c)&&decide (b=d)):=by
 simp only[PyData.eqv,PyData.eqvAll,Bool.and_true]
 rfl
def sv:T->xI
 |.non=>some .non
 |.bl b=>some (.bl b)
 |.int i=>some (.int i)
 |.str s=>some (.str s)
 |_=>none
def Rep.sca{F:Hp}{x:V}(h:Rep K F x t)(e:sv t=some v):x=v:=by cases h<;>cases e<;>rfl
def EqC(t u:T)(b:Bool):Prop:=(∃v w,sv t=some v/\sv u=some w/\i5 v w/\decide (v=w)=b)\/∃i j k l,t=.tup [.int i,.int j]/\u=.tup [.int k,.int l]/\(decide (i=k)&&decide (j=l))=b
set_option tactic.hygienic true in
def Tl{u:T}{b:Bool}(e:kt t u=some b):EqC t u b:=by
  cases t with
  |tup t=>
   iterate 2
    obtain _|⟨r,t⟩:=t
    .cases e
    cases r<;>try (cases e;done)
   cases t with|cons=>cases e|nil=>
    cases u<;>try (cases e;done)
    rename_i u;iterate 2
     obtain _|⟨r,u⟩:=u
     .cases e
     cases r<;>try (cases e;done)
    cases u<;>cases e;exact .inr ⟨_,_,_,_,rfl,rfl,rfl⟩
  |_=>first|(cases e;done)|(cases u<;>cases e<;>exact .inl ⟨_,_,rfl,rfl,rfl,by simp⟩)
def SU{F:Hp}{x y:V}{u:T}{b:Bool}(S:zO F H)(c:Rep K F x t)(a:Rep K F y u)(e:kt t u=some b):(i5 x y=true/\decide (x=y)=b)\/∃d e,iM K H x d/\iM K H y e/\SeqAt.shaped d/\SeqAt.shaped e/\PyData.eqv d e=b:=by
 rcases Tl e with⟨_,_,p,q,r⟩|⟨_,_,_,_,rfl,rfl,r⟩
 .cases c.sca p;cases a.sca q;exact .inl r
 exact .inr ⟨.tuple [.int _,.int _],.tuple [.int _,.int _],(c.shows _ rfl rfl).same S,(a.shows _ rfl rfl).same S,rfl,rfl,(ov _ _ _ _).trans r⟩
def Gc(g:Bool)(C:OpR X (compareOp op) λx y H Q=>i5 x y=true/\Q (.bl (xr g (decide (x=y)))) H)(z:OpR X (compareOp op) (nT X.K g)):GO X (compareOp op) (gEq g):=λU s I H x y v u Q f n m h=>by
 obtain⟨S,t,w,R,_,r,p,i,k⟩:=h;have o:∀b:Bool,(if g then !b else b)=xr g b:=λb=>by cases g<;>rfl
 unfold gEq at i;cases es:kt t w with
 |some b =>
  rw[es]at i;rcases SU dh r p es with⟨a,c⟩|⟨d,e,l,j,B,A,c⟩
  .exact C U s I H x y v u Q f n m ⟨a,by rw[c];exact k H _ _ i (.refl _) (NR.fz (.bl _))⟩
  .exact z U s I H x y v u Q f n m ⟨d,e,l,j,B,A,by rw[o,c];exact k H _ _ i (.refl _) (NR.fz (.bl _))⟩
 |none =>
  rw[es]at i;obtain⟨d,e,E,D,l,j,q⟩:=i;exact z U s I H x y v u Q f n m ⟨d,e,(r.shows d E (Bool.and_eq_true_iff.mp l).1).same dh,(p.shows e D (Bool.and_eq_true_iff.mp j).1).same dh,l,j,by rw[o];exact k H _ _ q (.refl _) (NR.fz (.bl _))⟩
def z5(a:X.A.units+64<cLine):GO X (compareOp .Eq) (gEq false):=Gc false ls (Z' a)
def jZ(a:X.A.units+64<cLine):GO X (compareOp .NotEq) (gEq true):=Gc true SA (VI a)
def flat:OT->Prop
 |.fz (.int _)=>True
 |.fz (.bl _)=>True
 |.fz (.str _)=>True
 |.fz .non=>True
 |_=>False
def ND(i:Nat)(a:RE):RE:=λo q=>match slot o i with|.und=>False|x=>a (o.set i (.fz (frz x))) λy=>flat y/\q y
def Jb(i:Nat)(a:RT):RT:=λo q=>match slot o i with|.und=>False|x=>a (o.set i (.fz (frz x))) q
def Hx{P:OT->Prop}(h:match slot o i with|.und=>False|x=>P x):P (slot o i)/\slot o i≠.und:=by
 cases e:slot o i<;>rw[e]at h<;>first|exact h.elim|exact⟨h,λz=>by cases z⟩
def Vu(i:Nat)(h:QE X e re):QE X e (ND i re):=PE.imp h λI H Q j=>by
 obtain⟨own,o,R,h,a,k⟩:=j;obtain⟨a,c⟩:=Hx (P:=λx=>re (o.set i (.fz (frz x))) λy=>flat y/\R y) a;obtain⟨u,l,s⟩:=h.val rfl c;obtain⟨m,d,S⟩:=h.frz (gA rfl c) l;refine⟨m,_,_,d,a,λH' v x q E n=>k H' v x q.2 E ?_⟩;have f:=q.1;have g:=n.rep λb z=>(d.sole z).ne;cases x with
 |fz t=>cases t<;>first|exact f.elim|(cases g;first|exact NR.fz (.int _)|exact NR.fz (.bl _)|exact NR.fz (.str _)|exact NR.fz .non)
 |_=>exact f.elim
def KC(i:Nat)(h:QT X e rt):QT X e (Jb i rt):=PT.imp h λI H Q c=>by
 obtain⟨own,o,R,h,a,k⟩:=c;obtain⟨a,b⟩:=Hx (P:=λx=>rt (o.set i (.fz (frz x))) R) a;obtain⟨u,f,s⟩:=h.val rfl b;obtain⟨g,d,S⟩:=h.frz (gA rfl b) f;exact⟨g,_,_,d,a,k⟩
def iv:T->Option bE
 |.int i=>some (.inl i)
 |.str s=>some (.inr s)
 |_=>none
def qN{α:Type} : xL->List α->bE->Option α
 |k::a,t::W,j=>if k=j then some t else qN a W j
 |_,_,_=>none
def Ua{F:Hp}{x:V}{k:bE}(h:Rep K F x t)(e:iv t=some k):x=kV k:=by
 cases h<;>cases e<;>rfl
theorem Hv{K:Frag}{F:Hp}{k:bE} : ∀{ks:xL}{G:Ζ}{W:xk},cA K F G W->(∀t,qN ks W k=some t->∃x,KD (ks.zip G) k=some x/\Rep K F x t)/\(qN ks W k=none->KD (ks.zip G) k=none)
 |[],_,_,_=>⟨λ_ z=>(nomatch z),λ_=>rfl⟩
 |_::_,_,_,.nil=>⟨λ_ z=>(nomatch z),λ_=>rfl⟩
 |j::ks,_,_,.cons a b=>by
  by_cases h:j=k
  .refine⟨λt z=>?_,λz=>?_⟩
   .unfold qN at z;rw[ZY h]at z;cases z;exact⟨_,Xe h,a⟩
   .unfold qN at z;rw[ZY h]at z;cases z
  .obtain⟨d,c⟩:=Hv (k:=k) (ks:=ks) b;refine⟨λt z=>?_,λz=>?_⟩
   .unfold qN at z;rw[ZZ h]at z;obtain⟨x,e,r⟩:=d t z;exact⟨x,(Ls h).trans e,r⟩
   .unfold qN at z;rw[ZZ h]at z;exact(Ls h).trans (c z)
def P3:zi
 |.dct a W,u,q=>∃k t,iv u=some k/\qN a W k=some t/\q (.fz t)
 |_,_,_=>False
def Rr(n:X.A.units+1<cLine)(B:QE X a ra)(u:QE X b rb)(p:nV b:=by exact λ_ _=>rfl):QE X (.Subscript a b O) (eP P3 ra rb):=(ahP n B u p).imp λI H Q ⟨own,o,R,h,s,k⟩=>tQ.mk h s λY v x q g c=>tQ.mk (h.same g) q λF w y q f m=>by
 have c:=c.same (bZ f)
 revert c q
 generalize frz x=t;intro q c;cases t<;>try exact q.elim
 obtain⟨d,G,rfl,e,l,r⟩:=c.dctI;obtain⟨j,t,E,D,q⟩:=q;obtain⟨z,C,i⟩:=(Hv r).1 t D;cases Ua m E;exact⟨d,z,rfl,.inl ⟨_,_,dh.rd e,rfl,C.symm⟩,k F _ _ q (g.trans f) (NR.fz i)⟩
def nY(a:Bool):zi
 |u,.dct b W,q=>∃k,iv u=some k/\q (.fz (.bl (xr a (qN b W k).isSome)))
 |_,_,_=>False
def GN{neg:Bool}(h:tQ X.K (eP (nY neg) ra rb) I H Q):(tQ X.K ra) I H λy Y=>(tQ X.K rb) I Y λx b=>∃a o,x=.ref a/\G9 b a y o/\Q (.bl (xr neg o.isSome)) b:=by
 obtain⟨own,o,R,h,n,k⟩:=h;refine tQ.mk h n λY v x q m f=>tQ.mk (h.same m) q λb w y q i c=>?_;have f:=f.same (bZ i)
 revert c q
 generalize frz y=t;intro q c;cases t with
 |dct g W =>
  obtain⟨d,G,rfl,e,l,r⟩:=c.dctI;obtain⟨j,p,q⟩:=q;cases Ua f p;refine⟨d,_,rfl,.inl ⟨_,_,dh.rd e,rfl,rfl⟩,?_⟩;have:(KD (g.zip G) j).isSome=(qN g W j).isSome:=by
   cases z:qN g W j with
   |none=>rw[(Hv r).2 z];rfl
   |some t=>obtain⟨x,e,_⟩:=(Hv r).1 t z;rw[e];rfl
  rw[this];exact k b _ _ q (m.trans i) (NR.fz (.bl _))
 |_=>cases frz x<;>exact q.elim
def Fk{r:RE}{b:TE}(i:∀I H Q,tQ X.K r I H Q->b I H Q){Q:Bool->Hp->Prop}(h:tQT X.K (rB r) I H Q):tB b I H Q:=by
 obtain⟨own,o,R,h,c,k⟩:=h;refine i I H _ (tQ.mk h c λY v x q d a=>?_)
 revert a q
 generalize frz x=t;intro q a;cases a<;>try exact q.elim
 exact⟨_,rfl,k _ _ q d⟩
def F_(c:X.A.units+1<cLine)(e:QE X a ra)(d:QE X b rb)(f:‹behindInMarks .In b=false›):QT X (.Compare a [.In] [b] O) (rB (eP (nY false) ra rb)):=(FK (V' c e d) f).imp λ_ _ _=>Fk λ_ _ _=>GN (neg:=false)
def acg(c:X.A.units+1<cLine)(e:QE X a ra)(d:QE X b rb)(f:‹behindInMarks .NotIn b=false›):QT X (.Compare a [.NotIn] [b] O) (rB (eP (nY true) ra rb)):=(FK (aci c e d) f).imp λ_ _ _=>Fk λ_ _ _=>GN (neg:=true)
def PF:RE:=λ_ q=>q (.d1 [] [])
def Q6:QE X (.Dict [] [] O) PF:=afi.imp λI H Q ⟨own,o,R,h,c,k⟩ p b=>k _ _ _ c (zO.upd b) ⟨[p],λa d=>(YR.mp d) ▸ b,p,[],rfl,rfl,bY,rfl,.nil⟩
def asy(i:Nat)(a b:RE):RS:=λE o=>match slot o i with|.d1 c W=>a o λy=>b o λk=>∃j,iv (frz k)=some j/\qN c W j=none/\c.length<sizeLine/\c.length=W.length/\E.nx (o.set i (.d1 (c++[j]) (W++[frz y])))|_=>False
def gq{α:Type} : Φ->List α->Str->Option α
 |k::a,t::W,f=>if k=f then some t else gq a W f
 |_,_,_=>none
def Mp:Φ->Str->Φ
 |[],f=>[f]
 |k::a,f=>if k=f then k::a else k::Mp a f
def Ca{α:Type} : Φ->List α->Str->α->List α
 |k::a,t::W,f,v=>if k=f then v::W else t::Ca a W f v
 |_,W,_,v=>W++[v]
theorem oC{K:Frag}{F:Hp}{f:Str} : ∀{ks:Φ}{G:Ζ}{W:xk},cA K F G W->(∀t,gq ks W f=some t->∃x,(ks.zip G).lookup f=some x/\Rep K F x t)/\(gq ks W f=none->(ks.zip G).lookup f=none)
 |[],_,_,_=>⟨λ_ z=>(nomatch z),λ_=>rfl⟩
 |_::_,_,_,.nil=>⟨λ_ z=>(nomatch z),λ_=>rfl⟩
 |j::ks,_,_,.cons a b=>by
  obtain⟨d,c⟩:=oC (f:=f) (ks:=ks) b;by_cases h:j=f
  .refine⟨λt z=>?_,λz=>?_⟩
   .unfold gq at z;rw[ZY h]at z;cases z;exact⟨_,by rw[zip_cons_cons,lookup_cons,h,beq_self_eq_true],a⟩
   .unfold gq at z;rw[ZY h]at z;cases z
  .have e:∀x(r:xC),((j,x)::r).lookup f=r.lookup f:=λx r=>by rw[lookup_cons,beq_false_of_ne (Ne.symm h)]
   refine⟨λt z=>?_,λz=>?_⟩
   .unfold gq at z;rw[ZZ h]at z;obtain⟨x,g,r⟩:=d t z;exact⟨x,(e _ _).trans g,r⟩
   .unfold gq at z;rw[ZZ h]at z;exact(e _ _).trans (c z)
theorem WQ{f:Str}{v:V} : ∀{ks:Φ}{G:Ζ},ks.length=G.length->w6 f v (ks.zip G)=(Mp ks f).zip (Ca ks G f v)/\(Mp ks f).length=(Ca ks G f v).length
 |[],[],_=>⟨rfl,rfl⟩
 |k::ks,x::G,l=>by
  obtain⟨b,a⟩:=WQ (f:=f) (v:=v) (ks:=ks) (G:=G) (Nat.succ.inj l);show(if k=f then(k,v)::ks.zip G else(k,x)::w6 f v (ks.zip G))=_/\_;unfold Mp Ca;by_cases h:k=f
  .rw[ZY h,ZY h,ZY h];exact⟨rfl,l⟩
  .rw[ZZ h,ZZ h,ZZ h,b];exact⟨rfl,ZH (· + 1) a⟩
 |[],_::_,l=>by cases l
 |_::_,[],l=>by cases l
theorem cA.put{K:Frag}{F:Hp}{f:Str}{v:V}{t:T}(r:Rep K F v t):∀{c:Φ}{G:Ζ}{W:xk},cA K F G W->cA K F (Ca c G f v) (Ca c W f t)
 |[],_,_,h=>h.app (.cons r .nil)
 |_::_,_,_,.nil=>.cons r .nil
 |k::c,_,_,.cons a b=>by
  unfold Ca;by_cases h:k=f
  .rw[ZY h,ZY h];exact .cons r b
  .rw[ZZ h,ZZ h];exact .cons a (cA.put r b)
abbrev SI:=Addr->Φ->xk->xk->(Φ->xk->Prop)->Prop
def da(a c b:Addr):Prop:=b=a\/b=c
def gm(K:Frag)(S:SI):Sp:=λh H Q _=>∃a b C c G W Z g R,h=.ref a::Z/\H a=some (.ins C b (c.zip G))/\H b=some (.own a)/\c.length=G.length/\cA K (hd (da a b) H) G W/\cA K (hd (da a b) H) Z g/\S C c W g R /\
 ∀H' e d f,R e f->zO (hd (da a b) H) (hd (da a b) H')->H' a=some (.ins C b (e.zip d))->H' b=some (.own a)->e.length=d.length->cA K (hd (da a b) H') d f->Q .non H'
def startI(n:Nat)(a c C:Addr)(b:Φ)(W d:xk):xy:=.ob a c C b W::start' (n-1) d
def vu(a b:Addr):Nat->Ψ
 |0=>[a,b]
 |_+1=>[]
def I'(a c:Addr):Ow (vu a c)=da a c:=funext λb=>propext ⟨(λh=>by
  obtain⟨i,z⟩:=h;cases i with
  |zero =>
   rcases YU.mp z with z|z
   .exact .inl z
   .exact .inr (YR.mp z)
  |succ i=>cases z),λz=>⟨0,by show b∈[a,c];rcases z with rfl|rfl<;>simp⟩⟩
def SR.startI{H:Hp}{a c C:Addr}{g:Φ}{G:Ζ}{W d:xk}{Z:Ζ}(o:H a=some (.ins C c (g.zip G)))(s:H c=some (.own a))(l:g.length=G.length)(r:cA K (hd (da a c) H) G W)(f:cA K (hd (da a c) H) Z d)(N:Φ)(t:Z.length+1<=N.length) :
  SR K (vu a c) H (L2.start N (.ref a::Z)) (L2.startI N.length a c C g W d):=by
 have p:=I' a c;refine⟨?_,λi x e=>?_,λi hi b n=>?_,λi j b h q=>?_⟩
 .unfold L2.startI start' L2.start;have:=f.len;simp only[length_cons,aA,ak,aN];lia
 .rw[p];unfold L2.startI at e;cases i with
  |zero =>
   cases e;exact⟨G,rfl,rfl,o,s,l,r⟩
  |succ i =>
   rw[List.getElem?_cons_succ]at e;show Slo K _ _ _ [] x;unfold start' at e;unfold L2.start;rw[map_cons,cons_append,List.getElem?_cons_succ];by_cases hi:i<d.length
   .rw[aF (by simpa using hi),aq,aj hi]at e;cases e;obtain⟨v,h,m⟩:=f.at_ (aj hi);rw[aF (by rwa[ak,f.len]),aq,h];exact⟨rfl,v,rfl,m⟩
   .rw[aD (by simpa using hi),ak,X1]at e;by_cases k:i-d.length<N.length-1-d.length
    .rw[ZY k]at e;cases e;rfl
    .rw[ZZ k]at e;cases e
 .unfold L2.startI at hi;cases i with
  |zero=>cases hi
  |succ i=>cases n
 .cases i with
  |zero =>
   cases j with
   |zero=>rfl
   |succ j=>cases q
  |succ i=>cases h
def Fun.okI{y:Str}{N:Φ}{S:SI}(F:Fun K x y st f fd)(B:bK N ps (bH st))(i:∀C e W d R,S C e W d R->d.length+1=ps.length)(hn:ps.length<=N.length)
 (bo:∀(t:Value)(A:Around)(c:xa)(s:Shared)(H:Hp)(E:XK),eN k (A.deeper (envOfC y (bH st) s.zs f t))->N.Nodup ->
   ∃r,er (Gr bc P w K mg base N y (bH st) f t A c s H E).nox (fP st) r/\∀a g C e W d R,S C e W d R->r { nx:=λo=>∃n p,slot o 0=.ob a g C n p/\R n p,rt:=λ_=>False } (startI N.length a g C e W d)):fX P w K mg base bc (k+1) f fd ps (gm K S):=by
 refine F.ok B (λD H Q E h=>?_) λt A c s H D Q E L h=>?_
 .obtain⟨a,g,C,e,G,W,Z,d,R,rfl,_,_,_,_,j,m,_⟩:=h;rw[length_cons,j.len];exact i _ _ _ _ _ m
 .obtain⟨a,g,C,e,G,W,Z,d,R,rfl,M,bg,l,r,j,m,q⟩:=h;obtain⟨rd,T,O⟩:=bo t A c s H E L B.nd;have J:=SR.startI M bg l r j N (by rwa[j.len,i _ _ _ _ _ m]);have V:=I' a g;refine⟨_,T,_,_,_,J,O a g C e W d R m,⟨λown H' I o v E h=>?_,λ_ _ _ _ _ z=>z.elim,λ_ _ _ _ z=>z.elim,λ_ _ _ _ z=>z.elim,λ_ _ _ _ _ _ z=>z.elim⟩⟩;obtain⟨n,p,es,v⟩:=v;rw[V]at E;obtain⟨u,_,U,e1,e2,e3,e4,Y,X⟩:=h.val es nofun;have sub:zO (hd (Ow own) H') (hd (da a g) H'):=g8 (λb z=>.inl ⟨0,by rw[e2];rcases z with rfl|rfl<;>simp⟩) λ_ _ z=>z;exact q H' n U p v (E.trans sub) e3 e4 Y (X.same sub)
section
variable{X:Cx}{e:Expr}{es:xb}{re:RE}{r:RA}{f:Str}{O ai p:Pos}{Fm:Addr->Prop}
def EU(Fm:Addr->Prop)(i:Nat)(f:Str):RE:=λo q=>match slot o i with|.ob _ _ C a W=>Fm C/\∃t,gq a W f=some t/\q (.fz t)|_=>False
def _p(i:Nat)(c:∀C,Fm C->Cls X.K C/\cD X.K C f)(n:autoParam (n_X X i x) zP2)(j:‹attributeBase (.Name x p) f X.env (eval (.Name x p) X.env)=eval (.Name x p) X.env›):QE X (.Attribute (.Name x p) f O) (EU Fm i f):=(FR (pv i n) j).imp λI H Q m=>by
 obtain⟨own,o,R,h,b,k⟩:=m;unfold EU at b;cases es:slot o i with
 |ob a D C J W =>
  rw[es]at b;obtain⟨u,B,G,A,M,y,L,l,r⟩:=h.val es nofun;cases A;obtain⟨d,t,w,q⟩:=b;obtain⟨v,s,e⟩:=(oC r).1 t w;exact⟨_,B,a,C,D,_,v,rfl,y,(c C d).1,(c C d).2,s,k H _ _ q (.refl _) (NR.fz e)⟩
 |_=>rw[es]at b;exact b.elim
def Fl(Fm:Addr->Prop)(i:Nat)(f:Str)(a:RE):RS:=λE o=>match slot o i with|.ob b d C c W=>a o λy=>(Fm C/\c.length<1000)/\E.nx (o.set i (.ob b d C (Mp c f) (Ca c W f (frz y))))|_=>False
def sH(i:Nat)(c:∀C,Fm C->Cls X.K C/\cD X.K C f)(M:QE X e re)(R:autoParam (n_X X i x) zP2)(J:‹swapsWith e (some (.Attribute (.Name x p) f ay)) O.line X.env=pure false›):QS X (.Assign [.Attribute (.Name x p) f ay] e O) (Fl Fm i f re):=(Vi (pv i R) M J).imp λD I H Q=>by
 obtain⟨own,o,E,h,d,L⟩:=Q;unfold Fl at d;cases es:slot o i with
 |ob a k C j W =>
  rw[es]at d;obtain⟨u,t,G,U,m,s,n,l,r⟩:=h.val es nofun;cases U;refine tQ.mk h d λY v y q g w=>⟨_,t,a,C,k,_,rfl,g _ _ s,(c C q.1.1).1,(c C q.1.1).2,by rw[VU,<- l,US];exact q.1.2,?_⟩;obtain⟨A,pl⟩:=WQ (f:=f) (v:=v) l;rw[A];have B:k≠a:=Lk n s nofun;obtain⟨T,S⟩:=(h.same g).chg (gA es nofun) (y:=.ob a k C (Mp j f) (Ca j W f (frz y))) (H':=upd Y a (.ins C k ((Mp j f).zip (Ca j G f v)))) (λb u P e=>(bR λz=>P (by rw[m,z];simp)).trans e) (by
   rw[t,Hg ⟨i,by rw[m];simp⟩];exact⟨_,rfl,m,bY,(bR B).trans (g _ _ n),pl,cA.put w (r.same (bZ g))⟩)
  exact L.nx own _ I _ q.2 ((bZ g).trans S) T
 |_=>rw[es]at d;exact d.elim
def N9(Fm:Addr->Prop)(f:Str)(a:RE):RE:=λo q=>a o λx=>match frz x with|.ins C b W=>Fm C/\∃t,gq b W f=some t/\q (.fz t)|_=>False
def vB(c:∀C,Fm C->Cls X.K C/\cD X.K C f)(m:QE X e re)(n:‹zt X e f›):QE X (.Attribute e f O) (N9 Fm f re):=(FR m n).imp λI H Q ⟨own,o,R,h,j,k⟩=>tQ.mk h j λY v x q w b=>by
 revert b q
 generalize frz x=t;intro q b;cases t<;>try exact q.elim
 obtain⟨a,u,G,rfl,e,d,l,r⟩:=b.insI;obtain⟨g,t,s,q⟩:=q;obtain⟨v,p,i⟩:=(oC r).1 t s;exact⟨a,_,u,_,v,rfl,(cQ e).2,(c _ g).1,(c _ g).2,p,k Y _ _ q w (NR.fz i)⟩
abbrev J'(X:Cx)(k:Nat)(fa:Addr)(ps:Φ)(S:ST):Prop:=zS X bc k fa ps (fS X.K S)
def OkI.hid{P:Program}{w:World}{K:Frag}{mg:Str->Ω}{base:Heap}{k:Nat}{c:Addr}{ps:Φ}{a:Sp}(G:OkI P w K mg base bc k c ps a):OkI P w K mg base bc k c ps (hU a):=by obtain⟨fd,F,b⟩:=G;exact⟨fd,F.hid,b⟩
def W6{f:Ζ}{E:XK}(l:SR X.K own Y I o)(i:cA X.K (hd (Ow own) Y) f W)(q:S W R)(k:∀H' v x,R x->zO Y H'->NR X.K (Ow own) Y H' v x->Q v H'):hU (fS X.K S) f Y Q E:=by
 refine⟨Ow own,l.hid,W,R,i,q,λG v x h E n d=>?_⟩;have m:zO Y (dA (Ow own) Y G):=λb u e=>by
  by_cases z:Ow own b
  .rw[zL z];exact e
  .rw[mG z];exact E b u ((cN z).trans e)
 have g:zO G (dA (Ow own) Y G):=λb u e=>by rw[mG λz=>by rw[d b z]at e;cases e];exact e
 refine k _ v x h m ?_;obtain⟨B,j,s⟩:=n;have out:∀a∈B,¬Ow own a:=λa c z=>(s.sole c).ne (d a z);refine⟨B,λa c=>by have:=j a c;rwa[cN (out a c)]at this,s.same (g8 (λb z=>?_) g) g⟩;rcases z with z|z
 .exact .inr (d b z)
 .exact .inl (.inr z)
def E5(C:Addr)(e:Φ)(S:ST)(a:RE)(r:RA):RE:=λo q=>a o λx=>match frz x with|.ins c b W=>(c=C/\b=e)/\r o λd=>S (.ins c b W::d) q|_=>False
theorem Uh{f:Str} : ∀{a:Φ}{G:Ζ},f∉a->(a.zip G).lookup f=none
 |[],_,_=>rfl
 |_::_,[],_=>rfl
 |k::a,x::G,h=>by
  rw[zip_cons_cons,lookup_cons,beq_false_of_ne λ(z:f=k)=>h (by rw[z];exact aO ..)];exact Uh λz=>h (aJ _ z)
def Bt{o:Expr}{p:RE}{u C:Addr}{KS:Φ}(F:QE X o p)(c:Cls X.K C)(B:Meth X.K C f u)(b:J' X k u ps S)(J:QA X (e::es) r)(m:eN k X.A:=by exact eN.mono (by assumption) wP)(D:f∉KS:=by decide +kernel)
 (M:‹zw X e es›)(N:‹zg X O es›)
 (z:‹eval (.Call (.Attribute o f ai) (e::es) [] O) X.env=(do
   let s <- eval o X.env
   standAt ai.atName
   let(f,first) <- holding [s] (getMethod s f pl)
   callWith O f first (backTo O (starEach (e::es) X.env)) (backToKw O (keywordEach [] X.env)))›) :
  QE X (.Call (.Attribute o f ai) (e::es) [] O) (E5 C KS S p r):=(adv (pl:=pl) F c B (OkI.hid b) m J M N z).imp λI H Q ⟨own,o,R,h,m,k⟩=>tQ.mk h m λY v x q j g=>by
 revert g q
 generalize frz x=t;intro q g;cases t<;>try exact q.elim
 obtain⟨a,L,G,rfl,e,d,l,r⟩:=g.insI;obtain⟨⟨rfl,rfl⟩,q⟩:=q;refine⟨a,L,_,rfl,(cQ e).2,Uh D,tQA.mk (h.same j) q λU P T q _ i y=>?_⟩;exact W6 ((h.same j).same i) (.cons (g.same (bZ i)) y) q λH' v x w E n=>k H' v x w (j.trans (i.trans E)) (n.back (j.trans i))
def Ah{o:Expr}{m:RE}{s C:Addr}{KS:Φ}(B:QE X o m)(c:Cls X.K C)(y:Meth X.K C f s)(b:J' X k s ps S)(i:eN k X.A:=by exact eN.mono (by assumption) wP)(z:f∉KS:=by decide +kernel)
 (w:‹eval (.Call (.Attribute o f ai) [] [] O) X.env=(do
   let p <- eval o X.env
   standAt ai.atName
   let(f,first) <- holding [p] (getMethod p f pl)
   callWith O f first (backTo O (starEach [] X.env)) (backToKw O (keywordEach [] X.env)))›) :
  QE X (.Call (.Attribute o f ai) [] [] O) (E5 C KS S m n4):=(abE (pl:=pl) B c y (OkI.hid b) i w).imp λI H Q ⟨own,o,R,h,i,k⟩=>tQ.mk h i λY v x q j g=>by
 revert g q
 generalize frz x=t;intro q g;cases t<;>try exact q.elim
 obtain⟨a,D,G,rfl,e,d,l,r⟩:=g.insI;obtain⟨⟨rfl,rfl⟩,q⟩:=q;refine⟨a,D,_,rfl,(cQ e).2,Uh z,?_⟩;exact W6 (E:=E0) (h.same j) (.cons g .nil) q λH' v x u E n=>k H' v x u (j.trans E) (n.back j)
def P9(C:Addr)(S:SI)(r:RA):RE:=λo q=>r o λb=>S C [] [] b λa W=>q (.fz (.ins C a W))
theorem Fo{D C:Addr}{S:SI}(M:Mk X.K C D)(c:zS X bc k D ps (gm X.K S))(T:X.mg x=some (.ref C))(W:QA X (e::es) r)(j:eN (k+1) X.A:=by exact eN.mono (by assumption) wP)(U:‹Gl X x›)(bS:autoParam (zz x) zP4)
 (V:‹zw X e es›)(a8:‹zg X O es›):QE X (.Call (.Name x p) (e::es) [] O) (P9 C S r):=(afK M (OkI.hid c) j U T W bS V a8).imp λI H Q ⟨own,o,R,h,j,k⟩=>tQA.mk h j λY L as q _ J P a d B y w=>by
 have m:=h.same J;have g:zO Y (upd (upd Y d (.own a)) a (.ins C d [])):=(zO.upd y).trans (zO.upd ((bR (Ne.symm w)).trans B));have Z:=m.same g;have v:¬Ow own a:=λz=>(m.sole z).ne B;have t:¬Ow own d:=λz=>(m.sole z).ne y;refine⟨Ow own,Z.hid,a,d,C,[],[],[],L,as,_,rfl,(cN v).trans bY,(cN t).trans ((bR w).trans bY),rfl,.nil,P.same (λb u e=>?_),q,λc fe fx dP N E ea ed l r F=>⟨rfl,?_⟩⟩
 .obtain⟨n,e⟩:=cQ e;have i:¬da a d b:=λz=>by rcases z with rfl|rfl<;>rw[e]at *<;>contradiction
  rw[cN i,cN n];exact g _ _ e
 .have f:zO c (dA (Ow own) (upd (upd Y d (.own a)) a (.ins C d [])) c):=λb u e=>by rw[mG λz=>by rw[F b z]at e;cases e];exact e
  refine k _ _ _ N (J.trans λb u e=>?_) (NR.fz (.ins (dx:=d) (ks:=fe) (G:=fx) ?_ ?_ l (r.same λb u e=>?_)))
  .by_cases z:Ow own b
   .rw[zL z];exact g _ _ e
   .have i:¬da a d b:=λz=>by rcases z with rfl|rfl<;>rw[e]at *<;>contradiction
    exact f _ _ (cQ (E b u ((cN i).trans ((cN z).trans (g _ _ e))))).2
  .rw[cN v];exact f _ _ ea
  .rw[cN t];exact f _ _ ed
  .have s:=(cQ e).2;rw[cN λz=>by rw[F b z]at s;cases s];exact f _ _ s
def EJ(i:Nat)(S:SI)(r:RA):RS:=λE o=>match slot o i with|.ob a d C b W=>r o λf=>S C b W f λc e=>E.nx (o.set i (.ob a d C c e))|_=>False
def JZ(i:Nat){y m:Str}{R B:Addr}{S:SI}(c:Jd X.K B m R)(g:zS X bc k R ps (gm X.K S))(hm:X.mg x=some (.ref B))(ha:QA X es r)(v:eN k X.A:=by exact eN.mono (by assumption) wP)(hg:‹Gl X x›)
 (hN:autoParam (n_X X i y) zP2)(bS:autoParam (zz x) zP4)
 (V:‹starEach (.Name y p2::es) X.env=(false,eval (.Name y p2) X.env)::starEach es X.env›)(a8:‹zg X af es›)
 (ht:‹eval (.Call (.Attribute (.Name x p) m ai) (.Name y p2::es) [] af) X.env=(do
   let Q <- eval (.Name x p) X.env
   standAt ai.atName
   let(f,first) <- holding [Q] (getMethod Q m pl)
   callWith af f first (backTo af (starEach (.Name y p2::es) X.env)) (backToKw af (keywordEach [] X.env)))›)
 (hs:‹swapsWith (.Call (.Attribute (.Name x p) m ai) (.Name y p2::es) [] af) none O.line X.env=pure false›) :
  QS X (.Expr (.Call (.Attribute (.Name x p) m ai) (.Name y p2::es) [] af) O) (EJ i S r):=(gO (adM (pl:=pl) c (OkI.hid g) v hg hm (cj (pv i hN) ha V) bS V a8 ht) hs).imp λD I H hP=>by
 obtain⟨own,o,E,h,v,L⟩:=hP;unfold EJ at v;cases es:slot o i with
 |ob a s C ks W =>
  rw[es]at v;obtain⟨u,T,G,e2,P,e4,e5,l,r⟩:=h.val es nofun;cases e2;refine⟨_,T,tQA.mk h v λY vs as q _ J r1=>?_⟩;have t:=h.same J;have sub:∀b,da a s b->b∈own i:=λb z=>by rw[P];rcases z with rfl|rfl<;>simp
  have F:∀b,b∈own i->da a s b:=λb z=>by
   rw[P]at z;rcases YU.mp z with z|z
   .exact .inl z
   .exact .inr (YR.mp z)
  have hid:ml Y (λb=>Ow own b/\¬da a s b):=⟨λb z=>t.sole z.1,λb C d f ⟨⟨j,z⟩,n⟩ e=>⟨⟨j,(t.mate z).1 C d f e⟩,λy=>n (F b ((t.dis j i d ((t.mate z).1 C d f e) (sub d y)) ▸ z))⟩,λb x ⟨⟨j,z⟩,n⟩ e=>⟨⟨j,(t.mate z).2 x e⟩,λy=>n (F b ((t.dis j i x ((t.mate z).2 x e) (sub x y)) ▸ z))⟩⟩;have eg:∀H':Hp,hd (da a s) (hd (λb=>Ow own b/\¬da a s b) H')=hd (Ow own) H':=λH'=>funext λb=>by
   by_cases z:da a s b
   .rw[rA z,rA ⟨i,sub b z⟩]
   .rw[cN z];by_cases y:Ow own b
    .rw[rA (⟨y,z⟩ : Ow own b/\¬da a s b),rA y]
    .rw[cN (λw=>y w.1),cN y]
  have na:¬(Ow own a/\¬da a s a):=λz=>z.2 (.inl rfl);have nd:¬(Ow own s/\¬da a s s):=λz=>z.2 (.inr rfl);refine⟨_,hid,a,s,C,ks,G,W,vs,as,_,rfl,(cN na).trans (J _ _ e4),(cN nd).trans (J _ _ e5),l,by rw[eg];exact r.same (bZ J),by rw[eg];exact r1,q,λg fe fx dP rx Z ea ed l' r' U=>?_⟩;rw[eg]at Z;have M:∀{b:Addr}{u:HO},g b=some u->dA (λb=>Ow own b/\¬da a s b) Y g b=some u:=λ{b u}e=>(mG λz=>by rw[U b z]at e;cases e).trans e;obtain⟨h',S'⟩:=t.chg (gA es nofun) (y:=.ob a s C fe dP) (H':=dA (λb=>Ow own b/\¬da a s b) Y g) (λb u hb e=>by
   by_cases z:Ow own b
   .rw[zL ⟨z,λy=>hb (sub b y)⟩];exact e
   .exact M (cQ (Z b u ((cN z).trans e))).2) (by
   rw[T];refine⟨fx,rfl,P,M ea,M ed,l',r'.same λb u e=>?_⟩;obtain⟨n1,e⟩:=cQ e;rw[cN λz=>by rw[U b ⟨z,n1⟩]at e;cases e];exact M e)
  exact L.nx own _ I _ rx ((bZ J).trans S') h'
 |_=>rw[es]at v;exact v.elim
end
def m_{A:Addr}{i:Int}(b:X.mg x=some (.ref A))(a:∀H,SqT X.K H A [.int i,.int j])(c:‹Gl X x›)(hd:autoParam (zz x) zP4):QE X (.Name x O) (rC (.tup [.int i,.int j])):=qC (agg c b hd) λF=>.tup (a F) (.cons (.int _) (.cons (.int _) .nil))
def QE.any{Fm:Addr->Prop}{r:Addr->RE}(h:∀C,Fm C->QE X e (r C)):QE X e (λo q=>∃C,Fm C/\r C o q):=λU s I H Q a ⟨own,o,R,b,⟨C,d,c⟩,k⟩=>h C d U s I H Q a ⟨own,o,R,b,c,k⟩
def vh{a j:Pos}:=@zK X tg iter bj aE ri g rc re J O i0 y0 a j (λi r n g c e=>wm i (ij r n g c e)) λ{_ i0 _ _ _ _ _ _ _ _}⟨own,o,E,h,d,L⟩=>Nh ⟨own,o,_,h,d,λH' v y q S n=>by
 obtain⟨k,f,l⟩:=h.putA S (n.frz λb z=>(h.sole z).ne) i0;exact L.nx k H' _ _ q l f⟩
def Mo(i j:Nat)(r:RA):RS:=λE o=>r o λW=>match W with|[t,u]=>E.nx ((o.set i (.fz t)).set j (.fz u))|_=>False
def Ta(i j:Nat){y:Str}{e d f:Pos}{g k c}(K:X.calm)(P:X.N.Nodup)(z:i≠j)(M:QA X [a,b] r)(hi:‹X.N[i]?=some x›)(J:‹X.N[j]?=some y›)
 (B:‹X.env.scope.names.lookup x=some .local›)(A:‹X.env.scope.names.lookup y=some .local›)
 (C:‹swappedStores [.Tuple [.Name x e,.Name y d] g f] (.Tuple [a,b] k c) X.env=pure (some [x,y])›)
 (F:‹swapsWithSole [.Tuple [.Name x e,.Name y d] g f] (.Tuple [a,b] k c) O.line X.env=pure false›) :
  QS X (.Assign [.Tuple [.Name x e,.Name y d] g f] (.Tuple [a,b] k c) O) (Mo i j r):=(YO K P hi J z B A M C F).imp λD I H ⟨own,o,E,h,G,L⟩=>⟨own,o,_,h,G,λY U W q _ m p=>by
 rcases W with _|⟨t,_|⟨u,_|_⟩⟩<;>try cases q
 obtain⟨v,w,rfl,n,s⟩:=p.two;refine⟨v,w,rfl,?_⟩;obtain⟨V,R,l⟩:=(h.same m).setF n (X2 i);obtain⟨S,Q,T⟩:=R.putA (.refl _) (NR.fz (s.same l.same)) j;exact L.nx S Y _ _ q ((bZ m).trans (l.same.trans T)) Q⟩
def LX{a:Type}{G:List α}{ys:List a}{y:a}(l:G.length=ys.length)(e:ck ys j=some y):∃n x,c_ ys.length j=some n/\ys[n]?=some y/\G[n]?=some x/\c4 G j=some x:=by
 rw[T7]at e;unfold c4 at e ⊢;rw[l];cases z:c_ ys.length j with
 |none=>rw[z]at e;cases e
 |some n =>
  rw[z]at e;have b:n<G.length:=l ▸ (ao.mp e).1;exact⟨n,G[n],rfl,e,aj b,aj b⟩
theorem qj{α:Type} : ∀{l:List α},l.Nodup->∀{i j:Nat}{x:α},l[i]?=some x->l[j]?=some x->i=j
 |[],_,_,_,_,e,_=>by cases e
 |y::l,d,i,j,x,b,a=>by
  obtain⟨c,f⟩:=List.nodup_cons.mp d;cases i with
  |zero =>
   cases j with
   |zero=>rfl
   |succ j=>cases b;exact absurd (aC (by simpa using a)) c
  |succ i =>
   cases j with
   |zero=>cases a;exact absurd (aC (by simpa using b)) c
   |succ j=>exact ZH (· + 1) (qj f (by simpa using b) (by simpa using a))
def SR.l2{K:Frag}{own:Nat->Ψ}{H:Hp}{I:L2.St}{o:xy}(h:SR K own H I o){i:Nat}{tss:we}(e:slot o i=.l2 tss):∃l a,I[i]?=some (some (.ref l))/\own i=l::a/\(l::a).Nodup/\H l=some (.lst (a.map V.ref))/\a.length=tss.length/\∀(i:Nat)b W,a[i]?=some b->tss[i]?=some W->∃G,H b=some (.lst G)/\cA K (hd (Ow own) H) G W:=by
 obtain⟨u,k,l,a,j,g,c,f,d,r⟩:=h.val e nofun;cases j;exact⟨l,a,k,g,c,f,d,r⟩
def SR.chg2(h:SR K own H I o){a:we}(e:slot o i=.l2 a){l b:Addr}{d:Ψ}{Z:xk}(m:I[i]?=some (some (.ref l)))(p:own i=l::d)(s:(l::d).Nodup)(C:H l=some (.lst (d.map V.ref)))(t:d.length=a.length)(r:∀(i:Nat)b W,d[i]?=some b->a[i]?=some W->∃G,H b=some (.lst G)/\cA K (hd (Ow own) H) G W)(f:d[n]?=some b)(w:cA K (hd (Ow own) H) ys Z) :
  SR K own (upd H b (.lst ys)) I (o.set i (.l2 (a.set n Z)))/\zO (hd (Ow own) H) (hd (Ow own) (upd H b (.lst ys))):=by
 have v:=aC f;obtain⟨A,B⟩:=List.nodup_cons.mp s;refine h.chg (gA e nofun) (λc u hc e=>(bR λz=>hc (by rw[p,z];exact aJ _ v)).trans e) ?_;rw[m,Hg ⟨i,by rw[p];exact aJ _ v⟩];refine⟨l,d,rfl,p,s,(bR λ(z:l=b)=>A (by rwa[z])).trans C,by rw[VZ];exact t,λk c W g j=>?_⟩;by_cases z:k=n
 .subst z;rw[f]at g;cases g;rw[UZ (t ▸ (ao.mp f).1)]at j;cases j;exact⟨ys,bY,w⟩
 .rw[VT (Ne.symm z)]at j;obtain⟨G,q,x⟩:=r k c W g j;refine⟨G,(bR λy=>?_).trans q,x⟩;have E:=(ao.mp g).1;have D:=(ao.mp f).1;exact z (qj B g (by rw[f,y]))
def Zr{a:Ψ}{c:Addr}(e:c4 a j=some c):c4 (a.map V.ref) j=some (.ref c):=by
 have:c4 (a.map V.ref) j=(c4 a j).map V.ref:=by unfold c4;rw[ak];cases c_ a.length j<;>simp
 rw[this,e];rfl
def EF(i:Nat)(a b:RE):RE:=λo q=>match slot o i with
 |.l2 c=>a o λx=>(match frz x with|.int j=>∃W,ck c j=some W/\b o λy=>(match frz y with|.int m=>∃t,ck W m=some t/\q (.fz t)|_=>False)|_=>False)
 |_=>False
def _t(i:Nat)(F:QE X a ra)(E:QE X b rb)(K:autoParam (n_X X i x) zP2)(L:vV a:=by exact λ_ _=>rfl)(D:vV b:=by exact λ_ _=>rfl):QE X (.Subscript (.Subscript (.Name x p) a p2) b O) (EF i ra rb):=(oN vO (oN vO (pv i K) F L) E D).imp λI H Q J=>by
 obtain⟨own,o,R,h,d,k⟩:=J;unfold EF at d;cases es:slot o i with
 |l2 s =>
  rw[es]at d;obtain⟨l,m,e1,e3,nd,e4,B,r⟩:=h.l2 es;refine⟨_,e1,tQ.mk h d λY v x q j f=>?_⟩
  revert f q
  generalize frz x=t;intro q f;cases t<;>try exact q.elim
  cases f;obtain⟨W,T,q⟩:=q;obtain⟨n,c,_,M,Z,U⟩:=LX (G:=m) B T;obtain⟨G,P,u⟩:=r n c W Z M;refine⟨l,m.map V.ref,_,.ref c,rfl,rfl,.of (j _ _ e4),?_,tQ.mk (h.same j) q λH2 w y q E2 e=>?_⟩
  .exact Zr U
  .revert e q
   generalize frz y=t;intro q e;cases t<;>try exact q.elim
   cases e;obtain⟨t,S,q⟩:=q;obtain⟨z,e7,A⟩:=u.ix S;have g:=j.trans E2;exact⟨c,G,_,z,rfl,rfl,.of (g _ _ P),e7,k H2 _ _ q g (NR.fz (A.same (bZ g)))⟩
 |_=>rw[es]at d;exact d.elim
def EO(i:Nat)(a b:RE):RS:=λE o=>match slot o i with
 |.l2 c=>a o λx=>(match frz x with|.int j=>∃n W,c_ c.length j=some n/\c[n]?=some W/\W.length<sizeLine/\b o λy=>E.nx (o.set i (.l2 (c.set n (W++[frz y]))))|_=>False)
 |_=>False
def tu{a:Type}{G:List α}{ys:List a}{y:a}(l:G.length=ys.length)(e:c_ ys.length j=some n)(c:ys[n]?=some y):∃x,G[n]?=some x/\c4 G j=some x:=by
 have b:n<G.length:=l ▸ (ao.mp c).1;exact⟨G[n],aj b,by unfold c4;rw[l,e];exact aj b⟩
def agG(i:Nat){k:Pos}(ha:QE X a ra)(he:QE X e re)(hN:autoParam (n_X X i x) zP2)(gy:vV a:=by exact λ_ _=>rfl)
 (hb:‹attributeBase (.Subscript (.Name x p) a p2) "append" X.env (eval (.Subscript (.Name x p) a p2) X.env)=eval (.Subscript (.Name x p) a p2) X.env›)
 (Z:‹zo X af e›)
 (U:‹zC k af›)(J:‹zw X e []›)(T:‹zg X af []›)
 (R:‹swapsWith (.Call (.Attribute (.Subscript (.Name x p) a p2) "append" k) [e] [] af) none O.line X.env=pure false›) :
  QS X (.Expr (.Call (.Attribute (.Subscript (.Name x p) a p2) "append" k) [e] [] af) O) (EO i ra re):=(gO (CV (oN vO (pv i hN) ha gy) (cj he dI J) hb Z U J T) R).imp λD I H hP=>by
 obtain⟨own,o,E,h,f,L⟩:=hP;unfold EO at f;cases es:slot o i with
 |l2 K =>
  rw[es]at f;obtain⟨l,F,C,e3,P,B,s,r⟩:=h.l2 es;refine⟨_,C,tQ.mk h f λY v x q g j=>?_⟩
  revert j q
  generalize frz x=t;intro q j;cases t<;>try exact q.elim
  cases j;obtain⟨n,W,en,u,sz,q⟩:=q;obtain⟨c,A,ei⟩:=tu (G:=F) s en u;obtain⟨G,z,m⟩:=r n c W A u;refine⟨l,F.map V.ref,_,.ref c,rfl,rfl,.of (g _ _ B),Zr ei,c,G,rfl,g _ _ z,tQ.mk (h.same g) q λH2 w y q E2 M=>?_⟩;have d:=g.trans E2;refine⟨w,G,rfl,d _ _ z,by rw[m.len];exact sz,?_⟩;obtain⟨h',S⟩:=(h.same d).chg2 es C e3 P (d _ _ B) s (λi b W a c=>let⟨G,p,q⟩:=r i b W a c;⟨G,d _ _ p,q.same (bZ d)⟩) A ((m.same (bZ d)).app (.cons M .nil));exact L.nx own _ I _ q ((bZ d).trans S) h'
 |_=>rw[es]at f;exact f.elim
def E1(i:Nat)(c a b:RE):RS:=λE o=>match slot o i with
 |.l2 d=>c o λy=>a o λx=>(match frz x with|.int j=>∃n W,c_ d.length j=some n/\d[n]?=some W/\b o λz=>(match frz z with|.int m=>∃k,c_ W.length m=some k/\E.nx (o.set i (.l2 (d.set n (W.set k (frz y)))))|_=>False)|_=>False)
 |_=>False
def agS(i:Nat)(he:QE X e re)(ha:QE X a ra)(hk:QE X b rb)(hN:autoParam (n_X X i x) zP2)(gy:vV a:=by exact λ_ _=>rfl)
 (hq:∀v,assign (.Subscript (.Subscript (.Name x p) a p2) b ay) X.env v=(do
   let m <- holding [v] (eval (.Subscript (.Name x p) a p2) X.env)
   let A <- holding [v,m] (eval b X.env)
   standAt ay
   holding [v,m,A] (setItem m A v)
   release [v,m,A] []):=by intro _;rfl)
 (hs:‹swapsWithSole [.Subscript (.Subscript (.Name x p) a p2) b ay] e O.line X.env=pure false›)(hw:‹swappedStores [.Subscript (.Subscript (.Name x p) a p2) b ay] e X.env=pure none›)
 (h1:‹(assignEach [.Subscript (.Subscript (.Name x p) a p2) b ay] X.env).map (·.2)=[assign (.Subscript (.Subscript (.Name x p) a p2) b ay) X.env]›):QS X (.Assign [.Subscript (.Subscript (.Name x p) a p2) b ay] e O) (E1 i re ra rb):=(Zj he (Hm (oN vO (pv i hN) ha gy) hk set_list hq) hs hw h1).imp λD I H hP=>by
 obtain⟨own,o,E,h,g,L⟩:=hP;unfold E1 at g;cases es:slot o i with
 |l2 T =>
  rw[es]at g;obtain⟨l,P,M,e3,Z,K,C,r⟩:=h.l2 es;refine tQ.mk h g λH0 v0 y q j U=>⟨_,M,tQ.mk (h.same j) q λY v x q R u=>?_⟩
  revert u q
  generalize frz x=t;intro q u;cases t<;>try exact q.elim
  cases u;obtain⟨n,W,en,F,q⟩:=q;obtain⟨c,J,ei⟩:=tu (G:=P) C en F;obtain⟨G,eq,B⟩:=r n c W J F;have f:=j.trans R;refine⟨l,P.map V.ref,_,.ref c,rfl,rfl,.of (f _ _ K),Zr ei,tQ.mk (h.same f) q λH2 w z q Q s=>?_⟩
  revert s q
  generalize frz z=t;intro q s;cases t<;>try exact q.elim
  cases s;obtain⟨k,ek,q⟩:=q;have d:=f.trans Q;refine⟨c,G,_,k,rfl,rfl,d _ _ eq,by rw[B.len];exact ek,?_⟩;obtain⟨h',S⟩:=(h.same d).chg2 es M e3 Z (d _ _ K) C (λi b W a c=>let⟨G,p,q⟩:=r i b W a c;⟨G,d _ _ p,q.same (bZ d)⟩) J (cA.set (U.same (bZ (R.trans Q))) k (B.same (bZ d)));exact L.nx own _ I _ q ((bZ d).trans S) h'
 |_=>rw[es]at g;exact g.elim
def Md:zi
 |.str i,.str j,q=>q (.fz (.bl (!decide (j.cps.toList<i.cps.toList))))
 |_,_,_=>False
def FG:GO X (compareOp .LtE) Md:=SF.imp λx y H Q d=>by
 obtain⟨S,t,u,R,_,c,b,a,k⟩:=d;cases c<;>try exact a.elim
 cases b<;>try exact a.elim
 exact⟨_,_,rfl,rfl,k H _ _ a (.refl _) (NR.fz (.bl _))⟩
def _U:GC X (.builtin "len") (g1 NB):=.one U5 λS t x H Q R b a k=>by
 cases t<;>try exact a.elim
 cases b;exact⟨_,rfl,a.1,k H _ _ a.2 (.refl _) (NR.fz (.int _))⟩
def NO(a:RE):RI:=λo q=>a o λx=>match frz x with|.str s=>q (s.cps.toList.map λc=>.str ⟨#[c]⟩)|_=>False
def VO(g:QE X e re):QI X tg e (NO re):=(X' g).imp λI H Q ⟨own,o,R,h,f,k⟩=>tQ.mk h f λY v x q j b=>by
 revert b q
 generalize frz x=t;intro q b;cases t<;>try exact q.elim
 cases b;refine⟨_,rfl,k Y _ _ q j λS p i _ m=>⟨λhi=>show i=_ by simpa using hi,λt a=>?_⟩⟩;rw[aq]at a;cases z:((by assumption:Str).cps.toList)[i]? with
 |none=>rw[z]at a;cases a
 |some c =>
  rw[z]at a;cases a;refine⟨show i<_ by simpa using(ao.mp z).1,?_⟩;rintro x n ⟨rfl,l,d,rfl⟩;rw[<- Array.getElem?_toList,z]at d;cases d;exact⟨.refl _,.str _⟩
abbrev HG:=zn
variable{e:RE}{b:RS}{g:HG}{c:RT}{ks:xL}
theorem IL(h:α->T)(l:List α)(J:List α->xy->Prop)(st:∀c a d o,l=c++a::d->J c o->g (h a) o λi=>b { E with nx:=J (c++[a]),ct:=J (c++[a]),bk:=E.nx } i)(f:∀o,J l o->E.nx o):∀(d c:List α)(o:xy),l=c++d->J c o->wY g b E (d.map h) o
 |[],c,o,e,j=>f o (by rw[append_nil]at e;rwa[e])
 |a::d,c,o,e,j=>⟨J (c++[a]),λo k=>IL h l J st f d (c++[a]) o (by rw[e];simp) k,st c a d o e j⟩
def iy(h:α->T)(l:List α)(J:List α->xy->Prop)(j:J [] o)(st:∀c a e o,l=c++a::e->J c o->g (h a) o λd=>b { E with nx:=J (c++[a]),ct:=J (c++[a]),bk:=E.nx } d)(f:∀o,J l o->E.nx o):wY g b E (l.map h) o:=IL h l J st f l [] o rfl j
theorem Gq(J:Nat->xy->Prop):∀(G:xk)(k:Nat){o:xy},J k o->(∀i t o,G[i]?=some t->J (k+i) o->g t o λc=>b { E with nx:=J (k+i+1),ct:=J (k+i+1),bk:=E.nx } c)->(∀o,J (k+G.length) o->E.nx o)->wY g b E G o
 |[],_,o,j,_,a=>a o j
 |t::W,k,o,j,st,a=>⟨J (k+1),λo z=>Gq J W (k+1) z (λi t o e z=>by
   have:=st (i+1) t o (by simpa using e) (by rw[show k+(i+1)=k+1+i by lia];exact z);rw[show k+(i+1)+1=k+1+i+1 by lia]at this;exact this) (λo z=>a o (by rw[length_cons,show k+(W.length+1)=k+1+W.length by lia];exact z)),st 0 t o rfl j⟩
def j7(J:Nat->xy->Prop)(j:J 0 o)(st:∀k o,k<n->J k o->g (.int (k:Nat)) o λa=>b { E with nx:=J (k+1),ct:=J (k+1),bk:=E.nx } a)(c:∀o,J n o->E.nx o):wY g b E (rng 0 n) o:=by
 refine Gq J (rng 0 n) 0 j (λi t o e z=>?_) λo z=>c o (by rw[rng,ak,W1,Nat.zero_add]at z;exact z);unfold rng at e;rw[aq]at e;by_cases hi:i<n
 .rw[UV hi]at e;cases e;rw[Nat.zero_add]at z ⊢;have:=st i o hi z;show g (.int (0+((i:Nat):Int))) o _;rw[show(0:Int)+((i:Nat):Int)=((i:Nat):Int)by exact Int.zero_add _];exact this
 .rw[aM (by simpa using hi)]at e;cases e
def uT(h:α->T)(l:List α)(J:Nat->xy->Prop)(j:J 0 o)(st:∀k a o,l[k]?=some a->J k o->g (.tup [.int (k:Nat),h a]) o λc=>b { E with nx:=J (k+1),ct:=J (k+1),bk:=E.nx } c)(d:∀o,J l.length o->E.nx o):wY g b E (BL (l.map h)) o:=by
 refine Gq J (BL (l.map h)) 0 j (λi t o e z=>?_) λo z=>d o (by rw[BL,ak,length_zipIdx,ak,Nat.zero_add]at z;exact z);unfold BL at e;rw[aq]at e;by_cases hi:i<l.length
 .rw[aj (by simpa using hi),List.getElem_zipIdx,UU]at e;cases e;rw[Nat.zero_add]at z ⊢;have:=st i _ o (aj hi) z;exact this
 .rw[aM (by simpa using hi)]at e;cases e
theorem comp_map(h:α->T)(f:α->T):∀(l:List α){q:xk->Prop},(∀a∈l,∀(N:T->Prop)(M:Prop),N (f a)->g (h a) o λd=>c d λb=>sw b (e d λy=>N (frz y)) M)->q (l.map f)->jL g c e o (l.map h) q
 |[],_,_,k=>k
 |a::l,q,st,k=>⟨λy=>y=f a,False,λy z=>comp_map h f l (λa i=>st a (aJ _ i)) (z ▸ k),False.elim,st a (aO ..) (λy=>y=f a) False rfl⟩
theorem rR(h:α->T)(p:α->Bool)(f:α->T):∀(l:List α){q:xk->Prop},(∀a∈l,∀(N:T->Prop)(M:Prop),(p a=true->N (f a))->(p a=false->M)->g (h a) o λi=>c i λb=>sw b (e i λy=>N (frz y)) M)->q ((l.filter p).map f)->jL g c e o (l.map h) q
 |[],_,_,k=>k
 |a::l,q,st,k=>⟨λy=>y=f a/\p a,p a=false,λy z=>rR h p f l (λa d=>st a (aJ _ d)) (by rw[List.filter_cons_of_pos z.2]at k;exact z.1 ▸ k),λz=>rR h p f l (λa d=>st a (aJ _ d)) (by rw[List.filter_cons_of_neg (by rw[z];decide)]at k;exact k),st a (aO ..) (λy=>y=f a/\p a) (p a=false) (λz=>⟨rfl,z⟩) id⟩
inductive i8(R:α->T->Prop):List α->xk->Prop
 |nil:i8 R [] []
 |cons {a:α}{t:T}{l:List α}{W:xk} : R a t->i8 R l W->i8 R (a::l) (t::W)
theorem Xn(h:α->T)(R:α->T->Prop):∀(l:List α){q:xk->Prop},(∀a∈l,∀(N:T->Prop)(M:Prop),(∀t,R a t->N t)->g (h a) o λd=>c d λb=>sw b (e d λy=>N (frz y)) M)->(∀W,i8 R l W->q W)->jL g c e o (l.map h) q
 |[],_,_,k=>k [] .nil
 |a::l,q,st,k=>⟨R a,False,λy z=>Xn h R l (λa f=>st a (aJ _ f)) λW t=>k _ (.cons z t),False.elim,st a (aO ..) (R a) False λ_ z=>z⟩
def Vl(f:Nat->T)(n:Nat)(st:∀k,k<n->∀(N:T->Prop)(M:Prop),N (f k)->g (.int (k:Nat)) o λd=>c d λb=>sw b (e d λy=>N (frz y)) M)(k:q ((range n).map f)):jL g c e o (rng 0 n) q:=by
 refine comp_map (λk:Nat=>.int (0+k)) f (range n) (λa h N M i=>?_) k;have:=st a (List.mem_range.mp h) N M i;show g (.int (0+((a:Nat):Int))) o _;rw[show(0:Int)+((a:Nat):Int)=((a:Nat):Int)by exact Int.zero_add _];exact this
def zip_map{α a:Type}(h:α->T)(k:a->T)(G:List α)(ys:List a):K8 (G.map h) (ys.map k)=(G.zip ys).map λp=>.tup [h p.1,k p.2]:=by
 unfold K8;rw[List.zip_map,WG]
 rfl
def agj(h:α->T)(G:List α):BL (G.map h)=G.zipIdx.map λp=>.tup [.int (p.2:Nat),h p.1]:=by
 unfold BL;rw[List.zipIdx_map,WG]
 rfl
def T4(ks:xL)(j:bE):Bool:=ks.any λk=>decide (k=j)
def eX(ks:xL)(j:bE):xL:=if T4 ks j=true then ks else ks++[j]
def d6(ks:xL)(W:List α)(j:bE)(t:α):List α:=if T4 ks j=true then ks.zipWith (λk x=>if k=j then t else x) W else W++[t]
def adf{j:bE}(l:ks.length=G.length):putK (ks.zip G) j v=(eX ks j).zip (d6 ks G j v)/\(eX ks j).length=(d6 ks G j v).length:=by
 have any:∀{ks:xL}{G:Ζ},ks.length=G.length->((ks.zip G).any λb=>decide (b.1=j))=T4 ks j:=λ{ks}=>by
  induction ks with
  |nil=>intro G _;rfl
  |cons k ks a =>
   intro G l;cases G with
   |nil=>cases l
   |cons x G=>rw[zip_cons_cons,any_cons,a (Nat.succ.inj l)];rfl
 unfold putK eX d6;rw[any l];by_cases h:T4 ks j
 .rw[ZY h,ZY h,ZY h];refine⟨?_,by rw[T2,l,US]⟩
  clear any h
  induction ks generalizing G with
  |nil=>rfl
  |cons k ks a =>
   cases G with
   |nil=>cases l
   |cons x G =>
    rw[zip_cons_cons,map_cons,a (Nat.succ.inj l),zipWith_cons_cons,zip_cons_cons];by_cases h:k=j
    .rw[ZY h,ZY h]
    .rw[ZZ h,ZZ h]
 .rw[ZZ h,ZZ h,ZZ h];exact⟨by rw[List.zip_append l];rfl,by simp[l]⟩
def cA.kp{F:Hp}{j:bE}(r:Rep K F v t)(h:cA K F G W):cA K F (d6 ks G j v) (d6 ks W j t):=by
 unfold d6;by_cases z:T4 ks j
 .rw[ZY z,ZY z]
  clear z
  induction ks generalizing G W with
  |nil=>exact .nil
  |cons k ks c =>
   cases h with
   |nil=>exact .nil
   |cons a b =>
    rw[zipWith_cons_cons,zipWith_cons_cons];refine .cons ?_ (c b);by_cases y:k=j
    .rw[ZY y,ZY y];exact r
    .rw[ZZ y,ZZ y];exact a
 .rw[ZZ z,ZZ z];exact h.app (.cons r .nil)
def E3(i:Nat)(a b:RE):RS:=λE o=>match slot o i with|.d1 ks W=>a o λy=>b o λk=>∃j,iv (frz k)=some j/\ks.length<sizeLine/\E.nx (o.set i (.d1 (eX ks j) (d6 ks W j (frz y))))|_=>False
def SR.d1{K:Frag}{own:Nat->Ψ}{H:Hp}{I:L2.St}{o:xy}(h:SR K own H I o){i:Nat}{ks:xL}{W:xk}(e:slot o i=.d1 ks W):∃l G,I[i]?=some (some (.ref l))/\own i=[l]/\H l=some (.dK (ks.zip G))/\ks.length=G.length/\cA K (hd (Ow own) H) G W:=by
 obtain⟨u,d,l,G,c,b,a,r⟩:=h.val e nofun;cases c;exact⟨l,G,d,b,a,r⟩
variable{e b:Expr}{g:zn}{as:Ψ}
def Rv(i:Nat)(J:X.A.units+1<cLine)(M:QE X e re)(d:QE X b rb)(Q:autoParam (n_X X i x) zP2)
 (K:‹swapsWith e (some (.Subscript (.Name x p) b ay)) O.line X.env=pure false›):QS X (.Assign [.Subscript (.Name x p) b ay] e O) (E3 i re rb):=(_r J (pv i Q) d M K).imp λD I H P=>by
 obtain⟨own,o,E,h,a,L⟩:=P;unfold E3 at a;cases es:slot o i with
 |d1 ks W =>
  rw[es]at a;obtain⟨l,G,k,f,U,g,r⟩:=h.d1 es;refine tQ.mk h a λY v y q n t=>⟨_,k,tQ.mk (h.same n) q λH2 w z q m s=>?_⟩;obtain⟨j,T,sz,q⟩:=q;have c:=n.trans m;cases Ua s T;obtain⟨B,pl⟩:=adf (j:=j) (v:=v) g;have C:(ks.zip G).length<sizeLine:=by rw[VU,<- g,US];exact sz
  refine⟨l,_,rfl,.inl ⟨_,j,c _ _ U,rfl,C,rfl⟩,?_⟩;rw[B];obtain⟨R,S⟩:=(h.same c).chg (gA es nofun) (y:=.d1 (eX ks j) (d6 ks W j (frz y))) (H':=upd H2 l (.dK ((eX ks j).zip (d6 ks G j v)))) (λb u d e=>(bR λz=>d (by rw[f,z];simp)).trans e) (by
   rw[k,Hg ⟨i,by rw[f];simp⟩];exact⟨l,_,rfl,f,bY,pl,cA.kp (t.same (bZ m)) (r.same (bZ c))⟩)
  exact L.nx own _ I _ q ((bZ c).trans S) R
 |_=>rw[es]at a;exact a.elim
def EC(i:Nat)(a b:RE):RE:=λo q=>match slot o i with|.d1 ks W=>a o λy=>b o λz=>∃j,iv (frz y)=some j/\q (.fz ((qN ks W j).getD (frz z)))|_=>False
def _0(i:Nat){g:Pos}(F:X.A.units+1<cLine)(K:QE X a ra)(J:QE X b rb)(m:M2 X (.Name x p) "get" g a b af:=by first|exact⟨rfl,rfl,rfl,rfl⟩|constructor<;>rfl)(M:autoParam (n_X X i x) zP2) :
  QE X (.Call (.Attribute (.Name x p) "get" g) [a,b] [] af) (EC i ra rb):=(afG F (pv i M) K J m).imp λI H Q L=>by
 obtain⟨own,o,R,h,c,k⟩:=L;unfold EC at c;cases es:slot o i with
 |d1 ks W =>
  rw[es]at c;obtain⟨l,G,S,e3,f,Z,r⟩:=h.d1 es;refine⟨_,S,l,rfl,.inl ⟨_,.inl f⟩,tQ.mk h c λY v y q s D=>tQ.mk (h.same s) q λn w z q V C=>?_⟩;obtain⟨j,O,q⟩:=q;have e:=s.trans V;cases Ua D O;refine⟨_,G9.k (e _ _ f),?_⟩;have r:=r.same (bZ e);cases d:qN ks W j with
  |none =>
   rw[d]at q;rw[(Hv r).2 d];exact k n _ _ q e (NR.fz C)
  |some t =>
   rw[d]at q;obtain⟨u,P,B⟩:=(Hv r).1 t d;rw[P];exact k n _ _ q e (NR.fz B)
 |_=>rw[es]at c;exact c.elim
def kT:bE->T
 |.inl i=>.int i
 |.inr s=>.str s
def pq(f:xL->xk->xk)(i n:Nat)(g:zn)(c:RT)(e:RE):RS:=λE o=>match slot o i with
 |.d1 ks W=>ks.length<=sizeLine/\jL g c e (replicate n .und++o.set i (.fz (.dct ks W))) (f ks W) λZ=>E.rt (.l1 Z)
 |_=>False
def iW(J:Addr->Obj->xA->It)(c:TE):TI:=λI H R=>c I H λx Y=>∃a b,x=.ref a/\Y a=some (.dK b)/\∀o,R (J a o b) (upd Y a (.frz o (.dK b)))
abbrev SB:=pq λks _=>ks.map kT
def _W{a:Addr}{d:Obj}{F:Hp}(l:ks.length=G.length)(e:F a=some (.frz d (.dK (ks.zip G)))):iD K (ma a d (ks.zip G)) F (ks.map kT):=λS H i _ h=>by
 have f:=(cQ (h _ _ e)).2;have c:(ks.zip G).length=ks.length:=by rw[VU,<- l,US]
 refine⟨λhi=>⟨f,by rw[c];simpa using hi⟩,λt b=>?_⟩;rw[aq]at b;cases z:ks[i]? with
 |none=>rw[z]at b;cases b
 |some k =>
  rw[z]at b;cases b;have hi:=(ao.mp z).1;refine⟨⟨f,by rwa[c]⟩,?_⟩;rintro x H' ⟨rfl,m,y,g,rfl⟩;rw[aj (by rwa[c]),getElem_zip]at g;rw[aj hi]at z;cases z;cases g;refine⟨.refl _,?_⟩;cases ks[i]with
  |inl j=>exact .int _
  |inr s=>exact .str _
def ag2{c:Addr->Obj->xA->It}{f:xL->xk->xk}(i:Nat)(pi:PI X tg iter (iW c (WD i)))(U:∀{a p ks G W F},ks.length=G.length->F a=some (.frz p (.dK (ks.zip G)))->cA X.K F G W->iD X.K (c a p (ks.zip G)) F (f ks W)/\(f ks W).length=ks.length)(V:Scope)(N M G:Φ)(hg:∀{C d m A t},QG (X.compG M J G C d m A t) G.length tg g)(ht:∀{C d m A t},gX (X.compG M J G C d m A t) aE rc)(he:∀{C d m A t},QE (X.compG M J G C d m A t) bj re)
 (de:‹X.env.scope=V›)(di:‹X.N=N›)(hc:‹X.calm›)(hk:‹J.kind=.function›)(h:CK V J N M G:=by decide +kernel)(hs:zh X iter) :
  QS X (.Return (some (.ListComp bj [⟨tg,iter,aE,0⟩] J af)) O) (pq f i G.length g rc re):=(ud (Xg (gt:=gc X.K G.length g) (tc:=tQT X.K rc) (te:=tQ X.K re) V N M G pi hg ht he de di hc hk h hs)).imp λD I H Y=>by
 obtain⟨own,o,E,h,q,L⟩:=Y;unfold pq at q;cases es:slot o i with
 |d1 ks W =>
  rw[es]at q;obtain⟨l,ys,e1,R,e4,ln,r⟩:=h.d1 es;refine⟨_,e1,l,_,rfl,e4,λp DD nD=>?_⟩;have eo:∀b,Ow (own1 own i []) b->Ow own b/\b≠l:=λb Y=>by
   obtain⟨j,z⟩:=Y;by_cases y:j=i
   .rw[y,fB]at z;cases z
   .rw[dG y]at z;exact⟨⟨j,z⟩,λw=>y (h.dis j i b z (by rw[R,w];simp))⟩
  have Z:¬Ow (own1 own i []) l:=λz=>(eo l z).2 rfl;have ol:Ow own l:=⟨i,by rw[R];simp⟩;have T:zO (hd (Ow own) H) (hd (Ow (own1 own i [])) (upd H l (.frz p (.dK (ks.zip ys))))):=λb u e=>by
   obtain⟨n,e⟩:=cQ e;rw[cN λz=>n (eo b z).1,bR λ(z:b=l)=>n (z.symm ▸ ol)];exact e
  have h1:SR X.K (own1 own i []) (upd H l (.frz p (.dK (ks.zip ys)))) I (o.set i (.fz (.dct ks W))):=by
   have hi:i<o.length:=(ao.mp (gA es nofun)).1;refine⟨by rw[VZ,h.len],λj y S=>?_,λj hj a x=>?_,λj k a Q P=>?_⟩
   .by_cases z:j=i
    .subst z;rw[UZ hi]at S;cases S;rw[fB,e1];exact⟨rfl,_,rfl,.dct (.inr ⟨p,by rw[cN Z];exact bY⟩) ln (r.same T)⟩
    .rw[VT (Ne.symm z)]at S;rw[dG z];exact((h.sl j y S).same T (.refl _)).off λb hb u e=>(bR λw=>z (h.dis j i b hb (by rw[R,w];simp))).trans e
   .rw[VZ]at hj;rw[dG wE]at x;obtain⟨G,e⟩:=h.out j hj a x;exact⟨G,(bR λw=>by have:=h.dis j i a x (by rw[R,w];simp);lia).trans e⟩
   .by_cases z:j=i
    .rw[z,fB]at Q;cases Q
    by_cases y:k=i
    .rw[y,fB]at P;cases P
    .rw[dG z]at Q;rw[dG y]at P;exact h.dis j k a Q P
  have L1:=L.step T;obtain⟨U,wl⟩:=U ln (by rw[cN Z];exact bY) (r.same T);refine Yi h1 U (by rw[wl];exact q.1) q.2 nD λH' v y rx E n=>?_;obtain⟨B,nb,s⟩:=n;exact L1.rt _ H' v y B rx (g8 (λb z=>z.imp id (nb b)) E) s λa x=>.inr x
 |_=>rw[es]at q;exact q.elim
def agD(i:Nat)(j:Scope)(N f G:Φ)(q:∀{C a b d c},QG (X.compG f J G C a b d c) G.length tg g)(m:∀{C a b d c},gX (X.compG f J G C a b d c) aE rc)(r:∀{C a b d c},QE (X.compG f J G C a b d c) bj re)
 (t:autoParam (n_X X i x) zP2)
 (v:‹X.env.scope=j›)(u:‹X.N=N›)(s:‹X.calm›)(o:‹J.kind=.function›)(h:CK j J N f G:=by decide +kernel)(n:∀z,foldedSetIterable (.Name x p) X.env z=pure z:=by intro _;rfl) :
  QS X (.Return (some (.ListComp bj [⟨tg,.Name x p,aE,0⟩] J af)) O) (SB i G.length g rc re):=ag2 i (ahO (tg:=tg) (pv i t)) (λl e _=>⟨_W l e,by rw[ak]⟩) j N f G q m r v u s o h n
def ni(K:Frag)(as:Ψ)(H:Hp)(b:we):Prop:=b.length=as.length/\∀(j:Nat)a W,as[j]?=some a->b[j]?=some W->∃G,H a=some (.lst G)/\cA K (hd (· ∈ as) H) G W
abbrev SO:=we->xk->(we->Prop)->Prop
def gl(K:Frag)(S:SO):Sp:=λc H Q _=>∃(as:Ψ)(a:we)(Z:Ζ)(W:xk)(R:we->Prop),c=as.map V.ref++Z/\as.Nodup/\ni K as H a/\cA K (hd (· ∈ as) H) Z W/\S a W R /\
 ∀H' b,R b->zO (hd (· ∈ as) H) (hd (· ∈ as) H')->ni K as H' b->Q .non H'
def ownL(as:Ψ)(i:Nat):Ψ:=match as[i]? with|some a=>[a]|none=>[]
def Kf{b:Addr}(h:b∈ownL as i):as[i]?=some b:=by
 unfold ownL at h;cases e:as[i]? with
 |none=>rw[e]at h;cases h
 |some a=>rw[e]at h;cases YR.mp h;rfl
def HU{b:Addr}(h:as[i]?=some b):ownL as i=[b]:=by unfold ownL;rw[h]
def Ow.ownL(as:Ψ):Ow (L2.ownL as)=(· ∈ as):=funext λb=>propext ⟨λ⟨i,z⟩=>aC (Kf z),λz=>by
 obtain⟨i,e⟩:=aV z;exact⟨i,by rw[HU e];simp⟩⟩
def startO(n:Nat)(as:Ψ)(a:we)(W:xk):xy:=zipWith OT.la as a++start' (n-as.length) W
def SR.startO{H:Hp}{as:Ψ}{a:we}{Z:Ζ}{W:xk}(p:as.Nodup)(h:ni K as H a)(r:cA K (hd (· ∈ as) H) Z W)(N:Φ)(u:as.length+Z.length<=N.length):SR K (ownL as) H (L2.start N (as.map V.ref++Z)) (L2.startO N.length as a W):=by
 have c:(zipWith OT.la as a).length=as.length:=by rw[T2,h.1,US]
 refine⟨?_,λi x e=>?_,λi hi b s=>?_,λi j b g t=>qj p (Kf g) (Kf t)⟩
 .unfold L2.startO start' L2.start;have:=r.len;simp only[aA,ak,aN,c];lia
 .rw[Ow.ownL];unfold L2.startO at e;unfold L2.start;by_cases hi:i<as.length
  .rw[aF (by rwa[c]),List.getElem?_zipWith]at e;have f:=aj hi;have k:=aj (l:=a) (by rwa[h.1]);rw[f,k]at e;cases e;rw[HU f,aF (by simp;exact WS _ hi),aq,aF (by simpa using hi),aq,f];obtain⟨G,q,m⟩:=h.2 i _ _ f k;exact⟨G,rfl,rfl,q,m⟩
  .have o:ownL as i=[]:=by unfold ownL;rw[aM (Nat.not_lt.mp hi)]
   rw[o];rw[aD (by rw[c];exact Nat.not_lt.mp hi),c]at e;unfold start' at e;by_cases d:i-as.length<W.length
   .rw[aF (by simpa using d),aq,aj d]at e;cases e;obtain⟨v,g,n⟩:=r.at_ (aj d);have:=r.len;rw[aF (by simp;lia),aq,aD (by simpa using Nat.not_lt.mp hi),ak,g];exact⟨rfl,v,rfl,n⟩
   .rw[aD (by simpa using d),ak,X1]at e;split at e
    .cases e;rfl
    .cases e
 .unfold L2.startO at hi;rw[aA,c]at hi;have:=(ao.mp (Kf s)).1;lia
theorem slot_of:∀{o:xy}{i:Nat}{x:OT},o[i]?=some x->slot o i=x
 |[],_,_,e=>by cases e
 |_::_,0,_,e=>by cases e;rfl
 |_::l,i+1,x,e=>slot_of (o:=l) (by simpa using e)
variable{S:SO}{p1:Pos}
def Fun.okO{B:Str}{N:Φ}(F:Fun K x B st f fd)(D:bK N ps (bH st))(i:∀c W R,S c W R->c.length+W.length=ps.length)(hn:ps.length<=N.length)
 (bo:∀(p:Value)(A:Around)(d:xa)(s:Shared)(H:Hp)(E:XK),eN k (A.deeper (envOfC B (bH st) s.zs f p))->N.Nodup ->
   ∃r,er (Gr bc P w K mg base N B (bH st) f p A d s H E).nox (fP st) r/\∀as c W R,c.length=as.length->S c W R->r { nx:=λo=>∃g,(∀j,slot o j=slot (zipWith OT.la as g) j\/as.length<=j)/\g.length=as.length/\R g,rt:=λ_=>False } (startO N.length as c W)):fX P w K mg base bc (k+1) f fd ps (gl K S):=by
 refine F.ok D (λL H Q E h=>?_) λp A d s H L Q E V h=>?_
 .obtain⟨as,c,Z,W,R,rfl,_,l,r,m,_⟩:=h;rw[aA,ak,<- l.1,r.len];exact i _ _ _ m
 .obtain⟨as,c,Z,W,R,rfl,T,l,r,m,q⟩:=h;obtain⟨rd,Y,X⟩:=bo p A d s H E V D.nd;have M:=SR.startO T l r N (by rwa[<- l.1,r.len,i _ _ _ m]);refine⟨_,Y,_,_,_,M,X as c W R l.1 m,⟨λown H' I o v E h=>?_,λ_ _ _ _ _ z=>z.elim,λ_ _ _ _ z=>z.elim,λ_ _ _ _ z=>z.elim,λ_ _ _ _ _ _ z=>z.elim⟩⟩;obtain⟨g,es,C,v⟩:=v;rw[Ow.ownL]at E;have J:∀(j:Nat)a t,as[j]?=some a->g[j]?=some t->slot o j=.la a t:=λj a t n y=>by
   rcases es j with z|z
   .rw[z];exact slot_of (by rw[List.getElem?_zipWith,n,y])
   .exact absurd (ao.mp n).1 (Nat.not_lt.mpr z)
  have sub:zO (hd (Ow own) H') (hd (· ∈ as) H'):=g8 (λb z=>.inl (by
   obtain⟨j,e⟩:=aV z;have U:j<g.length:=C ▸ (ao.mp e).1;obtain⟨u,_,G,_,e3,_⟩:=h.val (J j b _ e (aj U)) nofun;exact⟨j,by rw[e3];simp⟩)) λ_ _ z=>z
  refine q H' g v (E.trans sub) ⟨C,λj a t n y=>?_⟩;obtain⟨u,_,G,_,_,e4,O⟩:=h.val (J j a t n y) nofun;exact⟨G,e4,O.same sub⟩
def FM(h:SR K own H I o)(l:∀a∈as,∃j,own j=[a]):ml H (λb=>Ow own b/\b∉as)/\∀H':Hp,hd (· ∈ as) (hd (λb=>Ow own b/\b∉as) H')=hd (Ow own) H':=by
 have c:∀{b x:Addr}{j:Nat},b∈own j->b∉as->x∈own j->x∉as:=λ{b x j}m n i z=>by
  obtain⟨k,g⟩:=l x z;have:=h.dis j k x i (by rw[g];simp);subst this;rw[g]at m i;cases YR.mp m;exact n z
 refine⟨⟨λb z=>h.sole z.1,λb C d f ⟨⟨j,z⟩,n⟩ e=>⟨⟨j,(h.mate z).1 C d f e⟩,c z n ((h.mate z).1 C d f e)⟩,λb x ⟨⟨j,z⟩,n⟩ e=>⟨⟨j,(h.mate z).2 x e⟩,c z n ((h.mate z).2 x e)⟩⟩,λH'=>funext λb=>?_⟩;by_cases z:b∈as
 .obtain⟨k,g⟩:=l b z;rw[rA z,rA ⟨k,by rw[g];simp⟩]
 .rw[cN z];by_cases y:Ow own b
  .rw[rA (⟨y,z⟩ : Ow own b/\b∉as),rA y]
  .rw[cN (λw=>y w.1),cN y]
def NE(i:Nat)(S:SO)(r:RA):RS:=λE o=>hE (slot o i) λW c=>r o λas=>S [W] as λa=>match a with|[t]=>E.nx (o.set i (c t))|_=>False
def UE(i:Nat){y:Str}(d:e_ X.prog X.w X.K X.mg X.base k x ps (gl X.K S))(v:QA X es r)(g:eN k X.A:=by exact eN.mono (by assumption) wP)(hg:‹Gl X x›)(hN:autoParam (n_X X i y) zP2)(bS:autoParam (zz x) zP4)
 (C:‹starEach (.Name y p1::es) X.env=(false,eval (.Name y p1) X.env)::starEach es X.env›)(a8:‹zg X af es›)(hs:‹swapsWith (.Call (.Name x p) (.Name y p1::es) [] af) none O.line X.env=pure false›):QS X (.Expr (.Call (.Name x p) (.Name y p1::es) [] af) O) (NE i S r):=by
 obtain⟨f,fd,F,b,hm,kp⟩:=d;refine(gO (j9 (sp:=hU (gl X.K S)) ⟨f,fd,F.hid,b,hm,kp⟩ g hg (cj (pv i hN) v C) bS C a8) hs).imp λD I H hP=>?_;obtain⟨own,o,E,h,g,L⟩:=hP;obtain⟨W,c,g,es⟩:=Hs g;obtain⟨l,G,Q,P,e3,r0,V⟩:=h.l1 es;refine⟨_,Q,tQA.mk h g λY U as q _ m r1=>?_⟩;have J:=h.same m;obtain⟨hid,eg⟩:=FM J (as:=[l]) λa v=>⟨i,by rwa[YR.mp v]⟩;have nl:¬(Ow own l/\l∉[l]):=λz=>z.2 vz;refine⟨_,hid,[l],[W],U,as,_,rfl,by simp,⟨rfl,λj a t M et=>?_⟩,by rw[eg];exact r1,q,λd br n T s R=>?_⟩
 .cases j with
  |zero=>cases M;cases et;exact⟨G,(cN nl).trans (m _ _ e3),by rw[eg];exact r0.same (bZ m)⟩
  |succ j=>cases M
 .match br,n,s with
  |[t],n,s =>
   obtain⟨ys,ey,Z⟩:=s.2 0 l t rfl rfl;rw[eg]at T;have B:∀{b:Addr}{u:HO},d b=some u->dA (λb=>Ow own b/\b∉[l]) Y d b=some u:=λ{b u}e=>(mG λz=>by rw[R b z]at e;cases e).trans e;obtain⟨x,ex⟩:=Nb es;obtain⟨h',S'⟩:=J.chg ex (y:=c t) (H':=dA (λb=>Ow own b/\b∉[l]) Y d) (λb u hb e=>by
    by_cases z:Ow own b
    .rw[zL ⟨z,λy=>hb (by rwa[P])⟩];exact e
    .exact B (cQ (T b u ((cN z).trans e))).2) (by
    rw[Q,P];refine V _ ys t (B ey) (Z.same λb u e=>?_);obtain⟨n1,e⟩:=cQ e;rw[cN λz=>by rw[R b ⟨z,n1⟩]at e;cases e];exact B e)
   exact L.nx own _ I _ n ((bZ m).trans S') h'
def OX(i j:Nat)(S:SO)(r:RA):RS:=λE o=>hE (slot o i) λW c=>hE (slot o j) λZ d=>r o λas=>S [W,Z] as λa=>match a with|[t,u]=>E.nx ((o.set i (c t)).set j (d u))|_=>False
def Lr(i j:Nat){y z:Str}(g:e_ X.prog X.w X.K X.mg X.base k x ps (gl X.K S))(v:eN k X.A)(hg:Gl X x)(ha:QA X es r)(kq:autoParam (i≠j) zP4)(hN:autoParam (n_X X i y) zP2)(hN2:autoParam (n_X X j z) zP2)(bS:autoParam (zz x) zP4)
 (he:‹starEach (.Name y p1::.Name z p2::es) X.env=(false,eval (.Name y p1) X.env)::starEach (.Name z p2::es) X.env›)(he2:‹starEach (.Name z p2::es) X.env=(false,eval (.Name z p2) X.env)::starEach es X.env›)(a8:‹(backTo af (starEach (.Name z p2::es) X.env)).any (·.1)=false›)(hs:‹swapsWith (.Call (.Name x p) (.Name y p1::.Name z p2::es) [] af) none O.line X.env=pure false›):QS X (.Expr (.Call (.Name x p) (.Name y p1::.Name z p2::es) [] af) O) (OX i j S r):=by
 obtain⟨f,fd,F,b,hm,kp⟩:=g;refine(gO (j9 (sp:=hU (gl X.K S)) ⟨f,fd,F.hid,b,hm,kp⟩ v hg (cj (pv i hN) (cj (pv j hN2) ha he2) he) bS he a8) hs).imp λD I H hP=>?_;obtain⟨own,o,E,h,v,L⟩:=hP;obtain⟨W,c,v,es⟩:=Hs v;obtain⟨Z,d,v,Q⟩:=Hs v;obtain⟨l,G,e1,e2,e3,r0,sl⟩:=h.l1 es;obtain⟨m,zs,f1,f2,f3,s0,V⟩:=h.l1 Q;have lm:l≠m:=λz=>kq (h.dis i j l (by rw[e2];simp) (by rw[f2,z];simp));refine⟨_,e1,_,f1,tQA.mk h v λY vs as q _ C r1=>?_⟩;have h1:=h.same C;obtain⟨hid,eg⟩:=FM h1 (as:=[l,m]) λa ha=>by
  rcases YU.mp ha with z|z
  .exact⟨i,by rwa[z]⟩
  .exact⟨j,by rwa[YR.mp z]⟩
 have nl:¬(Ow own l/\l∉[l,m]):=λz=>z.2 vz;have nm:¬(Ow own m/\m∉[l,m]):=λz=>z.2 vz;refine⟨_,hid,[l,m],[W,Z],vs,as,_,rfl,by simp[lm],⟨rfl,λj a t B P=>?_⟩,by rw[eg];exact r1,q,λg br rx EE U bu=>?_⟩
 .match j,B,P with
  |0,B,P=>cases B;cases P;exact⟨G,(cN nl).trans (C _ _ e3),by rw[eg];exact r0.same (bZ C)⟩
  |1,B,P=>cases B;cases P;exact⟨zs,(cN nm).trans (C _ _ f3),by rw[eg];exact s0.same (bZ C)⟩
  |j+2,B,_=>cases B
 .match br,rx,U with
  |[t,u],rx,U =>
   obtain⟨ys,ey,ry⟩:=U.2 0 l t rfl rfl;obtain⟨ws,ew,o0⟩:=U.2 1 m u rfl rfl;rw[eg]at EE;have R:∀{b:Addr}{u:HO},g b=some u->dA (λb=>Ow own b/\b∉[l,m]) Y g b=some u:=λ{b u}e=>(mG λz=>by rw[bu b z]at e;cases e).trans e;generalize hM:dA (λb=>Ow own b/\b∉[l,m]) Y g=M at R;have J:∀b u,b≠l->b≠m->Y b=some u->M b=some u:=λb u T n2 e=>by
    by_cases z:Ow own b
    .rw[<- hM,zL ⟨z,by simp[T,n2]⟩];exact e
    .exact R (cQ (EE b u ((cN z).trans e))).2
   have s:∀(M':Hp),(∀b,b≠m->M' b=M b)->zO (hd (· ∈ [l,m]) g) (hd (Ow own) M'):=λM' hM' b u e=>by
    obtain⟨T,e⟩:=cQ e;rw[cN (λz=>by rw[bu b ⟨z,T⟩]at e;cases e),hM' b λz=>T (by simp[z])];exact R e
   obtain⟨x,ex⟩:=Nb es;obtain⟨x2,nv⟩:=Nb Q;obtain⟨h2,S2⟩:=h1.chg ex (y:=c t) (H':=upd M m (.lst zs)) (λb u hb e=>by
    by_cases z:b=m
    .rw[z,bY];rw[z,C _ _ f3]at e;exact e
    .rw[bR z];exact J b u (λy=>hb (by rw[e2,y];simp)) z e) (by
    rw[e1,e2];exact sl _ ys t ((bR lm).trans (R ey)) (ry.same (s _ λb n=>bR n)))
   obtain⟨h3,S3⟩:=h2.chg (show(o.set i (c t))[j]?=some x2 by rwa[VT kq]) (y:=d u) (H':=M) (λb w hb e=>by rw[bR λz=>hb (by rw[f2,z];simp)]at e;exact e) (by
    rw[f1,f2];exact V _ ws u (R ew) (o0.same (s _ λ_ _=>rfl)))
   exact L.nx own _ I _ rx ((bZ C).trans (S2.trans S3)) h3
def N7(g:zn)(c:RT)(e:RE)(o:xy):xk->(we->Prop)->Prop
 |[],q=>q []
 |t::W,q=>∃(N:xk->Prop)(M:Prop),(∀y,N y->N7 g c e o W λZ=>q (y::Z))/\(M->N7 g c e o W q)/\g t o λa=>c a λb=>sw b (e a λy=>match y with|.l1 Z=>N Z|_=>False) M
def pE(a:RI)(n:Nat)(g:zn)(c:RT)(e:RE):RE:=λo q=>a o λG=>G.length<=sizeLine/\N7 g c e (replicate n .und++o) G λZ=>q (.l2 Z)
def acf{J:It}{G:xk}(h1:SR K own Y I o)(wk:iD K J (hd (Ow own) Y) G)(lx:G.length<=sizeLine)(q:N7 g rc re (replicate n .und++o) G λZ=>R (.l2 Z))(nD:Y D=none)(k:∀H' v x,R x->zO Y H'->NR K (Ow own) Y H' v x->Q v H') :
  ∃d:Nat->Nat->Ζ->Hp->Prop,(∃m,d 0 m [] (upd Y D (.lst [])))/\∀i m ys l,d i m ys l ->
   (J.stop i l/\Q (.ref D) l)\/(J.go i l/\∀x H',J.yld i l x H'->∀r:L2.St,r.length=n->fo (gc K n g) x (r++I) H' λA H2=>∃bP:L2.St,bP.length=n/\A=bP++I/\fm (tQT K rc) A H2 λb P =>
    match b with
    |true=>tM (tQ K re) A P λy H4=>ys.length<sizeLine/\H4 D=some (.lst ys)/\∃X,X<m/\d (i+1) X (ys++[y]) (upd H4 D (.lst (ys++[y])))
    |false=>∃X,X<m/\d (i+1) X ys P):=by
 generalize hO:replicate n OT.und++o=ob at q;refine⟨λi m ys l=>∃(f:Ψ)(h:we),ys=f.map V.ref/\l D=some (.lst ys)/\zO Y l/\(D::f).Nodup/\(∀b∈f,Y b=none)/\f.length=h.length/\(∀(i:Nat)b W,f[i]?=some b->h[i]?=some W->∃G,l b=some (.lst G)/\cA K (hd (λb=>Ow own b\/b∈D::f) l) G W)/\ys.length<=i/\i<=G.length/\m=G.length-i/\N7 g rc re ob (G.drop i) λZ=>R (.l2 (h++Z)),⟨_,[],[],rfl,bY,zO.upd nD,by simp,λ_ z=>(nomatch z),rfl,(λi b W e=>by cases e),aG _,aZ _,rfl,q⟩,?_⟩;rintro i m ys l ⟨f,h,rfl,eD,F,nd,nb,bl,U,il,ix,rfl,w⟩;have nA:∀a∈D::f,Y a=none:=λa C=>by
  rcases YU.mp C with z|z
  .rw[z];exact nD
  .exact nb a z
 have eA:∀a∈D::f,∃ys,l a=some (.lst ys):=λa C=>by
  rcases YU.mp C with z|z
  .exact⟨_,z ▸ eD⟩
  .obtain⟨j,e⟩:=aV z;have lj:=(ao.mp e).1;obtain⟨O,s,_⟩:=U j a _ e (aj (aR lj (WH bl)));exact⟨O,s⟩
 have hn:∀b,Ow own b\/b∈D::f->l b≠none:=λb z=>z.elim (λz=>((h1.same F).sole z).ne) λe z=>by obtain⟨ys,ey⟩:=eA b e;rw[ey]at z;cases z
 have SD:zO (hd (Ow own) Y) (hd (λb=>Ow own b\/b∈D::f) l):=g8 (λb z=>z.imp id (nA b)) F;obtain⟨w1,w2⟩:=wk (λb=>Ow own b\/b∈D::f) l i hn SD;by_cases hi:i<G.length
 .right;obtain⟨go,yl⟩:=w2 _ (aj hi);rw[jk hi]at w;obtain⟨N,M,hN,hM,w⟩:=w;refine⟨go,λx H2 y r hp=>?_⟩;obtain⟨L,rx⟩:=yl x H2 y;have eO:(λb=>Ow own b\/b∈D::f)=Ow (ownL2 n o.length own (D::f)):=funext λb=>propext Ow.ownL2.symm;have hb:SR K (ownL2 n o.length own (D::f)) H2 (r++I) ob:=by
   have:=h1.blockL (F.trans L) nA (λa C=>let⟨ys,e⟩:=eA a C;⟨ys,L _ _ e⟩) r;rw[hp,hO]at this;exact this
  rw[eO]at rx U;refine⟨_,⟨ownL2 n o.length own (D::f),ob,_,_,hb,rx,w,λf6 σ3 o3 q3 j1 h3=>?_⟩,λ_ _ z=>z⟩;obtain⟨bP,eh,rfl⟩:=Xa hp j1;have e3:f6=ownL2 n o.length own (D::f):=funext λj=>by
   rcases j1.1 j with e|⟨t,s⟩
   .exact e
   .rw[s];unfold ownL2;rw[ZY t]
  subst e3;refine⟨bP,eh,rfl,_,tQT.mk h3 q3 λP b q4 T=>?_,λ_ _ z=>z⟩;have q4:sw b (re o3 λy=>match y with|.l1 Z=>N Z|_=>False) M:=q4;cases b with
  |false=>exact⟨G.length-(i+1),by omega,f,h,rfl,T _ _ (L _ _ eD),F.trans (L.trans T),nd,nb,bl,λj b W t s=>by
    obtain⟨O,ez,rz⟩:=U j b W t s;rw[eO];exact⟨O,T _ _ (L _ _ ez),rz.same (bZ (L.trans T))⟩,by exact aL il (X9 _ _),by exact hi,rfl,hM q4⟩
  |true =>
   refine⟨_,⟨_,_,_,h3.same T,q4,λH4 v y q5 E4 r4=>?_⟩,λ_ _ z=>z⟩
   match y,q5,r4 with
   |.l1 Z,q5,r4 =>
    obtain⟨B,nB,p,O,ev,rfl,ep,rp⟩:=r4;cases ev;have np:P p=none:=nB p vz;have pn:∀{a:Addr}{u:HO},P a=some u->a≠p:=λe z=>by rw[z,np]at e;cases e
    have E:zO l P:=L.trans T;have pD:D≠p:=pn (E _ _ eD);have pb:p∉f:=λz=>by
     obtain⟨ys,ey⟩:=eA p (aJ _ z);exact pn (E _ _ ey) rfl
    have inD:∀(H:Hp)(u:HO),hd (λb=>Ow own b\/b∈D::(f++[p])) (upd H D u)=hd (λb=>Ow own b\/b∈D::(f++[p])) H:=λH u=>Hg (S:=λb=>Ow own b\/b∈D::(f++[p])) (.inr vz);refine⟨by omega,E4 _ _ (E _ _ eD),G.length-(i+1),by omega,f++[p],h++[Z],by rw[bf];rfl,bY,λb u e=>?_,?_,λb hb=>?_,by simp[bl],λj b W t s=>?_,by rw[aA,length_singleton];exact succ_le_succ il,by exact hi,rfl,?_⟩
    .rw[bR λz=>by rw[z,nD]at e;cases e];exact E4 _ _ (E _ _ (F _ _ e))
    .rw[<- cons_append];exact List.nodup_append.mpr ⟨nd,by simp,λa C c hc z=>by
      rw[YR.mp hc]at z;rcases YU.mp C with y|y
      .exact pD (y.symm.trans z)
      .exact pb (z ▸ y)⟩
    .rcases Y1.mp hb with z|z
     .exact nb b z
     .rw[YR.mp z];exact(F.trans E).free np
    .rw[inD];by_cases hj:j<f.length
     .rw[aF hj]at t;rw[aF (aR hj (WH bl))]at s;obtain⟨O,ez,rz⟩:=U j b W t s;have bD:b≠D:=λz=>(List.nodup_cons.mp nd).1 (z ▸ aC t);refine⟨O,by rw[bR bD];exact E4 _ _ (E _ _ ez),rz.same ?_⟩;rw[<- eO];exact g8 (λc z=>by
       rcases z with z|z
       .exact .inl (.inl z)
       .rw[<- cons_append]at z;rcases Y1.mp z with y|y
        .exact .inl (.inr y)
        .rw[YR.mp y];exact .inr (E.free np)) (E.trans E4)
     .rw[aD (VX hj)]at t;rw[aD wE]at s;have j0:j-f.length=0:=by
       have:=(ao.mp t).1;simp at this;omega
      rw[j0]at t;rw[show j-h.length=0 by lia]at s;cases t;cases s;refine⟨_,by rw[bR (Ne.symm pD)];exact ep,rp.same (g8 (λc z=>.inl ?_) λ_ _ z=>z)⟩;rcases z with z|z
      .exact .inl (Ow.ownL2.mpr (.inl z))
      .rw[<- cons_append]at z;rcases Y1.mp z with y|y
       .exact .inl (Ow.ownL2.mpr (.inr y))
       .exact .inr y
    .have:=hN _ q5;simp only[WV,List.singleton_append];exact this
 .left;have:i=G.length:=by lia
  refine⟨w1 this,?_⟩;rw[TK (VX hi)]at w;have w:R (.l2 (h++[])):=w;rw[append_nil]at w;exact k l _ _ w F ⟨D::f,nA,D,f,rfl,rfl,nd,eD,bl,U⟩
def IJ(h:tQ K (pE ri n g rc re) I H Q):oX (iO K ri) n (fo (gc K n g)) (fm (tQT K rc)) (tM (tQ K re)) I H Q:=by
 obtain⟨own,o,R,h,e,k⟩:=h;exact⟨own,o,_,h,e,λY J G q a b D d=>acf (h.same a) b q.1 q.2 d λH' v x c E n=>k H' v x c (a.trans E) (n.back a)⟩
def ae6:=@zA X tg iter bj aE ri g rc re J O pE IJ
def HR{a f:Pos}:=@zK X tg iter bj aE ri g rc re J O i0 y0 a f (λi r n g c e=>nh i (pE r n g c e)) λ{_ i0 _ _ _ _ _ _ _ _}⟨own,o,E,h,b,L⟩=>IJ ⟨own,o,_,h,b,λH' v y q S n=>by
 obtain⟨j,d,k⟩:=h.putA S n i0;exact L.nx j H' _ _ q k d⟩
theorem Hy{α:Type}(h:α->T)(f:α->xk){c:RT}{e:RE}{o:xy} : ∀(l:List α){q:we->Prop},(∀a∈l,∀(N:xk->Prop)(M:Prop),N (f a)->g (h a) o λd=>c d λb=>sw b (e d λy=>match y with|.l1 Z=>N Z|_=>False) M)->q (l.map f)->N7 g c e o (l.map h) q
 |[],_,_,k=>k
 |a::l,q,st,k=>⟨λy=>y=f a,False,λy z=>Hy h f l (λa i=>st a (aJ _ i)) (z ▸ k),False.elim,st a (aO ..) (λy=>y=f a) False rfl⟩
def Yn{e:RE}{q:we->Prop}(f:Nat->xk)(n:Nat)(st:∀k,k<n->∀(N:xk->Prop)(M:Prop),N (f k)->g (.int (k:Nat)) o λd=>c d λb=>sw b (e d λy=>match y with|.l1 Z=>N Z|_=>False) M)(k:q ((range n).map f)):N7 g c e o (rng 0 n) q:=by
 refine Hy (λk:Nat=>.int (0+k)) f (range n) (λa h N M i=>?_) k;have:=st a (List.mem_range.mp h) N M i;show g (.int (0+((a:Nat):Int))) o _;rw[show(0:Int)+((a:Nat):Int)=((a:Nat):Int)by exact Int.zero_add _];exact this
abbrev Kq(f:Β):PyData:=.tuple [.int f.1,.int f.2]
abbrev kr(f:Β):T:=.tup [.int f.1,.int f.2]
def _A(K:Frag):V->Ζ->Hp->VK->Prop:=λx c H Q=>∃(l:Addr)(b:V)(G:Ζ)(a:Γ)(f:Β)(j:Nat),x=.ref l/\c=[b]/\H l=some (.lst G)/\G.length=a.length/\(∀(i:Nat)x g,G[i]?=some x->a[i]?=some g->iM K H x (Kq g))/\iM K H b (Kq f)/\G.length<=sizeLine/\a[j]?=some f/\(∀i g,i<j->a[i]?=some g->g≠f)/\Q (.int (j:Nat)) H
open Classical in
def n'(h:Heap)(f:Β)(v:Value):Bool:=decide (∃as,Reads h v (Kq f) as)
open Classical in
def Sh{h:Heap}{v:Value}{g f:Β}(r:Reads h v (Kq g) as):n' h f v=(decide (g.1=f.1)&&decide (g.2=f.2)):=by
 unfold n';by_cases e:g=f
 .subst e;rw[Zs ⟨as,r⟩,Zs rfl,Zs rfl];rfl
 .have i:¬∃as,Reads h v (Kq f) as:=λ⟨j,z⟩=>e (by
   have:=SeqAt.Reads.unique _ _ _ _ _ rfl r z;injection this with this;injection this with b a;injection a with a;injection b with b;injection a with a;exact Prod.ext b a)
  rw[Zp i];by_cases d:g.1=f.1
  .by_cases c:g.2=f.2
   .exact absurd (Prod.ext d c) e
   .rw[Zp c,Bool.and_false]
  .rw[Zp d,Bool.false_and]
def acG(hu:X.A.units+64<cLine):jY X "list.index" (_A X.K):=by
 intro U s I H x vs v Z Q a M N h;obtain⟨l,b,G,w,f,j,rfl,rfl,W,lf,fl,Y,S,J,O,q⟩:=h;cases M;obtain⟨u,rfl,p⟩:=N.one;obtain⟨bs,rb⟩:=a.readsK Y p;obtain⟨z,c,n,r,k9,e⟩:=a.lstM W;have lr:=r.length;have t:∀(i:Nat)(hi:i<c.toArray.size),∃g as,w[i]?=some g/\Reads s.heap c.toArray[i] (Kq g) as:=λi hi=>by
  rw[aX]at hi;have E:G[i]?=some (G[i]' wE):=aj _;have L:w[i]?=some (w[i]' wE):=aj _;obtain⟨u,eu,p⟩:=r.get E;obtain⟨as,ra⟩:=a.readsK (fl i _ _ E L) p;refine⟨_,as,L,?_⟩;rwa[List.getElem_toArray,(ao.mp eu).2]
 have lj:=(ao.mp J).1;have B:j<c.toArray.size:=by rw[aX];lia
 rw[sizeLine_eq]at S;refine call_meets F.slot_list_index ⟨_,e,rfl⟩ F.entry_list_index (F.args_list_index_2 _ _) (SeqAt.list_indexAt l c.toArray n _ _ _ (n' s.heap f) j B wE ?_ λm V R=>?_) ⟨e,λy T=>?_,⟨.int _,H,a.tok _,⟨_,rfl⟩,q⟩⟩
 .obtain⟨g,as,o,k⟩:=t j B;rw[J]at o;cases o;rw[Sh k,Zs rfl,Zs rfl];rfl
 .obtain⟨g,as,o,k⟩:=t m V;have P:=O m g R o;rw[Sh k];by_cases D:g.1=f.1
  .by_cases C:g.2=f.2
   .exact absurd (Prod.ext D C) P
   .rw[Zp C,Bool.and_false]
  .rw[Zp D,Bool.false_and]
 .obtain⟨i,hi,ei⟩:=Array.getElem_of_mem T;obtain⟨g,as,o,k⟩:=t i hi;rw[<- ei,Sh k,<- ov];exact SeqAt.eqAt_reads _ _ _ _ _ _ _ _ k rb rfl rfl (by
   have d:(Kq g).depth<=3:=U1 rfl;have m:=Nat.min_le_left (Kq g).depth (Kq f).depth;show X.A.units+1+min (Kq g).depth (Kq f).depth<cLine;lia)
def MT(a:RE)(r:RA):RE:=λo q=>a o λx=>match frz x with
 |.lst W=>r o λZ=>∃(b:Γ)(f:Β)(j:Nat),W=b.map kr/\Z=[kr f]/\b.length<=sizeLine/\b[j]?=some f/\(∀i g,i<j->b[i]?=some g->g≠f)/\q (.fz (.int (j:Nat)))
 |_=>False
def SV{o:Expr}{n:Pos}(D:X.A.units+64<cLine)(L:QE X o ra)(P:QA X [e] r)(O:‹attributeBase o "index" X.env (eval o X.env)=eval o X.env›)
 (N:‹zo X af e›)
 (M:‹zC n af›)(E:‹zw X e []›)(K:‹zg X af []›) :
  QE X (.Call (.Attribute o "index" n) [e] [] af) (MT ra r):=by
 refine(o9 PySem.F.plainAttrs_list PySem.F.slot_list_index PySem.F.type_list_index (acG D) L.mono P.mono O N M E K).imp λI H Q S=>?_;obtain⟨own,o,R,h,J,k⟩:=S;refine⟨_,tQ.mk h J λY v x q t d=>?_,λ_ _ z=>z⟩;cases a:frz x with
 |lst W =>
  rw[a]at q d;obtain⟨p,G,rfl,e,b⟩:=d.lstI;refine⟨.inl ⟨rfl,_,SqL.of (dh _ _ e)⟩,_,tQA.mk (h.same t) q λs vs Z q2 _ c B=>?_,λ_ _ z=>z⟩;obtain⟨l,f,j,rfl,rfl,lf,T,C,q3⟩:=q2;obtain⟨y,rfl,u⟩:=B.one;have V:zO (hd (Ow own) Y) s:=(bZ c).trans dh;refine⟨p,y,G,l,f,j,rfl,rfl,c _ _ (dh _ _ e),by rw[b.len,ak],λi x g a U=>?_,(u.shows _ rfl rfl).same dh,by rw[b.len,ak];exact lf,T,C,k s _ _ q3 (t.trans c) (NR.fz (.int _))⟩;obtain⟨v,m,w⟩:=b.at_ (show(l.map kr)[i]?=some (kr g)by rw[aq,U];rfl);rw[a]at m;cases m;exact(w.shows _ rfl rfl).same V
 |_=>rw[a]at q;exact q.elim
theorem cA.strs{K:Frag}{F:Hp} : ∀{G:Ζ}{ys:Φ},cA K F G (ys.map T.str)->G=ys.map V.str
 |_,[],h=>by cases h;rfl
 |_,y::ys,h=>by
  cases h with
  |cons a b =>
   cases a;rw[cA.strs b];rfl
def LA(a:RE)(r:RA):RE:=λo q=>a o λx=>match frz x with
 |.str s=>r o λZ=>∃ys:Φ,Z=[.lst (ys.map T.str)]/\(ys.map (·.length)).sum+ys.length*s.length<=16777216/\q (.fz (.str (Txt.join s ys)))
 |_=>False
def agu{o:Expr}{c:Pos}(t:QE X o ra)(A:QA X [e] r)(z:‹attributeBase o "join" X.env (eval o X.env)=eval o X.env›)
 (w:‹zo X af e›)
 (u:‹zC c af›)(l:‹zw X e []›)(n:‹zg X af []›) :
  QE X (.Call (.Attribute o "join" c) [e] [] af) (LA ra r):=by
 refine(Rq PySem.F.slot_str_join PySem.F.type_str_join _P t A z w u l n).imp λI H Q B=>?_;obtain⟨own,o,R,h,m,k⟩:=B;refine tQ.mk h m λY v x q d a=>?_;cases b:frz x with
 |str s =>
  rw[b]at q a;cases a;refine⟨⟨s,rfl⟩,tQA.mk (h.same d) q λC E Z q2 _ D i=>?_⟩;obtain⟨ys,rfl,j,q3⟩:=q2;obtain⟨y,rfl,f⟩:=i.one;obtain⟨p,G,rfl,e,g⟩:=f.lstI;exact⟨s,p,ys,rfl,rfl,g.strs ▸ (cQ e).2,j,k C _ _ q3 (d.trans D) (NR.fz (.str _))⟩
 |_=>rw[b]at q;exact q.elim
def notStar:Expr->Bool
 |.Starred ..=>false
 |_=>true
def WI{env:Env}(h:notStar e):starEach (e::es) env=(false,eval e env)::starEach es env:=by
 cases e<;>first|rfl|cases h
structure eH(X:Cx)(e:Expr)(r:RE):Prop where
 out:QE X e r
structure jS(X:Cx)(es:xb)(r:RA):Prop where
 out:QA X es r
def Ht{r:RE}(h:QE X e r):eH X e r:=⟨h⟩
def eG{i j O} : eH X (.Constant (.int i) j O) (rC (.int i)):=⟨bA⟩
def QB(i:Nat)(b:autoParam (n_X X i x) zP2):eH X (.Name x O) (Q5 i):=⟨qv i b⟩
def Sq{op:Operator}{g:zi}(c:GO X (binaryOp op) g)(e:eH X a ra)(d:eH X b rb):eH X (.BinOp a op b O) (eP g ra rb):=⟨bL c e.out d.out⟩
def dH:jS X [] n4:=⟨bC⟩
def bU{a:RE}(d:eH X e a)(b:jS X es r)(c:‹notStar e›):jS X (e::es) (EG a r):=⟨bx d.out b.out (WI c)⟩
def fH(h:jS X es r)(a:autoParam (es.length<=sizeLine) zP4):eH X (.Tuple es k O) (yG r):=⟨dU h.out a⟩
def pK(h:jS X es r)(a:autoParam (es.length<=sizeLine) zP4):eH X (.List es O) (xx r):=⟨dJ h.out a⟩
def Os:zi
 |.int i,.int j,q=>agq i j/\q (.fz (.int (i*j)))
 |_,_,_=>False
def RZ:GO X (binaryOp .Mult) Os:=_k.imp λx y H Q d=>by
 obtain⟨S,t,u,R,_,c,b,a,k⟩:=d;cases c<;>try exact a.elim
 cases b<;>try exact a.elim
 exact⟨_,_,rfl,rfl,a.1,k H _ _ a.2 (.refl _) (NR.fz (.int _))⟩
def OZ(n:Nat)(gs:ze):zn
 |.lst W,o,q=>W.length=n/\gs W o q
 |_,_,_=>False
def _i{m:Nat}(hc:X.calm)(h:jI X m es gs)(c:‹(assignEach es X.env).length=n›)(f:‹zD X es›):QG X m (.Tuple es k O) (OZ n gs):=(ag0 hc h c f).imp λv I H Q d=>by
 obtain⟨own,o,t,R,h,r,b,k⟩:=d;cases t<;>try exact b.elim
 obtain⟨a,G,rfl,e,r⟩:=r.lstI;exact⟨a,G,rfl,SqL.of (dh _ _ e),r.len.trans b.1,own,o,_,R,h,r,b.2,k⟩
variable{x y a b c e f d:RS}
def KW(J:xy->Prop)(k:∀a,J a->y E a)(h:∀Y:xy->Prop,(∀a,J a->Y a)->eE x (λ_=>Y) E o):eE x y E o:=h (y E) k
def rm(J:xy->Prop)(k:∀b,J b->y E b)(h:∀Y:xy->Prop,(∀b,J b->Y b)->eE a (eE x (λ_=>Y)) E o):eE a (eE x y) E o:=h (y E) k
def KU(J:xy->Prop)(k:∀d,J d->y E d)(h:∀Y:xy->Prop,(∀d,J d->Y d)->eE a (eE b (eE c (eE x (λ_=>Y)))) E o):eE a (eE b (eE c (eE x y))) E o:=h (y E) k
def KT(J:xy->Prop)(k:∀g,J g->y E g)(h:∀Y:xy->Prop,(∀g,J g->Y g)->eE a (eE b (eE c (eE d (eE e (eE f (eE x (λ_=>Y))))))) E o):eE a (eE b (eE c (eE d (eE e (eE f (eE x y)))))) E o:=h (y E) k
abbrev XC:=Addr->Φ->xk->Prop
abbrev SX:=xk->(OT->Prop)->XC->Prop
def rn(K:Frag)(S:SX):Sp:=λc H Q E=>∃W R a,cA K H c W/\S W R a/\(∀H' v x,R x->zO H H'->NR K (λ_=>False) H H' v x->Q v H') /\
 ∀H' C d ks Z b,a C ks b->zO H H'->H' d=some (.xd (ks.zip Z))->cA K H' Z b->E (.ref C) (some d) H'
abbrev nf(P:Program)(w:World)(K:Frag)(mg:Str->Ω)(base:Heap)(k:Nat)(x:Str)(ps:Φ)(S:SX):Prop:=l5 P w K mg base k x ps (rn K S)
def Fun.okTX{x u:Str}{f:Addr}{N:Φ}{S:SX}(F:Fun K x u st f fd)(D:bK N ps (bH st))
 {r}(bo:∀{j:Value}{A:Around}{i:xa}{s:Shared}{H:Hp}{E:XK},eN k (A.deeper (envOfC u (bH st) s.zs f j))->N.Nodup ->er (Gr (gx P w) P w K mg base N u (bH st) f j A i s H E) (fP st) r)(b2:∀W R b,S W R b->r { nx:=λ_=>R (.fz .non),rt:=R,xc:=b } (start' N.length W))(n:∀W R b,S W R b->W.length=ps.length:=by intro _ _ _ h;repeat (first|exact(ZH List.length h.1).trans rfl|obtain⟨_,h⟩:=h)):fX P w K mg base (gx P w) (k+1) f fd ps (rn K S):=by
 refine F.okX D (λL H Q E h=>?_) λj A i s H L Q E V h=>?_
 .obtain⟨W,R,b,r,p,_⟩:=h;exact r.len.trans (n W R b p)
 .obtain⟨W,R,b,r,p,q,T⟩:=h;have h1:=@bo j A i s H E V D.nd;have h2:=b2;have t:=qo (H:=H);have J:=o2 q;refine⟨_,h1,λ_=>[],_,_,SR.start r N,h2 W R b p,⟨λown H' I o m E h=>?_,λS' H' v x B m E s Y=>J S' H' v x B m (t ▸ E) s Y,λ_ _ _ _ z=>z.elim,λ_ _ _ _ z=>z.elim,λH' C d ks Z dP z E e O=>?_⟩⟩
  .exact J (Ow own) H' .non _ [] m (t ▸ E) ⟨rfl,_,rfl,.non⟩ λ_ z=>(nomatch z)
  .have G:=T H' C d ks Z dP z (t ▸ E) e O;exact⟨λU I y l a M B g F2=>_s U I y l a _ H' M B _ g F2 G,λU I y l a c ec g X ge eo=>acM U I y l a c _ g X ge (by rw[eo,<- ec];exact G)⟩
def YI:kQ X λC d _ H'=>zx X C d H':=λU I H s a C H' c B d b F z=>z.1 U I H s a c B b F
def adG:p_ X λC d _ H'=>zx X C d H':=λU I H s a C d b e g z=>z.2 U I H s a C rfl b e g rfl
def _g(S:SX)(r:RA):RS:=λE o=>r o λW=>S W (λ_=>E.nx o) E.xc
variable{e e1 e2:Expr}{x:OT}
def afL{x:Str}{S:SX}(G:nf X.prog X.w X.K X.mg X.base k x ps S)(l:QA X (e::es) r)(a:eN k X.A:=by exact eN.mono (by assumption) wP)(i:‹Gl X x›)(s:autoParam (zz x) zP4)
 (j:‹zw X e es›)(t:‹zg X O es›)
 (g:‹swapsWith (.Call (.Name x p) (e::es) [] O) none bi.line X.env=pure false›):QS X (.Expr (.Call (.Name x p) (e::es) [] O) bi) (_g S r) :=
 (gO (XM G a i YI l s j t) g).imp λD I H ⟨own,o,E,h,a,L⟩=>tQA.mk h a λY u W q _ b c=>by
  refine⟨W,_,_,c.same dh,q,λH' v x q S n=>?_,λH' C d ks Z m z S e f=>L.xc H' C d ks Z m z (dh.trans (b.trans S)) e f⟩;exact L.nx own H' I o q (bZ (b.trans S)) (h.same (b.trans S))
def EB(C:Addr)(c:Str):Sp:=λb H Q _=>∃a v,b=[.ref a,v]/\H a=some (XN a C none)/\∀d,H d=none->d≠a->Q .non (upd (upd H a (XN a C (some d))) d (.xd [(c,v)]))
def SG{a d:Addr}{o c x:HO}(n:H a=none)(e:d≠a):out (upd (upd (upd H a o) a c) d x) a=upd H d x:=by
 funext b
 by_cases z:b=a
 .subst z;rw[Xd,bR (Ne.symm e),n]
 .rw[yZ z];by_cases y:b=d
  .subst y;rw[bY,bY]
  .rw[bR y,bR z,bR z,bR y]
def WC(C:Addr)(a:Str)(re:RE):RS:=λE o=>re o λx=>E.xc C [a] [frz x]
def V7{x g:Str}{p:Pos}{C B m:Addr}(w:X.calm)(s:X.mg x=some (.ref C))(q:Tg X.K C B m)(G:zS X bc k m ps (EB C g))(c:QE X e re)(b:eN (k+1) X.A:=by exact eN.mono (by assumption) wP)(u:‹Gl X x›)(y:autoParam (zz x) zP4)
 (l:‹zw X e []›)(z:‹zg X af []›) :
  QS X (.Raise (some (.Call (.Name x p) [e] [] af)) none O) (WC C g re) :=
 (acv w u s q G b adG (bx c bC l) y l z).imp λD I H ⟨own,o,E,h,b,L⟩=>tQA.mk h b λY i W q r F j=>by
  obtain⟨t,rfl⟩ : ∃t,W=[t]:=by rcases W with _|⟨t,_|_⟩<;>first|exact⟨_,rfl⟩|cases r
  obtain⟨v,rfl⟩:=List.length_eq_one_iff.mp j.len
  refine⟨(show 1<=sizeLine by decide),λa c=>⟨a,v,rfl,bY,λd hd f=>⟨rfl,some d,(bR (Ne.symm f)).trans bY,?_⟩⟩⟩;rw[SG c f];have n:Y d=none:=by rw[bR f]at hd;exact hd
  exact L.xc _ C d [g] [v] _ q (dh.trans (F.trans (zO.upd n))) bY (j.same (dh.trans (zO.upd n)))
def N3:T->(OT->Prop)->Prop
 |.lst W,q=>q (.fz (.tup W))
 |_,_=>False
def ade:GC X (.type "tuple") (g1 N3):=acH.imp λG H Q f=>by
 obtain⟨S,W,R,d,c,a,k⟩:=f
 rcases W with _|⟨t,_|_⟩<;>try cases a
 obtain⟨x,rfl,b⟩:=c.one;cases t<;>try exact a.elim
 obtain⟨p,G,rfl,e,r⟩:=b.lstI;exact⟨p,G,rfl,(cQ e).2,λl H' E n g=>k _ _ _ a E (NR.fz (.tup (.of (by rwa[cN λz=>d l z n])) (r.same (bZ E))))⟩
def rP(X:Cx)(t:TS):RS:=λE o=>∀own H I D,SR X.K own H I o->Lnk X.K (zx X) (hd (Ow own) H) E D->t D I H
def kL{t:TS}(h:PS X st t):QS X st (rP X t):=h.imp λD I H b=>by obtain⟨own,o,E,s,a,L⟩:=b;exact a own H I D s L
section
variable{K:Frag}{own:Nat->Ψ}{F H H':Hp}{I:L2.St}{o:xy}
theorem Ros.snoc{x:V}{w:OW}{B:Ψ}(r:Ro K F H x w B){G:Ζ}{b:wv}{A:Ψ}(h:Ros K F H G b A):Ros K F H (G++[x]) (b++[w]) (A++B):=by
 cases h with
 |nil=>have:=Ros.cons r .nil;rwa[append_nil]at this
 |cons a t=>rw[WV];exact .cons a (Ros.snoc r t)
theorem Ros.len:∀{G:Ζ}{a:wv}{A:Ψ},Ros K F H G a A->G.length=a.length
 |_,_,_,.nil=>rfl
 |_,_,_,.cons _ t=>ZH (· + 1) (Ros.len t)
def SR.ow(h:SR K own H I o){i:Nat}{w:OW}(e:slot o i=.ow w):∃u,I[i]?=some (some u)/\(own i).Nodup/\Ro K (hd (Ow own) H) H u w (own i):=by
 obtain⟨u,e1,_,e2,r⟩:=h.val e nofun;cases e2;exact⟨u,e1,r⟩
def SR.ghostL(h:SR K own H I o)(E:zO H H'){B:Ψ}(n:∀b∈B,H b=none)(s:∀b∈B,∃G,H' b=some (.lst G)):∃q,SR K q H' I o/\∀b,Ow q b↔Ow own b\/b∈B:=by
 have p:∀b,Ow (own1 own o.length (own o.length++B)) b↔Ow own b\/b∈B:=λb=>⟨λz=>z.of1.elim .inl λz=>(Y1.mp z).imp (λz=>⟨_,z⟩) id,λz=>z.elim (λt=>by obtain⟨j,z⟩:=t;exact if c:j=o.length then⟨j,by rw[c,fB];exact UP _ (c ▸ z)⟩else⟨j,by rw[dG c];exact z⟩) λz=>⟨o.length,by rw[fB];exact aP _ z⟩⟩;refine⟨_,⟨h.len,λi x e=>?_,λi hi a g=>?_,λi j a e1 e2=>?_⟩,p⟩
 .have hi:i<o.length:=(ao.mp e).1;rw[dG (aQ hi)];exact(h.sl i x e).same (g8 (λb z=>((p b).mp z).imp id (n b)) E) E
 .have d:a∈own i->∃G,H' a=some (.lst G):=λz=>let⟨G,e⟩:=h.out i hi a z;⟨G,E _ _ e⟩;by_cases c:i=o.length
  .rw[c,fB]at g;rcases Y1.mp g with z|z
   .exact d (c ▸ z)
   .exact s a z
  .rw[dG c]at g;exact d g
 .have m:∀{k},a∈B->a∈own k->False:=λz y=>(h.sole ⟨_,y⟩).ne (n a z);have l:∀{k},a∈own1 own o.length (own o.length++B) k->a∈own k\/k=o.length/\a∈B:=λ{k}z=>by
   by_cases c:k=o.length
   .rw[c,fB]at z;exact(Y1.mp z).imp (λz=>c ▸ z) λz=>⟨c,z⟩
   .rw[dG c]at z;exact .inl z
  rcases l e1 with z|⟨z,y⟩<;>rcases l e2 with f|⟨f,r⟩
  .exact h.dis i j a z f
  .exact(m r z).elim
  .exact(m y f).elim
  .exact Eq.trans z (Eq.symm f)
def SR.frzI(h:SR K own H I o)(e:o[i]?=some x){u:V}(d:I[i]?=some (some u)):SR K (own1 own i []) H I (o.set i (.fz (L2.frz x))):=by
 have hi:i<o.length:=(ao.mp e).1;have le:zO (hd (Ow own) H) (hd (Ow (own1 own i [])) H):=g8 (λb z=>.inl (z.of1.elim id λy=>(nomatch y))) λ_ _ z=>z;have f:=h.sl i x e;rw[d]at f;refine⟨by rw[VZ,h.len],λj y c=>?_,λj g=>?_,λj k a e1 e2=>?_⟩
 .by_cases z:j=i
  .subst z;rw[UZ hi]at c;cases c;rw[fB,d];exact⟨rfl,u,rfl,Slo.frz f le λa l=>cN λz=>by
    obtain⟨k,z⟩:=z;by_cases y:k=j
    .rw[y,fB]at z;cases z
    .rw[dG y]at z;exact y (h.dis k j a z l)⟩
  .rw[VT (Ne.symm z)]at c;rw[dG z];exact(h.sl j y c).same le λ_ _ z=>z
 .rw[VZ]at g;rw[dG (by omega)];exact h.out j g
 .by_cases z:j=i
  .rw[z,fB]at e1;cases e1
  by_cases y:k=i
  .rw[y,fB]at e2;cases e2
  .rw[dG z]at e1;rw[dG y]at e2;exact h.dis j k a e1 e2
def SR.chgN(h:SR K own H I o)(e:o[i]?=some x){y:OT}(g:∀b∈A,b∈own i\/H b=none)(E:∀b u,b∉own i->H b=some u->H' b=some u)(r:Slo K (hd (Ow (own1 own i A)) H') H' (I[i]?.join) A y):SR K (own1 own i A) H' I (o.set i y)/\zO (hd (Ow own) H) (hd (Ow (own1 own i A)) H'):=by
 have hi:i<o.length:=(ao.mp e).1;have le:zO (hd (Ow own) H) (hd (Ow (own1 own i A)) H'):=λb u z=>by
  obtain⟨n,z⟩:=cQ z;rw[cN λq=>q.of1.elim n λq=>(g b q).elim (λq=>n ⟨i,q⟩) λq=>by rw[q]at z;cases z];exact E b u (λq=>n ⟨i,q⟩) z
 refine⟨⟨by rw[VZ,h.len],λj z c=>?_,λj f a d=>?_,λj k a e1 e2=>?_⟩,le⟩
 .by_cases q:j=i
  .subst q;rw[UZ hi]at c;cases c;rwa[fB]
  .rw[VT (Ne.symm q)]at c;rw[dG q];exact((h.sl j z c).same le λ_ _ z=>z).off λb m u=>E b u λz=>q (h.dis j i b m z)
 .rw[VZ]at f;rw[dG (by omega)]at d;obtain⟨G,e2⟩:=h.out j f a d;exact⟨G,E a _ (λz=>by have:=h.dis j i a d z;lia) e2⟩
 .have l:∀{k},k≠i->a∈A->a∈own k->False:=λn z y=>(g a z).elim (λz=>n (h.dis _ _ a y z)) λz=>(h.sole ⟨_,y⟩).ne z;by_cases z:j=i<;>by_cases y:k=i
  .rw[z,y]
  .rw[z,fB]at e1;rw[dG y]at e2;exact(l y e1 e2).elim
  .rw[y,fB]at e2;rw[dG z]at e1;exact(l z e2 e1).elim
  .rw[dG z]at e1;rw[dG y]at e2;exact h.dis j k a e1 e2
def SR.free(h:SR K own H I o)(e:o[i]?=some x)(E:∀b u,b∉own i->H b=some u->H' b=some u):SR K (own1 own i []) H' I (o.set i .und)/\zO (hd (Ow own) H) (hd (Ow (own1 own i [])) H'):=h.chgN e (A:=[]) (λ_ z=>(nomatch z)) E rfl
def SR.vars(h:SR K own H I o){a:L2.St}(l:a.length=I.length)(b:∀(i:Nat)(x:OT),o[i]?=some x->x≠.und->a[i]?=I[i]?):SR K own H a o:=⟨h.len.trans l.symm,λi x e=>by
 by_cases c:x=.und
 .subst c;exact h.sl i _ e
 .rw[b i x e c];exact h.sl i x e,h.out,h.dis⟩
end
def hB(x:OT)(q:OW->Prop):Prop:=match x with|.ow w=>q w|_=>False
def Lp{q:OW->Prop}(h:hB x q):∃w,x=.ow w/\q w:=by
 cases x<;>first|exact⟨_,rfl,h⟩|exact h.elim
def Mv(w:OW):Prop:=∀(K:Frag)(F a H:Hp)(x:V)(A:Ψ),(∀b u,(∀l,u≠HO.lst l)->F b=some u->a b=some u)->Ro K F H x w A->Ro K a H x w A
def ED(i:Nat)(a:RE):RE:=λo q=>match slot o i with|.l2 b=>a (o.set i (.fz (.lst (b.map T.lst)))) λy=>hB y λw=>Mv w/\q y|_=>False
def Tc(i:Nat)(h:QE X e re):QE X e (ED i re):=PE.imp h λI H Q D=>by
 obtain⟨own,o,R,h,a,k⟩:=D;unfold ED at a;cases es:slot o i with
 |l2 g =>
  rw[es]at a;have J:=gA es nofun;obtain⟨l,N,e1,L,M,K,A,r⟩:=h.l2 es;refine⟨_,_,_,h.frzI J e1,a,λH' v x q E n=>?_⟩;obtain⟨w,rfl,t,q⟩:=Lp q;obtain⟨B,s,u,F,C,m⟩:=n;refine k H' v _ q E ⟨B,s,u,F,C,t _ _ _ _ _ _ (λb u p z=>?_) m⟩;obtain⟨d,z⟩:=cQ z;rw[cN λy=>?_]
  .exact z
  .rcases y with⟨j,y⟩|y
   .by_cases c:j=i
    .have:∃G,H b=some (.lst G):=by
      rw[c,L]at y;rcases YU.mp y with rfl|y
      .exact⟨_,K⟩
      .obtain⟨k,f⟩:=aV y;obtain⟨G,q,_⟩:=r k b _ f (aj (A ▸ (ao.mp f).1));exact⟨G,q⟩
     obtain⟨G,q⟩:=this;rw[E _ _ q]at z;cases z;exact p _ rfl
    .exact d (.inl ⟨j,by rwa[dG c]⟩)
   .exact d (.inr y)
 |_=>rw[es]at a;exact a.elim
def Q'(a b:RE):RE:=λo q=>a o λx=>hB x λw=>b o λy=>hB y λv=>q (.ow (.lst [w,v]))
def _R(f:QE X e1 ra)(d:QE X e2 rb)(M:‹starEach [e1,e2] X.env=(false,eval e1 X.env)::starEach [e2] X.env›)(N:‹zw X e2 []›):QE X (.List [e1,e2] O) (Q' ra rb) :=
 (Sv (cj f (cj d dI N) M)).imp λI H Q ⟨own,o,R,h,K,k⟩=>⟨own,o,_,h,K,λY v x q l t=>by
  obtain⟨w,rfl,q⟩:=Lp q;obtain⟨n,i,_,A,r,j⟩:=t;cases A;obtain⟨E,L,D⟩:=h.ghostL l i j.isl;refine⟨E,o,_,L,q,λB F y q g s=>?_⟩;obtain⟨P,rfl,q⟩:=Lp q;obtain⟨m,p,_,A,J,C⟩:=s;cases A;refine⟨(show 2<=sizeLine by decide),λa f=>k _ (.ref a) _ q (l.trans (g.trans (zO.upd f))) ⟨a::(n++(m++[])),λb d=>?_,_,rfl,?_,?_⟩⟩
  .rcases YU.mp d with rfl|d
   .exact l.free (g.free f)
   .rcases Y1.mp d with d|d
    .exact i b d
    .rw[append_nil]at d;exact l.free (p b d)
  .rw[append_nil];refine List.nodup_cons.mpr ⟨λz=>?_,List.nodup_append.mpr ⟨r,J,λb d c hc z=>?_⟩⟩
   .rcases Y1.mp z with z|z
    .obtain⟨G,e⟩:=j.isl a z;rw[g _ _ e]at f;cases f
    .obtain⟨G,e⟩:=C.isl a z;rw[e]at f;cases f
   .obtain⟨G,e⟩:=j.isl b d;rw[z,p c hc]at e;cases e
  .have t:∀b,Ow own b\/b∈a::(n++(m++[]))->(Ow own b\/b∈n)\/Y b=none:=λb z=>by
    rcases z with z|z
    .exact .inl (.inl z)
    .rcases YU.mp z with rfl|z
     .exact .inr (g.free f)
     .rcases Y1.mp z with z|z
      .exact .inl (.inr z)
      .rw[append_nil]at z;exact .inr (p b z)
   have s:∀b,Ow own b\/b∈a::(n++(m++[]))->(Ow E b\/b∈m)\/B b=none:=λb z=>by
    rcases z with z|z
    .exact .inl (.inl ((D b).mpr (.inl z)))
    .rcases YU.mp z with rfl|z
     .exact .inr f
     .rcases Y1.mp z with z|z
      .exact .inl (.inl ((D b).mpr (.inr z)))
      .rw[append_nil]at z;exact .inl (.inr z)
   have S:zO B (upd B a (.lst [v,F])):=zO.upd f;exact .lst bY (.cons (j.mv (g8 t (g.trans S)) λb _ u e=>S _ _ (g _ _ e)) (.cons (C.mv (g8 s S) λb _ u e=>S _ _ e) .nil))⟩
def Rs(i:Nat)(a:RE):RS:=λE o=>hB (slot o i) λw=>match w with
 |.lst b=>b.length<sizeLine/\a o λx=>hB x λv=>E.nx (o.set i (.ow (.lst (b++[v]))))
 |_=>False
def _T(i:Nat){x:Str}{C:Pos}(he:QE X e re)(hN:autoParam (n_X X i x) zP2)
 (d:‹attributeBase (.Name x p) "append" X.env (eval (.Name x p) X.env)=eval (.Name x p) X.env›)
 (hf:‹zo X af e›)
 (hl:‹zC C af›)(V:‹zw X e []›)(hp:‹zg X af []›)
 (hs:‹swapsWith (.Call (.Attribute (.Name x p) "append" C) [e] [] af) none O.line X.env=pure false›) :
  QS X (.Expr (.Call (.Attribute (.Name x p) "append" C) [e] [] af) O) (Rs i re):=(gO (CV (pv i hN) (cj he dI V) d hf hl V hp) hs).imp λD I H hP=>by
 obtain⟨own,o,E,h,g,L⟩:=hP;obtain⟨w,es,g⟩:=Lp g;cases w with
 |lst J =>
  obtain⟨u,e1,s,r⟩:=h.ow es;generalize k:own i=A at s r;cases r with
  |@lst a G _ A U r =>
   refine⟨_,e1,a,_,rfl,U,own,o,_,h,g.2,λY v x q m n=>?_⟩;obtain⟨M,rfl,q⟩:=Lp q;obtain⟨B,t,_,eu,kM,Z⟩:=n;cases eu;refine⟨v,G,rfl,m _ _ U,by rw[r.len];exact g.1,?_⟩;have lo:a∈own i:=by rw[k];simp
   have Q:∀{b},b∈B->∀j,b∉own j:=λz j y=>(h.sole ⟨j,y⟩).ne (t _ z);have F:∀b,Ow (own1 own i (a::(A++B))) b->Ow own b\/b∈B:=λb z=>z.of1.elim .inl λz=>by
    rcases YU.mp z with rfl|z
    .exact .inl ⟨i,lo⟩
    .exact(Y1.mp z).imp (λz=>⟨i,by rw[k];exact aJ _ z⟩) id
   have P:∀{b},b∈A->b≠a:=λz y=>(List.nodup_cons.mp s).1 (y ▸ z);have T:∀{b},b∈B->b≠a:=λz y=>Q z i (y ▸ lo);have f:∀{l:Hp}{S:Addr->Prop},S a->zO l Y->(∀b,Ow own b\/b∈B->S b\/l b=none)->zO (hd S l) (hd (Ow (own1 own i (a::(A++B)))) (upd Y a (.lst (G++[v])))):=λ{l S}sa E0 n0 b u z=>by
    obtain⟨R,z⟩:=cQ z;rw[cN λy=>(n0 b (F b y)).elim R λy=>(by rw[y]at z;cases z),bR λy=>R (by rwa[y])];exact E0 _ _ z
   have c1:∀b∈a::(A++B),b∈own i\/H b=none:=λb z=>by
    rcases YU.mp z with rfl|z
    .exact .inl lo
    .exact(Y1.mp z).imp (λz=>by rw[k];exact aJ _ z) (t b)
   have c2:(a::(A++B)).Nodup:=List.nodup_cons.mpr ⟨λz=>(Y1.mp z).elim (λz=>P z rfl) λz=>T z rfl,List.nodup_append.mpr ⟨(List.nodup_cons.mp s).2,kM,λb d c hc z=>Q hc i (by rw[<- z,k];exact aJ _ d)⟩⟩;have W:Ros X.K (hd (Ow (own1 own i (a::(A++B)))) (upd Y a (.lst (G++[v])))) (upd Y a (.lst (G++[v]))) (G++[v]) (J++[M]) (A++B):=Ros.snoc (Z.mv (f (S:=λb=>Ow own b\/b∈B) (.inl ⟨i,lo⟩) (.refl _) λb z=>.inl z) λb d u e=>(bR (T d)).trans e) (r.mv (f ⟨i,lo⟩ m λb z=>z.imp id (t b)) λb d u e=>(bR (P d)).trans (m _ _ e));obtain⟨h',S⟩:=h.chgN (gA es nofun) (y:=.ow (.lst (J++[M]))) (A:=a::(A++B)) (H':=upd Y a (.lst (G++[v]))) c1 (λb u d e=>(bR λz=>d (by rwa[z])).trans (m _ _ e)) (by rw[e1];exact⟨_,rfl,c2,.lst bY W⟩);exact L.nx _ _ I _ q S h'
 |_=>exact g.elim
end L2
namespace Ac
def lw(t b:Int):Int×Int:=(t/(Int.gcd t b:Nat),b/(Int.gcd t b:Nat))
def vk{t b:Int}(a:0<b):(0:Int)<(Int.gcd t b:Nat):=by
 have:=lM t (show b≠0 by exact WP a);lia
section
variable{κ:Type}[DecidableEq κ]
def look(a:List (κ×Int))(r:κ):Int:=((a.find? λg=>decide (g.1=r)).map (·.2)).getD 0
def put(a:List (κ×Int))(r:κ)(y:Int):List (κ×Int):=if(a.any λg=>decide (g.1=r))=true then a.map (λg=>if g.1=r then(g.1,y)else g)else a++[(r,y)]
def L6(b:List (κ×Int)):List (κ×Int):=b.foldl (λa g=>put a g.1 (look a g.1+g.2)) []
def ways(a:List (κ×Int))(S:Int):List (κ×Int×Int):=((L6 a).filter λg=>decide (0<g.2)).map λg=>(g.1,lw g.2 S)
end
end Ac
namespace Rw
open Ac
def rep(r:List Int×Int):Γ:=r.1.map λt=>lw t r.2
def ba(a:xo)(b:Int):Int:=a.foldl (λc t=>((Int.gcd t c:Nat):Int)) b
theorem iQ:∀{ts:xo}{b:Int},0<b->0<ba ts b
 |[],_,h=>h
 |t::ts,b,h=>iQ (ts:=ts) (vk (t:=t) h)
theorem iK:∀{ts:xo}{b:Int},ba ts b ∣ b/\∀t∈ts,ba ts b ∣ t
 |[],b=>⟨Int.dvd_refl b,by simp⟩
 |t::ts,b=>by
  obtain⟨c,d⟩:=iK (ts:=ts) (b:=((Int.gcd t b:Nat):Int));refine⟨Int.dvd_trans c (QP t b),λx a=>?_⟩;rcases YU.mp a with rfl|a
  .exact Int.dvd_trans c (Int.gcd_dvd_left x b)
  .exact d x a
def t_{ts:xo}{b:Int}(h:0<b):ba ts b<=b:=Int.le_of_dvd h iK.1
def jt(r:List Int×Int):List Int×Int:=(r.1.map λt=>t/ba r.1 r.2,r.2/ba r.1 r.2)
def lB(r:List Int×Int):(jt r).1.length=r.1.length:=by unfold jt;rw[ak]
def jh(r:List Int×Int)(c:Β):List Int×Int:=(r.1.map λt=>t*c.1,r.2*c.2)
def oG(r o:List Int×Int)(c:Β):List Int×Int :=
 (zipWith (λa b=>a*(o.2*c.2/((Int.gcd r.2 (o.2*c.2):Nat):Int))+b*(r.2/((Int.gcd r.2 (o.2*c.2):Nat):Int)*c.1)) r.1 o.1,r.2*(o.2*c.2/((Int.gcd r.2 (o.2*c.2):Nat):Int)))
structure Big(N:Nat)(r:List Int×Int):Prop where
 pos:0<r.2
 bot:r.2.natAbs<=N
 top:∀t∈r.1,t.natAbs<=N
variable{N:Nat}{R':Nat->Nat->Rat}
def Big.le{M:Nat}{r:List Int×Int}(h:Big N r)(a:N<=M):Big M r:=⟨h.pos,aL h.bot a,λt b=>aL (h.top t b) a⟩
def Yd{d t g x:Int}(b:d ∣ t*x)(a:d ∣ g*x):d ∣ ((Int.gcd t g:Nat):Int)*x:=by
 have h:=Int.dvd_coe_gcd b a;rw[Int.gcd_mul_right]at h;rw[Tk]at h;rcases Int.natAbs_eq x with e|e
 .rw[e];exact h
 .rw[e,Int.mul_neg];exact Int.dvd_neg.mpr h
theorem yr{d x:Int} : ∀{ts:xo}{b:Int},d ∣ b*x->(∀t∈ts,d ∣ t*x)->d ∣ ba ts b*x
 |[],_,h,_=>h
 |t::ts,b,h,k=>yr (ts:=ts) (Yd (k t aO) h) λu a=>k u (aJ _ a)
def Alk(r s:List Int×Int):Prop:=r.1.length=s.1.length/\∀(k:Nat)(a b:Int),r.1[k]?=some a->s.1[k]?=some b->a*s.2=b*r.2
def m5{r:List Int×Int}(h:0<r.2):ba (jt r).1 (jt r).2=1:=by
 have d:=iQ (ts:=r.1) h;obtain⟨f,k⟩:=iK (ts:=r.1) (b:=r.2);have p:0<(jt r).2:=lN h (XY d) f;have l:=iQ (ts:=(jt r).1) p;obtain⟨j,i⟩:=iK (ts:=(jt r).1) (b:=(jt r).2);have g:ba (jt r).1 (jt r).2*ba r.1 r.2 ∣ ba r.1 r.2*1:=by
  refine yr ?_ λt e=>?_
  .obtain⟨u,c⟩:=j;have c:r.2/ba r.1 r.2=ba (jt r).1 (jt r).2*u:=c;refine⟨u,?_⟩;rw[Int.mul_one,Int.mul_right_comm,<- c,Int.ediv_mul_cancel f]
  .obtain⟨u,c⟩:=i (t/ba r.1 r.2) (YV.mpr ⟨t,e,rfl⟩);refine⟨u,?_⟩;rw[Int.mul_one,Int.mul_right_comm,<- c,Int.ediv_mul_cancel (k t e)]
 rw[Int.mul_one]at g;have:=Int.le_of_dvd d g;have:ba (jt r).1 (jt r).2<=1:=by
  refine Int.le_of_mul_le_mul_right (a:=ba r.1 r.2) ?_ d;lia
 lia
def least{r s:List Int×Int}(i:0<r.2)(g:ba r.1 r.2=1)(a:Alk r s)(h:Big N s):Big N r:=by
 have d:r.2 ∣ ba r.1 r.2*s.2:=yr ⟨s.2,rfl⟩ λt f=>by
  obtain⟨k,l,rfl⟩:=List.mem_iff_getElem.mp f;have c:k<s.1.length:=by rwa[<- a.1]
  rw[a.2 k _ _ (aj l) (aj c)];exact⟨_,Int.mul_comm _ _⟩
 rw[g,JY]at d;obtain⟨m,j⟩:=d;have n:0<m:=Int.pos_of_mul_pos_right (by rw[<- j];exact h.pos) i;refine⟨i,?_,λt f=>?_⟩
 .have:=Int.le_of_dvd h.pos ⟨m,j⟩;have:=h.bot;lia
 .obtain⟨k,l,rfl⟩:=List.mem_iff_getElem.mp f;have c:k<s.1.length:=by rwa[<- a.1]
  have e:=a.2 k _ _ (aj l) (aj c);rw[j,Int.mul_comm r.2 m,<- Int.mul_assoc]at e;have e:=Int.eq_of_mul_eq_mul_right (WP i) e;have b:=h.top _ (aU c);rw[<- e,VW]at b;exact aL (Nat.le_mul_of_pos_right _ (by omega)) b
def gr(N:Nat):Nat->Nat
 |0=>N
 |m+1=>2*(gr N m*gr N m)
def sg(f:Nat->Rat):Nat->Rat
 |0=>0
 |n+1=>sg f n+f n
def sz(f:Nat->Int):Nat->Int
 |0=>0
 |n+1=>sz f n+f n
theorem iw(f g:Nat->Rat):∀n,sg (λj=>f j+g j) n=sg f n+sg g n
 |0=>by unfold sg;grind
 |n+1=>by unfold sg;rw[iw f g n];grind
theorem gF(c:Rat)(f:Nat->Rat):∀n,sg (λj=>c*f j) n=c*sg f n
 |0=>by unfold sg;grind
 |n+1=>by unfold sg;rw[gF c f n];grind
theorem cC{f g:Nat->Rat} : ∀{n},(∀j,j<n->f j=g j)->sg f n=sg g n
 |0,_=>rfl
 |n+1,h=>by unfold sg;rw[cC λj a=>h j (WS _ a),h n (X2 _)]
theorem iR:∀n,sg (λ_=>0) n=0
 |0=>rfl
 |n+1=>by unfold sg;rw[iR n];grind
theorem jg{v:Nat->Rat}{k:Nat} : ∀{n},sg (λj=>(if j=k then 1 else 0)*v j) n=if k<n then v k else 0
 |0=>by rw[ZZ (WU _)];rfl
 |n+1=>by
  unfold sg;rw[jg];by_cases h:k<n
  .rw[ZY h,ZZ (UY h),ZY (WS _ h)];grind
  .by_cases e:n=k
   .subst e;rw[ZZ h,ZY rfl,ZY (X2 _)];grind
   .rw[ZZ h,ZZ e,ZZ wE];grind
theorem HQ(f:Nat->Nat->Rat)(m:Nat):∀n,sg (λk=>sg (λl=>f k l) m) n=sg (λl=>sg (λk=>f k l) n) m
 |0=>by
  show(0:Rat)=sg (λ_=>0) m;rw[iR]
 |n+1=>by
  show sg (λk=>sg (λl=>f k l) m) n+sg (λl=>f n l) m=sg (λl=>sg (λk=>f k l) n+f n l) m;rw[iw,HQ f m n]
theorem JM(f:Nat->Int):∀n,((sz f n:Int):Rat)=sg (λk=>(f k:Rat)) n
 |0=>intCast_zero
 |n+1=>by unfold sz sg;rw[Rat.intCast_add,JM f n]
theorem N6{f:Nat->Int}{B:Nat} : ∀{n},(∀k,k<n->(f k).natAbs<=B)->(sz f n).natAbs<=n*B
 |0,_=>by unfold sz;simp
 |n+1,h=>by
  unfold sz;have:=N6 (n:=n) λk a=>h k (WS _ a);have:=h n (X2 _);rw[add_mul,Nat.one_mul];omega
theorem GM(f g:Nat->Int):∀n,sz (λk=>f k-g k) n=sz f n-sz g n
 |0=>rfl
 |n+1=>by unfold sz;rw[GM f g n];lia
theorem Xr{f g:Nat->Int} : ∀{n},(∀j,j<n->f j=g j)->sz f n=sz g n
 |0,_=>rfl
 |n+1,h=>by unfold sz;rw[Xr λj a=>h j (WS _ a),h n (X2 _)]
theorem Wf{a:Type}(q:a->Bool):∀L:List a,(L.filter q).length+(L.filter λx=>!q x).length=L.length
 |[]=>rfl
 |x::L=>by
  have:=Wf q L;rw[List.filter_cons,List.filter_cons];cases h:q x with
  |true=>rw[ZY rfl,ZZ vz,length_cons,length_cons];lia
  |false=>rw[ZZ vz,ZY vz,length_cons,length_cons];lia
theorem Ha{d:Type}(f:d->Nat)(n:Nat):∀(W:Nat)(L:List d),(∀x∈L,f x<W)->W*n<L.length->∃v,n<(L.filter λx=>f x==v).length
 |0,L,h,c=>by
  cases L with
  |nil=>simp at c
  |cons x L=>exact absurd (h x aO) (WU _)
 |W+1,L,h,c=>by
  by_cases e:n<(L.filter λx=>f x==W).length
  .exact⟨W,e⟩
  .have j:=Wf (λx=>f x==W) L;rw[add_mul,Nat.one_mul]at c;obtain⟨v,i⟩:=Ha f n W (L.filter λx=>!(f x==W)) (λx g=>by
    obtain⟨a,b⟩:=List.mem_filter.mp g;have:=h x a;have k:f x≠W:=λz=>by rw[z]at b;simp at b
    lia) (by omega)
   exact⟨v,aR i (List.Sublist.length_le (List.Sublist.filter _ List.filter_sublist))⟩
theorem digits_inj{W:Nat}(g:0<W):∀(n c d:Nat),c<W^n->d<W^n->(∀k,k<n->c/W^k%W=d/W^k%W)->c=d
 |0,c,d,a,hd,_=>by
  rw[pow_zero]at a hd;lia
 |n+1,c,d,a,hd,h=>by
  have b:=h 0 (TZ _);rw[pow_zero,Nat.div_one,Nat.div_one]at b;have e:=digits_inj g n (c/W) (d/W) (Nat.div_lt_of_lt_mul (by rwa[Nat.mul_comm,<- pow_succ])) (Nat.div_lt_of_lt_mul (by rw[Nat.mul_comm,<- pow_succ];exact hd)) λk f=>by
   have:=h (k+1) (Nat.succ_lt_succ f);rw[Nat.div_div_eq_div_mul,Nat.div_div_eq_div_mul,<- Nat.pow_succ'];exact this
  rw[<- Nat.div_add_mod c W,<- Nat.div_add_mod d W,e,b]
theorem acA{p:Nat}(b:1<=N):(2*((p+1)*((2*(p+1)*N)^p*N))+1)^p<((2*(p+1)*N)^p+1)^(p+1):=by
 have w:2*((p+1)*((2*(p+1)*N)^p*N))+1<=2*(p+1)*N*((2*(p+1)*N)^p+1):=by
  have e:2*((p+1)*((2*(p+1)*N)^p*N))=2*(p+1)*N*(2*(p+1)*N)^p:=by ac_rfl
  have a:1<=2*(p+1)*N:=VY (show 1<=2*(p+1)by lia) b;rw[e];generalize 2*(p+1)*N=X at *;rw[Nat.mul_add,Nat.mul_one];exact Nat.add_le_add_left a _
 refine Y3 (Nat.pow_le_pow_left w p) ?_;rw[Nat.mul_pow,pow_succ,Nat.mul_comm];exact Nat.mul_lt_mul_of_pos_left (X2 _) (pow_pos (TZ _))
theorem YC{p:Nat}{C:Nat->Nat->Int}(H:1<=N)(I:∀k l,k<=p->l<p->(C k l).natAbs<=N) :
  ∃s:Nat->Int,(∃k,k<=p/\s k≠0)/\(∀k,(s k).natAbs<=(2*(p+1)*N)^p)/\∀l,l<p->sz (λk=>s k*C k l) (p+1)=0:=by
 have P:=acA (p:=p) H;generalize Q:(2*(p+1)*N)^p=B at *;generalize G:(p+1)*(B*N)=O at *;have n:∀c k:Nat,c/(B+1)^k%(B+1)<=B:=λc k=>Up (mod_lt _ (TZ _));have r:∀l c,l<p->(sz (λk=>((c/(B+1)^k%(B+1):Nat):Int)*C k l) (p+1)).natAbs<=O:=λl c b=>by
  rw[<- G];refine N6 λk o=>?_;rw[VW,X0];exact VY (n c k) (I k l (Up o) b)
 have all:∀q,q<=p->∃L:wb,L.Nodup/\(∀c∈L,c<(B+1)^(p+1))/\(∀l,l<q->∀c∈L,∀d∈L,sz (λk=>((c/(B+1)^k%(B+1):Nat):Int)*C k l) (p+1)=sz (λk=>((d/(B+1)^k%(B+1):Nat):Int)*C k l) (p+1))/\(2*O+1)^(p-q)<L.length:=by
  intro q
  induction q with
  |zero=>exact λ_=>⟨range ((B+1)^(p+1)),List.nodup_range,λc i=>List.mem_range.mp i,λl b=>absurd b (WU _),by rwa[W1,sub_zero]⟩
  |succ q E =>
   intro m;obtain⟨L,f,lt,j,a⟩:=E (aL (Xs _) m);have J:(2*O+1)^(p-q)=(2*O+1)*(2*O+1)^(p-(q+1)):=by rw[<- Nat.pow_succ',show(p-(q+1)).succ=p-q by lia]
   rw[J]at a;obtain⟨v,F⟩:=Ha (λc=>(sz (λk=>((c/(B+1)^k%(B+1):Nat):Int)*C k q) (p+1)+O).toNat) _ _ L (λc _=>by
    have:=r q c (aR (X2 _) m);omega) a
   refine⟨_,List.Pairwise.sublist List.filter_sublist f,λc i=>lt c (List.mem_filter.mp i).1,λl b c i d hd=>?_,F⟩;obtain⟨M,u⟩:=List.mem_filter.mp i;obtain⟨K,t⟩:=List.mem_filter.mp hd;by_cases e:l<q
   .exact j l e c M d K
   .have e:l=q:=by lia
    subst e;have u:=beq_iff_eq.mp u;have t:=beq_iff_eq.mp t;have:=r l c (aR b m);have:=r l d (aR b m);omega
 obtain⟨L,f,lt,j,a⟩:=all p (aG p);rw[Nat.sub_self,pow_zero]at a
 match L,f,lt,j,a with
 |c::d::L,f,lt,j,_ =>
  have w:c≠d:=λz=>by
   rw[z]at f;exact(List.nodup_cons.mp f).1 aO
  refine⟨λk=>((c/(B+1)^k%(B+1):Nat):Int)-((d/(B+1)^k%(B+1):Nat):Int),?_,λk=>?_,λl b=>?_⟩
  .by_cases h:∀k,k<p+1->c/(B+1)^k%(B+1)=d/(B+1)^k%(B+1)
   .exact absurd (digits_inj (TZ B) (p+1) c d (lt c aO) (lt d (aJ _ aO)) h) w
   .obtain⟨k,o⟩:=Classical.not_forall.mp h;obtain⟨D,A⟩:=Classical.not_imp.mp o;exact⟨k,by exact Up D,λz=>A (by
     have z:((c/(B+1)^k%(B+1):Nat):Int)-((d/(B+1)^k%(B+1):Nat):Int)=0:=z;generalize c/(B+1)^k%(B+1)=x at *;generalize d/(B+1)^k%(B+1)=y at *;lia)⟩
  .have:=n c k;have:=n d k;show(((c/(B+1)^k%(B+1):Nat):Int)-((d/(B+1)^k%(B+1):Nat):Int)).natAbs<=B;omega
  .rw[Xr (g:=λk=>((c/(B+1)^k%(B+1):Nat):Int)*C k l-((d/(B+1)^k%(B+1):Nat):Int)*C k l) λk _=>Int.sub_mul _ _ _,GM,j l b c aO d (aJ _ aO)];exact Int.sub_self _
 |[_],_,_,_,a=>exact absurd a vz
 |[],_,_,_,a=>exact absurd a vz
structure gM(A:Nat->Nat->Int)(b:Nat->Int)(m wd:Nat)(R:Nat->Nat->Rat)(p:Nat)(pv s:Nat->Nat):Prop where
 pm:p<=m
 sm:∀i,i<m->s i<m
 pw:∀l,l<p->pv l<wd
 unit:∀i l,i<m->l<p->R i (pv l)=if i=l then 1 else 0
 dec:∀i j,i<m->j<wd->(A (s i) j:Rat)=(if i<p then 0 else(b (s i):Rat)*R i j)+sg (λl=>(A (s i) (pv l):Rat)*R l j) p
 ind:∀ar:Nat->Rat,(∀j,j<wd->sg (λk=>ar k*(A (s k) j:Rat)) p=0)->∀k,k<p->ar k=0
section
variable{A:Nat->Nat->Int}{b:Nat->Int}{m wd p:Nat}{R:Nat->Nat->Rat}{pv s:Nat->Nat}
def gM.comb(h:gM A b m wd R p pv s)(a:Nat->Rat){j:Nat}(d:j<wd):sg (λk=>a k*(A (s k) j:Rat)) p=sg (λl=>sg (λk=>a k*(A (s k) (pv l):Rat)) p*R l j) p:=by
 have pm:=h.pm;rw[cC (g:=λk=>sg (λl=>a k*(A (s k) (pv l):Rat)*R l j) p) λk c=>?_]
 .rw[HQ];refine cC λl e=>?_;rw[cC (g:=λk=>R l j*(a k*(A (s k) (pv l):Rat))) λk _=>XT _ _,gF,XT]
 .rw[h.dec k j (aR c pm) d,ZY c,Rat.zero_add,<- gF];exact cC λl _=>(Rat.mul_assoc _ _ _).symm
def jm{x:Int}(h:x≠0):(x:Rat)≠0:=λz=>h (Rat.intCast_inj.mp (z.trans Rat.intCast_zero.symm))
def Op{m q:Nat}(b:1<=N)(a:q+1<=m):(2*(q+1)*N)^(q+1)<=(2*m*N)^m:=by
 have x:2*(q+1)*N<=2*m*N:=VY wE (aG N);have y:1<=2*m*N:=VY (show 1<=2*m by lia) b;exact aL (Nat.pow_le_pow_left x _) (XG y a)
def kD{m q:Nat}(b:1<=N)(a:q+1<=m):(q+1)*((2*(q+1)*N)^q*N)<=(2*m*N)^m:=by
 refine aL ?_ (Op b a);have e:(2*(q+1)*N)^(q+1)=2*((q+1)*((2*(q+1)*N)^q*N)):=by
  rw[pow_succ];ac_rfl
 lia
def gM.bound(h:gM A b m wd R p pv s)(o:1<=N)(w:∀i j,i<m->j<wd->(A i j).natAbs<=N)(K:∀i,i<m->0<b i/\(b i).natAbs<=N){i:Nat}(G:i<m) :
    ∃(v:Nat->Int)(u:Int),u≠0/\u.natAbs<=(2*m*N)^m/\(∀j,j<wd->(v j).natAbs<=(2*m*N)^m)/\∀j,j<wd->R i j*(u:Rat)=(v j:Rat):=by
  have pm:=h.pm;by_cases E:i<p
  . obtain⟨q,rfl⟩ : ∃q,p=q+1:=⟨p-1,by lia⟩
    obtain⟨a,⟨r,F,t⟩,B,D⟩:=YC (p:=q) (C:=λk l=>A (s k) (if l<i then pv l else pv (l+1))) o λk l n f=>by
      refine w _ _ (h.sm k wE) ?_;by_cases e:l<i
      . rw[ZY e];exact h.pw l (WS _ f)
      . rw[ZZ e];exact h.pw (l+1) (Nat.succ_lt_succ f)
    have cast:∀j,((sz (λk=>a k*A (s k) j) (q+1):Int):Rat)=sg (λk=>(a k:Rat)*(A (s k) j:Rat)) (q+1):=λj=>by
      rw[JM];exact cC λk _=>XU _ _
    have H:∀l,l<q+1->l≠i->sz (λk=>a k*A (s k) (pv l)) (q+1)=0:=λl f M=>by
      by_cases e:l<i
      . have:=D l (aR e (Up E))
        rw[ZY e]at this;exact this
      . have:=D (l-1) (by omega)
        rw[ZZ wE,show l-1+1=l by lia]at this;exact this
    have x:∀j,j<wd->((sz (λk=>a k*A (s k) j) (q+1):Int):Rat)=((sz (λk=>a k*A (s k) (pv i)) (q+1):Int):Rat)*R i j:=λj d=>by
      rw[cast,h.comb (λk=>(a k:Rat)) d,cC (g:=λl=>(if l=i then 1 else 0)*(((sz (λk=>a k*A (s k) (pv i)) (q+1):Int):Rat)*R l j)) λl f=>?_,jg,ZY E];rw[<- cast (pv l)];by_cases e:l=i
      . rw[ZY e,e,Rat.one_mul]
      . rw[ZZ e,H l f e,intCast_zero];grind
    refine⟨λj=>sz (λk=>a k*A (s k) j) (q+1),sz (λk=>a k*A (s k) (pv i)) (q+1),λz=>?_,?_,λj d=>?_,λj d=>?_⟩
    . have:=h.ind (λk=>(a k:Rat)) (λj d=>by
        rw[<- cast,x j d,z,intCast_zero];grind) r (Y3 F (X2 _))
      exact jm t this
    . exact aL (N6 λk n=>by rw[VW];exact VY (B k) (w _ _ (h.sm k (aR n pm)) (h.pw i E))) (kD o (by omega))
    . exact aL (N6 λk n=>by rw[VW];exact VY (B k) (w _ _ (h.sm k (aR n pm)) d)) (kD o (by omega))
    . rw[x j d,XT]
  . obtain⟨a,⟨r,F,t⟩,B,D⟩:=YC (p:=p) (C:=λk l=>A (s (if k<p then k else i)) (pv l)) o λk l n f=>by
      refine w _ _ (h.sm _ ?_) (h.pw l f);by_cases e:k<p
      . rw[ZY e];exact aR e pm
      . rwa[ZZ e]
    have cast:∀j,((sz (λk=>a k*A (s (if k<p then k else i)) j) (p+1):Int):Rat)=sg (λk=>(a k:Rat)*(A (s k) j:Rat)) p+(a p:Rat)*(A (s i) j:Rat):=λj=>by
      rw[JM];show sg _ p+((a p*A (s (if p<p then p else i)) j:Int):Rat)=_;rw[ZZ (Wp _),XU,cC (g:=λk=>(a k:Rat)*(A (s k) j:Rat)) λk n=>by rw[ZY n,XU]]
    have x:∀j,j<wd->((sz (λk=>a k*A (s (if k<p then k else i)) j) (p+1):Int):Rat)=((a p*b (s i):Int):Rat)*R i j:=λj d=>by
      have O:sg (λl=>sg (λk=>(a k:Rat)*(A (s k) (pv l):Rat)) p*R l j) p+(a p:Rat)*sg (λl=>(A (s i) (pv l):Rat)*R l j) p=0:=by
        rw[<- gF,<- iw,cC (g:=λ_=>0) λl f=>?_,iR];have:=cast (pv l);rw[D l f,intCast_zero]at this
        calc _=(sg (λk=>(a k:Rat)*(A (s k) (pv l):Rat)) p+(a p:Rat)*(A (s i) (pv l):Rat))*R l j:=by grind
          _=0:=by rw[<- this];grind
      rw[cast,h.comb (λk=>(a k:Rat)) d,h.dec i j G d,ZZ E,XU]
      grind
    have L:=K _ (h.sm i G);have I:a p≠0:=λz=>by
      have J:r<p:=by
        by_cases e:r=p
        . rw[e,z]at t;exact absurd rfl t
        . exact XX F e
      have:=h.ind (λk=>(a k:Rat)) (λj d=>by
        have c:=cast j;rw[x j d,z,Int.zero_mul,intCast_zero]at c
        grind) r J
      exact jm t this
    refine⟨λj=>sz (λk=>a k*A (s (if k<p then k else i)) j) (p+1),a p*b (s i),λz=>?_,?_,λj d=>?_,λj d=>?_⟩
    . rcases Int.mul_eq_zero.mp z with y|y
      . exact I y
      . lia
    . rw[VW]
      refine aL (VY (B p) L.2) (aL ?_ (kD o (show p+1<=m by lia)));exact lP _ (TZ p)
    . exact aL (N6 λk n=>by
        rw[VW];refine VY (B k) (w _ _ (h.sm _ ?_) d);by_cases e:k<p
        . rw[ZY e];exact aR e pm
        . rwa[ZZ e]) (kD o (show p+1<=m by lia))
    . rw[x j d,XT]
def gM.congr(h:gM A b m wd R p pv s)(e:∀i j,i<m->R i j=R' i j):gM A b m wd R' p pv s:=by
 have pm:=h.pm;refine⟨h.pm,h.sm,h.pw,λi l a c=>by rw[<- e i _ a];exact h.unit i l a c,λi j a d=>?_,h.ind⟩;rw[h.dec i j a d,e i j a,cC λl c=>by rw[e l j (aR c pm)]]
def gM.zero(e:∀i,i<m->0<b i):gM A b m wd (λi j=>(A i j:Rat)/(b i:Rat)) 0 pv id:=by
 refine⟨aZ _,λi c=>c,λl a=>absurd a (WU _),λi l _ a=>absurd a (WU _),λi j c f=>?_,λg _ k d=>absurd d (WU _)⟩;rw[ZZ (WU _)];have:=jm (WP (e i c));show(A i j:Rat)=(b i:Rat)*((A i j:Rat)/(b i:Rat))+0
 grind
def sw(p q x:Nat):Nat:=if x=p then q else if x=q then p else x
def gM.swap(h:gM A b m wd R p pv s){q:Nat}(v:p<=q)(r:q<m)(n:∀i j,i<m->j<wd->R' i j=R (sw p q i) j):gM A b m wd R' p pv (λi=>s (sw p q i)):=by
 have pm:=h.pm;have f:∀l,l<p->sw p q l=l:=λl a=>by unfold sw;rw[ZZ (aQ a),ZZ wE]
 have sm:∀i,i<m->sw p q i<m:=λi c=>by
  unfold sw;split
  .exact r
  .split<;>omega
 have g:∀i,(sw p q i<p)↔i<p:=λi=>by
  unfold sw;split
  .lia
  .split<;>lia
 refine⟨pm,λi c=>h.sm _ (sm i c),h.pw,λi l c a=>?_,λi j c d=>?_,λu o=>?_⟩
 .rw[n i _ c (h.pw l a),h.unit _ l (sm i c) a];by_cases e:i=l
  .rw[ZY e,e,ZY (f l a)]
  .rw[ZZ e,ZZ λz=>e ?_];have:i<p:=(g i).mp (Y3 (WH z) a);rw[<- z,f i this]
 .rw[h.dec _ j (sm i c) d,n i j c d]
  congr 1
  .by_cases e:i<p
   .rw[ZY e,ZY ((g i).mpr e)]
   .rw[ZZ e,ZZ λz=>e ((g i).mp z)]
  .exact cC λl a=>by rw[n l j (aR a pm) d,f l a]
 .exact h.ind u λj d=>by
   rw[<- o j d];exact cC λk t=>by rw[f k t]
def gM.pivot(h:gM A b m wd R p pv s)(u:p<m)(K:∀i,i<m->0<b i){c:Nat}(q:c<wd)(M:R p c≠0)(y:∀j,j<wd->R' p j*R p c=R p j)(x:∀i j,i<m->i≠p->j<wd->R' i j=R i j-R i c*R' p j) :
  gM A b m wd R' (p+1) (λl=>if l=p then c else pv l) s:=by
 have pm:=h.pm;have r:R' p c=1:=by
  have:=y c q
  grind
 have D:∀l,l<p->R' p (pv l)=0:=λl a=>by
  have:=y (pv l) (h.pw l a);rw[h.unit p l u a,ZZ (UY a)]at this
  grind
 have B:∀l,l<p->(if l=p then c else pv l)=pv l:=λl a=>ZZ (aQ a);have t:∀i j,i<m->i≠p->j<wd->R i j=R' i j+R i c*R' p j:=λi j n I d=>by rw[x i j n I d];grind
 have dec:∀i j,i<m->j<wd->(A (s i) j:Rat)=(if i<p+1 then 0 else(b (s i):Rat)*R' i j)+sg (λl=>(A (s i) (if l=p then c else pv l):Rat)*R' l j) (p+1):=λi j n d=>by
  have C:=h.dec i j n d;have v:=h.dec i c n q;have L:sg (λl=>(A (s i) (pv l):Rat)*R l j) p=sg (λl=>(A (s i) (pv l):Rat)*R' l j) p+R' p j*sg (λl=>(A (s i) (pv l):Rat)*R l c) p:=by
   rw[<- gF,<- iw];exact cC λl a=>by rw[t l j (UK a u) (aQ a) d];grind
  rw[L]at C;show _=_+(sg _ p+(A (s i) (if p=p then c else pv p):Rat)*R' p j);rw[ZY rfl,cC (g:=λl=>(A (s i) (pv l):Rat)*R' l j) λl a=>by rw[B l a]];by_cases e:i<p
  .rw[ZY (WS _ e)];rw[ZY e]at C v
   grind
  .rw[ZZ e]at C v;by_cases H:i=p
   .rw[ZY wE];subst H;have:=y j d
    grind
   .rw[ZZ wE];have:=t i j n H d
    grind
 refine⟨u,h.sm,λl a=>?_,λi l n a=>?_,dec,λf F=>?_⟩
 .by_cases e:l=p
  .show(if l=p then c else pv l)<wd;rwa[ZY e]
  .show(if l=p then c else pv l)<wd;rw[ZZ e];exact h.pw l (XX (Up a) e)
 .show R' i (if l=p then c else pv l)=_;by_cases e:l=p
  .rw[ZY e,e];by_cases o:i=p
   .rw[ZY o,o];exact r
   .rw[ZZ o,x i c n o q,r];grind
  .rw[ZZ e];have w:l<p:=by exact XX (Up a) e
   by_cases o:i=p
   .rw[o,D l w,ZZ (Ne.symm e)]
   .rw[x i _ n o (h.pw l w),D l w,h.unit i l n w];grind
 .have E:f p=0:=by
   by_cases z:f p=0
   .exact z
   .exfalso

    have d:∀j,j<wd->sg (λk=>f k*(A (s k) j:Rat)) p=-(f p*(A (s p) j:Rat)):=λj d=>by
     have:sg (λk=>f k*(A (s k) j:Rat)) p+f p*(A (s p) j:Rat)=0:=F j d
     grind
    have G:=h.comb f q;rw[d c q,cC (g:=λl=>-(f p)*((A (s p) (pv l):Rat)*R l c)) λl a=>by rw[d _ (h.pw l a)];grind,gF]at G;have v:=h.dec p c u q;rw[ZZ (Wp p)]at v;have N:=jm (WP (K _ (h.sm p u)));have:f p*((b (s p):Rat)*R p c)=0:=by rw[v]at G;grind
    grind
  intro k J;by_cases e:k=p
  .rw[e];exact E
  .refine h.ind f (λj d=>?_) k (XX (Up J) e);have:sg (λk=>f k*(A (s k) j:Rat)) p+f p*(A (s p) j:Rat)=0:=F j d;rw[E]at this
   grind
end
def vr(r:List Int×Int)(j:Nat):Rat:=((r.1.getD j 0:Int):Rat)/(r.2:Rat)
def QF{f:Int->Int}(b:f 0=0)(a:xo)(j:Nat):(a.map f).getD j 0=f (a.getD j 0):=by
 rw[au,au,aq];cases a[j]? with
 |none=>exact b.symm
 |some t=>rfl
theorem qY{r:List Int×Int}(h:0<r.2)(j:Nat):vr (jt r) j=vr r j:=by
 have a:=iQ (ts:=r.1) h;obtain⟨o,n⟩:=iK (ts:=r.1) (b:=r.2);have l:(jt r).1.getD j 0=r.1.getD j 0/ba r.1 r.2:=QF (f:=λt=>t/ba r.1 r.2) (Int.zero_ediv _) r.1 j;have m:ba r.1 r.2 ∣ r.1.getD j 0:=by
  rw[au];cases e:r.1[j]? with
  |none=>exact⟨0,by rw[Int.mul_zero];rfl⟩
  |some t=>exact n t (aC e)
 have k:(jt r).2=r.2/ba r.1 r.2:=rfl;unfold vr;rw[l,k];generalize r.1.getD j 0=t at *;generalize ba r.1 r.2=g at *;obtain⟨u,i⟩:=m;obtain⟨v,c⟩:=o;rw[i,c,jl _ (WP a),jl _ (WP a),XU,XU];have d:v≠0:=λz=>by rw[c,z,Int.mul_zero]at h;lia
 have:=jm d;have:=jm (WP a)
 grind
def j8{r:List Int×Int}{c:Β}(h:0<r.2)(a:0<c.2)(j:Nat):vr (jh r c) j=vr r j*((c.1:Rat)/(c.2:Rat)):=by
 have d:(jh r c).1.getD j 0=r.1.getD j 0*c.1:=QF (f:=λt=>t*c.1) (Int.zero_mul _) r.1 j;have b:(jh r c).2=r.2*c.2:=rfl;unfold vr;rw[d,b,XU,XU];have:=jm (WP h);have:=jm (WP a)
 grind
theorem oh{r p:List Int×Int}{c:Β}(D:0<r.2)(z:0<p.2)(A:0<c.2)(E:r.1.length=p.1.length)(j:Nat):vr (oG r p c) j=vr r j+((c.1:Rat)/(c.2:Rat))*vr p j:=by
 have F:=XZ z A;have a:=vk (t:=r.2) F;obtain⟨u,k⟩:=Int.gcd_dvd_left r.2 (p.2*c.2);obtain⟨v,f⟩:=QP r.2 (p.2*c.2);have H:oG r p c=(zipWith (λx y=>x*v+y*(u*c.1)) r.1 p.1,r.2*v):=by
  unfold oG;generalize((Int.gcd r.2 (p.2*c.2):Nat):Int)=g at a k f ⊢;have q:p.2*c.2/g=v:=by rw[f,jl _ (WP a)]
  have o:r.2/g=u:=by
   conv=>lhs;rw[k]
   exact jl _ (WP a)
  rw[q,o]
 generalize((Int.gcd r.2 (p.2*c.2):Nat):Int)=g at a k f;have B:0<v:=Int.pos_of_mul_pos_right (by rwa[<- f]) a;have G:(zipWith (λx y=>x*v+y*(u*c.1)) r.1 p.1).getD j 0=r.1.getD j 0*v+p.1.getD j 0*(u*c.1):=by
  rw[au,au,au,List.getElem?_zipWith];by_cases e:j<r.1.length
  .rw[aj e,aj (aR e (WH E))];rfl
  .rw[aM (VX e),aM wE];show(0:Int)=0*v+0*(u*c.1);rw[Int.zero_mul,Int.zero_mul];rfl
 rw[H];unfold vr;show((zipWith (λx y=>x*v+y*(u*c.1)) r.1 p.1).getD j 0:Rat)/((r.2*v:Int):Rat)=_;rw[G];generalize r.1.getD j 0=x;generalize p.1.getD j 0=y;have n:(r.2:Rat)=(g:Rat)*(u:Rat):=by rw[<- XU,<- k]
 have C:(p.2:Rat)*(c.2:Rat)=(g:Rat)*(v:Rat):=by rw[<- XU,<- XU,f]
 have I:=jm (WP D);have K:=jm (WP z);have N:=jm (WP A);have J:=jm (WP B);have L:=jm (WP a);rw[Rat.intCast_add,XU,XU,XU,XU];generalize(r.2:Rat)=d at *;generalize(p.2:Rat)=m at *;generalize(c.2:Rat)=s at *;generalize(c.1:Rat)=l at *;generalize(g:Rat)=M at *;generalize(u:Rat)=i at *;generalize(v:Rat)=b at *;generalize(x:Rat)=w at *;generalize(y:Rat)=h at *;have q:(w*b+h*(i*l))/(d*b)=w/d+h*(i*l)/(d*b):=by grind
 have o:h*(i*l)/(d*b)=l/s*(h/m):=by
  have:i*(s*m)=d*b:=by rw[n,XT s m,C];grind
  grind
 rw[q,o]
def n_{M c:Nat}{r:List Int×Int}(i:0<r.2)(g:ba r.1 r.2=1)(hw:r.1.length=c){v:Nat->Int}{u:Int}(n:u≠0)(x:u.natAbs<=M)(m:∀j,j<c->(v j).natAbs<=M)(e:∀j,j<c->vr r j*(u:Rat)=(v j:Rat)):Big M r:=by
 refine least (s:=((range c).map λj=>v j*u.sign,u.natAbs)) i g ⟨?_,λk a b l d=>?_⟩ ⟨?_,?_,λt q=>?_⟩
 .show r.1.length=((range c).map λj=>v j*u.sign).length;rw[hw,ak,W1]
 .have h:k<c:=by rw[<- hw];exact(ao.mp l).1
  have d:((range c).map λj=>v j*u.sign)[k]?=some b:=d;rw[aq,UV h]at d;cases d;show a*((u.natAbs:Nat):Int)=v k*u.sign*r.2;have f:=e k h;unfold vr at f;rw[au,l]at f;have f:(a:Rat)/(r.2:Rat)*(u:Rat)=(v k:Rat):=f;have y:=jm (WP i);have o:a*u=v k*r.2:=by
   refine Rat.intCast_inj.mp ?_;rw[XU,XU]
   grind
  have p:((u.natAbs:Nat):Int)=u*u.sign:=(Int.mul_sign_self u).symm;rw[p,<- Int.mul_assoc,o];ac_rfl
 .show(0:Int)<(u.natAbs:Nat);lia
 .show(((u.natAbs:Nat):Int)).natAbs<=M;rwa[X0]
 .obtain⟨j,w,rfl⟩:=YV.mp q;rw[VW,Int.natAbs_sign_of_ne_zero n,Nat.mul_one];exact m j (List.mem_range.mp w)
end Rw
namespace K26
open PySem PyProof.Rows L2
abbrev Ds:=top 10
abbrev jF:Str:="is_whole"
def Wr:bK Yw gQ (bH Ds):=a_
abbrev HJ:=top 11
abbrev lJ:Str:="divisor"
def YW:bK QD dB (bH HJ):=a_
abbrev Ra:=top 15
abbrev qT:Str:="ratio"
def aen:bK Vy mU (bH Ra):=a_
abbrev Cz:=top 16
abbrev oK:Str:="is_ratio"
def Ye:bK CJ jJ (bH Cz):=a_
abbrev YH:=top 17
abbrev JW:Str:="plus"
def _y:bK Uf Ay (bH YH):=a_
abbrev Ud:=top 18
abbrev xW:Str:="minus"
def ac9:bK ahA qG (bH Ud):=a_
abbrev T8:=top 19
abbrev Gw:Str:="times"
def af8:bK _o uQ (bH T8):=a_
abbrev IB:=top 20
abbrev Tr:Str:="over"
def ahN:bK Zu FQ (bH IB):=a_
abbrev Vj:=top 21
abbrev uF:Str:="under"
def aev:bK _6 oJ (bH Vj):=a_
abbrev JK:=top 23
abbrev uE:Str:="level"
def afx:bK HH oF (bH JK):=a_
abbrev T3:=top 24
abbrev Nt:Str:="total"
def adX:bK Te yt (bH T3):=a_
abbrev Cy:=top 25
abbrev zQ:Str:="greatest"
def Xx:bK Dd oR (bH Cy):=a_
abbrev pO:=top 27
abbrev tX:Str:="first_plan"
def Ox:bK vL kY (bH pO):=a_
abbrev Rh:=top 28
abbrev FW:Str:="fits"
def II:bK YG vo (bH Rh):=a_
abbrev pF:=top 29
abbrev gZ:Str:="check_plan"
def Cd:bK vU fJ (bH pF):=a_
abbrev j6:=top 30
abbrev p7:Str:="behind_door"
def M5:bK j4 jr (bH j6):=a_
abbrev ux:=top 31
abbrev qX:Str:="raised_look"
def Ln:bK BW jC (bH ux):=a_
abbrev Fx:=top 33
abbrev Bp:Str:="lowest"
def ac4:bK V8 pQ (bH Fx):=a_
abbrev rQ:=top 34
abbrev vm:Str:="row_times"
def Vr:bK xV mO (bH rQ):=a_
abbrev vD:=top 35
abbrev yc:Str:="row_plus"
def Im:bK Du oM (bH vD):=a_
abbrev xU:=top 36
abbrev vR:Str:="take_step"
def Vn:bK Ao mL (bH xU):=a_
abbrev zW:=top 37
abbrev pN:Str:="number_at"
def RL:bK yw jP (bH zW):=a_
abbrev jB:=top 38
abbrev oZ:Str:="fractions_of"
def Jx:bK jG i_ (bH jB):=a_
abbrev vZ:=top 39
abbrev ur:Str:="first_from"
def O5:bK Dz kE (bH vZ):=a_
abbrev T5:=top 40
abbrev DY:Str:="go_on"
def adL:bK Rx uz (bH T5):=a_
abbrev yx:=top 41
abbrev vM:Str:="begin_row"
def Rp:bK Il mZ (bH yx):=a_
abbrev qW:=top 42
abbrev pC:Str:="clear_column"
def Jm:bK Ak iZ (bH qW):=a_
abbrev Bo:=top 43
abbrev Cj:Str:="reduced"
def LQ:bK HD qy (bH Bo):=a_
abbrev CZ:=top 45
abbrev zM:Str:="width_of"
def Xk:bK Z4 oV (bH CZ):=a_
abbrev n8:=top 46
abbrev rH:Str:="with_rights"
def Mf:bK tY jE (bH n8):=a_
abbrev su:=top 47
abbrev vX:Str:="begins_of"
def Gi:bK xR mF (bH su):=a_
abbrev H_:=top 48
abbrev Dv:Str:="odd_row"
def Z_:bK GR qJ (bH H_):=a_
abbrev zE:=top 49
abbrev vg:Str:="answer_of"
def VB:bK IK mY (bH zE):=a_
abbrev kO:=top 50
abbrev p8:Str:="single_rows"
def L_:bK kW jy (bH kO):=a_
abbrev sY:=top 51
abbrev q_:Str:="only_answer"
def M4:bK B_ jH (bH sY):=a_
abbrev lY:=top 53
abbrev pB:Str:="chosen_doors"
def Jp:bK qg jd (bH lY):=a_
abbrev yU:=top 54
abbrev vY:Str:="left_rows"
def Vk:bK Iv lV (bH yU):=a_
abbrev sS:=top 55
abbrev pI:Str:="worths_of"
def Gn:bK zB jT (bH sS):=a_
abbrev sU:=top 57
abbrev qQ:Str:="better_door"
def Ms:bK tR jw (bH sU):=a_
abbrev DK:=top 58
abbrev Bf:Str:="mended"
def Qc:bK Ld pU (bH DK):=a_
abbrev vQ:=top 59
abbrev lR:Str:="mendings"
def oE:bK CG iG (bH vQ):=a_
abbrev Ig:=top 60
abbrev Dc:Str:="best_of"
def YD:bK ab8 qF (bH Ig):=a_
abbrev Bb:=top 63
abbrev rJ:Str:="is_word"
def Za:bK Ii lE (bH Bb):=a_
abbrev vd:=top 65
abbrev nZ:Str:="check_head"
def O1:bK wj jf (bH vd):=a_
abbrev mD:=top 66
abbrev iV:Str:="check_room_name"
def CP:bK Gp fD (bH mD):=a_
abbrev qL:=top 67
abbrev lC:Str:="check_chance"
def Jz:bK Mx gG (bH qL):=a_
abbrev nW:=top 68
abbrev qu:Str:="check_pairs"
def Mr:bK tD jq (bH nW):=a_
abbrev nR:=top 69
abbrev qz:Str:="joined_ways"
def Nr:bK BX jK (bH nR):=a_
abbrev sZ:=top 76
abbrev qK:Str:="check_share"
def Le:bK O2 jA (bH sZ):=a_
abbrev vH:=top 77
abbrev uh:Str:="numbers_of"
def Pn:bK vf kh (bH vH):=a_
abbrev o_:=top 78
abbrev nJ:Str:="numbered_ways"
def Ie:bK wU iB (bH o_):=a_
abbrev yC:=top 79
abbrev vW:Str:="offers_of"
def UG:bK Ja mV (bH yC):=a_
abbrev ZQ:=top 82
abbrev Br:Str:="_law_cell"
def ah2:bK Zm sJ (bH ZQ):=a_
abbrev Nq:=top 83
abbrev gH:Str:="_law_stream"
def abU:bK W8 eV (bH Nq):=a_
abbrev He:=top 84
abbrev Ut:Str:="_law_gcd"
def Hk:bK Fa ug (bH He):=a_
abbrev M9:=top 85
abbrev uU:Str:="_law_ratio"
def acD:bK XJ nQ (bH M9):=a_
abbrev xP:=top 86
abbrev wL:Str:="_law_is_ratio"
def TV:bK zR mK (bH xP):=a_
abbrev pH:=top 87
abbrev uf:Str:="_law_are_ratios"
def Og:bK uY kJ (bH pH):=a_
abbrev ft:=top 88
abbrev T_:Str:="_law_same"
def agL:bK TN Dw (bH ft):=a_
abbrev Aw:=top 89
abbrev K6:Str:="_law_names"
def ad9:bK v8 zF (bH Aw):=a_
abbrev QV:=top 90
abbrev Mj:Str:="_law_share"
def adQ:bK Iy yR (bH QV):=a_
abbrev FO:=top 91
abbrev Zd:Str:="_law_pay"
def XB:bK EZ Nv (bH FO):=a_
abbrev CT:=top 92
abbrev RW:Str:="_law_door"
def UL:bK uZ DP (bH CT):=a_
abbrev Kd:=top 93
abbrev Ky:Str:="_law_doors"
def Yq:bK IX zj (bH Kd):=a_
abbrev Eh:=top 94
abbrev LR:Str:="_law_built"
def Xl:bK Eb z9 (bH Eh):=a_
abbrev QZ:=top 95
abbrev Uy:Str:="_law_hall"
def _2:bK ZX Gy (bH QZ):=a_
abbrev Kp:=top 96
abbrev Ax:Str:="_law_chosen"
def acO:bK Xo pR (bH Kp):=a_
abbrev Y4:=top 97
abbrev J2:Str:="_law_look"
def ag7:bK FV Aq (bH Y4):=a_
abbrev Rb:=top 98
abbrev KQ:Str:="_law_below"
def afa:bK ag9 zP (bH Rb):=a_
abbrev Fq:=top 99
abbrev MP:Str:="_law_taken"
def afQ:bK Er zy (bH Fq):=a_
abbrev Tn:=top 100
abbrev TX:Str:="_law_step"
def _m:bK YQ GF (bH Tn):=a_
abbrev Td:=top 101
abbrev GD:Str:="_law_right"
def afz:bK Ic uG (bH Td):=a_
abbrev G3:=top 102
abbrev uV:Str:="_law_is_plan"
def aae:bK Qd nH (bH G3):=a_
abbrev ZM:=top 103
abbrev RB:Str:="_law_size"
def _S:bK Y7 Eo (bH ZM):=a_
abbrev Dk:=top 104
abbrev yO:Str:="_law_corridor"
def X7:bK M_ oO (bH Dk):=a_
abbrev Vp:=top 105
abbrev Mi:Str:="_law_rooms"
def afA:bK Q8 xM (bH Vp):=a_
abbrev J_:=top 106
abbrev Nj:Str:="_law_start"
def afj:bK RQ yW (bH J_):=a_
abbrev Tq:=top 107
abbrev Ng:Str:="_law_chain"
def aeH:bK agK Am (bH Tq):=a_
abbrev F3:=top 108
abbrev Yy:Str:="_law_odd"
def XE:bK Pe Kr (bH F3):=a_
abbrev MF:=top 109
abbrev Hh:Str:="_law_spoilt"
def abN:bK adR uD (bH MF):=a_
abbrev HY:=top 110
abbrev Dt:Str:="_law_refused"
def LK:bK Qo qU (bH HY):=a_
abbrev zU:=top 111
abbrev v7:Str:="_law_plan_told"
def TF:bK I9 lW (bH zU):=a_
abbrev IC:=top 112
abbrev Uo:Str:="_law_best"
def _4:bK FD Ft (bH IC):=a_
abbrev Ar:=top 113
abbrev Dp:Str:="_law_changed"
def Dg:bK QK qH (bH Ar):=a_
abbrev Mq:=top 114
abbrev Yz:Str:="law"
def HW:bK Ws Sx (bH Mq):=a_
abbrev zm:Stmt:=gW 70 0
abbrev Es:Str:="__init__"
abbrev Ea:Str:="Door.__init__"
def R5:bK z8 jR (bH zm):=a_
abbrev Ad:Stmt:=gW 70 1
abbrev FN:Str:="ways"
abbrev FJ:Str:="Door.ways"
def Ul:bK Xy lX (bH Ad):=a_
abbrev xH:Stmt:=gW 71 0
abbrev GJ:Str:="__init__"
abbrev DR:Str:="Sure.__init__"
def U6:bK xO lZ (bH xH):=a_
abbrev u9:Stmt:=gW 72 0
abbrev BK:Str:="__init__"
abbrev Cg:Str:="Mixed.__init__"
def Oi:bK wg gY (bH u9):=a_
abbrev Aj:Stmt:=gW 73 0
abbrev Ey:Str:="__init__"
abbrev Fy:Str:="Toss.__init__"
def Q9:bK Jc mC (bH Aj):=a_
abbrev rT:Stmt:=gW 74 0
abbrev DX:Str:="__init__"
abbrev Fg:Str:="Even.__init__"
def Ux:bK yK m6 (bH rT):=a_
abbrev rZ:Stmt:=gW 80 0
abbrev Fe:Str:="__init__"
abbrev Ge:Str:="Hall.__init__"
def Vw:bK zN mj (bH rZ):=a_
abbrev zX:Stmt:=gW 80 1
abbrev Gm:Str:="size"
abbrev Fd:Str:="Hall.size"
def Q_:bK Xz gR (bH zX):=a_
abbrev mR:Stmt:=gW 80 4
abbrev qe:Str:="check_room"
abbrev pZ:Str:="Hall.check_room"
def CN:bK Ej gC (bH mR):=a_
abbrev oA:Stmt:=gW 80 6
abbrev yI:Str:="offers"
abbrev zH:Str:="Hall.offers"
def Lq:bK uq eU (bH oA):=a_
abbrev uw:Stmt:=gW 8 0
abbrev Ai:Str:="__init__"
abbrev xu:Str:="NoPlan.__init__"
def MN:bK Py jM (bH uw):=a_
structure be where
 HallError:Addr
 NoPlan:Addr
 Door:Addr
 Sure:Addr
 Mixed:Addr
 Toss:Addr
 Even:Addr
 Hall:Addr
 NOUGHT:Addr
 ONE:Addr
 Door_init:Addr
 Door_ways:Addr
 Sure_init:Addr
 Mixed_init:Addr
 Toss_init:Addr
 Even_init:Addr
 Hall_init:Addr
 Hall_size:Addr
 Hall_check_room:Addr
 Hall_offers:Addr
 NoPlan_init:Addr
structure Txt(K:Frag)(mg:Str->Ω)(D:be):Prop where
 aeY:mg "Door"=some (.ref D.Door)
 alF:mg "Even"=some (.ref D.Even)
 akN:mg "Hall"=some (.ref D.Hall)
 V4:mg "HallError"=some (.ref D.HallError)
 Sw:mg "Mixed"=some (.ref D.Mixed)
 j5:mg "NOUGHT"=some (.ref D.NOUGHT)
 Mw:mg "NoPlan"=some (.ref D.NoPlan)
 Io:mg "ONE"=some (.ref D.ONE)
 akl:mg "Sure"=some (.ref D.Sure)
 aly:mg "Toss"=some (.ref D.Toss)
 aek:mroIn K D.NoPlan (.type "BaseException")=some true
 af4:typeIn K (.ref D.NoPlan)=some (.type "type")
 KJ:∃u,mg "LONGEST_WORD"=some u/\z0 (.int 8) u
 je:∀H,SqT K H D.NOUGHT [.int 0,.int 1]
 yu:∀H,SqT K H D.ONE [.int 1,.int 1]
 agc:Cls K D.Door
 Rm:Meth K D.Door "ways" D.Door_ways
 Ot:cD K D.Door "leads"
 RX:cD K D.Door "name"
 Jk:cD K D.Door "numbers"
 Jg:cD K D.Door "offered"
 W7:cD K D.Door "pay"
 Pu:cD K D.Door "share"
 ahh:Mk K D.Sure D.Sure_init
 afE:Cls K D.Sure
 Va:Meth K D.Sure "ways" D.Door_ways
 PB:cD K D.Sure "leads"
 Uq:cD K D.Sure "name"
 Jo:cD K D.Sure "numbers"
 JC:cD K D.Sure "offered"
 Xh:cD K D.Sure "pay"
 Oe:cD K D.Sure "share"
 ae1:Mk K D.Mixed D.Mixed_init
 abI:Cls K D.Mixed
 Pb:Meth K D.Mixed "ways" D.Door_ways
 Ny:cD K D.Mixed "leads"
 Pa:cD K D.Mixed "name"
 GP:cD K D.Mixed "numbers"
 G6:cD K D.Mixed "offered"
 Tf:cD K D.Mixed "pay"
 KY:cD K D.Mixed "share"
 ags:Mk K D.Toss D.Toss_init
 ad5:Cls K D.Toss
 Sy:Meth K D.Toss "ways" D.Door_ways
 Pj:cD K D.Toss "leads"
 Ri:cD K D.Toss "name"
 JD:cD K D.Toss "numbers"
 Jj:cD K D.Toss "offered"
 WT:cD K D.Toss "pay"
 Oc:cD K D.Toss "share"
 ahL:Mk K D.Even D.Even_init
 af5:Cls K D.Even
 T9:Meth K D.Even "ways" D.Door_ways
 N_:cD K D.Even "leads"
 RK:cD K D.Even "name"
 JF:cD K D.Even "numbers"
 Jt:cD K D.Even "offered"
 Yg:cD K D.Even "pay"
 Om:cD K D.Even "share"
 agA:Mk K D.Hall D.Hall_init
 jD:Cls K D.Hall
 Cp:Meth K D.Hall "check_room" D.Hall_check_room
 jo:Meth K D.Hall "offers" D.Hall_offers
 pJ:Meth K D.Hall "size" D.Hall_size
 O4:cD K D.Hall "leads"
 Tj:cD K D.Hall "name"
 Jv:cD K D.Hall "numbers"
 JG:cD K D.Hall "offered"
 Wb:cD K D.Hall "pay"
 O7:cD K D.Hall "share"
 xi_NoPlan:Tg K D.NoPlan D.HallError D.NoPlan_init
 xs_NoPlan:i9 K D.NoPlan
 xk_NoPlan:ir K D.NoPlan
 hd_NoPlan:hasDictIn K D.NoPlan
 sm_NoPlan:mroIn K D.NoPlan (.ref D.NoPlan)=some true
 z6:cD K D.NoPlan "room"
 ib_HallError:oS K D.HallError
 Fz:Jd K D.Door "__init__" D.Door_init
 Ti:Bu K Es Ea zm jR D.Door_init
 SJ:Bu K FN FJ Ad lX D.Door_ways
 RP:Bu K GJ DR xH lZ D.Sure_init
 Bx:Jd K D.Mixed "__init__" D.Mixed_init
 Ob:Bu K BK Cg u9 gY D.Mixed_init
 Vz:Bu K Ey Fy Aj mC D.Toss_init
 VD:Bu K DX Fg rT m6 D.Even_init
 R8:Bu K Fe Ge rZ mj D.Hall_init
 Ur:Bu K Gm Fd zX gR D.Hall_size
 Di:Bu K qe pZ mR gC D.Hall_check_room
 Lh:Bu K yI zH oA eU D.Hall_offers
 M7:Bu K Ai xu uw jM D.NoPlan_init
 Wi:mg "abs"=none
 WX:mg "all"=none
 an0:mg "any"=none
 Mu:mg "bool"=none
 lU:mg "enumerate"=none
 Qk:mg "int"=none
 cH:mg "isinstance"=none
 cX:mg "len"=none
 lG:mg "list"=none
 fK:mg "range"=none
 afF:mg "sorted"=none
 anF:mg "str"=none
 aew:mg "sum"=none
 Gd:mg "tuple"=none
 Wg:mg "zip"=none
 Zn:cM K mg jF Ds gQ
 ab5:cM K mg lJ HJ dB
 ah1:cM K mg qT Ra mU
 aaf:cM K mg oK Cz jJ
 alG:cM K mg JW YH Ay
 ag1:cM K mg xW Ud qG
 ain:cM K mg Gw T8 uQ
 als:cM K mg Tr IB FQ
 aiC:cM K mg uF Vj oJ
 ahZ:cM K mg uE JK oF
 f_total:cM K mg Nt T3 yt
 Zt:cM K mg zQ Cy oR
 U0:cM K mg tX pO kY
 adP:cM K mg FW Rh vo
 Et:cM K mg gZ pF fJ
 Pq:cM K mg p7 j6 jr
 Pz:cM K mg qX ux jC
 af2:cM K mg Bp Fx pQ
 Wt:cM K mg vm rQ mO
 YB:cM K mg yc vD oM
 Xi:cM K mg vR xU mL
 X4:cM K mg pN zW jP
 Lw:cM K mg oZ jB i_
 TJ:cM K mg ur vZ kE
 ahE:cM K mg DY T5 uz
 Yo:cM K mg vM yx mZ
 Km:cM K mg pC qW iZ
 abG:cM K mg Cj Bo qy
 Zk:cM K mg zM CZ oV
 Pk:cM K mg rH n8 jE
 WW:cM K mg vX su mF
 ab3:cM K mg Dv H_ qJ
 Yj:cM K mg vg zE mY
 Oh:cM K mg p8 kO jy
 Ph:cM K mg q_ sY jH
 K3:cM K mg pB lY jd
 V3:cM K mg vY yU lV
 X6:cM K mg pI sS jT
 Oo:cM K mg qQ sU jw
 aeD:cM K mg Bf DK pU
 Mt:cM K mg lR vQ iG
 acP:cM K mg Dc Ig qF
 abJ:cM K mg rJ Bb lE
 Ss:cM K mg nZ vd jf
 Dy:cM K mg iV mD fD
 NP:cM K mg lC qL gG
 O_:cM K mg qu nW jq
 O9:cM K mg qz nR jK
 O8:cM K mg qK sZ jA
 Vf:cM K mg uh vH kh
 Ji:cM K mg nJ o_ iB
 V_:cM K mg vW yC mV
 ali:cM K mg Br ZQ sJ
 aes:cM K mg gH Nq eV
 al7:cM K mg Ut He ug
 ad4:cM K mg uU M9 nQ
 Wo:cM K mg wL xP mK
 Uu:cM K mg uf pH kJ
 ake:cM K mg T_ ft Dw
 ahD:cM K mg K6 Aw zF
 ag8:cM K mg Mj QV yR
 alO:cM K mg Zd FO Nv
 akY:cM K mg RW CT DP
 aiK:cM K mg Ky Kd zj
 aiL:cM K mg LR Eh z9
 ak7:cM K mg Uy QZ Gy
 adS:cM K mg Ax Kp pR
 f_look:cM K mg J2 Y4 Aq
 aiM:cM K mg KQ Rb zP
 aiw:cM K mg MP Fq zy
 alw:cM K mg TX Tn GF
 ahk:cM K mg GD Td uG
 acL:cM K mg uV G3 nH
 akm:cM K mg RB ZM Eo
 Y_:cM K mg yO Dk oO
 ahM:cM K mg Mi Vp xM
 aic:cM K mg Nj J_ yW
 ah5:cM K mg Ng Tq Am
 apy:cM K mg Yy F3 Kr
 aeN:cM K mg Hh MF uD
 ac3:cM K mg Dt HY qU
 Yc:cM K mg v7 zU lW
 ale:cM K mg Uo IC Ft
 ach:cM K mg Dp Ar qH
def bv(D:be)(C:Addr):Prop:=C=D.Door\/C=D.Sure\/C=D.Mixed\/C=D.Toss\/C=D.Even\/C=D.Hall
variable{D:be}{c:RT}{a:Int}{i j m n k I N A M R Q O:Nat}{x:Str}{y:Nat->Rat}{r s:Rat}{v u:xj}{J:Type}{E:DT}{o:xy}{F:wa}{t:zI}{h p W:xf}{G:Ζ}{S:L2.St}{H:Hp}{l:Φ}{te:TE}{L:List (List L2.T)}
def Txt.cl{K:Frag}{a:Str->Ω}(T:Txt K a D):∀C,bv D C->Cls K C:=by
 rintro C (rfl|rfl|rfl|rfl|rfl|rfl)
 .exact T.agc
 .exact T.afE
 .exact T.abI
 .exact T.ad5
 .exact T.af5
 .exact T.jD
def Txt.Ga{K:Frag}{a:Str->Ω}(T:Txt K a D):∀C,bv D C->cD K C "leads":=by
 rintro C (rfl|rfl|rfl|rfl|rfl|rfl)
 .exact T.Ot
 .exact T.PB
 .exact T.Ny
 .exact T.Pj
 .exact T.N_
 .exact T.O4
def Txt.Kg{K:Frag}{a:Str->Ω}(T:Txt K a D):∀C,bv D C->cD K C "name":=by
 rintro C (rfl|rfl|rfl|rfl|rfl|rfl)
 .exact T.RX
 .exact T.Uq
 .exact T.Pa
 .exact T.Ri
 .exact T.RK
 .exact T.Tj
def Txt.Cv{K:Frag}{a:Str->Ω}(T:Txt K a D):∀C,bv D C->cD K C "numbers":=by
 rintro C (rfl|rfl|rfl|rfl|rfl|rfl)
 .exact T.Jk
 .exact T.Jo
 .exact T.GP
 .exact T.JD
 .exact T.JF
 .exact T.Jv
def Txt.Kl{K:Frag}{a:Str->Ω}(T:Txt K a D):∀C,bv D C->cD K C "offered":=by
 rintro C (rfl|rfl|rfl|rfl|rfl|rfl)
 .exact T.Jg
 .exact T.JC
 .exact T.G6
 .exact T.Jj
 .exact T.Jt
 .exact T.JG
def Txt.aeE{K:Frag}{a:Str->Ω}(T:Txt K a D):∀C,bv D C->cD K C "pay":=by
 rintro C (rfl|rfl|rfl|rfl|rfl|rfl)
 .exact T.W7
 .exact T.Xh
 .exact T.Tf
 .exact T.WT
 .exact T.Yg
 .exact T.Wb
def Txt.Lz{K:Frag}{a:Str->Ω}(T:Txt K a D):∀C,bv D C->cD K C "share":=by
 rintro C (rfl|rfl|rfl|rfl|rfl|rfl)
 .exact T.Pu
 .exact T.Oe
 .exact T.KY
 .exact T.Oc
 .exact T.Om
 .exact T.O7
def d9(D:be)(C:Addr):Prop:=C=D.Door\/C=D.Sure\/C=D.Mixed\/C=D.Toss\/C=D.Even
def d9.fam{C:Addr}(h:d9 D C):bv D C:=by
 unfold d9 at h;unfold bv;rcases h with h|h|h|h|h<;>simp[h]
def Txt.Sd{K:Frag}{a:Str->Ω}(T:Txt K a D):∀C,d9 D C->Meth K C "ways" D.Door_ways:=by
 rintro C (rfl|rfl|rfl|rfl|rfl)
 .exact T.Rm
 .exact T.Va
 .exact T.Pb
 .exact T.Sy
 .exact T.T9
class Bs where
 P:Program
 w:World
 K:Frag
 mg:Str->Ω
 base:Heap
section
open Bs (P w K mg base)
abbrev gT[Bs](k:Nat)(x:Str)(u:Φ)(S:ST):Prop:=J9 P w K mg base k x u S
abbrev gI[Bs](k:Nat)(a:Addr)(u:Φ)(S:ST):Prop:=OkI P w K mg base bc k a u (fS K S)
abbrev FT[Bs](k:Nat)(f:Addr)(U:FuncData)(u:Φ)(S:ST):Prop:=fX P w K mg base bc k f U u (fS K S)
abbrev Fu[Bs](n:Str)(s:Stmt)(f:Addr)(U:FuncData):Prop:=Fun K n n s f U
abbrev Tx[Bs](D:be):Prop:=Txt K mg D
variable[Bs]{D:be}{f:Addr}{U:FuncData}
def ya{k:Nat}{n:Str}{a:Stmt}{u:Φ}{b:Sp}(h:cM K mg n a u)(g:∀{f U},Fun K n n a f U->fX P w K mg base bc k f U u b):e_ P w K mg base k n u b:=h.ok λ_ _=>g
def yB{k:Nat}{x:Str}{c:Stmt}{u N:Φ}{S:ST}(h:cM K mg x c u)(g:bK N u (bH c)) {r}(i:∀{f:Addr}{e:Value}{A:Around}{a:xa}{s:Shared}{H:Hp}{E:XK},eN k (A.deeper (envOfC x (bH c) s.zs f e))->N.Nodup ->er (Gr bc P w K mg base N x (bH c) f e A a s H E).nox (fP c) r)(j:∀b R,S b R->r { nx:=λ_=>R (.fz .non),rt:=R } (start' N.length b))(d:∀b R,S b R->b.length=u.length:=by intro _ _ h;repeat (first|exact(ZH List.length h.1).trans rfl|obtain⟨_,h⟩:=h)):e_ P w K mg base (k+1) x u (fS K S):=ya h λF=>F.okT g i j d
def ye{X:ff}{k:Nat}{n m:Str}{a:Stmt}{u:Φ}{f:Addr}{b:Sp}(h:Bu K n m a u f)(g:∀{U},Fun K n m a f U->fX P w K mg base X k f U u b):OkI P w K mg base X k f u b:=h.ok λ_=>g
def yf{k:Nat}{n:Str}{a:Stmt}{u:Φ}{b:Sp}(h:cM K mg n a u)(g:∀{f U},Fun K n n a f U->fX P w K mg base (gx P w) k f U u b):l5 P w K mg base k n u b:=h.okX λ_ _=>g
abbrev tK(f:Β):T:=.tup [.int f.1,.int f.2]
def tG:T->wx
 |.int _=>some true
 |.bl _=>some false
 |.non=>some false
 |.str _=>some false
 |.tup _=>some false
 |.lst _=>some false
 |_=>none
def lO:ST:=λa q=>∃t b,a=[t]/\tG t=some b/\q (.fz (.bl b))
def WM(T:Tx D):gT 1 jF gQ lO:=yB T.Zn Wr (λ_ _=>bG (bM (wO (h_ .int vx T.cH T.Qk boot_int) (zu (FU (h_ .bool vx T.cH T.Mu boot_bool))))))<|by
 rintro _ R ⟨t,b,rfl,h,q⟩;cases t<;>cases h<;>exact q
def nF:ST:=λc q=>∃a b,c=[.int a,.int b]/\q (.fz (.int (Int.gcd a b)))
def ji(T:Tx D):gT 1 lJ dB nF:=yB T.ab5 YW (λc _=>bF (bT 2 (bN Ly T.Wi boot_abs (bx vx bC)))
  (bF (bT 3 (bN Ly T.Wi boot_abs (bx vw bC)))
  (bF (Li (bW (jZ c.units) vc bA)
  (bF (bT 4 (bL cF vy vc))
  (bF (bT 2 vc)
  (bG (bT 3 vt)))))
  (bG (bM vy)))))<|by
 rintro _ R ⟨a,b,rfl,q⟩;refine⟨λm o=>∃(l r:Nat)(x:OT),o=[.fz (.int a),.fz (.int b),.fz (.int l),.fz (.int r),x]/\Nat.gcd l r=Int.gcd a b/\m=r,⟨_,_,_,_,rfl,rfl,rfl⟩,?_⟩;rintro m _ ⟨l,r,x,rfl,d,e⟩;refine iP (λh=>?_) λh=>?_
 .have c:r≠0:=by intro z;subst z;cases h
  refine⟨λo=>∃x,o=[.fz (.int a),.fz (.int b),.fz (.int r),.fz (.int ((l%r:Nat):Int)),x],?_,?_⟩
  .rintro _ ⟨x,rfl⟩;exact⟨l%r,by have:=mod_lt l (Nat.pos_of_ne_zero c);lia,r,l%r,x,rfl,(gcd_comm r (l%r)).trans ((Nat.gcd_rec r l).symm.trans ((gcd_comm r l).trans d)),rfl⟩
  .exact⟨by lia,_,by rw[Int.natCast_emod];rfl⟩
 .have c:r=0:=by
   by_cases z:r=0
   .exact z
   .have:(decide ((r:Int)=0))=false:=Zp wE;rw[show xr true (decide ((r:Int)=0)) = !decide ((r:Int)=0)from rfl,this]at h;cases h
  subst c;rw[Nat.gcd_zero_right]at d;rw[<- d]at q;exact q
structure l9(t b x y:Int):Prop where
 pos:0<y
 gcd:Int.gcd x y=1
 eq:x*b=t*y
 lx:x.natAbs<=t.natAbs
 ly:y.natAbs<=b.natAbs
def MK{c q:Int}(h:c≠0):fdiv (c*q) c=q:=by
 rw[Int.fdiv_eq_ediv_of_dvd (Int.dvd_mul_right c q),jl _ h]
def Ks{c q:Int}(h:c≠0):q.natAbs<=(c*q).natAbs:=by
 rw[VW];exact lP _ wE
def xG{t b c:Int}(i:b≠0)(a:c≠0)(d:c.natAbs=Int.gcd t b)(f:0<c*b):l9 t b (fdiv t c) (fdiv b c):=by
 have h:c ∣ t:=Int.natAbs_dvd.mp (by rw[d];exact Int.gcd_dvd_left t b);have g:c ∣ b:=Int.natAbs_dvd.mp (by rw[d];exact QP t b);obtain⟨x,rfl⟩:=h;obtain⟨y,rfl⟩:=g;rw[MK a,MK a];refine⟨?_,?_,?_,Ks a,Ks a⟩
 .rw[<- Int.mul_assoc]at f;have e:0<c*c:=by
   rcases Int.lt_or_lt_of_ne a with z|z
   .exact Int.mul_pos_of_neg_of_neg z z
   .exact XZ z z
  exact Int.pos_of_mul_pos_right f e
 .rw[Int.gcd_mul_left]at d;have e:0<c.natAbs:=by lia
  exact Nat.eq_of_mul_eq_mul_left e (by rw[Nat.mul_one];exact d.symm)
 .rw[Int.mul_left_comm,Int.mul_assoc]
def ou{b:Int}(c:b≠0):(0:Int)<(Int.gcd a b:Nat):=by
 have:=lM a c;lia
def Qe{i j:Int}(h:i.natAbs<=j.natAbs)(k:Bd j):Bd i:=Y3 h k
theorem GH{i:Int}(h:Bd i):Bd (-i):=by unfold Bd at *;rwa[Int.natAbs_neg]
def YX{b:Int}(c:b≠0)(h:Bd b):Bd ((Int.gcd a b:Nat):Int):=Qe (by
 have:=UR wE (Int.gcd_dvd_natAbs_right a b);omega) h
def uM:ST:=λa q=>∃t b,a=[.int t,.int b]/\b≠0/\Bd b/\∀x y,l9 t b x y->q (.fz (tK (x,y)))
def gV(T:Tx D):gT 2 qT mU uM:=yB T.ah1 aen (λf _=>bF (cB (QW.qt (fW (dg (cJ (bI (WM T) (bx vx bC)))) (fu (dg (cJ (bI (WM T) (bx vw bC)))))))
  (bG gK)
  bQ)
  (bF (cB (bW (z5 f.units) vw bA)
  (bG gK)
  bQ)
  (bF (bT 2 (bI (ji T) (bx vx (bx vw bC))))
  (bF (cB (bW rY vw bA)
  (bG (bT 2 (wu vy)))
  bQ)
  (bG (bM (dU (bx (bL nu vx vy) (bx (bL nu vw vy) bC)))))))))<|by
 rintro _ R ⟨t,b,rfl,c,hd,q⟩;refine⟨_,_,rfl,rfl,_,_,rfl,rfl,?_⟩;have d:=ou (a:=t) c;have g1:=YX (a:=t) c hd;refine cg (Zp c) ⟨_,_,rfl,cR (λe=>⟨⟨by omega,GH g1⟩,⟨by omega,GH g1⟩,q _ _ (xG c (by omega) wE (Int.mul_pos_of_neg_of_neg wE e))⟩) λe=>⟨⟨by exact WP d,g1⟩,⟨by exact WP d,g1⟩,q _ _ (xG c (WP d) wE (XZ d wE))⟩⟩
abbrev aa(r:Rat):T:=.tup [.int r.num,.int r.den]
def jN{t b x y:Int}(h:l9 t b x y)(c:b≠0):tK (x,y)=aa (divInt t b):=by
 have a:=h.pos;have e:divInt t b=⟨x,y.toNat,by lia,by have:=h.gcd;unfold Int.gcd at this;rw[show y.toNat=y.natAbs by lia];exact this⟩:=by
  rw[Rat.mk_eq_divInt,show((y.toNat:Nat):Int)=y by exact Int.toNat_of_nonneg (XY a)];exact(Q1 c (WP a)).mpr h.eq.symm
 rw[e];show T.tup [.int x,.int y]=.tup [.int x,.int (y.toNat:Nat)];rw[show((y.toNat:Nat):Int)=y by exact Int.toNat_of_nonneg (XY a)]
def rd(r:Rat):divInt r.num r.den=r:=Rat.num_divInt_den r
def lF(r:Rat):((r.den:Nat):Int)≠0:=by have:=r.den_pos;lia
def Bq(r:Rat):Prop:=Bd r.num/\Bd (r.den:Nat)
def Vb:ST:=λc q=>∃a b:Rat,c=[aa a,aa b]/\Bq a/\Bq b/\Bd ((a.den:Int)*b.den)/\q (.fz (aa (a+b)))
def El:ST:=λc q=>∃a b:Rat,c=[aa a,aa b]/\Bq a/\Bq b/\Bd ((a.den:Int)*b.den)/\q (.fz (aa (a-b)))
def K_:ST:=λc q=>∃a b:Rat,c=[aa a,aa b]/\Bq a/\Bq b/\Bd ((a.den:Int)*b.den)/\q (.fz (aa (a*b)))
def aaT:ST:=λc q=>∃a b:Rat,c=[aa a,aa b]/\b≠0/\Bq a/\Bq b/\Bd ((a.den:Int)*b.num)/\q (.fz (aa (a/b)))
def xK:ST:=λc q=>∃a b:Rat,c=[aa a,aa b]/\Bq a/\Bq b/\q (.fz (.bl (decide (a<b))))
def nG{b:Int}(d:a≠0)(c:b≠0):a*b≠0:=λz=>(Int.mul_eq_zero.mp z).elim d c
def Fs(T:Tx D):gT 3 JW Ay Vb:=yB T.alG _y (λ_ _=>bG (bM (bI (gV T) (bx (bL cW (bL cY (bJ vx bA) (bJ vw bA)) (bL cY (bJ vw bA) (bJ vx bA))) (bx (bL cY (bJ vx bA) (bJ vw bA)) bC)))))<|by
 rintro _ R ⟨a,b,rfl,d,c,hd,q⟩;refine⟨⟨d.1,c.2⟩,⟨c.1,d.2⟩,⟨d.2,c.2⟩,_,_,rfl,nG (lF a) (lF b),hd,λx y l=>?_⟩;rw[jN l (nG (lF a) (lF b)),<- JU _ _ (lF a) (lF b),rd,rd];exact q
def pX(T:Tx D):gT 3 xW qG El:=yB T.ag1 ac9 (λ_ _=>bG (bM (bI (gV T) (bx (bL tO (bL cY (bJ vx bA) (bJ vw bA)) (bL cY (bJ vw bA) (bJ vx bA))) (bx (bL cY (bJ vx bA) (bJ vw bA)) bC)))))<|by
 rintro _ R ⟨a,b,rfl,d,c,hd,q⟩;refine⟨⟨d.1,c.2⟩,⟨c.1,d.2⟩,⟨d.2,c.2⟩,_,_,rfl,nG (lF a) (lF b),hd,λx y l=>?_⟩;rw[jN l (nG (lF a) (lF b)),<- Rat.divInt_sub_divInt _ _ (lF a) (lF b),rd,rd];exact q
def pf(T:Tx D):gT 3 Gw uQ K_:=yB T.ain af8 (λ_ _=>bG (bM (bI (gV T) (bx (bL cY (bJ vx bA) (bJ vw bA)) (bx (bL cY (bJ vx bA) (bJ vw bA)) bC)))))<|by
 rintro _ R ⟨a,b,rfl,d,c,hd,q⟩;refine⟨⟨d.1,c.1⟩,⟨d.2,c.2⟩,_,_,rfl,nG (lF a) (lF b),hd,λx y l=>?_⟩;rw[jN l (nG (lF a) (lF b)),<- Q2,rd,rd];exact q
def __(T:Tx D):gT 3 Tr FQ aaT:=yB T.als ahN (λ_ _=>bG (bM (bI (gV T) (bx (bL cY (bJ vx bA) (bJ vw bA)) (bx (bL cY (bJ vx bA) (bJ vw bA)) bC)))))<|by
 rintro _ R ⟨a,b,rfl,f,e,d,hd,q⟩;have c:b.num≠0:=λz=>f (by rw[<- rd b,z];exact JS _);refine⟨⟨e.1,d.2⟩,⟨e.2,d.1⟩,_,_,rfl,nG (lF a) c,hd,λx y l=>?_⟩;rw[jN l (nG (lF a) c),<- Q2,rd,<- Rat.inv_def,<- Rat.div_def];exact q
def ib(T:Tx D):gT 1 uF oJ xK:=yB T.aiC aev (λ_ _=>bG (bM (mq rY (bL cY (bJ vx bA) (bJ vw bA)) (bL cY (bJ vw bA) (bJ vx bA)))))<|by
 rintro _ R ⟨a,b,rfl,d,c,q⟩;refine⟨⟨d.1,c.2⟩,⟨c.1,d.2⟩,?_⟩;rw[show decide (a<b)=decide (a.num*(b.den:Int)<b.num*(a.den:Int))from decide_eq_decide.mpr (lt_iff a b)]at q;exact q
def sG:ST:=λa q=>∃r:Rat,a=[aa r]/\q (.fz (.bl true))
def Yh(T:Tx D):gT 2 oK jJ sG:=yB T.aaf Ye (λa _=>bF (cB (QW.qt (fW (dg (cJ (h_ .tuple vx T.cH T.Gd boot_tuple))) (fu (bW (jZ a.units) (bN cG T.cX WJ (bx vx bC)) bA))))
  (bG (bM fj))
  bQ)
  (bF (bT 1 (bJ vx bA))
  (bF (bT 2 (bJ vx bA))
  (bF (cB (QW.qt (fW (dg (cJ (bI (WM T) (bx vw bC)))) (fu (dg (cJ (bI (WM T) (bx vy bC)))))))
  (bG (bM fj))
  bQ)
  (bG (bM (wO (mq oP vy bA) (zu (mq (z5 a.units) (bI (ji T) (bx vw (bx vy bC))) bA)))))))))<|by
 rintro _ R ⟨r,rfl,q⟩;refine⟨_,_,rfl,rfl,_,_,rfl,rfl,?_⟩;have:=r.den_pos;refine dV (Zs wE) ⟨_,_,rfl,?_⟩;rw[show Int.gcd r.num r.den=1 from r.reduced];exact q
def OE:xf->Nat
 |[]=>1
 |r::h=>Nat.lcm r.den (OE h)
def c7(n:Nat):xf->Nat
 |[]=>n
 |r::h=>c7 (Nat.lcm n r.den) h
theorem gU:∀(h:xf){n:Nat},0<n->0<c7 n h
 |[],_,a=>a
 |r::h,_,a=>gU h (Nat.lcm_pos a r.den_pos)
theorem k_:∀(h:xf){n:Nat},n ∣ c7 n h/\∀r∈h,r.den ∣ c7 n h
 |[],n=>⟨Nat.dvd_refl n,λ_ z=>(nomatch z)⟩
 |r::h,n=>by
  obtain⟨a,b⟩:=k_ h (n:=Nat.lcm n r.den);refine⟨Nat.dvd_trans (Nat.dvd_lcm_left ..) a,λx c=>?_⟩;rcases YU.mp c with rfl|z
  .exact Nat.dvd_trans (Nat.dvd_lcm_right ..) a
  .exact b x z
theorem rK:∀(h:xf){n m:Nat},n ∣ m->(∀r∈h,r.den ∣ m)->c7 n h ∣ m
 |[],_,_,a,_=>a
 |r::h,_,_,a,k=>rK h (Nat.lcm_dvd a (k r (aO ..))) λx b=>k x (aJ _ b)
theorem N5:∀(b a:xf)(n:Nat),c7 n (b++a)=c7 (c7 n b) a
 |[],_,_=>rfl
 |_::b,a,_=>N5 b a _
def tops(B:Nat)(h:xf):xo:=h.map λr=>r.num*((B/r.den:Nat):Int)
def Zh(h:Bd (n:Int))(l:m<=n):Bd (m:Int):=Qe (by omega) h
def afU(n d:Nat):(fdiv (n:Int) ((Int.gcd n d:Nat):Int))*d=((Nat.lcm n d:Nat):Int):=by
 rw[show Int.gcd (n:Int) (d:Int)=Nat.gcd n d from rfl,Int.fdiv_eq_ediv_of_dvd (Int.natCast_dvd_natCast.mpr (Nat.gcd_dvd_left n d)),<- Int.natCast_ediv,<- Tk,Nat.lcm,Nat.div_mul_right_comm (Nat.gcd_dvd_left n d)]
def Lf(m n:Nat):fdiv (m:Int) (n:Int)=((m/n:Nat):Int):=by rw[lI _ (WZ _)];rfl
def xJ:ST:=λa q=>∃h:xf,a=[.lst (h.map aa)]/\h.length<=1000/\(∀r∈h,Bd r.num)/\Bd (c7 1 h:Nat)/\q (.fz (.tup [.lst ((tops (c7 1 h) h).map T.int),.int (c7 1 h:Nat)]))
def kS(T:Tx D):gT 2 uE oF xJ:=yB T.ahZ afx (λ_ _=>bF (bT 1 bA)
  (bF (d_ (cL vx) (b_ (n:=99) 2)
  (bG (bT 1 (bL cY (bL nu vw (bI (ji T) (bx vw (bx (bJ vy bA) bC)))) (bJ vy bA)))))
  (bG (bM (dU (bx (dZ (bH JK) HH ["fractions","bottom","?one"] ["one"] (cL vx) (fZ (i:=0)) cI (bL cY (bJ vx bA) (bL nu vy (bJ vx bA)))) (bx vw bC)))))))<|by
 rintro _ R ⟨h,rfl,l,m,d,q⟩;refine iy aa h (λb o=>∃x,o=[.fz (.lst (h.map aa)),.fz (.int (c7 1 b:Nat)),x]) ⟨_,rfl⟩ ?_ ?_
 .rintro b a g _ e ⟨x,rfl⟩;have s:=(k_ (a::g) (n:=c7 1 b)).1;have k:c7 1 h=c7 (c7 1 b) (a::g):=by rw[e];exact N5 b (a::g) 1
  have u:=gU b UQ;have c:=gU h UQ;have t:Bd (c7 1 b:Nat):=Zh d (k ▸ UR (k ▸ c) s);have f:Bd (a.den:Nat):=Zh d (UR c ((k_ h).2 a (e ▸ by simp)));refine⟨_,_,rfl,⟨by have:=ou (a:=(c7 1 b:Nat)) (lF a);exact WP this,YX (lF a) f⟩,⟨Qe ?_ t,f⟩,.fz (aa a),?_⟩
  .rw[show Int.gcd ((c7 1 b:Nat):Int) (a.den:Int)=Nat.gcd (c7 1 b) a.den from rfl,Lf];exact div_le_self ..
  .rw[afU,N5]
   rfl
 .rintro _ ⟨x,rfl⟩;refine⟨aL (by simpa using l) wP,comp_map aa (λr=>.int (r.num*((c7 1 h/r.den:Nat):Int))) h (λr j N M p=>?_) ?_⟩
  .have f:Bd (r.den:Nat):=Zh d (UR (gU h UQ) ((k_ h).2 r j));refine⟨⟨lF r,f⟩,⟨m r j,Qe ?_ d⟩,?_⟩
   .rw[Lf];exact div_le_self ..
   .rw[Lf];exact p
  .have:(tops (c7 1 h) h).map L2.T.int=h.map (λr=>.int (r.num*((c7 1 h/r.den:Nat):Int))):=by unfold tops;rw[WG];rfl
   rw[this]at q;exact q
def kX(l:wb):Bool:=decide (1<=l.length)&&decide (l.length<=8)&&l.all λc=>decide (97<=c)&&decide (c<=122)
abbrev Wd(n:Str):Prop:=kX n.cps.toList=true
def Wd.len{n:Str}(h:Wd n):1<=n.length/\n.length<=8:=by
 unfold Wd kX at h;simp only[QR,decide_eq_true_eq,Array.length_toList]at h;exact h.1
def IF(c d:Nat):(!decide ((⟨#[d]⟩ : Str).cps.toList<(⟨#[c]⟩ : Str).cps.toList))=decide (c<=d):=by
 have:((⟨#[d]⟩ : Str).cps.toList<(⟨#[c]⟩ : Str).cps.toList)↔d<c:=by
  show[d]<[c]↔d<c;constructor
  .intro h;cases h with
   |rel h=>exact h
   |cons h=>cases h
  .exact λh=>.rel h
 rw[show decide ((⟨#[d]⟩ : Str).cps.toList<(⟨#[c]⟩ : Str).cps.toList)=decide (d<c)from decide_eq_decide.mpr this];by_cases h:c<=d
 .rw[Zs h,Zp (TR h)];rfl
 .rw[Zp h,Zs (Nat.lt_of_not_le h)];rfl
def wH:ST:=λa q=>∃n:Str,a=[.str n]/\Wd n/\q (.fz (.bl true))
def Z2(T:Tx D):gT 1 rJ lE wH:=yB T.abJ Za (λ_ _=>bF (cB (QW.qt (fW (dg (cJ (h_ .str vx T.cH T.anF boot_str))) (fu (dg (V2 Qi Qi bA (bN _U T.cX WJ (bx vx bC)) (aeW T.KJ λ_=>.int _))))))
  (bG (bM fj))
  bQ)
  (bG (bM (bN (Ze rfl) T.WX boot_all (bx (dZ (bH Bb) Ii Ii ["sign"] (VO vx) (fZ (i:=0)) cI (Mz FG FG nM vx nM)) bC)))))<|by
 rintro _ R ⟨n,rfl,a,q⟩;obtain⟨j,e⟩:=a.len;refine⟨aL e wP,dV (Zs wE) (cg (by rw[Zs (show((n.length:Nat):Int)<=8 by lia)];rfl) ⟨by rw[ak];exact aL e wP,comp_map (λc=>.str ⟨#[c]⟩) (λc=>.bl (decide (97<=c)&&decide (c<=122))) n.cps.toList (λc _ N M d=>?_) ⟨n.cps.toList.map λc=>decide (97<=c)&&decide (c<=122),by rw[WG];rfl,?_⟩⟩)⟩
 .have f:(!decide ((⟨#[c]⟩ : Str).cps.toList<("a":Str).cps.toList))=decide (97<=c):=by rw[show("a":Str)=⟨#[97]⟩from by decide +kernel];exact IF 97 c
  have g:(!decide (("z":Str).cps.toList<(⟨#[c]⟩ : Str).cps.toList))=decide (c<=122):=by rw[show("z":Str)=⟨#[122]⟩from by decide +kernel];exact IF c 122
  refine iP (λh=>?_) λh=>?_
  .rw[<- f,h,<- g]at d;exact d
  .rw[<- f,h]at d;exact d
 .have:((n.cps.toList.map λc=>decide (97<=c)&&decide (c<=122)).all λb=>b)=true:=by
   unfold Wd kX at a;rw[QR]at a;rw[all_map];exact a.2
  rw[<- this]at q;exact q
def tW:ST:=λa q=>∃(n:Str)(r:Rat),a=[.str n,aa r]/\Wd n/\q (.fz .non)
def Oa(T:Tx D):gT 3 nZ jf tW:=yB T.Ss O1 (λ_ _=>bF (cB (dg (cJ (bI (Z2 T) (bx vx bC))))
  (bG gK)
  bQ)
  (bG (cB (dg (cJ (bI (Yh T) (bx vw bC))))
  (bG gK)
  bQ)))<|by
 rintro _ R ⟨n,r,rfl,a,q⟩;exact⟨_,rfl,a,_,rfl,q⟩
def lK:ST:=λa q=>∃n:Str,a=[.str n]/\Wd n/\q (.fz .non)
def Cm(T:Tx D):gT 2 iV fD lK:=yB T.Dy CP (λ_ _=>bG (cB (dg (cJ (bI (Z2 T) (bx vx bC))))
  (bG gK)
  bQ))<|by
 rintro _ R ⟨n,rfl,a,q⟩;exact⟨_,rfl,a,q⟩
def Ch(r:Rat):Prop:=0<=r/\r<=1/\Bd (r.den:Nat)
def Ch.bq(h:Ch r):Bq r:=by
 have b:=Rat.num_nonneg.mpr h.1;have a:=(le_iff r 1).mp h.2.1;exact⟨Qe (by have:r.num*((1:Rat).den:Int)<=(1:Rat).num*(r.den:Int):=a;simp at this;omega) h.2.2,h.2.2⟩
def kv:Bq 0:=⟨Nat.two_pow_pos 8000,Nat.one_lt_two_pow wP⟩
def h5:Bq 1:=⟨Nat.one_lt_two_pow wP,Nat.one_lt_two_pow wP⟩
def o8:ST:=λa q=>∃r:Rat,a=[aa r]/\Ch r/\q (.fz .non)
def JB(T:Tx D):gT 3 lC gG o8:=yB T.NP Jz (λ_ _=>bG (cB (QW.qt (fW (dg (cJ (bI (Yh T) (bx vx bC)))) (fW (cJ (bI (ib T) (bx vx (bx (m_ T.j5 T.je) bC)))) (fu (cJ (bI (ib T) (bx (m_ T.Io T.yu) (bx vx bC))))))))
  (bG gK)
  bQ))<|by
 rintro _ R ⟨r,rfl,a,q⟩;refine⟨_,rfl,r,0,rfl,a.bq,kv,?_⟩;rw[Zp (Rat.not_lt.mpr a.1)];refine⟨1,r,rfl,h5,a.bq,?_⟩;rw[Zp (Rat.not_lt.mpr a.2.1)];exact q
def Gz(h:xf):Rat:=h.foldr (· + ·) 0
theorem Wv{B:Nat}(f:B≠0):∀{h:xf},(∀r∈h,r.den ∣ B)->divInt (tops B h).sum B=Gz h
 |[],_=>by show divInt 0 _=0;exact JS _
 |r::h,a=>by
  have d:=Wv f (h:=h) λx e=>a x (aJ _ e);have b:((B:Nat):Int)≠0:=by lia
  obtain⟨m,c⟩:=a r (aO ..);show divInt (r.num*((B/r.den:Nat):Int)+(tops B h).sum) B=r+Gz h;have g:r+Gz h=divInt (r.num*B+(tops B h).sum*r.den) (r.den*B):=by rw[<- JU _ _ (lF r) b,rd,d]
  rw[g];refine(Q1 b (nG (lF r) b)).mpr ?_;have:B/r.den=m:=by rw[c];exact Nat.mul_div_cancel_left _ r.den_pos
  rw[this,c];simp only[Tk]
  grind
def Xc:ST:=λa q=>∃h:xf,a=[.lst (h.map aa)]/\h.length<=1000/\(∀r∈h,Bd r.num)/\Bd (c7 1 h:Nat)/\q (.fz (aa (Gz h)))
def agp(T:Tx D):gT 3 Nt yt Xc:=yB T.f_total adX (λ_ _=>bF (bT 1 (bI (kS T) (bx vx bC)))
  (bG (bM (bI (gV T) (bx (bN (ZP rfl) T.aew boot_sum (bx (bJ vw bA) bC)) (bx (bJ vw bA) bC))))))<|by
 rintro _ R ⟨h,rfl,c,e,b,q⟩;have d:=gU h UQ;have a:((c7 1 h:Nat):Int)≠0:=by lia
 refine⟨h,rfl,c,e,b,_,rfl,_,_,rfl,a,b,λx y l=>?_⟩;rw[jN l a,Wv (UY d) (k_ h).2];exact q
abbrev cw(p:Str×Rat):T:=.tup [.str p.1,aa p.2]
def Ag:ST:=λa q=>∃u:xp,a=[.lst (u.map cw)]/\u.length<=1000/\(∀p∈u,Wd p.1/\Ch p.2)/\Bd (c7 1 (u.map (·.2)):Nat)/\Gz (u.map (·.2))=1/\q (.fz .non)
def Kw(T:Tx D):gT 4 qu jq Ag:=yB T.O_ Mr (λb _=>bF (d_ (cL vx) (fL (n:=2) (bV (b_ (n:=99) 1) (bV (b_ (n:=99) 2) dO)))
  (bF (mW (bI (Cm T) (bx vw bC)))
  (bG (mW (bI (JB T) (bx vy bC))))))
  (bG (cB (bW (jZ b.units) (bI (agp T) (bx (dZ (bH nW) tD tD ["pair"] (cL vx) (fZ (i:=0)) cI (bJ vx bA)) bC)) (m_ T.Io T.yu))
  (bG gK)
  bQ)))<|by
 rintro _ R ⟨u,rfl,t,c,g,d,q⟩;refine iy cw u (λ_ o=>∃x y,o=[.fz (.lst (u.map cw)),x,y]) ⟨_,_,rfl⟩ ?_ ?_
 .rintro m a l _ e ⟨x,y,rfl⟩;obtain⟨j,h⟩:=c a (e ▸ by simp);exact⟨rfl,_,rfl,j,_,rfl,h,_,_,rfl⟩
 .rintro _ ⟨x,y,rfl⟩;refine⟨aL (by simpa using t) wP,comp_map cw (λp=>aa p.2) u (λp _ N M f=>f) ⟨u.map (·.2),by rw[WG];rfl,by simpa using t,λr b=>?_,g,?_⟩⟩
  .obtain⟨p,k,rfl⟩:=YV.mp b;exact(c p k).2.bq.1
  .rw[d];exact q
def ce(v:xp)(p:Str×Rat):xp:=if(v.any λx=>decide (x.1=p.1))=true then v.map (λx=>if x.1=p.1 then(x.1,x.2+p.2)else x)else v++[p]
def kZ(u:xp):xp:=u.foldl ce []
abbrev d8(v:xp):xL:=v.map λx=>.inr x.1
abbrev fi(v:xp):xk:=v.map λx=>aa x.2
def SZ(v:xp)(n:Str):T4 (d8 v) (.inr n)=v.any λx=>decide (x.1=n):=by
 unfold T4;rw[any_map]
 congr 1
 funext x
 exact decide_eq_decide.mpr ⟨λz=>Sum.inr.inj z,λz=>ZH Sum.inr z⟩
theorem qm(n:Str):∀v:xp,qN (d8 v) (fi v) (.inr n)=(v.find? λx=>decide (x.1=n)).map λx=>aa x.2
 |[]=>rfl
 |x::v=>by
  show(if(Sum.inr x.1:bE)=.inr n then some (aa x.2)else qN (d8 v) (fi v) (.inr n))=_;by_cases h:x.1=n
  .rw[ZY (ZH Sum.inr h),List.find?_cons_of_pos (p:=λx:Str×Rat=>decide (x.1=n)) (Zs h)];rfl
  .rw[ZZ λz=>h (Sum.inr.inj z),List.find?_cons_of_neg (p:=λx:Str×Rat=>decide (x.1=n)) (by show ¬decide (x.1=n)=true;rw[Zp h];decide),qm n v]
def Dq(v:xp)(n:Str):Rat:=((v.find? λx=>decide (x.1=n)).map (·.2)).getD 0
def _9(v:xp)(n:Str):((qN (d8 v) (fi v) (.inr n)).getD (aa 0))=aa (Dq v n):=by
 rw[qm];unfold Dq;cases(v.find? λx=>decide (x.1=n))<;>rfl
def JA{v:xp}{n:Str}(b:(v.map (·.1)).Nodup){x:Str×Rat}(a:x∈v)(e:x.1=n):(v.find? λy=>decide (y.1=n))=some x:=by
 induction v with
 |nil=>cases a
 |cons y v f =>
  obtain⟨d,c⟩:=List.nodup_cons.mp b;rcases YU.mp a with rfl|z
  .exact List.find?_cons_of_pos (p:=λy:Str×Rat=>decide (y.1=n)) (Zs e)
  .rw[List.find?_cons_of_neg (p:=λy:Str×Rat=>decide (y.1=n)) (by show ¬decide (y.1=n)=true;rw[Zp λw=>d (YV.mpr ⟨x,z,e.trans w.symm⟩)];decide)];exact f c z
def P2(v:xp)(p:Str×Rat)(c:(v.map (·.1)).Nodup):eX (d8 v) (.inr p.1)=d8 (ce v p)/\d6 (d8 v) (fi v) (.inr p.1) (aa (Dq v p.1+p.2))=fi (ce v p):=by
 unfold eX d6 ce;rw[SZ];by_cases h:(v.any λx=>decide (x.1=p.1))=true
 .rw[ZY h,ZY h,ZY h];refine⟨by simp only[d8,WG];refine Tu λx _=>?_;show(Sum.inr x.1:bE)=.inr (if x.1=p.1 then(x.1,x.2+p.2)else x).1;split<;>rfl,?_⟩
  clear h
  rw[show fi (v.map λx=>if x.1=p.1 then(x.1,x.2+p.2)else x)=v.map ((λx=>aa x.2) ∘ λx=>if x.1=p.1 then(x.1,x.2+p.2)else x)from WG]
  suffices H:∀(a:xp),(∀x∈a,x.1=p.1->x.2=Dq v p.1)->zipWith (λ(k:bE)x=>if k=.inr p.1 then aa (Dq v p.1+p.2)else x) (d8 a) (fi a)=a.map ((λx=>aa x.2) ∘ λx=>if x.1=p.1 then(x.1,x.2+p.2)else x)from H v λx b e=>by
   unfold Dq;rw[JA c b e];rfl
  intro a
  induction a with
  |nil=>intro _;rfl
  |cons x a f =>
   intro H;show zipWith _ (Sum.inr x.1::d8 a) (aa x.2::fi a)=_;rw[zipWith_cons_cons,f λy g=>H y (aJ _ g),map_cons]
   congr 1
   by_cases e:x.1=p.1
   .rw[ZY (ZH Sum.inr e)];show _=aa (if x.1=p.1 then(x.1,x.2+p.2)else x).2;rw[ZY e,H x (aO ..) e]
   .rw[ZZ λz=>e (Sum.inr.inj z)];show _=aa (if x.1=p.1 then(x.1,x.2+p.2)else x).2;rw[ZZ e]
 .rw[ZZ h,ZZ h,ZZ h];have d:Dq v p.1=0:=by
   unfold Dq;rw[List.find?_eq_none.mpr λx b z=>h (List.any_eq_true.mpr ⟨x,b,z⟩)];rfl
  rw[d,Rat.zero_add];simp only[d8,fi,bf];exact⟨rfl,rfl⟩
def HP{J:Type}[DecidableEq J]{v:List (J×Rat)}{p:J×Rat}(c:(v.map (·.1)).Nodup):((if(v.any λx=>decide (x.1=p.1))=true then v.map (λx=>if x.1=p.1 then(x.1,x.2+p.2)else x)else v++[p]).map (·.1)).Nodup:=by
 by_cases h:(v.any λx=>decide (x.1=p.1))=true
 .rw[ZY h,WG];rw[show v.map ((λx=>x.1) ∘ λx=>if x.1=p.1 then(x.1,x.2+p.2)else x)=v.map (·.1)from Tu λx _=>by show(if x.1=p.1 then(x.1,x.2+p.2)else x).1=x.1;split<;>rfl];exact c
 .rw[ZZ h,bf];refine List.nodup_append.mpr ⟨c,by simp,λa f b d z=>h ?_⟩;obtain⟨x,e,rfl⟩:=YV.mp f;rw[map_singleton,YR]at d;exact List.any_eq_true.mpr ⟨x,e,Zs (z.trans d)⟩
def agP{v:xp}{p:Str×Rat}(a:(v.map (·.1)).Nodup):((ce v p).map (·.1)).Nodup:=HP a
def ab7(b a:xp):kZ (b++a)=a.foldl ce (kZ b):=List.foldl_append ..
def V0(u:xp):((kZ u).map (·.1)).Nodup:=by
 suffices H:∀(u v:xp),(v.map (·.1)).Nodup->((u.foldl ce v).map (·.1)).Nodup from H u [] .nil
 intro u
 induction u with
 |nil=>exact λ_ h=>h
 |cons p u a=>exact λv h=>a _ (agP h)
def PX(u:xp):(kZ u).length<=u.length:=by
 suffices H:∀(u v:xp),(u.foldl ce v).length<=v.length+u.length from by simpa[kZ]using H u []
 intro u
 induction u with
 |nil=>exact λ_=>aG _
 |cons p u a =>
  intro v;have b:(ce v p).length<=v.length+1:=by
   unfold ce;split
   .rw[ak];exact Xs _
   .rw[aA,length_singleton];exact aG _
  have:=a (ce v p);rw[foldl_cons,length_cons];lia
def E7(u:xp):Prop:=∀b a c,u=b++a::c->Bq (Dq (kZ b) a.1)/\Bq a.2/\Bd (((Dq (kZ b) a.1).den:Int)*a.2.den)
def EY(u:xp):xp:=(kZ u).filter λp=>!decide (p.2=0)
def xY:ST:=λa q=>∃u:xp,a=[.lst (u.map cw)]/\u.length<=1000/\E7 u/\q (.l1 ((EY u).map cw))
def Lx(T:Tx D):gT 4 qz jK xY:=yB T.O9 Nr (λf _=>bF (iY 1 Q6)
  (bF (d_ (cL vx) (fL (n:=2) (bV (b_ (n:=99) 2) (bV (b_ (n:=99) 3) dO)))
  (bG (Rv 1 (BP f) (bI (Fs T) (bx (_0 1 (BP f) vy (m_ T.j5 T.je)) (bx vc bC))) vy)))
  (bG (agD 1 (bH nR) BX ["pairs","chances","?room","chance"] ["room"] (fZ (i:=0)) (HN (bW (jZ f.units) (Rr (BP f) vy vx) (m_ T.j5 T.je))) (dU (bx vx (bx (Rr (BP f) vy vx) bC)))))))<|by
 rintro _ R ⟨u,rfl,t,s,q⟩;refine iy cw u (λd o=>∃x y,o=[.fz (.lst (u.map cw)),.d1 (d8 (kZ d)) (fi (kZ d)),x,y]) ⟨_,_,rfl⟩ ?_ ?_
 .rintro d a E _ e ⟨x,y,rfl⟩;obtain⟨C,B,A⟩:=s d a E e;refine⟨rfl,_,rfl,Dq (kZ d) a.1,a.2,ZH (λc=>[c,aa a.2]) (_9 (kZ d) a.1),C,B,A,_,rfl,?_,.fz (.str a.1),.fz (aa a.2),?_⟩
  .have:=PX d;have:d.length<=u.length:=by rw[e];simp
   rw[ak];exact Y3 (show _<=1000 by lia) wP
  .obtain⟨l,k⟩:=P2 (kZ d) a (V0 d);rw[show kZ (d++[a])=ce (kZ d) a from by rw[ab7];rfl,<- l,<- k]
   rfl
 .rintro _ ⟨x,y,rfl⟩;have m:=PX u;refine⟨by rw[ak];exact aL (show _<=1000 by exact aL m t) wP,?_⟩;dsimp only;rw[show(d8 (kZ u)).map kT=(kZ u).map λp=>.str p.1 from WG];refine rR (λp=>.str p.1) (λp=>!decide (p.2=0)) cw (kZ u) (λp r N M v w=>?_) ?_
  rotate_left
  .exact q
  have j:qN (d8 (kZ u)) (fi (kZ u)) (.inr p.1)=some (aa p.2):=by rw[qm,JA (V0 u) r rfl];rfl
  refine⟨_,_,rfl,j,?_⟩;have g:(decide (p.2.num=0)&&decide ((p.2.den:Int)=1))=decide (p.2=0):=by
   by_cases z:p.2=0
   .rw[z];decide
   .rw[Zp z,Zp λy=>z (Rat.num_eq_zero.mp y)];rfl
  refine iP (λh=>⟨_,_,rfl,j,v ?_⟩) λh=>w ?_
  .rw[<- h];exact ZH (λb=>!b) g.symm
  .rw[<- h];exact ZH (λb=>!b) g.symm
abbrev u5:Φ:=["name","pay","leads"]
abbrev gL(C:Addr)(n:Str)(p:Rat)(v:xp):T:=.ins C u5 [.str n,aa p,.lst (v.map cw)]
def Uz(D:be):SI:=λC b a c R=>∃(n:Str)(p:Rat),b=[]/\a=[]/\bv D C/\c=[.str n,aa p]/\Wd n/\R u5 [.str n,aa p,.lst []]
def Vg(T:Tx D):OkI P w K mg base bc 4 D.Door_init jR (gm K (Uz D)):=ye T.Ti λF=>by
 refine F.okI R5 (λC j g m R f=>by obtain⟨n,p,_,_,_,e,_⟩:=f;exact e ▸ rfl) wP λo A b s H E k i=>?_;refine⟨_,(bF (mW (bI (Oa T) (bx vw (bx vy bC))))
  (bF (sH (Fm:=bv D) 0 (λC h=>⟨T.cl C h,T.Kg C h⟩) vw)
  (bF (sH (Fm:=bv D) 0 (λC h=>⟨T.cl C h,T.aeE C h⟩) vy)
  (bG (sH (Fm:=bv D) 0 (λC h=>⟨T.cl C h,T.Ga C h⟩) (dJ bC)))))),?_⟩
 rintro a l C _ _ _ R ⟨n,p,rfl,rfl,c,rfl,d,q⟩;exact⟨_,_,rfl,d,⟨c,by decide⟩,⟨c,by decide⟩,⟨c,by decide⟩,_,_,rfl,q⟩
def afR(D:be):bv D D.Sure:=by simp[bv]
def acu(D:be):bv D D.Mixed:=by simp[bv]
def aeX(D:be):bv D D.Toss:=by simp[bv]
def af7(D:be):bv D D.Even:=by simp[bv]
def zJ(D:be):bv D D.Hall:=by simp[bv]
def aaz(D:be):SI:=λC b a c R=>∃(n m:Str)(p:Rat),b=[]/\a=[]/\bv D C/\c=[.str n,aa p,.str m]/\Wd n/\Wd m/\R u5 [.str n,aa p,.lst ([(m,1)].map cw)]
def Uv(T:Tx D):OkI P w K mg base bc 5 D.Sure_init lZ (gm K (aaz D)):=ye T.RP λF=>by
 refine F.okI U6 (λC k i r R g=>by obtain⟨n,p,_,_,_,_,e,_⟩:=g;exact e ▸ rfl) wP λt A b s H E l j=>?_;refine⟨_,(bF (JZ 0 T.Fz (Vg T) T.aeY (bx vw (bx vy bC)))
  (bF (mW (bI (Cm T) (bx vc bC)))
  (bG (sH (Fm:=bv D) 0 (λC h=>⟨T.cl C h,T.Ga C h⟩) (dJ (bx (dU (bx vc (bx (m_ T.Io T.yu) bC))) bC)))))),?_⟩
 rintro a o C _ _ _ R ⟨n,m,p,rfl,rfl,c,rfl,d,f,q⟩;exact⟨_,_,rfl,rfl,c,rfl,d,_,rfl,f,⟨c,by decide⟩,_,_,rfl,q⟩
structure l3(u:xp):Prop where
 few:u.length<=1000
 ok:∀p∈u,Wd p.1/\Ch p.2
 bd:Bd (c7 1 (u.map (·.2)):Nat)
 one:Gz (u.map (·.2))=1
 jb:E7 u
def Fi(D:be):SI:=λC b a c R=>∃(n:Str)(p:Rat)(u:xp),b=[]/\a=[]/\bv D C/\c=[.str n,aa p,.lst (u.map cw)]/\Wd n/\l3 u/\R u5 [.str n,aa p,.lst ((EY u).map cw)]
def Oj(T:Tx D):OkI P w K mg base bc 5 D.Mixed_init gY (gm K (Fi D)):=ye T.Ob λF=>by
 refine F.okI Oi (λC j g m R f=>by obtain⟨n,p,_,_,_,_,e,_⟩:=f;exact e ▸ rfl) wP λo A b s H E k i=>?_;refine⟨_,(bF (JZ 0 T.Fz (Vg T) T.aeY (bx vw (bx vy bC)))
  (bF (mW (bI (Kw T) (bx vc bC)))
  (bG (sH (Fm:=bv D) 0 (λC h=>⟨T.cl C h,T.Ga C h⟩) (bI (Lx T) (bx vc bC)))))),?_⟩
 rintro a l C _ _ _ R ⟨n,p,u,rfl,rfl,c,rfl,d,h,q⟩;exact⟨_,_,rfl,rfl,c,rfl,d,_,rfl,h.few,h.ok,h.bd,h.one,_,rfl,h.few,h.jb,⟨c,by decide⟩,_,_,rfl,q⟩
def aaB(D:be):SI:=λC b a d R=>∃(n x y:Str)(p c:Rat),b=[]/\a=[]/\bv D C/\d=[.str n,aa p,aa c,.str x,.str y]/\Wd n/\Ch c/\l3 [(x,c),(y,1-c)]/\R u5 [.str n,aa p,.lst ((EY [(x,c),(y,1-c)]).map cw)]
def U4(T:Tx D):OkI P w K mg base bc 6 D.Toss_init mC (gm K (aaB D)):=ye T.Vz λF=>by
 refine F.okI Q9 (λC l j r R g=>by obtain⟨n,_,_,p,_,_,_,_,e,_⟩:=g;exact e ▸ rfl) wP λt A b s H E m k=>?_;refine⟨_,(bF (mW (bI (Oa T) (bx vw (bx vy bC))))
  (bF (mW (bI (JB T) (bx vc bC)))
  (bG (JZ 0 T.Bx (Oj T) T.Sw (bx vw (bx vy (bx (dJ (bx (dU (bx vt (bx vc bC))) (bx (dU (bx vn (bx (bI (pX T) (bx (m_ T.Io T.yu) (bx vc bC))) bC))) bC))) bC))))))),?_⟩
 rintro a o C _ _ _ R ⟨n,x,y,p,c,rfl,rfl,i,rfl,f,d,h,q⟩;refine⟨_,_,rfl,f,_,rfl,d,1,c,rfl,h5,d.bq,?_,n,p,_,rfl,rfl,i,rfl,f,h,_,_,rfl,q⟩;rw[show(((1:Rat).den:Nat):Int)*(c.den:Int)=(c.den:Int)from JY _];exact d.2.2
def even(a:Φ):xp:=a.map λr=>(r,mkRat 1 a.length)
def Z5(h:0<n):aa (mkRat 1 n)=.tup [.int 1,.int (n:Nat)]:=by
 have:mkRat 1 n=⟨1,n,by exact UY h,by show Nat.Coprime 1 n;exact Nat.coprime_one_left n⟩:=by
  rw[Rat.mk_eq_divInt];rfl
 rw[this]
def abt(D:be):SI:=λC c b d R=>∃(n:Str)(p:Rat)(a:Φ),c=[]/\b=[]/\bv D C/\d=[.str n,aa p,.lst (a.map T.str)]/\Wd n/\l3 (even a)/\R u5 [.str n,aa p,.lst ((EY (even a)).map cw)]
def Q0(T:Tx D):OkI P w K mg base bc 6 D.Even_init m6 (gm K (abt D)):=ye T.VD λ{U}F=>by
 refine F.okI Ux (λC u o x R l=>by obtain⟨n,p,_,_,_,_,e,_⟩:=l;exact e ▸ rfl) wP λy A c s H E d t=>?_;refine⟨_,(bG (JZ 0 T.Bx (Oj T) T.Sw (bx vw (bx vy (bx (dZ (bH rT) yK yK ["room"] (cL vc) (fZ (i:=0)) cI (dU (bx vx (bx (dU (bx bA (bx (bN cG T.cX WJ (bx vt bC)) bC))) bC)))) bC))))),?_⟩;rintro a v C _ _ _ R ⟨n,p,b,rfl,rfl,m,rfl,j,h,q⟩;have k:b.length<=1000:=by have:=h.few;rwa[even,ak]at this
 refine⟨by rw[ak];exact aL k wP,comp_map L2.T.str (λr=>cw (r,mkRat 1 b.length)) b (λr d N M g=>?_) ⟨n,p,even b,rfl,rfl,m,?_,j,h,_,_,rfl,q⟩⟩
 .rw[show cw (r,mkRat 1 b.length)=.tup [.str r,aa (mkRat 1 b.length)]from rfl,Z5 (List.length_pos_of_mem d),<- ak (f:=L2.T.str)]at g;exact g
 .unfold even;rw[WG]
  rfl
def Gv(D:be):ST:=λa q=>∃(C:Addr)(n:Str)(p:Rat)(v:xp),a=[gL C n p v]/\bv D C/\q (.l1 (v.map cw))
def RV(T:Tx D):gI 1 D.Door_ways lX (Gv D):=ye T.SJ λF=>by
 refine F.okT Ul (λ_ _=>bG (bM (jU Bk T.lG boot_list (bx (vB (Fm:=bv D) (λC h=>⟨T.cl C h,T.Ga C h⟩) vx) bC)))) ?_;rintro _ R ⟨C,n,p,v,rfl,a,q⟩;exact⟨a,_,rfl,q⟩
structure bO where
 name:Str
 pay:Rat
 ways:xj
abbrev xE:=Option bO
abbrev xm:=List xE
abbrev xz:=List (List bO)
abbrev dv(p:Nat×Rat):T:=.tup [.int (p.1:Nat),aa p.2]
abbrev c5(o:bO):T:=.tup [.str o.name,aa o.pay,.lst (o.ways.map dv)]
abbrev lD:Φ:=["share","numbers","offered"]
abbrev c3(l:Φ):xL:=l.map Sum.inr
abbrev eS(l:Φ):xk:=(range l.length).map λk:Nat=>.int k
abbrev cK(D:be)(s:Rat)(l:Φ)(off:xz):T:=.ins D.Hall lD [aa s,.dct (c3 l) (eS l),.lst (off.map λds=>.lst (ds.map c5))]
def yD:ST:=λa q=>∃r:Rat,a=[aa r]/\0<=r/\r<1/\Bq r/\q (.fz .non)
def K1(T:Tx D):gT 3 qK jA yD:=yB T.O8 Le (λ_ _=>bG (cB (QW.qt (fW (dg (cJ (bI (Yh T) (bx vx bC)))) (fW (cJ (bI (ib T) (bx vx (bx (m_ T.j5 T.je) bC)))) (fu (dg (cJ (bI (ib T) (bx vx (bx (m_ T.Io T.yu) bC)))))))))
  (bG gK)
  bQ))<|by
 rintro _ R ⟨r,rfl,c,b,a,q⟩;refine⟨_,rfl,r,0,rfl,a,kv,?_⟩;rw[Zp (Rat.not_lt.mpr c)];refine⟨r,1,rfl,a,h5,?_⟩;rw[Zs b];exact q
def F1(l:Φ)(n:Str)(h:n∉l):T4 (c3 l) (.inr n)=false:=by
 unfold T4;rw[any_map];exact List.any_eq_false.mpr λx a z=>h ((Sum.inr.inj (of_decide_eq_true z)) ▸ a)
theorem YF{J:Type}(n:Str):∀(l:Φ)(a:List J),n∉l->qN (c3 l) a (.inr n)=none
 |[],_,_=>rfl
 |_::_,[],_=>rfl
 |m::l,t::a,h=>by
  show(if(Sum.inr m:bE)=.inr n then some t else qN (c3 l) a (.inr n))=none;rw[ZZ λz=>h (by rw[Sum.inr.inj z];exact aO ..)];exact YF n l a λz=>h (aJ _ z)
theorem IN{J:Type}{n:Str} : ∀{l:Φ}{a:List J}{k:Nat}{t:J},l.Nodup->l[k]?=some n->a[k]?=some t->qN (c3 l) a (.inr n)=some t
 |[],_,_,_,_,e,_=>by cases e
 |m::l,[],_,_,_,_,e=>by cases e
 |m::l,u::a,k,t,f,d,c=>by
  obtain⟨h,g⟩:=List.nodup_cons.mp f;show(if(Sum.inr m:bE)=.inr n then some u else qN (c3 l) a (.inr n))=some t;cases k with
  |zero=>cases d;cases c;exact ZY rfl
  |succ k =>
   have b:l[k]?=some n:=by simpa using d
   rw[ZZ λ(z:(Sum.inr m:bE)=.inr n)=>h (by rw[Sum.inr.inj z];exact aC b)];exact IN g b (by simpa using c)
def VA(l:Φ)(n:Str)(h:n∉l):eX (c3 l) (.inr n)=c3 (l++[n])/\d6 (c3 l) (eS l) (.inr n) (.int (l.length:Nat))=eS (l++[n]):=by
 unfold eX d6;rw[F1 l n h];refine⟨by rw[ZZ wP];simp[c3],?_⟩;rw[ZZ wP];simp only[eS,aA,length_singleton,range_succ,bf,map_singleton]
abbrev g7(p:Str×xk):T:=.tup [.str p.1,.lst p.2]
def Bv:ST:=λb q=>∃a:List (Str×xk),b=[.lst (a.map g7)]/\a.length<=1000/\(∀p∈a,Wd p.1)/\(a.map (·.1)).Nodup/\q (.d1 (c3 (a.map (·.1))) (eS (a.map (·.1))))
def Od(T:Tx D):gT 2 uh kh Bv:=yB T.Vf Pn (λg _=>bF (iY 1 Q6)
  (bF (d_ (cL vx) (b_ (n:=99) 2)
  (bF (bT 3 (bJ vy bA))
  (bF (cB (QW.qt (fW (dg (cJ (bI (Z2 T) (bx vc bC)))) (fu (KC 1 (F_ (BP g) vc vw)))))
  (bG gK)
  bQ)
  (bG (Rv 1 (BP g) (Vu 1 (bN I0 T.cX WJ (bx vw bC))) vc)))))
  (bG (mX 1))))<|by
 rintro _ R ⟨c,rfl,h,k,d,q⟩;refine iy g7 c (λb o=>∃x y,o=[.fz (.lst (c.map g7)),.d1 (c3 (b.map (·.1))) (eS (b.map (·.1))),x,y]) ⟨_,_,rfl⟩ ?_ ?_
 .rintro b a m _ e ⟨x,y,rfl⟩;have f:a.1∉b.map (·.1):=by
   rw[e,bf,map_cons]at d;exact λz=>(List.nodup_append.mp d).2.2 a.1 z a.1 (aO ..) rfl
  have l:b.length<=c.length:=by rw[e];simp
  refine⟨_,rfl,k a (e ▸ by simp),_,rfl,?_⟩;rw[YF a.1 _ _ f];refine⟨trivial,_,rfl,by rw[ak,ak];exact Y3 (show _<=1000 by exact aL l h) wP,.fz (g7 a),.fz (.str a.1),?_⟩;obtain⟨j,i⟩:=VA (b.map (·.1)) a.1 f;rw[bf,map_singleton,<- j,<- i];simp only[ak]
  rfl
 .rintro _ ⟨x,y,rfl⟩;exact q
structure Kb(l:Φ)(us:xj):Prop where
 few:us.length<=1000
 lt:∀p∈us,p.1<l.length
abbrev W4(l:Φ)(us:xj):xp:=us.map λp=>(l.getD p.1 ⟨#[]⟩,p.2)
def uH(D:be):ST:=λb q=>∃(C:Addr)(n:Str)(p:Rat)(l:Φ)(a:xj),b=[gL C n p (W4 l a),.dct (c3 l) (eS l)]/\d9 D C/\l.Nodup/\Kb l a/\q (.l1 (a.map dv))
def Ik(T:Tx D):gT 2 nJ iB (uH D):=yB T.Ji Ie (λh _=>bF (iY 2 (dJ bC))
  (bF (d_ (cL (QE.any λC(c:d9 D C)=>Ah vx (T.cl C c.fam) (T.Sd C c) (RV T) (KS:=u5))) (fL (n:=2) (bV (b_ (n:=99) 3) (bV (b_ (n:=99) 4) dO)))
  (bF (cB (acg (BP h) vc vw)
  (bG gK)
  bQ)
  (bG (qw 2 (dU (bx (Rr (BP h) vw vc) (bx vt bC)))))))
  (bG (mX 2))))<|by
 rintro _ R ⟨C,n,p,l,b,rfl,c,j,g,q⟩;refine⟨C,c,⟨rfl,rfl⟩,C,n,p,_,rfl,c.fam,?_⟩;show wY _ _ _ (List.map cw (W4 l b)) _;rw[show(W4 l b).map cw=b.map λp=>cw (l.getD p.1 ⟨#[]⟩,p.2)from WG];refine iy (λp=>cw (l.getD p.1 ⟨#[]⟩,p.2)) b (λf o=>∃x y,o=[.fz (gL C n p (W4 l b)),.fz (.dct (c3 l) (eS l)),.l1 (f.map dv),x,y]) ⟨_,_,rfl⟩ ?_ ?_
 .rintro f a r _ e ⟨x,y,rfl⟩;have lt:=g.lt a (e ▸ by simp);have m:f.length<b.length:=by rw[e];simp
  have d:=g.few;have k:l[a.1]?=some (l.getD a.1 ⟨#[]⟩):=by rw[au,aj lt];rfl
  have i:qN (c3 l) (eS l) (.inr (l.getD a.1 ⟨#[]⟩))=some (.int (a.1:Nat)):=IN j k (by rw[aq,UV lt];rfl);refine⟨rfl,_,rfl,?_⟩;rw[i];refine⟨_,_,rfl,i,by rw[ak];exact Y3 (show _<=1000 by exact aL (Y2 m) d) wP,.fz (.str (l.getD a.1 ⟨#[]⟩)),.fz (aa a.2),?_⟩;rw[bf]
  rfl
 .rintro _ ⟨x,y,rfl⟩;exact q
structure Made where
 cls:Addr
 of:bO
abbrev wf:=List (List Made)
abbrev eW(l:Φ)(m:Made):T:=gL m.cls m.of.name m.of.pay (W4 l m.of.ways)
structure Kk(D:be)(l:Φ)(ds:List Made):Prop where
 few:ds.length<=1000
 cls:∀m∈ds,d9 D m.cls
 ways:∀m∈ds,Kb l m.of.ways
 nd:(ds.map λm=>m.of.name).Nodup
def agz(l:Φ)(n:Str)(h:n∉l):eX (c3 l) (.inr n)=c3 (l++[n])/\d6 (c3 l) (l.map λ_=>L2.T.bl true) (.inr n) (.bl true)=(l++[n]).map λ_=>L2.T.bl true:=by
 unfold eX d6;rw[F1 l n h];refine⟨by rw[ZZ wP];simp[c3],?_⟩;rw[ZZ wP];simp
def Eu(D:be):ST:=λb q=>∃(l:Φ)(a:List Made),b=[.lst (a.map (eW l)),.dct (c3 l) (eS l)]/\l.Nodup/\Kk D l a/\q (.l1 (a.map λm=>c5 m.of))
def Vm(T:Tx D):gT 3 vW mV (Eu D):=yB T.V_ UG (λk _=>bF (iY 2 Q6)
  (bF (iY 3 (dJ bC))
  (bF (d_ (cL vx) (b_ (n:=99) 4)
  (bF (cB (KC 2 (F_ (BP k) (vB (Fm:=bv D) (λC h=>⟨T.cl C h,T.Kg C h⟩) vt) vy))
  (bG gK)
  bQ)
  (bF (Rv 2 (BP k) fj (vB (Fm:=bv D) (λC h=>⟨T.cl C h,T.Kg C h⟩) vt))
  (bG (qw 3 (dU (bx (vB (Fm:=bv D) (λC h=>⟨T.cl C h,T.Kg C h⟩) vt) (bx (vB (Fm:=bv D) (λC h=>⟨T.cl C h,T.aeE C h⟩) vt) (bx (bI (Ik T) (bx vt (bx vw bC))) bC)))))))))
  (bG (mX 3)))))<|by
 rintro _ R ⟨l,g,rfl,f,hd,q⟩;refine iy (eW l) g (λb o=>∃x,o=[.fz (.lst (g.map (eW l))),.fz (.dct (c3 l) (eS l)),.d1 (c3 (b.map λm=>m.of.name)) ((b.map λm=>m.of.name).map λ_=>.bl true),.l1 (b.map λm=>c5 m.of),x]) ⟨_,rfl⟩ ?_ ?_
 .rintro b a t _ e ⟨x,rfl⟩;have i:a.of.name∉b.map λm=>m.of.name:=by
   have f:=hd.nd;rw[e,bf,map_cons]at f;exact λz=>(List.nodup_append.mp f).2.2 _ z _ (aO ..) rfl
  have p:b.length<g.length:=by rw[e];simp
  have d:=hd.few;have j:a∈g:=e ▸ by simp
  have c:=hd.cls a j;refine⟨c.fam,_,rfl,_,rfl,?_⟩;rw[YF _ _ _ i];refine⟨c.fam,_,rfl,_,rfl,by rw[ak,ak];exact Y3 (show _<=1000 by exact aL (Y2 p) d) wP,c.fam,_,rfl,c.fam,_,rfl,_,_,_,l,a.of.ways,rfl,c,f,hd.ways a j,by rw[ak];exact Y3 (show _<=1000 by exact aL (Y2 p) d) wP,.fz (eW l a),?_⟩;obtain⟨s,r⟩:=agz (b.map λm=>m.of.name) a.of.name i;rw[show(b++[a]).map (λm=>m.of.name)=b.map (λm=>m.of.name)++[a.of.name]from bf,<- s,<- r,bf]
  rfl
 .rintro _ ⟨x,rfl⟩;exact q
structure EL(D:be)(l:Φ)(ae:wf):Prop where
 len:ae.length=l.length
 few:l.length<=1000
 wd:∀n∈l,Wd n
 nd:l.Nodup
 mds:∀ds∈ae,Kk D l ds
abbrev Dh(l:Φ)(ae:wf):xk:=(l.zip ae).map λp=>g7 (p.1,p.2.map (eW l))
abbrev fw(ae:wf):xz:=ae.map λds=>ds.map λm=>m.of
def aav(D:be):SI:=λC c b e R=>∃(s:Rat)(l:Φ)(a:wf),C=D.Hall/\c=[]/\b=[]/\e=[aa s,.lst (Dh l a)]/\0<=s/\s<1/\Bq s/\EL D l a/\R lD [aa s,.dct (c3 l) (eS l),.lst ((fw a).map λd=>.lst (d.map c5))]
def Vv(T:Tx D):OkI P w K mg base bc 4 D.Hall_init mj (gm K (aav D)):=ye T.R8 λF=>by
 refine F.okI Vw (λC J G Q R z=>by obtain⟨n,p,_,_,_,_,e,_⟩:=z;exact e ▸ rfl) wP λS A j s H E L I=>?_;refine⟨_,(bF (mW (bI (K1 T) (bx vw bC)))
  (bF (sH (Fm:=bv D) 0 (λC h=>⟨T.cl C h,T.Lz C h⟩) vw)
  (bF (sH (Fm:=bv D) 0 (λC h=>⟨T.cl C h,T.Cv C h⟩) (bI (Od T) (bx vy bC)))
  (bG (sH (Fm:=bv D) 0 (λC h=>⟨T.cl C h,T.Kl C h⟩) (dZ (bH rZ) zN zN ["room"] (cL vy) (fZ (i:=0)) cI (bI (Vm T) (bx (bJ vx bA) (bx (_p (Fm:=bv D) 1 (λC h=>⟨T.cl C h,T.Cv C h⟩)) bC))))))))),?_⟩
 rintro a O C _ _ _ R ⟨s,l,b,rfl,rfl,rfl,rfl,v,u,t,h,q⟩;have g:(l.zip b).map (·.1)=l:=List.map_fst_zip (by have:=h.len;exact WH (Eq.symm this));have r:(l.zip b).map (·.2)=b:=List.map_snd_zip (by have:=h.len;exact WH this);have o:(l.zip b).length=l.length:=by rw[VU,h.len,US]
 have f:=zJ D;have c:=h.few;refine⟨_,rfl,v,u,t,⟨f,by decide⟩,(l.zip b).map λp=>(p.1,p.2.map (eW l)),by rw[WG];rfl,by rw[ak,o];exact c,λp k=>?_,?_,⟨f,by decide⟩,?_⟩
 .obtain⟨x,y,rfl⟩:=YV.mp k;exact h.wd x.1 (g ▸ YV.mpr ⟨x,y,rfl⟩)
 .rw[WG];exact g.symm ▸ h.nd
 .rw[show((l.zip b).map λp=>(p.1,p.2.map (eW l))).map (·.1)=l from List.map_map.trans g];refine⟨by rw[ak,o];exact aL c wP,comp_map (λp=>g7 (p.1,p.2.map (eW l))) (λp=>.lst (p.2.map λm=>c5 m.of)) (l.zip b) (λp k N M B=>?_) ⟨⟨f,by decide⟩,_,_,rfl,?_⟩⟩
  .exact⟨f,_,rfl,l,p.2,rfl,h.nd,h.mds p.2 (r ▸ YV.mpr ⟨p,k,rfl⟩),B⟩
  .have:(l.zip b).map (λp=>L2.T.lst (p.2.map λm=>c5 m.of))=(fw b).map λd=>.lst (d.map c5):=by
    rw[show(fw b).map (λd=>L2.T.lst (d.map c5))=b.map λd=>.lst (d.map λm=>c5 m.of)from by simp[fw,WG,Function.comp_def]]
    conv=>rhs;rw[<- r,WG]
    rfl
   rw[<- this]at q;exact q
structure GK(l:Φ)(off:xz):Prop where
 len:off.length=l.length
 few:l.length<=1000
 fews:∀ds∈off,ds.length<=1000
def mJ(D:be):ST:=λb q=>∃(s:Rat)(l:Φ)(a:xz),b=[cK D s l a]/\q (.fz (.int (l.length:Nat)))
def Tw(T:Tx D):gI 1 D.Hall_size gR (mJ D):=ye T.Ur λ{U}F=>by
 refine F.okT Q_ (λ_ _=>bG (bM (bN I0 T.cX WJ (bx (vB (Fm:=bv D) (λC h=>⟨T.cl C h,T.Cv C h⟩) vx) bC)))) ?_;rintro _ R ⟨s,l,a,rfl,q⟩;refine⟨zJ D,_,rfl,?_⟩;rw[<- ak (f:=(Sum.inr:Str->bE))]at q;exact q
def Ci(D:be):ST:=λb q=>∃(s:Rat)(l:Φ)(a:xz)(k:Nat),b=[cK D s l a,.int k]/\k<l.length/\q (.fz .non)
def Ov(T:Tx D):gI 2 D.Hall_check_room gC (Ci D):=ye T.Di λF=>by
 refine F.okT CN (λ_ _=>bG (cB (QW.qt (fW (dg (cJ (bI (WM T) (bx vw bC)))) (fu (dg (V2 Qi rY bA vw (Ah vx T.jD T.pJ (Tw T) (KS:=lD)))))))
  (bG gK)
  bQ)) ?_
 rintro _ R ⟨s,l,a,k,rfl,b,q⟩;refine⟨_,_,rfl,rfl,⟨rfl,rfl⟩,_,_,_,rfl,?_⟩;show sw (!decide ((k:Int)<(l.length:Nat))) _ _;rw[Zs (show(k:Int)<(l.length:Nat)by lia)];exact q
def pY(D:be):ST:=λc q=>∃(s:Rat)(l:Φ)(a:xz)(k:Nat)(b:List bO),c=[cK D s l a,.int k]/\GK l a/\a[k]?=some b/\q (.l1 (b.map c5))
def cT{l:List J}{h:J->T}{a:J}(e:l[k]?=some a):ck (l.map h) (k:Nat)=some (h a):=by
 show dz (l.map h) k=_;rw[o7,aq,e];rfl
def ja(T:Tx D):gI 3 D.Hall_offers eU (pY D):=ye T.Lh λF=>by
 refine F.okT Lq (λ_ _=>bF (mW (Bt vx T.jD T.Cp (Ov T) (bx vw bC) (KS:=lD)))
  (bG (bM (dZ (bH oA) uq uq ["name","pay","numbered"] (cL (bJ (vB (Fm:=bv D) (λC h=>⟨T.cl C h,T.Kl C h⟩) vx) vw)) (fL (n:=3) (bV (fZ (i:=0)) (bV (fZ (i:=1)) (bV (fZ (i:=2)) dO)))) cI (dU (bx vx (bx vw (bx (jU Bk T.lG boot_list (bx vy bC)) bC)))))))) ?_
 rintro _ R ⟨s,l,b,k,a,rfl,h,e,q⟩;have c:k<l.length:=by rw[<- h.len];exact(ao.mp e).1
 refine⟨⟨rfl,rfl⟩,s,l,b,k,rfl,c,zJ D,_,rfl,.lst (a.map c5),cT (h:=λa=>L2.T.lst (a.map c5)) e,by rw[ak];exact aL (h.fews a (aC e)) wP,comp_map c5 c5 a (λo _ N M d=>⟨rfl,d⟩) q⟩
def ad1(m:Nat):we:=(range m).map λi=>(range m).map λj=>aa (if j=i then 1 else 0)
def Al:ST:=λa q=>∃m:Nat,a=[.int m]/\m<=100/\q (.l2 (ad1 m))
def Lg(T:Tx D):gT 1 p8 jy Al:=yB T.Oh L_ (λc _=>bG (bM (ae6 (bH kO) kW kW "row" (d7 T.fK (bx vx bC)) EQ cI (IT (bH kO) ("row"::kW) ("row"::kW) ["column"] (d7 T.fK (bx vw bC)) (fZ (i:=0)) cI (Yr (bW (z5 c.units) vx vw) (m_ T.Io T.yu) (m_ T.j5 T.je))))))<|by
 rintro _ R ⟨m,rfl,h,q⟩;have sz:(100:Nat)<=sizeLine:=by decide
 have b:(rng 0 m).length<=sizeLine:=by rw[rng,ak,W1];exact aL h sz
 refine⟨⟨by lia,by lia⟩,b,Yn (λi=>(range m).map λj=>aa (if j=i then 1 else 0)) m (λi f N M a=>⟨⟨by lia,by lia⟩,b,Vl (λj=>aa (if j=i then 1 else 0)) m (λj d N M a=>?_) a⟩) q⟩;by_cases e:j=i
 .rw[ZY e]at a;exact dV (Zs wE) a
 .rw[ZZ e]at a;exact cg (Zp wE) a
def dT:xF->T
 |none=>.non
 |some d=>.int d
def Aa:xF->Nat->Bool
 |none,n=>decide (n=0)
 |some d,n=>decide (d<n)
structure cf(off:xz)(t:zI):Prop where
 len:t.length=off.length
 ok:∀(k:Nat)(d:xF)(ds:List bO),t[k]?=some d->off[k]?=some ds->Aa d ds.length=true
def aaZ:ST:=λa q=>∃(d:xF)(n:Nat),a=[dT d,.int n]/\q (.fz (.bl (Aa d n)))
def agE(T:Tx D):gT 2 FW vo aaZ:=yB T.adP II (λa _=>bF (cB (bW (z5 a.units) vw bA)
  (bG (bM (mq zY vx eY)))
  bQ)
  (bG (bM (wO (bI (WM T) (bx vx bC)) (zu (Mz Qi rY bA vx vw))))))<|by
 rintro _ R ⟨d,n,rfl,q⟩;by_cases e:n=0
 .subst e;cases d with
  |none=>exact q
  |some d=>exact q
 .refine cg (Zp wE) ?_;cases d with
  |none =>
   rw[show Aa none n=false from Zp e]at q;exact⟨_,_,rfl,rfl,q⟩
  |some d =>
   rw[show Aa (some d) n=decide ((d:Int)<(n:Int))from decide_eq_decide.mpr (by omega)]at q;exact⟨_,_,rfl,rfl,q⟩
def nU(D:be):ST:=λb q=>∃(s:Rat)(l:Φ)(a:xz)(t:zI),b=[cK D s l a,.lst (t.map dT)]/\GK l a/\cf a t/\q (.fz (.bl true))
def N8(T:Tx D):gT 4 gZ fJ (nU D):=yB T.Et Cd (λg _=>bF (cB (QW.qt (fW (dg (cJ (h_ .list vw T.cH T.lG boot_list))) (fu (bW (jZ g.units) (bN cG T.cX WJ (bx vw bC)) (Ah vx T.jD T.pJ (Tw T) (KS:=lD))))))
  (bG gK)
  bQ)
  (bF (d_ (Ba T.lU (bx vw bC)) (fL (n:=2) (bV (b_ (n:=99) 2) (bV (b_ (n:=99) 3) dO)))
  (bG (cB (dg (cJ (bI (agE T) (bx vc (bx (bN cG T.cX WJ (bx (Bt vx T.jD T.jo (ja T) (bx vy bC) (KS:=lD)) bC)) bC)))))
  (bG gK)
  bQ)))
  (bG (bM fj))))<|by
 rintro _ R ⟨s,l,a,t,rfl,h,b,q⟩;refine⟨⟨rfl,rfl⟩,_,_,_,rfl,cg ?_ ?_⟩
 .show xr true (decide ((((t.map dT).length:Nat):Int)=(l.length:Nat)))=false;rw[ak,b.len,h.len,Zs rfl]
  rfl
 .refine uT dT t (λk o=>∃x y,o=[.fz (cK D s l a),.fz (.lst (t.map dT)),x,y]) ⟨_,_,rfl⟩ ?_ ?_
  .rintro k d _ e ⟨x,y,rfl⟩;have f:k<a.length:=by rw[<- b.len];exact(ao.mp e).1
   have c:=aj f;refine⟨rfl,⟨rfl,rfl⟩,_,_,_,k,_,rfl,h,c,d,(a[k]).length,?_,?_⟩
   .show[dT d,L2.T.int ((((a[k]).map c5).length:Nat):Int)]=_;rw[ak]
   .rw[b.ok k d _ e c];exact⟨_,_,rfl⟩
  .rintro _ ⟨x,y,rfl⟩;exact q
def ca(a:xz)(t:zI):xm:=t.zipIdx.map λp=>p.1.bind λd=>(a.getD p.2 [])[d]?
def f_:xE->T
 |none=>.non
 |some o=>c5 o
def wW(D:be):ST:=λb q=>∃(s:Rat)(l:Φ)(a:xz)(t:zI),b=[cK D s l a,.lst (t.map dT)]/\GK l a/\cf a t/\q (.l1 ((ca a t).map f_))
def Jy(T:Tx D):gT 4 pB jd (wW D):=yB T.K3 Jp (λ_ _=>bG (bM (dZ (bH lY) qg qg ["room","door"] (Ba T.lU (bx vw bC)) (fL (n:=2) (bV (fZ (i:=0)) (bV (fZ (i:=1)) dO))) cI (Yr (bW zY vw eY) eY (bJ (Bt vy T.jD T.jo (ja T) (bx vx bC) (KS:=lD)) vw)))))<|by
 rintro _ R ⟨s,l,c,t,rfl,h,g,q⟩;refine⟨by unfold BL;rw[ak,length_zipIdx,ak,g.len,h.len];exact aL h.few wP,?_⟩;rw[agj];refine comp_map (λp=>.tup [.int (p.2:Nat),dT p.1]) (λp=>f_ (p.1.bind λd=>(c.getD p.2 [])[d]?)) t.zipIdx (λp o N M f=>⟨rfl,?a⟩) ?b
 case b =>
  unfold ca at q;rw[WG]at q;exact q
 case a =>
  obtain⟨d,k⟩:=p;have e:=List.mem_zipIdx_iff_getElem?.mp o;have m:k<c.length:=by rw[<- g.len];exact(ao.mp e).1
  have j:=aj m;have u:c.getD k []=c[k]:=by rw[au,j];rfl
  have r:=g.ok k d _ e j;cases d with
  |none=>exact f
  |some d =>
   have ld:d<(c[k]).length:=of_decide_eq_true r;have f:N (f_ ((c.getD k [])[d]?)):=f;rw[u,aj ld]at f;exact⟨⟨rfl,rfl⟩,_,_,_,k,_,rfl,h,j,_,cT (aj ld),f⟩
open Rw (vr jt jh oG ba iQ iK t_ m5 Big qY j8 oh lB n_ gM)
abbrev db:=List Int×Int
abbrev xt:=List db
abbrev b'(r:db):T:=.tup [.lst (r.1.map T.int),.int r.2]
def NN:Nat:=10^600
def nr{i:Int}(h:i.natAbs<=NN*NN*NN):Bd i:=Y3 h (by decide +kernel)
def dj{i:Int}(h:i.natAbs<=NN):Bd i:=nr (aL h (by decide +kernel))
def kH{i:Int}(h:i.natAbs<=NN*NN):Bd i:=nr (aL h (by decide +kernel))
def kR{b:Int}(d:a.natAbs<=m)(c:b.natAbs<=n):(a*b).natAbs<=m*n:=by rw[VW];exact VY d c
def uR{b:Int}(h:0<b):fdiv a b=a/b:=lI _ (XY h)
def G4:ST:=λa q=>∃r:db,a=[.lst (r.1.map T.int),.int r.2]/\0<r.2/\Bd r.2/\r.1.length<=1000/\q (.fz (b' (jt r)))
def HZ(T:Tx D):gT 2 Bp pQ G4:=yB T.af2 ac4 (λ_ _=>bF (bT 2 vw)
  (bF (d_ (cL vx) (b_ (n:=99) 3)
  (bG (bT 2 (bI (ji T) (bx vc (bx vy bC))))))
  (bG (bM (dU (bx (dZ (bH Fx) V8 ["tops","bottom","common","?top"] ["top"] (cL vx) (fZ (i:=0)) cI (bL nu vx vc)) (bx (bL nu vw vy) bC)))))))<|by
 rintro _ R ⟨⟨tops,b⟩,rfl,c,g,h,q⟩;have c:0<b:=c;have g:Bd b:=g;refine iy L2.T.int tops (λf o=>∃x,o=[.fz (.lst (tops.map L2.T.int)),.fz (.int b),.fz (.int (ba f b)),x]) ⟨_,rfl⟩ ?_ ?_
 .rintro f a l _ e ⟨x,rfl⟩;refine⟨_,_,rfl,.fz (.int a),?_⟩;rw[show ba (f++[a]) b=((Int.gcd a (ba f b):Nat):Int)from by unfold ba;rw[List.foldl_append];rfl]
  rfl
 .rintro _ ⟨x,rfl⟩;have d:=iQ (ts:=tops) c;have g1:Bd (ba tops b):=Qe (by have:=t_ (ts:=tops) c;omega) g;refine⟨by rw[ak];exact aL h wP,comp_map L2.T.int (λt=>.int (t/ba tops b)) tops (λt k N M j=>⟨⟨by exact WP d,g1⟩,?_⟩) ⟨⟨by exact WP d,g1⟩,?_⟩⟩
  .rw[uR d];exact j
  .rw[uR d];have:(jt (tops,b)).1.map L2.T.int=tops.map λt=>.int (t/ba tops b):=WG;rw[<- this];exact q
structure Fn(c:Rat):Prop where
 n:c.num.natAbs<=NN
 d:c.den<=NN
abbrev pr(c:Rat):Int×Int:=(c.num,c.den)
def Ew:ST:=λa q=>∃(r:db)(c:Rat),a=[b' r,aa c]/\Big NN r/\r.1.length<=1000/\Fn c/\q (.fz (b' (jt (jh r (pr c)))))
def R6(T:Tx D):gT 3 vm mO Ew:=yB T.Wt Vr (λ_ _=>bG (bM (bI (HZ T) (bx (dZ (bH rQ) xV xV ["top"] (cL (bJ vx bA)) (fZ (i:=0)) cI (bL cY vx (bJ vy bA))) (bx (bL cY (bJ vx bA) (bJ vw bA)) bC)))))<|by
 rintro _ R ⟨r,c,rfl,a,b,e,q⟩;have:=c.den_pos;have f:((c.den:Nat):Int).natAbs<=NN:=e.d;refine⟨by rw[ak];exact aL b wP,comp_map L2.T.int (λt=>.int (t*c.num)) r.1 (λt g N M h=>⟨⟨dj (a.top t g),dj e.n⟩,h⟩) ⟨⟨dj a.bot,dj f⟩,jh r (pr c),?_,XZ a.pos (show(0:Int)<(c.den:Nat)by lia),kH (kR a.bot f),by show(r.1.map _).length<=1000;rw[ak];exact b,q⟩⟩;show _=[L2.T.lst ((r.1.map λt=>t*c.num).map L2.T.int),.int (r.2*c.den)];rw[WG]
 rfl
def IW:ST:=λa q=>∃(r o:db)(c:Rat),a=[b' r,b' o,aa c]/\Big NN r/\Big NN o/\r.1.length<=1000/\o.1.length=r.1.length/\Fn c/\q (.fz (b' (jt (oG r o (pr c)))))
def Wy(T:Tx D):gT 3 yc oM IW:=yB T.YB Im (λ_ _=>bF (bT 3 (bL cY (bJ vw bA) (bJ vy bA)))
  (bF (bT 4 (bI (ji T) (bx (bJ vx bA) (bx vc bC))))
  (bF (bT 5 (bL nu vc vt))
  (bF (bT 6 (bL cY (bL nu (bJ vx bA) vt) (bJ vy bA)))
  (bF (vh (bH vD) Du Du ["one","another"] (Vo T.Wg (bx (bJ vx bA) (bx (bJ vw bA) bC))) (fL (n:=2) (bV (fZ (i:=0)) (bV (fZ (i:=1)) dO))) cI (bL cW (bL cY vx (qv 7)) (bL cY vw (qv 8))) (gJ (i:=7) Im.nd rfl (Or.inl rfl)))
  (bG (bM (bI (HZ T) (bx (qv 7) (bx (bL cY (bJ vx bA) vn) bC))))))))))<|by
 rintro _ R ⟨r,o,c,rfl,b,f,u,j,g,q⟩;have:=c.den_pos;have t:((c.den:Nat):Int).natAbs<=NN:=g.d;have l:0<o.2*(c.den:Int):=XZ f.pos wE;have w:=kR f.bot t;have e:=ou (a:=r.2) (WP l);have gr:((Int.gcd r.2 (o.2*(c.den:Int)):Nat):Int)≠0:=by exact WP e
 have x:Int.gcd r.2 (o.2*(c.den:Int))<=r.2.natAbs:=UR (by have:=b.pos;omega) (Int.gcd_dvd_natAbs_left ..);have m:Bd ((Int.gcd r.2 (o.2*(c.den:Int)):Nat):Int):=dj (by have:=b.bot;lia);have h:(o.2*(c.den:Int)/((Int.gcd r.2 (o.2*(c.den:Int)):Nat):Int)).natAbs<=NN*NN:=aL (Int.natAbs_ediv_le_natAbs _ _) w;have s:(r.2/((Int.gcd r.2 (o.2*(c.den:Int)):Nat):Int)).natAbs<=NN:=aL (Int.natAbs_ediv_le_natAbs _ _) b.bot;refine⟨⟨dj f.bot,dj t⟩,_,_,rfl,⟨gr,m⟩,⟨gr,m⟩,⟨by rw[uR e];exact dj s,dj g.n⟩,?_⟩;rw[uR e,uR e];refine⟨by unfold K8;rw[ak,VU,ak,ak,j,US];exact aL u wP,?_⟩;rw[zip_map];refine comp_map (λp=>.tup [.int p.1,.int p.2]) (λp=>.int (p.1*(o.2*(c.den:Int)/((Int.gcd r.2 (o.2*(c.den:Int)):Nat):Int))+p.2*(r.2/((Int.gcd r.2 (o.2*(c.den:Int)):Nat):Int)*c.num))) (r.1.zip o.1) (λp k N M v=>⟨rfl,⟨dj (b.top _ (UT k).1),kH h⟩,⟨dj (f.top _ (UT k).2),kH (kR s g.n)⟩,v⟩) ⟨⟨dj b.bot,kH h⟩,oG r o (pr c),?_,?_,nr ?_,?_,q⟩
 .show _=[L2.T.lst ((zipWith _ r.1 o.1).map L2.T.int),_];rw[map_zipWith,List.zip,map_zipWith]
  rfl
 .exact XZ b.pos (lN l (XY e) (QP ..))
 .rw[Nat.mul_assoc];exact kR b.bot h
 .show(zipWith _ r.1 o.1).length<=1000;rwa[T2,j,US]
open Rw (vr jt jh oG ba iQ iK t_ m5 Big qY j8 oh lB n_ gM)
inductive iE where
 |swap (i j:Nat)|times (i:Nat) (c:Rat)|add (i j:Nat) (c:Rat)
def g5:iE->T
 |.swap i j=>.tup [.str "swap",.int i,.int j]
 |.times i c=>.tup [.str "times",.int i,aa c]
 |.add i j c=>.tup [.str "add",.int i,.int j,aa c]
def ac(h:xt)(i:Nat):db:=h.getD i ([],1)
def yq(h:xt):iE->xt
 |.swap i j=>(h.set i (ac h j)).set j (ac h i)
 |.times i c=>h.set i (jt (jh (ac h i) (pr c)))
 |.add i j c=>h.set i (jt (oG (ac h i) (ac h j) (pr c)))
def Dx(n:Nat):iE->Prop
 |.swap i j=>i<n/\j<n
 |.times i c=>i<n/\Fn c
 |.add i j c=>i<n/\j<n/\Fn c
def Az{h:xt}(a:i<h.length):h[i]?=some (ac h i):=by
 unfold ac;rw[au,aj a];rfl
def gk{h:xt}(a:i<h.length):ac h i∈h:=aC (Az a)
def wI(h:i<n):c_ n ((i:Nat):Int)=some i:=by
 unfold c_;rw[ZY (WZ _),ZY wE];rfl
def wN{h:xt}(a:i<h.length):ck (h.map b') ((i:Nat):Int)=some (b' (ac h i)):=cT (Az a)
structure Rws(h:xt)(I:Nat):Prop where
 big:∀r∈h,Big NN r
 wds:∀r∈h,r.1.length=I
 few:h.length<=100
 wde:I<=1000
def Em:SO:=λL b R=>∃(h:xt)(a:iE)(I:Nat),L=[h.map b']/\b=[g5 a]/\Rws h I/\Dx h.length a/\R [(yq h a).map b']
def GU{e:Type}{c:List e}(h:c.length=2):∃a b,c=[a,b]:=by rcases c with _|⟨a,_|⟨b,_|_⟩⟩<;>first|exact⟨_,_,rfl⟩|cases h
def Ru(T:Tx D):e_ P w K mg base 4 vR mL (gl K Em):=ya T.Xi λF=>by
 refine F.okO Vn (λL t R ⟨h,o,I,z,v,_⟩=>by rw[z,v];rfl) wP λC A g s H E p B=>?_;refine⟨_,(bF (bT 2 (vq 0 (bJ vw bA)))
  (bG (cB (bW (z5 p.units) (bJ vw bA) nM)
  (bF (yj 0 (vq 0 (bJ vw bA)) (bJ vw bA))
  (bG (yj 0 vy (bJ vw bA))))
  (bG (cB (bW (z5 p.units) (bJ vw bA) nM)
  (bG (yj 0 (bI (R6 T) (bx vy (bx (bJ vw bA) bC))) (bJ vw bA)))
  (bG (yj 0 (bI (Wy T) (bx vy (bx (vq 0 (bJ vw bA)) (bx (bJ vw bA) bC)))) (bJ vw bA)))))))),?_⟩
 rintro r L t R u ⟨h,o,I,rfl,rfl,b,e,q⟩;obtain⟨a,rfl⟩:=List.length_eq_one_iff.mp u.symm
 have l:∀(d:List L2.T)(x y:OT),R [d]->∃k,(∀j,slot [.la a d,x,y] j=slot (zipWith OT.la [a] k) j\/[a].length<=j)/\k.length=[a].length/\R k:=λd x y q=>⟨[d],λj=>by
  cases j with
  |zero=>exact .inl rfl
  |succ j=>exact .inr vz,rfl,q⟩
 have f:(h.map b').length=h.length:=ak _
 match o,e,q with
 |.swap i j,e,q =>
  refine⟨_,wN e.1,_,wN e.2,i,wI (f ▸ e.1),j,wI (by rw[VZ,f];exact e.2),l _ _ _ ?_⟩;rw[yq,map_set,map_set]at q;exact q
 |.times i c,e,q =>
  have m:=gk e.1;refine⟨_,wN e.1,ac h i,c,rfl,b.big _ m,by rw[b.wds _ m];exact b.wde,e.2,i,wI (f ▸ e.1),l _ _ _ ?_⟩;rw[yq,map_set]at q;exact q
 |.add i j c,e,q =>
  have m:=gk e.1;have n:=gk e.2.1;refine⟨_,wN e.1,_,wN e.2.1,ac h i,ac h j,c,rfl,b.big _ m,b.big _ n,by rw[b.wds _ m];exact b.wde,by rw[b.wds _ m,b.wds _ n],e.2.2,i,wI (f ▸ e.1),l _ _ _ ?_⟩;rw[yq,map_set]at q;exact q
open Rw (vr jt jh oG ba iQ iK t_ m5 Big qY j8 oh lB n_ gM)
def vG:ST:=λa q=>∃(r:db)(k:Nat),a=[b' r,.int k]/\k<r.1.length/\Big NN r/\q (.fz (aa (vr r k)))
def UJ(T:Tx D):gT 3 pN jP vG:=yB T.X4 RL (λ_ _=>bG (bM (bI (gV T) (bx (bJ (bJ vx bA) vw) (bx (bJ vx bA) bC)))))<|by
 rintro _ R ⟨r,k,rfl,b,a,q⟩;have c:=a.pos;refine⟨_,cT (aj b),_,_,rfl,by exact WP c,dj a.bot,λx y l=>?_⟩;rw[jN l (WP c),UH];unfold vr at q;rw[au,aj b]at q;exact q
def w5:ST:=λa q=>∃(h:xt)(I:Nat),a=[.lst (h.map b')]/\Rws h I/\q (.l1 (h.map λr=>.lst ((range I).map λk=>aa (vr r k))))
def Jr(T:Tx D):gT 3 oZ i_ w5:=yB T.Lw Jx (λ_ _=>bG (bM (_V (bH jB) jG jG "row" (cL vx) EQ cI (IT (bH jB) ("row"::jG) ("row"::jG) ["top"] (cL (bJ vx bA)) (fZ (i:=0)) cI (bI (gV T) (bx vx (bx (bJ vw bA) bC)))))))<|by
 rintro _ R ⟨h,I,rfl,a,q⟩;refine⟨by rw[ak];exact aL a.few wP,comp_map b' (λr=>.lst ((range I).map λk=>aa (vr r k))) h (λr b N M g=>⟨by rw[ak,a.wds r b];exact aL a.wde wP,?_⟩) q⟩;have c:=a.big r b;have f:=c.pos;refine comp_map L2.T.int (λt=>aa ((t:Rat)/(r.2:Rat))) r.1 (λt j N M g=>⟨_,_,rfl,by exact WP f,dj c.bot,λx y l=>by rwa[jN l (WP f),UH]⟩) ?_;have e:(r.1.map λt:Int=>aa ((t:Rat)/(r.2:Rat)))=(range I).map λk=>aa (vr r k):=by
  refine JP (by rw[ak,ak,W1,a.wds r b]) λn d m=>?_;rw[ak]at d;rw[UU,UU,Q3];unfold vr;rw[au,aj d]
  rfl
 rwa[e]
def F6{lo:Nat}{t:T}(e:(rng (lo:Nat) n)[i]?=some t):i<n/\t=.int ((lo+i:Nat):Int):=by
 unfold rng at e;rw[aq]at e;by_cases a:i<n
 .rw[UV a]at e;cases e;exact⟨a,rfl⟩
 .rw[aM (by simpa using a)]at e;cases e
def F9{r:db}(h:0<r.2)(a:k<r.1.length):vr r k=0↔r.1[k]=0:=by
 have e:vr r k=(r.1[k] : Rat)/(r.2:Rat):=by unfold vr;rw[au,aj a];rfl
 have n:(r.2:Rat)≠0:=λz=>by have:=Rat.intCast_eq_zero_iff.mp z;lia
 rw[e];constructor
 .intro z;have:(r.1[k] : Rat)=0:=by grind
  exact Rat.intCast_eq_zero_iff.mp this
 .intro z;rw[z];grind
def Bw:ST:=λa R=>∃(h:xt)(I p k:Nat),a=[.lst (h.map b'),.int p,.int k]/\Rws h I/\p<=h.length/\k<I/\(∀q,p<=q->q<h.length->vr (ac h q) k≠0->R (.fz (.int q)))/\((∀i,p<=i->i<h.length->vr (ac h i) k=0)->R (.fz .non))
def Pg(T:Tx D):gT 1 ur kE Bw:=yB T.TJ O5 (λu _=>bF (d_ (HS T.fK (bx vw (bx (bN cG T.cX WJ (bx vx bC)) bC))) (b_ (n:=99) 3)
  (bG (cB (bW (jZ u.units) (bJ (bJ (bJ vx vc) bA) vy) bA)
  (bG (bM vc))
  bQ)))
  (bG (bM eY)))<|by
 rintro _ R ⟨h,I,p,k,rfl,a,A,B,q,s⟩;have b:∀i,i<h.length->k<(ac h i).1.length:=λi l=>by rwa[a.wds _ (gk l)]
 have w:=a.few;have r:(h.map b').length=h.length:=ak _;refine⟨⟨by lia,by lia,by lia,by lia⟩,Gq (λi o=>∃x,o=[.fz (.lst (h.map b')),.fz (.int p),.fz (.int k),x]/\∀j,p<=j->j<p+i->vr (ac h j) k=0) _ 0 ⟨_,rfl,λj _ _=>by lia⟩ (λi t o e z=>?_) λo z=>?_⟩
 .obtain⟨l,rfl⟩:=F6 e;rw[r]at l;have d:p+i<h.length:=by omega
  obtain⟨x,rfl,f⟩:=z;have m:=F9 (a.big _ (gk d)).pos (b _ d);refine⟨_,wN d,_,cT (aj (b _ d)),?_⟩;by_cases c:(ac h (p+i)).1[k]'(b _ d)=0
  .refine cg (by show xr true (decide (_=_))=false;rw[Zs c];rfl) ⟨_,rfl,λj g v=>?_⟩;by_cases y:j=p+i
   .rw[y];exact m.mpr c
   .exact f j g wE
  .exact dV (by show xr true (decide (_=_))=true;rw[Zp c];rfl) (q _ (X9 _ _) d λz=>c (m.mp z))
 .obtain⟨x,rfl,f⟩:=z;refine s λj g v=>f j g ?_;unfold rng;rw[ak,W1,r];lia
def M6:SO:=λL c R=>∃(h:xt)(b:xk)(a:iE)(I:Nat),L=[h.map b',b]/\c=[g5 a]/\Rws h I/\Dx h.length a/\b.length<sizeLine/\R [(yq h a).map b',b++[g5 a]]
def ph(T:Tx D):e_ P w K mg base 5 DY uz (gl K M6):=ya T.ahE λF=>by
 refine F.okO adL (λL i R ⟨h,f,d,I,o,n,_⟩=>by rw[o,n];rfl) wP λt A e s H E r p=>?_;refine⟨_,(bF (UE 0 (Ru T) (bx vy bC))
  (bG (qw 1 vy))),?_⟩
 rintro g L i R k ⟨h,f,d,I,rfl,rfl,c,l,m,q⟩;obtain⟨a,b,rfl⟩:=GU k.symm
 refine⟨h,d,I,rfl,rfl,c,l,m,[(yq h d).map b',f++[g5 d]],λj=>?_,rfl,q⟩
 rcases j with _|_|j<;>first|exact .inl rfl|exact .inr vz
open Rw (vr jt jh oG ba iQ iK t_ m5 Big qY j8 oh lB n_ gM)
def Kh{h:xt}{r:db}(a:i<h.length)(j:Nat):ac (h.set i r) j=if j=i then r else ac h j:=by
 unfold ac;rw[au,au,List.getElem?_set];by_cases e:i=j
 .subst e;rw[ZY rfl,ZY rfl,ZY a];rfl
 .rw[ZZ e,ZZ (Ne.symm e)]
def Fn.of{b:Int}(d:b≠0)(i:a.natAbs<=NN)(k:b.natAbs<=NN):Fn (divInt a b):=by
 have j:=lM a d;have f:∃x y,l9 a b x y:=by
  rcases Int.lt_or_lt_of_ne d with z|z
  .exact⟨_,_,xG (c:=-((Int.gcd a b:Nat):Int)) d wE wE (Int.mul_pos_of_neg_of_neg wE z)⟩
  .exact⟨_,_,xG (c:=((Int.gcd a b:Nat):Int)) d wE wE (XZ wE z)⟩
 obtain⟨x,y,l⟩:=f;have e:=jN l d;injection e with e;injection e with g e;injection e with h e;injection g with g;injection h with h;exact⟨by rw[<- g];exact aL l.lx i,by have:=l.ly;lia⟩
def FF{r:db}(a:k<r.1.length):vr r k=divInt r.1[k] r.2:=by
 unfold vr;rw[au,aj a,UH];rfl
def Fn.vr{r:db}{k:Nat}(h:Big NN r)(a:k<r.1.length):Fn (vr r k):=by
 have:=h.pos;rw[FF a];exact Fn.of (WP this) (h.top _ (aU _)) h.bot
def Fn.inv{c:Rat}(h:Fn c)(b:c≠0):Fn (1/c):=by
 have a:c.num≠0:=λz=>b (by rw[<- rd c,z];exact JS _);rw[Rat.div_def,Rat.one_mul,Rat.inv_def];exact Fn.of a h.d h.n
def Fn.neg{c:Rat}(h:Fn c):Fn (0-c):=by
 rw[Rat.sub_eq_add_neg,Rat.zero_add];exact⟨by show(-c.num).natAbs<=NN;rw[Int.natAbs_neg];exact h.n,h.d⟩
def Fn.bq{c:Rat}(h:Fn c):Bq c:=⟨dj h.n,dj h.d⟩
def Rws.fn{h:xt}(a:Rws h I)(b:i<h.length)(c:k<I):Fn (Rw.vr (ac h i) k):=Fn.vr (a.big _ (gk b)) (by rwa[a.wds _ (gk b)])
def Rws.of{h c:xt}(a:Rws h I)(f:c.length=h.length)(g:∀i,i<h.length->Big NN (ac c i)/\(ac c i).1.length=I):Rws c I:=by
 have:∀r∈c,Big NN r/\r.1.length=I:=λr b=>by
  obtain⟨i,d,j⟩:=List.getElem_of_mem b;have e:=Az d;rw[aj d,j]at e;injection e with e;rw[e];exact g i (f ▸ d)
 exact⟨λr b=>(this r b).1,λr b=>(this r b).2,f ▸ a.few,a.wde⟩
def Ma(h:xt)(a:iE):(yq h a).length=h.length:=by cases a<;>simp[yq]
def fR(r:db)(k:Nat):db:=if vr r k=1 then r else jt (jh r (pr (1/vr r k)))
def kA(h:xt)(p q k i:Nat):db:=if i=p then fR (ac h q) k else ac h (Rw.sw p q i)
def eB(h:xt)(p q:Nat):xt:=if q=p then h else yq h (.swap p q)
def ag4(h:xt)(p q:Nat):(eB h p q).length=h.length:=by
 unfold eB;split
 .rfl
 .exact Ma _ _
def UF{h:xt}{p q:Nat}(a:p<h.length)(b:q<h.length)(i:Nat):ac (eB h p q) i=ac h (Rw.sw p q i):=by
 unfold eB Rw.sw;by_cases e:q=p
 .subst e;rw[ZY rfl];by_cases c:i=q
  .rw[ZY c,c]
  .rw[ZZ c,ZZ c]
 .rw[ZZ e];show ac ((h.set p (ac h q)).set q (ac h p)) i=_;rw[Kh (by rwa[VZ]),Kh a];by_cases c:i=q
  .subst c;rw[ZY rfl,ZZ e,ZY rfl]
  .rw[ZZ c];by_cases d:i=p
   .rw[ZY d,ZY d]
   .rw[ZZ d,ZZ d,ZZ c]
def Gx:SO:=λL d R=>∃(h:xt)(a:xk)(I p q k:Nat),L=[h.map b',a]/\d=[.int p,.int q,.int k]/\Rws h I/\p<h.length/\q<h.length/\k<I/\vr (ac h q) k≠0/\a.length+2<sizeLine /\
 ∀b c,b.length=h.length->(∀i,i<h.length->ac b i=kA h p q k i)->c.length<=a.length+2->R [b.map b',c]
def SW{x y:RS}(J:xy->Prop)(k:∀a,J a->y E a)(h:(∀a,J a->y E a)->eE x y E o):eE x y E o:=h k
def tL(v u:Rat):(decide (v.num=u.num)&&decide (((v.den:Nat):Int)=u.den))=decide (v=u):=by
 rw[<- decide_and];refine decide_eq_decide.mpr ⟨λ⟨a,b⟩=>Rat.ext a wE,λz=>by rw[z];exact⟨rfl,rfl⟩⟩
def hH{R:we->Prop}{a b:Addr}(L M:xk)(q:R [L,M]):∃c,(∀j,slot (.la a L::.la b M::o) j=slot (zipWith OT.la [a,b] c) j\/[a,b].length<=j)/\c.length=[a,b].length/\R c:=⟨[L,M],λj=>by
 match j with
 |0=>exact .inl rfl
 |1=>exact .inl rfl
 |j+2=>exact .inr vz,rfl,q⟩
def Rk(T:Tx D):e_ P w K mg base 6 vM mZ (gl K Gx):=ya T.Yo λF=>by
 refine F.okO Rp (λL S R ⟨h,f,I,p,q,k,X,W,_⟩=>by rw[X,W];rfl) wP λag A y s H E r Y=>?_;refine⟨_,(bF (cB (bW (jZ r.units) vc vy)
  (bG (Lr 0 1 (ph T) r.md (by rfl) (bx (dU (bx nM (bx vy (bx vc bC)))) bC)))
  bQ)
  (bF (bT 5 (bI (UJ T) (bx (vq 0 vy) (bx vt bC))))
  (bG (cB (bW (jZ r.units) vn (m_ T.Io T.yu))
  (bG (Lr 0 1 (ph T) r.md (by rfl) (bx (dU (bx nM (bx vy (bx (bI (__ T) (bx (m_ T.Io T.yu) (bx vn bC))) bC)))) bC)))
  bQ)))),?_⟩
 rintro as L S R U ⟨h,f,I,p,q,k,rfl,rfl,d,N,B,V,O,Z,J⟩;obtain⟨a,b,rfl⟩:=GU U.symm;have G:=ag4 h p q;have l:=UF N B;have z:Rw.sw p q p=q:=ZY rfl;have j:∀i,i<h.length->Rw.sw p q i<h.length:=λi m=>by
  unfold Rw.sw;split
  .exact B
  .split<;>omega
 have t:Rws (eB h p q) I:=d.of G λi m=>by rw[l];exact⟨d.big _ (gk (j i m)),d.wds _ (gk (j i m))⟩
 refine SW (λo=>∃x,o=[.la a ((eB h p q).map b'),.la b x,.fz (.int p),.fz (.int q),.fz (.int k),.und]/\x.length<=f.length+1) ?_ λQ=>?_
 .rintro _ ⟨x,rfl,M⟩;have g:p<(eB h p q).length:=by lia
  have C:k<(ac (eB h p q) p).1.length:=by rwa[t.wds _ (gk g)]
  have u:=t.fn g V;refine⟨_,wN g,_,k,rfl,C,t.big _ (gk g),?_⟩;have v:vr (ac (eB h p q) p) k=vr (ac h q) k:=by rw[l,z]
  rw[v];rw[v]at u;by_cases e:vr (ac h q) k=1
  .refine cg (by show xr true (_&&_)=false;rw[show(decide ((vr (ac h q) k).num=1)&&decide (((vr (ac h q) k).den:Int)=1))=_ from tL _ 1,Zs e];rfl) (hH _ _ (J _ _ G (λi m=>?_) (aL M (Xs _))));rw[l];unfold kA fR;split
   .rename_i c;rw[c,z]
   .rfl
  .refine dV (by show xr true (_&&_)=true;rw[show(decide ((vr (ac h q) k).num=1)&&decide (((vr (ac h q) k).den:Int)=1))=_ from tL _ 1,Zp e];rfl) ⟨1,_,rfl,O,h5,u.bq,by show Bd (1*_);rw[JY];exact dj u.n,eB h p q,x,.times p (1/vr (ac h q) k),I,rfl,rfl,t,⟨g,u.inv O⟩,by lia,hH _ _ (J _ _ (by rwa[Ma]) (λi m=>?_) (by rw[aA];show _+1<=_;exact succ_le_succ M))⟩;show ac ((eB h p q).set p _) i=_;rw[Kh g,l,l,z];unfold kA fR;split
   .rfl
   .rfl
 .by_cases e:q=p
  .refine cg (by show xr true (decide (_=_))=false;rw[Zs wE];rfl) (Q [.la a (h.map b'),.la b f,.fz (.int p),.fz (.int q),.fz (.int k),.und] ⟨f,?_,by exact Xs _⟩);unfold eB;rw[ZY e]
  .refine dV (by show xr true (decide (_=_))=true;rw[Zp wE];rfl) ⟨h,f,.swap p q,I,rfl,rfl,d,⟨N,B⟩,by lia,Q [.la a ((yq h (.swap p q)).map b'),.la b (f++[g5 (.swap p q)]),.fz (.int p),.fz (.int q),.fz (.int k),.und] ⟨f++[g5 (.swap p q)],?_,by simp⟩⟩;unfold eB;rw[ZZ e]
open Rw (vr jt jh oG ba iQ iK t_ m5 Big qY j8 oh lB n_ gM)
def bB(h:xt)(p k i:Nat):db:=if i=p\/vr (ac h i) k=0 then ac h i else jt (oG (ac h i) (ac h p) (pr (0-vr (ac h i) k)))
def wZ:SO:=λL d R=>∃(h:xt)(a:xk)(I p k:Nat),L=[h.map b',a]/\d=[.int p,.int k]/\Rws h I/\p<h.length/\k<I/\a.length+h.length<sizeLine/\(∀i,i<h.length->Big NN (bB h p k i)) /\
 ∀b c,b.length=h.length->(∀i,i<h.length->ac b i=bB h p k i)->c.length<=a.length+h.length->R [b.map b',c]
def _F{h:xt}{p:Nat}(a:Rws h I)(c:p<h.length)(b:i<h.length):(bB h p k i).1.length=I:=by
 unfold bB;split
 .exact a.wds _ (gk b)
 .rw[lB];show(zipWith _ (ac h i).1 (ac h p).1).length=I;rw[T2,a.wds _ (gk b),a.wds _ (gk c),US]
def Jq(T:Tx D):e_ P w K mg base 6 pC iZ (gl K wZ):=ya T.Km λF=>by
 refine F.okO Jm (λL W R ⟨h,B,I,p,k,e1,e2,_⟩=>by rw[e1,e2];rfl) wP λag A G s H E J nd=>?_;refine⟨_,(bG (d_ (d7 T.fK (bx (Vu 0 (bN cG T.cX WJ (bx vx bC))) bC)) (b_ (n:=99) 4)
  (bG (cB (QW.qt (Ve (bW (jZ J.units) vt vy) (JX (bW (jZ J.units) (bJ (bJ (vq 0 vt) bA) vc) bA))))
  (bF (bT 5 (bI (pX T) (bx (m_ T.j5 T.je) (bx (bI (UJ T) (bx (vq 0 vt) (bx vc bC))) bC))))
  (bG (Lr 0 1 (ph T) J.md (by rfl) (bx (dU (bx nM (bx vt (bx vy (bx vn bC))))) bC))))
  bQ)))),?_⟩
 rintro as L W R X ⟨h,B,I,p,k,rfl,rfl,f,V,hk,hl,hb,Z⟩;obtain⟨a,b,rfl⟩:=GU X.symm;have U:(h.map b').length=h.length:=ak _;have few:=f.few;refine⟨trivial,⟨by lia,by lia⟩,j7 (λn o=>∃g m x y,o=[.la a (g.map b'),.la b m,.fz (.int p),.fz (.int k),x,y]/\g.length=h.length/\(∀i,i<h.length->ac g i=if i<n then bB h p k i else ac h i)/\m.length<=B.length+n) ⟨h,B,_,_,rfl,rfl,λi _=>by rw[ZZ (WU _)],aG _⟩ ?_ ?_⟩
 .rintro n _ M ⟨g,m,x,y,rfl,u,t,S⟩;have M:n<h.length:=by rw[U]at M;lia
  have C:ac g n=ac h n:=by rw[t n M,ZZ (Wp _)]
  have Y:ac g p=ac h p:=by
   rw[t p V];split
   .unfold bB;rw[ZY (.inl rfl)]
   .rfl
  have v:Rws g I:=f.of u λi j=>by
   rw[t i j];split
   .exact⟨hb i j,_F f V j⟩
   .exact⟨f.big _ (gk j),f.wds _ (gk j)⟩
  have q:bB h p k n=ac h n->∀i,i<h.length->ac g i=if i<n+1 then bB h p k i else ac h i:=λe i j=>by
   rw[t i j];by_cases c:i=n
   .subst c;rw[ZZ (Wp _),ZY (X2 _),e]
   .by_cases d:i<n
    .rw[ZY d,ZY (WS _ d)]
    .rw[ZZ d,ZZ wE]
  by_cases e:n=p
  .exact cg (by show xr true (decide (_=_))=false;rw[Zs wE];rfl) ⟨g,m,_,_,rfl,u,q (ZY (.inl e)),by lia⟩
  .have r:n<g.length:=by lia
   have l:k<(ac g n).1.length:=by rwa[v.wds _ (gk r)]
   have Q:=F9 (v.big _ (gk r)).pos l;refine dV (by show xr true (decide (_=_))=true;rw[Zp wE];rfl) ⟨_,wN r,_,cT (aj l),?_⟩;by_cases c:(ac g n).1[k]'l=0
   .exact cg (by show xr true (decide (_=_))=false;rw[Zs c];rfl) ⟨g,m,_,_,rfl,u,q (ZY (.inr (by rw[<- C];exact Q.mpr c))),by lia⟩
   .have N:=v.fn r hk;refine dV (by show xr true (decide (_=_))=true;rw[Zp c];rfl) ⟨_,wN r,_,k,rfl,l,v.big _ (gk r),0,_,rfl,kv,N.bq,by show Bd (1*_);rw[JY];exact dj N.d,g,m,.add n p (0-vr (ac g n) k),I,rfl,rfl,v,⟨r,by lia,N.neg⟩,by lia,yq g (.add n p (0-vr (ac g n) k)),m++[g5 (.add n p (0-vr (ac g n) k))],_,_,rfl,by rw[Ma];exact u,λi j=>?_,by rw[aA];show _+1<=_;lia⟩;show ac (g.set n _) i=_;rw[Kh r,C,Y];by_cases d:i=n
    .rw[ZY d,d,ZY (X2 _)];unfold bB;rw[ZZ λz=>z.elim e λz=>c (Q.mp (by rw[C];exact z))]
    .rw[ZZ d,t i j];by_cases O:i<n
     .rw[ZY O,ZY (WS _ O)]
     .rw[ZZ O,ZZ wE]
 .rintro _ ⟨g,m,x,y,rfl,u,t,S⟩;rw[U]at t S;exact hH _ _ (Z g m u (λi j=>by rw[t i j,ZY wE]) wE)
open Rw (vr jt jh oG ba iQ iK t_ m5 Big qY j8 oh lB n_ gM sg iw gF cC iR jg)
def F8(c:Rat):(((pr c).1:Int):Rat)/(((pr c).2:Int):Rat)=c:=by rw[<- UH];exact rd c
def Rf(c:Rat):0<(pr c).2:=by have:=c.den_pos;show(0:Int)<(c.den:Nat);lia
def IY{r:db}(h:0<r.2):0<(jt r).2:=lN h (XY (iQ h)) iK.1
def UI{r:db}(h:0<r.2)(b:vr r k≠0):0<(fR r k).2/\(fR r k).1.length=r.1.length/\(ba (fR r k).1 (fR r k).2=1\/fR r k=r)/\∀j,vr (fR r k) j*vr r k=vr r j:=by
 unfold fR;by_cases e:vr r k=1
 .rw[ZY e];exact⟨h,rfl,.inr rfl,λj=>by rw[e,Rat.mul_one]⟩
 .rw[ZZ e];have a:0<(jh r (pr (1/vr r k))).2:=XZ h (Rf _);refine⟨IY a,by rw[lB];unfold jh;rw[ak],.inl (m5 a),λj=>?_⟩;rw[qY a,j8 h (Rf _),F8]
  grind
def T1{h:xt}{p:Nat}(a:0<(ac h i).2)(c:0<(ac h p).2)(f:(ac h i).1.length=(ac h p).1.length):0<(bB h p k i).2/\(ba (bB h p k i).1 (bB h p k i).2=1\/bB h p k i=ac h i)/\∀j,vr (bB h p k i) j=if i=p then vr (ac h p) j else vr (ac h i) j-vr (ac h i) k*vr (ac h p) j:=by
 unfold bB;by_cases e:i=p
 .rw[ZY (.inl e)];exact⟨a,.inr rfl,λj=>by rw[ZY e,e]⟩
 .by_cases z:vr (ac h i) k=0
  .rw[ZY (.inr z)];exact⟨a,.inr rfl,λj=>by rw[ZZ e,z];grind⟩
  .rw[ZZ λy=>y.elim e z];have b:0<(oG (ac h i) (ac h p) (pr (0-vr (ac h i) k))).2:=by
    have d:=XZ c (Rf (0-vr (ac h i) k));exact XZ a (lN d (XY (ou (WP d))) (QP _ _))
   refine⟨IY b,.inl (m5 b),λj=>?_⟩;rw[qY b,oh a c (Rf _) f,F8,ZZ e]
   grind
structure FnB(M:Nat)(c:Rat):Prop where
 n:c.num.natAbs<=M
 d:c.den<=M
def FnB.vr{M:Nat}{r:db}{k:Nat}(h:Big M r)(f:k<r.1.length):FnB M (Rw.vr r k):=by
 have a:=h.pos;have g:=lM r.1[k] (WP a);have l:=xG (t:=r.1[k]) (c:=((Int.gcd r.1[k] r.2:Nat):Int)) (WP a) wE wE (XZ wE a);have e:=jN l (WP a);rw[FF f];injection e with e;injection e with b e;injection e with d e;injection b with b;injection d with d;exact⟨by rw[<- b];exact aL l.lx (h.top _ (aU _)),by have:=l.ly;have:=h.bot;omega⟩
structure B0(C:xt)(I N:Nat):Prop where
 big:∀i,i<C.length->Big N (ac C i)/\(ac C i).1.length=I
 one:1<=N
 mb:(2*C.length*N)^C.length<=NN
 nn:N<=NN
abbrev aT(C:xt)(i j:Nat):Int:=(ac C i).1.getD j 0
abbrev aB(C:xt)(i:Nat):Int:=(ac C i).2
structure Gs(C:xt)(I N c:Nat)(h:xt):Prop where
 len:h.length=C.length
 row:∀i,i<C.length->0<(ac h i).2/\(ac h i).1.length=I/\(ba (ac h i).1 (ac h i).2=1\/Big N (ac h i))
 st:∃pv s,gM (aT C) (aB C) C.length I (λi j=>vr (ac h i) j) c pv s
 unit:∀i l,i<C.length->l<c->vr (ac h i) l=if i=l then 1 else 0
 ker:∀x:Nat->Rat,(∀i,i<C.length->sg (λj=>vr (ac h i) j*x j) I=0)->∀i,i<C.length->sg (λj=>vr (ac C i) j*x j) I=0
section
variable{C h:xt}{I N c q:Nat}
def B0.zero(h:B0 C I N):Gs C I N 0 C:=⟨rfl,λi a=>⟨(h.big i a).1.pos,(h.big i a).2,.inr (h.big i a).1⟩,⟨λ_=>0,id,gM.zero λi a=>(h.big i a).1.pos⟩,λ_ _ _ z=>absurd z (WU _),λ_ z=>z⟩
def Nw{N:Nat}(a:1<=m)(b:1<=N):N<=(2*m*N)^m:=by
  have x:N<=2*m*N:=lP _ wE;have y:1<=2*m*N:=VY (show 1<=2*m by lia) b
  calc N<=(2*m*N)^1:=by rwa[Nat.pow_one]
    _<=_:=XG y a
def B0.sbigM(h:B0 C I N){R:Nat->Nat->Rat}{p:Nat}(c:∃pv s,gM (aT C) (aB C) C.length I R p pv s)(a:i<C.length){r:db}(n:0<r.2)(m:r.1.length=I)(g:ba r.1 r.2=1\/Big N r)(e:∀j,j<I->vr r j=R i j):Big ((2*C.length*N)^C.length) r:=by
 rcases g with g|g
 .obtain⟨pv,s,c⟩:=c;obtain⟨v,u,l,k,f,o⟩:=c.bound h.one (λi j a d=>by
   have b:=h.big i a;show((ac C i).1.getD j 0).natAbs<=N;rw[au,aj (by rwa[b.2])];exact b.1.top _ (aU _)) (λi a=>⟨(h.big i a).1.pos,(h.big i a).1.bot⟩) a
  exact n_ n g m l k f λj d=>by rw[e j d];exact o j d
 .exact g.le (Nw wE h.one)
def B0.sbig(h:B0 C I N){R:Nat->Nat->Rat}{p:Nat}(a:∃pv s,gM (aT C) (aB C) C.length I R p pv s)(d:i<C.length){r:db}(c:0<r.2)(b:r.1.length=I)(g:ba r.1 r.2=1\/Big N r)(e:∀j,j<I->vr r j=R i j):Big NN r:=(h.sbigM a d c b g e).le h.mb
def Gs.bigM(g:Gs C I N c h)(a:B0 C I N)(b:i<C.length):Big ((2*C.length*N)^C.length) (ac h i):=a.sbigM g.st b (g.row i b).1 (g.row i b).2.1 (g.row i b).2.2 λ_ _=>rfl
def Gs.big(g:Gs C I N c h)(a:B0 C I N)(b:i<C.length):Big NN (ac h i):=a.sbig g.st b (g.row i b).1 (g.row i b).2.1 (g.row i b).2.2 λ_ _=>rfl
def ll{p q:Nat}(b:p<m)(a:q<m)(c:i<m):Rw.sw p q i<m:=by
 unfold Rw.sw;split
 .exact a
 .split<;>omega
def EX(p q i:Nat):Rw.sw p q (Rw.sw p q i)=i:=by
 unfold Rw.sw;by_cases a:i=p
 .subst a;rw[ZY rfl];by_cases b:q=i
  .rw[ZY b,b]
  .rw[ZZ b,ZY rfl]
 .by_cases b:i=q
  .subst b;rw[ZZ a,ZY rfl,ZY rfl]
  .rw[ZZ a,ZZ b,ZZ a,ZZ b]
def Gs.next(g:Gs C I N c h)(a:B0 C I N)(d:c<C.length)(U:c<I)(S:c<=q)(m:q<C.length)(T:vr (ac h q) c≠0){rs2:xt}(O:∀i,i<C.length->ac rs2 i=kA h c q c i) :
  (∀i,i<C.length->Big NN (ac rs2 i)/\(ac rs2 i).1.length=I)/\(∀i,i<C.length->Big NN (bB rs2 c c i))/\∀w:xt,w.length=C.length->(∀i,i<C.length->ac w i=bB rs2 c c i)->Gs C I N (c+1) w:=by
 have B:Rw.sw c q c=q:=ZY rfl;obtain⟨Y,X,W,V⟩:=UI (g.row q m).1 T;have M:ac rs2 c=fR (ac h q) c:=by rw[O c d];exact ZY rfl
 have E:∀i,i<C.length->i≠c->ac rs2 i=ac h (Rw.sw c q i):=λi b n=>by rw[O i b];exact ZZ n
 have f:∀i,i<C.length->0<(ac rs2 i).2/\(ac rs2 i).1.length=I/\(ba (ac rs2 i).1 (ac rs2 i).2=1\/Big N (ac rs2 i)):=λi b=>by
  by_cases e:i=c
  .rw[e,M];refine⟨Y,by rw[X];exact(g.row q m).2.1,W.elim .inl λz=>?_⟩;rw[z];exact(g.row q m).2.2
  .rw[E i b e];exact g.row _ (ll d m b)
 have o:=λi(b:i<C.length)=>T1 (h:=rs2) (p:=c) (k:=c) (i:=i) (f i b).1 (f c d).1 (by rw[(f i b).2.1,(f c d).2.1]);have u:∀i,i<C.length->(bB rs2 c c i).1.length=I:=λi b=>by
  unfold bB;split
  .exact(f i b).2.1
  .rw[lB];show(zipWith _ (ac rs2 i).1 (ac rs2 c).1).length=I;rw[T2,(f i b).2.1,(f c d).2.1,US]
 have v:∀i,i<C.length->ba (bB rs2 c c i).1 (bB rs2 c c i).2=1\/Big N (bB rs2 c c i):=λi b=>(o i b).2.1.elim .inl λz=>by rw[z];exact(f i b).2.2
 have y:∀j,vr (bB rs2 c c c) j*vr (ac h q) c=vr (ac h q) j:=λj=>by
  rw[(o c d).2.2 j,ZY rfl,M];exact V j
 have G:∀i,i<C.length->i≠c->∀j,vr (bB rs2 c c i) j=vr (ac h (Rw.sw c q i)) j-vr (ac h (Rw.sw c q i)) c*vr (bB rs2 c c c) j:=λi b n j=>by
  rw[(o i b).2.2 j,(o c d).2.2 j,ZZ n,ZY rfl,E i b n]
 have F:∃pv s,gM (aT C) (aB C) C.length I (λi j=>vr (bB rs2 c c i) j) (c+1) pv s:=by
  obtain⟨pv,s,st⟩:=g.st;have Q:=st.swap S m (R':=λi j=>vr (ac h (Rw.sw c q i)) j) λi j _ _=>rfl;exact⟨_,_,Q.pivot d (λi b=>(a.big i b).1.pos) U (by show vr (ac h (Rw.sw c q c)) c≠0;rwa[B]) (R':=λi j=>vr (bB rs2 c c i) j) (λj _=>by show vr (bB rs2 c c c) j*vr (ac h (Rw.sw c q c)) c=vr (ac h (Rw.sw c q c)) j;rw[B];exact y j) λi j b n _=>G i b n j⟩
 have P:∀i,i<C.length->Big NN (bB rs2 c c i):=λi b=>a.sbig F b (o i b).1 (u i b) (v i b) λ_ _=>rfl;refine⟨λi b=>⟨?_,(f i b).2.1⟩,P,λw R t=>⟨R,λi b=>by rw[t i b];exact⟨(o i b).1,u i b,v i b⟩,?_,λi l b L=>?_,λx K=>g.ker x λi b=>?_⟩⟩
 .by_cases e:i=c
  .rw[e];refine a.sbig F d (f c d).1 (f c d).2.1 (f c d).2.2 λj _=>?_;show _=vr (bB rs2 c c c) j;rw[(o c d).2.2 j,ZY rfl]
  .rw[E i b e];exact g.big a (ll d m b)
 .obtain⟨pv,s,st⟩:=F;exact⟨pv,s,st.congr λi j b=>by rw[t i b]⟩
 .rw[t i b];have J:l<c->vr (bB rs2 c c c) l=0:=λL=>by
   have:=y l;rw[g.unit q l m L,ZZ wE]at this
   grind
  have H:vr (bB rs2 c c c) c=1:=by
   have:=y c
   grind
  by_cases e:i=c
  .subst e;by_cases z:l<i
   .rw[J z,ZZ (UY z)]
   .rw[show l=i by lia,H,ZY rfl]
  .rw[G i b e l];by_cases z:l<c
   .rw[J z,g.unit _ l (ll d m b) z];have:(Rw.sw c q i=l)=(i=l):=by
     unfold Rw.sw;rw[ZZ e];split
     .exact propext ⟨λ_=>by lia,λ_=>by lia⟩
     .rfl
    simp only[this]
    grind
   .rw[show l=c by lia,H,ZZ e]
    grind
 .have A:=K c d;rw[t c d]at A;by_cases e:i=q
  .rw[e,cC (g:=λj=>vr (ac h q) c*(vr (bB rs2 c c c) j*x j)) λj _=>by rw[<- y j];grind,gF,A]
   grind
  .have D:=ll d m b;have n:Rw.sw c q i≠c:=λz=>by
    have:=EX c q i;rw[z,B]at this;exact e this.symm
   have r:=K _ D;rw[t _ D]at r;rw[cC (g:=λj=>vr (bB rs2 c c (Rw.sw c q i)) j*x j+vr (ac h i) c*(vr (bB rs2 c c c) j*x j)) λj _=>by rw[G _ D n,EX];grind,iw,gF,A,r]
   grind
def Gs.found(g:Gs C I N c h)(n:c<C.length)(k:c<I)(d:∀x:Nat->Rat,(∀j,C.length<=j->x j=0)->(∀i,i<C.length->sg (λj=>vr (ac C i) j*x j) I=0)->∀j,j<C.length->x j=0):¬∀i,c<=i->i<C.length->vr (ac h i) c=0:=λl=>by
 have:=d (λj=>if j<c then -(vr (ac h j) c)else if j=c then 1 else 0) (λj m=>by rw[ZZ wE,ZZ wE]) (g.ker _ λi f=>?_) c n
 .rw[ZZ (Wp _),ZY rfl]at this;exact absurd this wP
 .rw[cC (g:=λj=>(if j=i then 1 else 0)*(if j<c then -(vr (ac h j) c)else 0)+(if j=c then 1 else 0)*vr (ac h i) c) λj m=>?_,iw,jg (v:=λj=>if j<c then -(vr (ac h j) c)else 0),jg (v:=λ_=>vr (ac h i) c),ZY k]
  .by_cases e:i<c
   .rw[ZY (UK e k),ZY e]
    grind
   .rw[l i (VX e) f];rw[ZZ e]
    grind
  .by_cases a:j<c
   .rw[ZY a,ZY a,g.unit i j f a,ZZ (show j≠c by exact aQ a)];by_cases b:i=j
    .rw[ZY b,ZY b.symm];grind
    .rw[ZZ b,ZZ (Ne.symm b)];grind
   .rw[ZZ a,ZZ a];by_cases b:j=c
    .rw[ZY b,b];grind
    .rw[ZZ b];grind
def Gs.answer(g:Gs C (C.length+1) N C.length h)(b:i<C.length):sg (λj=>vr (ac C i) j*vr (ac h j) C.length) C.length=vr (ac C i) C.length:=by
 have:=g.ker (λj=>if j<C.length then vr (ac h j) C.length else -1) (λi b=>?_) i b
 .show _=_;rw[show sg (λj=>vr (ac C i) j*(if j<C.length then vr (ac h j) C.length else -1)) (C.length+1)=sg (λj=>vr (ac C i) j*(if j<C.length then vr (ac h j) C.length else -1)) C.length+vr (ac C i) C.length*(if C.length<C.length then vr (ac h C.length) C.length else -1)from rfl,ZZ (Wp _),cC (g:=λj=>vr (ac C i) j*vr (ac h j) C.length) λj a=>by rw[ZY a]]at this
  grind
 .rw[show sg (λj=>vr (ac h i) j*(if j<C.length then vr (ac h j) C.length else -1)) (C.length+1)=sg (λj=>vr (ac h i) j*(if j<C.length then vr (ac h j) C.length else -1)) C.length+vr (ac h i) C.length*(if C.length<C.length then vr (ac h C.length) C.length else -1)from rfl,ZZ (Wp _),cC (g:=λj=>(if j=i then 1 else 0)*vr (ac h j) C.length) λj a=>by rw[ZY a,g.unit i j b a];simp only[eq_comm],jg (v:=λj=>vr (ac h j) C.length),ZY b]
  grind
end
open Rw (vr jt jh oG ba iQ iK t_ m5 Big qY j8 oh lB n_ gM sg iw gF cC iR jg)
abbrev jO(r:xf):db:=(tops (c7 1 r) r,((c7 1 r:Nat):Int))
abbrev KN(r:xf):T:=.lst (r.map aa)
def agN(r:xf):(jO r).1.length=r.length:=ak _
def Nx(r:xf)(j:Nat):vr (jO r) j=r.getD j 0:=by
 unfold vr;have c:=gU r UQ;show(((tops (c7 1 r) r).getD j 0:Int):Rat)/(((c7 1 r:Nat):Int):Rat)=_;unfold tops;rw[au,au,aq];by_cases h:j<r.length
 .rw[aj h];show((r[j].num*((c7 1 r/r[j].den:Nat):Int):Int):Rat)/_=r[j];obtain⟨k,a⟩:=(k_ r (n:=1)).2 r[j] (aU h);have hd:=r[j].den_pos;rw[show c7 1 r/r[j].den=k by rw[a];exact Nat.mul_div_cancel_left _ hd];have b:k≠0:=λz=>by rw[z]at a;lia
  rw[<- UH,a,Tk,Rat.divInt_mul_right wE];exact rd _
 .rw[aM (Nat.not_lt.mp h)];show((0:Int):Rat)/_=0
  grind
structure Sys(F:wa)(N:Nat):Prop where
 wid:∀r∈F,r.length=F.length+1
 few:F.length<=100
 lev:∀r∈F,Big N (jO r)
 num:∀r∈F,∀c∈r,Bd c.num
 one:1<=N
 mb:(2*F.length*N)^F.length<=NN
 nn:N<=NN
 inj:∀x:Nat->Rat,(∀j,F.length<=j->x j=0)->(∀r∈F,sg (λj=>r.getD j 0*x j) (F.length+1)=0)->∀j,j<F.length->x j=0
def Uk(a:i<F.length):ac (F.map jO) i=jO F[i]:=by
 have:=Az (h:=F.map jO) (i:=i) (by rwa[ak]);rw[aq,aj a]at this;injection this with this;exact this.symm
def Sys.b0(h:Sys F N):B0 (F.map jO) (F.length+1) N:=⟨λi a=>by
 rw[ak]at a;rw[Uk a];exact⟨h.lev _ (aU a),by rw[agN];exact h.wid _ (aU a)⟩,h.one,by rw[ak];exact h.mb,h.nn⟩
def Rws.mk'{h:xt}(c:∀i,i<h.length->Big NN (ac h i)/\(ac h i).1.length=I)(f:h.length<=100)(d:I<=1000):Rws h I:=by
 have:∀r∈h,Big NN r/\r.1.length=I:=λr a=>by
  obtain⟨i,b,g⟩:=List.getElem_of_mem a;have e:=Az b;rw[aj b,g]at e;injection e with e;rw[e];exact c i b
 exact⟨λr a=>(this r a).1,λr a=>(this r a).2,f,d⟩
def Sys.rws{c:Nat}{h:xt}(a:Sys F N)(g:Gs (F.map jO) (F.length+1) N c h):Rws h (F.length+1):=by
 have l:=g.len;have few:=a.few;rw[ak]at l;refine Rws.mk' (λi b=>?_) (aL (WH l) few) wE;have d:i<(F.map jO).length:=by rw[g.len]at b;exact b
 exact⟨g.big a.b0 d,(g.row i d).2.1⟩
def SE(a:i<F.length)(x:Nat->Rat):sg (λj=>vr (ac (F.map jO) i) j*x j) n=sg (λj=>F[i].getD j 0*x j) n:=cC λj _=>by rw[Uk a,Nx]
def Sys.inj'(h:Sys F N):∀x:Nat->Rat,(∀j,(F.map jO).length<=j->x j=0)->(∀i,i<(F.map jO).length->sg (λj=>vr (ac (F.map jO) i) j*x j) (F.length+1)=0)->∀j,j<(F.map jO).length->x j=0:=by
 rw[ak];intro x d c;refine h.inj x d λr b=>?_;obtain⟨i,a,rfl⟩:=List.getElem_of_mem b;rw[<- SE a];exact c i a
def Pr(m:Nat)(y:Nat->Rat):xk:=(range m).map λi=>.lst ((range (m+1)).map λj=>aa (if j<m then if i=j then 1 else 0 else y i))
def WN{h:xt}(a:Sys F N)(g:Gs (F.map jO) (F.length+1) N F.length h):(h.map λr=>T.lst ((range (F.length+1)).map λk=>aa (vr r k)))=Pr F.length λi=>vr (ac h i) F.length:=by
 have l:=g.len;rw[ak]at l;unfold Pr;refine JP (by rw[ak,ak,W1,l]) λi b f=>?_;rw[ak]at b;rw[UU,UU,Q3];have e:=Az b;rw[aj b]at e;injection e with e;rw[e]
 congr 1
 refine Tu λj d=>?_;have d:=List.mem_range.mp d;by_cases c:j<F.length
 .rw[ZY c,g.unit i j (by rw[ak];exact aR b (WH l)) c]
 .rw[ZZ c,show j=F.length by lia]
def SH{h:xt}(g:Gs (F.map jO) (F.length+1) N F.length h):∀r∈F,sg (λj=>r.getD j 0*vr (ac h j) F.length) F.length=r.getD F.length 0:=λr a=>by
 obtain⟨i,b,rfl⟩:=List.getElem_of_mem a;have l:(F.map jO).length=F.length:=ak _;have:=Gs.answer (C:=F.map jO) (N:=N) (h:=h) (by rwa[l]) (i:=i) (by rwa[l]);rw[l,Uk b,Nx]at this;rw[<- this];exact cC λj _=>by rw[Nx]
def Nf:ST:=λa R=>∃(F:wa)(N:Nat),a=[.lst (F.map KN),.int F.length]/\Sys F N/\∀(b:xk)(y:Nat->Rat),(∀r∈F,sg (λj=>r.getD j 0*y j) F.length=r.getD F.length 0)->(∀i,i<F.length->FnB ((2*F.length*N)^F.length) (y i))->R (.fz (.tup [.lst b,.lst (Pr F.length y)]))
def Y9(T:Tx D):gT 7 Cj qy Nf:=yB T.abG LQ (λj _=>bF (WO (bH Bo) HD HD ["row"] (cL vx) (fZ (i:=0)) cI (bI (kS T) (bx vx bC)) (gJ (i:=2) LQ.nd rfl (Or.inl rfl)))
  (bF (iY 3 (dJ bC))
  (bF (bT 4 bA)
  (bF (d_ (d7 T.fK (bx vw bC)) (b_ (n:=99) 5)
  (bF (bT 6 (Vu 2 (bI (Pg T) (bx vy (bx vt (bx vn bC))))))
  (bG (cB (bW Bg (qv 6) eY)
  (bF (Lr 2 3 (Rk T) j.md (by rfl) (bx vt (bx (qv 6) (bx vn bC))))
  (bF (Lr 2 3 (Jq T) j.md (by rfl) (bx vt (bx vn bC)))
  (bG (Sg 4 WA bA))))
  bQ))))
  (bG (Hi 3 (Hi 2 (bM (dU (bx vc (bx (bI (Jr T) (bx vy bC)) bC)))))))))))<|by
 rintro _ R ⟨F,N,rfl,d,I⟩;have O:(F.map KN).length=F.length:=ak _;have P:(F.map jO).length=F.length:=ak _;have v:=d.few;have w:=d.b0;have V:(F.map λr=>b' (jO r))=(F.map jO).map b':=by rw[WG];rfl
 refine⟨by rw[O];exact aL v wP,comp_map KN (λr=>b' (jO r)) F (λr j N' M Q=>⟨r,rfl,by rw[d.wid r j];lia,d.num r j,dj (aL (d.lev r j).bot d.nn),Q⟩) ?_⟩;rw[V];refine⟨⟨by lia,by lia⟩,j7 (λc o=>∃h f x y,o=[.fz (.lst (F.map KN)),.fz (.int F.length),.l1 (h.map b'),.l1 f,.fz (.int (c:Nat)),x,y]/\Gs (F.map jO) (F.length+1) N c h/\f.length<=102*c) ⟨_,[],_,_,rfl,w.zero,aG _⟩ ?_ ?_⟩
 .rintro c _ k ⟨h,f,x,y,rfl,g,H⟩;have k:c<F.length:=by lia
  have G:c<(F.map jO).length:=by lia
  have l:=g.len;have p:=d.rws g;have W:(20000:Nat)<sizeLine:=by decide
  refine⟨h,_,c,c,rfl,p,by lia,by exact WS _ k,λq C u B=>⟨trivial,h,f,_,c,q,c,rfl,rfl,p,by exact Y3 C u,u,by exact WS _ k,B,by lia,λe t l2 U Y=>?_⟩,λz=>(g.found G (WS _ k) d.inj' λi a b=>z i a wE).elim⟩;obtain⟨L,K,J⟩:=g.next w G (WS _ k) C (aR u (WH l)) B (rs2:=e) λi m=>U i wE;exact⟨e,t,_,c,c,rfl,rfl,Rws.mk' (λi m=>L i wE) wE wE,by lia,by exact WS _ k,by lia,λi m=>K i wE,λA s Z S X=>⟨A,s,.fz (.int c),.fz (.int q),rfl,J A wE λi m=>S i wE,by lia⟩⟩
 .rintro _ ⟨h,f,x,y,rfl,g,H⟩;have g:Gs (F.map jO) (F.length+1) N F.length h:=g;have p:=d.rws g;have l:=g.len;refine⟨h,_,rfl,p,?_⟩;have:=I f _ (SH g) λi m=>by
   have E:i<(F.map jO).length:=by lia
   have b:=g.bigM w E;rw[P]at b;exact FnB.vr b (by rw[(g.row i E).2.1];exact X2 _)
  rw[<- WN d g]at this;exact this
open Rw (vr jt jh oG ba iQ iK t_ m5 Big qY j8 oh lB n_ gM sg iw gF cC iR jg)
def Iw:ST:=λa q=>∃(F:wa)(n:Nat),a=[.lst (F.map KN)]/\(∀r∈F,r.length=n)/\(F=[]->n=0)/\q (.fz (.int n))
def V6(T:Tx D):gT 1 zM oV Iw:=yB T.Zk Xk (λb _=>bF (cB (bW (z5 b.units) (bN cG T.cX WJ (bx vx bC)) bA)
  (bG (bM bA))
  bQ)
  (bG (bM (bN cG T.cX WJ (bx (bJ vx bA) bC)))))<|by
 rintro _ R ⟨F,n,rfl,h,a,q⟩
 match F,h,a with
 |[],h,a=>rw[a rfl]at q;exact q
 |r::F,h,a =>
  have e:(r.map aa).length=n:=by rw[ak];exact h r (aO ..)
  rw[<- e]at q;exact⟨_,rfl,q⟩
theorem V9(i:Nat):∀m,(range m).filter (λj=>decide (j=i))=if i<m then[i]else[]
 |0=>by rw[ZZ (WU _)];rfl
 |m+1=>by
  rw[range_succ,List.filter_append,V9 i m];by_cases e:m=i
  .subst e;rw[ZZ (Wp _),ZY (X2 _)];simp
  .rw[List.filter_cons_of_neg (by simpa using e)];by_cases c:i<m
   .rw[ZY c,ZY (WS _ c)];rfl
   .rw[ZZ c,ZZ wE];rfl
def Af:ST:=λb q=>∃(F:wa)(a:xf),b=[.lst (F.map KN),.lst (a.map aa)]/\F.length<=100/\(∀r∈F,r.length<=100)/\q (.l1 ((zipWith (λr c=>r++[c]) F a).map KN))
def Nm(T:Tx D):gT 1 rH jE Af:=yB T.Pk Mf (λ_ _=>bG (bM (dZ (bH n8) tY tY ["row","right"] (Vo T.Wg (bx vx (bx vw bC))) (fL (n:=2) (bV (fZ (i:=0)) (bV (fZ (i:=1)) dO))) cI (bL cW vx (dJ (bx vw bC))))))<|by
 rintro _ R ⟨F,d,rfl,h,g,q⟩;have j:(F.zip d).length<=F.length:=by rw[VU];exact Nat.min_le_left ..
 refine⟨by unfold K8;rw[ak,VU,ak,ak];exact aL (aL (Nat.min_le_left ..) h) wP,?_⟩;rw[zip_map];refine comp_map (λp=>.tup [KN p.1,aa p.2]) (λp=>KN (p.1++[p.2])) (F.zip d) (λp e N M f=>⟨rfl,?a,?b⟩) ?c
 case a =>
  have:=g _ (UT e).1;show(p.1.map aa).length+1<=sizeLine;rw[ak];exact aL (show _<=101 by exact succ_le_succ this) wP
 case b =>
  show N (.lst (p.1.map aa++[aa p.2]));rw[show(p.1.map aa++[aa p.2])=(p.1++[p.2]).map aa by rw[bf];rfl];exact f
 case c =>
  rw[map_zipWith]at q;rw[List.zip,map_zipWith];exact q
def FP:ST:=λa q=>∃(m:Nat)(y:Nat->Rat),a=[.lst (Pr m y),.int m]/\m<=100/\q (.l1 ((range m).map λi:Nat=>.int i))
def Um(T:Tx D):gT 1 vX mF FP:=yB T.WW Gi (λf _=>bF (iY 2 (dJ bC))
  (bF (d_ (cL vx) (b_ (n:=99) 3)
  (bF (vh (bH su) xR xR ["column"] (d7 T.fK (bx vw bC)) (fZ (i:=0)) (HN (bW (jZ f.units) (bJ vt vx) (m_ T.j5 T.je))) vx (gJ (i:=4) Gi.nd rfl (Or.inl rfl)))
  (bG (cB (bW Ir (bN cG T.cX WJ (bx vt bC)) bA)
  (bG (qw 2 (bJ vt bA)))
  bQ))))
  (bG (mX 2))))<|by
 rintro _ R ⟨m,y,rfl,h,q⟩;have sz:(1000:Nat)<=sizeLine:=by decide
 refine iy _ (range m) (λb o=>∃x z,o=[.fz (.lst (Pr m y)),.fz (.int m),.l1 (b.map λi:Nat=>.int i),x,z]) ⟨_,_,rfl⟩ ?_ ?_
 .rintro b i r _ e ⟨x,z,rfl⟩;have g:i<m:=List.mem_range.mp (e ▸ by simp);have p:b.length<m:=by have:=ZH List.length e;rw[W1,aA,length_cons]at this;lia
  refine⟨⟨by lia,by lia⟩,by rw[rng,ak,W1];exact aL (show _<=1000 by lia) sz,rR (λk:Nat=>.int (0+k)) (λj=>decide (j=i)) (λj=>.int (0+(j:Nat))) (range m) (λj a N M d l=>?_) ?_⟩
  .have a:=List.mem_range.mp a;show hName 0 (L2.T.int (0+((j:Nat):Int))) _ _;rw[show(0:Int)+((j:Nat):Int)=((j:Nat):Int)by lia]at d ⊢;refine⟨_,cT (UV (WS _ a)),?_⟩;by_cases c:j=i
   .refine dV ?_ (d (Zs c));show xr true (_&&_)=true;rw[ZY a,ZY c.symm]
    rfl
   .refine cg ?_ (l (Zp c));show xr true (_&&_)=false;rw[ZY a,ZZ (Ne.symm c)]
    rfl
  .rw[V9,ZY g];refine⟨_,rfl,by rw[ak];lia,.fz (.lst ((range (m+1)).map λj=>aa (if j<m then if i=j then 1 else 0 else y i))),.fz (.lst [.int (0+(i:Nat))]),?_⟩;rw[bf];show[_,_,OT.l1 (b.map _++[L2.T.int (0+(i:Nat))]),_,OT.fz (.lst [L2.T.int (0+(i:Nat))])]=[_,_,OT.l1 (b.map _++[L2.T.int (i:Nat)]),_,_];rw[show(0:Int)+((i:Nat):Int)=((i:Nat):Int)by exact Int.zero_add _]
 .rintro _ ⟨x,z,rfl⟩;exact q
def Ku:ST:=λa q=>∃(m:Nat)(y:Nat->Rat),a=[.lst (Pr m y),.lst ((range m).map λi:Nat=>.int i),.int m]/\m<=100/\q (.fz .non)
def YJ(T:Tx D):gT 1 Dv qJ Ku:=yB T.ab3 Z_ (λa _=>bF (d_ (HS T.fK (bx (bN cG T.cX WJ (bx vw bC)) (bx (bN cG T.cX WJ (bx vx bC)) bC))) (b_ (n:=99) 3)
  (bG (cB (bW (jZ a.units) (bJ (bJ vx vc) vy) (m_ T.j5 T.je))
  (bG (bM vc))
  bQ)))
  (bG (bM eY)))<|by
 rintro _ R ⟨m,y,rfl,h,q⟩;have c:((range m).map λi:Nat=>L2.T.int i).length=m:=by rw[ak,W1]
 have b:(Pr m y).length=m:=by unfold Pr;rw[ak,W1]
 refine⟨⟨by lia,by lia,by lia,by lia⟩,Gq (λ_ _=>True) _ 0 trivial (λi t o e z=>?_) λo _=>q⟩;have:=(F6 e).1;lia
def Gg:ST:=λa q=>∃(m:Nat)(y:Nat->Rat),a=[.lst (Pr m y),.lst ((range m).map λi:Nat=>.int i),.int m]/\m<=100/\q (.l1 ((range m).map λi=>aa (y i)))
def Tv(T:Tx D):gT 1 vg mY Gg:=yB T.Yj VB (λ_ _=>bF (iY 3 (bL cY (dJ (bx (m_ T.j5 T.je) bC)) vy))
  (bF (d_ (Ba T.lU (bx vw bC)) (fL (n:=2) (bV (b_ (n:=99) 4) (bV (b_ (n:=99) 5) dO)))
  (bG (yj 3 (bJ (bJ vx vt) vy) vn)))
  (bG (mX 3))))<|by
 rintro _ R ⟨m,y,rfl,h,q⟩;refine⟨⟨by lia,by lia,by show 1*_<=_;exact aL (show _<=100 by lia) wP⟩,λz a=>?_⟩;have a:z=(range m).map λi=>if i<0 then aa (y i)else aa 0:=by
  rw[a,List.flatten_replicate_singleton];refine JP (by rw[aN,ak,W1];rfl) λn j g=>?_;rw[List.getElem_replicate,UU,ZZ (WU _)]
  rfl
 subst a;refine uT (λi:Nat=>.int i) (range m) (λk o=>∃x z,o=[.fz (.lst (Pr m y)),.fz (.lst ((range m).map λi:Nat=>.int i)),.fz (.int m),.l1 ((range m).map λi=>if i<k then aa (y i)else aa 0),x,z]) ⟨_,_,rfl⟩ ?_ ?_
 .rintro k i _ e ⟨x,z,rfl⟩;have b:k<m:=by have:=(ao.mp e).1;rwa[W1]at this
  rw[UV b]at e;cases e;refine⟨rfl,_,cT (UV b),_,cT (UV (X2 m)),k,wI (by rwa[ak,W1]),.fz (.int k),.fz (.int k),?_⟩;have:((range m).map λi=>if i<k then aa (y i)else aa 0).set k (aa (if m<m then if k=m then 1 else 0 else y k))=(range m).map λi=>if i<k+1 then aa (y i)else aa 0:=by
   rw[ZZ (Wp _)];refine JP (by rw[VZ,ak,ak]) λn j g=>?_;rw[getElem_set,UU,UU,Q3];by_cases c:k=n
   .rw[ZY c,ZY wE,c]
   .rw[ZZ c];by_cases d:n<k
    .rw[ZY d,ZY (WS _ d)]
    .rw[ZZ d,ZZ wE]
  rw[<- this]
  rfl
 .rintro _ ⟨x,z,rfl⟩;have:((range m).map λi=>if i<(range m).length then aa (y i)else aa 0)=(range m).map λi=>aa (y i):=Tu λi f=>by rw[W1,ZY (List.mem_range.mp f)]
  rw[<- this]at q;exact q
open Rw (vr jt jh oG ba iQ iK t_ m5 Big qY j8 oh lB n_ gM sg iw gF cC iR jg)
abbrev E_(F:wa)(ax:xf):wa:=zipWith (λr c=>r++[c]) F ax
def zc:ST:=λb R=>∃(F:wa)(a:xf)(N:Nat),b=[.lst (F.map KN),.lst (a.map aa)]/\a.length=F.length/\(∀r∈F,r.length=F.length)/\Sys (E_ F a) N/\∀y:Nat->Rat,(∀r∈E_ F a,sg (λj=>r.getD j 0*y j) F.length=r.getD F.length 0)->(∀i,i<F.length->FnB ((2*F.length*N)^F.length) (y i))->R (.l1 ((range F.length).map λi=>aa (y i)))
def Kz(T:Tx D):gT 8 q_ jH zc:=yB T.Ph M4 (λ_ _=>bF (bT 2 (bI (V6 T) (bx vx bC)))
  (bF (bT 3 (bJ (bI (Y9 T) (bx (bI (Nm T) (bx vx (bx vw bC))) (bx vy bC))) bA))
  (bF (bT 4 (bI (Um T) (bx vc (bx vy bC))))
  (bF (cB (QW.qt (fW (bW rY (bN cG T.cX WJ (bx vt bC)) vy) (fu (bW Bg (bI (YJ T) (bx vc (bx vt (bx vy bC)))) eY))))
  (bG (bM eY))
  bQ)
  (bG (bM (bI (Tv T) (bx vc (bx vt (bx vy bC))))))))))<|by
 rintro _ R ⟨F,c,N,rfl,k,d,h,g⟩;have b:(E_ F c).length=F.length:=by rw[T2,k,US]
 have a:=h.few;rw[b]at a;refine⟨F,F.length,rfl,d,λz=>by rw[z];rfl,F,c,rfl,a,λr j=>by rw[d r j];exact a,E_ F c,N,?_,h,λl y f e=>?_⟩
 .rw[b];rfl
 .rw[b]at f e ⊢;have m:((range F.length).map λi:Nat=>L2.T.int i).length=F.length:=by rw[ak,W1]
  exact⟨F.length,y,rfl,a,cg (Zp (by show ¬((((range F.length).map λi:Nat=>L2.T.int i).length:Nat):Int)<_;lia)) ⟨F.length,y,rfl,a,F.length,y,rfl,a,g y f e⟩⟩
open Rw (sg)
def z4(f:Nat->Nat->Rat)(m:Nat):we:=(range m).map λi=>(range m).map λj=>aa (f i j)
def uo:xj->Nat->Rat
 |[],_=>0
 |w::v,j=>(if w.1=j then w.2 else 0)+uo v j
def j_:xE->xj
 |none=>[]
 |some o=>o.ways
structure JI(s:Rat)(m:Nat)(v:xj):Prop where
 nd:(v.map (·.1)).Nodup
 few:v.length<=1000
 lt:∀w∈v,w.1<m
 bq:∀w∈v,Bq w.2/\Bd ((s.den:Int)*w.2.den)/\Bq (s*w.2)
def iu(s:Rat)(a:xm)(i j:Nat):Rat:=(if j=i then 1 else 0)-s*uo (j_ (a.getD i none)) j
def Gk:ST:=λb q=>∃(s:Rat)(a:xm),b=[aa s,.lst (a.map f_)]/\a.length<=100/\Bq s/\(∀o∈a,JI s a.length (j_ o))/\q (.l2 (z4 (iu s a) a.length))
def afM(f:Nat->Nat->Rat)(m:Nat):(z4 f m).length=m:=by unfold z4;rw[ak,W1]
def HC{f:Nat->Nat->Rat}(h:i<m):(z4 f m)[i]?=some ((range m).map λj=>aa (f i j)):=by
 unfold z4;rw[aq,UV h];rfl
def vJ{f g:Nat->Nat->Rat}(h:∀i j,i<m->j<m->f i j=g i j):z4 f m=z4 g m:=Tu λi b=>Tu λj a=>by rw[h i j (List.mem_range.mp b) (List.mem_range.mp a)]
def aeb{f g:Nat->Nat->Rat}{v:Rat}(h:∀a b,a<m->b<m->g a b=if a=i/\b=k then v else f a b):(z4 f m).set i (((range m).map λj=>aa (f i j)).set k (aa v))=z4 g m:=by
 unfold z4;refine JP (by rw[VZ,ak,ak]) λa q o=>?_;have l:a<m:=by rw[ak,W1]at o;exact o
 rw[getElem_set];by_cases e:i=a
 .rw[ZY e,UU,Q3];refine JP (by rw[VZ,ak,ak]) λb p n=>?_;have d:b<m:=by rw[ak,W1]at n;exact n
  rw[getElem_set,UU,UU,Q3,h a b l d];by_cases c:k=b
  .rw[ZY c,ZY ⟨e.symm,c.symm⟩]
  .rw[ZZ c,ZZ λz=>c z.2.symm,e]
 .rw[ZZ e,UU,UU,Q3];refine Tu λb d=>?_;rw[h a b l (List.mem_range.mp d),ZZ λz=>e z.1.symm]
def agT{f:Nat->Nat->Rat}(h:i<m):ck (z4 f m) ((i:Nat):Int)=some ((range m).map λj=>aa (f i j)):=by
 show dz (z4 f m) i=_;rw[o7,HC h]
def afb(b:xj)(w:Nat×Rat)(j:Nat):uo (b++[w]) j=uo b j+if w.1=j then w.2 else 0:=by
 induction b with
 |nil=>show(_+(0:Rat))=0+_;grind
 |cons a b c=>show _+uo (b++[w]) j=(_+uo b j)+_;rw[c];grind
def acY(h:j∉v.map (·.1)):uo v j=0:=by
 induction v with
 |nil=>rfl
 |cons a c b =>
  show(if a.1=j then a.2 else 0)+uo c j=0;rw[b λz=>h (aJ _ z),ZZ λz=>h (by rw[<- z];exact aO ..)]
  grind
def vI(s:Rat)(a:xm)(n:Nat)(b:xj)(i j:Nat):Rat:=if i<n then iu s a i j else if i=n then(if j=i then 1 else 0)-s*uo b j else if j=i then 1 else 0
def agv(s:Rat)(a:xm)(n i j:Nat):vI s a n [] i j=if i<n then iu s a i j else if j=i then 1 else 0:=by
 unfold vI;split
 .rfl
 .split
  .show _-s*0=_;grind
  .rfl
def _D{c:xm}(i j:Nat):vI s c n (j_ (c.getD n none)) i j=if i<n+1 then iu s c i j else if j=i then 1 else 0:=by
 unfold vI;by_cases a:i<n
 .rw[ZY a,ZY (show i<n+1 by exact WS _ a)]
 .by_cases b:i=n
  .subst b;rw[ZZ a,ZY rfl,ZY (show i<i+1 by exact X2 _)]
   rfl
  .rw[ZZ a,ZZ b,ZZ (show ¬i<n+1 by lia)]
def Y5(s:Rat)(b:xm)(n:Nat)(a:xj)(j:Nat):vI s b n a n j=(if j=n then 1 else 0)-s*uo a j:=by unfold vI;rw[ZZ (Wp _),ZY rfl]
def ZE{a:xm}(c b:xj)(j:Nat)(h:i≠n):vI s a n c i j=vI s a n b i j:=by unfold vI;rw[ZZ h,ZZ h]
def Uw(T:Tx D):gT 4 vY lV Gk:=ya T.V3 λ{f U}F=>by
 refine F.okT Vk (λ_ _=>bF (iY 2 (bI (Lg T) (bx (bN cG T.cX WJ (bx vw bC)) bC)))
  (bF (d_ (Ba T.lU (bx vw bC)) (fL (n:=2) (bV (b_ (n:=99) 3) (bV (b_ (n:=99) 4) dO)))
  (bG (cB (bW Bg vt eY)
  (bG (d_ (cL (bJ vt bA)) (fL (n:=2) (bV (b_ (n:=99) 5) (bV (b_ (n:=99) 6) dO)))
  (bG (agS 2 (bI (pX T) (bx (_t 2 vc vn) (bx (bI (pf T) (bx vx (bx (qv 6) bC))) bC))) vc vn))))
  bQ)))
  (bG (mX 2)))) ?_
 rintro _ R ⟨s,d,rfl,L,K,J,q⟩;refine⟨d.length,?_,L,?_⟩
 .show[L2.T.int (((d.map f_).length:Nat):Int)]=_;rw[ak]
 .have S:∀x:Nat,((d.map f_).length:Nat)=d.length:=λ_=>ak _;refine uT f_ d (λn o=>∃x y z u,o=[.fz (aa s),.fz (.lst (d.map f_)),.l2 (z4 (λi j=>if i<n then iu s d i j else if j=i then 1 else 0) d.length),x,y,z,u]) ⟨.und,.und,.und,.und,?_⟩ ?_ ?_
  .show[_,_,OT.l2 (z4 (λi j=>if j=i then 1 else 0) d.length),_,_,_,_]=_;rw[vJ (f:=λi j=>if j=i then 1 else 0) (g:=λi j=>if i<0 then iu s d i j else if j=i then 1 else 0) λi j _ _=>by rw[ZZ (WU _)]]
  .rintro n p _ e ⟨x,y,z,u,rfl⟩;have E:n<d.length:=(ao.mp e).1;have O:d.getD n none=p:=by rw[au,e];rfl
   have l:=J p (aC e);rw[show z4 (λi j=>if i<n then iu s d i j else if j=i then 1 else 0) d.length=z4 (vI s d n []) d.length from vJ λi j _ _=>(agv s d n i j).symm];rw[show z4 (λi j=>if i<n+1 then iu s d i j else if j=i then 1 else 0) d.length=z4 (vI s d n (j_ p)) d.length from vJ λi j _ _=>by rw[<- O];exact(_D i j).symm];refine⟨rfl,?_⟩
   match p,l with
   |none,l=>exact⟨_,_,_,_,rfl⟩
   |some o,l =>
    refine iy dv o.ways (λh H=>∃z u,H=[.fz (aa s),.fz (.lst (d.map f_)),.l2 (z4 (vI s d n h) d.length),.fz (.int n),.fz (c5 o),z,u]) ⟨_,_,rfl⟩ ?_ ?_
    .rintro h ⟨k,c⟩ V _ G ⟨z,u,rfl⟩;have C:(k,c)∈o.ways:=G ▸ by simp
     have M:=l.lt _ C;obtain⟨Q,P,r⟩:=l.bq _ C;have I:k∉h.map (·.1):=λz=>by
      have B:=l.nd;rw[show j_ (some o)=o.ways from rfl,G,bf]at B;exact(List.nodup_append.mp B).2.2 k z k vz rfl
     have m:vI s d n h n k=if k=n then 1 else 0:=by
      unfold vI;rw[ZZ (Wp _),ZY rfl,acY I]
      grind
     have A:Bq (vI s d n h n k)/\Bd (((vI s d n h n k).den:Int)*(s*c).den):=by
      rw[m];split
      .exact⟨h5,by show Bd (1*_);rw[JY];exact r.2⟩
      .exact⟨kv,by show Bd (1*_);rw[JY];exact r.2⟩
     refine⟨rfl,_,(agT E),_,cT (UV M),s,c,rfl,K,Q,P,_,_,rfl,A.1,r,A.2,n,_,wI (by rwa[afM]),HC E,k,wI (by rwa[ak,W1]),.fz (.int k),.fz (aa c),?_⟩;rw[<- aeb (f:=vI s d n h) (g:=vI s d n (h++[(k,c)])) (i:=n) (k:=k) (v:=vI s d n h n k-s*c) λa b _ _=>?_]
     .rfl
     .by_cases w:a=n
      .subst w;rw[Y5,afb];by_cases t:b=k
       .subst t;rw[ZY (show a=a/\b=b from⟨rfl,rfl⟩),Y5,ZY (show(b,c).1=b from rfl)]
        grind
       .rw[ZZ (show ¬(a=a/\b=k)from λz=>t z.2),Y5,ZZ (show ¬(k,c).1=b from λz=>t z.symm)]
        grind
      .rw[ZZ (show ¬(a=n/\b=k)from λz=>w z.1)];exact ZE _ _ _ w
    .rintro _ ⟨z,u,rfl⟩;exact⟨_,_,_,_,rfl⟩
  .rintro _ ⟨x,y,z,u,rfl⟩;rw[show z4 (iu s d) d.length=z4 (λi j=>if i<d.length then iu s d i j else if j=i then 1 else 0) d.length from vJ λi j N _=>by rw[ZY N]]at q;exact q
open Rw (sg)
def oU:xE->Rat
 |none=>0
 |some o=>o.pay
def Cw(s:Rat)(a:xm):wa:=(range a.length).map λi=>(range a.length).map λj=>iu s a i j
def ME(s:Rat)(a:xm):(z4 (iu s a) a.length).map T.lst=(Cw s a).map KN:=by
 unfold z4 Cw;rw[WG,WG];refine Tu λi _=>?_;show T.lst _=T.lst (List.map aa _);rw[WG]
 rfl
def S_(s:Rat)(a:xm):(Cw s a).length=a.length:=by unfold Cw;rw[ak,W1]
def XI{a:xm} : ∀r∈Cw s a,r.length=a.length:=λr b=>by
 obtain⟨i,_,rfl⟩:=YV.mp b;rw[ak,W1]
def Bj(s:Rat)(a:xm)(y:Nat->Rat):Prop:=∀i,i<a.length->sg (λj=>iu s a i j*y j) a.length=oU (a.getD i none)
structure qp(s:Rat)(cs:xm)(N:Nat):Prop where
 bs:Bq s
 ways:∀o∈cs,JI s cs.length (j_ o)
 sys:Sys (E_ (Cw s cs) (cs.map oU)) N
def ZC{a:xm}(h:i<a.length):(E_ (Cw s a) (a.map oU))[i]?=some (((range a.length).map λj=>iu s a i j)++[oU (a.getD i none)]):=by
 unfold E_ Cw;rw[List.getElem?_zipWith,aq,UV h,aq,au,aj h]
 rfl
def ee(f:Nat->Rat)(x:Rat):(((range n).map f)++[x]).getD n 0=x:=by
 rw[au,aD (by rw[ak,W1];exact aG _),ak,W1,Nat.sub_self];rfl
def Zy(f:Nat->Rat)(x:Rat)(a:j<n):(((range n).map f)++[x]).getD j 0=f j:=by
 rw[au,aF (by rwa[ak,W1]),aq,UV a];rfl
def adI{a:xm}(h:∀r∈E_ (Cw s a) (a.map oU),sg (λj=>r.getD j 0*y j) a.length=r.getD a.length 0):Bj s a y:=λi c=>by
 have:=h _ (aC (ZC c));rw[ee]at this;rw[<- this];exact Rw.cC λj b=>ZH (· * y j) (Zy _ _ b).symm
def vC(D:be):ST:=λb R=>∃(s:Rat)(l:Φ)(a:xz)(t:zI)(N:Nat),b=[cK D s l a,.lst (t.map dT)]/\GK l a/\cf a t/\a.length<=100/\qp s (ca a t) N/\∀y:Nat->Rat,Bj s (ca a t) y->(∀i,i<a.length->FnB ((2*a.length*N)^a.length) (y i))->R (.l1 ((range a.length).map λi=>aa (y i)))
def K4{a:xz}(h:cf a t):(ca a t).length=a.length:=by unfold ca;rw[ak,length_zipIdx,h.len]
def Rj(T:Tx D):gT 9 pI jT (vC D):=yB T.X6 Gn (λ_ _=>bF (mW (bI (N8 T) (bx vx (bx vw bC))))
  (bF (bT 2 (bI (Jy T) (bx vx (bx vw bC))))
  (bF (vh (bH sS) zB zB ["offer"] (cL vy) (fZ (i:=0)) cI (Yr (bW zY vx eY) (m_ T.j5 T.je) (bJ vx bA)) (gJ (i:=3) Gn.nd rfl (Or.inl rfl)))
  (bG (bM (bI (Kz T) (bx (bI (Uw T) (bx (vB (Fm:=bv D) (λC h=>⟨T.cl C h,T.Lz C h⟩) vx) (bx vy bC))) (bx vc bC))))))))<|by
 rintro _ R ⟨s,l,a,t,N,rfl,h,d,b,hw,e⟩;have c:=K4 d;refine⟨_,_,_,_,rfl,h,d,_,_,_,_,rfl,h,d,?_⟩;refine⟨by rw[ak,c];exact aL b wP,comp_map f_ (λo=>aa (oU o)) (ca a t) (λo j N M f=>by cases o<;>exact f) ?_⟩;refine⟨zJ D,_,rfl,s,ca a t,rfl,by exact aL (WH c) b,hw.bs,hw.ways,Cw s (ca a t),(ca a t).map oU,N,?_,by rw[ak,S_],by rw[S_];exact XI,hw.sys,?_⟩
 .show[L2.T.lst ((z4 (iu s (ca a t)) (ca a t).length).map L2.T.lst),L2.T.lst ((ca a t).map λo=>aa (oU o))]=_;rw[ME,WG]
  rfl
 .rw[S_,c];exact λy k g=>e y (adI (by rwa[c])) g
def Jl(v:xj)(a:xo):Rat:=(v.map λw=>w.2*((a.getD w.1 0:Int):Rat)).sum
structure KB(v:xj)(tp:xo):Prop where
 few:v.length<=1000
 lt:∀w∈v,w.1<tp.length
 num:∀w∈v,Bd w.2.num
 lcm:Bd (c7 1 (v.map (·.2)):Nat)
 part:∀t∈tops (c7 1 (v.map (·.2))) (v.map (·.2)),Bd t
 top:∀t∈tp,Bd t
def yX:ST:=λb q=>∃(o:bO)(a:xo),b=[c5 o,.lst (a.map T.int)]/\KB o.ways a/\q (.fz (aa (Jl o.ways a)))
theorem SQ{B:Nat}(f:0<B)(a:xo):∀v:xj,(∀w∈v,w.2.den ∣ B)->divInt ((v.map λw=>w.2.num*((B/w.2.den:Nat):Int)*a.getD w.1 0).sum) B=Jl v a
 |[],_=>by
  show divInt 0 B=0;exact JS _
 |w::v,h=>by
  have c:=SQ f a v λx d=>h x (aJ _ d);show divInt (w.2.num*((B/w.2.den:Nat):Int)*a.getD w.1 0+(v.map λw=>w.2.num*((B/w.2.den:Nat):Int)*a.getD w.1 0).sum) B=w.2*((a.getD w.1 0:Int):Rat)+Jl v a;rw[<- c,UH,UH,Rat.intCast_add,XU];have e:((w.2.num*((B/w.2.den:Nat):Int):Int):Rat)/((B:Int):Rat)=w.2:=by
   obtain⟨k,b⟩:=h w (aO ..);have hd:=w.2.den_pos;rw[show B/w.2.den=k by rw[b];exact Nat.mul_div_cancel_left _ hd];have g:k≠0:=λz=>by rw[z]at b;lia
   rw[<- UH,b,Tk,Rat.divInt_mul_right wE];exact rd _
  have i:((B:Int):Rat)≠0:=λz=>by have:=Rat.intCast_eq_zero_iff.mp z;lia
  grind
def adH(v:List J)(g h:J->Int):((v.map g).zip v).map (λp=>p.1*h p.2)=v.map λw=>g w*h w:=by
 induction v with
 |nil=>rfl
 |cons w v a=>exact ZH (List.cons _) a
def Ko(T:Tx D):gT 3 p7 jr yX:=yB T.Pq M5 (λ_ _=>bF (bT 2 (bI (kS T) (bx (dZ (bH j6) j4 j4 ["room","chance"] (cL (bJ vx bA)) (fL (n:=2) (bV (fZ (i:=0)) (bV (fZ (i:=1)) dO))) cI vw) bC)))
  (bG (bM (bI (gV T) (bx (bN (ZP rfl) T.aew boot_sum (bx (dZ (bH j6) j4 j4 ["part","way"] (Vo T.Wg (bx (bJ vy bA) (bx (bJ vx bA) bC))) (fL (n:=2) (bV (fZ (i:=0)) (bV (fZ (i:=1)) dO))) cI (bL cY vx (bJ vc (bJ vw bA)))) bC)) (bx (bJ vy bA) bC))))))<|by
 rintro _ R ⟨o,d,rfl,h,q⟩;refine⟨by rw[ak];exact aL h.few wP,comp_map dv (λw=>aa w.2) o.ways (λw hw N M c=>⟨rfl,c⟩) ?_⟩;have j:=gU (o.ways.map (·.2)) UQ;refine⟨o.ways.map (·.2),by rw[WG];rfl,by rw[ak];exact h.few,λr g=>?_,h.lcm,?_⟩
 .obtain⟨w,hw,rfl⟩:=YV.mp g;exact h.num w hw
 .refine⟨by unfold K8;rw[ak,VU,ak,ak];exact aL (aL (Nat.min_le_right ..) h.few) wP,?_⟩;rw[zip_map];refine comp_map (λp:Int×(Nat×Rat)=>.tup [.int p.1,dv p.2]) (λp=>.int (p.1*d.getD p.2.1 0)) _ (λp e N M c=>?a) ?b
  case a =>
   have f:=(UT e).2;have lt:=h.lt _ f;have c:N (.int (p.1*d.getD p.2.1 0)):=c;rw[au,aj lt]at c;exact⟨rfl,_,cT (aj lt),⟨h.part _ (UT e).1,h.top _ (aU lt)⟩,c⟩
  case b =>
   refine⟨((tops (c7 1 (o.ways.map (·.2))) (o.ways.map (·.2))).zip o.ways).map λp=>p.1*d.getD p.2.1 0,by rw[WG];rfl,_,_,rfl,by lia,h.lcm,λx y l=>?_⟩;rw[jN l wE];unfold tops;rw[WG,adH o.ways _ λw=>d.getD w.1 0];have:=SQ j d o.ways λw hw=>(k_ (o.ways.map (·.2))).2 w.2 (YV.mpr ⟨w,hw,rfl⟩);rw[<- this]at q;exact q
def I_:ST:=λa q=>∃(r:Rat)(h:xf),a=[.lst ((r::h).map aa)]/\(∀x∈r::h,Bq x)/\∀m,m∈r::h->(∀x∈r::h,x<=m)->q (.fz (aa m))
def Wh(T:Tx D):gT 2 zQ oR I_:=yB T.Zt Xx (λ_ _=>bF (bT 1 eY)
  (bF (d_ (cL vx) (b_ (n:=99) 2)
  (bG (cB (QW.qt (fW (bW zY vw eY) (fu (cJ (bI (ib T) (bx vw (bx vy bC)))))))
  (bG (bT 1 vy))
  bQ)))
  (bG (bM vw))))<|by
 rintro _ R ⟨r,h,rfl,b,q⟩;refine iy aa (r::h) (λf o=>(f=[]/\∃x,o=[.fz (.lst ((r::h).map aa)),.fz .non,x])\/∃m x,o=[.fz (.lst ((r::h).map aa)),.fz (aa m),x]/\m∈f/\∀x∈f,x<=m) (.inl ⟨rfl,_,rfl⟩) ?_ ?_
 .rintro f a l _ e (⟨rfl,x,rfl⟩|⟨m,x,rfl,d,g⟩)
  .exact .inr ⟨a,_,rfl,by simp,λx c=>by rw[show x=a by simpa using c];exact UX⟩
  .have k:Bq a:=b a (e ▸ by simp);have j:Bq m:=b m (e ▸ UP _ d);exact⟨m,a,rfl,j,k,cR (λlt=>.inr ⟨a,_,rfl,by simp,λx c=>(Y1.mp c).elim (λz=>Ts (g x z) (JJ lt)) λz=>by rw[YR.mp z];exact UX⟩) λi=>.inr ⟨m,_,rfl,UP _ d,λx c=>(Y1.mp c).elim (g x) λz=>by rw[YR.mp z];exact Rat.not_lt.mp i⟩⟩
 .rintro _ (⟨z,_⟩|⟨m,x,rfl,d,c⟩)
  .cases z
  .exact q m d c
structure qE(s:Rat)(o:bO)(tp:xo)(B:Nat):Prop where
 bh:KB o.ways tp
 pay:Bq o.pay
 bs:Bq s
 b:Bd (B:Int)
 dw:Bq (Jl o.ways tp)
 d1:Bd ((s.den:Int)*(Jl o.ways tp).den)
 p1:Bq (o.pay*(B:Rat))
 p2:Bq (s*Jl o.ways tp)
 d2:Bd (((o.pay*(B:Rat)).den:Int)*(s*Jl o.ways tp).den)
def m9(s:Rat)(a:xo)(B:Nat)(o:bO):Rat:=o.pay*(B:Rat)+s*Jl o.ways a
def z_(D:be):ST:=λc q=>∃(s:Rat)(l:Φ)(b:xz)(o:bO)(a:xo)(B:Nat),c=[cK D s l b,c5 o,.tup [.lst (a.map T.int),.int (B:Nat)]]/\qE s o a B/\q (.fz (aa (m9 s a B o)))
def Mh(T:Tx D):gT 4 qX jC (z_ D):=yB T.Pz Ln (λ_ _=>bF (bT 3 (bI (Ko T) (bx vw (bx (bJ vy bA) bC))))
  (bG (bM (bI (Fs T) (bx (bI (pf T) (bx (bJ vw bA) (bx (dU (bx (bJ vy bA) (bx bA bC))) bC))) (bx (bI (pf T) (bx (vB (Fm:=bv D) (λC h=>⟨T.cl C h,T.Lz C h⟩) vx) (bx vc bC))) bC))))))<|by
 rintro _ R ⟨s,l,c,o,a,B,rfl,h,q⟩;refine⟨o,a,rfl,h.bh,o.pay,(B:Rat),rfl,h.pay,⟨h.b,h5.2⟩,?_,zJ D,_,rfl,s,Jl o.ways a,rfl,h.bs,h.dw,h.d1,_,_,rfl,h.p1,h.p2,h.d2,q⟩;show Bd ((o.pay.den:Int)*1);rw[Int.mul_one];exact h.pay.2
def BR(h:xf)(d b:Nat):Prop:=(∀x∈h,x<=h.getD d 0)/\b=d\/((h.getD d 0)<h.getD b 0/\b<h.length/\(∀x∈h,x<=h.getD b 0)/\∀i,i<b->h.getD i 0≠h.getD b 0)
def Sc{a b:Rat}(h:(a.num,((a.den:Nat):Int))=(b.num,((b.den:Nat):Int))):a=b:=by
 injection h with c d;exact Rat.ext c wE
def aee{m:Rat}(a:m∈h):∃j:Nat,h[j]?=some m/\∀(i:Nat)g,i<j->h[i]?=some g->g≠m:=by
 induction h with
 |nil=>cases a
 |cons r h c =>
  by_cases e:r=m
  .exact⟨0,by rw[e];rfl,λi _ z=>absurd z (WU _)⟩
  .obtain⟨j,k,f⟩:=c ((YU.mp a).resolve_left λz=>e z.symm);refine⟨j+1,k,λi g d b=>?_⟩;cases i with
   |zero=>cases b;exact e
   |succ i=>exact f i g (Nat.lt_of_succ_lt_succ d) b
def yP:ST:=λa q=>∃(h:xf)(d:Nat),a=[.lst (h.map aa),.int (d:Nat)]/\d<h.length/\h.length<=1000/\(∀x∈h,Bq x)/\∀b:Nat,BR h d b->q (.fz (.int (b:Nat)))
def Ni(T:Tx D):gT 3 qQ jw yP:=yB T.Oo Ms (λy _=>bF (bT 2 (bI (Wh T) (bx vx bC)))
  (bF (cB (cJ (bI (ib T) (bx (bJ vx vw) (bx vy bC))))
  (bG (bM (SV y.units vx (bx vy bC))))
  bQ)
  (bG (bM vw))))<|by
 rintro _ R ⟨h,d,rfl,hd,n,k,q⟩;have v:=aj hd;have u:h.getD d 0=h[d]:=by rw[au,v];rfl
 obtain⟨r,p,s⟩ : ∃r p,h=r::p:=by
  cases h with
  |nil=>exact absurd hd (WU _)
  |cons r h=>exact⟨r,h,rfl⟩
 refine⟨r,p,by rw[s];rfl,λx b=>k x (s ▸ b),λm f b=>?_⟩;rw[<- s]at f b;refine⟨_,cT v,_,m,rfl,k _ (aU hd),k m f,cR (λlt=>?_) λw=>?_⟩
 .obtain⟨j,e,t⟩:=aee f;have l:h.getD j 0=m:=by rw[au,e];rfl
  refine⟨h.map λr=>(r.num,((r.den:Nat):Int)),(m.num,((m.den:Nat):Int)),j,by rw[WG];rfl,rfl,by rw[ak];exact aL n wP,by rw[aq,e];rfl,λi g c o=>?_,q j (.inr ⟨by rw[u,l];exact lt,(ao.mp e).1,by rw[l];exact b,λi c=>?_⟩)⟩
  .rw[aq]at o;have a:i<h.length:=UK c (ao.mp e).1;rw[aj a]at o;cases o;exact λz=>t i _ c (aj a) (Sc z)
  .have a:i<h.length:=UK c (ao.mp e).1;rw[l,au,aj a];exact t i _ c (aj a)
 .refine q d (.inl ⟨λx A=>?_,rfl⟩);rw[u];exact Ts (b x A) (Rat.not_lt.mp w)
structure Ub(s:Rat)(off:xz)(tp:xo)(B:Nat)(t aS:zI):Prop where
 len:aS.length=t.length
 none:∀k:Nat,t[k]?=some none->aS[k]?=some none
 some:∀(k d:Nat)(ds:List bO),t[k]?=some (some d)->off[k]?=some ds->∃b,aS[k]?=some (some b)/\BR (ds.map (m9 s tp B)) d b
structure Kj(s:Rat)(off:xz)(p:xf):Prop where
 few:p.length<=1000
 num:∀r∈p,Bd r.num
 lcm:Bd (c7 1 p:Nat)
 look:∀ds∈off,∀o∈ds,qE s o (tops (c7 1 p) p) (c7 1 p)/\Bq (m9 s (tops (c7 1 p) p) (c7 1 p) o)/\Bd (((m9 s (tops (c7 1 p) p) (c7 1 p) o).den:Int)*(c7 1 p:Nat))
def Hw(D:be):ST:=λc R=>∃(s:Rat)(l:Φ)(a:xz)(t:zI)(p:xf),c=[cK D s l a,.lst (t.map dT),.lst (p.map aa)]/\GK l a/\cf a t/\Kj s a p/\∀b:zI,Ub s a (tops (c7 1 p) p) (c7 1 p) t b->R (.l1 (b.map dT))
theorem Hn(T:Tx D):gT 5 Bf pU (Hw D):=ya T.aeD λ{f U}F=>by
 refine F.okT Qc (λ_ _=>bF (mW (bI (N8 T) (bx vx (bx vw bC))))
  (bF (bT 3 (bI (kS T) (bx vy bC)))
  (bF (iY 4 (dJ bC))
  (bF (d_ (Ba T.lU (bx vw bC)) (fL (n:=2) (bV (b_ (n:=99) 5) (bV (b_ (n:=99) 6) dO)))
  (bF (vh (bH DK) Ld Ld ["offer"] (cL (Bt vx T.jD T.jo (ja T) (bx vn bC) (KS:=lD))) (fZ (i:=0)) cI (bI (Mh T) (bx vw (bx vx (bx vt bC)))) (gJ (i:=7) Qc.nd rfl (Or.inl rfl)))
  (bG (qw 4 (Yr (bW zY (qv 6) eY) eY (bI (Ni T) (bx (qv 7) (bx (qv 6) bC))))))))
  (bG (mX 4)))))) ?_
 rintro _ R ⟨s,l,a,t,p,rfl,h,J,G,V⟩;refine⟨_,_,_,_,rfl,h,J,p,rfl,G.few,G.num,G.lcm,?_⟩;have S:=G.look;generalize c7 1 p=B at *;generalize tops B p=r at *;refine uT dT t (λk o=>∃g x y z,o=[.fz (cK D s l a),.fz (.lst (t.map dT)),.fz (.lst (p.map aa)),.fz (.tup [.lst (r.map L2.T.int),.int (B:Nat)]),.l1 (g.map dT),x,y,z]/\g.length=k/\(∀i:Nat,i<k->t[i]?=some none->g[i]?=some none)/\∀(i d:Nat)(q:List bO),i<k->t[i]?=some (some d)->a[i]?=some q->∃b,g[i]?=some (some b)/\BR (q.map (m9 s r B)) d b) ⟨[],.und,.und,.und,rfl,rfl,λi z=>absurd z (WU _),λi d q z=>absurd z (WU _)⟩ ?_ ?_
 .rintro k d _ e ⟨g,x,y,z,rfl,w,I,H⟩;have C:k<a.length:=by rw[<- J.len];exact(ao.mp e).1
  have O:=aj C;have Z:=h.few;have hl:=h.len;have Q:(g.map dT).length<sizeLine:=by rw[ak];exact aR (show _<1001 by lia) wP
  have u:=aU C;have U:=h.fews _ u;have E:∀{i:Nat}(v:xF),i<k->(g++[v])[i]?=g[i]?:=λv m=>aF wE;have A:∀v:xF,(g++[v])[k]?=some v:=λv=>by rw[aD (WH w),w,Nat.sub_self];rfl
  have P:∀v:xF,g.map dT++[dT v]=(g++[v]).map dT:=λv=>by rw[bf];rfl
  refine⟨rfl,⟨rfl,rfl⟩,_,_,_,k,_,rfl,h,O,by rw[ak];exact aL U wP,comp_map c5 (λo=>aa (m9 s r B o)) a[k] (λo K N M Y=>⟨s,l,a,o,r,B,rfl,(S _ u o K).1,Y⟩) ?_⟩;cases d with
  |none =>
   refine⟨Q,g++[none],.fz (.int k),.fz .non,.fz (.lst (a[k].map λo=>aa (m9 s r B o))),?_,by simp[w],λi m j=>?_,λi d q m j=>?_⟩
   .rw[<- P]
    rfl
   .by_cases c:i=k
    .rw[c];exact A none
    .rw[E none (XX (Up m) c)];exact I i (XX (Up m) c) j
   .by_cases c:i=k
    .rw[c,e]at j;cases j
    .rw[E none (XX (Up m) c)];exact H i d q (XX (Up m) c) j
  |some d =>
   have ld:d<(a[k]).length:=of_decide_eq_true (J.ok k (some d) _ e O);refine⟨a[k].map (m9 s r B),d,by rw[WG];rfl,by rw[ak];exact ld,by rw[ak];exact U,λx W=>?_,λb X=>⟨Q,g++[some b],.fz (.int k),.fz (.int d),.fz (.lst (a[k].map λo=>aa (m9 s r B o))),?_,by simp[w],λi m j=>?_,λi d' q m j L=>?_⟩⟩
   .obtain⟨o,K,rfl⟩:=YV.mp W;exact(S _ u o K).2.1
   .rw[<- P]
    rfl
   .by_cases c:i=k
    .rw[c,e]at j;cases j
    .rw[E (some b) (XX (Up m) c)];exact I i (XX (Up m) c) j
   .by_cases c:i=k
    .subst c;rw[e]at j;rw[O]at L;cases j;cases L;exact⟨b,A (some b),X⟩
    .rw[E (some b) (XX (Up m) c)];exact H i d' q (XX (Up m) c) j L
 .rintro _ ⟨g,x,y,z,rfl,w,I,H⟩;exact V g ⟨w,λk e=>I k (ao.mp e).1 e,λk d q e=>H k d q (ao.mp e).1 e⟩
open Rw (sg iw gF cC iR jg)
def dw(v:xj)(x:Nat->Rat):Rat:=(v.map λw=>w.2*x w.1).sum
def Ih(v:xj):Rat:=(v.map (·.2)).sum
theorem dX(w:Nat×Rat)(v:xj)(x:Nat->Rat):dw (w::v) x=w.2*x w.1+dw v x:=rfl
theorem Av(w:Nat×Rat)(v:xj):Ih (w::v)=w.2+Ih v:=rfl
theorem k8{M:Rat}{x:Nat->Rat} : ∀{v:xj},(∀w∈v,0<=w.2/\x w.1<=M)->dw v x<=Ih v*M
 |[],_=>by show(0:Rat)<=0*M;rw[Rat.zero_mul];exact UX
 |w::v,h=>by
  rw[dX,Av];have:=k8 (v:=v) λc d=>h c (aJ _ d);obtain⟨a,b⟩:=h w (aO ..);have:=TW b a
  grind
theorem EK{m:Nat}{x:Nat->Rat} : ∀{v:xj},(∀w∈v,w.1<m)->sg (λj=>uo v j*x j) m=dw v x
 |[],_=>by
  show sg (λj=>0*x j) m=0;rw[cC (g:=λ_=>0) λj _=>Rat.zero_mul _,iR]
 |w::v,h=>by
  rw[dX,<- EK (m:=m) (v:=v) λa b=>h a (aJ _ b)];rw[cC (g:=λj=>(if j=w.1 then 1 else 0)*(w.2*x j)+uo v j*x j) λj _=>?_,iw,jg (v:=λj=>w.2*x j),ZY (h w (aO ..))];show((if w.1=j then w.2 else 0)+uo v j)*x j=_;by_cases e:w.1=j
  .rw[ZY e,ZY e.symm];grind
  .rw[ZZ e,ZZ (Ne.symm e)];grind
theorem GW(x:Nat->Rat):∀{m:Nat},0<m->∃i,i<m/\∀j,j<m->x j<=x i
 |0,h=>absurd h (WU _)
 |1,_=>⟨0,UQ,λj a=>by rw[show j=0 by exact Nat.eq_zero_of_le_zero (Up a)];exact UX⟩
 |m+2,_=>by
  obtain⟨i,b,h⟩:=GW x (m:=m+1) (TZ _);by_cases c:x i<=x (m+1)
  .refine⟨m+1,by exact X2 _,λj a=>?_⟩;by_cases e:j=m+1
   .rw[e];exact UX
   .exact Ts (h j (XX (Up a) e)) c
  .refine⟨i,by exact UK b (X2 _),λj a=>?_⟩;by_cases e:j=m+1
   .rw[e];exact JJ (Rat.not_le.mp c)
   .exact h j (XX (Up a) e)
structure dk(s:Rat)(m:Nat)(v:xj):Prop where
 lt:∀w∈v,w.1<m
 nn:∀w∈v,0<=w.2
 one:Ih v<=1
def sub_le{v:Nat->xj}{x:Nat->Rat}(o:0<=s)(n:s<1)(a:∀i,i<m->dk s m (v i))(h:∀i,i<m->x i<=s*dw (v i) x):∀j,j<m->x j<=0:=λj q=>by
 obtain⟨i,l,c⟩:=GW x (m:=m) wE;refine Ts (c j q) (Rat.not_lt.mp λp=>?_);have b:=a i l;have d:dw (v i) x<=Ih (v i)*x i:=k8 λw a=>⟨b.nn w a,c _ (b.lt w a)⟩;have e:Ih (v i)*x i<=1*x i:=jn b.one (JJ p);have f:=TW (Ts d e) o;have g:=h i l;have k:s*x i<1*x i:=Rat.mul_lt_mul_of_pos_right n p
 grind
def ZF{a:xm}{x:Nat->Rat}(b:i<a.length)(h:∀w∈j_ (a.getD i none),w.1<a.length):sg (λj=>iu s a i j*x j) a.length=x i-s*dw (j_ (a.getD i none)) x:=by
 rw[<- EK h,cC (g:=λj=>(if j=i then 1 else 0)*x j+(-s)*(uo (j_ (a.getD i none)) j*x j)) λj _=>by unfold iu;grind,iw,gF,jg (v:=x),ZY b]
 grind
def Qf{b:xm}(h:∀i,i<b.length->dk s b.length (j_ (b.getD i none))):Bj s b y↔∀i,i<b.length->y i=oU (b.getD i none)+s*dw (j_ (b.getD i none)) y:=by
 constructor
 .intro w i a;have:=w i a;rw[ZF a (h i a).lt]at this
  grind
 .intro w i a;rw[ZF a (h i a).lt];have:=w i a
  grind
theorem Tt(x:Nat->Rat):∀v:xj,dw v (λj=>-(x j))=-(dw v x)
 |[]=>by show(0:Rat)=-0;grind
 |w::v=>by rw[dX,dX,Tt x v];grind
def YL{c:xm}(g:0<=s)(f:s<1)(h:∀i,i<c.length->dk s c.length (j_ (c.getD i none)))(x:Nat->Rat)(l:∀i,i<c.length->sg (λj=>iu s c i j*x j) c.length=0):∀j,j<c.length->x j=0:=λj k=>by
 have e:∀i,i<c.length->x i=s*dw (j_ (c.getD i none)) x:=λi d=>by
  have:=l i d;rw[ZF d (h i d).lt]at this
  grind
 have a:=sub_le g f h (x:=x) (λi d=>by rw[<- e i d];exact UX) j k;have b:=sub_le g f h (x:=λj=>-(x j)) (λi d=>by
  show -(x i)<=_;rw[Tt,e i d]
  grind) j k
 grind
open Rw (sg iw gF cC iR jg Big)
def vA(s:Rat)(a:xm):(E_ (Cw s a) (a.map oU)).length=a.length:=by rw[T2,S_,ak,US]
def agY{a:xm}(c:0<=s)(b:s<1)(h:∀i,i<a.length->dk s a.length (j_ (a.getD i none)))(x:Nat->Rat)(g:∀j,a.length<=j->x j=0)(d:∀r∈E_ (Cw s a) (a.map oU),sg (λj=>r.getD j 0*x j) (a.length+1)=0):∀j,j<a.length->x j=0:=by
 refine YL c b h x λi f=>?_;have:=d _ (aC (ZC f));rw[<- this];show _=sg (λj=>(((range a.length).map λj=>iu s a i j)++[oU (a.getD i none)]).getD j 0*x j) a.length+_*x a.length;rw[g _ (aG _),Rat.mul_zero,Rat.add_zero];exact cC λj e=>ZH (· * x j) (Zy _ _ e).symm
def _L{Q:Nat}{r:xf}(e:1<=A)(d:0<Q)(h:∀c∈r,c.den ∣ Q/\c.num.natAbs<=A*c.den):Big (A*Q) (jO r):=by
 have f:=gU r UQ;have hd:c7 1 r ∣ Q:=rK r (Qr _) λc a=>(h c a).1;have le:=UR d hd;refine⟨by show(0:Int)<(c7 1 r:Nat);lia,?_,λt b=>?_⟩
 .show((c7 1 r:Nat):Int).natAbs<=A*Q;rw[X0];exact aL le (lP _ e)
 .obtain⟨c,a,rfl⟩:=YV.mp b;rw[VW,X0];refine aL (jp _ (h c a).2) ?_;rw[Nat.mul_assoc,Nat.mul_div_cancel' ((k_ r).2 c a)];exact Th _ le
def JQ{a:xm}{r:xf}(c:r∈E_ (Cw s a) (a.map oU)):∃i,i<a.length/\r=((range a.length).map λj=>iu s a i j)++[oU (a.getD i none)]:=by
 obtain⟨i,e⟩:=aV c;have b:i<a.length:=by have:=(ao.mp e).1;rw[vA]at this;exact this
 rw[ZC b]at e;injection e with e;exact⟨i,b,e.symm⟩
def acW(p:xf)(k:Nat):(((tops (c7 1 p) p).getD k 0:Int):Rat)=p.getD k 0*((c7 1 p:Nat):Rat):=by
 have h:=Nx p k;unfold Rw.vr at h;have a:=gU p UQ;have n:((((c7 1 p:Nat):Int)):Rat)≠0:=λz=>by have:=Rat.intCast_eq_zero_iff.mp z;lia
 have e:((((c7 1 p:Nat):Int)):Rat)=((c7 1 p:Nat):Rat):=rfl;rw[<- e,<- h];show _=(((tops (c7 1 p) p).getD k 0:Int):Rat)/_*_
 grind
theorem HX(p:xf):∀v:xj,Jl v (tops (c7 1 p) p)=dw v (λk=>p.getD k 0)*((c7 1 p:Nat):Rat)
 |[]=>by show(0:Rat)=0*_;rw[Rat.zero_mul]
 |w::v=>by
  show w.2*(((tops (c7 1 p) p).getD w.1 0:Int):Rat)+Jl v _=_;rw[HX p v,dX,acW]
  grind
def ie(s:Rat)(y:Nat->Rat)(o:bO):Rat:=o.pay+s*dw o.ways y
def Ue(s:Rat)(p:xf)(o:bO):m9 s (tops (c7 1 p) p) (c7 1 p) o=ie s (λk=>p.getD k 0) o*((c7 1 p:Nat):Rat):=by
 unfold m9 ie;rw[HX]
 grind
theorem VJ{x z:Nat->Rat} : ∀{v:xj},(∀w∈v,x w.1=z w.1)->dw v x=dw v z
 |[],_=>rfl
 |w::v,h=>by rw[dX,dX,h w (aO ..),VJ λa b=>h a (aJ _ b)]
theorem IP{x z:Nat->Rat} : ∀{v:xj},(∀w∈v,0<=w.2/\x w.1<=z w.1)->dw v x<=dw v z
 |[],_=>UX
 |w::v,h=>by
  rw[dX,dX];have:=IP (v:=v) λc d=>h c (aJ _ d);obtain⟨a,b⟩:=h w (aO ..);have:=TW b a
  grind
theorem SM(x z:Nat->Rat):∀v:xj,dw v (λj=>x j-z j)=dw v x-dw v z
 |[]=>by show(0:Rat)=0-0;grind
 |w::v=>by rw[dX,dX,dX,SM x z v];grind
def sX(s:Rat)(y:Nat->Rat)(c:xE):Rat:=oU c+s*dw (j_ c) y
def Ez{c:Nat->xE}{z:Nat->Rat}(f:0<=s)(e:s<1)(k:∀i,i<m->dk s m (j_ (c i)))(h:∀i,i<m->y i<=sX s y (c i))(g:∀i,i<m->z i=sX s z (c i)):∀i,i<m->y i<=z i:=λi d=>by
 have:=sub_le f e k (x:=λj=>y j-z j) (λi d=>by
  rw[SM];show y i-z i<=_;have a:=h i d;have b:=g i d;unfold sX at a b
  grind) i d
 grind
def ad0{c:Nat->xE}{z:Nat->Rat}(d:0<=s)(h:s<1)(a:∀i,i<m->dk s m (j_ (c i)))(k:∀i,i<m->y i<=sX s y (c i))(f:∀i,i<m->z i=sX s z (c i))(b:i<m)(lt:y i<sX s y (c i)):y i<z i:=by
 have le:=Ez d h a k f;have j:=IP (v:=j_ (c i)) (x:=y) (z:=z) λw g=>⟨(a i b).nn w g,le _ ((a i b).lt w g)⟩;have l:=TW j d;have e:=f i b;unfold sX at lt e
 grind
def La{a:xz}{d:xF}(e:t[i]?=some d):(ca a t).getD i none=d.bind λd=>(a.getD i [])[d]?:=by
 unfold ca;rw[au,aq,List.getElem?_zipIdx,e];simp
def agr{c:List bO}{d b:Nat}(hd:d<c.length)(h:BR (c.map (m9 s (tops (c7 1 p) p) (c7 1 p))) d b):b=d\/∃o a,c[d]?=some o/\c[b]?=some a/\ie s (λk=>p.getD k 0) o<ie s (λk=>p.getD k 0) a:=by
 rcases h with⟨_,e⟩|⟨lt,f,_⟩
 .exact .inl e
 .rw[ak]at f;refine .inr ⟨_,_,aj hd,aj f,?_⟩;rw[au,au,aq,aq,aj hd,aj f]at lt;have lt:m9 s (tops (c7 1 p) p) (c7 1 p) c[d]<m9 s (tops (c7 1 p) p) (c7 1 p) c[b]:=lt;rw[Ue,Ue]at lt;have g:=gU p UQ;have a:(0:Rat)<((c7 1 p:Nat):Rat):=by
   have:((0:Int):Rat)<(((c7 1 p:Nat):Int):Rat):=Rat.intCast_lt_intCast.mpr wE;exact this
  exact(Rat.mul_lt_mul_right a).mp lt
def PL{a:xz}{p:xo}{B:Nat}{o:zI}(l:cf a t)(h:Ub s a p B t o):cf a o:=by
 refine⟨by rw[h.len,l.len],λk d i g n=>?_⟩;have q:k<t.length:=by rw[<- h.len];exact(ao.mp g).1
 have f:=aj q;have e:=l.ok k _ i f n;cases m:t[k]with
 |none =>
  rw[m]at f e;rw[h.none k f]at g;cases g;exact e
 |some c =>
  rw[m]at f e;obtain⟨b,u,r⟩:=h.some k c i f n;rw[u]at g;cases g;have v:c<i.length:=of_decide_eq_true e;rcases r with⟨_,rfl⟩|⟨_,j,_⟩
  .exact e
  .rw[ak]at j;exact Zs j
def mx{c:xz}{g:zI}{z:Nat->Rat}(x:0<=s)(w:s<1)(hw:∀L∈c,∀o∈L,dk s c.length o.ways)(r:cf c t)(h:Ub s c (tops (c7 1 p) p) (c7 1 p) t g)
 (G:∀i,i<c.length->p.getD i 0=sX s (λk=>p.getD k 0) ((ca c t).getD i none))(A:∀i,i<c.length->z i=sX s z ((ca c g).getD i none)):(∀i,i<c.length->p.getD i 0<=z i)/\∀i,i<c.length->g[i]?≠t[i]?->p.getD i 0<z i:=by
 have C:=PL r h;have v:∀{l:zI},cf c l->∀i,i<c.length->dk s c.length (j_ ((ca c l).getD i none)):=λ{l}B i e=>by
  have f:=aj (show i<l.length by rwa[B.len]);rw[La f];cases l[i]'(by rwa[B.len])with
  |none=>exact⟨λ_ z=>(nomatch z),λ_ z=>(nomatch z),by show(0:Rat)<=1;decide⟩
  |some d =>
   show dk s c.length (j_ ((c.getD i [])[d]?));rw[au,aj e];show dk s c.length (j_ (c[i][d]?));cases q:c[i][d]? with
   |none=>exact⟨λ_ z=>(nomatch z),λ_ z=>(nomatch z),by show(0:Rat)<=1;decide⟩
   |some o=>exact hw _ (aU e) o (aC q)
 have D:∀i,i<c.length->(g[i]?=t[i]?/\p.getD i 0=sX s (λk=>p.getD k 0) ((ca c g).getD i none))\/p.getD i 0<sX s (λk=>p.getD k 0) ((ca c g).getD i none):=λi e=>by
  have F:i<t.length:=by rwa[r.len]
  have f:=aj F;have u:=aj e;have I:c.getD i []=c[i]:=by rw[au,u];rfl
  have n:=G i e;rw[La f]at n;cases q:t[i]with
  |none =>
   rw[q]at f n;have j:=h.none i f;exact .inl ⟨by rw[j,f],by rwa[La j]⟩
  |some d =>
   rw[q]at f n;obtain⟨b,j,H⟩:=h.some i d _ f u;have ld:d<(c[i]).length:=of_decide_eq_true (r.ok i (some d) _ f u);rcases agr ld H with rfl|⟨o,a,K,J,lt⟩
   .exact .inl ⟨by rw[j,f],by rwa[La j]⟩
   .refine .inr ?_;rw[La j,n];show sX s _ ((c.getD i [])[d]?)<sX s _ ((c.getD i [])[b]?);rw[I,K,J];exact lt
 have m:∀i,i<c.length->p.getD i 0<=sX s (λk=>p.getD k 0) ((ca c g).getD i none):=λi e=>(D i e).elim (λz=>by rw[<- z.2];exact UX) JJ;exact⟨Ez (y:=λk=>p.getD k 0) x w (v C) m A,λi e E=>ad0 (y:=λk=>p.getD k 0) x w (v C) m A e ((D i e).resolve_left λz=>E z.1)⟩
theorem zf{J:Type}{g:J->PyData}(h:∀x,PyData.canLay0 (g x)):∀G:List J,PyData.canLayAll0 (G.map g)
 |[]=>rfl
 |x::G=>by rw[map_cons];unfold PyData.canLayAll0;rw[zf h G,h x];rfl
theorem Dm{J:Type}{g:J->PyData}{n:Nat}(h:∀x,PyData.depth (g x)<=n):∀G:List J,PyData.depthAll (G.map g)<=n
 |[]=>aZ _
 |x::G=>by
  rw[map_cons];unfold PyData.depthAll;have:=Dm h G;have:=h x;lia
theorem Ep{J:Type}{g:J->PyData}{h:J->T}(e:∀x,h x=hY (g x)):∀G:List J,G.map h=i6 (G.map g)
 |[]=>rfl
 |x::G=>by rw[map_cons,map_cons,Ep e G,e x];rfl
theorem Gh{J:Type}[DecidableEq J]{g:J->PyData}(h:∀x y,PyData.eqv (g x) (g y)=decide (x=y)):∀G p:List J,PyData.eqvAll (G.map g) (p.map g)=decide (G=p)
 |[],[]=>rfl
 |[],_::_=>rfl
 |_::_,[]=>rfl
 |x::G,y::p=>by
  rw[map_cons,map_cons];unfold PyData.eqvAll;rw[h,Gh h G p,<- decide_and];exact decide_eq_decide.mpr ⟨λz=>by rw[z.1,z.2],λz=>List.cons.inj z⟩
structure EqD{J:Type}[DecidableEq J](h:J->T)(g:J->PyData):Prop where
 of:∀x,h x=hY (g x)
 lay:∀x,PyData.canLay0 (g x)
 dep:∀x,PyData.depth (g x)<=60
 eqv:∀x y,PyData.eqv (g x) (g y)=decide (x=y)
def EqD.lst{J:Type}[DecidableEq J]{h:J->T}{g:J->PyData}(E:EqD h g)(G:List J):SeqAt.shaped (.list (G.map g)):=by
 have b:PyData.canLay0 (.list (G.map g)):=by unfold PyData.canLay0;exact zf E.lay G
 have a:PyData.depth (.list (G.map g))<=64:=by unfold PyData.depth;have:=Dm E.dep G;lia
 unfold SeqAt.shaped;rw[b,Zs a];rfl
def EqD.gEq{J:Type}[DecidableEq J]{h:J->T}{g:J->PyData}(E:EqD h g){neg:Bool}{a c:List J}{q:OT->Prop}(b:q (.fz (.bl (xr neg (decide (a=c)))))):gEq neg (.lst (a.map h)) (.lst (c.map h)) q:=by
 refine⟨.list (a.map g),.list (c.map g),ZH L2.T.lst (Ep E.of a),ZH L2.T.lst (Ep E.of c),E.lst a,E.lst c,?_⟩;unfold PyData.eqv;rwa[Gh E.eqv]
def dD:xF->PyData
 |none=>.none
 |some d=>.int (d:Nat)
set_option tactic.hygienic true in
def rE:EqD dT dD:=⟨λx=>by cases x<;>rfl,λx=>by cases x<;>rfl,λx=>by cases x<;>exact aZ _,λx y=>by
 cases x<;>cases y
 .rfl
 .rfl
 .rfl
 .rename_i a b
  show decide ((a:Int)=(b:Int))=_;exact decide_eq_decide.mpr ⟨λz=>by rw[Int.ofNat.inj z],λz=>by rw[Option.some.inj z]⟩⟩
def uI:xz->List zI
 |[]=>[[]]
 |b::a=>((if b=[]then[none]else(range b.length).map some).map λd=>(uI a).map λt=>d::t).flatten
theorem HV:∀{off:xz}{t:zI},cf off t->t∈uI off
 |[],t,h=>by
  have:=h.len;rw[List.length_eq_zero_iff.mp this];exact YR.mpr rfl
 |a::off,[],h=>by have:=h.len;cases this
 |a::off,d::t,h=>by
  have c:=HV (off:=off) (t:=t) ⟨Nat.succ.inj h.len,λk d a f e=>h.ok (k+1) d a f e⟩;have b:=h.ok 0 d a rfl rfl;refine List.mem_flatten.mpr ⟨_,YV.mpr ⟨d,?_,rfl⟩,YV.mpr ⟨t,c,rfl⟩⟩;cases d with
  |none =>
   have:a.length=0:=of_decide_eq_true b;rw[ZY (List.length_eq_zero_iff.mp this)];exact YR.mpr rfl
  |some d =>
   have:d<a.length:=of_decide_eq_true b;rw[ZZ λz=>by rw[z]at this;cases this];exact YV.mpr ⟨d,List.mem_range.mpr this,rfl⟩
theorem Ql{J:Type} : ∀{l l':List J},l.Nodup->(∀a∈l,a∈l')->l.length<=l'.length
 |[],_,_,_=>aZ _
 |a::l,l',e,h=>by
  obtain⟨s,t,rfl⟩:=List.append_of_mem (h a (aO ..));have c:=List.nodup_cons.mp e;have:=Ql (l:=l) (l':=s++t) c.2 λb d=>by
   have m:=h b (aJ _ d);rcases Y1.mp m with z|z
   .exact UP _ z
   .rcases YU.mp z with y|y
    .exact absurd (y ▸ d) c.1
    .exact aP _ y
  rw[length_cons,aA,length_cons];rw[aA]at this;lia
def uc(s:Rat)(a:xz)(t:zI)(p:xf):Prop:=p.length=a.length/\∀i,i<a.length->p.getD i 0=sX s (λk=>p.getD k 0) ((ca a t).getD i none)
abbrev gw(s:Rat)(off:xz)(p:xf)(t aS:zI):Prop:=Ub s off (tops (c7 1 p) p) (c7 1 p) t aS
structure eI(s:Rat)(off:xz)(N:Nat):Prop where
 s0:0<=s
 s1:s<1
 few:off.length<=100
 sh:∀ds∈off,∀o∈ds,dk s off.length o.ways
 wo:∀t,cf off t->qp s (ca off t) N
 me:∀p:xf,p.length=off.length->(∀r∈p,FnB ((2*off.length*N)^off.length) r)->Kj s off p
 pls:(uI off).length<sizeLine
def J1{a:xz}(hw:∀h∈a,∀o∈h,dk s a.length o.ways){b:zI}(c:cf a b)(i:Nat)(e:i<a.length):dk s a.length (j_ ((ca a b).getD i none)):=by
 have f:=aj (show i<b.length by rwa[c.len]);rw[La f];cases b[i]'(by rwa[c.len])with
 |none=>exact⟨λ_ z=>(nomatch z),λ_ z=>(nomatch z),by show(0:Rat)<=1;decide⟩
 |some d =>
  show dk s a.length (j_ ((a.getD i [])[d]?));rw[au,aj e];show dk s a.length (j_ (a[i][d]?));cases g:a[i][d]? with
  |none=>exact⟨λ_ z=>(nomatch z),λ_ z=>(nomatch z),by show(0:Rat)<=1;decide⟩
  |some o=>exact hw _ (aU e) o (aC g)
def Ip{a:xz}(d:0<=s)(c:s<1)(g:∀j∈a,∀o∈j,dk s a.length o.ways)(h:cf a t)(f:uc s a t p)(e:uc s a t W)(i:Nat)(b:i<a.length):p.getD i 0=W.getD i 0 :=
 Rat.le_antisymm (Ez (y:=λk=>p.getD k 0) (z:=λk=>W.getD k 0) d c (J1 g h) (λi b=>by rw[<- f.2 i b];exact UX) e.2 i b) (Ez (y:=λk=>W.getD k 0) (z:=λk=>p.getD k 0) d c (J1 g h) (λi b=>by rw[<- e.2 i b];exact UX) f.2 i b)
abbrev dq:=List xF×xf
abbrev xi:=List dq
abbrev dc(p:dq):T:=.tup [.lst (p.1.map dT),.lst (p.2.map aa)]
structure Told(s:Rat)(off:xz)(M:Nat)(t:zI)(u:xi):Prop where
 hd:∀p,u[0]?=some p->p.1=t
 ok:∀p∈u,cf off p.1/\uc s off p.1 p.2/\∀r∈p.2,FnB M r
 up:∀(k:Nat)p q,u[k]?=some p->u[k+1]?=some q->gw s off p.2 p.1 q.1/\q.1≠p.1
def More(m:Nat)(p W:xf):Prop:=(∀i,i<m->p.getD i 0<=W.getD i 0)/\∃i,i<m/\p.getD i 0<W.getD i 0
def More.trans{G:xf}(h:More m G p)(k:More m p W):More m G W :=
 ⟨λi a=>Ts (h.1 i a) (k.1 i a),let⟨i,a,l⟩:=h.2;⟨i,a,by have:=k.1 i a;grind⟩⟩
def SK{a:xz}{d:zI}(e:cf a t)(f:cf a d)(n:d≠t):∃i,i<a.length/\d[i]?≠t[i]?:=by
 refine Classical.byContradiction λc=>n (TH λi=>?_);by_cases b:i<a.length
 .exact Decidable.byContradiction λz=>c ⟨i,b,z⟩
 .rw[aM (by rw[f.len];exact VX b),aM (by rw[e.len];exact VX b)]
def Told.step{b:xz}{u:xi}(h:Told s b M t u)(B:eI s b N){p q:dq}(e:u[k]?=some p)(d:u[k+1]?=some q):More b.length p.2 q.2:=by
 obtain⟨a,n⟩:=h.up k p q e d;obtain⟨f,o,_⟩:=h.ok p (aC e);obtain⟨m,l,_⟩:=h.ok q (aC d);obtain⟨j,g⟩:=mx (z:=λk=>q.2.getD k 0) B.s0 B.s1 B.sh f a o.2 l.2;obtain⟨i,c,ne⟩:=SK f m n;exact⟨j,i,c,g i c ne⟩
def Told.more{s:Rat}{a:xz}{M N:Nat}{t:zI}{u:xi}(h:Told s a M t u)(B:eI s a N){j:Nat}{p:dq}(f:u[j]?=some p):∀(k:Nat){q:dq},j<k->u[k]?=some q->More a.length p.2 q.2
 |0,_,l,_=>absurd l (WU _)
 |k+1,q,l,e=>by
  have g:k<u.length:=by have:=(ao.mp e).1;exact UK (X2 _) this
  have b:=aj g;have d:=h.step B b e;by_cases c:j=k
  .subst c;rw[f]at b;cases b;exact d
  .exact(h.more B f k (XX (Up l) c) b).trans d
def Told.ne{a:xz}{u:xi}(h:Told s a M t u)(B:eI s a N){p q:dq}(l:j<k)(c:u[j]?=some p)(b:u[k]?=some q):p.1≠q.1:=λz=>by
 obtain⟨_,i,e,lt⟩:=h.more B c k l b;obtain⟨g,f,_⟩:=h.ok p (aC c);obtain⟨m,d,_⟩:=h.ok q (aC b);rw[<- z]at d;rw[Ip B.s0 B.s1 B.sh g f d i e]at lt;exact absurd lt (by grind)
def Told.nodup{a:xz}{u:xi}(h:Told s a M t u)(B:eI s a N):(u.map (·.1)).Nodup:=by
 refine List.pairwise_iff_getElem.mpr λi j c b l=>?_;rw[ak]at c b;rw[UU,UU];exact h.ne B l (aj c) (aj b)
def Told.len{b:xz}{u:xi}(h:Told s b M t u)(B:eI s b N):u.length<=(uI b).length:=by
 have:=Ql (h.nodup B) (l':=uI b) λa d=>by
  obtain⟨p,c,rfl⟩:=YV.mp d;exact HV (h.ok p c).1
 rwa[ak]at this
def Told.snoc{a:xz}{u:xi}{x:dq}(h:Told s a M t u)(l:u=[]->x.1=t)(g:cf a x.1/\uc s a x.1 x.2/\∀r∈x.2,FnB M r)(j:∀p,u.getLast?=some p->gw s a p.2 p.1 x.1/\x.1≠p.1):Told s a M t (u++[x]):=by
 refine⟨λp e=>?_,λp i=>?_,λk p q d b=>?_⟩
 .cases u with
  |nil=>cases e;exact l rfl
  |cons y u=>exact h.hd p e
 .rcases Y1.mp i with z|z
  .exact h.ok p z
  .cases YR.mp z;exact g
 .have f:k+1<(u++[x]).length:=(ao.mp b).1;rw[aA,length_singleton]at f;rw[aF (Nat.lt_of_succ_lt_succ f)]at d;by_cases c:k+1<u.length
  .rw[aF c]at b;exact h.up k p q d b
  .rw[aD (VX c),show k+1-u.length=0 by omega]at b;cases b;exact j p (by rw[TU,show u.length-1=k by omega];exact d)
def L8{t:T}{a:xk}{q:OT->Prop}(h:q (.fz t)):ki (.tup (t::a)) (.int 0) q:=h
def agF{h:J->T}{u:List J}{p:J}(e:u.getLast?=some p):ck (u.map h) (-1)=some (h p):=by
 show dz (u.map h).reverse 0=_;rw[o7,<- List.map_reverse,aq,<- List.head?_eq_getElem?,List.head?_reverse,e]
 rfl
structure rG(s:Rat)(off:xz)(M:Nat)(t:zI)(u:xi):Prop where
 told:Told s off M t u
 ne:u≠[]
 last:∀p,u.getLast?=some p->gw s off p.2 p.1 p.1
def K9(T:Tx D):OkI P w K mg base bc 1 D.NoPlan_init jM (EB D.NoPlan "room"):=ye T.M7 λF=>by
 refine F.okB MN ?_ ?_
 .rintro _ _ _ _ ⟨a,v,rfl,_⟩;rfl
 .rintro e A b s H _ Q E d ⟨a,v,rfl,c,q⟩;refine⟨_,(ab4 (l4.mk (gO (afv T.ib_HallError T.xi_NoPlan (by rfl) T.V4 (cj (pv 0) (cj QX dI)))))
   (ae4 (l4.mk (_J (pv 0) (pv 1) rfl)))),?_⟩
  exact⟨_,rfl,a,[_],rfl,c,by decide,_,rfl,_,rfl,a,D.NoPlan,rfl,c,T.xs_NoPlan,T.z6,q⟩
def NK(t:L2.T)(n:Nat):wx:=if n=0 then match t with|.non=>some true|.any=>none|.val _=>none|_=>some false else match t with|.int k=>some (decide (0<=k)&&decide (k<n))|_=>(tG t).map λ_=>false
def VN:ST:=λa q=>∃(t:L2.T)(n:Nat)(b:Bool),a=[t,.int n]/\NK t n=some b/\q (.fz (.bl b))
def aeG(T:Tx D):gT 2 FW vo VN:=yB T.adP II (λd _=>bF (cB (bW (z5 d.units) vw bA)
  (bG (bM (mq zY vx eY)))
  bQ)
  (bG (bM (wO (bI (WM T) (bx vx bC)) (zu (Mz Qi rY bA vx vw))))))<|by
 rintro _ R ⟨t,n,b,rfl,a,q⟩;by_cases e:n=0
 .subst e;cases t<;>cases a<;>exact q
 .refine cg (Zp wE) ?_;unfold NK at a;rw[ZZ e]at a;cases t with
  |int k =>
   cases a;refine⟨_,_,rfl,rfl,?_⟩;show sw (decide (0<=k)) (R (.fz (.bl (decide (k<(n:Int)))))) (R (.fz (.bl false)));by_cases c:0<=k
   .rw[Zs c,Bool.true_and]at q;exact dV (Zs c) q
   .rw[Zp c,Bool.false_and]at q;exact cg (Zp c) q
  |_=>cases a<;>exact⟨_,_,rfl,rfl,q⟩
inductive iF(off:xz):L2.T->L2.T->Prop
 |kind {t:L2.T} : mT .list t=some false->iF off t .non
 |len {ts:List L2.T} : ts.length≠off.length->iF off (.lst ts) .non
 |at{ts:List L2.T}{k:Nat}{t:L2.T}{ds:List bO} : ts.length=off.length->(∀(j:Nat)(u:L2.T)(es:List bO),j<k->ts[j]?=some u->off[j]?=some es->NK u es.length=some true)->ts[k]?=some t->off[k]?=some ds->NK t ds.length=some false->iF off (.lst ts) (.int k)
def mH(D:be):SX:=λb _ z=>∃(s:Rat)(l:Φ)(a:xz)(v w:L2.T),b=[cK D s l a,v]/\GK l a/\iF a v w/\z D.NoPlan ["room"] [w]
def NQ(T:Tx D):nf P w K mg base 4 gZ fJ (mH D):=yf T.Et λF=>by
 refine F.okTX Cd (λA _=>bF (cB (QW.qt (fW (dg (cJ (h_ .list vw T.cH T.lG boot_list))) (fu (bW (jZ A.units) (bN cG T.cX WJ (bx vw bC)) (Ah vx T.jD T.pJ (Tw T) (KS:=lD))))))
  (bG (V7 rfl T.Mw T.xi_NoPlan (K9 T) eY))
  bQ)
  (bF (d_ (Ba T.lU (bx vw bC)) (fL (n:=2) (bV (b_ (n:=99) 2) (bV (b_ (n:=99) 3) dO)))
  (bG (cB (dg (cJ (bI (aeG T) (bx vc (bx (bN cG T.cX WJ (bx (Bt vx T.jD T.jo (ja T) (bx vy bC) (KS:=lD)) bC)) bC)))))
  (bG (V7 rfl T.Mw T.xi_NoPlan (K9 T) vy))
  bQ)))
  (bG (bM fj)))) ?_
 rintro _ R Z ⟨s,l,b,v,w,rfl,h,B,q⟩;cases B with
 |kind e =>
  cases v<;>first|exact q|cases e
 |len e =>
  refine⟨⟨rfl,rfl⟩,_,_,_,rfl,dV ?_ ?_⟩
  .have I:=h.len;rw[Zp (λz=>e wE)]
   rfl
  .exact q
 |@«at» d k t g a E i m G =>
  refine⟨⟨rfl,rfl⟩,_,_,_,rfl,cg ?_ ?_⟩
  .show xr true (decide (((d.length:Nat):Int)=(l.length:Nat)))=false;rw[a,h.len,Zs rfl]
   rfl
  .have C:k<d.length:=(ao.mp i).1;rw[show d=d.map λt=>t from(List.map_id' d).symm];refine uT (λt=>t) d (λj o=>j<=k/\∃x y,o=[.fz (cK D s l b),.fz (.lst (d.map λt=>t)),x,y]) ⟨aZ _,_,_,rfl⟩ ?_ ?_
   .rintro j u _ e ⟨r,x,y,rfl⟩;have p:j<b.length:=by rw[<- a];exact(ao.mp e).1
    have f:=aj p;by_cases c:j=k
    .subst c;rw[i]at e;cases e;rw[m]at f;have H:(b[j]).length=g.length:=by rw[Option.some.inj f]
     refine⟨rfl,⟨rfl,rfl⟩,_,_,_,j,_,rfl,h,m,t,g.length,false,?_,G,q⟩;show[t,L2.T.int (((g.map c5).length:Nat):Int)]=_;rw[ak]
    .refine⟨rfl,⟨rfl,rfl⟩,_,_,_,j,_,rfl,h,f,u,(b[j]).length,true,?_,E j u _ (XX r c) e f,?_⟩
     .show[u,L2.T.int ((((b[j]).map c5).length:Nat):Int)]=_;rw[ak]
     .exact⟨by lia,_,_,rfl⟩
   .rintro _ ⟨z,x,y,rfl⟩;exact absurd z (Nat.not_le_of_lt C)
def aeM{t u:TS}{D:Ends}(h:∀a,a=u->ik t a D S H):ik t u D S H:=h u rfl
def sV{t u:TS}{D:Ends}(h:t { D with nx:=u D } S H):ik t u D S H:=h
def JV(l:List J)(c:Int)(f:l.length=m)(g:0<m):∃t,t∈l/\ck l (c%(m:Nat))=some t:=by
 have a:=Z3 c (show((m:Nat):Int)≠0 by lia);have b:=YY c (show(0:Int)<(m:Nat)by lia);obtain⟨k,e⟩:=lQ a;have d:k<l.length:=by lia
 refine⟨l[k],aU d,?_⟩;rw[e];show dz l k=_;rw[o7,aj d]
def aeT:ST:=λa q=>∃(c:Int)(n:Nat),a=[.int c,.int (n:Nat)]/\n<=100/\∀t,NK t n=some false->q (.fz t)
def DO(T:Tx D):gT 1 Yy Kr aeT:=yB T.apy XE (λf _=>bF (cB (bW (z5 f.units) vw bA)
  (bG (bM (bJ (dJ (bx bA (bx fj (bx nM (bx (wu bA) (bx (dJ bC) (bx (dU (bx bA (bx bA bC))) bC))))))) (bL cF vx bA))))
  bQ)
  (bG (bM (bJ (dJ (bx eY (bx (wu bA) (bx vw (bx fj (bx fj (bx nM (bx (dJ (bx bA bC)) (bx (bL cW vw (bL Us bA bA)) bC))))))))) (bL cF vx bA)))))<|by
 rintro _ R ⟨c,n,rfl,i,q⟩;refine cR (λh=>?_) λh=>?_
 .have a:n=0:=by lia
  subst a;refine⟨by decide,?_⟩;obtain⟨t,d,e⟩:=JV [L2.T.int 0,.bl false,.str "",.int (-1),.lst [],.tup [.int 0,.int 1]] c rfl wP;refine⟨t,e,q t ?_⟩
  revert t
  simp only[YU,VQ,or_false];rintro t (rfl|rfl|rfl|rfl|rfl|rfl) _<;>rfl
 .have a:n≠0:=by lia
  refine⟨?_,?_⟩
  .exact⟨by decide,by decide⟩
  have b:(10:Int)^toNat 30=10^30:=rfl;dsimp only[frz];rw[b];refine⟨by decide,?_⟩;obtain⟨t,d,e⟩:=JV [L2.T.non,.int (-1),.int (n:Nat),.bl true,.bl false,.str "0",.lst [.int 0],.int ((n:Nat)+10^30)] c (m:=8) rfl wP;refine⟨t,e,q t ?_⟩
  revert t
  simp only[YU,VQ,or_false];have g:(100:Int)<10^30:=by decide
  rintro t (rfl|rfl|rfl|rfl|rfl|rfl|rfl|rfl) _<;>unfold NK<;>rw[ZZ a]<;>first|rfl|(refine ZH some ?_;rw[Zp (show ¬(_:Int)<(n:Nat)by lia),Bool.and_false])
def ig{i:Int}(h:i.natAbs<18446744073709551616):Bd i:=aR h (aL (by decide:18446744073709551616<=2^64) (XG wP wP))
abbrev fq(l:xo):T:=.scr (l.map T.int)
def DG:ST:=λa q=>∃(l:xo)(k:Nat),a=[fq l,.int (k:Nat)]/\l.length<=100/\q (.fz (.int (l.getD k 0)))
def Ei{b:Type}(h:J->b)(l:List J)(lo a:xh):gD (l.map h) lo a=(gD l lo a).map h:=by unfold gD;rw[ak,map_take,List.map_drop]
def _B(l:List J)(k:Nat):gD l (some (k:Int)) (some ((k:Int)+1))=(l.drop k).take 1:=by
 unfold gD HT.sIx;show List.take ((if(k:Int)+1<0 then _ else min ((k:Int)+1).toNat l.length)-(if(k:Int)<0 then _ else min (k:Int).toNat l.length)) (List.drop (if(k:Int)<0 then _ else min (k:Int).toNat l.length) l)=_;rw[ZZ wE,ZZ (Int.not_lt_of_ge (WZ _))];by_cases h:k<l.length
 .rw[show min ((k:Int)+1).toNat l.length=k+1 by lia,show min (k:Int).toNat l.length=k by lia,show k+1-k=1 by exact QQ _ _]
 .rw[show min (k:Int).toNat l.length=l.length by lia,List.drop_length,TK (VX h),take_nil,take_nil]
def eZ(T:Tx D):gT 1 Br sJ DG:=yB T.ali ah2 (λ_ _=>bG (bM (bJ (bL cW (ju vx (g_ vw) (g_ (bL cW vw bA))) (dJ (bx bA bC))) bA)))<|by
 rintro _ R ⟨l,k,rfl,a,q⟩;have e:gD (l.map L2.T.int) (some (k:Int)) (some ((k:Int)+1))=((l.drop k).take 1).map L2.T.int:=by rw[Ei,_B]
 refine⟨?_,.int (l.getD k 0),?_,q⟩
 .show(gD (l.map L2.T.int) (some (k:Int)) (some ((k:Int)+1))).length+1<=sizeLine;rw[e,ak,aY];exact aL (show _<=2 by lia) wP
 .show ck (gD (l.map L2.T.int) (some (k:Int)) (some ((k:Int)+1))++[L2.T.int 0]) 0=_;rw[e];by_cases h:k<l.length
  .rw[jk h,List.take_succ_cons,au,aj h]
   rfl
  .rw[TK (VX h),au,aM (VX h)]
   rfl
def strN(c:Int):Nat->Int×Int
 |0=>((c%1999999973+31)*765432101%1999999973,if c<0\/10^18<=c then(c.natAbs:Int)else 0)
 |k+1=>(((strN c k).1*((strN c k).1%65521+40487)+7*(k:Int)+5)%1999999973,(strN c k).2.fdiv 1000000)
def z3(c:Int)(k:Nat):Int:=if 0<(strN c k).2 then(strN c k).2%1000000 else(strN c (k+1)).1
def IQ(c:Int):∀k,0<=(strN c k).1/\(strN c k).1<1999999973
 |0=>⟨Z3 _ wP,YY _ wP⟩
 |_+1=>⟨Z3 _ wP,YY _ wP⟩
def jW(c:Int)(k:Nat):0<=z3 c k/\z3 c k<2000000000:=by
 unfold z3;have:=IQ c (k+1);split<;>lia
abbrev lH(c:Int)(n:Nat):xo:=(range n).map (z3 c)
def iC:ST:=λa q=>∃(c:Int)(n:Nat),a=[.int c,.int (n:Nat)]/\n<=1000/\q (.l1 ((lH c n).map T.int))
def gb(T:Tx D):gT 1 gH eV iC:=yB T.aes abU (λ_ _=>bF (iY 2 (dJ bC))
  (bF (bT 3 (bL cF (bL cY (bL cW (bL cF vx bA) bA) bA) bA))
  (bF (bT 4 bA)
  (bF (cB (QW.qt (fW (bW rY vx bA) (fu (bW oP vx (bL Us bA bA)))))
  (bG (bT 4 (bN Ly T.Wi boot_abs (bx vx bC))))
  bQ)
  (bF (d_ (d7 T.fK (bx vw bC)) (b_ (n:=99) 5)
  (bF (bT 3 (bL cF (bL cW (bL cW (bL cY vc (bL cW (bL cF vc bA) bA)) (bL cY bA vn)) bA) bA))
  (bF (qw 2 (bJ (dJ (bx vc (bx (bL cF vt bA) bC))) (jU G1 T.Qk boot_int (bx (mq Ir vt bA) bC))))
  (bG (bT 4 (bL nu vt bA))))))
  (bG (mX 2)))))))<|by
 rintro _ R ⟨c,n,rfl,e,q⟩;refine KU (λo=>o=[.fz (.int c),.fz (.int (n:Nat)),.l1 [],.fz (.int (strN c 0).1),.fz (.int (strN c 0).2),.und]) ?_ λY d=>?_
 .rintro _ rfl;refine⟨⟨by lia,by lia⟩,?_⟩;refine j7 (λk o=>∃x,o=[.fz (.int c),.fz (.int (n:Nat)),.l1 ((lH c k).map L2.T.int),.fz (.int (strN c k).1),.fz (.int (strN c k).2),x]) ⟨_,rfl⟩ ?_ ?_
  .rintro k _ f ⟨x,rfl⟩;have b:=IQ c k;refine⟨by decide,⟨ig wE,ig wE⟩,⟨ig wP,ig wE⟩,by decide,by decide,.int (z3 c k),?_,?_,⟨by decide,ig wP⟩,.fz (.int k),?_⟩
   .by_cases h:0<(strN c k).2
    .rw[Zs h];unfold z3;rw[ZY h]
     rfl
    .rw[Zp h];unfold z3;rw[ZZ h]
     rfl
   .rw[ak,ak,W1];exact aR (show k<1001 by lia) wP
   .rw[show lH c (k+1)=lH c k++[z3 c k]by simp[lH,range_succ],bf]
    rfl
  .rintro _ ⟨x,rfl⟩;exact q
 .refine⟨by decide,⟨ig wE,ig wP⟩,by decide,?_⟩;refine cR (λh=>d _ ?_) λh=>⟨⟨by decide,by decide,by decide⟩,cR (λa=>d _ ?_) λa=>d _ ?_⟩
  .show _=[_,_,_,_,OT.fz (L2.T.int (if c<0\/10^18<=c then(c.natAbs:Int)else 0)),_];rw[ZY (.inl h)]
   rfl
  .show _=[_,_,_,_,OT.fz (L2.T.int (if c<0\/10^18<=c then(c.natAbs:Int)else 0)),_];rw[ZY (.inr a)]
   rfl
  .show _=[_,_,_,_,OT.fz (L2.T.int (if c<0\/10^18<=c then(c.natAbs:Int)else 0)),_];rw[ZZ (λz=>z.elim h a)]
   rfl
def ZJ:ST:=λc q=>∃a b:Int,c=[.int a,.int b]/\q (.fz (.int (Int.gcd a b)))
def D7(T:Tx D):gT 1 Ut ug ZJ:=yB T.al7 Hk (λ_ _=>bF (zZ (bN acX T.afF boot_sorted (bx (dJ (bx (bN Ly T.Wi boot_abs (bx vx bC)) (bx (bN Ly T.Wi boot_abs (bx vw bC)) bC))) bC)) (_i (n:=2) rfl (bV (b_ (n:=99) 2) (bV (b_ (n:=99) 3) dO))))
  (bF (Li (bW Ir vy bA)
  (bG (Ta 2 3 rfl Hk.nd wP (bx (bL cF vc vy) (bx vy bC)))))
  (bG (bM vc))))<|by
 rintro _ R ⟨a,b,rfl,q⟩;refine⟨[(a.natAbs:Int),(b.natAbs:Int)],rfl,by simp,λe d j=>?_⟩;obtain⟨l,h,rfl,c⟩ : ∃l h:Nat,e=[(l:Int),(h:Int)]/\Nat.gcd l h=Int.gcd a b:=by
  have g:=d.length_eq
  match e,g with
  |[x,y],_ =>
   have i:x=(a.natAbs:Int)\/x=(b.natAbs:Int):=by simpa using d.subset (aO ..)
   rcases i with rfl|rfl
   .have:=(List.perm_cons _).mp d;have:=List.perm_singleton.mp this;cases this;exact⟨_,_,rfl,rfl⟩
   .have:=(List.perm_cons _).mp (d.trans (List.Perm.swap _ _ _));have:=List.perm_singleton.mp this;cases this;exact⟨_,_,rfl,gcd_comm _ _⟩
 refine⟨rfl,λm o=>∃(l h:Nat),o=[.fz (.int a),.fz (.int b),.fz (.int l),.fz (.int h)]/\Nat.gcd l h=Int.gcd a b/\m=l,⟨_,_,_,rfl,c,rfl⟩,?_⟩;rintro m _ ⟨l,h,rfl,c,rfl⟩;refine cR (λf=>?_) λf=>?_
 .refine⟨λo=>o=[.fz (.int a),.fz (.int b),.fz (.int ((h%m:Nat):Int)),.fz (.int m)],?_,?_⟩
  .rintro _ rfl;exact⟨h%m,mod_lt _ wE,h%m,m,rfl,(Nat.gcd_rec m h).symm.trans c,rfl⟩
  .exact⟨f,by rw[Int.natCast_emod];rfl⟩
 .have:m=0:=by lia
  subst this;rw[Nat.gcd_zero_left]at c;rw[<- c]at q;exact q
def Bl:ST:=λc q=>∃a b:Int,c=[.int a,.int b]/\0<b/\Bd b/\q (.fz (aa (divInt a b)))
def i'(T:Tx D):gT 2 uU nQ Bl:=yB T.ad4 acD (λ_ _=>bF (bT 2 (bI (D7 T) (bx vx (bx vw bC))))
  (bG (bM (dU (bx (bL nu vx vy) (bx (bL nu vw vy) bC))))))<|by
 rintro _ R ⟨a,b,rfl,f,hd,q⟩;have d:b≠0:=by exact WP f
 have e:=ou (a:=a) d;have g1:=YX (a:=a) d hd;refine⟨_,_,rfl,⟨by exact WP e,g1⟩,⟨by exact WP e,g1⟩,?_⟩;have l:=xG (t:=a) d (c:=(Int.gcd a b:Nat)) (WP e) wE (XZ e f);rw[<- jN l d]at q;exact q
def FZ:ST:=λa q=>∃r:Rat,a=[aa r]/\q (.fz (.bl true))
def VG(T:Tx D):gT 2 wL mK FZ:=yB T.Wo TV (λa _=>bF (cB (QW.qt (fW (dg (cJ (h_ .tuple vx T.cH T.Gd boot_tuple))) (fu (bW (jZ a.units) (bN cG T.cX WJ (bx vx bC)) bA))))
  (bG (bM fj))
  bQ)
  (bF (d_ (So vx) (b_ (n:=99) 1)
  (bG (cB (QW.qt (fW (dg (cJ (h_ .int vw T.cH T.Qk boot_int))) (fu (cJ (h_ .bool vw T.cH T.Mu boot_bool)))))
  (bG (bM fj))
  bQ)))
  (bG (bM (wO (mq Ir (bJ vx bA) bA) (zu (mq (z5 a.units) (bI (D7 T) (bx (bJ vx bA) (bx (bJ vx bA) bC))) bA)))))))<|by
 rintro _ R ⟨r,rfl,q⟩;have:=r.den_pos;refine⟨λo=>∃x,o=[.fz (aa r),x],?_,⟨_,rfl⟩⟩;rintro _ ⟨x,rfl⟩;refine⟨λo=>∃x,o=[.fz (aa r),x],?_,⟨_,rfl⟩⟩;rintro _ ⟨x,rfl⟩;refine dV (Zs wE) ⟨_,_,rfl,?_⟩;rw[show Int.gcd r.num r.den=1 from r.reduced];exact q
def BZ:ST:=λa q=>∃(h:xf)(m:Nat),a=[.lst (h.map aa),.int (m:Nat)]/\h.length=m/\m<=1000/\q (.fz (.bl true))
def OD(T:Tx D):gT 3 uf kJ BZ:=yB T.Uu Og (λc _=>bF (cB (QW.qt (fW (dg (cJ (h_ .list vx T.cH T.lG boot_list))) (fu (bW (jZ c.units) (bN cG T.cX WJ (bx vx bC)) vw))))
  (bG (bM fj))
  bQ)
  (bG (bM (bN (Ze rfl) T.WX boot_all (bx (dZ (bH pH) uY uY ["_law_one"] (cL vx) (fZ (i:=0)) cI (bI (VG T) (bx vx bC))) bC)))))<|by
 rintro _ R ⟨h,m,rfl,a,d,q⟩;refine cg (by rw[ak,a,Zs rfl];rfl) ⟨by rw[ak,a];exact aL d wP,comp_map aa (λ_=>.bl true) h (λr _ N M f=>⟨r,rfl,f⟩) ⟨h.map λ_=>true,by rw[WG];rfl,?_⟩⟩;have e:((h.map λ_=>true).all λb=>b)=true:=by simp
 rw[<- e]at q;exact q
def ip(c:Nat):Bool:=decide (97<=c)&&decide (c<=122)
def tj:wb:=(Str.ofString "abcdefghijklmnopqrstuvwxyz").cps.toList
def Wl:∀i:Fin 26,dz tj i.val=some (97+i.val):=by decide +kernel
def pk{i:Int}(a:0<=i)(b:i<26):ck tj i=some (97+i.toNat):=by
 obtain⟨k,rfl⟩:=lQ a;exact Wl ⟨k,by lia⟩
def p'(h:n<26):ip (97+n):=by
 unfold ip;rw[Zs (show 97<=97+n by exact X9 _ _),Zs (show 97+n<=122 by lia)];rfl
def pG(x:Str):x.cps.toList.length=x.length:=Array.length_toList
def IM(x y:Str):(x++y).cps.toList=x.cps.toList++y.cps.toList:=by
 show(x.cps++y.cps).toList=_;rw[Array.toList_append]
def _Q(x y:Str):(x++y).length=x.length+y.length:=by
 show(x.cps++y.cps).size=_;rw[Array.size_append];rfl
def GA : (Ju x none (some (n:Int))).cps.toList=x.cps.toList.take n:=by
 unfold Ju;have a:x.cps.toList.length=x.length:=Array.length_toList;show((x.cps.toList.drop 0).take (HT.sIx x.length x.length (some (n:Int))-0))=_;rw[HT.vK,drop_zero,sub_zero,<- a];rw[List.take_eq_take_iff];lia
def WL : (Ju x (some (n:Int)) none).cps.toList=x.cps.toList.drop n:=by
 unfold Ju;have a:x.cps.toList.length=x.length:=Array.length_toList;show((x.cps.toList.drop (HT.sIx x.length 0 (some (n:Int)))).take (x.length-HT.sIx x.length 0 (some (n:Int))))=_;rw[HT.vK,<- a];by_cases h:n<=x.cps.toList.length
 .rw[min_eq_left h];exact lA (by rw[U2];exact aG _)
 .rw[TK (by lia:x.cps.toList.length<=n),TK wE,take_nil]
def JE{p:List J}{a b:Nat}(c:a<=b)(h:b<=p.length):gD p (some (a:Int)) (some (b:Int))=(p.drop a).take (b-a):=by
 unfold gD;rw[HT.vK,HT.vK,min_eq_left h,min_eq_left (aL c h)]
def ES(h:x.cps.toList.all ip)(lo:1<=x.length)(a:x.length<=8):Wd x:=by
 unfold Wd kX;rwa[pG,Zs lo,Zs a]
structure iJ(l:Φ)(n:Nat):Prop where
 len:l.length=n
 nd:l.Nodup
 wd:∀x∈l,Wd x
def HF{R:Nat->Str->Prop}(h:∀(i:Nat)x,l[i]?=some x->R i x)(a:l.length=n)(u:∀i j x,i<j->j<n->R i x->R j x->False):l.Nodup:=by
 unfold List.Nodup;rw[List.pairwise_iff_getElem];intro i j d b c e;exact u i j l[i] c (a ▸ b) (h i _ (aj d)) (by rw[e];exact h j _ (aj b))
def QC{g:HG}{e:RE}{q:xk->Prop}(R:Nat->Str->Prop)(n:Nat)(C:∀k,k<n->∀(N:T->Prop)(M:Prop),(∀x,R k x->N (.str x))->g (.int (k:Nat)) o λA=>c A λb=>sw b (e A λy=>N (frz y)) M)(k:∀l:Φ,l.length=n->(∀(i:Nat)x,l[i]?=some x->R i x)->q (l.map T.str)):jL g c e o (rng 0 n) q:=by
 have H:∀(m j:Nat),j+m=n->∀(a:Φ),a.length=j->(∀(i:Nat)x,a[i]?=some x->R i x)->∀{q:xk->Prop},(∀l:Φ,l.length=n->(∀(i:Nat)x,l[i]?=some x->R i x)->(∃d,l=a++d/\q (d.map T.str))\/¬∃d,l=a++d)->jL g c e o ((range' j m).map λk:Nat=>.int ((0:Int)+k)) q:=by
  intro m
  induction m with
  |zero =>
   intro j I a h r q s;rcases s a wE r with⟨d,e,z⟩|z
   .have:d=[]:=by simpa using e
    rw[this]at z;exact z
   .exact absurd ⟨[],(append_nil a).symm⟩ z
  |succ m D =>
   intro j I a h r q s;rw[List.range'_succ,map_cons];refine acT ?_;rw[Int.zero_add];refine C j wE (λt=>jL g c e o ((range' (j+1) m).map λk:Nat=>.int ((0:Int)+k)) λa=>q (t::a)) (jL g c e o ((range' (j+1) m).map λk:Nat=>.int ((0:Int)+k)) q) λx E=>?_;refine D (j+1) wE (a++[x]) (by simp[h]) (λi y f=>?_) λl p u=>?_
   .by_cases G:i<a.length
    .rw[aF G]at f;exact r i y f
    .have F:=(ao.mp f).1;rw[aA,length_singleton]at F;have:i=a.length:=by lia
     subst this;rw[aD (aG _),Nat.sub_self]at f;cases f;exact h ▸ E
   .by_cases z:∃d,l=a++[x]++d
    .obtain⟨d,e⟩:=z;refine .inl ⟨d,e,?_⟩;rcases s l p u with⟨v,B,w⟩|z
     .rw[e,WV]at B;have:=List.append_cancel_left B;rw[<- this]at w;exact w
     .exact absurd ⟨x::d,by rw[e,WV];rfl⟩ z
    .exact .inr z
 have:=H n 0 (Nat.zero_add _) [] rfl (λi x z=>by cases z) (q:=q) λl p u=>.inl ⟨l,rfl,k l p u⟩;rw[<- List.range_eq_range']at this;exact this
def s_(c:Nat)(i:Nat)(x:Str):Prop:=x.cps.toList=replicate (i+1) c
def i1(b:wb)(a:Nat)(c d:Int)(i:Nat)(x:Str):Prop:=x.cps.toList=b.take a++(97+((c+d*i)%26).toNat)::b.drop a
def ah6{b:wb}{c:Nat}{d a:Int}(f:a=1\/a=3\/a=5\/a=7\/a=9\/a=11)(k:i<j)(l:j<26)(h:i1 b c d a i x)(g:i1 b c d a j x):False:=by
 have e:=h.symm.trans g;have e:=List.append_cancel_left e;injection e with e _;rcases f with rfl|rfl|rfl|rfl|rfl|rfl<;>omega
def _b{c:Nat}(b:ip c)(a:i<8)(h:s_ c i x):Wd x:=by
 have l:=pG x;rw[h,aN]at l;refine ES ?_ wE wE;rw[h,all_eq_true];intro d hd;rwa[(XV.mp hd).2]
def Sf{b:wb}{c:Nat}{e f:Int}(a:b.all ip)(g:b.length<=7)(h:i1 b c e f i x):Wd x:=by
 have l:=pG x;rw[h,aA,length_cons,aY,U2]at l;refine ES ?_ wE (by omega);rw[h,all_eq_true];rw[all_eq_true]at a;intro d hd;rcases Y1.mp hd with hd|hd
 .exact a d (List.mem_of_mem_take hd)
 .rcases YU.mp hd with rfl|hd
  .exact p' wE
  .exact a d (List.mem_of_mem_drop hd)
theorem Qw:∀(p:Φ)(b:Array Nat),(p.foldl (λb a=>b++(Str.ofString "").cps++a.cps) b).toList=b.toList++(p.map λy=>y.cps.toList).flatten
 |[],b=>by simp
 |y::p,b=>by
  have c:(Str.ofString "").cps = #[]:=by decide +kernel
  rw[foldl_cons,Qw p,c,Array.append_empty,Array.toList_append,map_cons,flatten_cons,WV]
def m4(p:Φ):(Txt.join (Str.ofString "") p).cps.toList=(p.map λy=>y.cps.toList).flatten:=by
 show((p.drop 1).foldl (λb a=>b++(Str.ofString "").cps++a.cps) (p.headD Str.empty).cps).toList=_;rw[Qw];cases p with
 |nil=>rfl
 |cons y p=>rfl
def W'{d:RT}{x y z:RS}(b:Bool)(h:∀q:Bool->Prop,q b->om c d o q)(e:sw b (x { E with nx:=z E } o) (y { E with nx:=z E } o)):eE (i4 (om c d) x y) z E o:=h (λk=>sw k (x { E with nx:=z E } o) (y { E with nx:=z E } o)) e
def V1:ST:=λa q=>∃(c:Int)(n:Nat),a=[.int c,.int (n:Nat)]/\n<=26/\∀l:Φ,iJ l n->q (.l1 (l.map T.str))
def dW{c:Int}(h:autoParam (k<n) zP4):ck ((lH c n).map T.int) (k:Nat)=some (.int (z3 c k)):=by
 show dz ((lH c n).map T.int) k=_;rw[o7,aq,aq,UV h];rfl
def GI(T:Tx D):gT 2 K6 zF V1:=yB T.ahD ad9 (λY _=>bF (bT 2 nM)
  (bF (bT 3 (bI (gb T) (bx vx (bx bA bC))))
  (bF (cB (QW.qt (Ve (bW (z5 Y.units) (bL cF (bJ vc bA) bA) bA) (JX (bW Qi vw bA))))
  (bG (bM (dZ (bH Aw) v8 v8 ["_law_k"] (d7 T.fK (bx vw bC)) (fZ (i:=0)) cI (bL cY (bJ vc (bL cF (bJ vt bA) bA)) (bL cW vx bA)))))
  bQ)
  (bF (bT 4 (agu nM (bx (dZ (bH Aw) v8 v8 ["_law_x"] (cL (ju vc (g_ bA) (g_ (bL cW bA (bL cF (bJ vc bA) bA))))) (fZ (i:=0)) cI (bJ vc (bL cF vx bA))) bC)))
  (bF (bT 5 (bL cF (bJ vc bA) bA))
  (bF (bT 6 (bJ (dJ (bx bA (bx bA (bx bA (bx bA (bx bA (bx bA bC))))))) (bL cF (bJ vc bA) bA)))
  (bG (bM (dZ (bH Aw) v8 v8 ["_law_k"] (d7 T.fK (bx vw bC)) (fZ (i:=0)) cI (bL cW (bL cW (ju vn Bm (g_ (qv 6))) (bJ vc (bL cF (bL cW (bJ vt bA) (bL cY (qv 7) vx)) bA))) (ju vn (g_ (qv 6)) Bm)))))))))))<|by
 rintro _ R ⟨c,n,rfl,P,q⟩;refine⟨c,11,rfl,by decide,?_⟩;have s0:=jW c 0;have s1:=jW c 1;have C:(Str.ofString "abcdefghijklmnopqrstuvwxyz").length<=sizeLine:=aL (show _<=1000 by decide +kernel) wP;have K:(rng 0 n).length<=sizeLine:=by rw[rng,ak,W1];exact aL P wP
 dsimp only;refine W' (decide (z3 c 0%3=1)&&decide ((n:Int)<=8)) (λq w=>?_) ?_
 .refine⟨_,dW (k:=0),by decide,?_⟩;refine cR (λh=>?_) λh=>?_
  .rw[Zs h,Bool.true_and]at w;exact w
  .rw[Zp h,Bool.false_and]at w;exact w
 .refine iP (λU=>?_) λU=>?_
  .simp only[QR,decide_eq_true_eq]at U;refine⟨⟨by lia,by lia⟩,K,QC (s_ (97+(z3 c 1%26).toNat)) n (λk Z N M s=>?_) λl r t=>q l ⟨r,HF t r λi j x L S F E=>?_,λx g=>?_⟩⟩
   .refine⟨_,dW (k:=1),by decide,C,_,pk (Z3 _ wP) (YY _ wP),_,rfl,by lia,by lia,λz O=>s z ?_⟩;rw[show((k:Int)+1).toNat=k+1 by lia]at O;exact O
   .have:=ZH List.length (F.symm.trans E);rw[aN,aN]at this;lia
   .obtain⟨i,y⟩:=aV g;have li:=(ao.mp y).1;exact _b (p' wE) wE (t i x y)
  .obtain⟨m,em,Q⟩ : ∃m:Nat,z3 c 1%8=m/\m<=7:=⟨(z3 c 1%8).toNat,by lia,by lia⟩;have V:gD ((lH c 11).map L2.T.int) (some 2) (some (2+z3 c 1%8))=(((lH c 11).drop 2).take m).map L2.T.int:=by
    rw[em,Ei];have:=JE (p:=lH c 11) (a:=2) (b:=2+m) (X9 _ _) (by rw[ak,W1];lia);rw[show 2+m-2=m by exact QQ _ _]at this;exact ZH (List.map L2.T.int) this
   have v:(((lH c 11).drop 2).take m).length=m:=by rw[aY,U2,ak,W1];lia
   refine⟨_,dW (k:=1),by decide,?_⟩;dsimp only[frz];show(gD ((lH c 11).map L2.T.int) (some 2) (some (2+z3 c 1%8))).length<=sizeLine/\_;rw[V];have u:∀x∈((lH c 11).drop 2).take m,0<=x:=λx g=>by
    obtain⟨k,_,rfl⟩:=YV.mp (List.mem_of_mem_drop (List.mem_of_mem_take g));exact(jW c k).1
   generalize((lH c 11).drop 2).take m=f at v u ⊢;have e0:(Str.ofString "").length=0:=by decide +kernel
   refine⟨by rw[ak,v];exact aL Q wP,comp_map L2.T.int (λx=>.str ⟨#[97+(x%26).toNat]⟩) f (λx g N M s=>⟨by decide,C,_,pk (Z3 _ wP) (YY _ wP),s⟩) ⟨f.map λx=>⟨#[97+(x%26).toNat]⟩,by rw[WG];rfl,?_,?_⟩⟩
   .rw[e0,Nat.mul_zero,Nat.add_zero,WG,show((λx:Str=>x.length) ∘ λx:Int=>(⟨#[97+(x%26).toNat]⟩ : Str))=λ_=>1 from rfl,map_const',List.sum_replicate_nat];lia
   have H:(Txt.join (Str.ofString "") (f.map λx=>(⟨#[97+(x%26).toNat]⟩ : Str))).cps.toList=f.map λx=>97+(x%26).toNat:=by
    rw[m4,WG]
    clear v u V
    induction f with
    |nil=>rfl
    |cons x f W=>rw[map_cons,flatten_cons,W];rfl
   have A:(Txt.join (Str.ofString "") (f.map λx=>(⟨#[97+(x%26).toNat]⟩ : Str))).length<=7:=by rw[<- pG,H,ak];exact aL (WH v) Q
   have I:(f.map λx=>97+(x%26).toNat).all ip=true:=by
    rw[all_eq_true];intro d hd;obtain⟨x,g,rfl⟩:=YV.mp hd;exact p' wE
   rw[<- H]at I;generalize Txt.join (Str.ofString "") (f.map λx=>(⟨#[97+(x%26).toNat]⟩ : Str))=B at A I ⊢
   clear H
   have s9:=jW c 9;have ka:=jW c 10;obtain⟨o,G,sQ⟩ : ∃o:Nat,z3 c 9%8=o/\o<=7:=⟨(z3 c 9%8).toNat,by lia,by lia⟩;obtain⟨sv,es,X⟩ : ∃sv:Int,ck [L2.T.int 1,L2.T.int 3,L2.T.int 5,L2.T.int 7,L2.T.int 9,L2.T.int 11] (z3 c 10%6)=some (.int sv)/\(sv=1\/sv=3\/sv=5\/sv=7\/sv=9\/sv=11):=by
    obtain e|e|e|e|e|e:z3 c 10%6=0\/z3 c 10%6=1\/z3 c 10%6=2\/z3 c 10%6=3\/z3 c 10%6=4\/z3 c 10%6=5:=by lia
    .exact⟨1,by rw[e];rfl,by decide⟩
    .exact⟨3,by rw[e];rfl,by decide⟩
    .exact⟨5,by rw[e];rfl,by decide⟩
    .exact⟨7,by rw[e];rfl,by decide⟩
    .exact⟨9,by rw[e];rfl,by decide⟩
    .exact⟨11,by rw[e];rfl,by decide⟩
   have z7:(16:Nat)<=sizeLine:=by decide
   refine⟨_,dW (k:=9),by decide,?_⟩;dsimp only[frz];rw[G];refine⟨_,dW (k:=10),by decide,_,es,⟨by lia,by lia⟩,K,QC (i1 B.cps.toList o (z3 c 0) sv) n (λk Z N M s=>?_) λl r t=>q l ⟨r,HF t r λi j x L S F E=>ah6 X L (aR S P) F E,λx g=>?_⟩⟩
   .have t1:(Ju B none (some (o:Int))).length<=7:=by rw[<- pG,GA,aY,pG];lia
    have t2:(Ju B (some (o:Int)) none).length<=7:=by rw[<- pG,WL,U2,pG];exact aL (Nat.sub_le _ _) A
    have J:∀d:Nat,({ cps:=#[d] } : Str).length=1:=λ_=>rfl;refine⟨by exact aL A wP,_,dW (k:=0),⟨ig wE,ig wE⟩,by decide,C,_,pk (Z3 _ wP) (YY _ wP),by rw[J];lia,by exact aL A wP,by rw[_Q,J];lia,s _ ?_⟩;unfold i1;rw[IM,IM,GA,WL,WV];rfl
   .obtain⟨i,y⟩:=aV g;exact Sf I (by rwa[pG]) (t i x y)
def GL(l:List J)(h:J->T){i:Int}(c:0<=i)(d:i<l.length):∃a∈l,ck (l.map h) i=some (h a):=by
 obtain⟨k,rfl⟩:=lQ c;have b:k<l.length:=by lia
 refine⟨l[k],aU b,?_⟩;show dz (l.map h) k=_;rw[o7,aq,aj b];rfl
def div_pos{b:Int}(f:0<b):(divInt a b).den<=b.toNat/\(divInt a b).num.natAbs<=a.natAbs:=by
 have l:=xG (t:=a) (b:=b) (c:=(Int.gcd a b:Nat)) (WP f) (by have:=ou (a:=a) (b:=b) (WP f);exact WP this) wE (XZ (ou (WP f)) f);have e:=jN l (WP f);injection e with e;injection e with g d;injection d with d _;injection g with g;injection d with d;have j:=l.lx;have i:=l.ly;have h:=l.pos;have g:a.fdiv ((Int.gcd a b:Nat):Int)=(divInt a b).num:=g;have d:b.fdiv ((Int.gcd a b:Nat):Int)=((divInt a b).den:Nat):=d;rw[g]at j;rw[d]at i h;omega
def aag{b:Int}(d:0<=a)(h:a<b):0<=divInt a b/\divInt a b<1:=by
 have c:0<b:=by exact Int.lt_of_le_of_lt d h
 refine⟨js d (XY c),?_⟩;have e:divInt a b=(a:Rat)/(b:Rat):=UH a b;rw[e];have f:(0:Rat)<(b:Rat):=by exact_mod_cast c
 rw[Rat.div_lt_iff f,Rat.one_mul]
 exact_mod_cast h
structure Shr(s:Rat):Prop where
 lo:0<=s
 hi:s<1
 den:s.den<=100
def Yb:ST:=λa q=>∃c:Int,a=[.int c]/\∀s:Rat,Shr s->q (.fz (aa s))
def adq(T:Tx D):gT 3 Mj yR Yb:=yB T.ag8 adQ (λ_ _=>bF (bT 1 (bI (gb T) (bx vx (bx bA bC))))
  (bF (bT 2 (bL cW bA (bL cF (bJ vw bA) (bJ (dJ (bx bA (bx bA (bx bA (bx bA bC))))) (bL cF (bJ vw bA) bA)))))
  (bG (bM (bI (i' T) (bx (bL cF (bJ vw bA) vy) (bx vy bC)))))))<|by
 rintro _ R ⟨c,rfl,q⟩;have n:=jW c 0;have m:=jW c 1;have l:=jW c 2;refine⟨c,3,rfl,by decide,_,dW (k:=0),_,dW (k:=1),by decide,?_⟩;obtain⟨d,hd,g⟩:=GL [4,6,10,100] L2.T.int (i:=z3 c 1%4) (Z3 _ wP) (by show z3 c 1%4<4;exact YY _ wP);have f:0<d/\d<=100:=by simp at hd;lia
 refine⟨_,g,f.1,?_⟩;have e:0<1+z3 c 0%d/\1+z3 c 0%d<=100:=by
  have:=Z3 (z3 c 0) (show d≠0 by lia);have:=YY (z3 c 0) f.1;lia
 refine⟨_,dW (k:=2),e.1,_,_,rfl,e.1,ig (by omega),q _ ?_⟩;generalize 1+z3 c 0%d=b at e ⊢;have j:=Z3 (z3 c 2) (show b≠0 by lia);have h:=YY (z3 c 2) e.1;obtain⟨x,y⟩:=aag j h;exact⟨x,y,by have:=(div_pos (a:=z3 c 2%b) e.1).1;lia⟩
structure g0(p:Rat):Prop where
 num:p.num.natAbs<=10^30
 den:p.den<=1000
def aeo:ST:=λa q=>∃c x y:Int,a=[.int c,.int x,.int y]/\(0<=x/\x<2000000000)/\(0<=y/\y<2000000000)/\∀p:Rat,g0 p->q (.fz (aa p))
def RY(T:Tx D):gT 3 Zd Nv aeo:=yB T.alO XB (λg _=>bF (cB (bW rY (bL cF vw bA) bA)
  (bG (bM (dU (bx (bL tO (bL cF vy bA) bA) (bx bA bC)))))
  bQ)
  (bF (cB (bW rY (bL cF vw bA) bA)
  (bG (bM (bI (i' T) (bx (bL tO (bL cF vy bA) bA) (bx (bL cW bA (bL cF (bL nu vw bA) bA)) bC)))))
  bQ)
  (bF (cB (bW (z5 g.units) (bL cF vw bA) bA)
  (bG (bM (dU (bx (bL tO (bL cF vx bA) bA) (bx bA bC)))))
  bQ)
  (bG (bM (bI (i' T) (bx (bL tO (bL cF (bL cW (bL RZ vx bA) vy) (bL cW (bL cY bA (bL Us bA bA)) bA)) (bL Us bA bA)) (bx (bL cW bA (bL cF (bL nu vw bA) bA)) bC))))))))<|by
 rintro _ R ⟨c,x,y,rfl,l,k,q⟩;have f:Bd (10^30):=Y3 (aG _) (by decide +kernel);have lo:∀a b:Int,0<b->a.natAbs<=10^30->b<=1000->R (.fz (aa (divInt a b))):=λa b j i m=>by
  obtain⟨x,y⟩:=div_pos (a:=a) j;exact q _ ⟨aL y i,by lia⟩
 have d:∀a:Int,a.natAbs<=10^30->R (.fz (.tup [.int a,.int 1])):=λa h=>q (a:Rat) ⟨h,show(1:Nat)<=1000 by decide⟩;have n:x.fdiv 8=x/8:=lI _ wP;refine⟨by decide,cR (λh=>⟨by decide,d _ wE⟩) λh=>⟨by decide,cR (λh=>⟨by decide,⟨by decide,ig wP⟩,by decide,?_⟩) λh=>⟨by decide,cR (λh=>⟨by decide,d _ wE⟩) λh=>?_⟩⟩⟩
 .exact⟨_,_,rfl,by lia,ig wE,lo _ _ wE wE wE⟩
 .refine⟨.inr (by constructor<;>decide),⟨by decide,by decide,by decide⟩,⟨ig wP,f⟩,by decide,⟨by decide,by decide,by decide⟩,⟨by decide,ig wP⟩,by decide,?_⟩;exact⟨_,_,rfl,by lia,ig wE,lo _ _ wE (by
   have e:(10:Int)^toNat 30=10^30:=rfl;rw[e];lia) wE⟩
def gj:ST:=λa q=>∃c:Int,a=[.int c]/\∀n:Nat,n<=6->q (.fz (.int (n:Nat)))
def ahJ(T:Tx D):gT 2 RB Eo gj:=yB T.akm _S (λa _=>bF (bT 1 (bI (gb T) (bx vx (bx bA bC))))
  (bF (cB (bW (z5 a.units) (bL cF (bJ vw bA) bA) bA)
  (bG (bM bA))
  bQ)
  (bF (cB (bW (z5 a.units) (bL cF (bJ vw bA) bA) bA)
  (bG (bM (bL cW bA (bL cF (bJ vw bA) bA))))
  bQ)
  (bG (bM (bL cW bA (bL cF (bJ vw bA) bA)))))))<|by
 rintro _ R ⟨c,rfl,q⟩;have d:=jW c 1;have b:0<=z3 c 1:=d.1;refine⟨c,2,rfl,by decide,_,dW (k:=0),by decide,cR (λh=>q 0 wP) λh=>⟨_,dW (k:=0),by decide,cR (λh=>⟨_,dW (k:=1),by decide,?_⟩) λh=>⟨_,dW (k:=1),by decide,?_⟩⟩⟩
 .have:=q (5+z3 c 1%2).toNat wE;rw[show(((5+z3 c 1%2).toNat:Nat):Int)=5+z3 c 1%2 by lia]at this;exact this
 .have:=q (1+z3 c 1%4).toNat wE;rw[show(((1+z3 c 1%4).toNat:Nat):Int)=1+z3 c 1%4 by lia]at this;exact this
structure LD where
 sort:Nat
 pay:Rat
 prs:xj
abbrev wp:=List LD
abbrev xw:=List wp
abbrev bb(d:LD):T:=.tup [.int (d.sort:Nat),aa d.pay,.lst (d.prs.map dv)]
structure LDk(m:Nat)(d:LD):Prop where
 sort:d.sort<4
 pay:g0 d.pay
 few:d.prs.length<=4
 lt:∀p∈d.prs,p.1<m
 nn:∀p∈d.prs,0<=p.2
 one:Gz (d.prs.map (·.2))=1
 dn:∃q:Nat,0<q/\q<=4000/\∀p∈d.prs,p.2.den ∣ q
 s0:d.sort=0->∃a,d.prs=[(a,1)]
 s1:d.sort=1->∃a b x,d.prs=[(a,x),(b,1-x)]
 s2:d.sort=2->∃h:wb,d.prs=h.map λr=>(r,mkRat 1 h.length)
def agQ(l:List J) : gD l none (some (n:Int))=l.take n:=by
 unfold gD;show(l.drop 0).take (HT.sIx l.length l.length (some (n:Int))-0)=_;rw[HT.vK,drop_zero,sub_zero];rw[List.take_eq_take_iff];lia
def Vq{b:Int}(g:0<b):(divInt a b).den ∣ b.toNat:=by
 have l:=xG (t:=a) (b:=b) (c:=(Int.gcd a b:Nat)) (WP g) (by have:=ou (a:=a) (b:=b) (WP g);exact WP this) wE (XZ (ou (WP g)) g);have e:=jN l (WP g);injection e with e;injection e with _ f;injection f with f _;injection f with f;have f:b.fdiv ((Int.gcd a b:Nat):Int)=((divInt a b).den:Nat):=f;have d:((Int.gcd a b:Nat):Int) ∣ b:=QP a b;rw[Int.fdiv_eq_ediv_of_dvd d]at f;obtain⟨x,h⟩:=d;have i:=ou (a:=a) (b:=b) (WP g);rw[Int.ediv_eq_of_eq_mul_right (WP i) h]at f;exact Int.natCast_dvd_natCast.mp ⟨(Int.gcd a b:Nat),by rwa[<- f,Int.toNat_of_nonneg (XY g),Int.mul_comm]⟩
theorem IS{S:Int}(a:S≠0):∀v:xo,Gz (v.map λw=>divInt w S)=divInt v.sum S
 |[]=>by show(0:Rat)=divInt 0 S;rw[JS]
 |w::v=>by
  show divInt w S+Gz (v.map λw=>divInt w S)=divInt (w+v.sum) S;rw[IS a v,JU _ _ a a];refine(Q1 (nG a a) a).mpr ?_
  grind
theorem XR{n:Nat}(h:0<n):∀k:Nat,Gz (replicate k (mkRat 1 n))=mkRat k n
 |0=>by show(0:Rat)=mkRat 0 n;rw[Rat.zero_mkRat]
 |k+1=>by
  rw[replicate_succ];show mkRat 1 n+Gz (replicate k (mkRat 1 n))=_;rw[XR h k,Rat.mkRat_add_mkRat _ _ (UY h) (UY h),Rat.mkRat_eq_iff (Nat.mul_ne_zero (UY h) (UY h)) (UY h)]
  push_cast
  grind
def _q(h:0<n):mkRat n n=1:=by
 rw[show(1:Rat)=mkRat 1 1 from rfl,Rat.mkRat_eq_iff (UY h) (Nat.succ_ne_zero _)];lia
def one_sub{b:Int}(c:b≠0):1-divInt a b=divInt (b-a) b:=by
 rw[show(1:Rat)=divInt 1 1 from rfl,Rat.divInt_sub_divInt _ _ wP c,JY,Int.mul_one]
def W9(x:Rat):1-x=⟨(x.den:Int)-x.num,x.den,x.den_nz,by
  have:=x.reduced;show Nat.Coprime ((x.den:Int)-x.num).natAbs x.den;have h:Int.gcd ((x.den:Int)-x.num) (x.den:Int)=1:=by
   rw[Int.gcd_self_sub_left];exact this
  exact h⟩:=by
 rw[Rat.mk_eq_divInt,<- one_sub (lF x),rd]
def adn(x:Rat):aa (1-x)=.tup [.int ((x.den:Int)-x.num),.int x.den]:=by rw[W9]
def abQ(x:Rat):(1-x).den=x.den:=by rw[W9]
def LDk.sure{a:Nat}{p:Rat}(c:a<m)(b:g0 p):LDk m ⟨0,p,[(a,1)]⟩ :=
 ⟨Nat.zero_lt_succ _,b,U1 rfl,by simp[c],by simp;decide,by simp[Gz];exact Rat.add_zero 1,⟨1,by decide,by decide,by simp⟩,λ_=>⟨_,rfl⟩,(λz=>by cases z),(λz=>by cases z)⟩
def LDk.toss{a b q:Nat}{p x:Rat}(i:a<m)(h:b<m)(g:g0 p)(d:0<=x)(c:0<=1-x)(f:0<q)(e:q<=4000)(hd:x.den ∣ q):LDk m ⟨1,p,[(a,x),(b,1-x)]⟩ :=
 ⟨U1 rfl,g,U1 rfl,by simp[i,h],by simp[d,c],by simp[Gz];grind,⟨q,f,e,by simp[hd,abQ]⟩,(λz=>by cases z),λ_=>⟨_,_,_,rfl⟩,(λz=>by cases z)⟩
def T6(h:0<n):(mkRat 1 n).den=n:=by
 have e:=Z5 h;injection e with e;injection e with _ e;injection e with e _;injection e with e;lia
def LDk.even{p:Rat}{h:wb}(c:0<h.length)(d:h.length<=4)(e:∀r∈h,r<m)(f:g0 p):LDk m ⟨2,p,h.map λr=>(r,mkRat 1 h.length)⟩:=by
 have nn:(0:Rat)<=mkRat 1 h.length:=by rw[<- Rat.divInt_ofNat];exact js wP (WZ _)
 refine⟨U1 rfl,f,by rw[ak];exact d,λx b=>?_,λx b=>?_,?_,⟨h.length,c,by exact aL d wP,λx b=>?_⟩,(λz=>by cases z),(λz=>by cases z),λ_=>⟨h,rfl⟩⟩
 .obtain⟨r,a,rfl⟩:=YV.mp b;exact e r a
 .obtain⟨r,a,rfl⟩:=YV.mp b;exact nn
 .rw[WG,show((λx:Nat×Rat=>x.2) ∘ λr=>(r,mkRat 1 h.length))=λ_=>mkRat 1 h.length from rfl,map_const',XR c,_q c]
 .obtain⟨r,a,rfl⟩:=YV.mp b;rw[T6 c];exact Nat.dvd_refl _
def LDk.mix{p:Rat}{h:wb}{v:xo}(j:v.length<=4)(g:∀r∈h,r<m)(hw:∀w∈v,0<=w)(le:v.length<=h.length)(s0:0<v.sum)(s1:v.sum<=4000)(i:g0 p):LDk m ⟨3,p,(h.zip v).map λx=>(x.1,divInt x.2 v.sum)⟩:=by
 have f:(h.zip v).map (λx=>x.2)=v:=List.map_snd_zip le;refine⟨U1 rfl,i,by rw[ak,VU];lia,λx d=>?_,λx d=>?_,?_,⟨v.sum.toNat,by lia,by lia,λx d=>?_⟩,(λz=>by cases z),(λz=>by cases z),(λz=>by cases z)⟩
 .obtain⟨r,c,rfl⟩:=YV.mp d;exact g _ (UT c).1
 .obtain⟨r,c,rfl⟩:=YV.mp d;exact js (hw _ (UT c).2) (XY s0)
 .rw[WG,show((λx:Nat×Rat=>x.2) ∘ λx:Nat×Int=>(x.1,divInt x.2 v.sum))=(λw=>divInt w v.sum) ∘ λx:Nat×Int=>x.2 from rfl,<- WG,f,IS (WP s0)];have e:=one_sub (a:=v.sum) (b:=v.sum) (WP s0);rw[Int.sub_self,JS]at e
  grind
 .obtain⟨r,c,rfl⟩:=YV.mp d;exact Vq s0
theorem GE:∀{v:xo},(∀w∈v,0<=w)->0<=v.sum
 |[],_=>by decide
 |w::v,h=>by
  have:=h w (aO ..);have:=GE (v:=v) λx a=>h x (aJ _ a);rw[sum_cons];lia
theorem F0{b:Int} : ∀{v:xo},(∀w∈v,w<=b)->v.sum<=b*v.length
 |[],_=>by simp
 |w::v,h=>by
  have:=h w (aO ..);have:=F0 (v:=v) λx a=>h x (aJ _ a);rw[sum_cons,length_cons];have:b*((v.length+1:Nat):Int)=b*v.length+b:=by grind
  lia
def aa4:ST:=λa q=>∃(c:Int)(m:Nat),a=[.int c,.int (m:Nat)]/\0<m/\m<=1000/\∀(r:Nat)(d:LD),r<m->LDk m d->q (.fz (.tup [.int (r:Nat),bb d]))
def _v(T:Tx D):gT 4 RW DP aa4:=ya T.akY λ{f U}F=>by
 refine F.okT UL (λG _=>bF (bT 2 (bI (gb T) (bx vx (bx bA bC))))
  (bF (bT 3 (dZ (bH CT) uZ uZ ["_law_x"] (cL (ju vy (g_ bA) (g_ bA))) (fZ (i:=0)) cI (bL cF vx vy)))
  (bF (bT 4 (bL cF (bJ vy bA) bA))
  (bF (bT 5 (eH.out (pK (bU (fH (bU (Ht (bJ vc bA)) (bU (fH (bU eG (bU eG dH))) dH))) dH))))
  (bF (cB (bW (z5 G.units) vt bA)
  (bF (bT 6 (bL cW bA (bL cF (bJ vy bA) bA)))
  (bF (bT 7 (bI (i' T) (bx (bL cF (bJ vy bA) (bL cW (qv 6) bA)) (bx (qv 6) bC))))
  (bG (bT 5 (eH.out (pK (bU (fH (bU (Ht (bJ vc bA)) (bU (QB 7) dH))) (bU (fH (bU (Ht (bJ vc bA)) (bU (fH (bU (Sq tO (Ht (bJ (qv 7) bA)) (Ht (bJ (qv 7) bA))) (bU (Ht (bJ (qv 7) bA)) dH))) dH))) dH))))))))
  bQ)
  (bF (cB (bW (z5 G.units) vt bA)
  (bF (bT 3 (ju vc Bm (g_ (bL cW bA (bL cF (bJ vy bA) bA)))))
  (bG (vh (bH CT) uZ uZ ["_law_room"] (cL vc) (fZ (i:=0)) cI (dU (bx vx (bx (dU (bx bA (bx (bN cG T.cX WJ (bx vt bC)) bC))) bC))) (gJ (i:=5) UL.nd rfl (Or.inl rfl)))))
  bQ)
  (bF (cB (bW (z5 G.units) vt bA)
  (bF (iY 8 (dZ (bH CT) uZ uZ ["_law_x"] (cL (ju vy (g_ bA) (g_ (bL cW bA (bL cF (bJ vy bA) bA))))) (fZ (i:=0)) cI (bL cF vx (bJ (dJ (bx bA (bx bA (bx bA (bx bA bC))))) (bL cF (bJ vc bA) bA)))))
  (bF (yj 8 (bL cW (vq 8 (wu bA)) bA) (wu bA))
  (bG (Hi 8 (vh (bH CT) uZ uZ ["_law_k"] (d7 T.fK (bx (bN cG T.cX WJ (bx (qv 8) bC)) bC)) (fZ (i:=0)) cI (dU (bx (bJ vt vx) (bx (bI (i' T) (bx (bJ (qv 9) vx) (bx (bN (ZP rfl) T.aew boot_sum (bx (qv 9) bC)) bC))) bC))) (gJ (i:=5) UL.nd rfl (Or.inl rfl)))))))
  bQ)
  (bG (bM (dU (bx (bL cF (bJ vy bA) vw) (bx (dU (bx vt (bx (bI (RY T) (bx vx (bx (bJ vy bA) (bx (bJ vy bA) bC)))) (bx vn bC)))) bC)))))))))))) ?_
 rintro _ R ⟨c,m,rfl,m0,m1,q⟩;have S:(0:Int)<(m:Nat):=by lia
 have B:∀k,0<=z3 c k/\z3 c k<2000000000:=jW c;obtain⟨s,K,P⟩ : ∃s:Nat->Nat,(∀k,s k<m)/\∀k,z3 c k%(m:Nat)=(s k:Nat):=⟨λk=>(z3 c k%(m:Nat)).toNat,λk=>by
  have:=YY (z3 c k) S;have:=Z3 (z3 c k) (show((m:Nat):Int)≠0 by exact WP S);show(z3 c k%(m:Nat)).toNat<m;lia,λk=>by
  have:=Z3 (z3 c k) (show((m:Nat):Int)≠0 by exact WP S);show _=((z3 c k%(m:Nat)).toNat:Int);lia⟩
 obtain⟨A,eso,hso⟩ : ∃A:Nat,z3 c 6%4=(A:Nat)/\A<4:=⟨(z3 c 6%4).toNat,by have:=B 6;lia,by have:=B 6;lia⟩;refine KT (λo=>∃(x3 x6 W Z:OT)(C:xj),o=[.fz (.int c),.fz (.int (m:Nat)),.fz (.lst ((lH c 14).map L2.T.int)),x3,.fz (.int (A:Nat)),.fz (.lst (C.map dv)),x6,W,Z]/\∀l,g0 l->LDk m ⟨A,l,C⟩) ?_ λY X=>?_
 .rintro _ ⟨x3,x6,W,Z,C,rfl,y⟩;refine⟨_,dW (k:=13),S,_,dW (k:=0),_,dW (k:=1),c,_,_,rfl,B 0,B 1,λl E=>?_⟩;have:=q (s 13) ⟨A,l,C⟩ (K 13) (y l E);rw[<- P]at this;exact this
 .refine⟨c,14,rfl,by decide,?_⟩;have ec:gD ((lH c 14).map L2.T.int) (some 2) (some 6)=[2,3,4,5].map (λk=>L2.T.int (z3 c k)):=rfl;show(gD ((lH c 14).map L2.T.int) (some 2) (some 6)).length<=sizeLine/\jL _ _ _ _ (gD ((lH c 14).map L2.T.int) (some 2) (some 6)) _;rw[ec];refine⟨show 4<=sizeLine by decide,comp_map (λk=>L2.T.int (z3 c k)) (λk=>.int (s k:Nat)) [2,3,4,5] (λk _ N M H=>⟨S,by rwa[P]⟩) ⟨_,dW (k:=6),by decide,?_⟩⟩;dsimp only[frz];rw[eso];refine⟨_,rfl,?_⟩;obtain rfl|rfl|rfl|rfl:A=0\/A=1\/A=2\/A=3:=by lia
  .exact X _ ⟨_,_,_,_,[(s 2,1)],rfl,λl E=>.sure (K 2) E⟩
  .have Z:=B 8;have x9:=B 9;refine⟨_,dW (k:=8),by decide,_,dW (k:=9),by lia,_,_,rfl,by lia,ig wE,_,rfl,_,rfl,?_⟩;obtain⟨b,eb,V,b1⟩ : ∃b:Int,1+z3 c 8%6=b/\0<b/\b<=6:=⟨_,rfl,by lia,by lia⟩;rw[eb];have a0:=Z3 (z3 c 9) (show b+1≠0 by lia);have a1:=YY (z3 c 9) (show 0<b+1 by exact Int.lt_trans V (Int.lt_succ _));generalize z3 c 9%(b+1)=a at a0 a1 ⊢;have nn:0<=divInt a b:=js a0 (XY V);have l1:0<=1-divInt a b:=by rw[one_sub (WP V)];exact js (by omega) (XY V)
   have dd:=Vq (a:=a) V;generalize divInt a b=x at nn l1 dd ⊢;refine X _ ⟨.fz (.lst ([2,3,4,5].map λk=>L2.T.int (s k:Nat))),.fz (.int b),.fz (aa x),.und,[(s 2,x),(s 3,1-x)],?_,λl E=>.toss (K 2) (K 3) E nn l1 (show 0<b.toNat by lia) wE dd⟩;rw[show[(s 2,x),(s 3,1-x)].map dv=[.tup [.int (s 2:Nat),aa x],.tup [.int (s 3:Nat),aa (1-x)]]from rfl,adn]
   rfl
  .have W:=B 7;obtain⟨n,en,n0,J⟩ : ∃n:Nat,1+z3 c 7%4=(n:Nat)/\0<n/\n<=4:=⟨(1+z3 c 7%4).toNat,by lia,by lia,by lia⟩;refine⟨_,dW (k:=7),by decide,?_⟩;show(gD ([2,3,4,5].map λk=>L2.T.int (s k:Nat)) none (some (1+z3 c 7%4))).length<=sizeLine/\jL _ _ _ _ (gD ([2,3,4,5].map λk=>L2.T.int (s k:Nat)) none (some (1+z3 c 7%4))) _;have ua:gD ([2,3,4,5].map λk=>L2.T.int (s k:Nat)) none (some (1+z3 c 7%4))=(([2,3,4,5].map s).take n).map λr:Nat=>L2.T.int (r:Nat):=by
    rw[en,agQ,map_take,WG]
    rfl
   have rl:(([2,3,4,5].map s).take n).length=n:=by rw[aY];show min n 4=n;lia
   have Q:∀r∈([2,3,4,5].map s).take n,r<m:=λr G=>by
    obtain⟨k,_,rfl⟩:=YV.mp (List.mem_of_mem_take G);exact K k
   rw[ua];generalize([2,3,4,5].map s).take n=h at rl Q ⊢;have r0:0<h.length:=by lia
   have e2:(h.map λr=>(r,mkRat 1 h.length)).map dv=h.map λr=>dv (r,mkRat 1 h.length):=by rw[WG];rfl
   refine⟨by rw[ak];exact aL (show _<=4 by exact aL (WH rl) J) wP,comp_map (λr:Nat=>L2.T.int (r:Nat)) (λr=>dv (r,mkRat 1 h.length)) h (λr G N M H=>?_) (X _ ⟨.fz (.lst (h.map λr:Nat=>L2.T.int (r:Nat))),.und,.und,.und,h.map λr=>(r,mkRat 1 h.length),by rw[e2];rfl,λl E=>.even r0 (aL (WH rl) J) Q E⟩)⟩;rw[show dv (r,mkRat 1 h.length)=.tup [.int (r:Nat),aa (mkRat 1 h.length)]from rfl,Z5 r0,<- ak (f:=λr:Nat=>L2.T.int (r:Nat))]at H;exact H
  .have W:=B 7;have x12:=B 12;obtain⟨n,en,n0,J⟩ : ∃n:Nat,9+z3 c 7%4=((8+n:Nat):Int)/\0<n/\n<=4:=⟨(1+z3 c 7%4).toNat,by lia,by lia,by lia⟩;refine⟨_,dW (k:=7),by decide,?_⟩;show(gD ((lH c 14).map L2.T.int) (some 8) (some (9+z3 c 7%4))).length<=sizeLine/\jL _ _ _ _ (gD ((lH c 14).map L2.T.int) (some 8) (some (9+z3 c 7%4))) _;have ec3:gD ((lH c 14).map L2.T.int) (some 8) (some (9+z3 c 7%4))=(((lH c 14).drop 8).take n).map L2.T.int:=by
    rw[en,Ei];have:=JE (p:=lH c 14) (a:=8) (b:=8+n) (X9 _ _) (by rw[ak,W1];lia);rw[show 8+n-8=n by exact QQ _ _]at this;exact ZH (List.map L2.T.int) this
   have ul:(((lH c 14).drop 8).take n).length=n:=by rw[aY,U2,ak,W1];lia
   rw[ec3];generalize((lH c 14).drop 8).take n=t at ul ⊢;obtain⟨d,hd,ed⟩:=GL [3,3,3,1000] L2.T.int (i:=z3 c 12%4) (Z3 _ wP) (by show z3 c 12%4<4;exact YY _ wP);have d0:0<d/\d<=1000:=by simp at hd;lia
   refine⟨by rw[ak];exact aL (show _<=4 by exact aL (WH ul) J) wP,comp_map L2.T.int (λx=>L2.T.int (x%d)) t (λx hx N M H=>⟨_,dW (k:=12),by decide,_,ed,d0.1,H⟩) ?_⟩;have em:t.map (λx=>L2.T.int (x%d))=(t.map (· % d)).map L2.T.int:=by rw[WG];rfl
   rw[em];have wl:(t.map (· % d)).length=n:=by rwa[ak]
   have L:∀w∈t.map (· % d),0<=w/\w<1000:=λw hw=>by
    obtain⟨x,_,rfl⟩:=YV.mp hw;have:=Z3 x (show d≠0 by lia);have:=YY x d0.1;lia
   generalize t.map (· % d)=v at wl L ⊢;obtain⟨u,g,rfl⟩ : ∃u g,v=u++[g]:=by
    rcases List.eq_nil_or_concat v with rfl|⟨u,g,e⟩
    .cases wl;cases n0
    .exact⟨u,g,by rw[e,List.concat_eq_append]⟩
   rw[aA,length_singleton]at wl;have ixl:ck ((u++[g]).map L2.T.int) (-1)=some (.int g):=by
    show dz ((u++[g]).map L2.T.int).reverse 0=_;rw[bf,List.reverse_append]
    rfl
   have ixn:c_ ((u++[g]).map L2.T.int).length (-1)=some u.length:=by
    unfold c_;rw[ak,aA,length_singleton];rw[ZZ wP,ZY wE]
    congr 1
    lia
   refine⟨_,ixl,_,ixn,?_⟩;have es:((u++[g]).map L2.T.int).set u.length (.int (g+1))=(u++[g+1]).map L2.T.int:=by
    rw[bf,bf,List.set_append_right _ _ (by rw[ak];exact aG _),ak,Nat.sub_self]
    rfl
   dsimp only[frz];rw[es];have og:(u++[g+1]).length=n:=by rwa[aA,length_singleton]
   have n9:∀w∈u++[g+1],0<=w/\w<=1000:=λw hw=>by
    rcases Y1.mp hw with z|z
    .have:=L w (UP _ z);lia
    .have:=L g (aP _ (YR.mpr rfl));rw[YR.mp z];lia
   have s0:0<(u++[g+1]).sum:=by
    have:0<=u.sum:=GE λw hw=>(L w (UP _ hw)).1;have:=(L g (aP _ (YR.mpr rfl))).1;rw[List.sum_append];show 0<u.sum+(g+1+0);lia
   have s1:(u++[g+1]).sum<=1000*(u++[g+1]).length:=F0 λw hw=>(n9 w hw).2;generalize u++[g+1]=t at og n9 s0 s1 ⊢;have O:(t.map L2.T.int).length=t.length:=ak ..;have r4:∀k,k<4->([2,3,4,5].map s)[k]?=some (s (k+2)):=λk y=>by
    obtain rfl|rfl|rfl|rfl:k=0\/k=1\/k=2\/k=3:=by lia
    all_goals rfl
   have z:∀k(y:k<t.length),((([2,3,4,5].map s).zip t).map λx=>(x.1,divInt x.2 t.sum))[k]?=some (s (k+2),divInt (t.getD k 0) t.sum):=λk y=>by
    rw[aq,List.getElem?_zip_eq_some (z:=(s (k+2),t.getD k 0)) |>.mpr ⟨r4 k wE,by rw[au,aj y];rfl⟩]
    rfl
   have ep:(range (t.map L2.T.int).length).map (λk=>dv (s (k+2),divInt (t.getD k 0) t.sum))=((([2,3,4,5].map s).zip t).map λx=>(x.1,divInt x.2 t.sum)).map dv:=by
    refine TH λk=>?_;rw[O];by_cases y:k<t.length
    .rw[aq,UV y,aq,z k y]
     rfl
    .rw[aM (by rw[ak,W1];exact VX y),aM (by rw[ak,ak,VU];omega)]
   refine⟨⟨by lia,by lia⟩,by rw[rng,ak,W1];exact aL (show _<=4 by lia) wP,Vl (λk=>dv (s (k+2),divInt (t.getD k 0) t.sum)) (t.map L2.T.int).length (λk y N M H=>?_) (X _ ⟨.fz (.lst ([2,3,4,5].map λk=>L2.T.int (s k:Nat))),.und,.und,.fz (.lst (t.map L2.T.int)),(([2,3,4,5].map s).zip t).map λx=>(x.1,divInt x.2 t.sum),by rw[ep];rfl,λl E=>LDk.mix (h:=[2,3,4,5].map s) (aL (WH og) J) (λr G=>?_) (λw hw=>(n9 w hw).1) (show t.length<=4 by exact aL (WH og) J) s0 wE E⟩)⟩
   .rw[O]at y;have ek:t[k]?=some (t.getD k 0):=by rw[au,aj y];rfl
    have I:=r4 k wE;rw[aq]at I;refine⟨.int (s (k+2):Nat),?_,_,cT ek,t,rfl,_,_,rfl,s0,ig wE,H⟩;show dz _ k=_;rw[o7,aq];cases z2:([2,3,4,5] : wb)[k]? with
    |none=>rw[z2]at I;cases I
    |some j=>rw[z2]at I;injection I with I;show some (L2.T.int (s j:Nat))=_;rw[show s j=s (k+2)from I]
   .obtain⟨k,_,rfl⟩:=YV.mp G;exact K k
structure DSk(m mo:Nat)(ae:xw):Prop where
 len:ae.length=m
 few:∀ds∈ae,ds.length<=mo
 ok:∀ds∈ae,∀d∈ds,LDk m d
abbrev fG(ae:xw):we:=ae.map λds=>ds.map bb
abbrev oY(ae:xw):T:=.lst (ae.map λds=>.lst (ds.map bb))
def _x(a:xw):frz (.l2 (fG a))=oY a:=by
 show L2.T.lst ((a.map λb=>b.map bb).map L2.T.lst)=_;rw[WG]
 rfl
def DSk.add{b:Nat}{f:xw}(h:DSk m b f){a:wp}{d:LD}(e:f[k]?=some a)(lt:a.length<b)(hd:LDk m d):DSk m b (f.set k (a++[d])):=by
 refine⟨by rw[VZ,h.len],λx c=>?_,λx c y g=>?_⟩
 .rcases List.mem_or_eq_of_mem_set c with z|rfl
  .exact h.few x z
  .rw[aA,length_singleton];exact lt
 .rcases List.mem_or_eq_of_mem_set c with z|rfl
  .exact h.ok x z y g
  .rcases Y1.mp g with z|z
   .exact h.ok a (aC e) y z
   .rw[YR.mp z];exact hd
def Y'{a:xw}{r:Nat}{b:wp}(e:a[r]?=some b):ck ((fG a).map L2.T.lst) (r:Nat)=some (.lst (b.map bb)):=by
 show dz ((fG a).map L2.T.lst) r=_;rw[o7,aq,aq,e];rfl
def XS:ST:=λd q=>∃(l:xo)(a m b:Nat),d=[fq l,.int (a:Nat),.int (m:Nat),.int (b:Nat)]/\l.length<=100/\m<=300/\b<=1000/\∀c:xw,DSk m b c->q (.l2 (fG c))
def adC(T:Tx D):gT 5 Ky zj XS:=yB T.aiK Yq (λv _=>bF (HR (bH Kd) IX ["_law_script","_law_at","_law_many","_law_most","_law_rooms_here","_law_first","_law_cells","?_law_k","_law_cell_here","_law_room","_law_door_here"] ["_law_k"] (d7 T.fK (bx vy bC)) (fZ (i:=0)) cI (dJ bC) (gJ (i:=4) Yq.nd rfl (Or.inl rfl)))
  (bF (cB (bW Ir vy bA)
  (bF (bT 5 (bI (eZ T) (bx vx (bx vw bC))))
  (bF (bT 6 (bI (gb T) (bx vn (bx (bL cF (bL cF (bL RZ vn bA) bA) (bL cW (bL cY bA vy) bA)) bC))))
  (bF (bT 6 (bL cW (qv 6) (ju vx (g_ (bL cW vw bA)) (g_ (bL cW vw bA)))))
  (bG (d_ (d7 T.fK (bx (bN cG T.cX WJ (bx (qv 6) bC)) bC)) (b_ (n:=99) 7)
  (bF (bT 8 (bJ (qv 6) (qv 7)))
  (bF (cB (QW.qt (Ve (bW (z5 v.units) (bL cF vn bA) bA) (JX (bW (z5 v.units) (bL cF (qv 7) bA) bA))))
  (bG (bT 8 (bL cF (qv 8) bA)))
  bQ)
  (bF (zZ (bI (_v T) (bx (qv 8) (bx vy bC))) (fL (n:=2) (bV (b_ (n:=99) 9) (bV (b_ (n:=99) 10) dO))))
  (bG (cB (KC 4 (bW rY (bN cG T.cX WJ (bx (bJ vt (qv 9)) bC)) vc))
  (bG (agG 4 (qv 9) (qv 10)))
  bQ))))))))))
  bQ)
  (bG (mX 4))))<|by
 rintro _ R ⟨l,a,m,f,rfl,H,B,I,q⟩;have U:(range m).map (λ_=>([] : List L2.T))=fG (replicate m []):=by
  unfold fG;rw[List.map_replicate,map_const',W1]
  rfl
 have E:DSk m f (replicate m []):=⟨aN,λx u=>by rw[(XV.mp u).2];exact aZ _,λx u y C=>by rw[(XV.mp u).2]at C;cases C⟩;refine⟨⟨by lia,by lia⟩,by rw[rng,ak,W1];exact aL B wP,Yn (λ_=>[]) m (λk w N M L=>L) ?_⟩;rw[U];refine cR (λK=>?_) λK=>q _ E;refine⟨l,a,rfl,H,?_⟩;dsimp only[frz];generalize l.getD a 0=e;have j:(0:Int)<3*(m:Nat)+1:=by lia
 obtain⟨n,Q,V⟩ : ∃n:Nat,e*48271%104729%(3*(m:Nat)+1)=(n:Nat)/\n<=3*m:=⟨(e*48271%104729%(3*(m:Nat)+1)).toNat,by
  have:=Z3 (e*48271%104729) (show(3*(m:Nat)+1:Int)≠0 by exact WP j);lia,by
  have:=YY (e*48271%104729) j;have:=Z3 (e*48271%104729) (show(3*(m:Nat)+1:Int)≠0 by exact WP j);lia⟩
 refine⟨.inr (by constructor<;>decide),by decide,⟨ig wP,ig wE⟩,j,e,n,by rw[Q];rfl,by lia,?_⟩;have S:(lH e n).map L2.T.int++gD (l.map L2.T.int) (some ((a:Nat)+1)) (some ((a:Nat)+25))=(lH e n++gD l (some ((a:Nat)+1)) (some ((a:Nat)+25))).map L2.T.int:=by rw[Ei,bf]
 have W:(gD l (some ((a:Nat)+1)) (some ((a:Nat)+25))).length<=100:=by
  unfold gD;rw[aY,U2];lia
 show((lH e n).map L2.T.int).length+(gD (l.map L2.T.int) (some ((a:Nat)+1)) (some ((a:Nat)+25))).length<=sizeLine/\_;refine⟨?_,?_⟩
 .rw[Ei,ak,ak,ak,W1];exact aL (show _<=1100 by lia) wP
 dsimp only[frz];rw[S];have G:(lH e n++gD l (some ((a:Nat)+1)) (some ((a:Nat)+25))).length<=1100:=by rw[aA,ak,W1];lia
 generalize lH e n++gD l (some ((a:Nat)+1)) (some ((a:Nat)+25))=F at G ⊢;refine⟨⟨by rw[ak];lia,by rw[ak];lia⟩,j7 (λk o=>∃(b:xw)(t s g p:OT),o=[.fz (fq l),.fz (.int (a:Nat)),.fz (.int (m:Nat)),.fz (.int (f:Nat)),.l2 (fG b),.fz (.int e),.fz (.lst (F.map L2.T.int)),t,s,g,p]/\DSk m f b) ⟨_,_,_,_,_,rfl,E⟩ ?_ ?_⟩
 .rintro k _ w ⟨b,t,s,g,p,rfl,h⟩;rw[ak]at w;dsimp only[hName];refine rm (λo=>∃c:Int,o=[.fz (fq l),.fz (.int (a:Nat)),.fz (.int (m:Nat)),.fz (.int (f:Nat)),.l2 (fG b),.fz (.int e),.fz (.lst (F.map L2.T.int)),.fz (.int (k:Nat)),.fz (.int c),g,p]) ?_ λY z=>?_
  .rintro _ ⟨c,rfl⟩;refine⟨c,m,rfl,by lia,by exact aL B wP,λr d v hd=>⟨rfl,?_⟩⟩;have J:r<b.length:=by rwa[h.len]
   have A:=aj J;refine⟨_,Y' A,cR (λlt=>?_) λ_=>⟨b,.fz (.int (k:Nat)),.fz (.int c),.fz (.int (r:Nat)),.fz (bb d),rfl,h⟩⟩;have lt:((b[r].map bb).length:Int)<(f:Nat):=lt;rw[ak]at lt;refine⟨r,b[r].map bb,?_,by rw[aq,A];rfl,by rw[ak];exact aR (show _<1001 by lia) wP,b.set r (b[r]++[d]),.fz (.int (k:Nat)),.fz (.int c),.fz (.int (r:Nat)),.fz (bb d),?_,h.add A wE hd⟩
   .unfold c_;rw[ak,ZY (WZ _),ZY wE]
    rfl
   .rw[show fG (b.set r (b[r]++[d]))=(fG b).set r (b[r].map bb++[bb d])by
     unfold fG;rw[map_set,bf]
     rfl]
    rfl
  .refine⟨_,cT (aj w),by decide,cR (λP=>⟨by decide,cR (λO=>⟨by decide,z _ ⟨_,rfl⟩⟩) λO=>z _ ⟨_,rfl⟩⟩) λP=>z _ ⟨_,rfl⟩⟩
 .rintro _ ⟨b,t,s,g,p,rfl,h⟩;exact q b h
def D_(v:xj)(p:Nat×Rat):xj:=if(v.any λx=>decide (x.1=p.1))=true then v.map (λx=>if x.1=p.1 then(x.1,x.2+p.2)else x)else v++[p]
def DN(u:xj):xj:=u.foldl D_ []
def yJ(u:xj):xj:=(DN u).filter λp=>!decide (p.2=0)
abbrev bp(l:Φ)(p:Nat×Rat):Str×Rat:=(l.getD p.1 ⟨#[]⟩,p.2)
def RN(d:l.Nodup)(c:i<l.length)(b:j<l.length):(l.getD i ⟨#[]⟩=l.getD j ⟨#[]⟩)↔i=j:=by
 constructor
 .intro h;rw[au,au,aj c,aj b]at h;rcases Nat.lt_trichotomy i j with a|a|a
  .exact absurd h ((List.pairwise_iff_getElem.mp d) i j c b a)
  .exact a
  .exact absurd h.symm ((List.pairwise_iff_getElem.mp d) j i b c a)
 .intro h;rw[h]
def Uc(b:l.Nodup){p:Nat×Rat}(c:∀w∈v,w.1<l.length)(d:p.1<l.length):ce (v.map (bp l)) (bp l p)=(D_ v p).map (bp l):=by
 have f:((v.map (bp l)).any λx=>decide (x.1=(bp l p).1))=v.any λx=>decide (x.1=p.1):=by
  rw[any_map];refine Bool.eq_iff_iff.mpr ⟨λh=>?_,λh=>?_⟩
  .obtain⟨x,a,e⟩:=List.any_eq_true.mp h;exact List.any_eq_true.mpr ⟨x,a,Zs ((RN b (c x a) d).mp (of_decide_eq_true e))⟩
  .obtain⟨x,a,e⟩:=List.any_eq_true.mp h;exact List.any_eq_true.mpr ⟨x,a,Zs ((RN b (c x a) d).mpr (of_decide_eq_true e))⟩
 unfold ce D_;rw[f];split
 .rw[WG,WG];refine Tu λx a=>?_;show(if(bp l x).1=(bp l p).1 then _ else _)=bp l (if x.1=p.1 then _ else _);by_cases e:x.1=p.1
  .rw[ZY e,ZY ((RN b (c x a) d).mpr e)]
  .rw[ZZ e,ZZ λz=>e ((RN b (c x a) d).mp z)]
 .rw[bf];rfl
def JN{p w:Nat×Rat}(h:w∈D_ v p):(w∈v/\w.1≠p.1)\/w=p\/∃x∈v,x.1=p.1/\w=(x.1,x.2+p.2):=by
 unfold D_ at h;split at h
 .obtain⟨x,a,rfl⟩:=YV.mp h;by_cases e:x.1=p.1
  .rw[ZY e];exact .inr (.inr ⟨x,a,e,rfl⟩)
  .rw[ZZ e];exact .inl ⟨a,e⟩
 .rename_i n
  rcases Y1.mp h with z|z
  .exact .inl ⟨z,λe=>n (List.any_eq_true.mpr ⟨w,z,Zs e⟩)⟩
  .exact .inr (.inl (YR.mp z))
def HL(c:l.Nodup)(h:∀p∈u,p.1<l.length):kZ (u.map (bp l))=(DN u).map (bp l):=by
 suffices H:∀(u v:xj),(∀p∈u,p.1<l.length)->(∀w∈v,w.1<l.length)->(u.map (bp l)).foldl ce (v.map (bp l))=(u.foldl D_ v).map (bp l)from H u [] h λ_ z=>(nomatch z)
 intro u
 induction u with
 |nil=>exact λ_ _ _=>rfl
 |cons p u d =>
  intro v b a;rw[map_cons,foldl_cons,foldl_cons,Uc c a (b p (aO ..))];refine d _ (λq f=>b q (aJ _ f)) λw g=>?_;rcases JN g with⟨z,_⟩|rfl|⟨x,e,_,rfl⟩
  .exact a w z
  .exact b w (aO ..)
  .exact a x e
def _M(a:l.Nodup)(h:∀p∈u,p.1<l.length):EY (u.map (bp l))=(yJ u).map (bp l):=by
 unfold EY yJ;rw[HL a h,List.filter_map]
 rfl
def uW{q:Nat}(c:0<q):r.den ∣ q↔∃x:Int,r=divInt x q:=by
 constructor
 .rintro⟨k,rfl⟩;refine⟨r.num*k,?_⟩;have d:((k:Nat):Int)≠0:=λz=>by rw[show k=0 by lia]at c;lia
  conv=>lhs;rw[<- rd r]
  refine(Q1 (lF r) (by push_cast;exact nG (lF r) d)).mpr ?_
  push_cast
  grind
 .rintro⟨x,rfl⟩;have:=Vq (a:=x) (b:=(q:Nat)) wE;exact this
def LC{a b:Rat}{q:Nat}(d:0<q)(f:a.den ∣ q)(e:b.den ∣ q):(a+b).den ∣ q:=by
 obtain⟨x,rfl⟩:=(uW d).mp f;obtain⟨y,rfl⟩:=(uW d).mp e;have c:((q:Nat):Int)≠0:=by lia
 refine(uW d).mpr ⟨x+y,?_⟩;rw[JU _ _ c c];refine(Q1 (nG c c) c).mpr ?_
 grind
def gv{a b:Rat}{q r:Nat}(d:0<q)(c:0<r)(f:a.den ∣ q)(e:b.den ∣ r):(a*b).den ∣ q*r:=by
 obtain⟨x,rfl⟩:=(uW d).mp f;obtain⟨y,rfl⟩:=(uW c).mp e;refine(uW (QY d c)).mpr ⟨x*y,?_⟩;rw[Q2]
 push_cast
 rfl
theorem _E{a:Rat} : (-a).den=a.den:=rfl
structure iL(m q:Nat)(as v:xj):Prop where
 nd:(v.map (·.1)).Nodup
 lt:∀w∈v,w.1<m
 nn:∀w∈v,0<=w.2
 dn:∀w∈v,w.2.den ∣ q
 sum:∀y:Nat->Rat,dw v y=dw as y
 few:v.length<=as.length
def Lj(b c:xj)(y:Nat->Rat):dw (b++c) y=dw b y+dw c y:=by
 induction b with
 |nil=>show dw c y=0+_;rw[Rat.zero_add]
 |cons a b d=>rw[cons_append,dX,dX,d,Rat.add_assoc]
def YZ(p:Nat×Rat)(y:Nat->Rat):dw [p] y=p.2*y p.1:=by rw[dX];show _+0=_;rw[Rat.add_zero]
def UB{p:Nat×Rat}(a:(v.map (·.1)).Nodup)(y:Nat->Rat):dw (D_ v p) y=dw v y+p.2*y p.1:=by
 unfold D_;split
 .rename_i h
  induction v with
  |nil=>cases h
  |cons x v d =>
   obtain⟨c,b⟩:=List.nodup_cons.mp a;rw[map_cons,dX,dX];by_cases e:x.1=p.1
   .rw[ZY e];have rest:v.map (λx=>if x.1=p.1 then(x.1,x.2+p.2)else x)=v:=by
     conv=>rhs;rw[<- List.map_id v]
     refine Tu λz f=>?_;rw[ZZ λw=>c (YV.mpr ⟨z,f,w.trans e.symm⟩)]
     rfl
    rw[rest,<- e];show(x.2+p.2)*y x.1+dw v y=_
    grind
   .rw[ZZ e,d b (by
     rw[any_cons,Zp e,Bool.false_or]at h;exact h)]
    grind
 .rw[Lj,YZ]
def VE{p:Nat×Rat}(a:(v.map (·.1)).Nodup):((D_ v p).map (·.1)).Nodup:=HP a
def _l{q:Nat}(e:0<q){d:xj}{p:Nat×Rat}(c:p.1<m/\0<=p.2/\p.2.den ∣ q)(h:iL m q d v):iL m q (d++[p]) (D_ v p):=by
 refine⟨VE h.nd,λw b=>?_,λw b=>?_,λw b=>?_,λy=>by rw[UB h.nd,h.sum,Lj,YZ],?_⟩
 .rcases JN b with⟨z,_⟩|rfl|⟨x,a,_,rfl⟩
  .exact h.lt w z
  .exact c.1
  .exact h.lt x a
 .rcases JN b with⟨z,_⟩|rfl|⟨x,a,_,rfl⟩
  .exact h.nn w z
  .exact c.2.1
  .have:=h.nn x a;have:=c.2.1;show 0<=x.2+p.2
   grind
 .rcases JN b with⟨z,_⟩|rfl|⟨x,a,_,rfl⟩
  .exact h.dn w z
  .exact c.2.2
  .exact LC e (h.dn x a) c.2.2
 .have:=h.few;unfold D_;split
  .rw[ak,aA];exact aL this (X9 _ _)
  .rw[aA,aA];simp;omega
def Qu{q:Nat}(e:0<q):∀{u:xj},(∀p∈u,p.1<m/\0<=p.2/\p.2.den ∣ q)->iL m q u (DN u):=by
 intro u h
 suffices H:∀(u a v:xj),(∀p∈u,p.1<m/\0<=p.2/\p.2.den ∣ q)->iL m q a v->iL m q (a++u) (u.foldl D_ v)from H u [] [] h ⟨.nil,λ_ z=>(nomatch z),λ_ z=>(nomatch z),λ_ z=>(nomatch z),λ_=>rfl,aG _⟩
 intro u
 induction u with
 |nil=>intro a v _ h;rwa[append_nil]
 |cons p u c =>
  intro a v b h;have:=c (a++[p]) (D_ v p) (λx d=>b x (aJ _ d)) (_l e (b p (aO ..)) h);rw[WV]at this;exact this
theorem G8(y:Nat->Rat):∀v:xj,dw (v.filter λp=>!decide (p.2=0)) y=dw v y
 |[]=>rfl
 |w::v=>by
  by_cases e:w.2=0
  .rw[List.filter_cons_of_neg (by rw[Zs e];decide),G8 y v,dX,e,Rat.zero_mul,Rat.zero_add]
  .rw[List.filter_cons_of_pos (by rw[Zp e];rfl),dX,dX,G8 y v]
def JH{q:Nat}(b:0<q)(h:∀p∈u,p.1<m/\0<=p.2/\p.2.den ∣ q):iL m q u (yJ u):=by
 have j:=Qu b h;have sub:∀w∈yJ u,w∈DN u:=λw a=>(List.mem_filter.mp a).1;refine⟨(List.filter_sublist.map _).nodup j.nd,λw a=>j.lt w (sub w a),λw a=>j.nn w (sub w a),λw a=>j.dn w (sub w a),λy=>?_,aL (List.length_filter_le ..) j.few⟩;unfold yJ;rw[G8,j.sum]
theorem uy{w:Nat×Rat} : ∀{v:xj},(∀w∈v,0<=w.2)->w∈v->w.2<=dw v λ_=>1
 |[],_,h=>by cases h
 |x::v,a,h=>by
  rw[dX];have b:∀v:xj,(∀w∈v,0<=w.2)->0<=dw v λ_=>1:=λv=>by
   induction v with
   |nil=>intro _;exact UX
   |cons y v c =>
    intro h;rw[dX];have:=h y (aO ..);have:=c λw hw=>h w (aJ _ hw)
    grind
  rcases YU.mp h with rfl|z
  .have:=b v λw hw=>a w (aJ _ hw)
   grind
  .have:=uy (v:=v) (λw hw=>a w (aJ _ hw)) z;have:=a x (aO ..)
   grind
theorem DW:∀u:xj,(dw u λ_=>1)=Gz (u.map (·.2))
 |[]=>rfl
 |p::u=>by
  rw[dX,DW u,Rat.mul_one]
  rfl
def LDk.all{d:LD}(h:LDk m d):∃q:Nat,0<q/\q<=4000/\∀p∈d.prs,p.1<m/\0<=p.2/\p.2.den ∣ q:=by
 obtain⟨q,c,b,e⟩:=h.dn;exact⟨q,c,b,λp a=>⟨h.lt p a,h.nn p a,e p a⟩⟩
def oI{q:Nat}(a:0<q)(d:q<=4000)(c:0<=r)(b:r<=1)(hd:r.den ∣ q):Ch r:=⟨c,b,ig (by have:=UR a hd;lia)⟩
def LDk.prsOk{d:LD}(h:LDk m d)(A:iJ l m):l3 (d.prs.map (bp l)):=by
 obtain⟨q,f,i,s⟩:=h.all;have k:∀p∈d.prs,p.2<=1:=λp b=>by
  rw[<- h.one,<- DW];exact uy h.nn b
 have few:=h.few;have E:(d.prs.map (bp l)).map (·.2)=d.prs.map (·.2):=by rw[WG];rfl
 refine⟨by rw[ak];exact aL few wP,λp b=>?_,?_,by rw[E];exact h.one,λU a T e=>?_⟩
 .obtain⟨x,z,rfl⟩:=YV.mp b;obtain⟨R,I,H⟩:=s x z;have F:x.1<l.length:=by rwa[A.len]
  refine⟨A.wd _ ?_,oI f i I (k x z) H⟩;show l.getD x.1 ⟨#[]⟩∈l;rw[au,aj F];exact aU F
 .rw[E];have:=rK (d.prs.map (·.2)) (n:=1) (m:=q) (Qr _) λr N=>by
   obtain⟨x,z,rfl⟩:=YV.mp N;exact(s x z).2.2
  have:=UR f this;exact ig wE
 .obtain⟨g,Q,t,rfl,O⟩:=List.map_eq_append_iff.mp e;obtain⟨c,D,rfl,rfl,rfl⟩:=List.map_eq_cons_iff.mp O;have sub:∀p∈g,p∈d.prs:=λp b=>t ▸ UP _ b;have B:=s c (t ▸ aP _ (aO ..));have P:Ch c.2:=oI f i B.2.1 (k c (t ▸ aP _ (aO ..))) B.2.2;have j:=Qu f (u:=g) (m:=m) λp b=>s p (sub p b);rw[HL A.nd λp b=>by rw[A.len];exact(s p (sub p b)).1];have G:Ch (Dq ((DN g).map (bp l)) (bp l c).1):=by
   unfold Dq;cases C:((DN g).map (bp l)).find? λx=>decide (x.1=(bp l c).1)with
   |none=>exact⟨UX,by show(0:Rat)<=1;decide,ig wP⟩
   |some x =>
    obtain⟨y,o,rfl⟩:=YV.mp (List.mem_of_find?_eq_some C);refine oI f i (j.nn y o) ?_ (j.dn y o);have L:=uy j.nn o;rw[j.sum]at L;have K:=h.one;rw[<- DW,t,Lj]at K;have S:0<=dw (c::D) λ_=>1:=by
     have:∀v:xj,(∀w∈v,0<=w.2)->0<=dw v λ_=>1:=λv=>by
      induction v with
      |nil=>intro _;exact UX
      |cons y v M =>
       intro h;rw[dX];have:=h y (aO ..);have:=M λw hw=>h w (aJ _ hw)
       grind
     exact this _ λw hw=>h.nn w (t ▸ aP _ hw)
    show y.2<=1
    grind
  refine⟨G.bq,P.bq,?_⟩;have:=G.2.2;have:=UR f B.2.2;have J:(Dq ((DN g).map (bp l)) (bp l c).1).den<=4000:=by
   unfold Dq;cases C:((DN g).map (bp l)).find? λx=>decide (x.1=(bp l c).1)with
   |none=>exact U1 rfl
   |some x =>
    obtain⟨y,o,rfl⟩:=YV.mp (List.mem_of_find?_eq_some C);have:=UR f (j.dn y o);exact aL this i
  refine ig ?_;rw[VW,X0,X0];exact Y3 (VY J (show c.2.den<=4000 by exact aL this i)) wP
def df(D:be):Nat->Addr
 |0=>D.Sure
 |1=>D.Toss
 |2=>D.Even
 |_=>D.Mixed
abbrev iz(t:Str)(d:LD):bO:=⟨t,d.pay,yJ d.prs⟩
abbrev Ab(D:be)(t:Str)(d:LD):Made:=⟨df D d.sort,iz t d⟩
def aeC(D:be):∀k,d9 D (df D k)
 |0=>by unfold d9 df;simp
 |1=>by unfold d9 df;simp
 |2=>by unfold d9 df;simp
 |_+3=>by unfold d9 df;simp
def Yk(D:be):ST:=λa q=>∃(t:Str)(d:LD)(l:Φ)(m:Nat),a=[.str t,bb d,.lst (l.map T.str)]/\Wd t/\iJ l m/\LDk m d/\q (.fz (eW l (Ab D t d)))
theorem adk(T:Tx D):gT 8 LR z9 (Yk D):=yB T.aiL Xl (λy _=>bF (zZ vw (fL (n:=3) (bV (b_ (n:=99) 4) (bV (b_ (n:=99) 5) (bV (b_ (n:=99) 6) dO)))))
  (bF (vh (bH Eh) Eb Eb ["_law_room","_law_chance"] (cL (qv 6)) (fL (n:=2) (bV (fZ (i:=0)) (bV (fZ (i:=1)) dO))) cI (dU (bx (bJ vt vx) (bx vw bC))) (gJ (i:=3) Xl.nd rfl (Or.inl rfl)))
  (bF (cB (bW (z5 y.units) vt bA)
  (bG (bM (Fo T.ahh (Uv T) T.akl (bx vx (bx vn (bx (bJ (bJ vc bA) bA) bC))))))
  bQ)
  (bF (cB (bW (z5 y.units) vt bA)
  (bG (bM (Fo T.ags (U4 T) T.aly (bx vx (bx vn (bx (bJ (bJ vc bA) bA) (bx (bJ (bJ vc bA) bA) (bx (bJ (bJ vc bA) bA) bC))))))))
  bQ)
  (bF (cB (bW (z5 y.units) vt bA)
  (bG (bM (Fo T.ahL (Q0 T) T.alF (bx vx (bx vn (bx (dZ (bH Eh) Eb Eb ["_law_room","_law_chance"] (cL vc) (fL (n:=2) (bV (fZ (i:=0)) (bV (fZ (i:=1)) dO))) cI vx) bC))))))
  bQ)
  (bG (bM (Fo T.ae1 (Oj T) T.Sw (bx vx (bx vn (bx vc bC)))))))))))<|by
 rintro _ R ⟨t,d,l,m,rfl,s,v,hd,q⟩;have o:=hd.few;have G:∀p∈d.prs,ck (l.map L2.T.str) (p.1:Nat)=some (.str (bp l p).1):=λp f=>by
  have A:p.1<l.length:=by rw[v.len];exact hd.lt p f
  exact cT (by rw[aj A];show _=some (l.getD p.1 ⟨#[]⟩);rw[au,aj A];rfl)
 have H:(d.prs.map (bp l)).map cw=d.prs.map λp=>cw (bp l p):=by rw[WG];rfl
 have k:=hd.prsOk v;have w:=_M v.nd (u:=d.prs) λp f=>by rw[v.len];exact hd.lt p f
 refine⟨rfl,by rw[ak];exact aL o wP,comp_map dv (λp=>cw (bp l p)) d.prs (λp f N M z=>⟨rfl,_,G p f,z⟩) ?_⟩;rw[<- H];obtain⟨g,c,j⟩:=d;have K:g<4:=hd.sort;have F:=hd.s0;have E:=hd.s1;have C:=hd.s2;dsimp only at *;obtain rfl|rfl|rfl|rfl:g=0\/g=1\/g=2\/g=3:=by lia
 .obtain⟨a,rfl⟩:=F rfl;have J:yJ [(a,1)]=[(a,1)]:=by simp[yJ,DN,D_]
  have e:R (.fz (gL D.Sure t c ([(a,1)].map (bp l)))):=by rw[<- J];exact q
  exact⟨_,rfl,t,_,c,rfl,rfl,afR D,rfl,s,(k.ok (bp l (a,1)) (YR.mpr rfl)).1,e⟩
 .obtain⟨a,b,x,rfl⟩:=E rfl;have e:R (.fz (gL D.Toss t c (EY ([(a,x),(b,1-x)].map (bp l))))):=by rw[w];exact q
  exact⟨_,rfl,_,rfl,_,rfl,t,_,_,c,x,rfl,rfl,aeX D,rfl,s,(k.ok (bp l (a,x)) (aO ..)).2,k,e⟩
 .obtain⟨h,rfl⟩:=C rfl;have e:R (.fz (gL D.Even t c (EY ((h.map λr=>(r,mkRat 1 h.length)).map (bp l))))):=by rw[w];exact q
  have B:even (((h.map λr=>(r,mkRat 1 h.length)).map (bp l)).map (·.1))=(h.map λr=>(r,mkRat 1 h.length)).map (bp l):=by
   have I:(((h.map λr=>(r,mkRat 1 h.length)).map (bp l)).map (·.1)).length=h.length:=by simp
   unfold even;rw[I];simp[Function.comp_def]
  refine⟨by rw[ak,ak];exact aL o wP,comp_map cw (λp=>.str p.1) ((h.map λr=>(r,mkRat 1 h.length)).map (bp l)) (λp f N M z=>⟨rfl,z⟩) ⟨t,c,((h.map λr=>(r,mkRat 1 h.length)).map (bp l)).map (·.1),rfl,rfl,af7 D,?_,s,by rw[B];exact k,?_⟩⟩
  .rw[show(((h.map λr=>(r,mkRat 1 h.length)).map (bp l)).map (·.1)).map L2.T.str=((h.map λr=>(r,mkRat 1 h.length)).map (bp l)).map λp=>L2.T.str p.1 from WG]
   rfl
  .rw[B];exact e
 .have e:R (.fz (gL D.Mixed t c (EY (j.map (bp l))))):=by rw[w];exact q
  exact⟨t,c,j.map (bp l),rfl,rfl,acu D,rfl,s,k,e⟩
structure sI(ae:xw)(off:xz):Prop where
 len:off.length=ae.length
 at_:∀(k:Nat)ds os,ae[k]?=some ds->off[k]?=some os->∃tl:Φ,tl.length=ds.length/\os=(tl.zip ds).map λp=>iz p.1 p.2
theorem WY{J c:Type} : ∀{G:List J}{p:List c}{x:J}(y:c),G[p.length]?=some x->G.zip (p++[y])=G.zip p++[(x,y)]
 |[],p,_,_,e=>by cases e
 |a::G,[],x,y,e=>by cases e;simp
 |a::G,b::p,x,y,e=>by
  rw[cons_append,zip_cons_cons,zip_cons_cons,WY (G:=G) (p:=p) y (by simpa using e)]
  rfl
theorem Wa{J b:Type}(f:J->T)(g:b->T):∀(G:List J)(p:List b),K8 (G.map f) (p.map g)=(G.zip p).map λa=>.tup [f a.1,g a.2]
 |[],p=>by cases p<;>rfl
 |_::_,[]=>rfl
 |x::G,y::p=>by
  rw[zip_cons_cons,map_cons,map_cons,map_cons,<- Wa f g G p]
  rfl
def abD(D:be):ST:=λe q=>∃(c:Int)(s:Rat)(m d:Nat)(b:xw),e=[.int c,aa s,oY b]/\Shr s/\DSk m d b/\m<=26/\d<=26/\∀l a,iJ l m->GK l a->sI b a->q (.fz (cK D s l a))
def ah0(T:Tx D):gT 9 Uy Gy (abD D):=ya T.ak7 λ{f U}F=>by
 refine F.okT _2 (λ_ _=>bF (bT 3 (bI (GI T) (bx vx (bx (bN cG T.cX WJ (bx vy bC)) bC))))
  (bF (iY 4 (dJ bC))
  (bF (d_ (d7 T.fK (bx (bN cG T.cX WJ (bx vy bC)) bC)) (b_ (n:=99) 5)
  (bF (bT 6 (bI (GI T) (bx (bL cW vx vn) (bx (bN cG T.cX WJ (bx (bJ vy vn) bC)) bC))))
  (bG (qw 4 (dU (bx (bJ vc vn) (bx (dZ (bH QZ) ZX ZX ["_law_title","_law_door_here"] (Vo T.Wg (bx (qv 6) (bx (bJ vy vn) bC))) (fL (n:=2) (bV (fZ (i:=0)) (bV (fZ (i:=1)) dO))) cI (bI (adk T) (bx vx (bx vw (bx vn bC))))) bC)))))))
  (bG (Hi 4 (bM (Fo T.agA (Vv T) T.akN (bx vw (bx vt bC))))))))) ?_
 rintro _ R ⟨c,s,m,mo,d,rfl,t,hd,m1,L,q⟩;have dl:(d.map λb=>L2.T.lst (b.map bb)).length=m:=by rw[ak,hd.len]
 refine⟨c,m,by rw[<- dl];rfl,m1,λl B=>?_⟩;have K:=B.len;have e0:Dh l []=[]:=by simp[Dh]
 refine⟨⟨by rw[dl];lia,by rw[dl];lia⟩,j7 (λk o=>∃(e:wf)(J I:OT),o=[.fz (.int c),.fz (aa s),.fz (oY d),.fz (.lst (l.map L2.T.str)),.l1 (Dh l e),J,I]/\e.length=k/\∀(i:Nat)b x,d[i]?=some b->e[i]?=some x->∃a,iJ a b.length/\x=(a.zip b).map λp=>Ab D p.1 p.2) ⟨[],.und,.und,by rw[e0];rfl,rfl,λi b x _ z=>by cases z⟩ ?_ ?_⟩
 .rintro k _ X ⟨e,J,I,rfl,h,G⟩;have X:k<m:=by rw[dl]at X;lia
  have v:k<d.length:=by rwa[hd.len]
  have Y:=aj v;have u:=aU v;have fk:=hd.few _ u;have W:ck (d.map λb=>L2.T.lst (b.map bb)) (k:Nat)=some (.lst (d[k].map bb)):=cT Y;have nk:l[k]?=some (l.getD k ⟨#[]⟩):=by rw[au,aj wE];rfl
  refine⟨_,W,c+k,d[k].length,by rw[<- ak (as:=d[k]) (f:=bb)];rfl,by exact aL fk L,λa r=>?_⟩;refine⟨_,cT nk,_,W,?_⟩;have zl:(a.zip d[k]).length<=26:=by rw[VU];lia
  show(K8 (a.map L2.T.str) (d[k].map bb)).length<=sizeLine/\jL _ _ _ _ (K8 (a.map L2.T.str) (d[k].map bb)) _;rw[Wa];refine⟨by rw[ak];exact aL zl wP,comp_map (λp=>.tup [.str p.1,bb p.2]) (λp=>eW l (Ab D p.1 p.2)) (a.zip d[k]) (λp E N M hN=>⟨rfl,p.1,p.2,l,m,rfl,r.wd _ (UT E).1,B,hd.ok _ u _ (UT E).2,hN⟩) ⟨?_,e++[(a.zip d[k]).map λp=>Ab D p.1 p.2],.fz (.int (k:Nat)),.fz (.lst (a.map L2.T.str)),?_,by rw[aA,h];rfl,λi b x C g=>?_⟩⟩
  .rw[ak,VU];exact aR (show _<1000 by lia) wP
  .rw[show Dh l (e++[(a.zip d[k]).map λp=>Ab D p.1 p.2])=Dh l e++[.tup [.str (l.getD k ⟨#[]⟩),.lst ((a.zip d[k]).map λp=>eW l (Ab D p.1 p.2))]]by
    unfold Dh;rw[WY (x:=l.getD k ⟨#[]⟩) _ (by rwa[h]),bf,map_singleton]
    congr 2
    show g7 (_,((a.zip d[k]).map λp=>Ab D p.1 p.2).map (eW l))=_;rw[WG]
    rfl]
   rfl
  .by_cases H:i<e.length
   .rw[aF H]at g;exact G i b x C g
   .have O:=(ao.mp g).1;rw[aA,length_singleton]at O;have:i=k:=by lia
    subst this;rw[aD (WH h),show i-e.length=0 by lia]at g;cases g;rw[Y]at C;cases C;exact⟨a,r,rfl⟩
 .rintro _ ⟨e,J,I,rfl,h,G⟩;have h:e.length=m:=by rwa[h]
  have all:∀x∈e,∃b∈d,∃a,iJ a b.length/\x=(a.zip b).map λp=>Ab D p.1 p.2:=λx A=>by
   obtain⟨i,H⟩:=aV A;have O:=(ao.mp H).1;have ld:i<d.length:=by rw[hd.len];exact aR O (WH h)
   exact⟨_,aU ld,G i _ x (aj ld) H⟩
  have V:EL D l e:=by
   refine⟨by rw[h,K],by lia,B.wd,B.nd,λx A=>?_⟩;obtain⟨b,Z,a,r,rfl⟩:=all x A;have U:=hd.few b Z;have hJ:=r.len;refine⟨by rw[ak,VU];lia,λy P=>?_,λy P=>?_,?_⟩
   .obtain⟨p,_,rfl⟩:=YV.mp P;exact aeC D _
   .obtain⟨p,E,rfl⟩:=YV.mp P;have v:=hd.ok b Z p.2 (UT E).2;obtain⟨qq,q0,q1,hq⟩:=v.all;have j:=JH q0 hq;have:=j.few;have:=v.few;exact⟨by show(yJ p.2.prs).length<=1000;lia,λw hw=>by rw[K];exact j.lt w hw⟩
   .rw[WG];show((a.zip b).map λp=>p.1).Nodup;rw[List.map_fst_zip (WH hJ)];exact r.nd
  have bs:Bq s:=⟨ig (by
   have h0:=Rat.num_nonneg.mpr t.lo;have Q:=(lt_iff s 1).mp t.hi;have Q:s.num*((1:Rat).den:Int)<(1:Rat).num*(s.den:Int):=Q;have:=t.den;simp at Q;lia),ig (by have:=t.den;lia)⟩
  refine⟨s,l,e,rfl,rfl,rfl,rfl,t.lo,t.hi,bs,V,q l (fw e) B ⟨?_,by lia,λos io=>?_⟩ ⟨?_,λk b os C g=>?_⟩⟩
  .rw[ak,h,K]
  .obtain⟨x,A,rfl⟩:=YV.mp io;rw[ak];exact(V.mds x A).few
  .rw[ak,h,hd.len]
  .rw[aq]at g;cases S:e[k]? with
   |none=>rw[S]at g;cases g
   |some x =>
    rw[S]at g;cases g;obtain⟨a,r,rfl⟩:=G k b x C S;exact⟨a,r.len,WG⟩
structure PlD(ae:xw)(t:zI):Prop where
 len:t.length=ae.length
 ok:∀(k:Nat)(d:xF)(ds:wp),t[k]?=some d->ae[k]?=some ds->Aa d ds.length=true
def PlD.snoc{g:xw}(h:∀(i:Nat)(d:xF)(a:wp),i<k->t[i]?=some d->g[i]?=some a->Aa d a.length=true)(l:t.length=k){a:wp}(j:g[k]?=some a){d:xF}(hd:Aa d a.length):∀(i:Nat)(c:xF)(b:wp),i<k+1->(t++[d])[i]?=some c->g[i]?=some b->Aa c b.length=true:=λi c b m e f=>by
 by_cases z:i<k
 .rw[aF wE]at e;exact h i c b z e f
 .have:i=k:=by lia
  subst this;rw[aD (WH l),show i-t.length=0 by lia]at e;cases e;rw[j]at f;cases f;exact hd
def Hq:ST:=λb q=>∃(c:Int)(a:xw),b=[.int c,oY a]/\a.length<=100/\∀t:zI,PlD a t->q (.l1 (t.map dT))
def Hl(T:Tx D):gT 2 Ax pR Hq:=yB T.adS acO (λv _=>bF (bT 2 (bI (gb T) (bx vx (bx (bN cG T.cX WJ (bx vw bC)) bC))))
  (bF (iY 3 (dJ bC))
  (bF (d_ (d7 T.fK (bx (bN cG T.cX WJ (bx vw bC)) bC)) (b_ (n:=99) 4)
  (bG (cB (bW (z5 v.units) (bN cG T.cX WJ (bx (bJ vw vt) bC)) bA)
  (bG (qw 3 eY))
  (bG (qw 3 (bL cF (bJ vy vt) (bN cG T.cX WJ (bx (bJ vw vt) bC))))))))
  (bG (mX 3)))))<|by
 rintro _ R ⟨c,a,rfl,j,q⟩;have dl:(a.map λb=>L2.T.lst (b.map bb)).length=a.length:=ak ..;refine⟨c,a.length,by rw[<- dl];rfl,by exact aL j wP,⟨by rw[dl];lia,by rw[dl];lia⟩,?_⟩;refine j7 (λk o=>∃(t:zI)(x:OT),o=[.fz (.int c),.fz (oY a),.fz (.lst ((lH c a.length).map L2.T.int)),.l1 (t.map dT),x]/\t.length=k/\∀(i:Nat)(d:xF)(b:wp),i<k->t[i]?=some d->a[i]?=some b->Aa d b.length=true) ⟨[],.und,rfl,rfl,λi d b z=>absurd z (WU _)⟩ ?_ ?_
 .rintro k _ f ⟨t,x,rfl,l,h⟩;have f:k<a.length:=by rw[dl]at f;lia
  have m:=aj f;have r:ck (a.map λb=>L2.T.lst (b.map bb)) (k:Nat)=some (.lst (a[k].map bb)):=cT m;have p:(t.map dT).length<sizeLine:=by rw[ak];exact aR (show _<1000 by lia) wP
  have B:=jW c k;refine⟨_,r,?_⟩;by_cases e:a[k].length=0
  .refine dV (Zs (by rw[ak];lia)) ⟨p,t++[none],.fz (.int (k:Nat)),by rw[bf];rfl,by simp[l],PlD.snoc h l m (Zs e)⟩
  .have g:(0:Int)<(a[k].map bb).length:=by rw[ak];lia
   refine cg (Zp (by rw[ak];lia)) ⟨_,dW (k:=k) f,_,r,g,p,?_⟩;have A:=Z3 (z3 c k) (show((a[k].map bb).length:Int)≠0 by exact WP g);have y:=YY (z3 c k) g;obtain⟨n,s⟩:=lQ A;refine⟨t++[some n],.fz (.int (k:Nat)),?_,by simp[l],PlD.snoc h l m (Zs ?_)⟩
   .rw[bf];show _=[_,_,_,OT.l1 (t.map dT++[L2.T.int (n:Nat)]),_];rw[<- s]
    rfl
   .rw[ak]at y s;lia
 .rintro _ ⟨t,x,rfl,l,h⟩;have l:t.length=a.length:=by rwa[l]
  exact q t ⟨l,λk d b u w=>h k d b (by rw[dl];have:=(ao.mp u).1;lia) u w⟩
open Rw (sg iw gF cC iR jg Big)
def Rz(n d:Nat)(r:Rat):Prop:=r.num.natAbs<=10^n/\r.den<=10^d
def Zq{d:Nat}{b:Int}(c:0<b)(f:a.natAbs<=10^n)(e:b.toNat<=10^d):Rz n d (divInt a b):=by
 obtain⟨x,y⟩:=div_pos (a:=a) c;exact⟨aL y f,aL x e⟩
def Rz.mul{d c h:Nat}{a b:Rat}(g:Rz n d a)(f:Rz c h b):Rz (n+c) (d+h) (a*b):=by
 have e:a*b=divInt (a.num*b.num) (a.den*b.den):=by rw[<- Q2,rd,rd]
 have p:(0:Int)<(a.den:Int)*b.den:=XZ (by have:=a.den_pos;lia) (by have:=b.den_pos;lia);rw[e];refine Zq p ?_ ?_
 .rw[VW,VS];exact VY g.1 f.1
 .rw[<- Tk,toNat_natCast,VS];exact VY g.2 f.2
def Rz.add{d h g:Nat}{a b:Rat}(f:Rz n d a)(c:Rz h g b)(j:n+g<=k)(i:h+d<=k):Rz (k+1) (d+g) (a+b):=by
 have e:a+b=divInt (a.num*b.den+b.num*a.den) (a.den*b.den):=by rw[<- JU _ _ (lF a) (lF b),rd,rd]
 have p:(0:Int)<(a.den:Int)*b.den:=XZ (by have:=a.den_pos;lia) (by have:=b.den_pos;lia);rw[e];refine Zq p ?_ ?_
 .have x:(a.num*b.den).natAbs<=10^k:=by
   rw[VW,X0];exact aL (VY f.1 c.2) (by rw[<- VS];exact XG wP j)
  have y:(b.num*a.den).natAbs<=10^k:=by
   rw[VW,X0];exact aL (VY c.1 f.2) (by rw[<- VS];exact XG wP i)
  have z:=Int.natAbs_add_le (a.num*b.den) (b.num*a.den);rw[pow_succ];lia
 .rw[<- Tk,toNat_natCast,VS];exact VY f.2 c.2
def uJ{i:Int}(h:i.natAbs<=10^n)(a:n<=2400):Bd i:=Y3 (aL h (XG wP a)) (by decide +kernel)
def Rz.bq{d:Nat}(h:Rz n d r)(a:n<=2400)(hd:d<=2400):Bq r:=⟨uJ h.1 a,uJ (by rw[X0];exact h.2) hd⟩
def Rz.dd{d e c:Nat}{a b:Rat}(g:Rz n d a)(f:Rz e c b)(h:d+c<=2400):Bd ((a.den:Int)*b.den):=uJ (n:=d+c) (by
 rw[VW,X0,X0,VS];exact VY g.2 f.2) h
def KR(e:r<=(A:Rat))(d : -(A:Rat)<=r):r.num.natAbs<=A*r.den:=by
 have a:=(le_iff r (A:Rat)).mp e;have b:=(le_iff (-(A:Rat)) r).mp d;have a:r.num*((1:Nat):Int)<=(A:Int)*(r.den:Int):=a;have b : -(A:Int)*(r.den:Int)<=r.num*((1:Nat):Int):=b;have c:((A*r.den:Nat):Int)=(A:Int)*r.den:=Tk ..;rw[Int.neg_mul]at b;omega
structure OfB(m R Q O:Nat)(o:bO):Prop where
 pn:o.pay.num.natAbs<=R
 pd:o.pay.den<=Q
 cq:∃q:Nat,0<q/\q<=O/\∀w∈o.ways,w.2.den ∣ q
 nd:(o.ways.map (·.1)).Nodup
 few:o.ways.length<=1000
 lt:∀w∈o.ways,w.1<m
 nn:∀w∈o.ways,0<=w.2
 one:Ih o.ways<=1
theorem J3:∀v:xj,Ih v=dw v λ_=>1
 |[]=>rfl
 |w::v=>by rw[Av,dX,J3 v,Rat.mul_one]
def OfB.le1{o:bO}(h:OfB m R Q O o){w:Nat×Rat}(a:w∈o.ways):w.2<=1:=by
 have:=uy h.nn a;rw[<- J3]at this;exact Ts this h.one
def py{h:Nat}{c:xw}{b:xz}(hd:DSk m h c)(e:sI c b):∀s∈b,∀o∈s,OfB m (10^30) 1000 4000 o:=λos l o i=>by
 obtain⟨k,f⟩:=aV l;have a:k<c.length:=by rw[<- e.len];exact(ao.mp f).1
 obtain⟨t,_,rfl⟩:=e.at_ k _ os (aj a) f;obtain⟨p,r,rfl⟩:=YV.mp i;have a:=hd.ok _ (aU a) p.2 (UT r).2;obtain⟨q,d,g,n⟩:=a.all;have j:=JH d n;have v:=j.few;have u:=a.few;exact⟨a.pay.num,a.pay.den,⟨q,d,g,j.dn⟩,j.nd,by show(yJ p.2.prs).length<=1000;lia,j.lt,j.nn,by
  show Ih (yJ p.2.prs)<=1;rw[J3,j.sum,DW,a.one];exact UX⟩
def Wz{v:Nat}{c:xw}{b:xz}(hd:DSk m v c)(w:∀g∈c,∀d∈g,d.pay.den=1/\d.pay.num.natAbs<=9/\∀p∈d.prs,p.2=1)(f:sI c b):∀g∈b,∀o∈g,OfB m 9 1 1 o:=λos i o h=>by
 have B:=py hd f os i o h;obtain⟨k,n⟩:=aV i;have a:k<c.length:=by rw[<- f.len];exact(ao.mp n).1
 obtain⟨y,_,rfl⟩:=f.at_ k _ os (aj a) n;obtain⟨p,l,rfl⟩:=YV.mp h;obtain⟨t,s,r⟩:=w _ (aU a) p.2 (UT l).2;have a:=hd.ok _ (aU a) p.2 (UT l).2;have j:=JH (q:=1) UQ (m:=m) (u:=p.2.prs) λx e=>⟨a.lt x e,a.nn x e,by rw[r x e];exact Nat.dvd_refl 1⟩;exact⟨s,by show p.2.pay.den<=1;exact WH t,⟨1,UQ,aG _,j.dn⟩,B.nd,B.few,B.lt,B.nn,B.one⟩
open Rw (sg iw gF cC iR jg Big)
def UC(c:∀w∈v,0<=w.2)(j:Nat):0<=uo v j/\uo v j<=Ih v:=by
 induction v with
 |nil=>exact⟨UX,UX⟩
 |cons w v d =>
  have:=c w (aO ..);obtain⟨a,b⟩:=d λx e=>c x (aJ _ e);rw[Av];show 0<=(if w.1=j then w.2 else 0)+uo v j/\(if w.1=j then w.2 else 0)+uo v j<=_;split<;>grind
def agd{q:Nat}(c:0<q)(h:∀w∈v,w.2.den ∣ q)(j:Nat):(uo v j).den ∣ q:=by
 induction v with
 |nil=>exact Qr _
 |cons w v a =>
  refine LC c ?_ (a λx b=>h x (aJ _ b));split
  .exact h w (aO ..)
  .exact Qr _
abbrev qO(c:xE):Nat:=c7 1 ((j_ c).map (·.2))
def CoB(m R Q O:Nat)(c:xE):Prop:=∀o,c=some o->OfB m R Q O o
def CoB.sh{c:xE}(h:CoB m R Q O c):dk s m (j_ c):=by
 cases c with
 |none=>exact⟨λ_ z=>(nomatch z),λ_ z=>(nomatch z),by show(0:Rat)<=1;decide⟩
 |some o=>have b:=h o rfl;exact⟨b.lt,b.nn,b.one⟩
def GV(c:xE):0<qO c:=gU _ UQ
def ZW{c:xE}{w:Nat×Rat}(a:w∈j_ c):w.2.den ∣ qO c:=(k_ _).2 _ (YV.mpr ⟨w,a,rfl⟩)
def CoB.q{m R Q O:Nat}{c:xE}(h:CoB m R Q O c)(f:1<=O):qO c<=O:=by
 cases c with
 |none=>exact f
 |some o =>
  obtain⟨q,b,a,e⟩:=(h o rfl).cq;refine aL (UR b (rK _ (Qr _) λr d=>?_)) a;obtain⟨w,hw,rfl⟩:=YV.mp d;exact e w hw
def CoB.pd{m R Q O:Nat}{c:xE}(h:CoB m R Q O c)(a:1<=Q):(oU c).den<=Q:=by
 cases c with
 |none=>exact a
 |some o=>exact(h o rfl).pd
def CoB.pn{m R Q O:Nat}{c:xE}(h:CoB m R Q O c):(oU c).num.natAbs<=R:=by
 cases c with
 |none=>exact aZ _
 |some o=>exact(h o rfl).pn
theorem xZ:((1:Nat):Rat)=1:=rfl
def Ya{c:xm}(g:0<=s)(n:s<1)(h:CoB m R Q O (c.getD i none)):(iu s c i j).den ∣ s.den*qO (c.getD i none)/\(iu s c i j).num.natAbs<=1*(iu s c i j).den:=by
 have e:=CoB.sh (s:=s) h;obtain⟨a,b⟩:=UC e.nn j;have l:=Ts b e.one;have o:s*uo (j_ (c.getD i none)) j<=1:=by
  have:=TW l g
  grind
 have p:0<=s*uo (j_ (c.getD i none)) j:=Rat.mul_nonneg g a;have f:=s.den_pos;have d:=GV (c.getD i none);refine⟨?_,KR ?_ ?_⟩
 .unfold iu;rw[Rat.sub_eq_add_neg];refine LC (QY f d) ?_ ?_
  .split<;>exact Qr _
  .rw[_E];exact gv f d (Nat.dvd_refl _) (agd d (λw k=>ZW k) j)
 .unfold iu;rw[xZ];split<;>grind
 .unfold iu;rw[xZ];split<;>grind
def Iq{cs:xm}(e:Shr s)(l:cs.length<=100)(h:∀c∈cs,CoB cs.length R Q O c)(o:1<=Q)(n:1<=O)(k:N=(R+1)*(100*O*Q))(v:(2*cs.length*N)^cs.length<=NN)(u:N<=NN):Sys (E_ (Cw s cs) (cs.map oU)) N:=by
 have g:∀i,i<cs.length->CoB cs.length R Q O (cs.getD i none):=λi d=>h _ (by rw[au,aj d];exact aU d);have t:=s.den_pos;have all:∀i,i<cs.length->∀c∈((range cs.length).map λj=>iu s cs i j)++[oU (cs.getD i none)],c.den ∣ s.den*qO (cs.getD i none)*(oU (cs.getD i none)).den/\c.num.natAbs<=(R+1)*c.den:=λi d c A=>by
  rcases Y1.mp A with z|z
  .obtain⟨j,_,rfl⟩:=YV.mp z;obtain⟨a,b⟩:=Ya (j:=j) e.lo e.hi (g i d);exact⟨Nat.dvd_trans a (Nat.dvd_mul_right _ _),aL b (jp _ (Nat.le_add_left _ _))⟩
  .rw[YR.mp z];refine⟨Nat.dvd_mul_left _ _,?_⟩;have:=(g i d).pn;have:=(oU (cs.getD i none)).den_pos;exact aL (show _<=(R+1)*1 by lia) (Th _ this)
 have m:∀i,i<cs.length->0<s.den*qO (cs.getD i none)*(oU (cs.getD i none)).den/\s.den*qO (cs.getD i none)*(oU (cs.getD i none)).den<=100*O*Q:=λi d =>
  ⟨QY (QY t (GV _)) (Rat.den_pos _),VY (VY e.den ((g i d).q n)) ((g i d).pd o)⟩
 refine⟨λr f=>?_,by rw[vA];exact l,λr f=>?_,λr f c y=>?_,?_,by rw[vA];exact v,u,?_⟩
 .obtain⟨i,d,rfl⟩:=JQ f;rw[vA,aA,ak,W1];rfl
 .obtain⟨i,d,rfl⟩:=JQ f;obtain⟨a,b⟩:=m i d;exact(_L (Nat.le_add_left _ _) a (all i d)).le (by rw[k];exact Th _ b)
 .obtain⟨i,d,rfl⟩:=JQ f;obtain⟨a,b⟩:=all i d c y;obtain⟨p,q⟩:=m i d;exact dj (aL b (aL (Th _ (aL (UR p a) q)) (by rwa[<- k])))
 .rw[k];exact QY (TZ _) (QY (QY wP (aR (X2 _) n)) (aR (X2 _) o))
 .rw[vA];exact λx B w=>agY e.lo e.hi (λi d=>(g i d).sh) x B w
def Ug(b:Shr s):Rz 2 2 s:=by
 have a:=KR (r:=s) (A:=1) (JJ b.hi) (by have:=b.lo;rw[xZ];grind);have:=b.den;exact⟨aL a wE,this⟩
def pu{o:bO}(h:OfB m R Q O o)(g:O<=10^4){w:Nat×Rat}(b:w∈o.ways):Rz 4 4 w.2:=by
 obtain⟨q,c,f,e⟩:=h.cq;have d:=UR c (e w b);have a:=KR (r:=w.2) (A:=1) (h.le1 b) (by have:=h.nn w b;rw[xZ];grind);exact⟨aL a wE,by lia⟩
def Ff{a:xz}(f:∀g∈a,∀o∈g,OfB m R Q O o):∀c∈ca a t,CoB m R Q O c:=λc hc o b=>by
 obtain⟨p,h,rfl⟩:=YV.mp hc;cases e:p.1 with
 |none=>rw[e]at b;cases b
 |some d =>
  rw[e]at b;have b:(a.getD p.2 [])[d]?=some o:=b;by_cases l:p.2<a.length
  .rw[au,aj l]at b;exact f _ (aU l) o (aC b)
  .have:a[p.2]?=none:=aM (VX l);rw[au,this]at b;cases b
def RR{a:xz}(g:Shr s)(f:a.length<=100)(h:∀p∈a,∀o∈p,OfB a.length R Q O o)(n:1<=Q)(m:1<=O)(hc:O<=10^4)(l:N=(R+1)*(100*O*Q))(r:(2*a.length*N)^a.length<=NN)(i:N<=NN)(j:cf a t):qp s (ca a t) N:=by
 have d:=K4 j;have q:=Ff (t:=t) h;have sz:=Ug g;refine⟨sz.bq wP wP,λc k=>?_,Iq g (aL (WH d) f) (by rwa[d]) n m l (by rwa[d]) i⟩;rw[d];cases c with
 |none=>exact⟨.nil,aZ _,λ_ z=>(nomatch z),λ_ z=>(nomatch z)⟩
 |some o =>
  have b:=q _ k o rfl;refine⟨b.nd,b.few,b.lt,λw hw=>?_⟩;have e:=pu b hc hw;exact⟨e.bq wP wP,sz.dd e wP,(sz.mul e).bq wP wP⟩
def ZV(h:xf)(n M:Nat)(e:0<M):(∀r∈h,r.den<=M)->c7 n h<=n*M^h.length:=by
 induction h generalizing n with
 |nil=>intro _;show n<=n*1;lia
 |cons r h c =>
  intro a;have b:Nat.lcm n r.den<=n*M:=aL (by unfold Nat.lcm;exact div_le_self _ _) (Th _ (a r (aO ..)));refine aL (c (Nat.lcm n r.den) λx d=>a x (aJ _ d)) ?_;rw[length_cons,pow_succ,Nat.mul_comm (M^h.length),<- Nat.mul_assoc];exact jp _ b
theorem HM{J:Type}(g:J->Int)(b:Nat):∀v:List J,(∀w∈v,(g w).natAbs<=b)->(v.map g).sum.natAbs<=v.length*b
 |[],_=>by simp
 |w::v,h=>by
  have a:=h w (aO ..);have c:=HM g b v λx d=>h x (aJ _ d);rw[map_cons,sum_cons,length_cons,add_mul,Nat.one_mul];have:=Int.natAbs_add_le (g w) (v.map g).sum;lia
def UA{t b:Nat}{o:bO}{a:xo}{B:Nat}(D:Shr s)(h:OfB m R Q O o)(hc:O<=10^4)(H:R<=10^30)(G:Q<=10^3)(u:a.length=m)(l:∀x∈a,x.natAbs<=10^t)(p:B<=10^b)(lt:t<=2000)(C:b<=2000):qE s o a B/\Bq (m9 s a B o)/\Bd (((m9 s a B o).den:Int)*(B:Nat)):=by
 obtain⟨q,y,v,F⟩:=h.cq;have z:c7 1 (o.ways.map (·.2))<=10^4:=aL (UR y (rK _ (Qr _) λr E=>by
  obtain⟨w,hw,rfl⟩:=YV.mp E;exact F w hw)) (aL v hc)
 have A:=gU (o.ways.map (·.2)) UQ;have sz:=Ug D;have i:Rz 30 3 o.pay:=⟨aL h.pn H,aL h.pd G⟩;have I:Rz b 0 (B:Rat):=⟨p,aG 1⟩;have part:∀w∈o.ways,(w.2.num*((c7 1 (o.ways.map (·.2))/w.2.den:Nat):Int)).natAbs<=10^8:=λw hw=>by
  rw[VW,X0];exact aL (VY (pu h hc hw).1 (aL (div_le_self _ _) z)) wP
 have top:∀k,(a.getD k 0).natAbs<=10^t:=λk=>by
  rw[au];cases e:a[k]? with
  |none=>exact aZ _
  |some x=>exact l x (aC e)
 have g:Rz (t+11) 4 (Jl o.ways a):=by
  rw[<- SQ A a o.ways λw hw=>(k_ _).2 _ (YV.mpr ⟨w,hw,rfl⟩)];refine Zq wE ?_ (by rwa[toNat_natCast]);refine aL (HM _ (10^8*10^t) o.ways λw hw=>?_) ?_
  .rw[VW];exact VY (part w hw) (top w.1)
  .refine aL (jp _ h.few) ?_;rw[show(1000:Nat)=10^3 from rfl,<- Nat.mul_assoc,<- VS,<- VS];exact XG wP wE
 have f:=i.mul I;have d:=sz.mul g;have j:=f.add d (k:=2100) wE wE;refine⟨⟨⟨h.few,λw hw=>by rw[u];exact h.lt w hw,λw hw=>((pu h hc hw).bq wP wP).1,uJ (n:=4) (by rwa[X0]) wP,λx c=>?_,λx c=>uJ (l x c) (aL lt wP)⟩,i.bq wP wP,sz.bq wP wP,uJ (n:=b) (by rwa[X0]) (aL C wP),g.bq wE wP,sz.dd g wP,f.bq wE wP,d.bq wE wP,f.dd d wP⟩,j.bq wP wP,uJ (n:=9+b) (by rw[VW,X0,X0,VS];exact VY j.2 p) wE⟩;unfold tops at c;rw[WG]at c;obtain⟨w,hw,rfl⟩:=YV.mp c;exact uJ (n:=8) (part w hw) wP
theorem GS{c:Nat}(g:1<=c):∀{off:xz},(∀f∈off,f.length<=c)->(uI off).length<=c^off.length
 |[],_=>aG 1
 |f::off,h=>by
  have e:=GS g (off:=off) λx i=>h x (aJ _ i);have l:∀(b:zI),((b.map λd=>(uI off).map λt=>d::t).flatten).length=b.length*(uI off).length:=λb=>by
   induction b with
   |nil=>simp
   |cons a b e=>rw[map_cons,flatten_cons,aA,ak,e,length_cons,add_mul,Nat.one_mul,Nat.add_comm]
  unfold uI;rw[l,length_cons,pow_succ,Nat.mul_comm];refine VY e ?_;split
  .exact g
  .rw[ak,W1];exact h f (aO ..)
def FX{a:xz}{e:Nat}(h:Shr s)(f:a.length<=100)(j:∀g∈a,∀o∈g,OfB a.length R Q O o)(I:1<=Q)(H:1<=O)(y:O<=10^4)(F:R<=10^30)(E:Q<=10^3)(G:N=(R+1)*(100*O*Q))(k:(2*a.length*N)^a.length<=10^e)(w:e<=600)(B:N<=NN)(le:e+e*a.length<=2000)(i:(uI a).length<sizeLine):eI s a N:=by
 have C:(2*a.length*N)^a.length<=NN:=aL k (XG wP w);refine⟨h.lo,h.hi,f,λg m o l=>let b:=j g m o l;⟨b.lt,b.nn,b.one⟩,λt J=>RR h f j I H y G C B J,λp z u=>?_,i⟩;have q:∀r∈p,r.num.natAbs<=10^e:=λr c=>aL (u r c).n k;have A:∀r∈p,r.den<=10^e:=λr c=>aL (u r c).d k;have v:c7 1 p<=10^(e*a.length):=by
  have:=ZV p 1 (10^e) (pow_pos wP) A;rw[Nat.one_mul,z,<- Nat.pow_mul]at this;exact this
 refine⟨by lia,λr c=>uJ (q r c) (aL w wP),uJ (n:=e*a.length) (by rwa[X0]) wE,λg m o l=>UA (t:=e+e*a.length) (b:=e*a.length) h (j g m o l) y F E (by unfold tops;rwa[ak]) (λx D=>?_) v (by omega) wE⟩;obtain⟨r,c,rfl⟩:=YV.mp D;rw[VW,X0,VS];exact VY (q r c) (aL (div_le_self _ _) v)
def YE(h:m<=6):(2*m*((10^30+1)*(100*4000*1000)))^m<=10^246:=by
 obtain rfl|rfl|rfl|rfl|rfl|rfl|rfl:m=0\/m=1\/m=2\/m=3\/m=4\/m=5\/m=6:=by lia
 all_goals decide +kernel
def ahR(h:m<=8):(2*m*((9+1)*(100*1*1)))^m<=10^40:=by
 obtain rfl|rfl|rfl|rfl|rfl|rfl|rfl|rfl|rfl:m=0\/m=1\/m=2\/m=3\/m=4\/m=5\/m=6\/m=7\/m=8:=by lia
 all_goals decide +kernel
def dL(m:Nat)(b:xw):Prop:=m<=6\/(m<=8/\∀a∈b,∀d∈a,d.pay.den=1/\d.pay.num.natAbs<=9/\∀p∈d.prs,p.2=1)
def agt{d:xw}{a:xz}(g:Shr s)(hd:DSk m 4 d)(j:dL m d)(c:sI d a):∃N,eI s a N:=by
 have b:a.length=m:=by rw[c.len,hd.len]
 have p:∀q∈a,q.length<=4:=λos n=>by
  obtain⟨k,i⟩:=aV n;have f:k<d.length:=by rw[<- c.len];exact(ao.mp i).1
  obtain⟨r,_,rfl⟩:=c.at_ k _ os (aj f) i;have:=hd.few _ (aU f);rw[ak,VU];lia
 have t:=GS (by decide:1<=4) p;rcases j with h|⟨h,o⟩
 .have l:4^a.length<=4^8:=XG wP wE;exact⟨_,FX (e:=246) g wE (by rw[b];exact py hd c) wP wP wP wP wP rfl (YE (aL (WH b) h)) wP (by decide +kernel) (by have:246*a.length<=246*6:=Th _ (aL (WH b) h);lia) (Y3 (aL t l) wP)⟩
 .have l:4^a.length<=4^8:=XG wP (aL (WH b) h);exact⟨_,FX (e:=40) g wE (by rw[b];exact Wz hd o c) wP wP wP wP wP rfl (ahR (aL (WH b) h)) wP (by decide +kernel) (by have:40*a.length<=40*8:=Th _ (aL (WH b) h);lia) (Y3 (aL t l) wP)⟩
abbrev pT(a b:Int):T:=.tup [.int a,.int b]
def cZ{b:Int}(c:0<b):divInt a b*(b:Rat)=(a:Rat):=by
 have:(b:Rat)≠0:=λz=>by have:=Rat.intCast_eq_zero_iff.mp z;lia
 rw[UH]
 grind
def cv{b:Int}(a:0<b):(0:Rat)<(b:Rat):=Rat.intCast_lt_intCast.mpr a
def _d{b c d:Int}(e:0<b)(hd:0<d):divInt a b<divInt c d↔a*d<c*b:=by
 have j:=cZ (a:=a) e;have i:=cZ (a:=c) hd;have h:=cv e;have g:=cv hd;rw[<- Rat.intCast_lt_intCast,XU,XU,<- j,<- i];generalize divInt a b=x;generalize divInt c d=y;have f:(0:Rat)<(b:Rat)*(d:Rat):=Rat.mul_pos h g;rw[show x*(b:Rat)*(d:Rat)=x*((b:Rat)*(d:Rat))from Rat.mul_assoc ..,show y*(d:Rat)*(b:Rat)=y*((b:Rat)*(d:Rat))by grind];exact(Rat.mul_lt_mul_right f).symm
def div_eq{b c d:Int}(e:0<b)(hd:0<d):divInt a b=divInt c d↔a*d=c*b:=Q1 (WP e) (WP hd)
abbrev VV:Nat:=10^32
structure YsB(p:xf):Prop where
 dn:∀y∈p,y.den<=10^580
 hi:∀y∈p,y<=(VV:Rat)
 lo:∀y∈p,-(VV:Rat)<=y
def YsB.num{p:xf}(h:YsB p){y:Rat}(a:y∈p):y.num.natAbs<=10^612:=by
 refine aL (KR (h.hi y a) (h.lo y a)) ?_;rw[show 10^612=VV*10^580 by unfold VV;rw[<- VS]];exact Th _ (h.dn y a)
def YsB.z(h:YsB p){y:Rat}(a:y∈p):Rz 612 580 y:=⟨h.num a,h.dn y a⟩
def YsB.get{p:xf}(h:YsB p)(k:Nat):Rz 612 580 (p.getD k 0)/\p.getD k 0<=(VV:Rat)/\-(VV:Rat)<=p.getD k 0:=by
 rw[au];cases e:p[k]? with
 |none=>exact⟨⟨aZ _,pow_pos wP⟩,by show(0:Rat)<=_;decide +kernel,by show _<=(0:Rat);decide +kernel⟩
 |some y=>have m:=aC e;exact⟨h.z m,h.hi y m,h.lo y m⟩
def ahK{b:Int}(d:0<b)(h:divInt a b<=(A:Rat))(g : -(A:Rat)<=divInt a b):a.natAbs<=A*b.toNat:=by
 have e:=cZ (a:=a) d;have f:=cv d;have x:(a:Rat)<=(((A:Int)*b:Int):Rat):=by
  rw[<- e,XU];exact jn h (JJ f)
 have y:((-((A:Int)*b):Int):Rat)<=(a:Rat):=by
  rw[<- e,Rat.intCast_neg,XU];have:=jn g (JJ f);rw[Rat.neg_mul]at this;exact this
 have x:=Rat.intCast_le_intCast.mp x;have y:=Rat.intCast_le_intCast.mp y;have c:((A*b.toNat:Nat):Int)=(A:Int)*b:=by rw[Tk,Int.toNat_of_nonneg (XY d)]
 omega
def En(s:Rat)(y:Nat->Rat)(d:LD):Rat:=d.pay+s*dw d.prs y
def Hb{C:Rat}(h:0<=C)(f:∀w∈v,0<=w.2)(d:(dw v λ_=>1)<=1)(g:∀k,y k<=C)(lo:∀k,-C<=y k):dw v y<=C/\-C<=dw v y:=by
 have a:=k8 (M:=C) (x:=y) (v:=v) λw e=>⟨f w e,g w.1⟩;have b:=k8 (M:=C) (x:=λk=>-(y k)) (v:=v) λw e=>⟨f w e,by have:=lo w.1;grind⟩;rw[Tt]at b;rw[<- J3]at d;have c:Ih v*C<=1*C:=jn d h;constructor<;>grind
def WE{b bs:xj}(c:∀w∈b++bs,0<=w.2)(a:(dw (b++bs) λ_=>1)<=1):(dw b λ_=>1)<=1:=by
 rw[Lj]at a;have:0<=dw bs λ_=>1:=by
  clear a
  induction bs with
  |nil=>exact UX
  |cons w v d =>
   rw[dX];have:=d λx e=>c x (by rcases Y1.mp e with z|z;exact UP _ z;exact aP _ (aJ _ z));have:=c w (aP _ (aO ..))
   grind
 grind
def VH{c:xw}{a:xz}(b:sI c a)(h:PlD c t):cf a t:=by
 refine⟨by rw[h.len,b.len],λk d os j f=>?_⟩;have g:k<c.length:=by rw[<- b.len];exact(ao.mp f).1
 have e:=aj g;obtain⟨l,i,rfl⟩:=b.at_ k _ os e f;have:=h.ok k d _ j e;rw[ak,VU,i,US];exact this
open Rw (sg iw gF cC iR jg Big sz)
def Yx(s:Rat)(y:Nat->Rat)(a:xw)(t:zI)(k:Nat):Rat:=match(t.getD k none).bind λd=>(a.getD k [])[d]? with
 |none=>0
 |some d=>En s y d
def HA{d:LD}{t:Str}(h:LDk m d):ie s y (iz t d)=En s y d:=by
 obtain⟨q,a,_,b⟩:=h.all;unfold ie En;rw[(JH a b).sum]
def ah8{b:xw}{a:xz}(c:sI b a)(k d:Nat):∃t:Str,(a.getD k [])[d]?=((b.getD k [])[d]?).map (iz t):=by
 by_cases h:k<b.length
 .have f:=aj h;have e:=aj (show k<a.length by rwa[c.len]);obtain⟨g,l,i⟩:=c.at_ k _ _ f e;rw[au,au,f,e];show ∃t,(a[k]'(by rwa[c.len]))[d]?=(b[k][d]?).map (iz t);rw[i,aq];by_cases hd:d<b[k].length
  .refine⟨g[d]' wE,?_⟩;rw[aj (show d<(g.zip b[k]).length by rw[VU];lia),aj hd,getElem_zip]
   rfl
  .exact⟨⟨#[]⟩,by rw[aM (show(g.zip b[k]).length<=d by rw[VU];lia),aM (show b[k].length<=d by exact VX hd)];rfl⟩
 .have f:b[k]?=none:=aM (VX h);have e:a[k]?=none:=aM (by rw[c.len];exact VX h);exact⟨⟨#[]⟩,by rw[au,au,f,e];rfl⟩
def Se{h:Nat}{e:xw}{b:xz}(hd:DSk m h e)(j:sI e b)(l:k<t.length):sX s y ((ca b t).getD k none)=Yx s y e t k:=by
 have g:=aj l;rw[La g];unfold Yx;rw[show t.getD k none=t[k]by rw[au,g];rfl];cases t[k]with
 |none =>
  show(0:Rat)+s*0=0
  grind
 |some d =>
  obtain⟨a,n⟩:=ah8 j k d;show sX s y ((b.getD k [])[d]?)=match(e.getD k [])[d]? with|none=>0|some d=>En s y d
  rw[n];cases f:(e.getD k [])[d]? with
  |none =>
   show(0:Rat)+s*0=0
   grind
  |some x =>
   have i:LDk m x:=by
    by_cases c:k<e.length
    .rw[au,aj c]at f;exact hd.ok _ (aU c) x (aC f)
    .have:e[k]?=none:=aM (VX c);rw[au,this]at f;cases f
   exact HA i
open Rw (sg iw gF cC iR jg Big vr)
def ZL(h:Sys F N)(I:∀r∈F,sg (λj=>r.getD j 0*y j) F.length=r.getD F.length 0):∃D:Nat,0<D/\D<=(2*(F.length+1)*N)^F.length/\∀i,i<F.length->(y i).den ∣ D:=by
 have q:∀l,l<F.length->F.getD l []∈F:=λl m=>by
  rw[au,aj m];exact aU m
 obtain⟨a,⟨s,P,x⟩,L,E⟩:=Rw.YC (p:=F.length) (N:=N) (C:=λk l=>(jO (F.getD l [])).1.getD k 0) h.one λk l Q m=>by
  have B:=h.lev _ (q l m);rw[au];cases e:(jO (F.getD l [])).1[k]? with
  |none=>exact aZ _
  |some t=>exact B.top t (aC e)
 have u:∀r∈F,sg (λj=>r.getD j 0*(a j:Rat)) (F.length+1)=0:=λr d=>by
  obtain⟨l,A⟩:=aV d;have m:=(ao.mp A).1;have K:F.getD l []=r:=by rw[au,A];rfl
  have z:=E l m;rw[K]at z;have G:sg (λk=>((a k*(jO r).1.getD k 0:Int):Rat)) (F.length+1)=0:=by rw[<- Rw.JM,z];rfl
  have R:=gU r UQ;have O:(((jO r).2:Int):Rat)≠0:=λw=>by
   have:(jO r).2=0:=Rat.intCast_eq_zero_iff.mp w;have:((c7 1 r:Nat):Int)=0:=this;lia
  rw[cC (g:=λk=>(1/(((jO r).2:Int):Rat))*((a k*(jO r).1.getD k 0:Int):Rat)) λj _=>?_,gF,G,Rat.mul_zero];rw[<- Nx r j,XU];unfold vr
  grind
 have b:∀(f:Nat->Rat),sg f (F.length+1)=sg f F.length+f F.length:=λf=>rfl;have H:a F.length≠0:=λz=>by
  have:=h.inj (λj=>if j<F.length then(a j:Rat)else 0) (λj n=>ZZ (TR n)) λr d=>by
   refine(cC λj n=>?_).trans (u r d);by_cases c:j<F.length
   .rw[ZY c]
   .rw[ZZ c,show j=F.length by lia,z];rfl
  by_cases c:s<F.length
  .have w:=this s c;rw[ZY c]at w;exact x (Rat.intCast_eq_zero_iff.mp w)
  .exact x (by rw[show s=F.length by lia];exact z)
 have J:∀i,i<F.length->(a F.length:Rat)*y i+(a i:Rat)=0:=λi o=>by
  have:=h.inj (λj=>if j<F.length then(a F.length:Rat)*y j+(a j:Rat)else 0) (λj n=>ZZ (TR n)) (λr d=>by
   rw[b,ZZ (Wp _),Rat.mul_zero,Rat.add_zero];rw[cC (g:=λj=>(a F.length:Rat)*(r.getD j 0*y j)+r.getD j 0*(a j:Rat)) λj n=>by rw[ZY n];grind,iw,gF,I r d];have:=u r d;rw[b]at this
   grind) i o
  rw[ZY o]at this;exact this
 have v:0<(a F.length).natAbs:=by lia
 refine⟨(a F.length).natAbs,v,L _,λi o=>(uW v).mpr ?_⟩;have e:=J i o;have M:(a F.length:Rat)≠0:=λz=>H (Rat.intCast_eq_zero_iff.mp z);rcases Int.natAbs_eq (a F.length)with c|c
 .refine⟨-(a i),?_⟩;rw[<- c,UH,Rat.intCast_neg]
  grind
 .refine⟨a i,?_⟩;rw[show(((a F.length).natAbs:Nat):Int)=-(a F.length)by lia,UH,Rat.intCast_neg]
  grind
def Shr.left(h:Shr s):(1:Rat)<=(1-s)*100:=by
 have e:=(one_sub (a:=s.num) (b:=(s.den:Nat)) (lF s));rw[rd]at e;have d:=(lt_iff s 1).mp h.hi;have d:s.num*((1:Nat):Int)<1*(s.den:Int):=d;have hd:=h.den;have i:=s.den_pos;have m:=cZ (a:=(s.den:Int)-s.num) (b:=(s.den:Nat)) wE;rw[<- e]at m;have a:((1:Int):Rat)<=(((s.den:Int)-s.num:Int):Rat):=Rat.intCast_le_intCast.mpr wE;have b:(((s.den:Nat):Int):Rat)<=((100:Int):Rat):=Rat.intCast_le_intCast.mpr wE;have p:(0:Rat)<=1-s:=by have:=h.hi;grind
 have c:=TW b p;have g:((1:Int):Rat)=1:=rfl;have f:((100:Int):Rat)=100:=rfl;rw[m]at c;rw[g]at a;rw[f]at c;exact Ts a c
def afC(h:r.num.natAbs<=A):r<=(A:Rat)/\-(A:Rat)<=r:=by
 have a:=r.den_pos;constructor
 .refine(le_iff r (A:Rat)).mpr ?_;show r.num*((1:Nat):Int)<=(A:Int)*(r.den:Int);have:(A:Int)*1<=(A:Int)*(r.den:Int):=Int.mul_le_mul_of_nonneg_left wE (WZ _);omega
 .refine(le_iff (-(A:Rat)) r).mpr ?_;show -(A:Int)*(r.den:Int)<=r.num*((1:Nat):Int);have:(A:Int)*1<=(A:Int)*(r.den:Int):=Int.mul_le_mul_of_nonneg_left wE (WZ _);rw[Int.neg_mul];omega
def abX{c:Nat->xE}(n:Shr s)(q:∀i,i<m->CoB m R Q O (c i))(D:R<=10^30)(t:∀i,i<m->y i=sX s y (c i)):∀i,i<m->y i<=(VV:Rat)/\-(VV:Rat)<=y i:=λi o=>by
 have z:(0:Rat)<=(VV:Rat):=by decide +kernel
 have p:∀(C:Rat)(v:xj),dw v (λ_=>C)=C*Ih v:=λC v=>by
  induction v with
  |nil=>show(0:Rat)=C*0;grind
  |cons w v B=>rw[dX,Av,B];grind
 have l:=n.left;have f:(VV:Rat)=100*((10^30:Nat):Rat):=by decide +kernel
 have A:(0:Rat)<=((10^30:Nat):Rat):=by decide +kernel
 have d:=jn l A;have u:∀k,k<m->(oU (c k)<=((10^30:Nat):Rat)/\-((10^30:Nat):Rat)<=oU (c k))/\s*((VV:Rat)*Ih (j_ (c k)))<=s*(VV:Rat):=λk h=>by
  refine⟨afC (aL (q k h).pn D),?_⟩;have r:=(CoB.sh (s:=s) (q k h)).one;have:=TW r z;have:=TW this n.lo
  grind
 constructor
 .have:=sub_le (m:=m) (v:=λi=>j_ (c i)) n.lo n.hi (λi o=>(q i o).sh) (x:=λj=>y j-(VV:Rat)) (λk h=>by
   rw[SM,p];have e:=t k h;unfold sX at e;obtain⟨⟨a,b⟩,g⟩:=u k h;show y k-(VV:Rat)<=_
   grind) i o
  grind
 .have:=sub_le (m:=m) (v:=λi=>j_ (c i)) n.lo n.hi (λi o=>(q i o).sh) (x:=λj=>-(y j)-(VV:Rat)) (λk h=>by
   rw[SM (λj=>-(y j)),p,Tt];have e:=t k h;unfold sX at e;obtain⟨⟨a,b⟩,g⟩:=u k h;show -(y k)-(VV:Rat)<=_
   grind) i o
  grind
def Qy:ST:=λe q=>∃a b c d:Int,e=[pT a b,pT c d]/\0<b/\0<d/\(Bd a/\Bd b/\Bd c/\Bd d)/\q (.fz (.bl (decide (divInt a b<divInt c d))))
def p9(T:Tx D):gT 1 KQ zP Qy:=yB T.aiM afa (λ_ _=>bG (bM (mq rY (bL cY (bJ vx bA) (bJ vw bA)) (bL cY (bJ vw bA) (bJ vx bA)))))<|by
 rintro _ R ⟨a,b,c,d,rfl,e,hd,⟨i,h,g,f⟩,q⟩;refine⟨⟨i,f⟩,⟨g,h⟩,?_⟩;rw[decide_eq_decide.mpr (_d e hd)]at q;exact q
def Yu:ST:=λe q=>∃a b c d:Int,e=[pT a b,pT c d]/\0<b/\0<d/\(Bd a/\Bd b/\Bd c/\Bd d)/\q (.fz (.bl (decide (divInt a b=divInt c d))))
def ada(T:Tx D):gT 1 T_ Dw Yu:=yB T.ake agL (λe _=>bG (bM (mq (z5 e.units) (bL cY (bJ vx bA) (bJ vw bA)) (bL cY (bJ vw bA) (bJ vx bA)))))<|by
 rintro _ R ⟨a,b,c,d,rfl,f,hd,⟨j,i,h,g⟩,q⟩;refine⟨⟨j,g⟩,⟨h,i⟩,?_⟩;rw[decide_eq_decide.mpr (div_eq f hd)]at q;exact q
def RJ:ST:=λc q=>∃(s:Rat)(m:Nat)(d:LD)(p:xf),c=[aa s,bb d,.lst (p.map aa)]/\Shr s/\LDk m d/\p.length=m/\YsB p/\∀a b:Int,0<b->Bd a->Bd b->divInt a b=En s (λk=>p.getD k 0) d->q (.fz (pT a b))
def Fp(T:Tx D):gT 1 J2 Aq RJ:=yB T.f_look ag7 (λ_ _=>bF (bT 3 bA)
  (bF (bT 4 bA)
  (bF (d_ (cL (bJ vw bA)) (fL (n:=2) (bV (b_ (n:=99) 5) (bV (b_ (n:=99) 6) dO)))
  (bF (bT 7 (bL cY (bJ (qv 6) bA) (bJ (bJ vy vn) bA)))
  (bF (bT 3 (bL cW (bL cY vc (qv 7)) (bL cY (bL cY (bJ (qv 6) bA) (bJ (bJ vy vn) bA)) vt)))
  (bG (bT 4 (bL cY vt (qv 7)))))))
  (bF (bT 3 (bL cY vc (bJ vx bA)))
  (bF (bT 4 (bL cY vt (bJ vx bA)))
  (bG (bM (dU (bx (bL cW (bL cY (bJ (bJ vw bA) bA) vt) (bL cY vc (bJ (bJ vw bA) bA))) (bx (bL cY vt (bJ (bJ vw bA) bA)) bC))))))))))<|by
 rintro _ R ⟨s,m,d,p,rfl,hs,hd,yl,u,q⟩;obtain⟨qq,q0,q1,X⟩:=hd.all;have i:(dw d.prs λ_=>1)<=1:=by rw[DW,hd.one];exact UX
 have O:=hd.few;have cz:∀f∈d.prs,Rz 4 4 f.2:=λf N=>by
  have a:=KR (r:=f.2) (A:=1) (by
   have:=uy hd.nn N;exact Ts this i) (by have:=hd.nn f N;rw[xZ];grind)
  have:=UR q0 (X f N).2.2;exact⟨aL a wE,by lia⟩
 have W:∀{a b:Int}{k:Nat},k<=4->0<b->b.toNat<=10^(584*k)->divInt a b<=(VV:Rat)->-(VV:Rat)<=divInt a b->Bd a/\Bd b/\a.natAbs<=10^(32+584*k):=λ{a b k}hk h0 h1 h2 h3=>by
  have x:=ahK h0 h2 h3;have y:a.natAbs<=10^(32+584*k):=aL x (by rw[VS];exact Th _ h1);exact⟨uJ y wE,uJ (n:=584*k) wE wE,y⟩
 refine iy dv d.prs (λl o=>∃(t b:Int)(K J I:OT),o=[.fz (aa s),.fz (bb d),.fz (.lst (p.map aa)),.fz (.int t),.fz (.int b),K,J,I]/\0<b/\b.toNat<=10^(584*l.length)/\divInt t b=dw l λk=>p.getD k 0) ⟨0,1,.und,.und,.und,rfl,by decide,by simp,rfl⟩ ?_ ?_
 .rintro l f j _ e ⟨t,b,K,J,I,rfl,g,G,B⟩;have V:f∈d.prs:=by rw[e];simp
  obtain⟨p1,p2,_⟩:=X f V;have al:l.length+1<=d.prs.length:=by rw[e];simp
  have Y:p[f.1]?=some (p.getD f.1 0):=by rw[au,aj wE];rfl
  obtain⟨H,yh,yo⟩:=u.get f.1;have c:=cz f V;have h:=Hb (y:=λk=>p.getD k 0) (C:=(VV:Rat)) (by decide +kernel) (v:=l) (λw hw=>hd.nn w (by rw[e];exact UP _ hw)) (WE (bs:=f::j) (by rw[<- e];exact hd.nn) (by rw[<- e];exact i)) (λk=>(u.get k).2.1) λk=>(u.get k).2.2;rw[<- B]at h;obtain⟨P,F,_⟩:=W (k:=l.length) wE g G h.1 h.2;have dp:=f.2.den_pos;have dy:=(p.getD f.1 0).den_pos;have part:((f.2.den:Int)*((p.getD f.1 0).den:Int)).natAbs<=10^584:=by
   rw[VW,X0,X0,show 10^584=10^4*10^580 by rw[<- VS]];exact VY c.2 H.2
  have M:0<(f.2.den:Int)*((p.getD f.1 0).den:Int):=XZ wE wE;have ct:(f.2.num*(p.getD f.1 0).num).natAbs<=10^616:=by
   rw[VW,show 10^616=10^4*10^612 by rw[<- VS]];exact VY c.1 H.1
  have Z:=c.bq wP wP;have Q:=H.bq wP wP;refine⟨rfl,_,cT Y,⟨Z.2,Q.2⟩,⟨P,uJ part wP⟩,_,cT Y,⟨Z.1,Q.1⟩,⟨uJ ct wP,F⟩,⟨F,uJ part wP⟩,t*((f.2.den:Int)*((p.getD f.1 0).den:Int))+f.2.num*(p.getD f.1 0).num*b,b*((f.2.den:Int)*((p.getD f.1 0).den:Int)),.fz (.int (f.1:Nat)),.fz (aa f.2),.fz (.int ((f.2.den:Int)*((p.getD f.1 0).den:Int))),rfl,XZ g M,?_,?_⟩
  .rw[aA,length_singleton,Nat.mul_add,VS,Int.toNat_mul (XY g) (XY M)];exact VY G (by rw[Nat.mul_one];lia)
  .rw[Lj,YZ,<- B,<- JU _ _ (WP g) (WP M),<- Q2,rd,rd]
 .rintro _ ⟨t,b,K,J,I,rfl,g,G,B⟩;have h:=Hb (y:=λk=>p.getD k 0) (C:=(VV:Rat)) (by decide +kernel) (v:=d.prs) hd.nn i (λk=>(u.get k).2.1) λk=>(u.get k).2.2;rw[<- B]at h;obtain⟨P,F,tn⟩:=W (k:=d.prs.length) O g G h.1 h.2;have sz:=Ug hs;have U:=sz.bq wP wP;have E:Rz 30 3 d.pay:=⟨hd.pay.num,hd.pay.den⟩;have L:=E.bq wP wP;have sd:=s.den_pos;have pd:=d.pay.den_pos;have b4:b.natAbs<=10^2336:=aL (show b.natAbs<=10^(584*d.prs.length)by lia) (XG wP wE);have t4:t.natAbs<=10^2368:=aL tn (XG wP wE);have j:(b*(s.den:Int)).natAbs<=10^2338:=by
   rw[VW,X0,show 2338=2336+2 from rfl,VS];exact VY b4 sz.2
  have S:(t*s.num).natAbs<=10^2370:=by
   rw[VW,show 2370=2368+2 from rfl,VS];exact VY t4 sz.1
  refine⟨⟨P,U.1⟩,⟨F,U.2⟩,⟨L.1,uJ j wP⟩,⟨uJ S wP,L.2⟩,⟨uJ j wP,L.2⟩,q _ _ (XZ (XZ g wE) wE) ?_ ?_ ?_⟩
  .refine uJ (n:=2374) ?_ wP;have x:(d.pay.num*(b*(s.den:Int))).natAbs<=10^2373:=by
    rw[VW];exact aL (VY E.1 j) (by rw[<- VS];exact XG wP wP)
   have y:(t*s.num*(d.pay.den:Int)).natAbs<=10^2373:=by
    rw[VW,X0,show 2373=2370+3 from rfl,VS];exact VY S E.2
   have z:=Int.natAbs_add_le (d.pay.num*(b*(s.den:Int))) (t*s.num*(d.pay.den:Int));rw[show 2374=2373+1 from rfl,pow_succ];refine aL z ?_;lia
  .refine uJ (n:=2341) ?_ wP;rw[VW,X0,show 2341=2338+3 from rfl,VS];exact VY j E.2
  .unfold En;rw[Int.mul_comm (b*(s.den:Int)),<- JU _ _ (lF d.pay) (nG (WP g) (lF s)),rd,<- Q2,rd,B,XT]
def rW(a:xz):zI:=a.map λb=>if 0<b.length then some 0 else none
def adl(a:xz):cf a (rW a):=by
 refine⟨ak ..,λk d c b e=>?_⟩;unfold rW at b;rw[aq,e]at b;cases b;show Aa (if 0<c.length then some 0 else none) c.length=true;split
 .rename_i h;exact Zs h
 .rename_i h;exact Zs wE
def BJ(D:be):ST:=λb q=>∃(s:Rat)(l:Φ)(a:xz),b=[cK D s l a]/\GK l a/\q (.l1 ((rW a).map dT))
def OJ(T:Tx D):gT 4 tX kY (BJ D):=yB T.U0 Ox (λ_ _=>bG (bM (dZ (bH pO) vL vL ["room"] (d7 T.fK (bx (Ah vx T.jD T.pJ (Tw T) (KS:=lD)) bC)) (fZ (i:=0)) cI (Yr (bW Ir (bN cG T.cX WJ (bx (Bt vw T.jD T.jo (ja T) (bx vx bC) (KS:=lD)) bC)) bA) bA eY))))<|by
 rintro _ R ⟨s,l,a,rfl,h,q⟩;have f:=h.few;have j:=h.len;have g:(range l.length).map (λk=>dT (if 0<(a.getD k []).length then some 0 else none))=(rW a).map dT:=by
  refine TH λk=>?_;unfold rW;rw[aq,aq,aq];by_cases d:k<l.length
  .rw[UV d,aj (show k<a.length by lia)];show some (dT (if 0<(a.getD k []).length then some 0 else none))=some (dT (if 0<a[k].length then some 0 else none));rw[show a.getD k []=a[k]by rw[au,aj (show k<a.length by lia)];rfl]
  .rw[aM (by rw[W1];exact VX d),aM (show a.length<=k by lia)]
   rfl
 refine⟨⟨rfl,rfl⟩,s,l,a,rfl,⟨by lia,by lia⟩,by rw[rng,ak,W1];exact aL (show _<=1000 by lia) wP,Vl (λk=>dT (if 0<(a.getD k []).length then some 0 else none)) l.length (λk d N M b=>?_) ?_⟩
 .have e:=aj (show k<a.length by lia);rw[au,e]at b;have b:N (dT (if 0<a[k].length then some 0 else none)):=b;refine⟨⟨rfl,rfl⟩,s,l,a,k,_,rfl,h,e,?_⟩;by_cases c:0<a[k].length
  .rw[ZY c]at b;exact dV (Zs (by rw[ak];lia)) b
  .rw[ZZ c]at b;exact cg (Zp (by rw[ak];lia)) b
 .rw[g];exact q
def ET{b:xw}{a:wp}(e:b[k]?=some a):ck (b.map λa=>L2.T.lst (a.map bb)) (k:Nat)=some (.lst (a.map bb)):=cT (h:=λa=>L2.T.lst (a.map bb)) e
def VC{b:xw}{a:wp}{c:xF}(f:b[k]?=some a)(e:t[k]?=some c):Yx s y b t k=match c.bind λd=>a[d]? with|none=>0|some d=>En s y d:=by
 unfold Yx;rw[au,au,f,e]
 rfl
def MJ:ST:=λb q=>∃(s:Rat)(m c:Nat)(a:xw)(t:zI)(p:xf),b=[.lst (p.map aa),aa s,oY a,.lst (t.map dT)]/\Shr s/\DSk m c a/\m<=100/\PlD a t/\p.length=m/\YsB p/\(∀k,k<m->p.getD k 0=Yx s (λj=>p.getD j 0) a t k)/\q (.fz (.bl true))
def oQ(T:Tx D):gT 4 GD uG MJ:=yB T.ahk afz (λ_ _=>bF (cB (dg (cJ (bI (OD T) (bx vx (bx (bN cG T.cX WJ (bx vy bC)) bC)))))
  (bG (bM fj))
  bQ)
  (bF (d_ (d7 T.fK (bx (bN cG T.cX WJ (bx vy bC)) bC)) (b_ (n:=99) 4)
  (bF (bT 5 (dU (bx bA (bx bA bC))))
  (bF (cB (bW Bg (bJ vc vt) eY)
  (bG (bT 5 (bI (Fp T) (bx vw (bx (bJ (bJ vy vt) (bJ vc vt)) (bx vx bC))))))
  bQ)
  (bG (cB (dg (cJ (bI (ada T) (bx (bJ vx vt) (bx vn bC)))))
  (bG (bM fj))
  bQ)))))
  (bG (bM fj))))<|by
 rintro _ R ⟨s,m,P,f,t,p,rfl,L,hd,J,E,w,C,I,q⟩;have dl:(f.map λN=>L2.T.lst (N.map bb)).length=m:=by rw[ak,hd.len]
 refine⟨p,_,rfl,by rw[dl];exact w,by rw[dl];exact aL J wP,⟨by rw[dl];lia,by rw[dl];lia⟩,j7 (λk o=>∃x y,o=[.fz (.lst (p.map aa)),.fz (aa s),.fz (oY f),.fz (.lst (t.map dT)),x,y]) ⟨_,_,rfl⟩ ?_ ?_⟩
 .rintro k _ h ⟨x,y,rfl⟩;have h:k<m:=by rw[dl]at h;lia
  have A:k<f.length:=by rwa[hd.len]
  have l:=aj A;have K:k<t.length:=by rwa[E.len]
  have g:=aj K;have M:p[k]?=some (p.getD k 0):=by rw[au,aj wE];rfl
  have z:=(C.get k).1.bq wP wP;have e:=I k h;rw[VC l g]at e;have G:=E.ok k _ _ g l;have O:=(p.getD k 0).den_pos;dsimp only[hName];refine rm (λo=>∃a b:Int,o=[.fz (.lst (p.map aa)),.fz (aa s),.fz (oY f),.fz (.lst (t.map dT)),.fz (.int (k:Nat)),.fz (pT a b)]/\0<b/\Bd a/\Bd b/\divInt a b=p.getD k 0) ?_ λY F=>?_
  .rintro _ ⟨a,b,rfl,v,u,r,i⟩;refine⟨_,cT M,_,_,a,b,rfl,by lia,v,⟨z.1,z.2,u,r⟩,cg ?_ ⟨_,_,rfl⟩⟩;rw[rd,i,Zs rfl]
   rfl
  .refine⟨_,cT g,?_⟩;cases c:t[k]with
   |none =>
    rw[c]at e;exact F _ ⟨0,1,rfl,by decide,ig wP,ig wP,by rw[e];exact JS _⟩
   |some j =>
    rw[c]at e G g;have B:j<f[k].length:=of_decide_eq_true G;have H:=aj B;have e:p.getD k 0=match f[k][j]? with|none=>0|some d=>En s _ d:=e
    rw[H]at e;refine⟨_,ET l,_,cT g,?_⟩;refine⟨_,cT H,s,m,f[k][j],p,rfl,L,hd.ok _ (aU A) _ (aU B),w,C,λa b v u r i=>F _ ⟨a,b,rfl,v,u,r,i.trans e.symm⟩⟩
 .rintro _ ⟨x,y,rfl⟩;exact q
open Rw (sg iw gF cC iR jg Big vr)
structure YsK(e:Nat)(p:xf):Prop where
 cm:∃L:Nat,0<L/\L<=10^e/\∀y∈p,y.den ∣ L
 hi:∀y∈p,y<=(VV:Rat)
 lo:∀y∈p,-(VV:Rat)<=y
def YsK.b{e:Nat}(h:YsK e p)(g:e<=580):YsB p:=by
 obtain⟨L,c,a,f⟩:=h.cm;exact⟨λy d=>aL (UR c (f y d)) (aL a (XG wP g)),h.hi,h.lo⟩
def acV{a:xm}(h:Bj s a y):∀r∈E_ (Cw s a) (a.map oU),sg (λj=>r.getD j 0*y j) a.length=r.getD a.length 0:=λr b=>by
 obtain⟨i,d,rfl⟩:=JQ b;rw[ee,<- h i d];exact cC λj c=>ZH (· * y j) (Zy _ _ c)
def Y8{a:xz}(d:∀e∈a,∀o∈e,dk s a.length o.ways)(b:cf a t)(h:uc s a t W):Bj s (ca a t) λk=>W.getD k 0:=by
 have c:=K4 b;refine(Qf (by rw[c];exact J1 d b)).mpr λi f=>?_;exact h.2 i (by rwa[<- c])
def W0{a:xz}(h:∀n∈a,∀o∈n,dk s a.length o.ways)(d:cf a t)(j:Bj s (ca a t) y):uc s a t ((range a.length).map y):=by
 have f:((range a.length).map y).length=a.length:=by rw[ak,W1]
 have b:∀k,k<a.length->((range a.length).map y).getD k 0=y k:=λk m=>by rw[au,aq,UV m];rfl
 refine⟨f,λi c=>?_⟩;have g:=J1 h d;have e:=K4 d;rw[b i c,(Qf (by rwa[e])).mp j i (by rwa[e])];unfold sX;rw[VJ (x:=λk=>((range a.length).map y).getD k 0) (z:=y) λw l=>b w.1 ((g i c).lt w l)]
def mem_getD(l:p.length=m){y:Rat}(h:y∈p):∃k,k<m/\y=p.getD k 0:=by
 obtain⟨k,e⟩:=aV h;exact⟨k,by rw[<- l];exact(ao.mp e).1,by rw[au,e];rfl⟩
def _w(h:m<=6):(2*(m+1)*((10^30+1)*(100*4000*1000)))^m<=10^244:=by
 obtain rfl|rfl|rfl|rfl|rfl|rfl|rfl:m=0\/m=1\/m=2\/m=3\/m=4\/m=5\/m=6:=by lia
 all_goals decide +kernel
def aea(h:m<=8):(2*(m+1)*((9+1)*(100*1*1)))^m<=10^244:=by
 obtain rfl|rfl|rfl|rfl|rfl|rfl|rfl|rfl|rfl:m=0\/m=1\/m=2\/m=3\/m=4\/m=5\/m=6\/m=7\/m=8:=by lia
 all_goals decide +kernel
def X3{a:xz}(m:Shr s)(h:a.length<=100)(j:∀f∈a,∀o∈f,OfB a.length R Q O o)(E:1<=Q)(C:1<=O)(A:R<=10^30)(B:N=(R+1)*(100*O*Q))(l:(2*(a.length+1)*N)^a.length<=10^244)(x:N<=NN)(n:cf a t)(c:uc s a t W):YsK 244 W:=by
 have g:=K4 n;have H:=Ff (t:=t) j;have w:∀f∈a,∀o∈f,dk s a.length o.ways:=λf F o z=>let b:=j f F o z;⟨b.lt,b.nn,b.one⟩;have J:(2*a.length*N)^a.length<=NN:=aL (Nat.pow_le_pow_left (jp _ wE) _) (aL l (XG wP wP));have v:=Iq m (cs:=ca a t) (aL (WH g) h) (by rwa[g]) E C B (by rwa[g]) x;have u:=Y8 w n c;obtain⟨D,G,q,p⟩:=ZL v (y:=λk=>W.getD k 0) (by rw[vA];exact acV u);rw[vA,g]at q p;have I:∀i,i<a.length->CoB a.length R Q O ((ca a t).getD i none):=λi K=>H _ (by rw[au,aj (by rwa[g])];exact aU _);have r:=abX m I A (y:=λk=>W.getD k 0) c.2;refine⟨⟨D,G,aL q l,λy d=>?_⟩,λy d=>?_,λy d=>?_⟩
 .obtain⟨k,e,rfl⟩:=mem_getD c.1 d;exact p k e
 .obtain⟨k,e,rfl⟩:=mem_getD c.1 d;exact(r k e).1
 .obtain⟨k,e,rfl⟩:=mem_getD c.1 d;exact(r k e).2
def ael{d:xw}{a:xz}(f:Shr s)(hd:DSk m 4 d)(i:dL m d)(c:sI d a)(g:cf a t)(e:uc s a t W):YsK 244 W:=by
 have b:a.length=m:=by rw[c.len,hd.len]
 rcases i with h|⟨h,j⟩
 .exact X3 f wE (by rw[b];exact py hd c) wP wP wP rfl (_w (aL (WH b) h)) (by decide +kernel) g e
 .exact X3 f wE (by rw[b];exact Wz hd j c) wP wP wP rfl (aea (aL (WH b) h)) (by decide +kernel) g e
def dr(a:xw)(t:zI)(k:Nat):Option LD:=(t.getD k none).bind λd=>(a.getD k [])[d]?
def fk(a:xw)(t:zI)(k:Nat):Nat:=match dr a t k with
 |none=>1
 |some d=>c7 1 (d.prs.map (·.2))*d.pay.den
def agJ{f:xw}{a:xz}(b:sI f a)(h:cf a t):PlD f t:=by
 refine⟨by rw[h.len,b.len],λk d m l e=>?_⟩;have g:k<a.length:=by rw[b.len];exact(ao.mp e).1
 have c:=aj g;obtain⟨n,i,j⟩:=b.at_ k m _ e c;have:=h.ok k d _ l c;rw[j,ak,VU,i,US]at this;exact this
def rD(r:Rat):PyData:=.tuple [.int r.num,.int r.den]
def agH:EqD aa rD:=⟨λ_=>rfl,λ_=>rfl,λr=>by unfold rD PyData.depth PyData.depthAll PyData.depthAll PyData.depthAll PyData.depth;decide,λx y=>by
 unfold rD;rw[ov,<- decide_and];exact decide_eq_decide.mpr ⟨λz=>Rat.ext z.1 (by have:=z.2;lia),λz=>by rw[z];exact⟨rfl,rfl⟩⟩⟩
def N4{t u:T}{a:xk}{q:OT->Prop}(h:q (.fz u)):ki (.tup (t::u::a)) (.int 1) q:=h
abbrev IV(k:Nat)(p:Rat):LD:=⟨0,p,[(k,1)]⟩
def Mb(b:xw):Prop:=∀a∈b,∀d∈a,d.pay.den=1/\d.pay.num.natAbs<=9/\∀p∈d.prs,p.2=1
def U7{p:Rat}(b:p.den=1)(a:p.num.natAbs<=9):g0 p:=⟨aL a wP,by exact aL (WH b) wP⟩
def Jf:ST:=λd q=>∃(c:Int)(m:Nat),d=[.int c,.int ((m+1:Nat):Int)]/\m<26/\∀a:xw,DSk (m+1) 4 a->(∀b∈a,b.length=2)->Mb a->q (.l1 (a.map λb=>.lst (b.map bb)))
def Wx(T:Tx D):gT 2 yO oO Jf:=yB T.Y_ X7 (λ_ _=>bF (bT 2 (bL cW bA (bL cF (bJ (bI (gb T) (bx vx (bx bA bC))) bA) bA)))
  (bF (iY 3 (dJ bC))
  (bF (d_ (d7 T.fK (bx (bL tO vw bA) bC)) (b_ (n:=99) 4)
  (bG (qw 3 (eH.out (pK (bU (fH (bU eG (bU (fH (bU eG (bU eG dH))) (bU (pK (bU (fH (bU (QB 4) (bU (fH (bU eG (bU eG dH))) dH))) dH)) dH)))) (bU (fH (bU eG (bU (fH (bU eG (bU eG dH))) (bU (pK (bU (fH (bU (Sq cW (QB 4) eG) (bU (fH (bU eG (bU eG dH))) dH))) dH)) dH)))) dH)))))))
  (bG (Hi 3 (bM (bL cW vc (eH.out (pK (bU (pK (bU (fH (bU eG (bU (fH (bU eG (bU eG dH))) (bU (pK (bU (fH (bU (Sq tO (QB 1) eG) (bU (fH (bU eG (bU eG dH))) dH))) dH)) dH)))) (bU (fH (bU eG (bU (fH (bU (QB 2) (bU eG dH))) (bU (pK (bU (fH (bU (Sq tO (QB 1) eG) (bU (fH (bU eG (bU eG dH))) dH))) dH)) dH)))) dH))) dH))))))))))<|by
 rintro _ R ⟨c,m,rfl,l,q⟩;have i:=jW c 0;have h:((m+1:Nat):Int)-1=(m:Nat):=by lia
 obtain⟨p,g,j⟩ : ∃p:Nat,1+z3 c 0%9=(p:Nat)/\p<=9:=⟨(1+z3 c 0%9).toNat,by lia,by lia⟩;refine⟨c,1,rfl,by decide,_,dW (k:=0),by decide,?_⟩;refine⟨⟨by lia,by lia⟩,?_⟩;show wY _ _ _ (rng 0 ((((m+1:Nat):Int)-1).toNat)) _;rw[show((((m+1:Nat):Int)-1).toNat)=m by lia];refine j7 (λk o=>∃x,o=[.fz (.int c),.fz (.int ((m+1:Nat):Int)),.fz (.int (p:Nat)),.l1 (((range k).map λk=>[IV k 0,IV (k+1) 0]).map λb=>.lst (b.map bb)),x]) ⟨.und,?_⟩ ?_ ?_
 .rw[<- g];rfl
 .rintro k _ e ⟨x,rfl⟩;refine⟨?_,.fz (.int (k:Nat)),?_⟩
  .rw[ak,ak,W1];exact aR (show k<100 by lia) wP
  .rw[range_succ,bf,bf]
   rfl
 .rintro _ ⟨x,rfl⟩;have f:=q ((range m).map (λk=>[IV k 0,IV (k+1) 0])++[[IV m 0,IV m ((p:Int):Rat)]]) ⟨by simp,λb a=>?_,λb a d hd=>?_⟩ (λb a=>?_) (λb a d hd=>?_)
  .rw[bf]at f;refine⟨?_,?_⟩
   .show(((range m).map λk=>[IV k 0,IV (k+1) 0]).map λb=>L2.T.lst (b.map bb)).length+1<=sizeLine;rw[ak,ak,W1];exact aL (show m+1<=100 by lia) wP
   .show R (OT.l1 (_++[L2.T.lst [L2.T.tup [.int 0,.tup [.int 0,.int 1],.lst [.tup [.int (((m+1:Nat):Int)-1),.tup [.int 1,.int 1]]]],L2.T.tup [.int 0,.tup [.int (p:Nat),.int 1],.lst [.tup [.int (((m+1:Nat):Int)-1),.tup [.int 1,.int 1]]]]]]));rwa[h]
  .rcases Y1.mp a with z|z
   .obtain⟨k,_,rfl⟩:=YV.mp z;exact U1 rfl
   .rw[YR.mp z];exact U1 rfl
  .rcases Y1.mp a with z|z
   .obtain⟨k,e,rfl⟩:=YV.mp z;have:=List.mem_range.mp e;rcases YU.mp hd with rfl|z
    .exact .sure (WS _ this) (U7 rfl wP)
    .rw[YR.mp z];exact .sure (Nat.succ_lt_succ this) (U7 rfl wP)
   .rw[YR.mp z]at hd;rcases YU.mp hd with rfl|z
    .exact .sure (X2 _) (U7 rfl wP)
    .rw[YR.mp z];exact .sure (X2 _) (U7 rfl (by show(p:Int).natAbs<=9;omega))
  .rcases Y1.mp a with z|z
   .obtain⟨k,_,rfl⟩:=YV.mp z
    rfl
   .rw[YR.mp z]
    rfl
  .rcases Y1.mp a with z|z
   .obtain⟨k,e,rfl⟩:=YV.mp z;rcases YU.mp hd with rfl|z
    .exact⟨rfl,aZ 9,by simp⟩
    .rw[YR.mp z];exact⟨rfl,aZ 9,by simp⟩
   .rw[YR.mp z]at hd;rcases YU.mp hd with rfl|z
    .exact⟨rfl,aZ 9,by simp⟩
    .rw[YR.mp z];exact⟨rfl,by show(p:Int).natAbs<=9;omega,by simp⟩
def VP:ST:=λb q=>∃l:xo,b=[fq l]/\l.length<=63/\∀(m:Nat)(a:xw)(x:OT),frz x=oY a->DSk m 4 a->dL m a->(z3 (l.getD 0 0) 0%8=3->∀c∈a,c.length=2)->q x
def afX(T:Tx D):gT 6 Mi xM VP:=yB T.ahM afA (λf _=>bF (bT 1 (bI (gb T) (bx (bI (eZ T) (bx vx (bx bA bC))) (bx bA bC))))
  (bF (cB (bW (z5 f.units) (bL cF (bJ vw bA) bA) bA)
  (bG (bM (bI (Wx T) (bx (bI (eZ T) (bx vx (bx bA bC))) (bx (bL cW bA (bL cF (bJ vw bA) bA)) bC)))))
  bQ)
  (bG (bM (bI (adC T) (bx vx (bx bA (bx (bI (ahJ T) (bx (bI (eZ T) (bx vx (bx bA bC))) bC)) (bx bA bC)))))))))<|by
 rintro _ R ⟨l,rfl,a,q⟩;have j:=jW (l.getD 0 0) 1;refine⟨l,0,rfl,by exact aL a wP,_,2,rfl,by decide,_,dW (k:=0),by decide,cR (λh=>?_) λh=>?_⟩
 .refine⟨l,5,rfl,by exact aL a wP,_,dW (k:=1),by decide,?_⟩;obtain⟨m,i,c⟩ : ∃m:Nat,4+z3 (l.getD 0 0) 1%5=((m+1:Nat):Int)/\m<=7:=⟨(3+z3 (l.getD 0 0) 1%5).toNat,by lia,by lia⟩;exact⟨_,m,by rw[<- i];rfl,by exact Y3 c wP,λb hd g e=>q (m+1) b _ rfl hd (.inr ⟨by exact succ_le_succ c,e⟩) λ_=>g⟩
 .refine⟨l,0,rfl,by exact aL a wP,_,rfl,λm d=>⟨l,5,m,4,rfl,by exact aL a wP,by exact aL d wP,by decide,λb hd=>q m b _ (_x b) hd (.inl d) λz=>absurd z h⟩⟩
def Xj:ST:=λb q=>∃(l:xo)(a:xw),b=[fq l,oY a]/\l.length<=63/\a.length<=100/\(z3 (l.getD 0 0) 0%8=3->∀c∈a,c.length=2)/\∀t:zI,PlD a t->q (.l1 (t.map dT))
def afc(T:Tx D):gT 3 Nj yW Xj:=yB T.aic afj (λf _=>bF (cB (QW.qt (Ve (bW (z5 f.units) (bL cF (bJ (bI (gb T) (bx (bI (eZ T) (bx vx (bx bA bC))) (bx bA bC))) bA) bA) bA) (JX (bW (z5 f.units) (bL cF (bI (eZ T) (bx vx (bx bA bC))) bA) bA))))
  (bG (bM (dZ (bH J_) RQ RQ ["_law_doors_here"] (cL vw) (fZ (i:=0)) cI bA)))
  bQ)
  (bG (bM (bI (Hl T) (bx (bI (eZ T) (bx vx (bx bA bC))) (bx vw bC))))))<|by
 rintro _ R ⟨l,a,rfl,c,dl,p,q⟩;refine KW (λo=>o=[.fz (fq l),.fz (oY a)]) ?_ λY g=>?_
 .rintro _ rfl;exact⟨l,3,rfl,by exact aL c wP,_,a,rfl,dl,q⟩
 .refine⟨l,0,rfl,by exact aL c wP,_,1,rfl,by decide,_,dW (k:=0),by decide,cR (λh=>⟨l,3,rfl,by exact aL c wP,by decide,cR (λr=>?_) λ_=>g _ rfl⟩) λ_=>g _ rfl⟩;refine⟨by rw[ak];exact aL dl wP,comp_map (λb=>L2.T.lst (b.map bb)) (λ_=>.int 0) a (λb _ N M n=>n) ?_⟩;have e:a.map (λ_=>L2.T.int 0)=(a.map λ_=>some 0).map dT:=by rw[WG];rfl
  rw[e];refine q _ ⟨ak ..,λk d b m j=>?_⟩;rw[aq,j]at m;cases m;have:=p h b (aC j);exact Zs wE
def R7(T:Tx D):nf P w K mg base 10 lR iG (mH D):=yf T.Mt λF=>by
 refine F.okTX oE (λb _=>bF (afL (NQ T) (bx vx (bx vw bC)))
  (bF (iY 2 (dJ bC))
  (bF (bT 3 (jU Bk T.lG boot_list (bx vw bC)))
  (bF (Li (QW.qt (fW (bW (z5 b.units) (Vu 2 (bN cG T.cX WJ (bx vy bC))) bA) (fu (bW (jZ b.units) vc (bJ (vq 2 (wu bA)) bA)))))
  (bF (qw 2 (dU (bx vc (bx (bI (Rj T) (bx vx (bx vc bC))) bC))))
  (bG (bT 3 (bI (Hn T) (bx vx (bx vc (bx (bJ (vq 2 (wu bA)) bA) bC))))))))
  (bG (mX 2)))))) ?_
 rintro _ R Z ⟨s,l,a,v,w,rfl,h,c,q⟩;exact⟨s,l,a,v,w,rfl,h,c,q⟩
def NT(D:be):ST:=λb q=>∃(s:Rat)(l:Φ)(a:xz)(v w:L2.T),b=[cK D s l a,v]/\GK l a/\iF a v w/\q (.fz (.tup [.str "plan",w]))
def Y0(T:Tx D):gT 11 Dt qU (NT D):=ya T.ac3 λF=>by
 refine F.ok LK (λj H Q E h=>?_) (λag A n s H j Q E N h=>?_)
 .obtain⟨L,R,r,⟨_,_,_,_,_,rfl,_⟩,_⟩:=h;exact r.len
 .obtain⟨L,R,r,⟨M,l,p,J,g,rfl,P,O,q⟩,k⟩:=h;obtain⟨o,v,rfl⟩:=GU r.len
  refine⟨_,(jc (adZ (i:=2) LK.nd rfl rfl (by rfl) T.Mw T.aek T.af4 rfl rfl rfl (λ_ _ _ X=>(jj (gO (XM (R7 T) N.md (by rfl) X (cj (pv 0) (cj (pv 1) dI))))))
    (λ_ _=>(jj (ud (Vd (cj QX (cj (afw (K':=K) rfl (pv 2) rfl) dI)))))))
   (jj (ud (Vd (cj QX (cj F4 dI)))))),?_⟩
  refine aeM λR1 V=>?_;refine sV ⟨λC d S c=>C=.ref D.NoPlan/\S=[some o,some v,none]/\∃B u,d=some B/\zO H c/\c B=some (.xd [("room",u)])/\Rep K c u g,?_,?_⟩
  .refine⟨_,rfl,_,rfl,_,λ_=>False,λC x m=>C=D.NoPlan/\x=(["room"] : Φ)/\m=[g],r,⟨M,l,p,J,g,rfl,P,O,rfl,rfl,rfl⟩,(λ_ _ _ z=>z.elim),?_⟩;rintro c C d x m dP ⟨rfl,rfl,rfl⟩ b w e
   cases e with|cons e t=>cases t;exact⟨rfl,rfl,d,_,rfl,b,w,e⟩
  .rintro _ _ I c ⟨rfl,rfl,d,u,rfl,b,w,e⟩;refine⟨D.NoPlan,rfl,T.sm_NoPlan,λa U=>?_⟩;have f:zO c (upd c a (XO a D.NoPlan (some d))):=zO.upd U;have y:upd c a (XO a D.NoPlan (some d)) a=some (XO a D.NoPlan (some d)):=bY;generalize upd c a (XO a D.NoPlan (some d))=H1 at f y ⊢;exact⟨_,rfl,a,D.NoPlan,d,_,u,rfl,y,f _ _ w,T.xk_NoPlan,T.hd_NoPlan,T.z6,rfl,(show 2<=sizeLine by decide),λt Y G Z W=>k Y (.ref t) _ q (b.trans (f.trans G)) (NR.fz (by
    rw[VF];exact .tup (.inl (Rd.of W)) (.cons (.str _) (.cons (e.same (f.trans G)) .nil))))⟩
def Pm(G:List J):(gD G (some 1) none).length=G.length-1:=by
 show(gD G (some ((1:Nat):Int)) none).length=_;unfold gD;rw[HT.vK,HT.W2,aY,U2];lia
def UN(G:List J):(gD G none (some (-1))).length=G.length-1:=by
 unfold gD;rw[HT.W2,aY,U2];show min ((if(-1:Int)<0 then(-1+(G.length:Int)).toNat else min (-1:Int).toNat G.length)-0) (G.length-0)=_;rw[ZY wP];lia
def On{a:xz}(c:cf a t){u:L2.T}{es:List bO}(b:(t.map dT)[j]?=some u)(f:a[j]?=some es):NK u es.length=some true:=by
 rw[aq]at b;cases e:t[j]? with
 |none=>rw[e]at b;cases b
 |some d =>
  rw[e]at b;cases b;cases d with
  |none =>
   have:=of_decide_eq_true (c.ok j none es e f);show NK .non es.length=_;rw[this];rfl
  |some k =>
   have:=of_decide_eq_true (c.ok j (some k) es e f);show NK (.int (k:Nat)) es.length=_;unfold NK;rw[ZZ wE];refine ZH some ?_;rw[Zs (WZ _),Zs wE];rfl
def Hd(c:Int)(h:0<m):∃k:Nat,k<m/\c%(m:Nat)=(k:Nat):=by
 have a:=Z3 c (show((m:Nat):Int)≠0 by omega);have b:=YY c (show(0:Int)<(m:Nat)by lia);exact⟨(c%(m:Nat)).toNat,by lia,by lia⟩
def Qm:ST:=λe q=>∃(c:Int)(t:zI)(b:xw)(m d:Nat)(a:xz),e=[.int c,.lst (t.map dT),oY b]/\DSk m d b/\m<=100/\d<=100/\a.map List.length=b.map List.length/\cf a t/\∀v w,iF a v w->q (.fz (.tup [w,v]))
def ab0(T:Tx D):gT 2 Hh uD Qm:=ya T.aeN λ{f U}F=>by
 refine F.okT abN (λI _=>bF (bT 3 (bI (gb T) (bx vx (bx bA bC))))
  (bF (cB (QW.qt (fW (bW (z5 I.units) (bL cF (bJ vc bA) bA) bA) (fu (bW (z5 I.units) (bN cG T.cX WJ (bx vy bC)) bA))))
  (bF (bT 7 (dJ (bx eY (bx (jU ade T.Gd boot_tuple (bx vw bC)) (bx (bL cW vw (dJ (bx eY bC))) (bx (bL cW vw (dJ (bx bA bC))) (bx nM (bx bA (bx fj bC)))))))))
  (bF (cB (bW Ir (bN cG T.cX WJ (bx vw bC)) bA)
  (bG (bT 7 (bL cW (qv 7) (dJ (bx (ju vw (g_ bA) Bm) (bx (ju vw Bm (g_ (wu bA))) (bx (dJ bC) bC)))))))
  bQ)
  (bG (bM (dU (bx eY (bx (bJ (qv 7) (bL cF (bJ vc bA) (bN cG T.cX WJ (bx (qv 7) bC)))) bC)))))))
  bQ)
  (bF (bT 4 (bL cF (bJ vc bA) (bN cG T.cX WJ (bx vy bC))))
  (bF (bT 5 (bL cW (bL cW vt bA) (bL cF (bJ vc bA) (bN cG T.cX WJ (bx vy bC)))))
  (bF (iY 6 (jU Bk T.lG boot_list (bx vw bC)))
  (bF (yj 6 (bI (DO T) (bx (bJ vc bA) (bx (bN cG T.cX WJ (bx (bJ vy vt) bC)) bC))) vt)
  (bF (cB (bW rY vn (bN cG T.cX WJ (bx vy bC)))
  (bG (yj 6 (bI (DO T) (bx (bJ vc bA) (bx (bN cG T.cX WJ (bx (bJ vy vn) bC)) bC))) vn))
  bQ)
  (bG (Hi 6 (bM (dU (bx vt (bx (qv 6) bC))))))))))))) ?_
 rintro _ R ⟨c,t,i,m,mo,g,rfl,hd,m1,E,M,J,q⟩;have ol:g.length=m:=by rw[<- hd.len,<- ak (f:=List.length),M,ak]
 have v:(t.map dT).length=g.length:=by rw[ak,J.len]
 have dl:(i.map λo=>L2.T.lst (o.map bb)).length=m:=by rw[ak,hd.len]
 have U:=λ(j:Nat)(u:L2.T)(B:List bO)=>On J (j:=j) (u:=u) (es:=B);generalize t.map dT=n at v U ⊢;have s:n.length+1<=sizeLine:=aL (show n.length+1<=101 by lia) wP;refine⟨c,5,rfl,by decide,_,dW (k:=0),by decide,cR (λ_=>?a) λh3=>cR (λ_=>?b) λh0=>?c⟩
 case c =>
  have H:0<m:=by rw[dl]at h0;lia
  obtain⟨k,G,k2⟩:=Hd (z3 c 1) H;obtain⟨l,l1,W⟩:=Hd (z3 c 2) H;have Y:z3 c 1%(((i.map λo=>L2.T.lst (o.map bb)).length:Nat):Int)=(k:Nat):=by rwa[dl]
  have V:z3 c 2%(((i.map λo=>L2.T.lst (o.map bb)).length:Nat):Int)=(l:Nat):=by rw[dl];exact W
  refine⟨_,dW (k:=1),by rw[dl];lia,?_⟩;rw[Y];refine⟨_,dW (k:=2),by rw[dl];lia,?_⟩;rw[V];have C:∀k,k<m->i[k]?=some (i.getD k []):=λk K=>by rw[au,aj (by rwa[hd.len])];rfl
  have y:∀k,k<m->(i.getD k []).length<=100:=λk K=>aL (hd.few _ (aC (C k K))) E;have r:∀{a:Int}{k:Nat},[L2.T.int a,L2.T.int ((((i.getD k []).map bb).length:Nat):Int)]=[L2.T.int a,L2.T.int (((i.getD k []).length:Nat):Int)]:=by intro a k;rw[ak]
  have A:g[k]?=some g[k]:=aj wE;have S:(g[k]).length=(i.getD k []).length:=by
   have:=ZH (·[k]?) M;simp only[aq,A,C k G]at this;exact Option.some.inj this
  have N:∀p:List L2.T,p.length=g.length->(∀j,j<k->p[j]?=n[j]?)->(∀d,NK d (i.getD k []).length=some false->p[k]?=some d->R (.fz (.tup [.int (k:Nat),.lst p]))):=λp O Q d w P =>
   q _ _ (.at O (λj u B x e1 e2=>U j u B (by rw[<- Q j x];exact e1) e2) P A (by rwa[S]))
  refine⟨_,dW (k:=3),.lst ((i.getD k []).map bb),cT (h:=λo=>L2.T.lst (o.map bb)) (C k G),z3 c 3,(i.getD k []).length,r,y k G,λd w=>⟨k,wI wE,?_⟩⟩;have X:(k:Int)+1+(l:Int)=((k+1+l:Nat):Int):=by lia
  rw[X];refine cR (λh=>?_) λh=>?_
  .have L:k+1+l<m:=by rw[dl]at h;lia
   refine⟨_,dW (k:=4),.lst ((i.getD (k+1+l) []).map bb),cT (h:=λo=>L2.T.lst (o.map bb)) (C _ L),z3 c 4,(i.getD (k+1+l) []).length,r,y _ L,λt' Z=>⟨k+1+l,wI (by rw[VZ];lia),?_⟩⟩;refine N _ (by rw[VZ,VZ,v]) (λj x=>?_) d w ?_
   .rw[VT wE,VT (UY x)]
   .rw[VT wE,UZ wE];rfl
  .refine N _ (by rw[VZ,v]) (λj x=>?_) d w ?_
   .rw[VT (UY x)]
   .rw[UZ wE];rfl
 all_goals
  refine⟨s,s,cR (λhl=>⟨(show 10<=sizeLine by decide),?_⟩) λhl=>?_⟩
  .obtain⟨d,w,e⟩:=JV [L2.T.non,.tup n,.lst (n++[.non]),.lst (n++[.int 0]),.str "plan",.int 0,.bl true,.lst (gD n (some 1) none),.lst (gD n none (some (-1))),.lst []] (z3 c 1) (m:=10) rfl wP;refine⟨_,dW (k:=1),(show(0:Int)<((10:Nat):Int)by decide),d,e,q d .non ?_⟩
   revert d
   simp only[YU,VQ,or_false];rintro d (rfl|rfl|rfl|rfl|rfl|rfl|rfl|rfl|rfl|rfl) _<;>first|exact .kind rfl|(refine .len ?_;first|rw[aA,v];simp|rw[Pm];lia|rw[UN];lia|exact λ(z:0=g.length)=>by lia)
  .obtain⟨d,w,e⟩:=JV [L2.T.non,.tup n,.lst (n++[.non]),.lst (n++[.int 0]),.str "plan",.int 0,.bl true] (z3 c 1) (m:=7) rfl wP;refine⟨_,dW (k:=1),(show(0:Int)<((7:Nat):Int)by decide),d,e,q d .non ?_⟩
   revert d
   simp only[YU,VQ,or_false];rintro d (rfl|rfl|rfl|rfl|rfl|rfl|rfl) _<;>first|exact .kind rfl|(refine .len ?_;rw[aA,v];simp)
def Fj(D:be):ST:=λe q=>∃(s:Rat)(l:Φ)(a:xz)(c:Int)(t:zI)(b:xw)(m d:Nat),e=[cK D s l a,.int c,.lst (t.map dT),oY b]/\GK l a/\DSk m d b/\m<=100/\d<=100/\a.map List.length=b.map List.length/\cf a t/\q (.fz (.bl true))
def R4(T:Tx D):gT 12 v7 lW (Fj D):=yB T.Yc TF (λi _=>bF (zZ (bI (ab0 T) (bx vw (bx vy (bx vc bC)))) (fL (n:=2) (bV (b_ (n:=99) 4) (bV (b_ (n:=99) 5) dO))))
  (bF (zZ (bI (Y0 T) (bx vx (bx vn bC))) (fL (n:=2) (bV (b_ (n:=99) 6) (bV (b_ (n:=99) 7) dO))))
  (bG (bM (wO (mq (z5 i.units) (qv 6) nM) (wO (FU (h_ .bool (qv 7) T.cH T.Mu boot_bool)) (zu (mq (z5 i.units) (qv 7) vt))))))))<|by
 rintro _ R ⟨s,l,d,c,t,u,m,o,rfl,h,hd,p,f,j,r,q⟩;refine⟨c,t,u,m,o,d,rfl,hd,p,f,j,r,λv w g=>⟨rfl,s,l,d,v,w,rfl,h,g,rfl,?_⟩⟩;cases g with
 |kind e=>exact q
 |len e=>exact q
 |@«at» x k a B b y z j A =>
  have e:decide (((k:Nat):Int)=(k:Nat)):=Zs rfl;rw[<- e]at q;exact q
structure kI(s:Rat)(ae:xw)(p:xf)(t aS:zI):Prop where
 len:aS.length=t.length
 none:∀k:Nat,t[k]?=some none->aS[k]?=some none
 some:∀(k d:Nat)(ds:wp),t[k]?=some (some d)->ae[k]?=some ds->∃b,aS[k]?=some (some b)/\BR (ds.map (En s λj=>p.getD j 0)) d b
def abV{B:Rat}(k:0<B){d b:Nat}(f:BR (h.map (· * B)) d b):BR h d b:=by
 have g:∀i,(h.map (· * B)).getD i 0=h.getD i 0*B:=λi=>by
  rw[au,au,aq];cases h[i]? with
  |none=>exact(Rat.zero_mul B).symm
  |some r=>rfl
 have le:∀a b:Rat,a*B<=b*B->a<=b:=λa b f=>Rat.not_lt.mp λlt=>absurd f (Rat.not_le.mpr ((Rat.mul_lt_mul_right k).mpr lt));rcases f with⟨a,e⟩|⟨a,l,c,n⟩
 .exact .inl ⟨λx j=>le _ _ (by have:=a _ (YV.mpr ⟨x,j,rfl⟩);rwa[g]at this),e⟩
 .refine .inr ⟨by rw[g,g]at a;exact(Rat.mul_lt_mul_right k).mp a,by rwa[ak]at l,λx j=>le _ _ (by have:=c _ (YV.mpr ⟨x,j,rfl⟩);rwa[g]at this),λi m e=>n i m (by rw[g,g,e])⟩
def Hr{v:Nat}{l:xw}{a:xz}{r:zI}(hd:DSk m v l)(o:sI l a)(h:gw s a p t r):kI s l p t r:=by
 refine⟨h.len,h.none,λk d c e g=>?_⟩;have x:k<a.length:=by rw[o.len];exact(ao.mp g).1
 have q:=aj x;obtain⟨u,A,i⟩:=o.at_ k c _ g q;obtain⟨b,z,n⟩:=h.some k d _ e q;refine⟨b,z,abV (B:=((c7 1 p:Nat):Rat)) (cv (by have:=gU p UQ;lia)) ?_⟩;have y:a[k].map (m9 s (tops (c7 1 p) p) (c7 1 p))=(c.map (En s λj=>p.getD j 0)).map (· * ((c7 1 p:Nat):Rat)):=by
  rw[i,WG,WG];refine TH λj=>?_;rw[aq,aq];by_cases f:j<c.length
  .rw[aj (show j<(u.zip c).length by rw[VU];lia),getElem_zip,aj f];have w:=hd.ok c (aC g) _ (aU f);show some (m9 s _ _ (iz _ c[j]))=some (En s _ c[j]*_);rw[Ue,HA w]
  .rw[aM (by rw[VU];lia),aM (VX f)]
   rfl
 rw[y]at n;exact n
def Xm:ST:=λa q=>∃(u:Γ)(d b:Nat),a=[.lst (u.map λp=>pT p.1 p.2),.int (d:Nat),.int (b:Nat)]/\u.length<=1000/\d<u.length/\(∀p∈u,0<p.2/\Bd p.1/\Bd p.2)/\BR (u.map λp=>divInt p.1 p.2) d b/\q (.fz (.bl true))
def adp(T:Tx D):gT 2 MP zy Xm:=yB T.aiw afQ (λE _=>bF (cB (QW.qt (fW (dg (cJ (h_ .int vy T.cH T.Qk boot_int))) (fW (cJ (h_ .bool vy T.cH T.Mu boot_bool)) (fW (bW rY vy bA) (fu (bW oP vy (bN cG T.cX WJ (bx vx bC))))))))
  (bG (bM fj))
  bQ)
  (bF (cB (cJ (bN (_j rfl) T.an0 boot_any (bx (dZ (bH Fq) Er Er ["_law_one"] (cL vx) (fZ (i:=0)) cI (bI (p9 T) (bx (bJ vw vc) (bx vx bC)))) bC)))
  (bG (bM fj))
  bQ)
  (bF (cB (bW (z5 E.units) vy vw)
  (bG (bM fj))
  bQ)
  (bG (bM (wO (bI (p9 T) (bx (bJ vx vw) (bx (bJ vx vy) bC))) (zu (bN (Ze rfl) T.WX boot_all (bx (dZ (bH Fq) Er Er ["_law_one"] (cL (ju vx Bm (g_ vy))) (fZ (i:=0)) cI (bI (p9 T) (bx vx (bx (bJ vw vc) bC)))) bC)))))))))<|by
 rintro _ R ⟨u,d,b,rfl,y,hd,m,w,q⟩;have j:b<u.length:=by
  rcases w with⟨_,e⟩|⟨_,l,_⟩
  .exact Y3 (WH e) hd
  .rwa[ak]at l
 have A:=aj j;have H:=aj hd;have g:∀{i:Nat}(h:i<u.length),(u.map λp=>divInt p.1 p.2).getD i 0=divInt u[i].1 u[i].2:=λ{i}h=>by
  rw[au,aq,aj h]
  rfl
 have le:∀p∈u,divInt p.1 p.2<=divInt u[b].1 u[b].2:=λp k=>by
  rcases w with⟨a,e⟩|⟨_,_,a,_⟩
  .have:=a _ (YV.mpr ⟨p,k,rfl⟩);rwa[<- e,g j]at this
  .have:=a _ (YV.mpr ⟨p,k,rfl⟩);rwa[g j]at this
 have f:=m _ (aU j);have r:=m _ (aU hd);refine cg (Zp (by rw[ak];lia)) ⟨by rw[ak];exact aL y wP,comp_map (λp=>pT p.1 p.2) (λ_=>.bl false) u (λp k N M G=>?_) ⟨u.map λ_=>false,by rw[WG];rfl,cg vz ?_⟩⟩
 .obtain⟨v,t,s⟩:=m p k;refine⟨_,cT (h:=λp:Int×Int=>pT p.1 p.2) A,_,_,_,_,rfl,f.1,v,⟨f.2.1,f.2.2,t,s⟩,?_⟩;rwa[Zp (Rat.not_lt.mpr (le p k))]
 .by_cases c:b=d
  .exact dV (Zs (by rw[c])) q
  .obtain⟨lt,_,_,B⟩:=w.resolve_left λz=>c z.2;rw[g j,g hd]at lt;refine cg (Zp wE) ⟨_,cT (h:=λp:Int×Int=>pT p.1 p.2) H,_,cT (h:=λp:Int×Int=>pT p.1 p.2) A,_,_,_,_,rfl,r.1,f.1,⟨r.2.1,r.2.2,f.2.1,f.2.2⟩,?_⟩;rw[Zs lt];have I:gD (u.map λp=>pT p.1 p.2) none (some ((b:Nat):Int))=(u.take b).map λp=>pT p.1 p.2:=by
    unfold gD;rw[HT.vK,ak,min_eq_left (Y2 j),map_take]
    rfl
   show(gD (u.map λp=>pT p.1 p.2) none (some ((b:Nat):Int))).length<=sizeLine/\jL _ _ _ _ (gD (u.map λp=>pT p.1 p.2) none (some ((b:Nat):Int))) _;rw[I];refine⟨by rw[ak,aY];exact aL (show _<=1000 by lia) wP,comp_map (λp=>pT p.1 p.2) (λ_=>.bl true) (u.take b) (λp k N M G=>?_) ⟨(u.take b).map λ_=>true,by rw[WG];rfl,?_⟩⟩
   .obtain⟨i,F,rfl⟩:=List.mem_iff_getElem.mp k;rw[aY]at F;have o:i<u.length:=by lia
    rw[show(u.take b)[i]=u[i]from List.getElem_take];obtain⟨v,t,s⟩:=m _ (aU o);refine⟨_,cT (h:=λp:Int×Int=>pT p.1 p.2) A,_,_,_,_,rfl,v,f.1,⟨t,s,f.2.1,f.2.2⟩,?_⟩;have n:=B i wE;rw[g o,g j]at n;rwa[Zs (Rat.lt_of_le_of_ne (le _ (aU o)) n)]
   .have e:((u.take b).map λ_=>true).all (λb=>b)=true:=List.all_eq_true.mpr λx C=>by obtain⟨_,_,rfl⟩:=YV.mp C;rfl
    rw[<- e]at q;exact q
def agU{f:wp}{e:List L2.T}(h:i8 (λd t=>∃a b:Int,t=pT a b/\0<b/\Bd a/\Bd b/\divInt a b=En s y d) f e):∃u:Γ,e=u.map (λp=>pT p.1 p.2)/\u.map (λp=>divInt p.1 p.2)=f.map (En s y)/\∀p∈u,0<p.2/\Bd p.1/\Bd p.2:=by
 induction h with
 |nil=>exact⟨[],rfl,rfl,λ_ z=>(nomatch z)⟩
 |cons r _ g =>
  obtain⟨u,k,j,h⟩:=g;obtain⟨a,b,rfl,n,m,l,i⟩:=r;exact⟨(a,b)::u,by rw[k];rfl,by rw[map_cons,map_cons,j,i],λp c=>by
   rcases YU.mp c with rfl|c
   .exact⟨n,m,l⟩
   .exact h p c⟩
def aa7:ST:=λd q=>∃(s:Rat)(m b:Nat)(a:xw)(t c:zI)(p:xf),d=[aa s,oY a,.lst (t.map dT),.lst (p.map aa),.lst (c.map dT)]/\Shr s/\DSk m b a/\m<=100/\b<=1000/\PlD a t/\p.length=m/\YsB p/\kI s a p t c/\q (.fz (.bl true))
def FE(T:Tx D):gT 3 TX GF aa7:=yB T.alw _m (λL _=>bF (cB (QW.qt (fW (dg (cJ (h_ .list vt T.cH T.lG boot_list))) (fu (bW (jZ L.units) (bN cG T.cX WJ (bx vt bC)) (bN cG T.cX WJ (bx vw bC))))))
  (bG (bM fj))
  bQ)
  (bF (d_ (d7 T.fK (bx (bN cG T.cX WJ (bx vw bC)) bC)) (b_ (n:=99) 5)
  (bG (cB (bW zY (bJ vy vn) eY)
  (bG (cB (bW Bg (bJ vt vn) eY)
  (bG (bM fj))
  bQ))
  (bG (cB (dg (cJ (bI (adp T) (bx (dZ (bH Tn) YQ YQ ["_law_door_here"] (cL (bJ vw vn)) (fZ (i:=0)) cI (bI (Fp T) (bx vw (bx vx (bx vt bC))))) (bx (bJ vy vn) (bx (bJ vt vn) bC))))))
  (bG (bM fj))
  bQ)))))
  (bG (bM fj))))<|by
 rintro _ R ⟨s,m,X,g,t,G,p,rfl,K,hd,Y,r,h,H,J,y,q⟩;have dl:(g.map λC=>L2.T.lst (C.map bb)).length=m:=by rw[ak,hd.len]
 refine cg ?_ ⟨⟨by rw[dl];lia,by rw[dl];lia⟩,j7 (λk o=>∃x,o=[.fz (aa s),.fz (oY g),.fz (.lst (t.map dT)),.fz (.lst (p.map aa)),.fz (.lst (G.map dT)),x]) ⟨_,rfl⟩ ?_ ?_⟩
 .show xr true (decide (((G.map dT).length:Int)=((g.map λC=>L2.T.lst (C.map bb)).length:Nat)))=false;rw[dl,ak,y.len,h.len,hd.len,Zs rfl]
  rfl
 .rintro k _ E ⟨x,rfl⟩;have E:k<m:=by rw[dl]at E;lia
  have v:k<g.length:=by rwa[hd.len]
  have B:=aj v;have f:=aj (show k<t.length by rwa[h.len]);have F:=h.ok k _ _ f B;refine⟨_,cT f,?_⟩;cases c:t[k]'(by rwa[h.len])with
  |none =>
   rw[c]at f;exact⟨_,cT (y.none k f),_,rfl⟩
  |some d =>
   rw[c]at f F;have ld:d<g[k].length:=of_decide_eq_true F;obtain⟨b,P,I⟩:=y.some k d _ f B;have A:=hd.few _ (aU v);refine⟨_,ET B,by rw[ak];exact aL (show _<=1000 by exact aL A r) wP,Xn bb (λd e=>∃a b:Int,e=pT a b/\0<b/\Bd a/\Bd b/\divInt a b=En s (λj=>p.getD j 0) d) g[k] (λd z N M O=>?_) λW V=>?_⟩
   .exact⟨s,m,d,p,rfl,K,hd.ok _ (aU v) d z,H,J,λa b U S Q l=>O _ ⟨a,b,rfl,U,S,Q,l⟩⟩
   .obtain⟨u,rfl,l,w⟩:=agU V;have t:u.length=g[k].length:=by have:=ZH List.length l;rwa[ak,ak]at this
    exact⟨_,cT f,_,cT P,u,d,b,rfl,by lia,by lia,w,by rw[l];exact I,_,rfl⟩
 .rintro _ ⟨x,rfl⟩;exact q
def Cr:ST:=λa q=>∃t:zI,a=[.lst (t.map dT),.lst (t.map dT)]/\t.length<=1000/\q (.fz (.bl true))
def Y6(T:Tx D):gT 1 uV nH Cr:=yB T.acL aae (λf _=>bF (cB (QW.qt (fW (dg (cJ (h_ .list vx T.cH T.lG boot_list))) (fu (bW (jZ f.units) (bN cG T.cX WJ (bx vx bC)) (bN cG T.cX WJ (bx vw bC))))))
  (bG (bM fj))
  bQ)
  (bF (d_ (d7 T.fK (bx (bN cG T.cX WJ (bx vw bC)) bC)) (b_ (n:=99) 2)
  (bG (cB (bW zY (bJ vw vy) eY)
  (bG (cB (bW Bg (bJ vx vy) eY)
  (bG (bM fj))
  bQ))
  (bG (cB (QW.qt (fW (dg (cJ (h_ .int (bJ vx vy) T.cH T.Qk boot_int))) (fW (cJ (h_ .bool (bJ vx vy) T.cH T.Mu boot_bool)) (fu (bW (jZ f.units) (bJ vx vy) (bJ vw vy))))))
  (bG (bM fj))
  bQ)))))
  (bG (bM fj))))<|by
 rintro _ R ⟨t,rfl,g,q⟩;have b:(t.map dT).length=t.length:=ak ..;refine cg ?_ ⟨⟨by rw[b];lia,by rw[b];lia⟩,j7 (λk o=>∃x,o=[.fz (.lst (t.map dT)),.fz (.lst (t.map dT)),x]) ⟨_,rfl⟩ ?_ ?_⟩
 .show xr true (decide (((t.map dT).length:Int)=((t.map dT).length:Nat)))=false;rw[Zs rfl];rfl
 .rintro k _ e ⟨x,rfl⟩;have a:=aj (show k<t.length by rw[b]at e;exact e);refine⟨_,cT a,?_⟩;cases c:t[k]'(by rw[b]at e;exact e)with
  |none =>
   rw[c]at a;exact⟨_,cT a,_,rfl⟩
  |some d =>
   rw[c]at a;refine⟨_,cT a,_,cT a,_,cT a,_,cT a,cg ?_ ⟨_,rfl⟩⟩;show xr true (decide ((d:Int)=d))=false;rw[Zs rfl];rfl
 .rintro _ ⟨x,rfl⟩;exact q
structure mn(s:Rat)(m:Nat)(ae:xw)(t:zI)(u:xi):Prop where
 ne:0<u.length
 few:u.length<2^24
 hd:∀p,u[0]?=some p->p.1=t
 ok:∀p∈u,PlD ae p.1/\p.2.length=m/\YsB p.2/\∀k,k<m->p.2.getD k 0=Yx s (λj=>p.2.getD j 0) ae p.1 k
 up:∀(k:Nat)p q,u[k]?=some p->u[k+1]?=some q->kI s ae p.2 p.1 q.1/\q.1≠p.1
 last:∀p,u.getLast?=some p->kI s ae p.2 p.1 p.1
def Xp:ST:=λc q=>∃(s:Rat)(m b:Nat)(a:xw)(t:zI)(u:xi),c=[.lst (u.map dc),aa s,oY a,.lst (t.map dT)]/\Shr s/\DSk m b a/\m<=100/\b<=1000/\mn s m a t u/\q (.fz (.bl true))
def FA(T:Tx D):gT 5 Ng Am Xp:=yB T.ah5 aeH (λF _=>bF (cB (QW.qt (fW (dg (cJ (h_ .list vx T.cH T.lG boot_list))) (fu (bW rY (bN cG T.cX WJ (bx vx bC)) bA))))
  (bG (bM fj))
  bQ)
  (bF (d_ (cL vx) (b_ (n:=99) 4)
  (bG (cB (QW.qt (fW (dg (cJ (h_ .tuple vt T.cH T.Gd boot_tuple))) (fu (bW (jZ F.units) (bN cG T.cX WJ (bx vt bC)) bA))))
  (bG (bM fj))
  bQ)))
  (bF (cB (QW.qt (fW (dg (cJ (bI (Y6 T) (bx (bJ (bJ vx bA) bA) (bx vc bC))))) (fu (dg (cJ (bI (oQ T) (bx (bJ (bJ vx bA) bA) (bx vw (bx vy (bx vc bC))))))))))
  (bG (bM fj))
  bQ)
  (bF (d_ (HS T.fK (bx bA (bx (bN cG T.cX WJ (bx vx bC)) bC))) (b_ (n:=99) 5)
  (bF (zZ (bJ vx (bL tO vn bA)) (fL (n:=2) (bV (b_ (n:=99) 8) (bV (b_ (n:=99) 7) dO))))
  (bF (zZ (bJ vx vn) (fL (n:=2) (bV (b_ (n:=99) 9) (bV (b_ (n:=99) 10) dO))))
  (bF (cB (QW.qt (fW (dg (cJ (bI (FE T) (bx vw (bx vy (bx (qv 8) (bx (qv 7) (bx (qv 9) bC)))))))) (fu (bW (z5 F.units) (qv 9) (qv 8)))))
  (bG (bM fj))
  bQ)
  (bG (cB (dg (cJ (bI (oQ T) (bx (qv 10) (bx vw (bx vy (bx (qv 9) bC)))))))
  (bG (bM fj))
  bQ))))))
  (bF (zZ (bJ vx (wu bA)) (fL (n:=2) (bV (b_ (n:=99) 6) (bV (b_ (n:=99) 7) dO))))
  (bG (bM (bI (FE T) (bx vw (bx vy (bx (qv 6) (bx (qv 7) (bx (qv 6) bC)))))))))))))<|by
 rintro _ R ⟨s,m,h,b,t,u,rfl,i,hd,d,c,hc,q⟩;have g:=hc.ne;have O:=hc.few;refine cg (Zp (by rw[ak];lia)) ?_;refine iy dc u (λ_ o=>∃x,o=[.fz (.lst (u.map dc)),.fz (aa s),.fz (oY b),.fz (.lst (t.map dT)),x,.und,.und,.und,.und,.und,.und]) ⟨_,rfl⟩ ?_ ?_
 .rintro Y p S _ e ⟨x,rfl⟩;exact⟨_,rfl⟩
 .rintro _ ⟨x,rfl⟩;have z:=aj g;obtain rfl:=hc.hd _ z;obtain⟨E,L,K,J⟩:=hc.ok _ (aU g);refine⟨_,cT (k:=0) z,?_⟩;dsimp only[rC,frz];refine L8 (t:=.lst (u[0].1.map dT)) ?_;refine⟨u[0].1,rfl,by rw[E.len,hd.len];exact aL d wP,?_⟩;refine⟨_,cT (k:=0) z,?_⟩;dsimp only[rC,frz];refine N4 (u:=.lst (u[0].2.map aa)) ?_;refine⟨s,m,h,b,u[0].1,u[0].2,rfl,i,hd,d,E,L,K,J,?_⟩;refine⟨⟨by decide,by decide,by rw[ak];lia,by rw[ak];lia⟩,?_⟩;show wY _ _ _ (rng 1 ((((u.map dc).length:Nat):Int)-1).toNat) _;rw[show((((u.map dc).length:Nat):Int)-1).toNat=u.length-1 by rw[ak];lia];refine iy (λk:Nat=>L2.T.int ((1:Int)+k)) (range (u.length-1)) (λ_ o=>∃w v r l y,o=[.fz (.lst (u.map dc)),.fz (aa s),.fz (oY b),.fz (.lst (u[0].1.map dT)),x,w,.und,v,r,l,y]) ⟨_,_,_,_,_,rfl⟩ ?_ ?_
  .rintro Y k S _ e ⟨w,v,r,l,y,rfl⟩;have G:k<u.length-1:=List.mem_range.mp (by rw[e];simp);have H:=aj (show k<u.length by exact aR G (Nat.sub_le _ _));have f:=aj (show k+1<u.length by lia);have Q:(1:Int)+(k:Nat)-1=(k:Nat):=by lia
   have P:(1:Int)+(k:Nat)=((k+1:Nat):Int):=by lia
   have N:ck (u.map dc) ((1:Int)+(k:Nat)-1)=some (dc u[k]):=by rw[Q];exact cT H
   have M:ck (u.map dc) ((1:Int)+(k:Nat))=some (dc u[k+1]):=by rw[P];exact cT f
   obtain⟨C,B,A,Z⟩:=hc.ok _ (aU (show k<u.length by exact aR G (Nat.sub_le _ _)));obtain⟨X,W,V,U⟩:=hc.ok _ (aU (show k+1<u.length by lia));obtain⟨a,I⟩:=hc.up k _ _ H f;refine⟨_,N,rfl,_,M,rfl,s,m,h,b,u[k].1,u[k+1].1,u[k].2,rfl,i,hd,d,c,C,B,A,a,?_⟩;dsimp only[frz,rf];refine cg rfl ?_;dsimp only[rB,eP,Q5,frz];refine rE.gEq ?_;rw[Zp I];refine cg rfl ?_;exact⟨s,m,h,b,u[k+1].1,u[k+1].2,rfl,i,hd,d,X,W,V,U,_,_,_,_,_,rfl⟩
  .rintro _ ⟨w,v,r,l,y,rfl⟩;cases j:u.getLast? with
   |none=>rw[List.getLast?_eq_none_iff.mp j]at g;exact absurd g (WU _)
   |some p =>
    obtain⟨C,B,A,Z⟩:=hc.ok _ (List.mem_of_getLast? j);exact⟨_,agF j,rfl,s,m,h,b,p.1,p.1,p.2,rfl,i,hd,d,c,C,B,A,hc.last p j,q⟩
def XF:ST:=λb q=>∃(s:Rat)(m c:Nat)(a:xw)(p:dq),b=[dc p,aa s,oY a,dc p]/\Shr s/\DSk m c a/\m<=100/\PlD a p.1/\p.2.length=m/\YsB p.2/\(∀k,k<m->p.2.getD k 0=Yx s (λj=>p.2.getD j 0) a p.1 k)/\q (.fz (.bl true))
def G0(T:Tx D):gT 5 Uo Ft XF:=yB T.ale _4 (λc _=>bF (cB (QW.qt (fW (dg (cJ (h_ .tuple vx T.cH T.Gd boot_tuple))) (fW (bW (jZ c.units) (bN cG T.cX WJ (bx vx bC)) bA) (fu (dg (cJ (bI (Y6 T) (bx (bJ vx bA) (bx (bJ vc bA) bC)))))))))
  (bG (bM fj))
  bQ)
  (bG (bM (wO (bI (oQ T) (bx (bJ vx bA) (bx vw (bx vy (bx (bJ vx bA) bC))))) (zu (mq (z5 c.units) (bJ vx bA) (bJ vc bA)))))))<|by
 rintro _ R ⟨s,m,d,i,p,rfl,h,hd,a,b,g,f,e,q⟩;refine⟨p.1,rfl,by rw[b.len,hd.len];exact aL a wP,s,m,d,i,p.1,p.2,rfl,h,hd,a,b,g,f,e,?_⟩;show gEq false (L2.T.lst (p.2.map aa)) (L2.T.lst (p.2.map aa)) _;refine agH.gEq ?_;rw[Zs rfl];exact q
theorem pL{K:Frag}{F c:Hp} : ∀{G:Ζ}{t:zI},cA K F G (t.map dT)->cA K c G (t.map dT)
 |_,[],.nil=>.nil
 |_,none::_,.cons a b=>by cases a;exact .cons .non (pL b)
 |_,some _::_,.cons a b=>by cases a;exact .cons (.int _) (pL b)
theorem Ef{K:Frag}{F H:Hp} : ∀{G:Ζ}{t:zI},cA K F G (t.map dT)->fY H G (t.map dD)
 |_,[],.nil=>.nil
 |_,none::_,.cons a b=>by cases a;exact .cons .non (Ef b)
 |_,some _::_,.cons a b=>by cases a;exact .cons (.int _) (Ef b)
def TB{K:Frag}{F c:Hp}{a:Addr}(h:SqT K F a G)(e:∀b u,(∀l,u≠HO.lst l)->F b=some u->c b=some u):SqT K c a G:=by
 rcases h with h|h
 .exact .inl (h.imp (e _ _ λ_ z=>(nomatch z)) λd=>by obtain⟨o,r⟩:=d;exact⟨o,e _ _ (λ_ z=>(nomatch z)) r⟩)
 .exact .inr h
theorem JR{K:Frag}{F G:Hp}(e:∀b u,(∀l,u≠HO.lst l)->F b=some u->G b=some u):∀{p:Ζ}{h:xf},cA K F p (h.map aa)->cA K G p (h.map aa)
 |_,[],.nil=>.nil
 |_,r::_,.cons x y=>by
  obtain⟨q,d,rfl,s,c⟩:=x.tupI;cases c with
  |cons a c=>cases c with
   |cons b c =>
    cases c;cases a;cases b;exact .cons (.tup (TB s e) (.cons (.int _) (.cons (.int _) .nil))) (JR e y)
theorem ZK{K:Frag}{F H:Hp}{J:Type}{h:J->L2.T} : ∀{G:Ζ}{l:List J},cA K F G (l.map h)->Ros K F H G (l.map λa=>.fz (h a)) []
 |_,[],.nil=>.nil
 |_,_::_,.cons a b=>.cons (.fz a) (ZK b)
abbrev cx(p:dq):OW:=.tup [.lst (p.1.map λd=>.fz (dT d)),.lst (p.2.map λr=>.fz (aa r))]
abbrev K5(u:xi):OW:=.lst (u.map cx)
theorem Ry{J:Type}(h:J->L2.T):∀l:List J,Ij (l.map λa=>.fz (h a))=l.map h
 |[]=>rfl
 |a::l=>by
  show ef (.fz (h a))::Ij (l.map λa=>.fz (h a))=_;rw[Ry h l];rfl
def YS(p:dq):ef (cx p)=dc p:=by
 show L2.T.tup [.lst (Ij _),.lst (Ij _)]=_;rw[Ry,Ry]
theorem WR:∀u:xi,Ij (u.map cx)=u.map dc
 |[]=>rfl
 |p::u=>by
  show ef (cx p)::Ij (u.map cx)=_;rw[YS,WR u];rfl
def IU(u:xi):ef (K5 u)=.lst (u.map dc):=by
 show L2.T.lst (Ij (u.map cx))=_;rw[WR]
theorem qd{K:Frag}{F H:Hp}{J:Type}{h:J->L2.T} : ∀{G:Ζ}{l:List J}{A:Ψ},Ros K F H G (l.map λa=>.fz (h a)) A->A=[]/\cA K F G (l.map h)
 |_,[],_,.nil=>⟨rfl,.nil⟩
 |_,_::_,_,.cons a b=>by
  obtain⟨rfl,r⟩:=qd b;cases a with
  |fz a=>exact⟨rfl,.cons a r⟩
def Xv{K:Frag}{F:Hp}{x:V}{p:dq}{A:Ψ}(h:Ro K F H x (cx p) A):∃q a b g f,x=.ref q/\A=[a,b]/\F q=some (.tup [.ref a,.ref b])/\H a=some (.lst g)/\H b=some (.lst f)/\cA K F g (p.1.map dT)/\cA K F f (p.2.map aa):=by
 cases h with
 |tup e r=>cases r with
 |cons d r=>cases r with
 |cons c r =>
  cases r;cases d with
  |lst k d=>cases c with
   |lst j c =>
    obtain⟨rfl,i⟩:=qd d;obtain⟨rfl,q2⟩:=qd c;exact⟨_,_,_,_,_,rfl,rfl,e,k,j,i,q2⟩
def gE{K:Frag}{F:Hp}{q a b:Addr}{d c:Ζ}{p:dq}(e:F q=some (.tup [.ref a,.ref b]))(i:H a=some (.lst d))(h:H b=some (.lst c))(g:cA K F d (p.1.map dT))(f:cA K F c (p.2.map aa)):Ro K F H (.ref q) (cx p) [a,b]:=.tup e (.cons (.lst i (ZK g)) (.cons (.lst h (ZK f)) .nil))
theorem NZ{K:Frag}{F h H g:Hp}(e:∀b f,(∀l,f≠HO.lst l)->F b=some f->h b=some f):∀{G:Ζ}{u:xi}{A:Ψ},(∀a∈A,∀f,H a=some f->g a=some f)->Ros K F H G (u.map cx) A->Ros K h g G (u.map cx) A
 |_,[],_,_,.nil=>.nil
 |_,p::_,_,o,.cons a t=>by
  obtain⟨q,c,d,v,s,rfl,rfl,k,r,n,j,i⟩:=Xv a;exact .cons (gE (e _ _ (λ_ z=>(nomatch z)) k) (o _ vz _ r) (o _ vz _ n) (pL j) (JR e i)) (NZ e (λa m=>o a (aP _ m)) t)
theorem RG{K:Frag}{F H:Hp} : ∀{G:Ζ}{u:xi}{A:Ψ}{k:Nat}{p:dq},Ros K F H G (u.map cx) A->u[k]?=some p->∃x B,G[k]?=some x/\Ro K F H x (cx p) B/\B.Sublist A
 |_,_::_,_,0,_,.cons a _,e=>by cases e;exact⟨_,_,rfl,a,List.sublist_append_left ..⟩
 |_,_::_,_,k+1,_,.cons _ t,e=>by
  obtain⟨x,B,b,r,s⟩:=RG (k:=k) t (by simpa using e);exact⟨x,B,by simpa using b,r,s.trans (List.sublist_append_right ..)⟩
def TD{S f:Addr->Prop}{d:Hp}(a:∀b u,(∀l,u≠HO.lst l)->H b=some u->d b=some u)(g:∀b,f b->∃l,d b=some (.lst l)):∀b u,(∀l,u≠HO.lst l)->L2.hd S H b=some u->L2.hd f d b=some u:=λb u n e=>by
 have c:=a b u n (cQ e).2;rw[cN λz=>?_]
 .exact c
 .obtain⟨l,h⟩:=g b z;rw[h]at c;cases c;exact n l rfl
def Gj{x:V}(e:G[G.length-1]?=some x):c4 G (-1)=some x:=by
 rw[<- T7];show dz G.reverse 0=_;rw[o7,<- List.head?_eq_getElem?,List.head?_reverse,TU,e]
structure Ki(K:Frag)(H H':Hp)(t cc:Addr)(u:xi)(cl:zI):Prop where
 S:zO H H'
 to:∃G A,H' t=some (.lst G)/\(t::A).Nodup/\(∀a∈t::A,H a=none)/\cc∉t::A/\Ros K (L2.hd (· ∈ t::A) H') H' G (u.map cx) A
 co:∃W,H' cc=some (.lst W)/\cA K H' W (cl.map dT)
 nw:H cc=none
def uX(D:be):ST:=λb R=>∃(s:Rat)(l:Φ)(a:xz)(t:zI)(N:Nat),b=[cK D s l a,.lst (t.map dT)]/\GK l a/\cf a t/\eI s a N/\∀u:xi,rG s a ((2*a.length*N)^a.length) t u->R (.ow (K5 u))
def UW(T:Tx D):gT 10 lR iG (uX D):=ya T.Mt λF=>by
 refine F.ok oE (λvs H Q E h=>?_) (λag A outer s H vs Q E hr h=>?_)
 .obtain⟨ts,R,r,⟨_,_,_,_,_,rfl,_⟩,_⟩:=h;exact r.len
 .obtain⟨ts,R,r,⟨P,l,C,t,N,rfl,h,hp,B,ok⟩,k⟩:=h;generalize eM:(2*C.length*N)^C.length=M at ok;refine⟨_,(jc (gO (j9 (N8 T) hr.md (by rfl) (cj (pv 0) (cj (pv 1) dI))))
   (jc (Ho (i:=2) oE.nd rfl (Or.inl rfl) (Sv dI))
   (jc (Ho (i:=3) oE.nd rfl (Or.inl rfl) (A_ C_ (by rfl) T.lG boot_list (cj (pv 1) dI)))
   (jc (VL PassesOwn.never (PW.pt (pw_or (Vh ls (oH Bh (by rfl) T.cX WJ (cj (pv 2) dI)) iU (HB _)) (pw_or1 (Vh (ZA hr.units) (pv 3) (oN Kc (oN rM (pv 2) (P_ GZ iU) (λ_ _=>rfl)) iU (λ_ _=>rfl)) (HB _)))))
    (jc (gO (CV (pv 2) (cj (U_ (cj (pv 3) (cj (j9 (Rj T) hr.md (by rfl) (cj (pv 0) (cj (pv 3) dI))) dI))) dI)))
    (jj (Ho (i:=3) oE.nd rfl (Or.inl rfl) (j9 (Hn T) hr.md (by rfl) (cj (pv 0) (cj (pv 3) (cj (oN Kc (oN rM (pv 2) (P_ GZ iU) (λ_ _=>rfl)) iU (λ_ _=>rfl)) dI))))))))
   (jj (ud (pv 2))))))),?_⟩
  obtain⟨o,c,rfl,ro,rc⟩:=r.two;refine sV ⟨_,rfl,_,rfl,[cK D P l C,.lst (t.map dT)],λx=>x=.fz (.bl true),r,⟨P,l,C,t,rfl,h,hp,rfl⟩,?_⟩;rintro H1 _ _ rfl S1 _;refine sV ⟨(show 0<=sizeLine by decide),λf ht=>?_⟩;obtain⟨c',W,rfl,hc,rz⟩:=rc.lstI;have S2:zO H (upd H1 f (.lst [])):=S1.trans (zO.upd ht);refine sV ⟨_,rfl,c',W,rfl,S2 _ _ hc,λO g6=>?_⟩;have ntc:f≠O:=λz=>by rw[<- z,bY]at g6;cases g6
  refine sV ⟨λm S Z=>∃(u:xi)(I:zI)(O:Addr),S=[some o,some (.ref c'),some (.ref f),some (.ref O)]/\Ki K H Z f O u I/\Told P C M t u/\cf C I/\(u=[]->I=t)/\(∀g,u.getLast?=some g->gw P C g.2 g.1 I)/\m+u.length=(uI C).length,⟨(uI C).length,[],t,O,rfl,⟨S2.trans (zO.upd g6),⟨[],[],(bR ntc).trans bY,by simp,λa J=>by rw[YR.mp J];exact S1.free ht,λz=>ntc (YR.mp z).symm,.nil⟩,⟨W,bY,pL rz⟩,S2.free g6⟩,⟨λ_ z=>(nomatch z),λ_ z=>(nomatch z),λ_ _ _ z=>(nomatch z)⟩,hp,λ_=>rfl,λ_ z=>(nomatch z),rfl⟩,?_⟩;rintro m _ Z ⟨u,I,O,rfl,e,tt,fh,c0,cu,em⟩;obtain⟨G,A,Y,nd,nA,ncc,rr⟩:=e.to;obtain⟨zs',nE,my⟩:=e.co;have oz:∀Qt:Bool->Hp->Prop,Qt (decide (u.getLast?.map (·.1)≠some I)) Z->rj (lq (gd rF (hT px (KZ (WD 2) VR)) (tC (V.int 0)))) (lq (gd (x_ true) (WD 3) (gd E6 (gd Fh (WD 2) (rh (rU λi=>V.int (-i)) (tC (V.int 1)))) (tC (V.int 0))))) [some o,some (.ref c'),some (.ref f),some (.ref O)] Z Qt:=λQt hq=>by
   refine⟨_,rfl,f,G,rfl,Y,rfl,_,rfl,?_⟩;have xl:G.length=u.length:=by rw[rr.len,ak]
   cases L:u.getLast? with
   |none =>
    rw[L]at hq;have:u.length=0:=by rw[List.getLast?_eq_none_iff.mp L];rfl
    show if decide (V.int (G.length:Nat)=V.int 0)=true then _ else _;rw[ZY (Zs (by rw[xl,this];rfl))];exact hq
   |some g =>
    rw[L]at hq;have pn:u.length≠0:=λz=>by rw[List.length_eq_zero_iff.mp z]at L;cases L
    show if decide (V.int (G.length:Nat)=V.int 0)=true then _ else _;rw[ZZ (by rw[Zp λz=>pn (by rw[<- xl];exact Int.ofNat.inj (V.int.inj z))];decide)];obtain⟨x,B',ex,rx,sub⟩:=RG (k:=u.length-1) rr (by rwa[<- TU]);obtain⟨q,a,b,us,vs,rfl,rfl,eq,e1,e2,r1,r2⟩:=Xv rx;refine⟨_,rfl,_,rfl,1,rfl,f,G,-1,.ref q,rfl,rfl,Y,?_,q,_,0,.ref a,rfl,rfl,dh _ _ eq,rfl,.list (I.map dD),.list (g.1.map dD),.lst nE (Ef my),.lst e1 (Ef r1),rE.lst I,rE.lst g.1,_,rfl,?_⟩
    .exact Gj (by rwa[xl])
    .have ev:(!PyData.eqv (.list (I.map dD)) (.list (g.1.map dD))) = !decide (I=g.1):=by
      unfold PyData.eqv;rw[Gh rE.eqv]
     have e3:(!decide (I=g.1))=decide ((some g).map (·.1)≠some I):=by
      by_cases c:I=g.1
      .simp[c]
      .have:¬g.1=I:=λz=>c z.symm;simp[c,this]
     show Qt (!PyData.eqv (.list (I.map dD)) (.list (g.1.map dD))) Z;rwa[ev,e3]
  refine oz _ ?_;show if decide (u.getLast?.map (·.1)≠some I)=true then _ else _;by_cases hn:u.getLast?.map (·.1)=some I
  .rw[ZZ (by rw[Zp λz=>z hn];decide)];have mm:rG P C M t u:=⟨tt,(λz=>by rw[z]at hn;cases hn),λg ep=>by rw[ep]at hn;cases hn;exact cu g ep⟩;exact⟨_,rfl,k Z (.ref f) _ (ok u mm) e.S ⟨f::A,nA,_,rfl,nd,.lst Y (rr.mv (g8 (λb z=>.inl (z.elim False.elim id)) (.refl _)) λ_ _ _ e=>e)⟩⟩
  .rw[ZY (Zs hn)];refine⟨λσ' H6=>∃(p:xf)(U:zI)(iN:Addr),σ'=[some o,some (.ref c'),some (.ref f),some (.ref iN)]/\Ki K H H6 f iN (u++[(I,p)]) U/\uc P C I p/\(∀r∈p,FnB M r)/\gw P C p I U,?_,?_⟩
   .rintro _ H6 ⟨p,U,iN,rfl,e',h1,h2,h3⟩;have t':Told P C M t (u++[(I,p)]):=tt.snoc c0 ⟨fh,h1,h2⟩ λg ep=>⟨cu g ep,λz=>hn (by rw[ep];exact ZH some z.symm)⟩;have j:=t'.len B;rw[aA,length_singleton]at j;refine⟨(uI C).length-(u.length+1),by omega,u++[(I,p)],U,iN,rfl,e',t',PL fh h3,λz=>absurd z vz,λg ep=>?_,by rw[aA,length_singleton];exact Nat.sub_add_cancel j⟩;rw[List.getLast?_concat]at ep;cases ep;exact h3
   .have xl:G.length=u.length:=by rw[rr.len,ak]
    have aI:G.length<sizeLine:=by rw[xl];exact Y3 (tt.len B) B.pls
    refine sV ⟨_,rfl,f,G,rfl,Y,_,rfl,_,rfl,_,rfl,[cK D P l C,.lst (I.map dT)],λx=>∃p:xf,x=.l1 (p.map aa)/\uc P C I p/\∀r∈p,FnB M r,.cons (ro.same e.S) (.cons (.lst nE my) .nil),⟨P,l,C,I,N,rfl,h,fh,B.few,B.wo I fh,λy hw hb=>?_⟩,?_⟩
    .have ym:((range C.length).map y).map aa=(range C.length).map λi=>aa (y i):=by rw[WG];rfl
     have wz:=W0 B.sh fh hw;rw[<- ym];exact⟨_,rfl,wz,λr hr=>by obtain⟨i,hi,rfl⟩:=YV.mp hr;exact eM ▸ hb i (List.mem_range.mp hi)⟩
    rintro H2 _ _ ⟨p,rfl,w1,w2⟩ S3 ⟨_,nb,b,us,eb,rfl,hb,ry⟩;cases eb;refine⟨(show 2<=sizeLine by decide),λq hq=>?_⟩;have bn:Z b=none:=nb b vz;have S4:zO Z (upd H2 q (.tup [.ref O,.ref b])):=S3.trans (zO.upd hq);refine⟨.ref q,G,rfl,S4 _ _ Y,aI,?_⟩;have cy:∀{x y:Addr}{d:HO}{w:Hp},w x=some d->w y=none->x≠y:=λa b z=>by rw[z,b]at a;cases a
    have tq:f≠q:=cy (S3 _ _ Y) hq;have bt:b≠f:=(cy Y bn).symm;have bq:b≠q:=cy hb hq;have ct:O≠f:=λz=>ncc (by rw[z];simp);generalize e5:upd (upd H2 q (.tup [.ref O,.ref b])) f (.lst (G++[V.ref q]))=X;have f':∀a d,a≠f->Z a=some d->X a=some d:=λa d n z=>by rw[<- e5];exact(bR n).trans (S4 _ _ z)
    have S5:zO H X:=λa d z=>f' a d (cy z (nA f vz)) (e.S _ _ z);have tm:X f=some (.lst (G++[V.ref q])):=by rw[<- e5];exact bY
    have tw:X q=some (.tup [.ref O,.ref b]):=by rw[<- e5];exact(bR tq.symm).trans bY
    have tz:X O=some (.lst zs'):=f' _ _ ct nE;have tF:X b=some (.lst us):=by rw[<- e5];exact(bR bt).trans ((bR bq).trans hb)
    have k2:∀a d,(∀j,d≠HO.lst j)->H2 a=some d->X a=some d:=λa d n z=>by
     rw[<- e5];exact(bR λy=>by rw[y,S3 _ _ Y]at z;cases z;exact n _ rfl).trans (zO.upd hq _ _ z)
    have ry5:cA K X us (p.map aa):=JR (λa d n z=>k2 a d n (cQ z).2) ry;refine⟨_,rfl,_,rfl,_,rfl,1,rfl,f,_,-1,.ref q,rfl,rfl,tm,Gj vz,q,_,1,.ref b,rfl,rfl,tw,rfl,[cK D P l C,.lst (I.map dT),.lst (p.map aa)],λx=>∃U:zI,x=.l1 (U.map dT)/\gw P C p I U,.cons (ro.same S5) (.cons (.lst tz (pL my)) (.cons (.lst tF ry5) .nil)),⟨P,l,C,I,p,rfl,h,fh,B.me p w1.1 (by rwa[eM]),λU hm=>⟨U,rfl,hm⟩⟩,?_⟩;rintro H6 _ _ ⟨U,rfl,hm⟩ S6 ⟨_,mP,iN,zs6,eb,rfl,sL,rz6⟩;cases eb;have n5:X iN=none:=mP iN vz;have qr:∀a∈f::(A++[O,b]),∃j,X a=some (.lst j):=λa J=>by
     rcases YU.mp J with rfl|J
     .exact⟨_,tm⟩
     .rcases Y1.mp J with J|J
      .obtain⟨j,L⟩:=rr.isl a J;exact⟨j,f' _ _ (λz=>(List.nodup_cons.mp nd).1 (z ▸ J)) L⟩
      .rcases YU.mp J with rfl|J
       .exact⟨_,tz⟩
       .exact⟨_,YR.mp J ▸ tF⟩
    have in6:∀a,a∈f::(A++[O,b])->∃j,H6 a=some (.lst j):=λa J=>let⟨j,L⟩:=qr a J;⟨j,S6 _ _ L⟩;have e6:∀{v:Addr->Prop}{w:Hp},(∀a d,(∀j,d≠HO.lst j)->w a=some d->X a=some d)->∀a d,(∀j,d≠HO.lst j)->L2.hd v w a=some d->L2.hd (· ∈ f::(A++[O,b])) H6 a=some d:=λk=>TD (λa d n z=>S6 _ _ (k a d n z)) in6;have hA:∀a∈A,a≠f:=λa J z=>(List.nodup_cons.mp nd).1 (z ▸ J);refine⟨p,U,iN,rfl,⟨S5.trans S6,⟨G++[.ref q],A++[O,b],S6 _ _ tm,?_,λa J=>?_,λz=>?_,?_⟩,⟨zs6,sL,pL rz6⟩,S5.free n5⟩,w1,w2,hm⟩
    .refine List.nodup_cons.mpr ⟨λz=>?_,List.nodup_append.mpr ⟨(List.nodup_cons.mp nd).2,by simp[cy nE bn],λx hx y hy z=>?_⟩⟩
     .rcases Y1.mp z with z|z
      .exact hA f z rfl
      .rcases YU.mp z with z|z
       .exact ct z.symm
       .exact bt (YR.mp z).symm
     .subst z;rcases YU.mp hy with rfl|z
      .exact ncc (aJ _ hx)
      .obtain⟨j,L⟩:=rr.isl x hx;rw[YR.mp z,bn]at L;cases L
    .rcases YU.mp J with rfl|J
     .exact nA _ vz
     .rcases Y1.mp J with J|J
      .exact nA a (aJ _ J)
      .rcases YU.mp J with rfl|J
       .exact e.nw
       .rw[YR.mp J];exact e.S.free bn
    .obtain⟨j,L⟩:=qr _ z;rw[n5]at L;cases L
    .rw[bf];refine Ros.snoc (gE ?_ (S6 _ _ tz) (S6 _ _ tF) (pL my) (JR (e6 k2) ry)) (NZ (e6 λa d n z=>f' a d (λy=>by rw[y,Y]at z;cases z;exact n _ rfl) z) (λa J d z=>S6 _ _ (f' _ _ (hA a J) z)) rr);rw[cN λz=>?_]
     .exact S6 _ _ tw
     .obtain⟨j,L⟩:=qr _ z;rw[tw]at L;cases L
def Iz(D:be):ST:=λb q=>∃(s:Rat)(l:Φ)(a:xz)(N:Nat),b=[cK D s l a]/\GK l a/\eI s a N/\∀(u:xi)(p:dq),rG s a ((2*a.length*N)^a.length) (rW a) u->u.getLast?=some p->q (.ow (cx p))
def WK(T:Tx D):gT 11 Dc qF (Iz D):=ya T.acP λF=>by
 refine F.ok YD (λy H Q E h=>?_) (λag A m s H y Q E t h=>?_)
 .obtain⟨I,R,r,⟨_,_,_,_,rfl,_⟩,_⟩:=h;exact r.len
 .obtain⟨I,R,r,⟨g,l,f,N,rfl,h,B,L⟩,k⟩:=h;refine⟨_,(jj (ud (oN rM (j9 (UW T) t.md (by rfl) (cj (pv 0) (cj (j9 (OJ T) t.md (by rfl) (cj (pv 0) dI)) dI))) (P_ GZ iU) (λ_ _=>rfl)))),?_⟩;obtain⟨o,rfl,q⟩:=r.one;refine⟨_,rfl,_,rfl,[cK D g l f],λx=>x=.l1 ((rW f).map dT),.cons q .nil,⟨g,l,f,rfl,h,rfl⟩,?_⟩;rintro H1 _ _ rfl n ⟨_,Z,c,W,U,rfl,hc,J⟩;cases U;refine⟨[cK D g l f,.lst ((rW f).map dT)],λx=>∃u:xi,x=.ow (K5 u)/\rG g f ((2*f.length*N)^f.length) (rW f) u,.cons (q.same n) (.cons (.lst hc (pL J)) .nil),⟨g,l,f,rW f,N,rfl,h,adl f,B,λu j=>⟨u,rfl,j⟩⟩,?_⟩;rintro X _ _ ⟨u,rfl,j⟩ V ⟨Y,O,d,S,M,i⟩;cases S;cases i with
  |@lst a G _ Y e i =>
   cases v:u.getLast? with
   |none=>exact absurd (List.getLast?_eq_none_iff.mp v) j.ne
   |some p =>
    have w:G.length=u.length:=by rw[i.len,ak]
    obtain⟨x,C,ex,K,sub⟩:=RG (k:=u.length-1) i (by rwa[<- TU]);refine⟨1,rfl,a,G,-1,x,rfl,rfl,e,Gj (by rwa[w]),k X x _ (L u p j v) (n.trans V) ⟨C,λb P=>n.free (O b (aJ _ (sub.subset P))),x,rfl,(List.nodup_cons.mp M).2.sublist sub,K.mv (g8 (λb z=>.inl (z.imp id λz=>aJ _ (sub.subset z))) (.refl _)) λ_ _ _ e=>e⟩⟩
theorem Vs{K:Frag}{F H:Hp} : ∀{G:Ζ}{u:xi}{A:Ψ}{k:Nat}{x:V},Ros K F H G (u.map cx) A->G[k]?=some x->∃q a b g f p,x=.ref q/\A[2*k]?=some a/\A[2*k+1]?=some b/\F q=some (.tup [.ref a,.ref b])/\H a=some (.lst g)/\H b=some (.lst f)/\u[k]?=some p/\g.length=p.1.length/\f.length=p.2.length
 |_,[],_,_,_,.nil,e=>by cases e
 |_,p::_,_,0,_,.cons a _,e=>by
  cases e;obtain⟨q,c,d,g,f,rfl,rfl,l,n,m,j,i⟩:=Xv a;exact⟨q,c,d,g,f,p,rfl,rfl,rfl,l,n,m,rfl,by rw[j.len,ak],by rw[i.len,ak]⟩
 |_,_::_,_,k+1,_,.cons a t,e=>by
  obtain⟨q,c,d,g,f,rfl,rfl,l,n,m,j,i⟩:=Xv a;obtain⟨q,a,b,g,f,p,s,r,o,h⟩:=Vs (k:=k) t (by simpa using e);exact⟨q,a,b,g,f,p,s,by rw[show 2*(k+1)=2*k+2 by lia];exact r,by rw[show 2*(k+1)+1=2*k+1+2 by lia];exact o,h⟩
def agO{D:Ends}(h:te S H λx a=>X_ [x] a D.rt):BS (hT X_ (KZ te VR)) D S H:=h
def EA(K:Frag):Sp:=λd H Q _=>∃(t:Addr)(u:xi)(m:Nat)(A:Ψ)(G:Ζ),d=[.ref t,.int (m:Nat)]/\H t=some (.lst G)/\Ros K (L2.hd (· ∈ A) H) H G (u.map cx) A/\A.Nodup/\t∉A/\(∀p∈u,p.1.length=m/\p.2.length=m)/\m<=100/\u.length<2^24/\∀c,(∀b a,b∉A->H b=some a->c b=some a)->Q (.bl true) c
def ZD(T:Tx D):e_ P w K mg base 1 Dp qH (EA K):=ya T.ach λF=>by
 refine F.ok Dg ?_ ?_
 .rintro _ _ _ _ ⟨_,_,_,_,_,rfl,_⟩;rfl
 .rintro ag A outer s H _ Q E hr ⟨t,u,m,A,G,rfl,et,Y,nd,nt,hl,m1,few,q⟩;refine⟨_,(jc (R9 PassesOwn.never rfl (Fv ((pv 0)).mono) (TY (n:=2) rfl (qP (gJ (i:=2) Dg.nd rfl (Or.inl rfl)) (qP (gJ (i:=3) Dg.nd rfl (Or.inl rfl)) Ka)))
    (jc (gO (CV (pv 2) (cj iU dI)))
    (jc (gO (G' (pv 3)))
    (jj (gO (CV (pv 3) (cj (U_ (cj iU (cj iU dI))) dI)))))))
   (jj (ud (oH (Hu rfl) (by rfl) T.WX boot_all (cj (Xg (bH Ar) QK ["_law_found","_law_size_here","?_law_own","?_law_worths"] ["_law_own","_law_worths"] (Fv ((pv 0)).mono) (TY (n:=2) rfl (qP (oD (i:=0)) (qP (oD (i:=1)) Ka))) Rn (FH (Tp ls (oH Bh (by rfl) T.cX WJ (cj (pv 0) dI)) (lg ql (pv 3) iU) (HB _)) (GT (Tp ls (oH Bh (by rfl) T.cX WJ (cj (pv 1) dI)) (lg ql (pv 3) iU) (HB _))))) dI))))),?_⟩
  have xl:G.length=u.length:=by rw[Y.len,ak]
  have isA:∀{i:Nat}{a:Addr},A[i]?=some a->∃l,H a=some (.lst l):=λe=>Y.isl _ (aC e);refine sV (Mg ⟨_,rfl,t,G,rfl,et,λk σ' g=>(∃x2 x3,σ'=[some (.ref t),some (.int (m:Nat)),x2,x3])/\(∀b d,b∉A->H b=some d->g b=some d)/\∀(i:Nat)a,A[i]?=some a->(i<2*k->∃W,g a=some (.lst W)/\W.length=m+1)/\(2*k<=i->g a=H a),⟨⟨_,_,rfl⟩,λ_ _ _ e=>e,λi a _=>⟨λz=>absurd z (WU _),λ_=>rfl⟩⟩,?_,?_⟩)
  .rintro k x _ g ex ⟨⟨x2,x3,rfl⟩,R,J⟩ t6;obtain⟨qq,a,b,o,j,f,rfl,I,C,B,e1,e2,ep,l1,l2⟩:=Vs Y ex;obtain⟨nq,B⟩:=cQ B;have eq':=R _ _ nq B;have fF:g a=some (.lst o):=((J _ _ I).2 (aG _)).trans e1;have cr:g b=some (.lst j):=((J _ _ C).2 (Xs _)).trans e2;have ke:a≠b:=λz=>by have:=qj nd I (z ▸ C);lia
   have hp:=hl f (aC ep);have sz:∀n:Nat,n<=1000->n<sizeLine:=λn h=>Y3 h wP;have sP:upd g a (.lst (o++[V.int 0])) b=some (.lst j):=(bR ke.symm).trans cr;refine⟨qq,_,rfl,eq',rfl,_,_,rfl,_,_,rfl,rfl,sV ⟨_,rfl,a,o,rfl,fF,.int 0,o,rfl,fF,sz _ wE,?_⟩⟩;refine sV ⟨_,rfl,b,j,rfl,sP,?_⟩;generalize e3:upd (upd g a (.lst (o++[V.int 0]))) b (.lst j.reverse)=H3;have Z:H3 b=some (.lst j.reverse):=by rw[<- e3];exact bY
   have tI:H3 a=some (.lst (o++[V.int 0])):=by rw[<- e3];exact(bR ke).trans bY
   have pe:∀c,c≠a->c≠b->H3 c=g c:=λc n1 M=>by rw[<- e3];exact(bR M).trans (bR n1)
   refine⟨_,rfl,b,_,rfl,Z,(show 2<=sizeLine by decide),λr hr=>?_⟩;have rb:b≠r:=λz=>by rw[z,hr]at Z;cases Z
   have ra:a≠r:=λz=>by rw[z,hr]at tI;cases tI
   refine⟨.ref r,j.reverse,rfl,(bR rb).trans Z,sz _ (by rw[length_reverse];lia),?_⟩;generalize e4:upd (upd H3 r (.tup [.int 1,.int 1])) b (.lst (j.reverse++[V.ref r]))=H4;have h4b:H4 b=some (.lst (j.reverse++[V.ref r])):=by rw[<- e4];exact bY
   have h4a:H4 a=some (.lst (o++[V.int 0])):=by rw[<- e4];exact(bR ke).trans ((bR ra).trans tI)
   have gN:∀c d,c≠a->c≠b->g c=some d->H4 c=some d:=λc d n1 M e=>by
    have e:=(pe c n1 M).trans e;rw[<- e4];exact(bR M).trans ((bR λz=>by rw[z,hr]at e;cases e).trans e)
   have O:a∈A:=aC I;have N:b∈A:=aC C;refine⟨gN t _ (λz=>nt (z ▸ O)) (λz=>nt (z ▸ N)) t6,⟨_,_,rfl⟩,λc d n e=>gN c d (λz=>n (z ▸ O)) (λz=>n (z ▸ N)) (R c d n e),λi c v=>?_⟩;by_cases c1:c=a
   .subst c1;have:=qj nd v I;exact⟨λ_=>⟨_,h4a,by rw[aA,length_singleton];lia⟩,λz=>absurd z wE⟩
   .by_cases c2:c=b
    .subst c2;have:=qj nd v C;exact⟨λ_=>⟨_,h4b,by rw[aA,length_reverse,length_singleton];lia⟩,λz=>absurd z wE⟩
    .have n1:i≠2*k:=λz=>c1 (by rw[z,I]at v;exact(Option.some.inj v).symm);have M:i≠2*k+1:=λz=>c2 (by rw[z,C]at v;exact(Option.some.inj v).symm);obtain⟨g1,g2⟩:=J i c v;refine⟨λz=>?_,λz=>?_⟩
     .obtain⟨W,ez,lz⟩:=g1 wE;exact⟨W,gN c _ c1 c2 ez,lz⟩
     .obtain⟨l,el⟩:=isA v;rw[el];exact gN c _ c1 c2 ((g2 wE).trans el)
  .rintro _ g ⟨⟨x2,x3,rfl⟩,R,J⟩ t6;refine agO (Yl ⟨_,rfl,t,G,rfl,t6,by rw[xl];exact aL (show _<=2^24 by exact Y2 few) wP,λD' hD=>⟨λk p y=>p=replicate k (.bl true)/\zO g y/\y D'=some (.lst p),⟨rfl,zO.upd hD,bY⟩,?_,?_⟩⟩)
   .rintro k x p y ex ⟨rfl,S,bg⟩ _ t5 L eQ;obtain⟨X,U,rfl⟩:=GU eQ
    obtain⟨qq,a,b,o,j,f,rfl,I,C,B,e1,e2,ep,l1,l2⟩:=Vs Y ex;obtain⟨nq,B⟩:=cQ B;have kx:=(ao.mp ex).1;obtain⟨za,eza,lza⟩:=(J _ _ I).1 wE;obtain⟨zb,ezb,lzb⟩:=(J _ _ C).1 wE;refine⟨qq,_,rfl,S _ _ (R _ _ nq B),rfl,_,_,rfl,_,_,rfl,rfl,[_,_],rfl,rfl,?_⟩;have d1:decide (V.int ((za.length:Nat):Int)=V.int ((m:Int)+1)):=Zs (by rw[lza];rfl);have d2:decide (V.int ((zb.length:Nat):Int)=V.int ((m:Int)+1)):=Zs (by rw[lzb];rfl);refine⟨_,rfl,a,za,rfl,S _ _ eza,_,rfl,_,_,rfl,rfl,rfl,_,rfl,?_⟩;show if decide (V.int ((za.length:Nat):Int)=V.int ((m:Int)+1))=true then _ else _;rw[ZY d1];refine⟨_,rfl,b,zb,rfl,S _ _ ezb,_,rfl,_,_,rfl,rfl,rfl,?_⟩;show y D'=_/\y t=_/\replicate k (V.bl true)++[V.bl (decide (V.int ((zb.length:Nat):Int)=V.int ((m:Int)+1)))]=_/\zO g (upd y D' _)/\_;rw[d2];exact⟨bg,t5,List.replicate_succ'.symm,λc d e=>by
     rw[bR λz=>by rw[z,hD]at e;cases e];exact S _ _ e,bY⟩
   .rintro p y ⟨rfl,S,bg⟩ _;refine⟨D',replicate G.length true,rfl,by rw[List.map_replicate];exact bg,?_⟩;have e:(replicate G.length true).all id:=List.all_eq_true.mpr λx hx=>(XV.mp hx).2;rw[e];exact q y λb d n e=>S _ _ (R b d n e)
def yF{f:xw}{c:xz}(o:Shr s)(hd:DSk m 4 f)(j:dL m f)(d:sI f c)(B:eI s c N){u:xi}(h:rG s c M t u):mn s m f t u:=by
 have l:c.length=m:=by rw[d.len,hd.len]
 refine⟨Nat.pos_of_ne_zero λz=>h.ne (List.length_eq_zero_iff.mp z),Y3 (h.told.len B) B.pls,h.told.hd,λp r=>?_,λk p q w v=>?_,λp e=>Hr hd d (h.last p e)⟩
 .obtain⟨i,g,_⟩:=h.told.ok p r;exact⟨agJ d i,by rw[g.1,l],(ael o hd j d i g).b wP,λk x=>by rw[g.2 k wE,Se hd d (by rw[i.len];lia)]⟩
 .obtain⟨a,n⟩:=h.told.up k p q w v;exact⟨Hr hd d a,n⟩
def ac7{d b c:Nat}(hd:d<h.length)(a:BR h d b)(k:BR h d c):b=c:=by
 have f:∀{i:Nat},i<h.length->h.getD i 0∈h:=λj=>by
  rw[au,aj j];exact aU j
 rcases a with⟨a,rfl⟩|⟨r,l,q,p⟩<;>rcases k with⟨k,rfl⟩|⟨o,g,n,m⟩
 .rfl
 .exact absurd (a _ (f g)) (Rat.not_le.mpr o)
 .exact absurd (k _ (f l)) (Rat.not_le.mpr r)
 .have e:=Rat.le_antisymm (n _ (f l)) (q _ (f g));rcases Nat.lt_trichotomy b c with z|z|z
  .exact absurd e (m b z)
  .exact z
  .exact absurd e.symm (p c z)
def Qx{f:xz}{a q:zI}(m:cf f t)(h:gw s f p t a)(k:gw s f p t q):a=q:=by
 refine TH λi=>?_;by_cases g:i<t.length
 .have lo:i<f.length:=by rwa[<- m.len]
  have e:=aj g;have j:=aj lo;have n:=m.ok i _ _ e j;cases c:t[i]with
  |none=>rw[c]at e;rw[h.none i e,k.none i e]
  |some d =>
   rw[c]at e n;obtain⟨b,r,o⟩:=h.some i d _ e j;obtain⟨v,l,u⟩:=k.some i d _ e j;have ld:d<f[i].length:=of_decide_eq_true n;rw[r,l,ac7 (by rwa[ak]) o u]
 .rw[aM (by rw[h.len];exact VX g),aM (by rw[k.len];exact VX g)]
def XD{b:xz}{A:Nat}{u j:xi}(B:eI s b N)(h:rG s b M t u)(k:rG s b A t j):∀(i:Nat)p q,u[i]?=some p->j[i]?=some q->p=q:=by
 have f:∀(p q:dq),p∈u->q∈j->p.1=q.1->p=q:=λp q x w e=>by
  obtain⟨z,l,_⟩:=h.told.ok p x;obtain⟨C,g,_⟩:=k.told.ok q w;refine Prod.ext e (TH λi=>?_);rw[<- e]at g;by_cases m:i<b.length
  .have a:=Ip B.s0 B.s1 B.sh z l g i m;rw[aj (show i<p.2.length by rwa[l.1]),aj (show i<q.2.length by rwa[g.1])];rw[au,au,aj (show i<p.2.length by rwa[l.1]),aj (show i<q.2.length by rwa[g.1])]at a;exact ZH some a
  .rw[aM (by rw[l.1];exact VX m),aM (by rw[g.1];exact VX m)]
 intro i
 induction i with
 |zero=>exact λp q d c=>f p q (aC d) (aC c) ((h.told.hd p d).trans (k.told.hd q c).symm)
 |succ i r =>
  intro p q d c;have n:=aj (show i<u.length by have:=(ao.mp d).1;exact UK (X2 _) this);have o:=aj (show i<j.length by have:=(ao.mp c).1;exact UK (X2 _) this);have y:=r _ _ n o;obtain⟨a,_⟩:=h.told.up i _ _ n d;obtain⟨v,_⟩:=k.told.up i _ _ o c;rw[<- y]at v;exact f p q (aC d) (aC c) (Qx (h.told.ok _ (aC n)).1 a v)
def CW{b:xz}{f:Nat}{u c:xi}(B:eI s b N)(h:rG s b M t u)(k:rG s b f t c){p q:dq}(d:u.getLast?=some p)(e:c.getLast?=some q):p=q:=by
 have g:∀{M f:Nat}{u c:xi}{p:dq},rG s b M t u->rG s b f t c->u.getLast?=some p->¬u.length<c.length:=λ{M f u c p}h k d l=>by
  rw[TU]at d;have o:0<u.length:=Nat.pos_of_ne_zero λz=>h.ne (List.length_eq_zero_iff.mp z);have i:=aj (show u.length-1<c.length by exact Nat.sub_lt_of_lt l);have m:=aj (show u.length-1+1<c.length by omega);have j:=XD B h k _ _ _ d i;obtain⟨a,n⟩:=k.told.up _ _ _ i m;rw[<- j]at a n;exact n (Qx (h.told.ok p (aC d)).1 a (h.last p (by rwa[TU])))
 have l:u.length=c.length:=Nat.le_antisymm (Nat.not_lt.mp (g k h e)) (Nat.not_lt.mp (g h k d));rw[TU]at d e;rw[<- l]at e;exact XD B h k _ p q d e
abbrev Q4:=Addr×Ζ×Ψ×xi
structure DQ(K:Frag)(H:Hp)(q:Q4):Prop where
 at_:H q.1=some (.lst q.2.1)
 ro:Ros K (L2.hd (· ∈ q.2.2.1) H) H q.2.1 (q.2.2.2.map cx) q.2.2.1
def DQ.mv{K:Frag}{H':Hp}{q:Q4}{A:Ψ}(f:∀a∈A,∃l,H a=some (.lst l))(e:∀b u,b∉A->H b=some u->H' b=some u)(d:∀a∈A,a∉q.2.2.1/\a≠q.1)(h:DQ K H q):DQ K H' q :=
 ⟨e _ _ (λz=>(d _ z).2 rfl) h.at_,NZ (λb u c z=>by
  obtain⟨n,z⟩:=cQ z;rw[cN n];exact e b u (λy=>by obtain⟨l,q⟩:=f b y;rw[q]at z;cases z;exact c _ rfl) z) (λa g u z=>e a u (λy=>(d a y).1 g) z) h.ro⟩
def DQ.same{K:Frag}{a:Hp}{q:Q4}(S:zO H a)(h:DQ K H q):DQ K a q:=h.mv (A:=[]) (λ_ z=>(nomatch z)) (λb u _=>S b u) λ_ z=>(nomatch z)
def E8{K:Frag}{S:Addr->Prop}{t:Addr}{A:Ψ}{u:xi}(e:H t=some (.lst G))(d:∀a∈A,S a)(r:Ros K (L2.hd S H) H G (u.map cx) A):DQ K H (t,G,A,u) :=
 ⟨e,NZ (λb c _ z=>by obtain⟨n,z⟩:=cQ z;rw[cN λy=>n (d b y)];exact z) (λ_ _ _ e=>e) r⟩
structure JL(L:List Q4):Prop where
 nd:∀q∈L,q.2.2.1.Nodup/\q.1∉q.2.2.1
 dis:∀(i j:Nat)q r,L[i]?=some q->L[j]?=some r->i≠j->∀a∈q.2.2.1,a∉r.2.2.1/\a≠r.1
def iq(L:List Q4):Ψ:=(L.map λq=>q.1::q.2.2.1).flatten
theorem Vx:∀{L:List Q4},(iq L).Nodup->JL L
 |[],_=>⟨λ_ z=>(nomatch z),λ_ _ _ _ e=>(nomatch e)⟩
 |q::L,h=>by
  have h:((q.1::q.2.2.1)++iq L).Nodup:=h;obtain⟨u,t,f⟩:=List.nodup_append.mp h;obtain⟨p,o⟩:=List.nodup_cons.mp u;have n:=Vx t;have g:∀{j:Nat}{r:Q4},L[j]?=some r->∀a,a∈r.1::r.2.2.1->a∈iq L:=λe a b=>List.mem_flatten.mpr ⟨_,YV.mpr ⟨_,aC e,rfl⟩,b⟩;refine⟨λr k=>?_,λi j r s d c l a b=>?_⟩
  .rcases YU.mp k with rfl|k
   .exact⟨o,p⟩
   .exact n.nd r k
  .cases i with
   |zero=>cases j with
    |zero=>exact absurd rfl l
    |succ j =>
     cases d;have c:L[j]?=some s:=c;exact⟨λz=>f a (aJ _ b) a (g c a (aJ _ z)) rfl,λz=>f a (aJ _ b) a (g c a (by rw[z];exact aO ..)) rfl⟩
   |succ i =>
    have d:L[i]?=some r:=d;cases j with
    |zero =>
     cases c;have m:=g d a (aJ _ b);exact⟨λz=>f a (aJ _ z) a m rfl,λz=>f q.1 (aO ..) a m z.symm⟩
    |succ j=>exact n.dis i j r s d c (λz=>l (ZH Nat.succ z)) a b
def _C{K:Frag}{L:List Q4}{m:Hp}{C g:Addr}(d:JL L)(F:∀(j:Nat)q,L[j]?=some q->DQ K m q)(U:∀q∈L,C∉q.2.2.1)(e3:m C=some (.lst (L.map λq=>V.ref q.1)))(H:m g=none)
 (E:∀(q:Q4)(f:Hp)(Q:VK),q∈L->DQ K f q->(∀b u,(∀r∈L,b∉r.2.2.1)->m b=some u->f b=some u)->(∀B,(∀b u,b∉q.2.2.1->f b=some u->B b=some u)->Q (.bl true) B)->te (some (.ref q.1)::S) f Q) :
  ∃J:Nat->Ζ->Hp->Prop,J 0 [] (upd m g (.lst [])) /\
   (∀k x p f,(L.map λq=>V.ref q.1)[k]?=some x->J k p f->p.length=k->f C=some (.lst (L.map λq=>V.ref q.1))->te (some x::S) f λy I=>I g=some (.lst p)/\I C=some (.lst (L.map λq=>V.ref q.1))/\J (k+1) (p++[y]) (upd I g (.lst (p++[y])))) /\
   ∀p f,J L.length p f->p=replicate L.length (.bl true)/\f g=some (.lst p)/\∀b u,(∀r∈L,b∉r.2.2.1)->m b=some u->f b=some u:=by
 have G:∀{b:Addr}{u:HO},m b=some u->b≠g:=λe z=>by rw[z,H]at e;cases e
 have s:∀{f:Hp}{q:Q4},DQ K f q->∀a∈q.2.2.1,∃l,f a=some (.lst l):=λh=>h.ro.isl;refine⟨λk p f=>p=replicate k (.bl true)/\f g=some (.lst p)/\(∀b u,(∀r∈L,b∉r.2.2.1)->m b=some u->f b=some u)/\∀(j:Nat)q,k<=j->L[j]?=some q->DQ K f q,⟨rfl,bY,λb u _ e=>(bR (G e)).trans e,λj q _ e=>(F j q e).same (zO.upd H)⟩,?_,λp f Y=>by obtain⟨a,b,c,_⟩:=Y;exact⟨a,b,c⟩⟩;rintro k x p f v ⟨rfl,O,i,rest⟩ _ T;rw[aq]at v;cases w:L[k]? with
 |none=>rw[w]at v;cases v
 |some q =>
  rw[w]at v;cases v;have o:=aC w;have M:=rest k q (aG _) w;have dD:∀r∈L,g∉r.2.2.1:=λr X z=>by
   obtain⟨j,Z⟩:=aV X;obtain⟨l,N⟩:=s (F j r Z) g z;rw[H]at N;cases N
  refine E q f _ o M i λB t=>⟨t _ _ (dD q o) O,t _ _ (U q o) T,List.replicate_succ'.symm,bY,λb u n e=>?_,λj r W D=>?_⟩
  .exact(bR (G e)).trans (t b u (n q o) (i b u n e))
  .have P:=(rest j r (aL (Xs _) W) D).mv (H':=B) (s M) t (d.dis k j q r w D wE);have R:r.1≠g:=G (F j r D).at_;exact P.mv (A:=[g]) (λa z=>by rw[YR.mp z];exact⟨_,t _ _ (dD q o) O⟩) (λb u n e=>(bR λz=>n (YR.mpr z)).trans e) λa z=>by
    rw[YR.mp z];exact⟨dD r (aC D),R.symm⟩
def acC:EqD (λt:zI=>L2.T.lst (t.map dT)) (λt=>PyData.list (t.map dD)):=⟨λt=>ZH L2.T.lst (Ep rE.of t),λt=>by unfold PyData.canLay0;exact zf rE.lay t,λt=>by
 unfold PyData.depth;have:=Dm (g:=dD) (n:=0) (λx=>by cases x<;>exact aG 0) t;lia,λx y=>by
 unfold PyData.eqv;exact Gh rE.eqv x y⟩
def ZR(u:xi):Mv (K5 u):=λK F a H x A k r=>by
 cases r with
 |lst e r=>exact .lst e (NZ k (λ_ _ _ e=>e) r)
abbrev iT(p:zI):L2.T:=.lst (p.map dT)
def mB(D:be)(l:xo)(s:Rat)(i:xw)(b:Φ)(a:xz)(u:List zI)(f e h:OT)(c:Int)(t d g:OT):xy:=[.fz (fq l),.fz (aa s),.fz (oY i),.fz (cK D s b a),.fz (.lst (u.map iT)),f,e,h,.fz (.int c),t,d,g]
def oW(D:be)(l:xo)(s:Rat)(n:xw)(g:Φ)(a:xz)(f e d:zI)(j k m:xi)(b:dq)(c:Int)(i h:OT):xy:=mB D l s n g a [f,e,d] i (.ow (.lst ([j,k,m].map K5))) (.ow (cx b)) c .und h .und
def _a{q:Bool->Prop}(e:slot o i=.l2 L)(h:c (o.set i (.fz (.lst (L.map L2.T.lst)))) q):Jb i c o q:=by
 unfold Jb;rwa[e]
def Sj{a b k:RS}(e:slot o i=.l2 L)(h:c (o.set i (.fz (.lst (L.map L2.T.lst)))) λx=>sw x (a { E with nx:=k E } o) (b { E with nx:=k E } o)):eE (i4 (Jb i c) a b) k E o:=_a (q:=λx=>sw x (a { E with nx:=k E } o) (b { E with nx:=k E } o)) e h
def eq_if{t u:L2.T}{a:Bool}{q:Bool->Prop}(d:slot o i=.fz t)(c:slot o j=.fz u)(h:gEq a t u λx=>match frz x with|.bl b=>q b|_=>False):rB (eP (gEq a) (Q5 i) (Q5 j)) o q:=by
 show Q5 i o λx=>Q5 j o λy=>gEq a (frz x) (frz y) λx=>match frz x with|.bl b=>q b|_=>False
 unfold Q5;rw[d];show match slot o j with|.fz e=>_|_=>_
 rwa[c]
theorem YK{K:Frag}{F H:Hp} : ∀{G:Ζ}{v:wv}{A:Ψ}{k:Nat}{w:OW},Ros K F H G v A->v[k]?=some w->∃x B,G[k]?=some x/\Ro K F H x w B/\B.Sublist A
 |_,_,_,_,_,.nil,e=>by cases e
 |_,_,_,0,_,.cons a _,e=>by cases e;exact⟨_,_,rfl,a,List.sublist_append_left ..⟩
 |_,_,_,k+1,_,.cons _ t,e=>by
  obtain⟨x,B,b,r,s⟩:=YK (k:=k) t (by simpa using e);exact⟨x,B,by simpa using b,r,s.trans (List.sublist_append_right ..)⟩
def ahF{a b k:RS}{w:OW}{t:L2.T}(e:slot o i=.ow w)(f:ef w=t)(h:c (o.set i (.fz t)) λx=>sw (!x) (a { E with nx:=k E } o) (b { E with nx:=k E } o)):eE (i4 (nX (Jb i c)) a b) k E o:=by
 show Jb i c o λx=>sw (!x) (a { E with nx:=k E } o) (b { E with nx:=k E } o);unfold Jb;rw[e];subst f;exact h
def agy{a b:TS}{D:Ends}(h:te S H λx d=>X_ [x] d λy c=>∃k,nj y=some k/\if(!k)=true then a D S c else b D S c):ui (yd (Cf (hT X_ (KZ te VR)))) a b D S H:=h
def G2:ST:=λa q=>∃l:xo,a=[fq l]/\l.length<=63/\q (.fz (.bl true))
def _X{a k:RS}{w:OW}{t:L2.T}(e:slot o i=.ow w)(d:ef w=t)(b:k E o)(h:∀q:Bool->Prop,q true->c (o.set i (.fz t)) q):eE (i4 (nX (Jb i c)) a EI) k E o:=ahF e d (h _ b)
structure Fc(s:Rat)(m N:Nat)(ae:xw)(nm:Φ)(off:xz)(p0 p1 p2:zI):Prop where
 hs:Shr s
 hd:DSk m 4 ae
 sm:dL m ae
 h:GK nm off
 ho:sI ae off
 B:eI s off N
 a0:PlD ae p0
 a1:PlD ae p1
 a2:PlD ae p2
 f2:p2=rW off
structure Fm(s:Rat)(M:Nat)(off:xz)(p0 p1 p2:zI)(dS dQ c6:xi)(pb:dq):Prop where
 m0:rG s off M p0 dS
 m1:rG s off M p1 dQ
 m2:rG s off M p2 c6
 mb:∃kc,rG s off M (rW off) kc/\kc.getLast?=some pb
def E9{f:xw}{a:xz}(d:sI f a):a.map List.length=f.map List.length:=by
 refine JP (by rw[ak,ak,d.len]) λk c b=>?_;rw[ak]at c b;rw[UU,UU];obtain⟨h,g,e⟩:=d.at_ k _ _ (aj b) (aj c);rw[e,ak,VU,g,US]
def Po{c:xw}{a:xz}(f:sI c a):(c.map λb=>if 0<b.length then some 0 else none)=rW a/\PlD c (c.map λb=>if 0<b.length then some 0 else none):=by
 refine⟨?_,ak ..,λk d b e i=>?_⟩
 .have g:rW a=(a.map List.length).map (λn=>if 0<n then some 0 else none):=by rw[WG];rfl
  rw[g,E9 f,WG]
  rfl
 .rw[aq,i]at e;cases e;show Aa (if 0<b.length then some 0 else none) b.length=true;split
  .rename_i h;exact Zs h
  .rename_i h;exact Zs wE
section
variable{a b c d e f g x y:RS}{E:DT}{o:xy}
def kb(a:xy)(h:∀Y:xy->Prop,Y a->eE x (λ_=>Y) E o)(k:y E a):eE x y E o:=h (y E) k
def Ll(J:xy->Prop)(h:∀Y:xy->Prop,(∀e,J e->Y e)->eE a (eE b (eE c (eE d (eE x (λ_=>Y))))) E o)(k:∀e,J e->y E e):eE a (eE b (eE c (eE d (eE x y)))) E o:=h (y E) k
def Lc(J:xy->Prop)(h:∀Y:xy->Prop,(∀g,J g->Y g)->eE a (eE b (eE c (eE d (eE e (eE f (eE x (λ_=>Y))))))) E o)(k:∀g,J g->y E g):eE a (eE b (eE c (eE d (eE e (eE f (eE x y)))))) E o:=h (y E) k
end
def TL(T:Tx D)(F:Fu Yz Mq f U):FT 13 f U Sx G2:=by
 refine F.okU HW λag A outer s H E hr nd=>?_;refine⟨_,(bF (bT 1 (bI (adq T) (bx (bI (eZ T) (bx vx (bx bA bC))) bC)))
  (bF (bT 2 (bI (afX T) (bx vx bC)))
  (bF (bT 3 (bI (ah0 T) (bx (bI (eZ T) (bx vx (bx bA bC))) (bx vw (bx vy bC)))))
  (bF (bT 4 (dJ (bx (bI (afc T) (bx vx (bx vy bC))) (bx (bI (Hl T) (bx (bI (eZ T) (bx vx (bx bA bC))) (bx vy bC))) bC))))
  (bF (bT 4 (bL cW vt (dJ (bx (dZ (bH Mq) Ws Ws ["_law_doors_here"] (cL vy) (fZ (i:=0)) cI (bJ (dJ (bx eY (bx bA bC))) (jU G1 T.Qk boot_int (bx (mq Ir (bN cG T.cX WJ (bx vx bC)) bA) bC)))) bC))))
  (bF (HR (bH Mq) Ws ["_law_script","_law_share_here","_law_rooms_here","_law_hall_here","_law_plans","_law_handed","_law_held","_law_best_here","_law_cell_here","?_law_plan","_law_last","_law_found"] ["_law_plan"] (cL vt) (fZ (i:=0)) cI (jU Bk T.lG boot_list (bx vx bC)) (gJ (i:=5) HW.nd rfl (Or.inl rfl)))
  (bF (iY 6 (_R (Tc 5 (bI (UW T) (bx vc (bx (bJ vn bA) bC)))) (Tc 5 (bI (UW T) (bx vc (bx (bJ vn bA) bC))))))
  (bF (iY 7 (bI (WK T) (bx vc bC)))
  (bF (bT 8 (bL cW (bL RZ (bI (eZ T) (bx vx (bx bA bC))) bA) (bI (eZ T) (bx vx (bx bA bC)))))
  (bF (cB (dg (cJ (bI (R4 T) (bx vc (bx (qv 8) (bx (bJ vt bA) (bx vy bC)))))))
  (bG (bM fj))
  bQ)
  (bF (_T 6 (Tc 5 (bI (UW T) (bx vc (bx (bJ vn bA) bC)))))
  (bF (cB (KC 5 (bW (jZ hr.units) vn vt))
  (bG (bM fj))
  bQ)
  (bF (kL (R9 PassesOwn.never rfl (Fv ((pv 5)).mono) (gJ (i:=9) HW.nd rfl (Or.inl rfl))
     (jc (gO (CV (pv 9) (cj iU dI)))
     (jj (gO (G' (pv 9)))))))
  (bF (kL (R9 PassesOwn.never rfl (FI (by rfl) T.Wg (cj (pv 6) (cj (pv 4) dI)).mono) (TY (n:=2) rfl (qP (gJ (i:=11) HW.nd rfl (Or.inl rfl)) (qP (gJ (i:=9) HW.nd rfl (Or.inl rfl)) Ka)))
     (jj (pP (qf (F7 (j9 (FA T) hr.md (by rfl) (cj (pv 11) (cj (pv 1) (cj (pv 2) (cj (pv 9) dI))))) (λ_=>rfl)))
      (jj (ud pa))
      RD))))
  (bF (kL (Ho (i:=10) HW.nd rfl (Or.inl rfl) (Vd (cj (A_ Lb (by rfl) T.lG boot_list (cj (oN Kc (oN rM (oN rM (pv 6) iU (λ_ _=>rfl)) (P_ GZ iU) (λ_ _=>rfl)) iU (λ_ _=>rfl)) dI)) (cj (A_ Lb (by rfl) T.lG boot_list (cj (oN Kc (oN rM (oN rM (pv 6) iU (λ_ _=>rfl)) (P_ GZ iU) (λ_ _=>rfl)) iU (λ_ _=>rfl)) dI)) dI)))))
  (bF (cB (dg (KC 7 (cJ (bI (G0 T) (bx (qv 7) (bx vw (bx vy (bx (qv 10) bC))))))))
  (bG (bM fj))
  bQ)
  (bF (kL (pP (qf (F7 (oH (Hu rfl) (by rfl) T.WX boot_all (cj (Xg (bH Mq) Ws ["_law_script","_law_share_here","_law_rooms_here","_law_hall_here","_law_plans","_law_handed","_law_held","_law_best_here","_law_cell_here","_law_plan","_law_last","?_law_found"] ["_law_found"] (Fv ((lg Jn (pv 6) (IE (cj (IE (cj (pv 7) dI)) dI)))).mono) (oD (i:=0)) Rn (j9 (ZD T) hr.md (by rfl) (cj (pv 0) (cj (oH Bh (by rfl) T.cX WJ (cj (pv 3) dI)) dI)))) dI)) (λ_=>rfl)))
     (jj (ud pa))
     RD))
  (bF (cB (dg (cJ (bI (FA T) (bx (bI (UW T) (bx vc (bx (jU Bk T.lG boot_list (bx (bJ vt bA) bC)) bC))) (bx vw (bx vy (bx (bJ vt bA) bC)))))))
  (bG (bM fj))
  bQ)
  (bG (bM (bI (G0 T) (bx (bI (WK T) (bx vc bC)) (bx vw (bx vy (bx (qv 10) bC))))))))))))))))))))))))),?_⟩
 rintro _ R ⟨l,rfl,nl,qR⟩;refine Ll (λo=>∃(s:Rat)(m N:Nat)(ae:xw)(nm:Φ)(off:xz)(p0 p1 p2:zI),o=[.fz (fq l),.fz (aa s),.fz (oY ae),.fz (cK D s nm off),.fz (.lst ([p0,p1,p2].map iT)),.und,.und,.und,.und,.und,.und,.und]/\Fc s m N ae nm off p0 p1 p2) (λY go=>?_) ?_
 .refine⟨l,2,rfl,by exact aL nl wP,_,rfl,λs hs=>⟨l,rfl,nl,λm ae x ex hd sm h2=>?_⟩⟩;dsimp only;rw[ex];have m8:m<=8:=by rcases sm with z|z;exact aL z wP;exact z.1
  refine⟨l,1,rfl,by exact aL nl wP,_,s,m,4,ae,rfl,hs,hd,by exact aL m8 wP,by decide,λnm off hn hok ho=>?_⟩;have dl:=hd.len;refine⟨l,ae,rfl,nl,by lia,h2,λp0 hp0=>⟨l,4,rfl,by exact aL nl wP,_,ae,rfl,by lia,λp1 hp1=>?_⟩⟩;have p2e:ae.map (λds=>dT (if 0<ds.length then some 0 else none))=(ae.map λds=>if 0<ds.length then some 0 else none).map dT:=by rw[WG];rfl
  refine⟨by rw[ak,dl];exact aL m8 wP,comp_map (λds=>L2.T.lst (ds.map bb)) (λds=>dT (if 0<ds.length then some 0 else none)) ae (λds _ N M hN=>?_) ?_⟩
  .by_cases c:0<ds.length
   .rw[ZY c]at hN;refine⟨.int 0,?_,hN⟩;rw[ZY (Zs (by rw[ak];lia))]
    rfl
   .rw[ZZ c]at hN;refine⟨.non,?_,hN⟩;rw[ZZ (by rw[Zp (by rw[ak];lia)];decide)]
    rfl
  rw[p2e];obtain⟨f2,hp2⟩:=Po ho;obtain⟨N,B⟩:=agt hs hd sm ho;exact⟨(show 3<=sizeLine by decide),go _ ⟨s,m,N,ae,nm,off,p0,p1,_,rfl,hs,hd,sm,hok,ho,B,hp0,hp1,hp2,f2⟩⟩
 rintro _ ⟨s,m,N,ae,nm,off,p0,p1,p2,rfl,F⟩;have hd:=F.hd;have ho:=F.ho;have dl:=hd.len;have m8:m<=8:=by rcases F.sm with z|z;exact aL z wP;exact z.1
 have rg:=VH ho F.a0;refine Lc (λo=>∃(c8:Int)(dS dQ c6:xi)(pb:dq),o=oW D l s ae nm off p0 p1 p2 dS dQ c6 pb c8 (.l2 ([p0,p1,p2].map λO=>O.map dT)) .und/\Fm s ((2*off.length*N)^off.length) off p0 p1 p2 dS dQ c6 pb) (λY go=>?_) ?_
 .refine⟨(show 3<=sizeLine by decide),Hy (λO:zI=>L2.T.lst (O.map dT)) (λO=>O.map dT) [p0,p1,p2] (λO _ N M hN=>?_) ?_⟩
  .exact hN
  dsimp only[map_cons,map_nil];have hq1:=VH ho F.a1;have hq2:=VH ho F.a2;refine⟨_,rfl,s,nm,off,p0,N,rfl,F.h,rg,F.B,λdS hm0=>⟨ZR dS,_,rfl,s,nm,off,p1,N,rfl,F.h,hq1,F.B,λdQ hm1=>⟨ZR dQ,s,nm,off,N,rfl,F.h,F.B,λkc pb km ky=>?_⟩⟩⟩;refine⟨l,3,rfl,by exact aL nl wP,.inr wP,l,4,rfl,by exact aL nl wP,?_⟩;refine⟨_,rfl,s,nm,off,_,p0,ae,m,4,rfl,F.h,hd,by exact aL m8 wP,by decide,E9 ho,rg,?_⟩;refine⟨(show 2<sizeLine by decide),_,rfl,s,nm,off,p2,N,rfl,F.h,hq2,F.B,λc6 kn=>⟨ZR c6,?_⟩⟩;dsimp only[hB];generalize(l.getD 3 0*69621+l.getD 4 0)=c8;refine Sj rfl ?_;refine eq_if (t:=.lst ([p0,p1,p2].map λt=>L2.T.lst (t.map dT))) (u:=.lst ([p0,p1,p2].map λt=>L2.T.lst (t.map dT))) rfl rfl ?_;refine acC.gEq (neg:=true) (a:=[p0,p1,p2]) (c:=[p0,p1,p2]) ?_;rw[Zs rfl];refine cg rfl ?_;exact go _ ⟨_,dS,dQ,c6,pb,rfl,hm0,hm1,kn,kc,km,ky⟩
 rintro _ ⟨c8,dS,dQ,c6,pb,rfl,G⟩;refine kb (oW D l s ae nm off p0 p1 p2 dS dQ c6 pb c8 .und .und) (λY go=>?_) ?_
 .intro Z H1 S Dn h X;obtain⟨a,bs,e5,o5,nd,ha,ln,hb⟩:=h.l2 (i:=5) (tss:=[p0,p1,p2].map λO=>O.map dT) rfl;have l12:S.length=12:=h.len.symm;have an:a∉bs:=(List.nodup_cons.mp nd).1;refine Mg ⟨_,e5,a,bs.map V.ref,rfl,ha,λk σ' H'=>σ'.length=S.length/\(∀i,i≠9->σ'[i]?=S[i]?)/\(∀b d,b∉Z 5->H1 b=some d->H' b=some d)/\∀(j:Nat)b,k<=j->bs[j]?=some b->H' b=H1 b,⟨rfl,λ_ _=>rfl,λ_ _ _ e=>e,λ_ _ _ _=>rfl⟩,?_,?_⟩
  .rintro k x σ' H' ex ⟨sl,se,keep,rest⟩ fF;rw[aq]at ex;cases eb:bs[k]? with
   |none=>rw[eb]at ex;cases ex
   |some b =>
    rw[eb]at ex;cases ex;have kl:k<3:=by have:=(ao.mp eb).1;rw[ln]at this;exact this
    obtain⟨O,ep,hpd⟩ : ∃O,[p0,p1,p2][k]?=some O/\PlD ae O:=by
     match k,kl with
     |0,_=>exact⟨p0,rfl,F.a0⟩
     |1,_=>exact⟨p1,rfl,F.a1⟩
     |2,_=>exact⟨p2,rfl,F.a2⟩
    obtain⟨p,sP,ry⟩:=hb k b (O.map dT) eb (by rw[aq,ep];rfl);have cr:H' b=some (.lst p):=(rest k b (aG _) eb).trans sP;have yl:p.length=m:=by rw[ry.len,ak,hpd.len,dl]
    have g9:(σ'.set 9 (some (V.ref b)))[9]?=some (some (.ref b)):=UZ wE;have bm:b∈bs:=aC eb;have ab:a≠b:=λz=>an (z ▸ bm);refine sV ⟨_,g9,b,p,rfl,cr,.int 0,p,rfl,cr,Y3 (show p.length<=8 by exact aL (WH yl) m8) wP,?_⟩;refine⟨_,g9,b,_,rfl,bY,?_⟩;refine⟨by rw[bR ab,bR ab];exact fF,by rw[VZ,sl],λi hi=>by rw[VT (λz=>hi z.symm),se i hi],λc d n e=>?_,λj c kj ec=>?_⟩
    .have cb:c≠b:=λz=>n (by rw[o5,z];exact aJ _ bm);rw[bR cb,bR cb];exact keep c d n e
    .have cb:c≠b:=λz=>by
      subst z;have:=qj (List.nodup_cons.mp nd).2 ec eb;lia
     rw[bR cb,bR cb];exact rest j c (aL (Xs _) kj) ec
  .rintro σ' H' ⟨sl,se,keep,_⟩ _;obtain⟨h',W⟩:=h.free (gA (i:=5) rfl nofun) keep;exact X.nx _ H' σ' _ go W (h'.vars (by rw[sl]) λi x e n=>se i λz=>n (by subst z;exact(Option.some.inj e).symm))
 refine kb (oW D l s ae nm off p0 p1 p2 dS dQ c6 pb c8 .und .und) (λY go=>?_) ?_
 .intro Z H2 S Dn h X;obtain⟨u6,e6,ic,r6⟩:=h.ow (i:=6) (w:=.lst ([dS,dQ,c6].map K5)) rfl;obtain⟨u4,e4,r4⟩:=h.get (i:=4) (t:=.lst ([p0,p1,p2].map iT)) rfl;obtain⟨u1,e1,r1⟩:=h.get (i:=1) (t:=aa s) rfl;obtain⟨u2,e2,r2⟩:=h.get (i:=2) (t:=oY ae) rfl;obtain⟨a4,xs4,rfl,h4,r4⟩:=r4.lstI;have l12:S.length=12:=h.len.symm;generalize Z 6=A0 at ic r6;cases r6 with
  |@lst a6 xs6 _ A6 ea6 r6 =>
   refine abO ⟨_,e6,_,e4,a6,a4,xs6,xs4,rfl,ea6,(cQ h4).2,by rw[r6.len,r4.len];rfl,λ_ σ' H'=>σ'.length=S.length/\(∀i,i∉[9,11]->σ'[i]?=S[i]?)/\zO H2 H',⟨rfl,λ_ _=>rfl,.refl _⟩,?_,?_⟩
   .rintro k x y σ' H' I ex ey ⟨sl,se,mw⟩ fF cr ht;have kl:k<3:=by have:=(ao.mp ex).1;rw[r6.len]at this;exact this
    obtain⟨O,qs,ep,eq,hpd,hm⟩ : ∃(O:zI)(qs:xi),[p0,p1,p2][k]?=some O/\[dS,dQ,c6][k]?=some qs/\PlD ae O/\mn s m ae O qs:=by
     match k,kl with
     |0,_=>exact⟨p0,dS,rfl,rfl,F.a0,yF F.hs hd F.sm ho F.B G.m0⟩
     |1,_=>exact⟨p1,dQ,rfl,rfl,F.a1,yF F.hs hd F.sm ho F.B G.m1⟩
     |2,_=>exact⟨p2,c6,rfl,rfl,F.a2,yF F.hs hd F.sm ho F.B G.m2⟩
    obtain⟨x',C,tT,rx,_⟩:=YK (k:=k) (w:=K5 qs) r6 (by rw[aq,eq];rfl);rw[ex]at tT;cases tT;obtain⟨y',l7,ry⟩:=r4.at_ (i:=k) (t:=iT O) (by rw[aq,ep];rfl);rw[ey]at l7;cases l7;have S2:zO H2 (upd H' I (.tup [x,y])):=mw.trans (zO.upd ht);have S3:zO (L2.hd (Ow Z) H2) (upd H' I (.tup [x,y])):=dh.trans S2;have rx:=(Ro.frz dh (λ_ _=>rfl) rx).same S2;rw[IU]at rx;have g:∀i,i∉[9,11]->((σ'.set 11 (some x)).set 9 (some y))[i]?=S[i]?:=λi hi=>by rw[VT (λz=>hi (by rw[<- z];decide)),VT (λz=>hi (by rw[<- z];decide)),se i hi]
    have g11:((σ'.set 11 (some x)).set 9 (some y))[11]?=some (some x):=by rw[VT wP,UZ wE]
    have g9:((σ'.set 11 (some x)).set 9 (some y))[9]?=some (some y):=by rw[UZ (by rw[VZ];lia)]
    refine⟨I,_,rfl,bY,rfl,_,_,rfl,_,_,rfl,rfl,_,g11,_,(g 1 wP).trans e1,_,(g 2 wP).trans e2,_,g9,_,λx=>x=.fz (.bl true),.cons rx (.cons (r1.same S3) (.cons (r2.same S3) (.cons (ry.same S3) .nil))),⟨s,m,4,ae,O,qs,rfl,F.hs,hd,by exact aL m8 wP,by decide,hm,rfl⟩,?_⟩;rintro H3 v _ rfl S4 ⟨_,_,_,d,eu,ru⟩;cases eu;cases ru;exact⟨true,rfl,(S4 _ _ (zO.upd ht _ _ fF)),(S4 _ _ (zO.upd ht _ _ cr)),by rw[VZ,VZ,sl],g,S2.trans S4⟩
   .rintro σ' H' ⟨sl,se,mw⟩ _ _;have h':=h.same mw;exact X.nx _ H' σ' _ go (bZ mw) (h'.vars (by rw[sl]) λi x e n=>se i λz=>n (by
     rcases YU.mp z with rfl|z
     .exact(Option.some.inj e).symm
     .cases YR.mp z;exact(Option.some.inj e).symm))
 refine kb (oW D l s ae nm off p0 p1 p2 dS dQ c6 pb c8 .und (.fz (dc pb))) (λY go=>?_) ?_
 .intro Z H2 S Dn h X;obtain⟨u6,e6,ic,r6⟩:=h.ow (i:=6) (w:=.lst ([dS,dQ,c6].map K5)) rfl;cases el:c6.getLast? with
  |none=>exact absurd (List.getLast?_eq_none_iff.mp el) G.m2.ne
  |some pz =>
   obtain⟨kc,km,ky⟩:=G.mb;obtain rfl:pb=pz:=CW F.B km (F.f2 ▸ G.m2) ky el;generalize Z 6=A0 at ic r6;cases r6 with
   |@lst a6 xs6 _ A6 ea6 r6 =>
    obtain⟨x2,C,nv,rx2,_⟩:=YK (k:=2) (w:=K5 c6) r6 rfl;cases rx2 with
    |@lst b2 ys2 _ C2 eb2 rr =>
     have yl:ys2.length=c6.length:=by rw[rr.len,ak]
     obtain⟨z,G,ez,rz,_⟩:=RG (k:=c6.length-1) rr (by rwa[<- TU]);obtain⟨q,a,b,us,vs,rfl,rfl,eq,e1,e2,q1,q2⟩:=Xv rz;have eq:=dh _ _ eq;refine⟨_,e6,a6,xs6,2,.ref b2,rfl,rfl,ea6,HK (j:=2) nv,1,rfl,b2,ys2,-1,.ref q,rfl,rfl,eb2,Gj (by rwa[yl]),q,_,0,.ref a,rfl,rfl,eq,rfl,?_⟩;refine⟨a,us,rfl,e1,λc1 H3 S3 f3 ec1=>⟨_,e6,a6,xs6,2,.ref b2,rfl,rfl,S3 _ _ ea6,HK (j:=2) nv,1,rfl,b2,ys2,-1,.ref q,rfl,rfl,S3 _ _ eb2,Gj (by rwa[yl]),q,_,1,.ref b,rfl,rfl,S3 _ _ eq,rfl,b,vs,rfl,S3 _ _ e2,λc2 H4 S4 f4 ua=>⟨(show 2<=sizeLine by decide),λp5 H5 S5 f5 ep5=>?_⟩⟩⟩;have S35:=S3.trans (S4.trans S5);have no:∀{x:Addr},H2 x=none->¬Ow Z x:=λe z=>(h.sole z).ne e;obtain⟨am,h',W⟩:=h.put S35 (i:=10) (NR.fz (v:=.ref p5) (t:=dc pb) (.tup (.inl (.of (by rwa[cN (no (S3.free (S4.free f5)))]))) (.cons (.lst (by rw[cN (no f3)];exact S5 _ _ (S4 _ _ ec1)) (pL q1)) (.cons (.lst (by rw[cN (no (S3.free f4))];exact S5 _ _ ua) (q2.same (bZ S35))) .nil)))) (show 10<12 by decide);exact X.nx am H5 _ _ go W h'
 obtain⟨kc,km,ky⟩:=G.mb;obtain⟨pm,el⟩ : ∃k,c6[k]?=some pb:=by
  cases el:c6.getLast? with
  |none=>exact absurd (List.getLast?_eq_none_iff.mp el) G.m2.ne
  |some pz =>
   obtain rfl:pb=pz:=CW F.B km (F.f2 ▸ G.m2) ky el;exact aV (List.mem_of_getLast? el)
 obtain⟨k1,k2,k3,k4⟩:=(yF F.hs hd F.sm ho F.B G.m2).ok pb (aC el);refine _X (i:=7) rfl (YS pb) ?_ λq hq=>⟨s,m,4,ae,pb,rfl,F.hs,hd,by exact aL m8 wP,k1,k2,k3,k4,hq⟩;refine kb (mB D l s ae nm off [p0,p1,p2] .und .und .und c8 .und (.fz (dc pb)) .und) (λY go=>?_) ?_
 .intro Z H6 S Dn h X;have hL:∀H',(∀b d,b∉Z 6->b∉Z 7->H6 b=some d->H' b=some d)->Dn.nx S H':=λH' keep=>by
   obtain⟨h1,S1⟩:=h.free (H':=λb=>open Classical in if b∈Z 6 then H' b else H6 b) (gA (i:=6) rfl nofun) λb d n e=>by
    show(if b∈Z 6 then H' b else H6 b)=_;rw[ZZ n];exact e
   obtain⟨h2,S2⟩:=h1.free (H':=H') (gA (i:=7) (x:=.ow (cx pb)) rfl nofun) λb d n e=>by
    have n:b∉Z 7:=n;have e:(if b∈Z 6 then H' b else H6 b)=some d:=e;by_cases c:b∈Z 6
    .rw[ZY c]at e;exact e
    .rw[ZZ c]at e;exact keep b d c n e
   exact X.nx _ H' S _ go (S1.trans S2) h2
  obtain⟨u6,e6,ic,r6⟩:=h.ow (i:=6) (w:=.lst ([dS,dQ,c6].map K5)) rfl;obtain⟨u7,e7,nd7,r7⟩:=h.ow (i:=7) (w:=cx pb) rfl;obtain⟨u2,e2,r2⟩:=h.get (i:=2) (t:=oY ae) rfl;obtain⟨a2,xs2,rfl,h2,r2⟩:=r2.lstI;have l2:xs2.length=m:=by rw[r2.len,ak,dl]
  have d67:∀a,a∈Z 6->a∈Z 7->False:=λa x y=>absurd (h.dis 6 7 a x y) wP;have n2:=(cQ h2).1;have h2:=(cQ h2).2;have is7:∀a∈Z 7,∃P,H6 a=some (.lst P):=r7.isl;generalize eA:Z 6=A0 at ic r6 d67 hL
  replace r6:Ro K (L2.hd (Ow Z) H6) H6 u6 (.lst [.lst (dS.map cx),.lst (dQ.map cx),.lst (c6.map cx)]) A0:=r6
  have is6:∀a∈A0,∃P,H6 a=some (.lst P):=r6.isl;cases r6 with
  |@lst a6 xs6 _ A6 ea6 r6=>cases r6 with
  |@cons x0 _ _ _ _ _ q0 r6=>cases r6 with
  |@cons x1 _ _ _ _ _ q1 r6=>cases r6 with
  |@cons x2 _ _ _ _ _ q2 r6 =>
   cases r6;cases q0 with
   |@lst t0 ys0 _ A0 et0 q0=>cases q1 with
   |@lst t1 ys1 _ A1 et1 q1=>cases q2 with
   |@lst t2 ys2 _ A2 t5 q2 =>
    refine agy (Tz ⟨_,e6,_,e7,(show 1<=sizeLine by decide),λp1 H7 S7 f7 h7=>⟨(show 1<=sizeLine by decide),λp2 H8 S8 f8 h8=>⟨a6,p2,_,[.ref p1],rfl,rfl,S8 _ _ (S7 _ _ ea6),h8,(show 3+1<=sizeLine by decide),λp3 H9 S9 f9 h9=>⟨p3,_,rfl,h9,(show 4<=sizeLine by decide),λD' hD=>?_⟩⟩⟩⟩);have mh:=S7.trans (S8.trans S9);have ne:∀{a b:Addr}{d:HO}{G:Hp},G a=some d->G b=none->a≠b:=λx y z=>by rw[z,y]at x;cases x
    have c0:=yF F.hs hd F.sm ho F.B G.m0;have c1:=yF F.hs hd F.sm ho F.B G.m1;have c2:=yF F.hs hd F.sm ho F.B G.m2;obtain⟨LL,ku⟩ : ∃LL:List Q4,LL=[(t0,ys0,A0,dS),(t1,ys1,A1,dQ),(t2,ys2,A2,c6),(p1,[u7],Z 7,[pb])]:=⟨_,rfl⟩;have eL:iq LL=(t0::A0++(t1::A1++(t2::A2++[])))++(p1::Z 7):=by rw[ku];simp[iq,WV]
    obtain⟨n6,ic⟩:=List.nodup_cons.mp ic;have qi:∀a∈t0::A0++(t1::A1++(t2::A2++[])),∃P,H6 a=some (.lst P):=λa z=>is6 a (aJ _ z);have pj:(iq LL).Nodup:=by
     rw[eL];refine List.nodup_append.mpr ⟨ic,List.nodup_cons.mpr ⟨λz=>?_,nd7⟩,λa ha b hb z=>?_⟩
     .obtain⟨P,el⟩:=is7 p1 z;exact ne el f7 rfl
     .subst z;rcases YU.mp hb with rfl|hb
      .obtain⟨P,el⟩:=qi _ ha;exact ne el f7 rfl
      .exact d67 a (aJ _ ha) hb
    have qk:∀r∈LL,∀a∈r.2.2.1,a∈Z 6\/a∈Z 7:=λr hr a ha=>by
     rw[eA];rw[ku]at hr;simp only[YU,VQ,or_false]at hr;rcases hr with rfl|rfl|rfl|rfl
     .exact .inl (by simp[show a∈A0 from ha])
     .exact .inl (by simp[show a∈A1 from ha])
     .exact .inl (by simp[show a∈A2 from ha])
     .exact .inr ha
    have O6:∀a∈Z 6,Ow Z a:=λa z=>⟨6,z⟩;have fz:∀{I:Addr}{p:Ζ}{A:Ψ}{u:xi},H6 I=some (.lst p)->(∀a∈A,a∈Z 6)->Ros K (L2.hd (Ow Z) H6) H6 p (u.map cx) A->DQ K H9 (I,p,A,u):=λe hA r=>(E8 e (λa z=>O6 a (hA a z)) r).same mh;have q7:DQ K H9 (p1,[u7],Z 7,[pb]):=by
     have r7':=Ros.cons (r7.mv (bZ mh) λ_ _ _ e=>mh _ _ e) Ros.nil;rw[append_nil]at r7';exact E8 (S8.trans S9 _ _ h7) (λa z=>⟨7,z⟩) r7'
    have a0:∀a∈A0,a∈Z 6:=λa z=>by rw[eA];simp[z]
    have a1:∀a∈A1,a∈Z 6:=λa z=>by rw[eA];simp[z]
    have a2':∀a∈A2,a∈Z 6:=λa z=>by rw[eA];simp[z]
    have sz:∀{t:zI}{u:xi},mn s m ae t u->(∀O∈u,O.1.length=m/\O.2.length=m)/\u.length<2^24:=λc=>⟨λO hp=>⟨by rw[(c.ok O hp).1.len,dl],(c.ok O hp).2.1⟩,c.few⟩;have sq:∀r∈LL,(∀O∈r.2.2.2,O.1.length=m/\O.2.length=m)/\r.2.2.2.length<2^24:=λr hr=>by
     rw[ku]at hr;simp only[YU,VQ,or_false]at hr;rcases hr with rfl|rfl|rfl|rfl
     .exact sz c0
     .exact sz c1
     .exact sz c2
     .exact⟨λO hp=>by rw[YR.mp hp];exact⟨by rw[k1.len,dl],k2⟩,by show 1<_;decide⟩
    have ok4:∀(j:Nat)r,LL[j]?=some r->DQ K H9 r:=λj r e=>by
     rw[ku]at e
     match j,e with
     |0,e=>cases e;exact fz et0 a0 q0
     |1,e=>cases e;exact fz et1 a1 q1
     |2,e=>cases e;exact fz t5 a2' q2
     |3,e=>cases e;exact q7
    have isO:∀a,a∈Z 6\/a∈Z 7->∃P,H6 a=some (.lst P):=λa z=>z.elim (λz=>is6 a (eA ▸ z)) (is7 a);have n3:∀r∈LL,p3∉r.2.2.1:=λr hr z=>by
     obtain⟨P,el⟩:=isO _ (qk r hr _ z);exact ne (S8 _ _ (S7 _ _ el)) f9 rfl
    have h9:H9 p3=some (.lst (LL.map λq=>V.ref q.1)):=by rwa[ku]
    obtain⟨J,j0,st,fn⟩:=_C (K:=K) (S:=S) (te:=R0 (EA K) (KZ (WD 0) (KZ (hT px (KZ (WD 3) VR)) VR))) (Vx pj) ok4 n3 h9 hD λr Hc Q hr oc kp q=>⟨_,rfl,_,e2,a2,xs2,rfl,kp _ _ (λr hr z=>n2 ((qk r hr a2 z).elim (λz=>⟨6,z⟩) λz=>⟨7,z⟩)) (mh _ _ h2),r.1,r.2.2.2,m,r.2.2.1,r.2.1,by rw[l2],oc.at_,oc.ro,((Vx pj).nd r hr).1,((Vx pj).nd r hr).2,(sq r hr).1,by exact aL m8 wP,(sq r hr).2,q⟩;subst ku;refine⟨J,j0,st,λp Hc j _=>?_⟩;obtain⟨rfl,bg,keep⟩:=fn p Hc j;refine⟨D',replicate 4 true,rfl,bg,true,rfl,?_⟩;exact hL Hc λb d b6 b7 e=>keep b d (λr hr z=>(qk r hr b z).elim (λz=>b6 (eA ▸ z)) b7) (mh _ _ e)
 show eE _ _ _ (mB D l s ae nm off [p0,p1,p2] .und .und .und c8 .und (.fz (dc pb)) .und);refine⟨_,rfl,s,nm,off,p0,N,rfl,F.h,rg,F.B,λps3 hm3=>⟨_,rfl,s,m,4,ae,p0,ps3,?_,F.hs,hd,by exact aL m8 wP,by decide,yF F.hs hd F.sm ho F.B hm3,?_⟩⟩
 .show[ef (K5 ps3),aa s,oY ae,iT p0]=_;rw[IU]
 refine⟨s,nm,off,N,rfl,F.h,F.B,λps4 p4 hm4 el4=>?_⟩;have e4:p4=pb:=CW F.B hm4 km el4 ky;subst e4;refine⟨s,m,4,ae,p4,?_,F.hs,hd,by exact aL m8 wP,k1,k2,k3,k4,qR⟩;show[ef (cx p4),aa s,oY ae,dc p4]=_;rw[YS]
end
def _f{K:Frag}{b:Ζ}{Q:VK}{E:XK}(h:lu K b H Q E):fS K G2 b H Q E:=by
 obtain⟨a,l,rfl,c,d,_,f⟩:=h;refine⟨[fq l],λx=>x=.fz (.bl true),.cons (.scr c (GX l)) .nil,⟨l,rfl,d,rfl⟩,?_⟩;rintro g v _ rfl _ ⟨B,_,_,u,e,r⟩;cases e;cases r;exact f g
def law_fn{l:PySem.W.OpenLaw}{w:World}{K:Frag}{a:Str->Ω}(T0:∃D,Txt K a D)(base:Heap)(f:Addr)(U:FuncData)(F:Fun K Yz Yz Mq f U) :
  fX l.prog w K a base bc 13 f U Sx (lu K):=by
 obtain⟨D,T⟩:=T0
 letI:Bs:=⟨l.prog,w,K,a,base⟩
 exact(TL T F).imp λ_ _ _ _ h=>_f h
end K26
end
open PySem PySem.W PyProof.Rows L2
set_option maxRecDepth 100000 in
set_option maxHeartbeats 0 in
theorem PySem.Challenge.cw_chancehall_k26_mendings_holds : PySem.Challenge.rw_chancehall_k26_mendings.Holds := by
 w_on
 refine holds_law H26.wsd λa=>?_;refine holds_open (q:=H26.qv) (loose:=[]) (XP:=XL H26.qv []) (YP:=InK H26.KH) H26.left (InK.of H26.asK) InK.keeps H26.hX XL.keeps (by rfl) (by rfl) (by rfl) H26.hR (by rfl) a (by decide +kernel) ⟨rfl,rfl,rfl,rfl,rfl,by decide +kernel⟩ ?hw ?hc
 (case hw=>w_witness2)
 k_fill
 refine L2.aqp (l:=PySem.Challenge.rw_chancehall_k26_mendings) (k:=13) (x := "_law_script") rfl rfl ⟨rfl,by decide,by decide⟩ (λw h Y=>(show(H26.KH w.params).In h from Y)) ?F
 case F =>
  intro w c e h g G d;refine⟨K26.Mq,?_,λbase f b F=>K26.law_fn ?T base f b F⟩
  .exact a'
  case T =>
   refine⟨⟨31,118,455,476,495,514,531,616,135,136,438,445,473,492,511,528,573,580,601,613,115⟩,⟨f0,f0,f0,f0,f0,f0,f0,f0,f0,f0,by k_is,by k_is,LF,rS,rS,hW,gz,bz,bz,bz,bz,bz,bz,iS,hW,gz,bz,bz,bz,bz,bz,bz,iS,hW,gz,bz,bz,bz,bz,bz,bz,iS,hW,gz,bz,bz,bz,bz,bz,bz,iS,hW,gz,bz,bz,bz,bz,bz,bz,iS,hW,gz,gz,gz,bz,bz,bz,bz,bz,bz,LI,LH,LJ,by k_is,by k_is,bz,LG,rV,fv,fv,fv,rV,fv,fv,fv,fv,fv,fv,fv,fv,d3,d3,d3,d3,d3,d3,d3,d3,d3,d3,d3,d3,d3,d3,d3,a',a',a',a',a',a',a',a',a',a',a',a',a',a',a',a',a',a',a',a',a',a',a',a',a',a',a',a',a',a',a',a',a',a',a',a',a',a',a',a',a',a',a',a',a',a',a',a',a',a',a',a',a',a',a',a',a',a',a',a',a',a',a',a',a',a',a',a',a',a',a',a',a',a',a',a',a',a',a',a',a',a',a',a'⟩⟩
#print axioms PySem.Challenge.cw_chancehall_k26_mendings_holds
